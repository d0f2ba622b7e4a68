import PyProof.Rows.All
import Wide.All
import OpenK.AllK
import Wide.FinOn
import HandS.ForMost
import HandS.TupAny
import HandS.Style
import HandS.IsInst
import HandS.SortRule
import HandS.Flow
import KE.GoesMore
import HandS.SetKeys
import HandS.WordsExc
import HandS.ExcInit
import HandS.Zip
import HandS.SortInts
import KE.DataCmp
import KE.DataMinMax
import KE.SortData
import KE.DataEq
import HandS.SetTxt0
import HandS.Set
import HandS.SetFor
import HandS.Strs
import HandS.Iter
import HandS.Text
import HandS.Exc
import HandS.TryMany
import HandS.Flt
import HandS.ExcIs
import HandS.ExcField
import KE.KExcIs
import HandS.DictComp
import HandS.Conv
import HandS.Deep
import KE.KRevSl
import HandS.Wide
import PySem.Challenge.RW_chooseonce_k29_signing_of_a_way
set_option Elab.async false
set_option linter.all false
set_option maxRecDepth 100000
set_option maxHeartbeats 4000000
/-! A layer of plain data over the hand layer: values without addresses, a store of lists by address. -/
namespace PD
open PySem PySem.Spec PyProof.Rows L2

/-- a value without xs9 tuples' addresses -/
inductive D where
  | non | bl (b : Bool) | int (i : Int) | str (x : Str) | tup (ds : List D) | ref (a : Addr)
  /-- a list that is read only -/
  | rol (ds : List D)
  /-- dicts that are read only: keys, values -/
  | dic (ks : List Key) (ds : List D)
  | dicT (ks : List (List Key)) (ds : List D)
  /-- an instance that is read only: its class, the names of its fields, their values -/
  | obj (C : Addr) (fs : List Str) (ds : List D)
/-- what stands at an address: a list -/
inductive MO where
  | lst (ds : List D)
  /-- a dict with ints and texts for keys; one with tuples of them -/
  | dct (kvs : List (Key × D))
  | dcT (kvs : List (List Key × D))
  /-- an instance of the class at C, its fields -/
  | ins (C : Addr) (fs : List (Str × D))
  /-- a set of ints and texts: its members, how many -/
  | sset (P : Program) (w : World) (S : Key → Bool) (n : Nat)
  /-- any other thing, by what is true of it -/
  | oth (u : HO)
/-- a list that never changes -/
def RoL (K : PySem.W.Frag) (H : Hp) (a : Addr) (xs : List V) : Prop :=
  (∃ o, H a = some (.frz o (.lst xs))) ∨ ∃ (o : Obj) (xs9 : Array Value) (n : Nat), K.lookup a = some o ∧ o.cls = .type "list" ∧ o.dict = none ∧ o.data = .seq xs9 n ∧ xs9.size ≤ sizeLine ∧ Vals xs xs9.toList
theorem RoL.sq {K : PySem.W.Frag} {H : Hp} {a : Addr} {xs : List V} (h : RoL K H a xs) : SqL K H a xs := by
  rcases h with ⟨o, h⟩ | h
  · exact .inl (.inr ⟨o, h⟩)
  · exact .inr h
abbrev Mu := Addr → Option MO
def mset (m : Mu) (a : Addr) (o : MO) : Mu := fun b => if b = a then some o else m b
theorem mset_same {m : Mu} {a : Addr} {o : MO} : mset m a o a = some o := by unfold mset; rw [if_pos rfl]
theorem mset_ne {m : Mu} {a b : Addr} {o : MO} (h : b ≠ a) : mset m a o b = m b := by unfold mset; rw [if_neg h]
theorem mset_new {m : Mu} {a b : Addr} {o o' : MO} (h : m a = none) (e : m b = some o') : mset m a o b = some o' := by
  rw [mset_ne (fun z => by rw [z, h] at e; cases e)]; exact e
theorem mset_mset {m : Mu} {a : Addr} {o u : MO} : mset (mset m a o) a u = mset m a u := by
  funext b; unfold mset; split <;> rfl
theorem mne {m : Mu} {a b : Addr} {o : MO} (h : m a = none) (e : m b = some o) : b ≠ a := fun z => by rw [z, h] at e; cases e

/-- a tuple of the heap's own -/
def TpH (H : Hp) (a : Addr) (vs : List V) : Prop := H a = some (.tup vs)
theorem TpH.sq {K : PySem.W.Frag} {H : Hp} {a : Addr} {vs : List V} (h : TpH H a vs) : SqT K H a vs := SqT.of h
instance {K : PySem.W.Frag} {H : Hp} {a : Addr} {vs : List V} : Coe (TpH H a vs) (SqT K H a vs) := ⟨TpH.sq⟩
mutual
inductive Rep (K : PySem.W.Frag) (H : Hp) : D → V → Prop
  | non : Rep K H .non .non
  | bl (b : Bool) : Rep K H (.bl b) (.bl b)
  | int (i : Int) : Rep K H (.int i) (.int i)
  | str (x : Str) : Rep K H (.str x) (.str x)
  | ref (a : Addr) : Rep K H (.ref a) (.ref a)
  | tup {ds : List D} {a : Addr} {vs : List V} : TpH H a vs → RepL K H ds vs → Rep K H (.tup ds) (.ref a)
  | rol {ds : List D} {a : Addr} {vs : List V} : RoL K H a vs → RepL K H ds vs → Rep K H (.rol ds) (.ref a)
  | dic {ks : List Key} {ds : List D} {a : Addr} {o : Obj} {us : List (Key × V)} : H a = some (.frz o (.dK us)) → us.map (·.1) = ks → RepL K H ds (us.map (·.2)) → Rep K H (.dic ks ds) (.ref a)
  | dicT {ks : List (List Key)} {ds : List D} {a : Addr} {o : Obj} {us : List (List Key × V)} : H a = some (.frz o (.dT us)) → us.map (·.1) = ks → RepL K H ds (us.map (·.2)) → Rep K H (.dicT ks ds) (.ref a)
  | obj {C : Addr} {fs : List Str} {ds : List D} {a dx : Addr} {o : Obj} {us : List (Str × V)} : H a = some (.frz o (.ins C dx us)) → us.map (·.1) = fs → RepL K H ds (us.map (·.2)) → Rep K H (.obj C fs ds) (.ref a)
inductive RepL (K : PySem.W.Frag) (H : Hp) : List D → List V → Prop
  | nil : RepL K H [] []
  | cons {d : D} {ds : List D} {v : V} {vs : List V} : Rep K H d v → RepL K H ds vs → RepL K H (d :: ds) (v :: vs)
end

def Imm : HO → Prop
  | .tup _ => True
  | .frz _ _ => True
  | _ => False
/-- what never changes is kept -/
def TX (H H' : Hp) : Prop := ∀ a u, Imm u → H a = some u → H' a = some u
theorem TX.refl (H : Hp) : TX H H := fun _ _ _ h => h
theorem TX.trans {H H1 H2 : Hp} (a : TX H H1) (b : TX H1 H2) : TX H H2 := fun c o i h => b c o i (a c o i h)
theorem TX.new {H : Hp} {p : Addr} {o : HO} (h : H p = none) : TX H (upd H p o) := fun a u _ e => by
  rw [upd_ne (ne_of_none e h)]; exact e
theorem TX.lst {H : Hp} {p : Addr} {xs : List V} {o : HO} (h : H p = some (.lst xs)) : TX H (upd H p o) := fun a u i e => by
  rw [upd_ne (fun z => by rw [z, h] at e; cases e; exact i)]; exact e
theorem TX.sqT {K : PySem.W.Frag} {H H' : Hp} (t : TX H H') {a : Addr} {xs : List V} (h : SqT K H a xs) : SqT K H' a xs := by
  rcases h with (h | ⟨o, h⟩) | h
  · exact .inl (.inl (t _ _ trivial h))
  · exact .inl (.inr ⟨o, t _ _ trivial h⟩)
  · exact .inr h
theorem TX.ro {K : PySem.W.Frag} {H H' : Hp} (t : TX H H') {a : Addr} {xs : List V} (h : RoL K H a xs) : RoL K H' a xs := by
  rcases h with ⟨o, h⟩ | h
  · exact .inl ⟨o, t _ _ trivial h⟩
  · exact .inr h
mutual
theorem Rep.mono {K : PySem.W.Frag} {H H' : Hp} (t : TX H H') : ∀ {d : D} {v : V}, Rep K H d v → Rep K H' d v
  | _, _, .non => .non
  | _, _, .bl b => .bl b
  | _, _, .int i => .int i
  | _, _, .str x => .str x
  | _, _, .ref a => .ref a
  | _, _, .tup s r => .tup (t _ _ trivial s) (RepL.mono t r)
  | _, _, .rol s r => .rol (t.ro s) (RepL.mono t r)
  | _, _, .dic e n r => .dic (t _ _ trivial e) n (RepL.mono t r)
  | _, _, .dicT e n r => .dicT (t _ _ trivial e) n (RepL.mono t r)
  | _, _, .obj e n r => .obj (t _ _ trivial e) n (RepL.mono t r)
theorem RepL.mono {K : PySem.W.Frag} {H H' : Hp} (t : TX H H') : ∀ {ds : List D} {vs : List V}, RepL K H ds vs → RepL K H' ds vs
  | _, _, .nil => .nil
  | _, _, .cons a b => .cons (Rep.mono t a) (RepL.mono t b)
end
theorem RepL.length {K : PySem.W.Frag} {H : Hp} : ∀ {ds : List D} {vs : List V}, RepL K H ds vs → ds.length = vs.length
  | _, _, .nil => rfl
  | _, _, .cons _ b => by rw [List.length_cons, List.length_cons, RepL.length b]
theorem RepL.append {K : PySem.W.Frag} {H : Hp} : ∀ {ds es : List D} {vs ws : List V}, RepL K H ds vs → RepL K H es ws → RepL K H (ds ++ es) (vs ++ ws)
  | _, _, _, _, .nil, s => s
  | _, _, _, _, .cons a b, s => .cons a (RepL.append b s)
theorem RepL.get {K : PySem.W.Frag} {H : Hp} : ∀ {ds : List D} {vs : List V} {i : Nat} {d : D}, RepL K H ds vs → ds[i]? = some d → ∃ v, vs[i]? = some v ∧ Rep K H d v
  | _, _, _, _, .nil, e => by simp at e
  | _, _, 0, _, .cons a _, e => by simp at e; subst e; exact ⟨_, rfl, a⟩
  | _, _, i + 1, d, .cons _ b, e => by
    obtain ⟨v, h1, h2⟩ := RepL.get (i := i) (d := d) b (by simpa using e)
    exact ⟨v, by simpa using h1, h2⟩
theorem RepL.getV {K : PySem.W.Frag} {H : Hp} {ds : List D} {vs : List V} {i : Nat} {v : V} (r : RepL K H ds vs) (e : vs[i]? = some v) : ∃ d, ds[i]? = some d ∧ Rep K H d v := by
  have hl := r.length
  obtain ⟨h1, _⟩ := List.getElem?_eq_some_iff.mp e
  have h2 : i < ds.length := by omega
  obtain ⟨w, e2, q⟩ := r.get (List.getElem?_eq_getElem h2)
  rw [e] at e2; cases e2
  exact ⟨_, List.getElem?_eq_getElem h2, q⟩
theorem RepL.take {K : PySem.W.Frag} {H : Hp} : ∀ {ds : List D} {vs : List V} (n : Nat), RepL K H ds vs → RepL K H (ds.take n) (vs.take n)
  | _, _, 0, _ => by rw [List.take_zero, List.take_zero]; exact .nil
  | _, _, _ + 1, .nil => .nil
  | _, _, n + 1, .cons a b => .cons a (RepL.take n b)
theorem RepL.drop {K : PySem.W.Frag} {H : Hp} : ∀ {ds : List D} {vs : List V} (n : Nat), RepL K H ds vs → RepL K H (ds.drop n) (vs.drop n)
  | _, _, 0, r => r
  | _, _, _ + 1, .nil => .nil
  | _, _, n + 1, .cons _ b => RepL.drop n b
theorem RepL.set {K : PySem.W.Frag} {H : Hp} {d : D} {v : V} (r : Rep K H d v) : ∀ {ds : List D} {vs : List V} (i : Nat), RepL K H ds vs → RepL K H (ds.set i d) (vs.set i v)
  | _, _, _, .nil => .nil
  | _, _, 0, .cons _ t => .cons r t
  | _, _, i + 1, .cons q t => .cons q (RepL.set r i t)
theorem RepL.erase {K : PySem.W.Frag} {H : Hp} : ∀ {ds : List D} {vs : List V} (i : Nat), RepL K H ds vs → RepL K H (ds.eraseIdx i) (vs.eraseIdx i)
  | _, _, _, .nil => .nil
  | _, _, 0, .cons _ t => t
  | _, _, i + 1, .cons q t => .cons q (RepL.erase i t)
theorem RepL.rev {K : PySem.W.Frag} {H : Hp} : ∀ {ds : List D} {vs : List V}, RepL K H ds vs → RepL K H ds.reverse vs.reverse
  | _, _, .nil => .nil
  | _, _, .cons a b => by rw [List.reverse_cons, List.reverse_cons]; exact RepL.append (RepL.rev b) (.cons a .nil)
theorem RepL.dropLast {K : PySem.W.Frag} {H : Hp} {ds : List D} {vs : List V} (r : RepL K H ds vs) : RepL K H ds.dropLast vs.dropLast := by
  rw [List.dropLast_eq_take, List.dropLast_eq_take, r.length]
  exact r.take _
theorem RepL.nil_iff {K : PySem.W.Frag} {H : Hp} {ds : List D} {vs : List V} (r : RepL K H ds vs) : ds = [] ↔ vs = [] := by
  cases r with
  | nil => exact ⟨fun _ => rfl, fun _ => rfl⟩
  | cons a b => exact ⟨fun h => (nomatch h), fun h => (nomatch h)⟩

/-! ### states -/
abbrev Sd := List (Option D)
def MOk (K : PySem.W.Frag) (H : Hp) (a : Addr) : MO → Prop
  | .lst ds => ∃ vs, H a = some (.lst vs) ∧ RepL K H ds vs
  | .dct kvs => ∃ us, H a = some (.dK us) ∧ us.map (·.1) = kvs.map (·.1) ∧ RepL K H (kvs.map (·.2)) (us.map (·.2))
  | .dcT kvs => ∃ us, H a = some (.dT us) ∧ us.map (·.1) = kvs.map (·.1) ∧ RepL K H (kvs.map (·.2)) (us.map (·.2))
  | .sset P w S n => H a = some (SetK P w a S n)
  | .oth u => H a = some u
  | .ins C fs => ∃ dx us, H a = some (.ins C dx us) ∧ us.map (·.1) = fs.map (·.1) ∧ RepL K H (fs.map (·.2)) (us.map (·.2))
def RM (K : PySem.W.Frag) (H : Hp) (m : Mu) : Prop := ∀ a o, m a = some o → MOk K H a o
structure RS (K : PySem.W.Frag) (H : Hp) (sd : Sd) (s : L2.St) : Prop where
  len : sd.length = s.length
  at_ : ∀ (i : Nat) (d : D), sd[i]? = some (some d) → ∃ v, s[i]? = some (some v) ∧ Rep K H d v
theorem RS.mono {K : PySem.W.Frag} {H H' : Hp} {sd : Sd} {s : L2.St} (r : RS K H sd s) (t : TX H H') : RS K H' sd s :=
  ⟨r.len, fun i d e => let ⟨v, h, q⟩ := r.at_ i d e; ⟨v, h, q.mono t⟩⟩
theorem RS.set {K : PySem.W.Frag} {H : Hp} {sd : Sd} {s : L2.St} (r : RS K H sd s) {d : D} {v : V} (q : Rep K H d v) (i : Nat) : RS K H (sd.set i (some d)) (s.set i (some v)) := by
  refine ⟨by rw [List.length_set, List.length_set]; exact r.len, fun j e h => ?_⟩
  rw [List.getElem?_set] at h
  rw [List.getElem?_set]
  by_cases hij : i = j
  · subst hij
    rw [if_pos rfl] at h ⊢
    by_cases hl : i < sd.length
    · rw [if_pos hl] at h
      cases h
      rw [if_pos (by rw [← r.len]; exact hl)]
      exact ⟨v, rfl, q⟩
    · rw [if_neg hl] at h; cases h
  · rw [if_neg hij] at h ⊢
    exact r.at_ j e h
theorem MOk.tx {K : PySem.W.Frag} {H H' : Hp} {a : Addr} {o : MO} (h : MOk K H a o) (t : TX H H') (k : ∀ u, H a = some u → H' a = some u) : MOk K H' a o := by
  cases o with
  | lst ds => obtain ⟨vs, e, r⟩ := h; exact ⟨vs, k _ e, r.mono t⟩
  | dct kvs => obtain ⟨us, e, e2, r⟩ := h; exact ⟨us, k _ e, e2, r.mono t⟩
  | dcT kvs => obtain ⟨us, e, e2, r⟩ := h; exact ⟨us, k _ e, e2, r.mono t⟩
  | ins C fs => obtain ⟨dx, us, e, e2, r⟩ := h; exact ⟨dx, us, k _ e, e2, r.mono t⟩
  | sset P w S n => exact k _ h
  | oth u => exact k _ h
theorem MOk.some {K : PySem.W.Frag} {H : Hp} {a : Addr} {o : MO} (h : MOk K H a o) : ∃ u, H a = some u := by
  cases o with
  | lst ds => obtain ⟨vs, e, r⟩ := h; exact ⟨_, e⟩
  | dct kvs => obtain ⟨us, e, _⟩ := h; exact ⟨_, e⟩
  | dcT kvs => obtain ⟨us, e, _⟩ := h; exact ⟨_, e⟩
  | ins C fs => obtain ⟨dx, us, e, _⟩ := h; exact ⟨_, e⟩
  | sset P w S n => exact ⟨_, h⟩
  | oth u => exact ⟨_, h⟩
/-- a new object that the store does not tell of -/
theorem RM.skip {K : PySem.W.Frag} {H : Hp} {m : Mu} {p : Addr} {u : HO} (r : RM K H m) (h : H p = none) : RM K (upd H p u) m := fun a o e => by
  refine (r a o e).tx (.new h) fun vs q => ?_
  rw [upd_ne (ne_of_none q h)]; exact q
theorem RM.fresh {K : PySem.W.Frag} {H : Hp} {m : Mu} {p : Addr} (r : RM K H m) (h : H p = none) : m p = none := by
  cases q : m p with
  | none => rfl
  | some o =>
    obtain ⟨u, e⟩ := (r p o q).some
    rw [h] at e; cases e
/-- a new list -/
theorem RM.newL {K : PySem.W.Frag} {H : Hp} {m : Mu} {p : Addr} {ds : List D} {vs : List V} (r : RM K H m) (h : H p = none) (q : RepL K H ds vs) : RM K (upd H p (.lst vs)) (mset m p (.lst ds)) := fun a o e => by
  by_cases ha : a = p
  · subst ha
    rw [mset_same] at e; cases e
    exact ⟨vs, upd_same, q.mono (.new h)⟩
  · rw [mset_ne ha] at e
    exact r.skip h a o e
/-- a list is changed -/
theorem RM.setL {K : PySem.W.Frag} {H : Hp} {m : Mu} {p : Addr} {ds : List D} {vs ws : List V} (r : RM K H m) (h : H p = some (.lst ws)) (q : RepL K H ds vs) : RM K (upd H p (.lst vs)) (mset m p (.lst ds)) := fun a o e => by
  by_cases ha : a = p
  · subst ha
    rw [mset_same] at e; cases e
    exact ⟨vs, upd_same, q.mono (.lst h)⟩
  · rw [mset_ne ha] at e
    refine (r a o e).tx (.lst h) fun us z => ?_
    rw [upd_ne ha]; exact z
/-- less is told -/
def Sub (m m' : Mu) : Prop := ∀ a o, m a = some o → m' a = some o
theorem Sub.refl (m : Mu) : Sub m m := fun _ _ h => h
theorem Sub.trans {m m1 m2 : Mu} (a : Sub m m1) (b : Sub m1 m2) : Sub m m2 := fun x o h => b x o (a x o h)
theorem Sub.new {m : Mu} {p : Addr} {o : MO} (h : m p = none) : Sub m (mset m p o) := fun a u e => mset_new h e
theorem Sub.new' {m m' : Mu} {p : Addr} {o : MO} (s : Sub m m') (h : m p = none) : Sub m (mset m' p o) := fun a u e => by
  rw [mset_ne (mne h e)]; exact s a u e
theorem Sub.free {m m' : Mu} {p : Addr} (s : Sub m m') (h : m' p = none) : m p = none := by
  cases q : m p with
  | none => rfl
  | some o => rw [s p o q] at h; cases h
theorem RM.sub {K : PySem.W.Frag} {H : Hp} {m m' : Mu} (r : RM K H m') (s : Sub m m') : RM K H m := fun a o e => r a o (s a o e)

/-! ### readings over plain data -/
abbrev DK := D → Mu → Prop
abbrev DE := Sd → Mu → DK → Prop
abbrev DT := Sd → Mu → (Bool → Mu → Prop) → Prop
abbrev DA := Sd → Mu → (List D → Mu → Prop) → Prop
structure DEnds where
  nx : Sd → Mu → Prop
  rt : DK
  bk : Sd → Mu → Prop := fun _ _ => False
  ct : Sd → Mu → Prop := fun _ _ => False
abbrev DS := DEnds → Sd → Mu → Prop

def LE (K : PySem.W.Frag) (t : TE) (d : DE) : Prop := ∀ s H sd m (Qd : DK) (Q : VK), RS K H sd s → RM K H m → d sd m Qd →
  (∀ v H' dv m', TX H H' → RM K H' m' → Rep K H' dv v → Qd dv m' → Q v H') → t s H Q
def LT (K : PySem.W.Frag) (t : TT) (d : DT) : Prop := ∀ s H sd m (Qd : Bool → Mu → Prop) (Q : Bool → Hp → Prop), RS K H sd s → RM K H m → d sd m Qd →
  (∀ b H' m', TX H H' → RM K H' m' → Qd b m' → Q b H') → t s H Q
def LA (K : PySem.W.Frag) (t : TA) (d : DA) : Prop := ∀ s H sd m (Qd : List D → Mu → Prop) (Q : List V → Hp → Prop), RS K H sd s → RM K H m → d sd m Qd →
  (∀ vs H' ds m', TX H H' → RM K H' m' → RepL K H' ds vs → Qd ds m' → Q vs H') → t s H Q
def LS (K : PySem.W.Frag) (t : TS) (d : DS) : Prop := ∀ s H sd m (Ed : DEnds) (E : Ends), RS K H sd s → RM K H m → d Ed sd m →
  (∀ s' H' sd' m', TX H H' → RS K H' sd' s' → RM K H' m' → Ed.nx sd' m' → E.nx s' H') →
  (∀ v H' dv m', TX H H' → RM K H' m' → Rep K H' dv v → Ed.rt dv m' → E.rt v H') →
  (∀ s' H' sd' m', TX H H' → RS K H' sd' s' → RM K H' m' → Ed.bk sd' m' → E.bk s' H') →
  (∀ s' H' sd' m', TX H H' → RS K H' sd' s' → RM K H' m' → Ed.ct sd' m' → E.ct s' H') → t E s H

def liftE (K : PySem.W.Frag) (d : DE) : TE := fun s H Q => ∃ sd m Qd, RS K H sd s ∧ RM K H m ∧ d sd m Qd ∧ ∀ v H' dv m', TX H H' → RM K H' m' → Rep K H' dv v → Qd dv m' → Q v H'
def liftT (K : PySem.W.Frag) (d : DT) : TT := fun s H Q => ∃ sd m Qd, RS K H sd s ∧ RM K H m ∧ d sd m Qd ∧ ∀ b H' m', TX H H' → RM K H' m' → Qd b m' → Q b H'
theorem liftE_le (K : PySem.W.Frag) (d : DE) : LE K (liftE K d) d := fun s H sd m Qd Q rs rm h k => ⟨sd, m, Qd, rs, rm, h, k⟩
theorem liftT_le (K : PySem.W.Frag) (d : DT) : LT K (liftT K d) d := fun s H sd m Qd Q rs rm h k => ⟨sd, m, Qd, rs, rm, h, k⟩
structure GE (X : Cx) (e : Expr) (d : DE) : Prop where
  mk ::
  pe : PE X e (liftE X.K d)
structure GT (X : Cx) (e : Expr) (d : DT) : Prop where
  mk ::
  pt : PT X e (liftT X.K d)
theorem GE.ex {X : Cx} {e : Expr} {d : DE} (h : GE X e d) : ∃ t, PE X e t ∧ LE X.K t d := ⟨_, h.pe, liftE_le _ _⟩
theorem GT.ex {X : Cx} {e : Expr} {d : DT} (h : GT X e d) : ∃ t, PT X e t ∧ LT X.K t d := ⟨_, h.pt, liftT_le _ _⟩
theorem GE.of {X : Cx} {e : Expr} {d : DE} (h : ∃ t, PE X e t ∧ LE X.K t d) : GE X e d :=
  let ⟨t, p, l⟩ := h
  ⟨⟨fun pz s τ H Q I ⟨sd, m, Qd, rs, rm, hd, k⟩ => p.run pz s τ H Q I (l τ H sd m Qd Q rs rm hd k)⟩⟩
theorem GT.of {X : Cx} {e : Expr} {d : DT} (h : ∃ t, PT X e t ∧ LT X.K t d) : GT X e d :=
  let ⟨t, p, l⟩ := h
  ⟨⟨fun pz s τ H Q I ⟨sd, m, Qd, rs, rm, hd, k⟩ => p.run pz s τ H Q I (l τ H sd m Qd Q rs rm hd k)⟩⟩
structure GW (X : Cx) (e : Expr) (d : DT) : Prop where
  ex : ∃ t, PW X e t ∧ LT X.K t d
structure GA (X : Cx) (es : List Expr) (d : DA) : Prop where
  ex : ∃ t, PA X es t ∧ LA X.K t d
structure GS (X : Cx) (st : Stmt) (d : DS) : Prop where
  ex : ∃ t, PS X st t ∧ LS X.K t d
structure GSs (X : Cx) (st : List Stmt) (d : DS) : Prop where
  ex : ∃ t, PSs X st t ∧ LS X.K t d
theorem GW.gt {X : Cx} {e : Expr} {d : DT} (h : GW X e d) : GT X e d := let ⟨t, p, l⟩ := h.ex; .of ⟨t, p.pt, l⟩

section
variable {X : Cx}
/-! ### names, constants -/
def dVar (i : Nat) : DE := fun s m Q => match s[i]? with | some (some d) => Q d m | _ => False
def dC (d : D) : DE := fun _ m Q => Q d m
theorem gv (i : Nat) {x : Str} {pos : Pos} (hN : X.N[i]? = some x := by rfl) (hv : Vis X.env.scope x := by first | exact Or.inl rfl | exact Or.inr (Or.inl rfl) | exact Or.inr (Or.inr rfl)) (hd : (x == ("__debug__" : Str)) = false := by decide)
    (hcd : (x == ("__classdict__" : Str)) = false := by decide) : GE X (.Name x pos) (dVar i) :=
  .of ⟨_, pv i hN hv hd hcd, fun s H sd m Qd Q rs rm h k => by
    unfold dVar at h
    split at h
    · rename_i d e
      obtain ⟨v, e2, r⟩ := rs.at_ i d e
      exact ⟨v, e2, k v H d m (.refl H) rm r h⟩
    · exact h.elim⟩
theorem ge_c {e : Expr} {v : V} {d : D} (p : PE X e (tC v)) (r : ∀ H, Rep X.K H d v) : GE X e (dC d) :=
  .of ⟨_, p, fun _ H _ m _ _ _ rm h k => k v H d m (.refl H) rm (r H) h⟩
theorem ge_int {i j pos} : GE X (.Constant (.int i) j pos) (dC (.int i)) := ge_c pe_int fun _ => .int i
theorem ge_str {x j pos} : GE X (.Constant (.str x) j pos) (dC (.str x)) := ge_c pe_str fun _ => .str x
theorem ge_bl {b j pos} : GE X (.Constant (.bool b) j pos) (dC (.bl b)) := ge_c pe_bl fun _ => .bl b
theorem ge_non {j pos} : GE X (.Constant .none j pos) (dC .non) := ge_c pe_non fun _ => .non
/-! ### arguments -/
def dNil : DA := fun _ m Q => Q [] m
def dCons (a : DE) (r : DA) : DA := fun s m Q => a s m fun x m1 => r s m1 fun xs m2 => Q (x :: xs) m2
theorem ga_nil : GA X [] dNil := ⟨_, pa_nil, fun _ H _ m _ _ _ rm h k => k [] H [] m (.refl H) rm .nil h⟩
theorem ga_cons {e : Expr} {es : List Expr} {de : DE} {dr : DA} (ha : GE X e de) (hr : GA X es dr) (hs : starEach (e :: es) X.env = (false, eval e X.env) :: starEach es X.env := by rfl) : GA X (e :: es) (dCons de dr) := by
  obtain ⟨te, p, l⟩ := ha.ex
  obtain ⟨tr, q, l2⟩ := hr.ex
  refine ⟨_, pa_cons p q hs, fun s H sd m Qd Q rs rm h k => ?_⟩
  refine l s H sd m _ _ rs rm h fun v H1 dv m1 t1 rm1 r1 h1 => ?_
  exact l2 s H1 sd m1 _ _ (rs.mono t1) rm1 h1 fun vs H2 ds m2 t2 rm2 r2 h2 => k _ H2 _ m2 (t1.trans t2) rm2 (.cons (r1.mono t2) r2) h2
/-! ### operators -/
abbrev D2 := D → D → Mu → DK → Prop
def LR (K : PySem.W.Frag) (r : R2) (d : D2) : Prop := ∀ x y H dx dy m (Qd : DK) (Q : VK), RM K H m → Rep K H dx x → Rep K H dy y → d dx dy m Qd →
  (∀ v H' dv m', TX H H' → RM K H' m' → Rep K H' dv v → Qd dv m' → Q v H') → r x y H Q
def dOp (r : D2) (a b : DE) : DE := fun s m Q => a s m fun x m1 => b s m1 fun y m2 => r x y m2 Q
theorem LE.op {K : PySem.W.Frag} {ta tb : TE} {da db : DE} {r : R2} {d : D2} (l : LE K ta da) (l2 : LE K tb db) (lr : LR K r d) : LE K (tOp r ta tb) (dOp d da db) := fun s H sd m Qd Q rs rm h k => by
  refine l s H sd m _ _ rs rm h fun v H1 dv m1 t1 rm1 r1 h1 => ?_
  refine l2 s H1 sd m1 _ _ (rs.mono t1) rm1 h1 fun w H2 dw m2 t2 rm2 r2 h2 => ?_
  exact lr v w H2 dv dw m2 Qd Q rm2 (r1.mono t2) r2 h2 fun v' H' dv' m' t' a b c => k v' H' dv' m' (t1.trans (t2.trans t')) a b c
theorem ge_op {a b : Expr} {pos : Pos} {da db : DE} {op : Operator} {r : R2} {d : D2} (ho : OpR X (binaryOp op) r) (lr : LR X.K r d) (ha : GE X a da) (hb : GE X b db) : GE X (.BinOp a op b pos) (dOp d da db) := by
  obtain ⟨ta, p, l⟩ := ha.ex
  obtain ⟨tb, q, l2⟩ := hb.ex
  exact .of ⟨_, pe_op ho p q, l.op l2 lr⟩
theorem ge_cmpR {a b : Expr} {pos : Pos} {da db : DE} {op : CmpOp} {r : R2} {d : D2} (ho : OpR X (compareOp op) r) (lr : LR X.K r d) (ha : GE X a da) (hb : GE X b db) (hm : behindInMarks op b = false) : GE X (.Compare a [op] [b] pos) (dOp d da db) := by
  obtain ⟨ta, p, l⟩ := ha.ex
  obtain ⟨tb, q, l2⟩ := hb.ex
  exact .of ⟨_, pe_cmpR ho p q hm, l.op l2 lr⟩
def dTest (a : DE) : DT := fun s m Q => a s m fun x m1 => match x with | .bl b => Q b m1 | _ => False
theorem LE.test {K : PySem.W.Frag} {t : TE} {d : DE} (l : LE K t d) : LT K (tTest t) (dTest d) := fun s H sd m Qd Q rs rm h k => by
  refine l s H sd m _ _ rs rm h fun v H1 dv m1 t1 rm1 r1 h1 => ?_
  cases r1 with
  | bl b => exact ⟨b, rfl, k b H1 m1 t1 rm1 h1⟩
  | _ => exact h1.elim
theorem LE.testB {K : PySem.W.Frag} {t : TE} {d : DE} (l : LE K t d) : LT K (tB t) (dTest d) := fun s H sd m Qd Q rs rm h k => by
  refine l s H sd m _ _ rs rm h fun v H1 dv m1 t1 rm1 r1 h1 => ?_
  cases r1 with
  | bl b => exact ⟨b, rfl, k b H1 m1 t1 rm1 h1⟩
  | _ => exact h1.elim
theorem gt_cmpR {a b : Expr} {pos : Pos} {da db : DE} {op : CmpOp} {r : R2} {d : D2} (ho : OpR X (compareOp op) r) (lr : LR X.K r d) (ha : GE X a da) (hb : GE X b db) (hm : behindInMarks op b = false) : GT X (.Compare a [op] [b] pos) (dTest (dOp d da db)) := by
  obtain ⟨ta, p, l⟩ := ha.ex
  obtain ⟨tb, q, l2⟩ := hb.ex
  exact .of ⟨_, pt_cmpR ho p q hm, (l.op l2 lr).test⟩
theorem gt_val {e : Expr} {d : DE} (h : GE X e d) (he : ∀ whole, isTrue e X.env whole = (do let v ← whole; standAt e.pos; holding [v] (truthy v)) := by intro _; rfl) : GT X e (dTest d) := by
  obtain ⟨t, p, l⟩ := h.ex
  exact .of ⟨_, pt_val p he, l.testB⟩
end
end PD

set_option Elab.async false
set_option linter.all false
set_option maxRecDepth 100000
set_option maxHeartbeats 4000000
namespace PD
open PySem PySem.Spec PyProof.Rows L2
/-! ### by kinds -/
def seqOf (m : Mu) : D → Option (List D)
  | .tup ds => some ds
  | .rol ds => some ds
  | .ref a => match m a with | some (.lst ds) => some ds | _ => none
  | _ => none
theorem seq_rep {K : PySem.W.Frag} {H : Hp} {m : Mu} {d : D} {v : V} {ds : List D} (rm : RM K H m) (r : Rep K H d v) (h : seqOf m d = some ds) :
    ∃ a vs, v = .ref a ∧ (SqL K H a vs ∨ SqT K H a vs) ∧ RepL K H ds vs := by
  cases r with
  | tup s q => unfold seqOf at h; cases h; exact ⟨_, _, rfl, .inr s, q⟩
  | rol s q => unfold seqOf at h; cases h; exact ⟨_, _, rfl, .inl s.sq, q⟩
  | ref a =>
    unfold seqOf at h
    cases e : m a with
    | none => simp only [e] at h; cases h
    | some o =>
      have q := rm a o e
      cases o with
      | lst es => simp only [e] at h; cases h; obtain ⟨vs, e2, r⟩ := q; exact ⟨a, vs, rfl, .inl (SqL.of e2), r⟩
      | _ => simp only [e] at h; cases h
  | _ => unfold seqOf at h; cases h
theorem ref_rep {K : PySem.W.Frag} {H : Hp} {m : Mu} {a : Addr} {ds : List D} (rm : RM K H m) (h : seqOf m (.ref a) = some ds) : ∃ vs, SqL K H a vs ∧ RepL K H ds vs := by
  unfold seqOf at h
  cases e : m a with
  | none => simp only [e] at h; cases h
  | some o =>
    have q := rm a o e
    cases o with
    | lst es => simp only [e] at h; cases h; obtain ⟨vs, e2, r⟩ := q; exact ⟨vs, SqL.of e2, r⟩
    | _ => simp only [e] at h; cases h
def lstOf (m : Mu) : D → Option (Addr × List D)
  | .ref a => match m a with | some (.lst ds) => some (a, ds) | _ => none
  | _ => none
theorem lst_rep {K : PySem.W.Frag} {H : Hp} {m : Mu} {d : D} {v : V} {a : Addr} {ds : List D} (rm : RM K H m) (r : Rep K H d v) (h : lstOf m d = some (a, ds)) :
    v = .ref a ∧ d = .ref a ∧ m a = some (.lst ds) ∧ ∃ vs, H a = some (.lst vs) ∧ RepL K H ds vs := by
  cases r with
  | ref b =>
    unfold lstOf at h
    cases e : m b with
    | none => simp only [e] at h; cases h
    | some o =>
      cases o with
      | lst es => simp only [e] at h; cases h; exact ⟨rfl, rfl, e, rm _ _ e⟩
      | _ => simp only [e] at h; cases h
  | _ => unfold lstOf at h; cases h
def flatD : D → Bool
  | .non => true
  | .bl _ => true
  | .int _ => true
  | .str _ => true
  | _ => false
def eqF : D → D → Bool
  | .non, .non => true
  | .bl a, .bl b => a == b
  | .bl a, .int b => (if a then 1 else 0) == b
  | .int a, .bl b => a == (if b then 1 else 0)
  | .int a, .int b => a == b
  | .str a, .str b => a == b
  | _, _ => false
theorem Rep.flat {K : PySem.W.Frag} {H : Hp} {d : D} {v : V} (r : Rep K H d v) (f : flatD d = true) : flatV v = true := by
  cases r <;> first | rfl | exact absurd f Bool.false_ne_true
theorem Rep.eqF {K : PySem.W.Frag} {H : Hp} {d e : D} {v u : V} (r : Rep K H d v) (q : Rep K H e u) (f : flatD d = true) (g : flatD e = true) : eqV v u = eqF d e := by
  cases r <;> first | exact absurd f Bool.false_ne_true | (cases q <;> first | exact absurd g Bool.false_ne_true | rfl)
theorem RepL.flat {K : PySem.W.Frag} {H : Hp} : ∀ {ds : List D} {vs : List V}, RepL K H ds vs → ds.all flatD = true → vs.all flatV = true
  | _, _, .nil, _ => rfl
  | _, _, .cons a b, f => by
    rw [List.all_cons, Bool.and_eq_true] at f
    rw [List.all_cons, a.flat f.1, RepL.flat b f.2]; rfl
theorem RepL.inV {K : PySem.W.Frag} {H : Hp} {d : D} {v : V} (r : Rep K H d v) (f : flatD d = true) : ∀ {ds : List D} {vs : List V}, RepL K H ds vs → ds.all flatD = true → inV v vs = ds.any fun y => PD.eqF y d
  | _, _, .nil, _ => rfl
  | _, _, .cons a b, g => by
    rw [List.all_cons, Bool.and_eq_true] at g
    have := RepL.inV r f b g.2
    unfold L2.inV at this ⊢
    rw [List.any_cons, List.any_cons, this, a.eqF r g.1 f]
/-! plain data -/
mutual
def toP : D → Option PyData
  | .non => some .none
  | .bl b => some (.bool b)
  | .int i => some (.int i)
  | .str x => some (.str x)
  | .tup ds => (toPs ds).map .tuple
  | .ref _ => none
  | .rol ds => (toPs ds).map .list
  | .dic _ _ => none
  | .dicT _ _ => none
  | .obj _ _ _ => none
def toPs : List D → Option (List PyData)
  | [] => some []
  | d :: ds => match toP d, toPs ds with | some p, some ps => some (p :: ps) | _, _ => none
end
mutual
theorem Rep.dp {K : PySem.W.Frag} {H : Hp} : ∀ {d : D} {v : V} {p : PyData}, Rep K H d v → toP d = some p → Dp K H v p
  | _, _, _, .non, h => by unfold toP at h; cases h; exact .non
  | _, _, _, .bl b, h => by unfold toP at h; cases h; exact .bl b
  | _, _, _, .int i, h => by unfold toP at h; cases h; exact .int i
  | _, _, _, .str x, h => by unfold toP at h; cases h; exact .str x
  | _, _, _, .ref a, h => by unfold toP at h; cases h
  | .dic _ _, _, _, .dic _ _ _, h => by unfold toP at h; cases h
  | .dicT _ _, _, _, .dicT _ _ _, h => by unfold toP at h; cases h
  | .obj _ _ _, _, _, .obj _ _ _, h => by unfold toP at h; cases h
  | .rol ds, _, _, .rol s r, h => by
    unfold toP at h
    cases e : toPs ds with
    | none => rw [e] at h; cases h
    | some ps => rw [e] at h; cases h; exact .lst s.sq (RepL.dp r e)
  | .tup ds, _, _, .tup s r, h => by
    unfold toP at h
    cases e : toPs ds with
    | none => rw [e] at h; cases h
    | some ps => rw [e] at h; cases h; exact .tup s (RepL.dp r e)
theorem RepL.dp {K : PySem.W.Frag} {H : Hp} : ∀ {ds : List D} {vs : List V} {ps : List PyData}, RepL K H ds vs → toPs ds = some ps → DpAll K H vs ps
  | _, _, _, .nil, h => by unfold toPs at h; cases h; exact .nil
  | d :: ds, _, _, .cons a b, h => by
    unfold toPs at h
    cases e : toP d with
    | none => rw [e] at h; cases h
    | some p =>
      cases e2 : toPs ds with
      | none => rw [e, e2] at h; cases h
      | some ps => rw [e, e2] at h; cases h; exact .cons (Rep.dp a e) (RepL.dp b e2)
end
def toPm (m : Mu) : D → Option PyData
  | .ref a => match m a with | some (.lst ds) => (toPs ds).map .list | _ => none
  | d => toP d
theorem dpm {K : PySem.W.Frag} {H : Hp} {m : Mu} {d : D} {v : V} {p : PyData} (rm : RM K H m) (r : Rep K H d v) (h : toPm m d = some p) : Dp K H v p := by
  cases r with
  | ref a =>
    unfold toPm at h
    cases e : m a with
    | none => simp only [e] at h; cases h
    | some o =>
      have q := rm a o e
      cases o with
      | lst es =>
        simp only [e] at h
        obtain ⟨vs, e2, r⟩ := q
        cases e3 : toPs es with
        | none => rw [e3] at h; cases h
        | some ps => rw [e3] at h; cases h; exact .lst (SqL.of e2) (r.dp e3)
      | _ => simp only [e] at h; cases h
  | rol s r => exact Rep.dp (.rol s r) h
  | dic e n r => exact Rep.dp (.dic e n r) h
  | dicT e n r => exact Rep.dp (.dicT e n r) h
  | obj e n r => exact Rep.dp (.obj e n r) h
  | tup s r => exact Rep.dp (.tup s r) h
  | non => exact Rep.dp .non h
  | bl b => exact Rep.dp (.bl b) h
  | int i => exact Rep.dp (.int i) h
  | str x => exact Rep.dp (.str x) h
/-! ### == and != -/
def isSeq (m : Mu) (d : D) : Bool := (seqOf m d).isSome
def eqK (m : Mu) (x y : D) : Option Bool :=
  if flatD x && flatD y then some (eqF x y)
  else if flatD x then (if isSeq m y then some false else none)
  else if flatD y then (if isSeq m x then some false else none)
  else match toPm m x, toPm m y with
    | some p, some q => if SeqAt.shaped p && SeqAt.shaped q then some (PyData.eqv p q) else none
    | _, _ => none
inductive EqS (K : PySem.W.Frag) (H : Hp) : V → V → Bool → Prop
  | flat {x y : V} : flatV x = true → flatV y = true → EqS K H x y (eqV x y)
  | fs {x : V} {a : Addr} {vs : List V} : flatV x = true → (SqL K H a vs ∨ SqT K H a vs) → EqS K H x (.ref a) false
  | sf {y : V} {a : Addr} {vs : List V} : flatV y = true → (SqL K H a vs ∨ SqT K H a vs) → EqS K H (.ref a) y false
  | dat {x y : V} {d e : PyData} : Dp K H x d → Dp K H y e → SeqAt.shaped d = true → SeqAt.shaped e = true → EqS K H x y (PyData.eqv d e)
theorem eqs_of {K : PySem.W.Frag} {H : Hp} {m : Mu} {dx dy : D} {x y : V} {b : Bool} (rm : RM K H m) (rx : Rep K H dx x) (ry : Rep K H dy y) (h : eqK m dx dy = some b) : EqS K H x y b := by
  unfold eqK at h
  split at h
  · rename_i c
    rw [Bool.and_eq_true] at c
    cases h
    rw [← rx.eqF ry c.1 c.2]
    exact .flat (rx.flat c.1) (ry.flat c.2)
  · split at h
    · rename_i c
      split at h
      · rename_i e
        cases h
        obtain ⟨ds, e2⟩ := Option.isSome_iff_exists.mp e
        obtain ⟨a, vs, rfl, s, _⟩ := seq_rep rm ry e2
        exact .fs (rx.flat c) s
      · cases h
    · split at h
      · rename_i c
        split at h
        · rename_i e
          cases h
          obtain ⟨ds, e2⟩ := Option.isSome_iff_exists.mp e
          obtain ⟨a, vs, rfl, s, _⟩ := seq_rep rm rx e2
          exact .sf (ry.flat c) s
        · cases h
      · split at h
        · rename_i p q e1 e2
          split at h
          · rename_i c
            rw [Bool.and_eq_true] at c
            cases h
            exact .dat (dpm rm rx e1) (dpm rm ry e2) c.1 c.2
          · cases h
        · cases h
section
variable {X : Cx}
theorem eqv_flat {A : Around} {s : Shared} {x y : V} {u v : Value} (rx : RelV x u) (ry : RelV y v) (fx : flatV x = true) (fy : flatV y = true) : SeqAt.RcAt A s u v (eqV x y) ∧ SeqAt.RcNeAt A s u v (!(eqV x y)) := by
  cases x with
  | non =>
    cases rx
    cases y with
    | non => cases ry; exact ⟨SeqAt.RcAt.none_none, SeqAt.RcNeAt.none_none⟩
    | bl b => cases ry; exact ⟨SeqAt.RcAt.none_bool b, SeqAt.RcNeAt.none_bool b⟩
    | int b => obtain ⟨t, rfl⟩ := ry; exact ⟨SeqAt.RcAt.none_int b t, SeqAt.RcNeAt.none_int b t⟩
    | str b => obtain ⟨t, rfl⟩ := ry; exact ⟨SeqAt.RcAt.none_str b t, SeqAt.RcNeAt.none_str b t⟩
    | _ => exact absurd fy Bool.false_ne_true
  | bl a =>
    cases rx
    cases y with
    | non => cases ry; exact ⟨SeqAt.RcAt.bool_none a, SeqAt.RcNeAt.bool_none a⟩
    | bl b => cases ry; exact ⟨SeqAt.RcAt.bool_bool a b, SeqAt.RcNeAt.bool_bool a b⟩
    | int b => obtain ⟨t, rfl⟩ := ry; exact ⟨SeqAt.RcAt.bool_int a b t, SeqAt.RcNeAt.bool_int a b t⟩
    | str b => obtain ⟨t, rfl⟩ := ry; exact ⟨SeqAt.RcAt.bool_str a b t, SeqAt.RcNeAt.bool_str a b t⟩
    | _ => exact absurd fy Bool.false_ne_true
  | int a =>
    obtain ⟨t', rfl⟩ := rx
    cases y with
    | non => cases ry; exact ⟨SeqAt.RcAt.int_none a t', SeqAt.RcNeAt.int_none a t'⟩
    | bl b => cases ry; exact ⟨SeqAt.RcAt.int_bool a t' b, SeqAt.RcNeAt.int_bool a t' b⟩
    | int b => obtain ⟨t, rfl⟩ := ry; exact ⟨SeqAt.RcAt.int_int a t' b t, SeqAt.RcNeAt.int_int a t' b t⟩
    | str b => obtain ⟨t, rfl⟩ := ry; exact ⟨SeqAt.RcAt.int_str a t' b t, SeqAt.RcNeAt.int_str a t' b t⟩
    | _ => exact absurd fy Bool.false_ne_true
  | str a =>
    obtain ⟨t', rfl⟩ := rx
    cases y with
    | non => cases ry; exact ⟨SeqAt.RcAt.str_none a t', SeqAt.RcNeAt.str_none a t'⟩
    | bl b => cases ry; exact ⟨SeqAt.RcAt.str_bool a t' b, SeqAt.RcNeAt.str_bool a t' b⟩
    | int b => obtain ⟨t, rfl⟩ := ry; exact ⟨SeqAt.RcAt.str_int a t' b t, SeqAt.RcNeAt.str_int a t' b t⟩
    | str b => obtain ⟨t, rfl⟩ := ry; exact ⟨SeqAt.RcAt.str_str a t' b t, SeqAt.RcNeAt.str_str a t' b t⟩
    | _ => exact absurd fy Bool.false_ne_true
  | _ => exact absurd fx Bool.false_ne_true
theorem rc_fs {A : Around} {s : Shared} {x : V} {u : Value} {a : Addr} {items : Array Value} (rx : RelV x u) (fx : flatV x = true) (h : s.heap.IsList a items ∨ s.heap.IsTuple a items) (hu : A.units < cLine) :
    (SeqAt.RcAt A s u (.ref a) false ∧ SeqAt.RcNeAt A s u (.ref a) true) ∧ SeqAt.RcAt A s (.ref a) u false ∧ SeqAt.RcNeAt A s (.ref a) u true := by
  rcases h with h | h
  · cases x with
    | non => cases rx; exact ⟨⟨SeqAt.RcAt.none_list h hu, SeqAt.RcNeAt.none_list h hu⟩, SeqAt.RcAt.list_none h hu, SeqAt.RcNeAt.list_none h hu⟩
    | bl b => cases rx; exact ⟨⟨SeqAt.RcAt.bool_list b h hu, SeqAt.RcNeAt.bool_list b h hu⟩, SeqAt.RcAt.list_bool b h hu, SeqAt.RcNeAt.list_bool b h hu⟩
    | int b => obtain ⟨t, rfl⟩ := rx; exact ⟨⟨SeqAt.RcAt.int_list b t h hu, SeqAt.RcNeAt.int_list b t h hu⟩, SeqAt.RcAt.list_int b t h hu, SeqAt.RcNeAt.list_int b t h hu⟩
    | str b => obtain ⟨t, rfl⟩ := rx; exact ⟨⟨SeqAt.RcAt.str_list b t h hu, SeqAt.RcNeAt.str_list b t h hu⟩, SeqAt.RcAt.list_str b t h hu, SeqAt.RcNeAt.list_str b t h hu⟩
    | _ => exact absurd fx Bool.false_ne_true
  · cases x with
    | non => cases rx; exact ⟨⟨SeqAt.RcAt.none_tuple h hu, SeqAt.RcNeAt.none_tuple h hu⟩, SeqAt.RcAt.tuple_none h hu, SeqAt.RcNeAt.tuple_none h hu⟩
    | bl b => cases rx; exact ⟨⟨SeqAt.RcAt.bool_tuple b h hu, SeqAt.RcNeAt.bool_tuple b h hu⟩, SeqAt.RcAt.tuple_bool b h hu, SeqAt.RcNeAt.tuple_bool b h hu⟩
    | int b => obtain ⟨t, rfl⟩ := rx; exact ⟨⟨SeqAt.RcAt.int_tuple b t h hu, SeqAt.RcNeAt.int_tuple b t h hu⟩, SeqAt.RcAt.tuple_int b t h hu, SeqAt.RcNeAt.tuple_int b t h hu⟩
    | str b => obtain ⟨t, rfl⟩ := rx; exact ⟨⟨SeqAt.RcAt.str_tuple b t h hu, SeqAt.RcNeAt.str_tuple b t h hu⟩, SeqAt.RcAt.tuple_str b t h hu, SeqAt.RcNeAt.tuple_str b t h hu⟩
    | _ => exact absurd fx Bool.false_ne_true
theorem seq_is {pz : List (Addr × Obj)} {τ : L2.St} {H : Hp} {s : Shared} {a : Addr} {vs : List V} (I : Inv X pz τ H s) (h : SqL X.K H a vs ∨ SqT X.K H a vs) : ∃ items, s.heap.IsList a items ∨ s.heap.IsTuple a items := by
  rcases h with h | h
  · obtain ⟨xs9, _, p, _⟩ := I.list h
    exact ⟨_, .inl p.isList⟩
  · obtain ⟨xs9, _, p, _⟩ := I.tuple h
    exact ⟨_, .inr p⟩
theorem eqs_run {pz : List (Addr × Obj)} {τ : L2.St} {H : Hp} {s : Shared} {x y : V} {u v : Value} {b : Bool} (I : Inv X pz τ H s) (hu : X.A.units + 64 < cLine) (rx : RelV x u) (ry : RelV y v) (h : EqS X.K H x y b) :
    SeqAt.RcAt X.A s u v b ∧ SeqAt.RcNeAt X.A s u v (!b) := by
  cases h with
  | flat f g => exact eqv_flat rx ry f g
  | fs f q =>
    cases ry
    obtain ⟨items, h⟩ := seq_is I q
    exact (rc_fs rx f h (by omega)).1
  | sf f q =>
    cases rx
    obtain ⟨items, h⟩ := seq_is I q
    exact (rc_fs ry f h (by omega)).2
  | dat p q tA tB =>
    obtain ⟨as, r1⟩ := Dp.reads I _ _ u p rx
    obtain ⟨bs, r2⟩ := Dp.reads I _ _ v q ry
    exact ⟨SeqAt.rcAt_reads r1 r2 (SeqAt.canLay_of_shaped tA) (SeqAt.canLay_of_shaped tB) (SeqAt.room_of_shaped tA hu), SeqAt.rcNeAt_reads r1 r2 (SeqAt.canLay_of_shaped tA) (SeqAt.canLay_of_shaped tB) (SeqAt.room_of_shaped tA hu)⟩
def rEqS (K : PySem.W.Frag) : R2 := fun x y H Q => ∃ b, EqS K H x y b ∧ Q (.bl b) H
def rNeS (K : PySem.W.Frag) : R2 := fun x y H Q => ∃ b, EqS K H x y b ∧ Q (.bl (!b)) H
theorem op_eqS (hu : X.A.units + 64 < cLine) : OpR X (compareOp .Eq) (rEqS X.K) := fun pz s τ H x y v u Q I rx ry ⟨b, h, q⟩ => (eqs_run I hu rx ry h).1 X.prog X.w _ _ ⟨.bl b, H, I, rfl, q⟩
theorem op_neS (hu : X.A.units + 64 < cLine) : OpR X (compareOp .NotEq) (rNeS X.K) := fun pz s τ H x y v u Q I rx ry ⟨b, h, q⟩ => (eqs_run I hu rx ry h).2 X.prog X.w _ _ ⟨.bl (!b), H, I, rfl, q⟩
def dEq : D2 := fun x y m Q => ∃ b, eqK m x y = some b ∧ Q (.bl b) m
def dNe : D2 := fun x y m Q => ∃ b, eqK m x y = some b ∧ Q (.bl (!b)) m
theorem lr_eq {K : PySem.W.Frag} : LR K (rEqS K) dEq := fun x y H dx dy m Qd Q rm rx ry ⟨b, h, q⟩ k => ⟨b, eqs_of rm rx ry h, k _ H _ m (.refl H) rm (.bl b) q⟩
theorem lr_ne {K : PySem.W.Frag} : LR K (rNeS K) dNe := fun x y H dx dy m Qd Q rm rx ry ⟨b, h, q⟩ k => ⟨b, eqs_of rm rx ry h, k _ H _ m (.refl H) rm (.bl _) q⟩
end
end PD

set_option Elab.async false
set_option linter.all false
set_option maxRecDepth 100000
set_option maxHeartbeats 4000000
namespace PD
open PySem PySem.Spec PyProof.Rows L2
theorem rep_int {K : PySem.W.Frag} {H : Hp} {d : D} {v : V} {i : Int} (r : Rep K H d v) (h : d = .int i) : v = .int i := by subst h; cases r; rfl
theorem rep_str {K : PySem.W.Frag} {H : Hp} {d : D} {v : V} {i : Str} (r : Rep K H d v) (h : d = .str i) : v = .str i := by subst h; cases r; rfl
section
variable {X : Cx}
/-! ### + - * // % -/
def dAdd : D2 := fun x y m Q => match x, y with
  | .int i, .int j => Q (.int (i + j)) m
  | .str i, .str j => i.length + j.length ≤ sizeLine ∧ Q (.str (i ++ j)) m
  | .tup a, .tup b => a.length + b.length ≤ sizeLine ∧ Q (.tup (a ++ b)) m
  | .ref a, .ref b => ∃ xs ys, m a = some (.lst xs) ∧ m b = some (.lst ys) ∧ xs.length + ys.length ≤ sizeLine ∧ ∀ p, m p = none → Q (.ref p) (mset m p (.lst (xs ++ ys)))
  | _, _ => False
def rAddU (K : PySem.W.Frag) : R2 := fun x y H Q => rI0 (fun i j => .int (i + j)) x y H Q ∨ (∃ i j, x = .str i ∧ y = .str j ∧ i.length + j.length ≤ sizeLine ∧ Q (.str (i ++ j)) H) ∨ rCatA K x y H Q ∨ rCat x y H Q
theorem op_addU : OpR X (binaryOp .Add) (rAddU X.K) := op_add.or (op_add_str.or (op_catA.or op_cat))
theorem lr_add {K : PySem.W.Frag} : LR K (rAddU K) dAdd := fun x y H dx dy m Qd Q rm rx ry h k => by
  cases rx with
  | int i =>
    cases ry with
    | int j => exact .inl ⟨i, j, rfl, rfl, k _ H _ m (.refl H) rm (.int _) h⟩
    | _ => exact h.elim
  | str i =>
    cases ry with
    | str j => exact .inr (.inl ⟨i, j, rfl, rfl, h.1, k _ H _ m (.refl H) rm (.str _) h.2⟩)
    | _ => exact h.elim
  | @tup ds a vs sa ra =>
    cases ry with
    | @tup es b ws sb rb =>
      obtain ⟨hs9, h⟩ := h
      refine .inr (.inr (.inl ⟨a, b, vs, ws, rfl, rfl, sa, sb, by rw [← ra.length, ← rb.length]; exact hs9, fun e => ?_, fun e1 e2 => ?_, fun e1 e2 p hp => ?_⟩))
      · have : ds = [] := ra.nil_iff.mpr e
        subst this
        exact k _ H _ m (.refl H) rm (.tup sb rb) h
      · have : es = [] := rb.nil_iff.mpr e2
        subst this
        rw [List.append_nil] at h
        exact k _ H _ m (.refl H) rm (.tup sa ra) h
      · exact k _ _ _ m (.new hp) (rm.skip hp) (.tup upd_same ((ra.append rb).mono (.new hp))) h
    | _ => exact h.elim
  | ref a =>
    cases ry with
    | ref b =>
      obtain ⟨xs, ys, h1, h2, hs9, h⟩ := h
      obtain ⟨vs, e1, r1⟩ := rm _ _ h1
      obtain ⟨ws, e2, r2⟩ := rm _ _ h2
      exact .inr (.inr (.inr ⟨a, b, vs, ws, rfl, rfl, e1, e2, by rw [← r1.length, ← r2.length]; exact hs9, fun p hp => k _ _ _ _ (.new hp) (rm.newL hp (r1.append r2)) (.ref p) (h p (rm.fresh hp))⟩))
    | _ => exact h.elim
  | _ => exact h.elim
def dInt2 (C : Int → Int → Prop) (g : Int → Int → Int) : D2 := fun x y m Q => match x, y with
  | .int i, .int j => C i j ∧ Q (.int (g i j)) m
  | _, _ => False
theorem lr_int2 {K : PySem.W.Frag} {C : Int → Int → Prop} {g : Int → Int → Int} : LR K (rI C fun i j => .int (g i j)) (dInt2 C g) := fun x y H dx dy m Qd Q rm rx ry h k => by
  cases rx with
  | int i =>
    cases ry with
    | int j => exact ⟨i, j, rfl, rfl, h.1, k _ H _ m (.refl H) rm (.int _) h.2⟩
    | _ => exact h.elim
  | _ => exact h.elim
def dSub : D2 := fun x y m Q => match x, y with
  | .int i, .int j => Q (.int (i - j)) m
  | _, _ => False
theorem lr_sub {K : PySem.W.Frag} : LR K (rI0 fun i j => .int (i - j)) dSub := fun x y H dx dy m Qd Q rm rx ry h k => by
  cases rx with
  | int i =>
    cases ry with
    | int j => exact ⟨i, j, rfl, rfl, k _ H _ m (.refl H) rm (.int _) h⟩
    | _ => exact h.elim
  | _ => exact h.elim
abbrev dFdiv : D2 := dInt2 CDiv fun i j => i / j
abbrev dMod : D2 := dInt2 (fun _ j => 0 < j) fun i j => i % j
/-! a text times a number -/
def repS (x : Str) (n : Nat) : Str := ⟨(List.replicate n x.cps).foldl (· ++ ·) #[]⟩
def rMulS : R2 := fun x y H Q => ∃ z n, x = .str z ∧ y = .int n ∧ 0 ≤ n ∧ n ≤ 1000 ∧ z.length ≤ 1000 ∧ Q (.str (repS z n.toNat)) H
theorem repS_zero (x : Str) : repS x 0 = Str.empty := rfl
theorem repS_one (x : Str) : repS x 1 = x := by
  unfold repS
  show (⟨#[] ++ x.cps⟩ : Str) = x
  rw [Array.empty_append]
theorem repS_nil (x : Str) (h : x.length = 0) : ∀ n, repS x n = x
  | 0 => by
    have e : x.cps = #[] := Array.size_eq_zero_iff.mp h
    show (⟨#[]⟩ : Str) = x
    rw [← e]
  | n + 1 => by
    have e : x.cps = #[] := Array.size_eq_zero_iff.mp h
    have ih := repS_nil x h n
    unfold repS at ih ⊢
    rw [List.replicate_succ, List.foldl_cons, e, Array.append_empty]
    rw [e] at ih
    exact ih
theorem rep_size (c : Array Nat) : ∀ (n : Nat) (acc : Array Nat), ((List.replicate n c).foldl (· ++ ·) acc).size = acc.size + n * c.size
  | 0, acc => by rw [Nat.zero_mul]; rfl
  | n + 1, acc => by
    rw [List.replicate_succ, List.foldl_cons, rep_size c n (acc ++ c), Array.size_append, Nat.succ_mul]
    omega
theorem repS_len (x : Str) (n : Nat) : (repS x n).length = n * x.length := by
  show ((List.replicate n x.cps).foldl (· ++ ·) #[]).size = _
  rw [rep_size]
  show 0 + n * x.cps.size = n * x.cps.size
  omega
theorem op_mulS : OpR X (binaryOp .Mult) rMulS := by
  intro pz s τ H x y v u Q I rx ry h
  obtain ⟨z, n, rfl, rfl, h0, h1, hs9, q⟩ := h
  obtain ⟨t, rfl⟩ := rx
  obtain ⟨t', rfl⟩ := ry
  have le9 : z.length * n.toNat ≤ 1000000 := Nat.mul_le_mul hs9 (show n.toNat ≤ 1000 by omega)
  refine PySem.P.mul_str ?_ ?_ ?_ ?_
  · rw [decide_eq_false (by omega), decide_eq_false (by omega)]; rfl
  · intro g _ hgt
    have g2 : (1000 : Int) ≤ (2 ^ 63 - 1) / n := by
      rw [Int.le_ediv_iff_mul_le (by omega)]
      omega
    omega
  · intro _ _
    unfold Builtin.Str.tooLong
    rw [decide_eq_false]
    rw [sizeLine_eq]
    omega
  · by_cases h2 : n < 1
    · rw [if_pos h2]
      have e : n.toNat = 0 := by omega
      rw [e] at q
      exact ⟨by decide, .str _, H, I.tok _, ⟨_, rfl⟩, q⟩
    · rw [if_neg h2]
      by_cases h3 : (n == 1 || z.length == 0) = true
      · rw [if_pos h3]
        have e : repS z n.toNat = z := by
          rw [Bool.or_eq_true, beq_iff_eq, beq_iff_eq] at h3
          rcases h3 with e | e
          · subst e; exact repS_one z
          · exact repS_nil z e _
        rw [e] at q
        exact ⟨.str _, H, I, ⟨_, rfl⟩, q⟩
      · rw [if_neg h3]
        refine ⟨?_, .str _, H, I.tok _, ⟨_, rfl⟩, q⟩
        show (repS z n.toNat).length ≤ sizeLine
        rw [repS_len, sizeLine_eq, Nat.mul_comm]
        omega
def dMul : D2 := fun x y m Q => match x, y with
  | .int i, .int j => CMul i j ∧ Q (.int (i * j)) m
  | .str z, .int n => 0 ≤ n ∧ n ≤ 1000 ∧ z.length ≤ 1000 ∧ Q (.str (repS z n.toNat)) m
  | _, _ => False
def rMulU : R2 := fun x y H Q => rI CMul (fun i j => .int (i * j)) x y H Q ∨ rMulS x y H Q
theorem op_mulU : OpR X (binaryOp .Mult) rMulU := op_mul.or op_mulS
theorem lr_mul {K : PySem.W.Frag} : LR K rMulU dMul := fun x y H dx dy m Qd Q rm rx ry h k => by
  cases rx with
  | int i =>
    cases ry with
    | int j => exact .inl ⟨i, j, rfl, rfl, h.1, k _ H _ m (.refl H) rm (.int _) h.2⟩
    | _ => exact h.elim
  | str i =>
    cases ry with
    | int j => exact .inr ⟨i, j, rfl, rfl, h.1, h.2.1, h.2.2.1, k _ H _ m (.refl H) rm (.str _) h.2.2.2⟩
    | _ => exact h.elim
  | _ => exact h.elim
end
end PD

set_option Elab.async false
set_option linter.all false
set_option maxRecDepth 100000
set_option maxHeartbeats 4000000
namespace PD
open PySem PySem.Spec PyProof.Rows L2
section
variable {X : Cx}
/-! ### - x; orders; is None -/
def LU (K : PySem.W.Frag) (r : V → Hp → VK → Prop) (d : D → Mu → DK → Prop) : Prop := ∀ x H dx m (Qd : DK) (Q : VK), RM K H m → Rep K H dx x → d dx m Qd →
  (∀ v H' dv m', TX H H' → RM K H' m' → Rep K H' dv v → Qd dv m' → Q v H') → r x H Q
def dUn (r : D → Mu → DK → Prop) (a : DE) : DE := fun s m Q => a s m fun x m1 => r x m1 Q
theorem ge_un {a : Expr} {pos : Pos} {da : DE} {op : UnaryOp} {r : V → Hp → VK → Prop} {d : D → Mu → DK → Prop} (ho : UnR X (unaryOp op) r) (lr : LU X.K r d) (ha : GE X a da) : GE X (.UnaryOp op a pos) (dUn d da) := by
  obtain ⟨ta, p, l⟩ := ha.ex
  refine .of ⟨_, pe_un ho p, fun s H sd m Qd Q rs rm h k => ?_⟩
  refine l s H sd m _ _ rs rm h fun v H1 dv m1 t1 rm1 r1 h1 => ?_
  exact lr v H1 dv m1 Qd Q rm1 r1 h1 fun v' H' dv' m' t' a b c => k v' H' dv' m' (t1.trans t') a b c
def dNeg : D → Mu → DK → Prop := fun x m Q => match x with | .int i => Q (.int (-i)) m | _ => False
theorem lu_neg {K : PySem.W.Frag} : LU K (rU fun i => .int (-i)) dNeg := fun x H dx m Qd Q rm rx h k => by
  cases rx with
  | int i => exact ⟨i, rfl, k _ H _ m (.refl H) rm (.int _) h⟩
  | _ => exact h.elim
def dCmp (g : Int → Int → Bool) : D2 := fun x y m Q => match x, y with
  | .int i, .int j => Q (.bl (g i j)) m
  | _, _ => False
theorem lr_cmp {K : PySem.W.Frag} {g : Int → Int → Bool} : LR K (rI0 fun i j => .bl (g i j)) (dCmp g) := fun x y H dx dy m Qd Q rm rx ry h k => by
  cases rx with
  | int i =>
    cases ry with
    | int j => exact ⟨i, j, rfl, rfl, k _ H _ m (.refl H) rm (.bl _) h⟩
    | _ => exact h.elim
  | _ => exact h.elim
abbrev dLt : D2 := dCmp fun i j => decide (i < j)
abbrev dLe : D2 := dCmp fun i j => decide (i ≤ j)
abbrev dGt : D2 := dCmp fun i j => decide (j < i)
abbrev dGe : D2 := dCmp fun i j => decide (j ≤ i)
def isNon : D → Bool
  | .non => true
  | _ => false
def dIsN : D2 := fun x y m Q => match y with | .non => Q (.bl (isNon x)) m | _ => False
def dNotN : D2 := fun x y m Q => match y with | .non => Q (.bl (!isNon x)) m | _ => False
theorem Rep.isNon {K : PySem.W.Frag} {H : Hp} {d : D} {v : V} (r : Rep K H d v) : decide (v = .non) = isNon d := by
  cases r <;> first | rfl | exact decide_eq_false (fun z => nomatch z)
theorem lr_isN {K : PySem.W.Frag} : LR K (fun x y H Q => y = .non ∧ Q (.bl (decide (x = .non))) H) dIsN := fun x y H dx dy m Qd Q rm rx ry h k => by
  cases ry with
  | non => exact ⟨rfl, k _ H _ m (.refl H) rm (by rw [rx.isNon]; exact .bl _) h⟩
  | _ => exact h.elim
theorem lr_notN {K : PySem.W.Frag} : LR K (fun x y H Q => y = .non ∧ Q (.bl (!decide (x = .non))) H) dNotN := fun x y H dx dy m Qd Q rm rx ry h k => by
  cases ry with
  | non => exact ⟨rfl, k _ H _ m (.refl H) rm (by rw [rx.isNon]; exact .bl _) h⟩
  | _ => exact h.elim
/-! ### in, not in: flat items; texts -/
def inF (x : D) (ds : List D) : Bool := ds.any fun y => eqF y x
def dInG (f : Bool → Bool) : D2 := fun x y m Q => match y with
  | .str z => match x with
    | .str w => Q (.bl (f (!(Builtin.Str.occurrences z w 0 z.length 1).isEmpty))) m
    | _ => False
  | y => ∃ ds, seqOf m y = some ds ∧ flatD x = true ∧ ds.all flatD = true ∧ Q (.bl (f (inF x ds))) m
abbrev dIn : D2 := dInG fun b => b
abbrev dNotIn : D2 := dInG fun b => !b
def rInU (K : PySem.W.Frag) : R2 := fun x y H Q => (∃ i j, x = .str i ∧ y = .str j ∧ Q (.bl (!(Builtin.Str.occurrences j i 0 j.length 1).isEmpty)) H) ∨ rIn K false x y H Q
def rNotInU (K : PySem.W.Frag) : R2 := fun x y H Q => (∃ i j, x = .str i ∧ y = .str j ∧ Q (.bl (!(!(Builtin.Str.occurrences j i 0 j.length 1).isEmpty))) H) ∨ rIn K true x y H Q
theorem op_inU : OpR X (compareOp .In) (rInU X.K) := op_in_str.or op_in_seq
theorem op_notInU : OpR X (compareOp .NotIn) (rNotInU X.K) := op_notIn_str.or op_notIn_seq
theorem in_seq {K : PySem.W.Frag} {f : Bool → Bool} {neg : Bool} (hf : ∀ b, f b = if neg then !b else b) {x y : V} {H : Hp} {dx dy : D} {m : Mu} {Qd : DK} {Q : VK} (rm : RM K H m) (rx : Rep K H dx x) (ry : Rep K H dy y)
    (h : ∃ ds, seqOf m dy = some ds ∧ flatD dx = true ∧ ds.all flatD = true ∧ Qd (.bl (f (inF dx ds))) m)
    (k : ∀ v H' dv m', TX H H' → RM K H' m' → Rep K H' dv v → Qd dv m' → Q v H') : rIn K neg x y H Q := by
  obtain ⟨ds, e, fx, g, q⟩ := h
  obtain ⟨a, vs, rfl, s, r⟩ := seq_rep rm ry e
  refine ⟨a, vs, rfl, s, rx.flat fx, r.flat g, ?_⟩
  rw [RepL.inV rx fx r g, ← hf]
  exact k _ H _ m (.refl H) rm (.bl _) q
theorem lr_in {K : PySem.W.Frag} : LR K (rInU K) dIn := fun x y H dx dy m Qd Q rm rx ry h k => by
  have hf : ∀ b : Bool, (fun b : Bool => b) b = if false then !b else b := fun b => rfl
  cases ry with
  | str z =>
    cases rx with
    | str w => exact .inl ⟨w, z, rfl, rfl, k _ H _ m (.refl H) rm (.bl _) h⟩
    | _ => exact h.elim
  | ref a => exact .inr (in_seq hf rm rx (.ref a) h k)
  | tup s r => exact .inr (in_seq hf rm rx (.tup s r) h k)
  | rol s r => exact .inr (in_seq hf rm rx (.rol s r) h k)
  | dic e n r => exact .inr (in_seq hf rm rx (.dic e n r) h k)
  | dicT e n r => exact .inr (in_seq hf rm rx (.dicT e n r) h k)
  | obj e n r => exact .inr (in_seq hf rm rx (.obj e n r) h k)
  | non => exact .inr (in_seq hf rm rx .non h k)
  | bl b => exact .inr (in_seq hf rm rx (.bl b) h k)
  | int b => exact .inr (in_seq hf rm rx (.int b) h k)
theorem lr_notIn {K : PySem.W.Frag} : LR K (rNotInU K) dNotIn := fun x y H dx dy m Qd Q rm rx ry h k => by
  have hf : ∀ b : Bool, (fun b : Bool => !b) b = if true then !b else b := fun b => rfl
  cases ry with
  | str z =>
    cases rx with
    | str w => exact .inl ⟨w, z, rfl, rfl, k _ H _ m (.refl H) rm (.bl _) h⟩
    | _ => exact h.elim
  | ref a => exact .inr (in_seq hf rm rx (.ref a) h k)
  | tup s r => exact .inr (in_seq hf rm rx (.tup s r) h k)
  | rol s r => exact .inr (in_seq hf rm rx (.rol s r) h k)
  | dic e n r => exact .inr (in_seq hf rm rx (.dic e n r) h k)
  | dicT e n r => exact .inr (in_seq hf rm rx (.dicT e n r) h k)
  | obj e n r => exact .inr (in_seq hf rm rx (.obj e n r) h k)
  | non => exact .inr (in_seq hf rm rx .non h k)
  | bl b => exact .inr (in_seq hf rm rx (.bl b) h k)
  | int b => exact .inr (in_seq hf rm rx (.int b) h k)
/-! ### x[i] -/
def dIx : D2 := fun x y m Q => match x with
  | .str z => match y with
    | .int i => z.length ≤ sizeLine ∧ ∃ c, atI z.cps.toList i = some c ∧ Q (.str ⟨#[c]⟩) m
    | _ => False
  | x => match y with
    | .int i => ∃ ds, seqOf m x = some ds ∧ ∃ d, atI ds i = some d ∧ Q d m
    | _ => False
theorem RepL.atI {K : PySem.W.Frag} {H : Hp} {ds : List D} {vs : List V} {i : Int} {d : D} (r : RepL K H ds vs) (h : L2.atI ds i = some d) : ∃ v, L2.atI vs i = some v ∧ Rep K H d v := by
  unfold L2.atI at h ⊢
  rw [← r.length]
  cases e : ixN ds.length i with
  | none => rw [e] at h; cases h
  | some j => rw [e] at h; exact r.get h
theorem ge_ix {a b : Expr} {pos : Pos} {da db : DE} (ha : GE X a da) (hb : GE X b db) (hs : PlainIx b := by exact fun _ _ => rfl) : GE X (.Subscript a b pos) (dOp dIx da db) := by
  obtain ⟨ta, p, l⟩ := ha.ex
  obtain ⟨tb, q, l2⟩ := hb.ex
  refine .of ⟨_, pe_ix ix_seq p q hs, l.op l2 fun x y H dx dy m Qd Q rm rx ry h k => ?_⟩
  have go : ∀ {dx : D} {i : Int}, Rep X.K H dx x → (∃ ds, seqOf m dx = some ds ∧ ∃ d, L2.atI ds i = some d ∧ Qd d m) → rIx X.K x (.int i) H Q := fun {dx i} rx h => by
    obtain ⟨ds, e, d, e2, q⟩ := h
    obtain ⟨a, vs, rfl, s, r⟩ := seq_rep rm rx e
    obtain ⟨v, e3, ra9⟩ := r.atI e2
    rcases s with s | s
    · exact .inl ⟨a, vs, i, v, rfl, rfl, s, e3, k v H d m (.refl H) rm ra9 q⟩
    · exact .inr (.inl ⟨a, vs, i, v, rfl, rfl, s, e3, k v H d m (.refl H) rm ra9 q⟩)
  cases ry with
  | int i =>
    cases rx with
    | str z =>
      obtain ⟨hs9, c, e, q⟩ := h
      exact .inr (.inr ⟨z, i, c, rfl, rfl, hs9, e, k _ H _ m (.refl H) rm (.str _) q⟩)
    | non => exact go .non h
    | bl b => exact go (.bl b) h
    | int b => exact go (.int b) h
    | ref a => exact go (.ref a) h
    | tup s r => exact go (.tup s r) h
    | rol s r => exact go (.rol s r) h
    | dic e n r => exact go (.dic e n r) h
    | dicT e n r => exact go (.dicT e n r) h
    | obj e n r => exact go (.obj e n r) h
  | _ => cases rx <;> exact h.elim
/-! ### slices -/
abbrev DO := Sd → Mu → (Option Int → Mu → Prop) → Prop
structure GO (X : Cx) (e : Option Expr) (d : DO) : Prop where
  ex : ∃ t, PO X e t ∧ ∀ s H sd m (Qd : Option Int → Mu → Prop) (Q : Option Int → Hp → Prop), RS X.K H sd s → RM X.K H m → d sd m Qd → (∀ o H' m', TX H H' → RM X.K H' m' → Qd o m' → Q o H') → t s H Q
def dNoPart : DO := fun _ m Q => Q none m
def dPart (d : DE) : DO := fun s m Q => d s m fun x m1 => match x with | .int i => Q (some i) m1 | _ => False
theorem go_none : GO X none dNoPart := ⟨_, po_none, fun _ H _ m _ _ _ rm h k => k none H m (.refl H) rm h⟩
theorem go_some {e : Expr} {d : DE} (h : GE X e d) : GO X (some e) (dPart d) := by
  obtain ⟨t, p, l⟩ := h.ex
  refine ⟨_, po_some p, fun s H sd m Qd Q rs rm h k => ?_⟩
  refine l s H sd m _ _ rs rm h fun v H1 dv m1 t1 rm1 r1 h1 => ?_
  cases r1 with
  | int i => exact ⟨i, rfl, k _ H1 m1 t1 rm1 h1⟩
  | _ => exact h1.elim
def cutD {α : Type} (xs : List α) (lo hi : Option Int) : List α := (xs.drop (HT.sIx xs.length 0 lo)).take (HT.sIx xs.length xs.length hi - HT.sIx xs.length 0 lo)
theorem RepL.cut {K : PySem.W.Frag} {H : Hp} {ds : List D} {vs : List V} (r : RepL K H ds vs) (lo hi : Option Int) : RepL K H (cutD ds lo hi) (cutV vs lo hi) := by
  unfold cutD cutV
  rw [r.length]
  exact (r.drop _).take _
def dSl (de : DE) (dl dh : DO) : DE := fun s m Q => de s m fun x m1 => dl s m1 fun lo m2 => dh s m2 fun hi m3 => match x with
  | .tup ds => Q (.tup (cutD ds lo hi)) m3
  | .ref a => ∃ ds, seqOf m3 (.ref a) = some ds ∧ ∀ p, m3 p = none → Q (.ref p) (mset m3 p (.lst (cutD ds lo hi)))
  | _ => False
theorem ge_slice {e : Expr} {lo hi : Option Expr} {pos p2 : Pos} {de : DE} {dl dh : DO} (he : GE X e de) (hl : GO X lo dl) (hh : GO X hi dh) : GE X (.Subscript e (.Slice lo hi none p2) pos) (dSl de dl dh) := by
  obtain ⟨te, p, l⟩ := he.ex
  obtain ⟨tl, q, l2⟩ := hl.ex
  obtain ⟨th, q2, l3⟩ := hh.ex
  refine .of ⟨_, pe_slice (sl_tupA.or sl_list) p q q2, fun s H sd m Qd Q rs rm h k => ?_⟩
  refine l s H sd m _ _ rs rm h fun v H1 dv m1 t1 rm1 r1 h1 => ?_
  refine l2 s H1 sd m1 _ _ (rs.mono t1) rm1 h1 fun lo H2 m2 t2 rm2 h2 => ?_
  refine l3 s H2 sd m2 _ _ (rs.mono (t1.trans t2)) rm2 h2 fun hi H3 m3 t3 rm3 h3 => ?_
  have r3 := r1.mono (t2.trans t3)
  have t13 := t1.trans (t2.trans t3)
  cases r3 with
  | @tup ds a vs sa ra =>
    refine .inl ⟨a, vs, rfl, sa, fun e => ?_, fun e p hp => ?_⟩
    · have e2 : cutD ds lo hi = ds := by
        unfold cutD
        rw [ra.length, e.1, e.2, List.drop_zero, Nat.sub_zero, ← ra.length, List.take_length]
      have h4 : Qd (.tup (cutD ds lo hi)) m3 := h3
      rw [e2] at h4
      exact k _ H3 _ m3 t13 rm3 (.tup sa ra) h4
    · exact k _ _ _ m3 (t13.trans (.new hp)) (rm3.skip hp) (.tup upd_same ((ra.cut lo hi).mono (.new hp))) h3
  | ref a =>
    obtain ⟨ds, e, q⟩ := h3
    obtain ⟨vs, sl, r⟩ := ref_rep rm3 e
    exact .inr ⟨a, vs, rfl, sl, fun p hp => k _ _ _ _ (t13.trans (.new hp)) (rm3.newL hp (r.cut lo hi)) (.ref p) (q p (rm3.fresh hp))⟩
  | _ => exact h3.elim
end
end PD

set_option Elab.async false
set_option linter.all false
set_option maxRecDepth 100000
set_option maxHeartbeats 4000000
/-! enumerate(tuple) -/
namespace PySem
open Sem (wp)
open AutoSeq1 (wpAny_loadPart')
theorem pd_meets_enumT (l : Addr) (gs9 : Array Value) (n : Nat) (dc9 : Option Addr) (sl : Array (Option Value)) :
    Meets (Builtin.«enumerate.__new__» ⟨[.type "enumerate", .ref l], []⟩) (fun _ R s => s.heap.get? l = some { cls := .type "tuple", dict := dc9, data := .seq gs9 n, slots := sl } ∧
      R (.ok (.ret (.ref (s.heap.push { cls := .type "tuple_iterator", data := .fields #[.ref l, .int 0 0] }).objs.size)))
        { s with heap := (s.heap.push { cls := .type "tuple_iterator", data := .fields #[.ref l, .int 0 0] }).push { cls := .type "enumerate", data := .fields #[.none, .bool false, .ref s.heap.objs.size, rawInt 0, .none, .none] } }) :=
  .of_wp fun pg9 w A R s h => by
    obtain ⟨hp, g, d, tk9, os9⟩ := s; obtain ⟨ha9, h⟩ := h
    have hsub := sub_enumerate
    have hL : Heap.IsTuple (Shared.heap ⟨hp, g, d, tk9, os9⟩) l gs9 := ⟨_, ha9, rfl, n, rfl⟩
    wp_walk using wpAny_loadPart' ha9
    refine wpAny_stack_any fun st => wpAny_pure ?_
    split
    · rename_i c _ _ _ _ _
      cases (c == Value.type "enumerate")
      · wp_walk using wpAny_loadPart' ha9, wpAny_pyIter_tuple hL
        exact ⟨_, rfl, h⟩
      · wp_walk using wpAny_loadPart' ha9, wpAny_pyIter_tuple hL
        exact ⟨_, rfl, h⟩
    · wp_walk using wpAny_loadPart' ha9, wpAny_pyIter_tuple hL
      exact ⟨_, rfl, h⟩
section
variable {pg9 : Program} {w : World} {A : Around} {E : Value → Shared → Prop} {s : Shared}
theorem pd_call_enumT {l : Addr} {gs9 : Array Value} {Q : Value → Shared → Prop} (hL : s.heap.IsTuple l gs9)
    (h : ∀ h', IsEnum h' (s.heap.objs.size + 1) s.heap.objs.size 0 .none → h'.IsTupleIter s.heap.objs.size l 0 → h'.objs.size = s.heap.objs.size + 2 →
      (∀ b o, s.heap.get? b = some o → h'.get? b = some o) → Q (.ref (s.heap.objs.size + 1)) { s with heap := h' }) :
    wpAny (model pg9 w) A (call (.type "enumerate") [.ref l]) Q E s := by
  obtain ⟨⟨c, dc9, dt9, sl⟩, ha9, ca9, n, da9⟩ := hL
  replace ca9 : c = .type "tuple" := ca9
  replace da9 : dt9 = .seq gs9 n := da9
  subst ca9 da9
  refine callType_new F.called_enumerate (by decide) (F.typeCall_enumerate_1 _) (F.newCall_enumerate_1 _) (fun obj => F.args_object_init_2 obj _) F.entry_enumerate_new
    (pd_meets_enumT l gs9 n dc9 sl) ⟨ha9, ?_⟩
  have hs9 : (s.heap.push { cls := .type "tuple_iterator", data := .fields #[.ref l, .int 0 0] }).objs.size = s.heap.objs.size + 1 := Heap.size_push ..
  show _ ∧ _
  rw [hs9]
  have ea9 : IsEnum ((s.heap.push { cls := .type "tuple_iterator", data := .fields #[.ref l, .int 0 0] }).push
      { cls := .type "enumerate", data := .fields #[.none, .bool false, .ref s.heap.objs.size, rawInt 0, .none, .none] }) (s.heap.objs.size + 1) s.heap.objs.size 0 .none := by
    have := Heap.get?_push_size (s.heap.push { cls := .type "tuple_iterator", data := .fields #[.ref l, .int 0 0] })
      (o := { cls := .type "enumerate", data := .fields #[.none, .bool false, .ref s.heap.objs.size, rawInt 0, .none, .none] }) rfl
    rw [hs9] at this; exact this
  refine ⟨⟨_, ea9, rfl⟩, h _ ea9 ⟨_, Heap.get?_push_of_some _ (Heap.get?_push_size _ rfl), rfl, rfl⟩ (by rw [Heap.size_push, hs9]) fun b o x => Heap.get?_push_of_some _ (Heap.get?_push_of_some _ x)⟩
end
end PySem
namespace PD
open PySem PySem.Spec PyProof.Rows L2
def Itet (K : PySem.W.Frag) (a : Addr) : It :=
  ⟨fun i H => ∃ (xs : List V) (x : V), SqT K H a xs ∧ xs[i]? = some x, fun i H v H' => ∃ T x, v = .ref T ∧ H T = none ∧ H' = upd H T (.tup [.int (i : Nat), x]) ∧ ∀ xs, SqT K H a xs → xs[i]? = some x, fun i H => ∃ xs : List V, SqT K H a xs ∧ xs.length ≤ i⟩
theorem turn_enumT {P : Program} {w : World} {K : PySem.W.Frag} {elts : List Expr} {kk : Nat} {tpos : Pos} (a e jt9 : Addr) :
    Turn P w K (.Tuple elts kk tpos) (Itet K a) [e, jt9] e (fun i h => (∃ ol9, IsEnum h e jt9 ((i : Nat) : Int) ol9) ∧ h.IsTupleIter jt9 a i ∧ e ≠ jt9) where
  mem := by simp
  obj := fun i h st b hb => by
    obtain ⟨⟨ol9, ea9⟩, ⟨o, oa9, ca9, da9⟩, _⟩ := st
    have ee9 : b = e ∨ b = jt9 := by simpa using hb
    rcases ee9 with z | z
    · rw [z]; exact ⟨_, ea9, fun v q => nomatch q⟩
    · rw [z]; exact ⟨o, oa9, fun v q => by rw [da9] at q; cases q⟩
  keep := fun i h h' st k => let ⟨⟨ol9, ea9⟩, hi, na9⟩ := st; ⟨⟨ol9, k e (by simp) _ ea9⟩, hi.at fun o q => k jt9 (by simp) o q, na9⟩
  item := by
    intro X hP hw hK ca9 i pz s τ H E I fa9 st hg
    subst hP hw hK
    obtain ⟨⟨ol9, ea9⟩, ia9, na9⟩ := st
    obtain ⟨xs, x, hq, hx⟩ := hg
    obtain ⟨xs9, ra9, pp9, hs9⟩ := I.tuple hq
    obtain ⟨u, hu, ru⟩ := ra9.get hx
    have ka9 : e < s.heap.objs.size := Heap.lt_size ea9
    have la9 : jt9 < s.heap.objs.size := by obtain ⟨_, q, _⟩ := ia9; exact Heap.lt_size q
    have hta : a ≠ jt9 := fun z => by
      obtain ⟨o1, q1, c1, _⟩ := ia9
      obtain ⟨o2, q2, c2, _⟩ := id pp9
      rw [z, q1] at q2; cases q2
      rw [c1] at c2; exact absurd c2 (by decide)
    have hte : e ≠ a := fun z => by
      obtain ⟨o2, q2, c2, _⟩ := id pp9
      have he' : s.heap.get? e = some _ := ea9
      rw [z, q2] at he'; cases he'
      have c3 : Value.type "enumerate" = Value.type "tuple" := c2
      exact absurd c3 (by decide)
    have hd1 : X.A.in1.handled = none := I.ok.hd ca9
    have Dr := Draws.tuple (prog := X.prog) (w := X.w) (A := X.A.in1) hd1 jt9 a hta xs9.toArray
    refine wpAny_pyNext_enum_itemD Dr ea9 ⟨ia9, pp9⟩ (by have := (List.getElem?_eq_some_iff.mp hu).1; simpa using this) na9 (fun z => by
      have ee9 : e = jt9 ∨ e = a := by simpa using z
      rcases ee9 with q | q
      · exact na9 q
      · exact hte q) fun y h' tk9 hy oa9 st' hT za9 ga9 => ?_
    have hyu : y = u := by
      have hy' : xs9.toArray[i]? = some y := hy
      have hu' : xs9.toArray[i]? = some u := by simpa using hu
      rw [hu'] at hy'; cases hy'; rfl
    subst hyu
    obtain ⟨hit', hta'⟩ := st'
    refine ⟨_, rfl, wpAny_letOwnedTupleGo_enum (s := { s with heap := h', toks := tk9 + 1 }) oa9 fun h'' he' sb => ?_⟩
    have hT2 : h''.get? s.heap.objs.size = some { cls := .type "tuple", data := .seq #[.int i tk9, y] } := (sb.2 _ (Nat.ne_of_gt ka9)).trans hT
    have nw9 : ObjOk X.prog X.w (upd H s.heap.objs.size (.tup [.int (i : Nat), x])) h'' s.heap.objs.size (.tup [.int (i : Nat), x]) :=
      ⟨by show 2 ≤ sizeLine; decide, [.int i tk9, y], .cons ⟨_, rfl⟩ (.cons ru .nil), ⟨_, hT2, rfl, _, rfl⟩⟩
    have iA : Inv X pz τ (upd H s.heap.objs.size (.tup [.int (i : Nat), x])) { s with heap := h'', toks := tk9 + 1 } :=
      I.turnedNew (ch := [e, jt9]) (fun b ob hb q => (sb.2 b (fun z => hb (by simp [z]))).trans (ga9 b ob (fun z => hb (by simp [z])) (fun z => hb (by simp [z])) q)) fa9 (Nat.le_refl _) nw9
    refine ⟨.ref s.heap.objs.size, _, iA, rfl, ⟨_, x, rfl, I.hok.fresh (Nat.le_refl _), rfl, fun ys hy => by rw [I.tuple_inj hy hq]; exact hx⟩, ⟨⟨y, ?_⟩, hit'.at fun o q => (sb.2 jt9 (Ne.symm na9)).trans q, na9⟩, fun b hb => ?_⟩
    · have e1 : ((i + 1 : Nat) : Int) = (i : Int) + 1 := by omega
      rw [e1]; exact he'
    · have bb9 : b < s.heap.objs.size := by
        have ee9 : b = e ∨ b = jt9 := by simpa using hb
        rcases ee9 with z | z
        · rw [z]; exact ka9
        · rw [z]; exact la9
      rw [upd_ne (Nat.ne_of_lt bb9)]
      exact (fa9 b hb).1
  done := by
    intro X hP hw hK ca9 i pz s τ H E I fa9 st hg
    subst hP hw hK
    obtain ⟨⟨ol9, ea9⟩, ia9, na9⟩ := st
    obtain ⟨xs, hq, hx⟩ := hg
    obtain ⟨xs9, ra9, pp9, hs9⟩ := I.tuple hq
    obtain ⟨f0, f1, f2, f3, f4, f5⟩ := fa9 jt9 (by simp)
    have ha9 := ra9.length
    have hta : a ≠ jt9 := fun z => by
      obtain ⟨o1, q1, c1, _⟩ := ia9
      obtain ⟨o2, q2, c2, _⟩ := id pp9
      rw [z, q1] at q2; cases q2
      rw [c1] at c2; exact absurd c2 (by decide)
    have hd1 : X.A.in1.handled = none := I.ok.hd ca9
    unfold pyNext
    refine wpAny_bind (wpAny_attempt (wpAny_callSpecial?_slot (name := Str.ofString "__next__") ⟨_, ea9, rfl⟩ F.slot_enumerate_next
      (wpAny_call_entry F.slot_enumerate_next ⟨_, ea9, rfl⟩ F.entry_enumerate_next ?_ (F.args_enumerate_next_1 _))))
    show wpAny _ _ (field (.ref e) 2 >>= _) _ _ _
    refine wpAny_bind (wpAny_field ea9 rfl (x := .ref jt9) rfl ?_)
    refine wpAny_bind (wpAny_nextOf_tuple_end hd1 ia9 pp9 (by simp; omega) fun h' x he' hx' => ?_)
    obtain ⟨o, oa9, ca9⟩ := hx'
    refine wpAny_bind (wpAny_isInstance (T := "StopIteration") (b := true) ⟨o, oa9, ca9⟩ isSubtype_stop ?_)
    exact wpAny_pure ⟨rfl, I.turned (t' := s.toks) (fun b o hb q => he' b o hb q) f0 f1 f3 f4 f5⟩
  self := fun A i s Q E st h => let ⟨⟨_, ea9⟩, _⟩ := st; wpAny_pyIter_enum ea9 h
def iEnumT (K : PySem.W.Frag) (ta : TA) : TI := fun τ H R => ta τ H fun vs H1 => ∃ a, vs = [.ref a] ∧ ((∃ xs, SqL K H1 a xs ∧ R (Ite K a) H1) ∨ (∃ xs, SqT K H1 a xs ∧ R (Itet K a) H1))
theorem pi_enumT {X : Cx} {e : Expr} {ta : TA} {pp9 pos tpos : Pos} {elts : List Expr} {kk : Nat} (hg : Gl X "enumerate") (hm : X.mg "enumerate" = none) (ha : PA X [e] ta) (hs : starEach [e] X.env = [(false, eval e X.env)] := by rfl) :
    PI X (.Tuple elts kk tpos) (.Call (.Name "enumerate" pp9) [e] [] pos) (iEnumT X.K ta) := by
  refine ⟨fun pz s τ H R I h => ?_⟩
  refine Call_ (ld_blt I hg hm boot_enumerate (PyProof.Rows.callWith_type1 (thn (ha.run pos pz s τ H _ I h) fun us tA ⟨vs, H1, iA, r1, q1⟩ => ?_) hs rfl))
  obtain ⟨a, ex, q⟩ := q1
  subst ex
  cases r1 with
  | cons r rr =>
    cases rr
    cases r
    have fin : ∀ b ∈ [tA.heap.objs.size + 1, tA.heap.objs.size], FpOk X pz H1 b := fun b hb => by
      have ee9 : b = tA.heap.objs.size + 1 ∨ b = tA.heap.objs.size := by simpa using hb
      have le9 : tA.heap.objs.size ≤ b := by
        rcases ee9 with z | z
        · rw [z]; exact Nat.le_add_right _ _
        · rw [z]; exact Nat.le_refl _
      exact iA.fpOk le9 (iA.hok.fresh le9)
    rcases q with ⟨xs, hq, q⟩ | ⟨xs, hq, q⟩
    · obtain ⟨xs9, ra9, p', hs9⟩ := iA.list hq
      refine call_enumerate_list p'.isList fun h' ea9 ia9 za9 ga9 => wpAny_pyIter_enum ea9 ?_
      have iB : Inv X pz τ H1 { tA with heap := h' } := iA.kept (t' := tA.toks) ga9
      exact ⟨tA.heap.objs.size + 1, [tA.heap.objs.size + 1, tA.heap.objs.size], _, _, H1, rfl, iB, turn_enum a (tA.heap.objs.size + 1) tA.heap.objs.size, ⟨⟨.none, ea9⟩, ia9, Nat.succ_ne_self _⟩, fin, q⟩
    · obtain ⟨xs9, ra9, p', hs9⟩ := iA.tuple hq
      refine pd_call_enumT (show tA.heap.IsTuple a xs9.toArray from p') fun h' ea9 ia9 za9 ga9 => wpAny_pyIter_enum ea9 ?_
      have iB : Inv X pz τ H1 { tA with heap := h' } := iA.kept (t' := tA.toks) ga9
      exact ⟨tA.heap.objs.size + 1, [tA.heap.objs.size + 1, tA.heap.objs.size], _, _, H1, rfl, iB, turn_enumT a (tA.heap.objs.size + 1) tA.heap.objs.size, ⟨⟨.none, ea9⟩, ia9, Nat.succ_ne_self _⟩, fin, q⟩
def iSeq (K : PySem.W.Frag) (tl : TE) : TI := fun τ H R => tl τ H fun x H1 => ∃ a, x = .ref a ∧ ((∃ xs, SqL K H1 a xs ∧ R (Itl K a) H1) ∨ (∃ xs, SqT K H1 a xs ∧ R (Itt K a) H1))
theorem pi_seq {X : Cx} {tg l : Expr} {tl : TE} (ha9 : PE X l tl) : PI X tg l (iSeq X.K tl) := by
  refine ⟨fun pz s τ H R I h => ?_⟩
  refine thn (ha9.run pz s τ H _ I h) fun v tA ⟨x, H1, iA, r1, q1⟩ => ?_
  obtain ⟨a, e, q⟩ := q1
  subst e
  cases r1
  rcases q with ⟨xs, hq, q⟩ | ⟨xs, hq, q⟩
  · obtain ⟨xs9, ra9, pp9, hs9⟩ := iA.list hq
    refine wpAny_pyIter_list pp9.isList ?_
    refine ⟨tA.heap.objs.size, [tA.heap.objs.size], _, _, H1, rfl, iA.kept (t' := tA.toks) fun b o e => Heap.get?_push_of_some _ e, turn_list a _, ⟨_, Heap.get?_push_size _ rfl, rfl, rfl⟩, fun b hb => ?_, q⟩
    have e : b = tA.heap.objs.size := by simpa using hb
    subst e
    exact iA.fpOk (Nat.le_refl _) (iA.hok.fresh (Nat.le_refl _))
  · obtain ⟨xs9, ra9, pp9, hs9⟩ := iA.tuple hq
    refine wpAny_pyIter_tuple (show tA.heap.IsTuple a xs9.toArray from pp9) ?_
    refine ⟨tA.heap.objs.size, [tA.heap.objs.size], _, _, H1, rfl, iA.kept (t' := tA.toks) fun b o e => Heap.get?_push_of_some _ e, turn_tuple a _, ⟨_, Heap.get?_push_size _ rfl, rfl, rfl⟩, fun b hb => ?_, q⟩
    have e : b = tA.heap.objs.size := by simpa using hb
    subst e
    exact iA.fpOk (Nat.le_refl _) (iA.hok.fresh (Nat.le_refl _))
end PD

set_option Elab.async false
set_option linter.all false
set_option maxRecDepth 100000
set_option maxHeartbeats 4000000
namespace PD
open PySem PySem.Spec PyProof.Rows L2
section
variable {X : Cx}
/-! ### displays -/
def dTup (a : DA) : DE := fun s m Q => a s m fun ds m1 => ds.length ≤ sizeLine ∧ Q (.tup ds) m1
def dLst (a : DA) : DE := fun s m Q => a s m fun ds m1 => ds.length ≤ sizeLine ∧ ∀ p, m1 p = none → Q (.ref p) (mset m1 p (.lst ds))
theorem ge_tup {es : List Expr} {pos : Pos} {x1} {da : DA} (h : GA X es da) : GE X (.Tuple es x1 pos) (dTup da) := by
  obtain ⟨ta, p, l⟩ := h.ex
  refine .of ⟨_, pe_tup p, fun s H sd m Qd Q rs rm h k => ?_⟩
  refine l s H sd m _ _ rs rm h fun vs H1 ds m1 t1 rm1 r1 h1 => ?_
  exact ⟨by rw [← r1.length]; exact h1.1, fun p hp => k _ _ _ m1 (t1.trans (.new hp)) (rm1.skip hp) (.tup upd_same (r1.mono (.new hp))) h1.2⟩
theorem ge_lst {es : List Expr} {pos : Pos} {da : DA} (h : GA X es da) : GE X (.List es pos) (dLst da) := by
  obtain ⟨ta, p, l⟩ := h.ex
  refine .of ⟨_, pe_lst p, fun s H sd m Qd Q rs rm h k => ?_⟩
  refine l s H sd m _ _ rs rm h fun vs H1 ds m1 t1 rm1 r1 h1 => ?_
  exact ⟨by rw [← r1.length]; exact h1.1, fun p hp => k _ _ _ _ (t1.trans (.new hp)) (rm1.newL hp r1) (.ref p) (h1.2 p (rm1.fresh hp))⟩
/-! ### calls of built-ins -/
abbrev DC := List D → Mu → DK → Prop
def LC (K : PySem.W.Frag) (r : List V → Hp → VK → Prop) (d : DC) : Prop := ∀ vs H ds m (Qd : DK) (Q : VK), RM K H m → RepL K H ds vs → d ds m Qd →
  (∀ v H' dv m', TX H H' → RM K H' m' → Rep K H' dv v → Qd dv m' → Q v H') → r vs H Q
def dCB (d : DC) (a : DA) : DE := fun s m Q => a s m fun ds m1 => d ds m1 Q
theorem ge_callB {id : String} {x : Str} {p pos : Pos} {e : Expr} {es : List Expr} {r : List V → Hp → VK → Prop} {d : DC} {da : DA} (ca9 : CallR X (.builtin id) r) (lc : LC X.K r d) (hg : Gl X x) (ma9 : X.mg x = none) (hv : bootBuiltins x = some (.builtin id)) (ha : GA X (e :: es) da)
    (hn : x ≠ "__name__" := by decide) (hdb : (x == ("__debug__" : Str)) = false := by decide) (he : starEach (e :: es) X.env = (false, eval e X.env) :: starEach es X.env := by rfl) (hpl : (backTo pos (starEach es X.env)).any (·.1) = false := by rfl) :
    GE X (.Call (.Name x p) (e :: es) [] pos) (dCB d da) := by
  obtain ⟨ta, q, l⟩ := ha.ex
  refine .of ⟨_, pe_callB ca9 hg ma9 hv q hn hdb he hpl, fun s H sd m Qd Q rs rm h k => ?_⟩
  refine l s H sd m _ _ rs rm h fun vs H1 ds m1 t1 rm1 r1 h1 => ?_
  exact lc vs H1 ds m1 Qd Q rm1 r1 h1 fun v' H' dv' m' t' a b c => k v' H' dv' m' (t1.trans t') a b c
theorem ge_callTy {T : String} {x : Str} {p pos : Pos} {e : Expr} {es : List Expr} {r : List V → Hp → VK → Prop} {d : DC} {da : DA} (ca9 : CallR X (.type T) r) (lc : LC X.K r d) (hg : Gl X x) (ma9 : X.mg x = none) (hv : bootBuiltins x = some (.type T)) (ha : GA X (e :: es) da)
    (hn : x ≠ "__name__" := by decide) (hdb : (x == ("__debug__" : Str)) = false := by decide) (he : starEach (e :: es) X.env = (false, eval e X.env) :: starEach es X.env := by rfl) (hpl : (backTo pos (starEach es X.env)).any (·.1) = false := by rfl) :
    GE X (.Call (.Name x p) (e :: es) [] pos) (dCB d da) := by
  obtain ⟨ta, q, l⟩ := ha.ex
  refine .of ⟨_, pe_callTy ca9 hg ma9 hv q hn hdb he hpl, fun s H sd m Qd Q rs rm h k => ?_⟩
  refine l s H sd m _ _ rs rm h fun vs H1 ds m1 t1 rm1 r1 h1 => ?_
  exact lc vs H1 ds m1 Qd Q rm1 r1 h1 fun v' H' dv' m' t' a b c => k v' H' dv' m' (t1.trans t') a b c
theorem repL1 {K : PySem.W.Frag} {H : Hp} {d : D} {vs : List V} (r : RepL K H [d] vs) : ∃ v, vs = [v] ∧ Rep K H d v := by
  cases r with
  | cons a b => cases b; exact ⟨_, rfl, a⟩
theorem repL2 {K : PySem.W.Frag} {H : Hp} {d e : D} {vs : List V} (r : RepL K H [d, e] vs) : ∃ v u, vs = [v, u] ∧ Rep K H d v ∧ Rep K H e u := by
  cases r with
  | cons a b =>
    obtain ⟨u, rfl, q⟩ := repL1 b
    exact ⟨_, _, rfl, a, q⟩
def dLen : DC := fun ds m Q => match ds with
  | [.str z] => z.length ≤ sizeLine ∧ Q (.int z.length) m
  | [d] => ∃ es, seqOf m d = some es ∧ Q (.int es.length) m
  | _ => False
theorem call_lenU : CallR X (.builtin "len") (fun xs H Q => (∃ p ys, xs = [.ref p] ∧ (SqL X.K H p ys ∨ SqT X.K H p ys) ∧ Q (.int ys.length) H) ∨ ∃ z, xs = [.str z] ∧ z.length ≤ sizeLine ∧ Q (.int z.length) H) := call_len_seq.or call_len_str
theorem lc_len {K : PySem.W.Frag} : LC K (fun xs H Q => (∃ p ys, xs = [.ref p] ∧ (SqL K H p ys ∨ SqT K H p ys) ∧ Q (.int ys.length) H) ∨ ∃ z, xs = [.str z] ∧ z.length ≤ sizeLine ∧ Q (.int z.length) H) dLen := fun vs H ds m Qd Q rm r h k => by
  have go : ∀ {d : D}, RepL K H [d] vs → (∃ es, seqOf m d = some es ∧ Qd (.int es.length) m) → ∃ p ys, vs = [.ref p] ∧ (SqL K H p ys ∨ SqT K H p ys) ∧ Q (.int ys.length) H := fun {d} r h => by
    obtain ⟨es, e, q⟩ := h
    obtain ⟨v, rfl, ra9⟩ := repL1 r
    obtain ⟨a, ws, rfl, s, r2⟩ := seq_rep rm ra9 e
    exact ⟨a, ws, rfl, s, k _ H _ m (.refl H) rm (by rw [← r2.length]; exact .int _) q⟩
  match ds, r, h with
  | [.str z], r, h =>
    obtain ⟨v, rfl, ra9⟩ := repL1 r
    cases ra9
    exact .inr ⟨z, rfl, h.1, k _ H _ m (.refl H) rm (.int _) h.2⟩
  | [.non], r, h => exact .inl (go r h)
  | [.bl _], r, h => exact .inl (go r h)
  | [.int _], r, h => exact .inl (go r h)
  | [.ref _], r, h => exact .inl (go r h)
  | [.tup _], r, h => exact .inl (go r h)
  | [.rol _], r, h => exact .inl (go r h)
  | [.dic _ _], r, h => exact .inl (go r h)
  | [.dicT _ _], r, h => exact .inl (go r h)
  | [.obj _ _ _], r, h => exact .inl (go r h)
def dTuple : DC := fun ds m Q => match ds with
  | [d] => ∃ es, seqOf m d = some es ∧ Q (.tup es) m
  | _ => False
theorem lc_tuple {K : PySem.W.Frag} : LC K (fun xs H Q => ∃ p ys, xs = [.ref p] ∧ ((SqL K H p ys ∧ ∀ l, H l = none → Q (.ref l) (upd H l (.tup ys))) ∨ (SqT K H p ys ∧ Q (.ref p) H))) dTuple := fun vs H ds m Qd Q rm r h k => by
  match ds, r, h with
  | [d], r, h =>
    obtain ⟨es, e, q⟩ := h
    obtain ⟨v, rfl, ra9⟩ := repL1 r
    cases ra9 with
    | tup s r2 => cases e; exact ⟨_, _, rfl, .inr ⟨s.sq, k _ H _ m (.refl H) rm (.tup s r2) q⟩⟩
    | rol s r2 => cases e; exact ⟨_, _, rfl, .inl ⟨s.sq, fun l hl => k _ _ _ m (.new hl) (rm.skip hl) (.tup upd_same (r2.mono (.new hl))) q⟩⟩
    | ref a =>
      obtain ⟨ws, sl, r2⟩ := ref_rep rm e
      exact ⟨a, ws, rfl, .inl ⟨sl, fun l hl => k _ _ _ m (.new hl) (rm.skip hl) (.tup upd_same (r2.mono (.new hl))) q⟩⟩
    | _ => cases e
def dList : DC := fun ds m Q => match ds with
  | [d] => ∃ es, seqOf m d = some es ∧ ∀ p, m p = none → Q (.ref p) (mset m p (.lst es))
  | _ => False
theorem lc_list {K : PySem.W.Frag} : LC K (fun xs H Q => ∃ p ys, xs = [.ref p] ∧ (SqL K H p ys ∨ SqT K H p ys) ∧ ∀ l, H l = none → Q (.ref l) (upd H l (.lst ys))) dList := fun vs H ds m Qd Q rm r h k => by
  match ds, r, h with
  | [d], r, h =>
    obtain ⟨es, e, q⟩ := h
    obtain ⟨v, rfl, ra9⟩ := repL1 r
    obtain ⟨a, ws, rfl, s, r2⟩ := seq_rep rm ra9 e
    exact ⟨a, ws, rfl, s, fun l hl => k _ _ _ _ (.new hl) (rm.newL hl r2) (.ref l) (q l (rm.fresh hl))⟩
def dInt1 : DC := fun ds m Q => match ds with
  | [.int i] => Q (.int i) m
  | [.bl b] => Q (.int (if b then 1 else 0)) m
  | _ => False
theorem lc_int {K : PySem.W.Frag} : LC K (fun xs H Q => (∃ i, xs = [.int i] ∧ Q (.int i) H) ∨ ∃ k, xs = [.bl k] ∧ Q (.int (if k then 1 else 0)) H) dInt1 := fun vs H ds m Qd Q rm r h k => by
  match ds, r, h with
  | [.int i], r, h => obtain ⟨v, rfl, ra9⟩ := repL1 r; cases ra9; exact .inl ⟨i, rfl, k _ H _ m (.refl H) rm (.int _) h⟩
  | [.bl i], r, h => obtain ⟨v, rfl, ra9⟩ := repL1 r; cases ra9; exact .inr ⟨i, rfl, k _ H _ m (.refl H) rm (.int _) h⟩
def dTwo (g : Int → Int → Int) : DC := fun ds m Q => match ds with
  | [.int i, .int j] => Q (.int (g i j)) m
  | _ => False
theorem lc_two {K : PySem.W.Frag} {g : Int → Int → Int} : LC K (fun xs H Q => ∃ i j, xs = [.int i, .int j] ∧ Q (.int (g i j)) H) (dTwo g) := fun vs H ds m Qd Q rm r h k => by
  match ds, r, h with
  | [.int i, .int j], r, h => obtain ⟨v, u, rfl, ra9, ru9⟩ := repL2 r; cases ra9; cases ru9; exact ⟨i, j, rfl, k _ H _ m (.refl H) rm (.int _) h⟩
abbrev dMin2 : DC := dTwo fun i j => if j < i then j else i
abbrev dMax2 : DC := dTwo fun i j => if j > i then j else i
/-! isinstance(x, T) -/
def tyD (m : Mu) : D → Option String
  | .non => some "NoneType"
  | .bl _ => some "bool"
  | .int _ => some "int"
  | .str _ => some "str"
  | .tup _ => some "tuple"
  | .rol _ => some "list"
  | .dic _ _ => none
  | .dicT _ _ => none
  | .obj _ _ _ => none
  | .ref a => match m a with | some (.lst _) => some "list" | _ => none
def isT (a T : String) : Bool := a == T || (a == "bool" && T == "int")
def knownT (T : String) : Bool := T == "bool" || T == "int" || T == "str" || T == "tuple" || T == "list"
theorem kitB_known : (["NoneType", "bool", "int", "str", "tuple", "list"].all fun a => ["bool", "int", "str", "tuple", "list"].all fun T => kitB a T == some (isT a T)) = true := by decide +kernel
theorem kit_known {m : Mu} {d : D} {a T : String} (h : tyD m d = some a) (hT : knownT T = true) : kitB a T = some (isT a T) := by
  have ha : a ∈ ["NoneType", "bool", "int", "str", "tuple", "list"] := by
    unfold tyD at h
    split at h
    · cases h; simp
    · cases h; simp
    · cases h; simp
    · cases h; simp
    · cases h; simp
    · cases h; simp
    · cases h
    · cases h
    · cases h
    · split at h
      · cases h; simp
      · cases h
  have hT' : T ∈ ["bool", "int", "str", "tuple", "list"] := by
    unfold knownT at hT
    simp only [Bool.or_eq_true, beq_iff_eq] at hT
    simp only [List.mem_cons, List.not_mem_nil, or_false]
    rcases hT with (((h | h) | h) | h) | h <;> simp [h]
  have z := List.all_eq_true.mp (List.all_eq_true.mp kitB_known a ha) T hT'
  exact eq_of_beq z
theorem tyx_of {K : PySem.W.Frag} {H : Hp} {m : Mu} {d : D} {v : V} {a : String} (rm : RM K H m) (r : Rep K H d v) (h : tyD m d = some a) : TyX K H v (.type a) := by
  cases r with
  | non => cases h; exact .base .non
  | bl b => cases h; exact .base (.bl b)
  | int i => cases h; exact .base (.int i)
  | str x => cases h; exact .base (.str x)
  | @tup ds p vs s q =>
    cases h
    exact .base (.tup s)
  | rol s q =>
    cases h
    rcases s with ⟨o, s⟩ | ⟨o, xs9, n, s, c, _⟩
    · exact .base (.frz s)
    · exact .kList s c
  | dic _ _ _ => cases h
  | dicT _ _ _ => cases h
  | obj _ _ _ => cases h
  | ref p =>
    unfold tyD at h
    cases e : m p with
    | none => simp only [e] at h; cases h
    | some o =>
      have q := rm p o e
      cases o with
      | lst es => simp only [e] at h; cases h; obtain ⟨vs, e2, _⟩ := q; exact .base (.lst e2)
      | _ => simp only [e] at h; cases h
def dIsi (T : String) (de : DE) : DE := fun s m Q => de s m fun x m1 => ∃ a, tyD m1 x = some a ∧ Q (.bl (isT a T)) m1
theorem ge_isi {T : String} {p q pos : Pos} {e : Expr} {y : Str} {de : DE} (hT : knownT T = true) (hg : Gl X "isinstance") (ma9 : X.mg "isinstance" = none) (he : GE X e de) (hgy : Gl X y) (hmy : X.mg y = none) (hvy : bootBuiltins y = some (.type T))
    (hny : y ≠ "__name__" := by decide) (hdy : (y == ("__debug__" : Str)) = false := by decide)
    (hs1 : starEach [e, .Name y q] X.env = (false, eval e X.env) :: starEach [.Name y q] X.env := by rfl) (hs2 : starEach [.Name y q] X.env = (false, eval (.Name y q) X.env) :: starEach [] X.env := by rfl)
    (hpl : (backTo pos (starEach [.Name y q] X.env)).any (·.1) = false := by rfl) (hv : bootBuiltins "isinstance" = some (.builtin "isinstance") := by decide +kernel) :
    GE X (.Call (.Name "isinstance" p) [e, .Name y q] [] pos) (dIsi T de) := by
  obtain ⟨te, pt, l⟩ := he.ex
  refine .of ⟨_, pe_callB call_isi hg ma9 hv (pa_cons pt (pa_cons (pe_bltn (v := .ty T) hgy hmy hvy rfl hny hdy) pa_nil hs2) hs1) (by decide) (by decide) hs1 hpl, fun s H sd m Qd Q rs rm h k => ?_⟩
  refine l s H sd m _ _ rs rm h fun v H1 dv m1 t1 rm1 r1 h1 => ?_
  obtain ⟨a, e1, h2⟩ := h1
  exact ⟨v, .ty T, .type a, .type T, isT a T, rfl, .ty T, tyx_of rm1 r1 e1, kit_ty (kit_known e1 hT), k _ H1 _ m1 t1 rm1 (.bl _) h2⟩
/-! sorted(list of pairs of ints) -/
def IsP (K : PySem.W.Frag) (H : Hp) (x : V) (p : Int × Int) : Prop := ∃ t, x = V.ref t ∧ TpH H t [.int p.1, .int p.2]
def pLe (p q : Int × Int) : Prop := p.1 < q.1 ∨ (p.1 = q.1 ∧ p.2 ≤ q.2)
def rSortedPS (K : PySem.W.Frag) : List V → Hp → VK → Prop := fun vs H Q => ∃ (a : Addr) (xs : List V) (ps : List (Int × Int)), vs = [V.ref a] ∧ SqL K H a xs ∧ Paired (IsP K H) xs ps ∧
  ∀ ys qs p, Paired (IsP K H) ys qs → qs.Perm ps → qs.Pairwise pLe → H p = none → Q (.ref p) (upd H p (.lst ys))
theorem paired_map {K : PySem.W.Frag} {H : Hp} {k : V → Int × Int} : ∀ {ys : List V}, (∀ y ∈ ys, IsP K H y (k y)) → Paired (IsP K H) ys (ys.map k)
  | [], _ => .nil
  | y :: ys, h => .cons (h y (List.mem_cons_self ..)) (paired_map fun z hs9 => h z (List.mem_cons_of_mem _ hs9))
theorem cr_sortedPS : CallR X (.builtin "sorted") (rSortedPS X.K) := by
  intro pz s τ H vs us Q I r h
  obtain ⟨a, xs, ps, rfl, hs, hpr, q⟩ := h
  have uq : ∀ x p p', IsP X.K H x p → IsP X.K H x p' → p = p' := fun x p p' ⟨t, e, h1⟩ ⟨t', e', h2⟩ => by
    subst e
    cases e'
    have z := I.tuple_inj h1.sq h2.sq
    injection z with z1 z2
    injection z2 with z2 _
    injection z1 with z1
    injection z2 with z2
    exact Prod.ext z1 z2
  obtain ⟨k, hk⟩ : ∃ k : V → Int × Int, ∀ x p, IsP X.K H x p → k x = p := by
    refine ⟨fun x => @dite _ (∃ p, IsP X.K H x p) (Classical.propDecidable _) (fun h => Classical.choose h) fun _ => (0, 0), fun x p h => ?_⟩
    have e : ∃ p, IsP X.K H x p := ⟨p, h⟩
    show @dite _ (∃ p, IsP X.K H x p) (Classical.propDecidable _) (fun h => Classical.choose h) (fun _ => (0, 0)) = p
    rw [dif_pos e]
    exact uq x _ _ (Classical.choose_spec e) h
  have xa9 : ∀ x ∈ xs, IsP X.K H x (k x) := by
    clear q hs
    induction hpr with
    | nil => intro x xa9; cases xa9
    | cons h1 h2 ih =>
      intro x xa9
      rcases List.mem_cons.mp xa9 with rfl | xa9
      · rw [hk _ _ h1]; exact h1
      · exact ih x xa9
  have hps : xs.map k = ps := by
    clear q hs xa9
    induction hpr with
    | nil => rfl
    | cons h1 h2 ih => rw [List.map_cons, hk _ _ h1, ih]
  obtain ⟨xs9, ra9, hl, hs9⟩ := I.list hs
  obtain ⟨u, rfl, ru9⟩ := vals1 r
  obtain rfl : u = Value.ref a := ru9
  obtain ⟨e1, e2⟩ := refs_back ra9 fun x m => by
    obtain ⟨t, e, _⟩ := xa9 x m
    exact ⟨t, e⟩
  refine SrtO.sorted_pairsO (k := fun u => k (backV u)) hl.isList (by rw [← ra9.length]; exact hs9) (fun v hv => ?_) fun h' d out h1 h2 kp da9 hn => ?_
  · obtain ⟨t, rfl⟩ := e2 v hv
    have ma9 : V.ref t ∈ xs := by rw [e1]; exact List.mem_map.mpr ⟨_, hv, rfl⟩
    obtain ⟨t', e, ht⟩ := xa9 _ ma9
    cases e
    obtain ⟨ys9, r2, ⟨o, ho, ca9, n, da9⟩, _⟩ := I.tuple ht.sq
    obtain ⟨ua9, ub9, rfl, ri9, rj9⟩ := vals2 r2
    obtain ⟨t1, rfl⟩ := ri9
    obtain ⟨t2, rfl⟩ := rj9
    exact ⟨t, o, t1, t2, n, rfl, ho, ca9, da9⟩
  · have hc9 : ∀ u ∈ out, ∃ a, u = Value.ref a := fun u hu => e2 u (h2.perm.mem_iff.mp hu)
    obtain ⟨n, hn⟩ := hn
    have ba9 : SrtO.Stb (ltP k) (out.map backV) xs := by
      rw [e1]
      exact SrtO.Stb.map (ltP_swo k) backV h2
    have hs' : SrtO.Srtd (ltP k) (out.map backV) := SrtO.srtd_map h1
    refine ⟨.ref d, upd H d (.lst (out.map backV)), I.laid (t' := s.toks) kp da9 ⟨?_, out, n, vals_back hc9, hn⟩, rfl, q _ ((out.map backV).map k) d (paired_map fun y hy => xa9 y (ba9.perm.mem_iff.mp hy)) (by rw [← hps]; exact ba9.perm.map k) ?_ (I.hok.fresh da9)⟩
    · rw [ba9.len]
      exact hs9
    · refine List.pairwise_map.mpr (hs'.imp fun {x y} h => ?_)
      have z := SrtO.lexB_no.mp h
      unfold pLe
      omega
def pD (p : Int × Int) : D := .tup [.int p.1, .int p.2]
def dSortP : DC := fun ds m Q => match ds with
  | [.ref a] => ∃ ps : List (Int × Int), seqOf m (.ref a) = some (ps.map pD) ∧ ∀ qs : List (Int × Int), qs.Perm ps → qs.Pairwise pLe → ∀ p, m p = none → Q (.ref p) (mset m p (.lst (qs.map pD)))
  | _ => False
theorem isP_of {K : PySem.W.Frag} {H : Hp} : ∀ {ps : List (Int × Int)} {vs : List V}, RepL K H (ps.map pD) vs → Paired (IsP K H) vs ps
  | [], _, r => by rw [List.map_nil] at r; cases r; exact .nil
  | p :: ps, _, r => by
    rw [List.map_cons] at r
    cases r with
    | cons a b =>
      refine .cons ?_ (isP_of b)
      unfold pD at a
      cases a with
      | tup s r =>
        cases r with
        | cons r1 r2 =>
          cases r1
          cases r2 with
          | cons r3 r4 =>
            cases r3
            cases r4
            exact ⟨_, rfl, s⟩
theorem of_isP {K : PySem.W.Frag} {H : Hp} : ∀ {ps : List (Int × Int)} {vs : List V}, Paired (IsP K H) vs ps → RepL K H (ps.map pD) vs
  | _, _, .nil => .nil
  | _, _, .cons ⟨t, e, h⟩ b => by subst e; exact .cons (.tup h (.cons (.int _) (.cons (.int _) .nil))) (of_isP b)
theorem lc_sortP {K : PySem.W.Frag} : LC K (rSortedPS K) dSortP := fun vs H ds m Qd Q rm r h k => by
  match ds, r, h with
  | [.ref a], r, h =>
    obtain ⟨ps, e, q⟩ := h
    obtain ⟨v, rfl, ra9⟩ := repL1 r
    cases ra9
    obtain ⟨ws, sl, r2⟩ := ref_rep rm e
    exact ⟨a, ws, ps, rfl, sl, isP_of r2, fun ys qs p h1 h2 hc9 hp => k _ _ _ _ (.new hp) (rm.newL hp (of_isP h1)) (.ref p) (q qs h2 hc9 p (rm.fresh hp))⟩
end
end PD

set_option Elab.async false
set_option linter.all false
set_option maxRecDepth 100000
set_option maxHeartbeats 4000000
namespace PD
open PySem PySem.Spec PyProof.Rows L2
section
variable {X : Cx}
/-! ### methods of lists -/
abbrev DM := D → List D → Mu → DK → Prop
def LM (K : PySem.W.Frag) (r : V → List V → Hp → VK → Prop) (d : DM) : Prop := ∀ x vs H dx ds m (Qd : DK) (Q : VK), RM K H m → Rep K H dx x → RepL K H ds vs → d dx ds m Qd →
  (∀ v H' dv m', TX H H' → RM K H' m' → Rep K H' dv v → Qd dv m' → Q v H') → r x vs H Q
def dBM0 (d : DM) (a : DE) : DE := fun s m Q => a s m fun x m1 => (∃ a ds, lstOf m1 x = some (a, ds)) ∧ d x [] m1 Q
def dBM (d : DM) (a : DE) (b : DA) : DE := fun s m Q => a s m fun x m1 => (∃ a ds, lstOf m1 x = some (a, ds)) ∧ b s m1 fun ds m2 => d x ds m2 Q
theorem ty_lst {K : PySem.W.Frag} {H : Hp} {m : Mu} {d : D} {v : V} (rm : RM K H m) (r : Rep K H d v) (h : ∃ a ds, lstOf m d = some (a, ds)) : tyV K "list" v H := by
  obtain ⟨a, ds, e⟩ := h
  obtain ⟨rfl, _, _, vs, e2, _⟩ := lst_rep rm r e
  exact .inl ⟨rfl, _, SqL.of e2⟩
theorem ge_bm0 {o : Expr} {name : Str} {id : String} {apos cpos : Pos} {r : V → List V → Hp → VK → Prop} {d : DM} {da : DE} (slot : Slot "list" name id) (hty : typeOf (.builtin id) = pure (.type "method_descriptor")) (hm : MtR X id r) (lm : LM X.K r d) (ho : GE X o da)
    (base9 : attributeBase o name X.env (eval o X.env) = eval o X.env := by rfl) (line9 : (apos.endLine == cpos.line) = true := by rfl) : GE X (.Call (.Attribute o name apos) [] [] cpos) (dBM0 d da) := by
  obtain ⟨ta, p, l⟩ := ho.ex
  refine .of ⟨_, pe_bm0 PySem.F.plainAttrs_list slot hty hm p base9 line9, fun s H sd m Qd Q rs rm h k => ?_⟩
  refine l s H sd m _ _ rs rm h fun v H1 dv m1 t1 rm1 r1 h1 => ?_
  exact ⟨ty_lst rm1 r1 h1.1, lm v [] H1 dv [] m1 Qd Q rm1 r1 .nil h1.2 fun v' H' dv' m' t' a b c => k v' H' dv' m' (t1.trans t') a b c⟩
theorem ge_bm {o e : Expr} {es : List Expr} {name : Str} {id : String} {apos cpos : Pos} {r : V → List V → Hp → VK → Prop} {d : DM} {da : DE} {db : DA} (slot : Slot "list" name id) (hty : typeOf (.builtin id) = pure (.type "method_descriptor")) (hm : MtR X id r) (lm : LM X.K r d) (ho : GE X o da) (ha : GA X (e :: es) db)
    (base9 : attributeBase o name X.env (eval o X.env) = eval o X.env := by rfl)
    (few9 : ((backTo cpos (starEach (e :: es) X.env)).all (fun x => !x.1) && (backToKw cpos (keywordEach [] X.env)).all (fun x => x.1.isSome)
      && decide ((e :: es).length + ([] : List Keyword).length + (if ([] : List Keyword).isEmpty then 0 else 1) < 30)) = true := by rfl)
    (line9 : (apos.endLine == cpos.line) = true := by rfl) (hs : starEach (e :: es) X.env = (false, eval e X.env) :: starEach es X.env := by rfl) (plain9 : (backTo cpos (starEach es X.env)).any (·.1) = false := by rfl) :
    GE X (.Call (.Attribute o name apos) (e :: es) [] cpos) (dBM d da db) := by
  obtain ⟨ta, p, l⟩ := ho.ex
  obtain ⟨tb, q, l2⟩ := ha.ex
  refine .of ⟨_, pe_bm PySem.F.plainAttrs_list slot hty hm p q base9 few9 line9 hs plain9, fun s H sd m Qd Q rs rm h k => ?_⟩
  refine l s H sd m _ _ rs rm h fun v H1 dv m1 t1 rm1 r1 h1 => ?_
  refine ⟨ty_lst rm1 r1 h1.1, l2 s H1 sd m1 _ _ (rs.mono t1) rm1 h1.2 fun vs H2 ds m2 t2 rm2 r2 h2 => ?_⟩
  exact lm v vs H2 dv ds m2 Qd Q rm2 (r1.mono t2) r2 h2 fun v' H' dv' m' t' a b c => k v' H' dv' m' (t1.trans (t2.trans t')) a b c
def dAppend : DM := fun x ds m Q => match ds with
  | [d] => ∃ a es, lstOf m x = some (a, es) ∧ es.length < sizeLine ∧ Q .non (mset m a (.lst (es ++ [d])))
  | _ => False
theorem lm_append {K : PySem.W.Frag} : LM K rAppend dAppend := fun x vs H dx ds m Qd Q rm rx r h k => by
  match ds, r, h with
  | [d], r, h =>
    obtain ⟨a, es, e, hs9, q⟩ := h
    obtain ⟨rfl, rfl, _, ws, e2, r2⟩ := lst_rep rm rx e
    obtain ⟨v, rfl, ra9⟩ := repL1 r
    exact ⟨a, ws, v, rfl, rfl, e2, by rw [← r2.length]; exact hs9, k _ _ _ _ (.lst e2) (rm.setL e2 (r2.append (.cons ra9 .nil))) .non q⟩
def seqW (m : Mu) : D → Option (List D)
  | .tup ds => some ds
  | .ref a => match m a with | some (.lst ds) => some ds | _ => none
  | _ => none
def dExtend : DM := fun x ds m Q => match ds with
  | [d] => ∃ a es zs, lstOf m x = some (a, es) ∧ seqW m d = some zs ∧ es.length + zs.length ≤ sizeLine ∧ Q .non (mset m a (.lst (es ++ zs)))
  | _ => False
def rExtendT (K : PySem.W.Frag) : V → List V → Hp → VK → Prop := fun x vs H Q => ∃ l b xs zs, x = .ref l ∧ vs = [.ref b] ∧ H l = some (.lst xs) ∧ (SqL K H b zs ∨ SqT K H b zs) ∧ xs.length + zs.length ≤ sizeLine ∧ Q .non (upd H l (.lst (xs ++ zs)))
def dPop : DM := fun x ds m Q => match ds with
  | [] => ∃ a es d, lstOf m x = some (a, es) ∧ es[es.length - 1]? = some d ∧ Q d (mset m a (.lst es.dropLast))
  | [.int i] => ∃ a es, lstOf m x = some (a, es) ∧ -(2 ^ 63) ≤ i ∧ i < 2 ^ 63 ∧ ∃ k, seqIndex? i es.length = some k ∧ ∃ d, es[k]? = some d ∧ Q d (mset m a (.lst (es.eraseIdx k)))
  | _ => False
theorem mt_popU : MtM X "list.pop" (fun x xs H Q => rPop x xs H Q ∨ rPopAt x xs H Q) := fun pz s τ H x xs v us Q I rx ra9 h => by
  rcases h with h | h
  · exact mt_pop pz s τ H x xs v us Q I rx ra9 h
  · exact mt_popAt pz s τ H x xs v us Q I rx ra9 h
theorem lm_pop {K : PySem.W.Frag} : LM K (fun x xs H Q => rPop x xs H Q ∨ rPopAt x xs H Q) dPop := fun x vs H dx ds m Qd Q rm rx r h k => by
  match ds, r, h with
  | [], r, h =>
    obtain ⟨a, es, d, e, e1, q⟩ := h
    obtain ⟨rfl, rfl, _, ws, e2, r2⟩ := lst_rep rm rx e
    cases r
    obtain ⟨v, e3, ra9⟩ := r2.get e1
    rw [r2.length] at e3
    exact .inl ⟨a, ws, v, rfl, rfl, e2, e3, k _ _ _ _ (.lst e2) (rm.setL e2 r2.dropLast) (ra9.mono (.lst e2)) q⟩
  | [.int i], r, h =>
    obtain ⟨a, es, e, h1, h2, j, e3, d, e4, q⟩ := h
    obtain ⟨rfl, rfl, _, ws, e2, r2⟩ := lst_rep rm rx e
    obtain ⟨v, rfl, ra9⟩ := repL1 r
    cases ra9
    obtain ⟨u, e5, ru⟩ := r2.get e4
    rw [r2.length] at e3
    exact .inr ⟨a, ws, i, j, u, rfl, rfl, e2, h1, h2, e3, e5, k _ _ _ _ (.lst e2) (rm.setL e2 (r2.erase j)) (ru.mono (.lst e2)) q⟩
/-! ### calls of own functions -/
abbrev SpD := List D → Mu → DK → Prop
def spL (K : PySem.W.Frag) (n : Nat) (sd : SpD) : Sp := fun vs H Q _ => ∃ ds m Qd, RepL K H ds vs ∧ RM K H m ∧ (ds.length = n ∧ sd ds m Qd) ∧ ∀ v H' dv m', TX H H' → RM K H' m' → Rep K H' dv v → Qd dv m' → Q v H'
def dCall (n : Nat) (sd : SpD) (a : DA) : DE := fun s m Q => a s m fun ds m1 => ds.length = n ∧ sd ds m1 Q
theorem ge_call {k n : Nat} {f : Addr} {fd : FuncData} {ps : List Str} {sd : SpD} {x : Str} {p pos : Pos} {e : Expr} {es : List Expr} {da : DA} (F : FnOk X.prog X.w X.K X.mg X.base CX0 k f fd ps (spL X.K n sd)) (hr : Room k X.A) (hg : Gl X x) (hm : X.mg x = some (.ref f)) (hk : PySem.W.keepIn X.K (.ref f) = true) (hb : Binds X.K fd ps [])
    (ha : GA X (e :: es) da) (hdb : (x == ("__debug__" : Str)) = false := by decide) (he : starEach (e :: es) X.env = (false, eval e X.env) :: starEach es X.env := by rfl) (hpl : (backTo pos (starEach es X.env)).any (·.1) = false := by rfl) :
    GE X (.Call (.Name x p) (e :: es) [] pos) (dCall n sd da) := by
  obtain ⟨ta, q, l⟩ := ha.ex
  refine .of ⟨_, pe_call F hr hg hm hk hb .nil pass0 q hdb he hpl, fun s H sd' m Qd Q rs rm h k => ?_⟩
  refine l s H sd' m _ _ rs rm h fun vs H1 ds m1 t1 rm1 r1 h1 => ?_
  show spL X.K n sd (vs ++ []) H1 Q E0
  rw [List.append_nil]
  exact ⟨ds, m1, Qd, r1, rm1, h1, fun v' H' dv' m' t' a b c => k v' H' dv' m' (t1.trans t') a b c⟩
/-! f(k = e, ..): keywords alone, in the parameters' order -/
def GK (X : Cx) (kws : List Keyword) (d : DA) : Prop := ∃ t, PK X kws t ∧ LA X.K t d
theorem gk_nil : GK X [] dNil := ⟨_, pk_nil, fun _ H _ m _ _ _ rm h k => k [] H [] m (.refl H) rm .nil h⟩
theorem gk_cons {nm : Option Str} {e : Expr} {kpos : Pos} {kws : List Keyword} {de : DE} {dr : DA} (ha : GE X e de) (hr : GK X kws dr) : GK X (⟨nm, e, kpos⟩ :: kws) (dCons de dr) := by
  obtain ⟨te, p, l⟩ := ha.ex
  obtain ⟨tr, q, l2⟩ := hr
  refine ⟨_, pk_cons p q, fun s H sd m Qd Q rs rm h k => ?_⟩
  refine l s H sd m _ _ rs rm h fun v H1 dv m1 t1 rm1 r1 h1 => ?_
  exact l2 s H1 sd m1 _ _ (rs.mono t1) rm1 h1 fun vs H2 ds m2 t2 rm2 r2 h2 => k _ H2 _ m2 (t1.trans t2) rm2 (.cons (r1.mono t2) r2) h2
/-- keywords ks alone bind to the parameters ps in their order -/
def gK (n : Nat) (us ws : List Value) : List Value := if us.isEmpty = true then ws else List.replicate (n + 1) Value.none
def gKV (n : Nat) (vs zs : List V) : List V := if vs.isEmpty = true then zs else List.replicate (n + 1) V.non
def KwAll (K : PySem.W.Frag) (fd : FuncData) (ps ks : List Str) : Prop := KBinds K fd ps ks (gK ps.length) (gKV ps.length)
theorem ge_callK {k n : Nat} {f : Addr} {fd : FuncData} {ps ks : List Str} {sd : SpD} {x : Str} {p pos : Pos} {kws : List Keyword} {dk : DA} (F : FnOk X.prog X.w X.K X.mg X.base CX0 k f fd ps (spL X.K n sd)) (hr : Room k X.A) (hg : Gl X x) (hm : X.mg x = some (.ref f)) (hk : PySem.W.keepIn X.K (.ref f) = true) (hb : KwAll X.K fd ps ks)
    (hkw : GK X kws dk) (hall : (backToKw pos (keywordEach kws X.env)).all (·.1.isSome) = true := by rfl) (hks : (backToKw pos (keywordEach kws X.env)).filterMap (·.1) = ks := by rfl)
    (hdb : (x == ("__debug__" : Str)) = false := by decide) (hpl : ((backTo pos (starEach [] X.env)).any (·.1) || (backToKw pos (keywordEach kws X.env)).any (·.1.isNone)) = false := by rfl) :
    GE X (.Call (.Name x p) [] kws pos) (dCall n sd dk) := by
  obtain ⟨tk, q, l⟩ := hkw
  have P : PE X (.Call (.Name x p) [] kws pos) (fun τ H Q => tk τ H fun zs H2 => spL X.K n sd zs H2 Q E0) := by
    refine ⟨fun pz s τ H Q I h => ?_⟩
    refine wpAny_Call_Name_kw (ld_glob I hg hm ?_ hdb)
    refine PySem.W.callWith_KW0 (h₀ := X.base) I.ok.mod.kin hk hall (thn (q.run pos pz s τ H _ I h) fun ws tB ⟨zs, H2, iB, rz, q2⟩ => ⟨iB.kIn, ?_⟩) hpl
    rw [hks]
    exact run_fnk (us := []) (vs := []) F hr hb pass0 iB .nil rz q2
  refine .of ⟨_, P, fun s H sd' m Qd Q rs rm h k => ?_⟩
  refine l s H sd' m _ _ rs rm h fun vs H1 ds m1 t1 rm1 r1 h1 => ?_
  exact ⟨ds, m1, Qd, r1, rm1, h1, fun v' H' dv' m' t' a b c => k v' H' dv' m' (t1.trans t') a b c⟩
/-! ### and, or, not, if .. else -/
def dAnd (t u : DT) : DT := fun s m Q => t s m fun c m1 => if c = true then u s m1 Q else Q false m1
def dOr (t u : DT) : DT := fun s m Q => t s m fun c m1 => if c = true then Q true m1 else u s m1 Q
def dNot (t : DT) : DT := fun s m Q => t s m fun c m1 => Q (!c) m1
theorem LT.and {K : PySem.W.Frag} {t u : TT} {dt du : DT} (l : LT K t dt) (l2 : LT K u du) : LT K (tAnd t u) (dAnd dt du) := fun s H sd m Qd Q rs rm h k => by
  refine l s H sd m _ _ rs rm h fun b H1 m1 t1 rm1 h1 => ?_
  cases b with
  | true => exact l2 s H1 sd m1 _ _ (rs.mono t1) rm1 h1 fun b H2 m2 t2 rm2 h2 => k b H2 m2 (t1.trans t2) rm2 h2
  | false => exact k false H1 m1 t1 rm1 h1
theorem LT.or {K : PySem.W.Frag} {t u : TT} {dt du : DT} (l : LT K t dt) (l2 : LT K u du) : LT K (tOr t u) (dOr dt du) := fun s H sd m Qd Q rs rm h k => by
  refine l s H sd m _ _ rs rm h fun b H1 m1 t1 rm1 h1 => ?_
  cases b with
  | true => exact k true H1 m1 t1 rm1 h1
  | false => exact l2 s H1 sd m1 _ _ (rs.mono t1) rm1 h1 fun b H2 m2 t2 rm2 h2 => k b H2 m2 (t1.trans t2) rm2 h2
theorem gw_and1 {a : Expr} {pos : Pos} {d : DT} (h : GT X a d) : GW X (.BoolOp .And [a] pos) d := let ⟨t, p, l⟩ := h.ex; ⟨_, pw_and1 p, l⟩
theorem gw_or1 {a : Expr} {pos : Pos} {d : DT} (h : GT X a d) : GW X (.BoolOp .Or [a] pos) d := let ⟨t, p, l⟩ := h.ex; ⟨_, pw_or1 p, l⟩
theorem gw_and {a b : Expr} {rest : List Expr} {pos : Pos} {d d2 : DT} (h : GT X a d) (h2 : GW X (.BoolOp .And (b :: rest) pos) d2) : GW X (.BoolOp .And (a :: b :: rest) pos) (dAnd d d2) := by
  obtain ⟨t, p, l⟩ := h.ex
  obtain ⟨u, q, l2⟩ := h2.ex
  exact ⟨_, pw_and p q, l.and l2⟩
theorem gw_or {a b : Expr} {rest : List Expr} {pos : Pos} {d d2 : DT} (h : GT X a d) (h2 : GW X (.BoolOp .Or (b :: rest) pos) d2) : GW X (.BoolOp .Or (a :: b :: rest) pos) (dOr d d2) := by
  obtain ⟨t, p, l⟩ := h.ex
  obtain ⟨u, q, l2⟩ := h2.ex
  exact ⟨_, pw_or p q, l.or l2⟩
theorem gt_not {a : Expr} {pos : Pos} {d : DT} (h : GT X a d) : GT X (.UnaryOp .Not a pos) (dNot d) := by
  obtain ⟨t, p, l⟩ := h.ex
  exact .of ⟨_, pt_not p, fun s H sd m Qd Q rs rm h k => l s H sd m _ _ rs rm h fun b H1 m1 t1 rm1 h1 => k (!b) H1 m1 t1 rm1 h1⟩
def dAndV (a b : DE) : DE := fun s m Q => a s m fun x m1 => match x with | .bl c => if c = true then b s m1 Q else Q (.bl false) m1 | _ => False
def dOrV (a b : DE) : DE := fun s m Q => a s m fun x m1 => match x with | .bl c => if c = true then Q (.bl true) m1 else b s m1 Q | _ => False
def dNotV (a : DE) : DE := fun s m Q => a s m fun x m1 => match x with | .bl c => Q (.bl (!c)) m1 | _ => False
theorem ge_one {op} {a : Expr} {pos : Pos} {d : DE} (h : GE X a d) : GE X (.BoolOp op [a] pos) d := let ⟨t, p, l⟩ := h.ex; .of ⟨_, pe_one p, l⟩
theorem ge_and {a b : Expr} {rest : List Expr} {pos : Pos} {d d2 : DE} (h : GE X a d) (h2 : GE X (.BoolOp .And (b :: rest) pos) d2) : GE X (.BoolOp .And (a :: b :: rest) pos) (dAndV d d2) := by
  obtain ⟨t, p, l⟩ := h.ex
  obtain ⟨u, q, l2⟩ := h2.ex
  refine .of ⟨_, pe_and p q, fun s H sd m Qd Q rs rm h k => ?_⟩
  refine l s H sd m _ _ rs rm h fun v H1 dv m1 t1 rm1 r1 h1 => ?_
  cases r1 with
  | bl c =>
    refine ⟨c, rfl, ?_⟩
    cases c with
    | true => exact l2 s H1 sd m1 _ _ (rs.mono t1) rm1 h1 fun b H2 dv m2 t2 rm2 r2 h2 => k b H2 dv m2 (t1.trans t2) rm2 r2 h2
    | false => exact k _ H1 _ m1 t1 rm1 (.bl _) h1
  | _ => exact h1.elim
theorem ge_or {a b : Expr} {rest : List Expr} {pos : Pos} {d d2 : DE} (h : GE X a d) (h2 : GE X (.BoolOp .Or (b :: rest) pos) d2) : GE X (.BoolOp .Or (a :: b :: rest) pos) (dOrV d d2) := by
  obtain ⟨t, p, l⟩ := h.ex
  obtain ⟨u, q, l2⟩ := h2.ex
  refine .of ⟨_, pe_or p q, fun s H sd m Qd Q rs rm h k => ?_⟩
  refine l s H sd m _ _ rs rm h fun v H1 dv m1 t1 rm1 r1 h1 => ?_
  cases r1 with
  | bl c =>
    refine ⟨c, rfl, ?_⟩
    cases c with
    | true => exact k _ H1 _ m1 t1 rm1 (.bl _) h1
    | false => exact l2 s H1 sd m1 _ _ (rs.mono t1) rm1 h1 fun b H2 dv m2 t2 rm2 r2 h2 => k b H2 dv m2 (t1.trans t2) rm2 r2 h2
  | _ => exact h1.elim
theorem ge_not {a : Expr} {pos : Pos} {d : DE} (h : GE X a d) : GE X (.UnaryOp .Not a pos) (dNotV d) := by
  obtain ⟨t, p, l⟩ := h.ex
  refine .of ⟨_, pe_not p, fun s H sd m Qd Q rs rm h k => ?_⟩
  refine l s H sd m _ _ rs rm h fun v H1 dv m1 t1 rm1 r1 h1 => ?_
  cases r1 with
  | bl c => exact ⟨c, rfl, k _ H1 _ m1 t1 rm1 (.bl _) h1⟩
  | _ => exact h1.elim
def dIfE (t : DT) (a b : DE) : DE := fun s m Q => t s m fun c m1 => if c = true then a s m1 Q else b s m1 Q
theorem ge_ifE {c a b : Expr} {pos : Pos} {t : DT} {da db : DE} (h : GT X c t) (ha : GE X a da) (hb : GE X b db) : GE X (.IfExp c a b pos) (dIfE t da db) := by
  obtain ⟨tt, p, l⟩ := h.ex
  obtain ⟨ta, q, l2⟩ := ha.ex
  obtain ⟨tb, q2, l3⟩ := hb.ex
  refine .of ⟨_, pe_ifExp p q q2, fun s H sd m Qd Q rs rm h k => ?_⟩
  refine l s H sd m _ _ rs rm h fun b H1 m1 t1 rm1 h1 => ?_
  cases b with
  | true => exact l2 s H1 sd m1 _ _ (rs.mono t1) rm1 h1 fun b H2 dv m2 t2 rm2 r2 h2 => k b H2 dv m2 (t1.trans t2) rm2 r2 h2
  | false => exact l3 s H1 sd m1 _ _ (rs.mono t1) rm1 h1 fun b H2 dv m2 t2 rm2 r2 h2 => k b H2 dv m2 (t1.trans t2) rm2 r2 h2
/-! a list, a tuple, a number, a text as a test -/
def truD (m : Mu) : D → Option Bool
  | .non => some false
  | .bl b => some b
  | .int i => some (i != 0)
  | d => (seqOf m d).map fun ds => !ds.isEmpty
def dTru (a : DE) : DT := fun s m Q => a s m fun x m1 => ∃ b, truD m1 x = some b ∧ Q b m1
end
end PD

set_option Elab.async false
set_option linter.all false
set_option maxRecDepth 100000
set_option maxHeartbeats 4000000
namespace PD
open PySem PySem.Spec PyProof.Rows L2 HT
section
variable {pg9 : Program} {w : World} {A : Around} {E : Value → Shared → Prop} {s : Shared}
theorem rev_places (n : Nat) : Builtin.Slice.slicePlaces ((n : Int) - 1) (-1) (-1) = n := by
  unfold Builtin.Slice.slicePlaces
  rw [if_neg (by omega)]
  by_cases h : (n : Int) - 1 > -1
  · rw [if_pos h, show -(-1 : Int) = 1 from rfl, Int.ediv_one]; omega
  · rw [if_neg h]; omega
theorem sliceApplied_rev {sc9 : Addr} {vl vu vs : Value} {n : Nat} {Q : Int × Int × Nat → Shared → Prop} (hs : s.heap.IsSliceOf sc9 vl vu vs) (pl : IsPart vl none) (pu : IsPart vu none) (ps : IsPart vs (some (-1)))
    (h : Q ((n : Int) - 1, -1, n) s) : wpAny (model pg9 w) A (Builtin.Slice.sliceApplied (.ref sc9) (pure (n : Int))) Q E s := by
  obtain ⟨os, uos, ucs, uds⟩ := id hs
  unfold Builtin.Slice.sliceApplied Builtin.Slice.sliceFields
  refine wpAny_bind (wpAny_bind (wpAny_field uos uds (x := vl) rfl (wpAny_bind (wpAny_field uos uds (x := vu) rfl (wpAny_bind (wpAny_field uos uds (x := vs) rfl (wpAny_pure ?_)))))))
  refine wpAny_bind (slicePart_ ps ?_)
  show wpAny _ _ (if ((-1 : Int) == 0) = true then _ else _) _ _ s
  rw [if_neg (by decide)]
  refine wpAny_bind (slicePart_ pl (wpAny_bind (slicePart_ pu (wpAny_bind (wpAny_pure ?_)))))
  show wpAny _ _ (match Builtin.Slice.sliceAdjust none none (-1) (n : Int) with | (lo, hi) => pure (lo, (-1 : Int), Builtin.Slice.slicePlaces lo hi (-1))) _ _ s
  have e : Builtin.Slice.sliceAdjust none none (-1) (n : Int) = ((n : Int) - 1, -1) := rfl
  rw [e]
  show wpAny _ _ (pure ((n : Int) - 1, (-1 : Int), Builtin.Slice.slicePlaces ((n : Int) - 1) (-1) (-1))) _ _ s
  rw [rev_places]
  exact wpAny_pure h
theorem fm_congr {α β : Type} {f g : α → Option β} : ∀ {l : List α}, (∀ x ∈ l, f x = g x) → l.filterMap f = l.filterMap g
  | [], _ => rfl
  | x :: l, h => by
    rw [List.filterMap_cons, List.filterMap_cons, h x (List.mem_cons_self ..), fm_congr fun y hy => h y (List.mem_cons_of_mem _ hy)]
theorem fm_get {α : Type} (l : List α) : (List.range l.length).filterMap (fun (m : Nat) => l[m]?) = l := by
  have h1 : (List.range l.length).map (fun (m : Nat) => l[m]?) = l.map some := by
    apply List.ext_getElem?
    intro j
    rw [List.getElem?_map, List.getElem?_map]
    by_cases hj : j < l.length
    · rw [List.getElem?_eq_getElem (by rw [List.length_range]; exact hj), List.getElem_range]
      show some l[j]? = Option.map some l[j]?
      rw [List.getElem?_eq_getElem hj]; rfl
    · rw [List.getElem?_eq_none (by rw [List.length_range]; omega), List.getElem?_eq_none (by omega)]; rfl
  have h2 : (List.range l.length).filterMap (fun (m : Nat) => l[m]?) = ((List.range l.length).map (fun (m : Nat) => l[m]?)).filterMap id := by
    rw [List.filterMap_map]; rfl
  rw [h2, h1, List.filterMap_map]
  show l.filterMap some = l
  exact List.filterMap_some
theorem pick_rev (xs : Array Value) : ((List.range xs.size).filterMap fun (m : Nat) => xs[(((xs.size : Int) - 1) + (m : Int) * (-1)).toNat]?).toArray = xs.toList.reverse.toArray := by
  congr 1
  have e : ∀ (m : Nat), m ∈ List.range xs.size → xs[(((xs.size : Int) - 1) + (m : Int) * (-1)).toNat]? = xs.toList.reverse[m]? := fun m hm => by
    have hm' : m < xs.size := List.mem_range.mp hm
    have : (((xs.size : Int) - 1) + (m : Int) * (-1)).toNat = xs.size - 1 - m := by omega
    rw [this, List.getElem?_reverse (by rw [Array.length_toList]; exact hm'), Array.getElem?_toList, Array.length_toList]
  rw [fm_congr e]
  have hl : xs.toList.reverse.length = xs.size := by rw [List.length_reverse, Array.length_toList]
  have z := fm_get xs.toList.reverse
  rw [hl] at z
  exact z
theorem getItem_tuple_rev {t sc9 : Addr} {gs9 : Array Value} {vl vu vs : Value} {Q : Value → Shared → Prop} (th9 : IsTup s.heap t gs9) (hs : s.heap.IsSliceOf sc9 vl vu vs) (pl : IsPart vl none) (pu : IsPart vu none) (ps : IsPart vs (some (-1)))
    (h : Q (.ref s.heap.objs.size) { s with heap := s.heap.push { cls := .type "tuple", data := .seq gs9.toList.reverse.toArray } })
    (sz9 : gs9.size ≤ sizeLine) : wpAny (model pg9 w) A (getItem (.ref t) (.ref sc9)) Q E s := by
  have take9 : sizeOk (.seq gs9.toList.reverse.toArray) := by
    show gs9.toList.reverse.toArray.size ≤ sizeLine
    rw [List.size_toArray, List.length_reverse, Array.length_toList]
    exact sz9
  obtain ⟨os, uos, ucs, uds⟩ := id hs
  have uTs : s.TypeIs (.ref sc9) "slice" := ⟨os, uos, ucs⟩
  unfold getItem
  try with_reducible refine wpAny_holding ?_
  first | refine wpAny_bind (wpAny_pure ?_) | skip
  refine wpAny_bind (wpAny_sequenceKey th9.typeIs (by decide) ?_)
  refine wpAny_bind (wpAny_callSpecial?_slot (name := Str.ofString "__getitem__") th9.typeIs PyProof.Rows.slot_tuple_getitem
    (wpAny_call_entry PyProof.Rows.slot_tuple_getitem th9.typeIs entry_tuple_getitem ?_ (args_tuple_getitem _ _)))
  show wpAny _ _ (Builtin.Tuple.tupleItemsOf (.ref t) >>= _) _ _ s
  refine wpAny_bind (tupleItemsOf_ th9 ?_)
  refine wpAny_bind (wpAny_typeOf uTs ?_)
  rw [if_pos (by decide)]
  refine wpAny_bind (sliceApplied_rev hs pl pu ps ?_)
  have hno : ¬ (((((gs9.size : Nat) : Int) - 1) == 0 && (-1 : Int) == 1 && gs9.size == gs9.size) = true) := by
    intro q
    rw [Bool.and_eq_true, Bool.and_eq_true] at q
    exact absurd (eq_of_beq q.1.2) (by decide)
  show wpAny _ _ (if ((((gs9.size : Nat) : Int) - 1) == 0 && (-1 : Int) == 1 && gs9.size == gs9.size) = true then _ else _) _ _ s
  rw [if_neg hno, pick_rev]
  first
    | exact wpAny_bind (m := Builtin.Tuple.tupleExact _) (wpAny_newObj_type (wpAny_pure ⟨_, rfl, wpAny_pure h⟩) take9)
    | exact wpAny_bind (m := Builtin.Tuple.tupleExact _) (wpAny_newObj_type (wpAny_bind (wpAny_pure (wpAny_pure ⟨_, rfl, wpAny_pure h⟩))) take9)
    | exact wpAny_bind (wpAny_bind (m := Builtin.Tuple.tupleExact _) (wpAny_newObj_type (wpAny_pure (wpAny_pure ⟨_, rfl, wpAny_pure h⟩)) take9))
    | exact wpAny_bind (wpAny_bind (m := Builtin.Tuple.tupleExact _) (wpAny_newObj_type (wpAny_pure ⟨_, rfl, wpAny_pure h⟩) take9))
end
section
variable {X : Cx}
/-! x[::-1] -/
def tRevS (K : PySem.W.Frag) (te : TE) : TE := fun τ H Q => te τ H fun x H1 => ∃ a xs, x = .ref a ∧ ((SqL K H1 a xs ∧ ∀ p, H1 p = none → Q (.ref p) (upd H1 p (.lst xs.reverse))) ∨ (SqT K H1 a xs ∧ ∀ p, H1 p = none → Q (.ref p) (upd H1 p (.tup xs.reverse))))
theorem pe_revS {e : Expr} {te : TE} {k : Nat} {p1 p2 p3 pos : Pos} (he : PE X e te) : PE X (.Subscript e (.Slice none none (some (.UnaryOp .USub (.Constant (.int 1) k p1) p2)) p3) pos) (tRevS X.K te) := by
  refine ⟨fun pz s τ H Q I h => ?_⟩
  refine Subscript_ (thn (he.run pz s τ H _ I h) fun v tA ⟨x, H1, iA, r1, q1⟩ => ?_)
  obtain ⟨a, xs, ex, q⟩ := q1
  subst ex
  cases r1
  have st9 : PO X (some (.UnaryOp .USub (.Constant (.int 1) k p1) p2)) (tPart (tUn (rU fun i => .int (-i)) (tC (.int 1)))) := po_some (pe_un un_neg pe_int)
  refine wpAny_Slice (thn (po_none.run pz tA τ H1 (fun o H2 => o = none ∧ H2 = H1) iA ⟨rfl, rfl⟩) fun vl tB ⟨l, H2, iB, pl, el, e2⟩ => ?_)
  subst el e2
  refine thn (po_none.run pz tB τ H2 (fun o H3 => o = none ∧ H3 = H2) iB ⟨rfl, rfl⟩) fun vu tC ⟨u, H3, iC, pu, eu, e3⟩ => ?_
  subst eu e3
  refine thn (st9.run pz tC τ H3 (fun o H4 => o = some (-1) ∧ H4 = H3) iC ⟨1, rfl, -1, rfl, rfl, rfl⟩) fun vs tD ⟨o, H4, iD, ps, eo, e4⟩ => ?_
  subst eo e4
  have iE : Inv X pz τ H4 { tD with heap := tD.heap.push { cls := .type "slice", data := .fields #[vl, vu, vs] } } := iD.kept (t' := tD.toks) fun b ob q => Heap.get?_push_of_some _ q
  show wpAny (model X.prog X.w) X.A (subscriptTail e (.Slice none none (some (.UnaryOp .USub (.Constant (.int 1) k p1) p2)) p3) (.ref a) (.ref tD.heap.objs.size)) (EP X pz τ Q) X.xe { tD with heap := tD.heap.push { cls := .type "slice", data := .fields #[vl, vu, vs] } }
  rcases q with ⟨hx, q⟩ | ⟨hx, q⟩
  · obtain ⟨xs9, r, th9, hs9⟩ := iE.list hx
    have hlen := r.length
    refine tail_any (ops := [.ref a, .ref tD.heap.objs.size]) th9.isList.typeIs (PySem.slot_list_getitem.lookup) ?_ (by with_unfolding_all rfl)
    refine wpAny_getItem_list_slice th9.isList (Heap.IsSliceOf.new _ vl vu vs) pl pu ps (by decide) ?_ (by rw [List.size_toArray]; omega)
    rw [PySem.W.krv_pick]
    refine ⟨.ref _, _, iE.laid (t' := tD.toks) (o := .lst xs.reverse) (fun b ob q => Heap.get?_push_of_some _ q) (Nat.le_refl _) ?_, rfl, q _ (iE.hok.fresh (Nat.le_refl _))⟩
    exact ⟨by rw [List.length_reverse]; exact hs9, _, 0, r.reverse, Heap.get?_push_size _ rfl⟩
  · obtain ⟨xs9, r, th9, hs9⟩ := iE.tuple hx
    have hlen := r.length
    refine tail_any (ops := [.ref a, .ref tD.heap.objs.size]) th9.typeIs (PyProof.Rows.slot_tuple_getitem.lookup) ?_ (by with_unfolding_all rfl)
    refine getItem_tuple_rev th9 (Heap.IsSliceOf.new _ vl vu vs) pl pu ps ?_ (by rw [List.size_toArray]; omega)
    refine ⟨.ref _, _, iE.laid (t' := tD.toks) (o := .tup xs.reverse) (fun b ob q => Heap.get?_push_of_some _ q) (Nat.le_refl _) ?_, rfl, q _ (iE.hok.fresh (Nat.le_refl _))⟩
    exact ⟨by rw [List.length_reverse]; exact hs9, _, r.reverse, ⟨_, Heap.get?_push_size _ rfl, rfl, _, rfl⟩⟩
def dRev (de : DE) : DE := fun s m Q => de s m fun x m1 => match x with
  | .tup ds => Q (.tup ds.reverse) m1
  | .ref a => ∃ ds, seqOf m1 (.ref a) = some ds ∧ ∀ p, m1 p = none → Q (.ref p) (mset m1 p (.lst ds.reverse))
  | _ => False
theorem ge_rev {e : Expr} {de : DE} {k : Nat} {p1 p2 p3 pos : Pos} (he : GE X e de) : GE X (.Subscript e (.Slice none none (some (.UnaryOp .USub (.Constant (.int 1) k p1) p2)) p3) pos) (dRev de) := by
  obtain ⟨te, p, l⟩ := he.ex
  refine .of ⟨_, pe_revS p, fun s H sd m Qd Q rs rm h k => ?_⟩
  refine l s H sd m _ _ rs rm h fun v H1 dv m1 t1 rm1 r1 h1 => ?_
  cases r1 with
  | @tup ds a vs sa ra => exact ⟨a, vs, rfl, .inr ⟨sa, fun p hp => k _ _ _ m1 (t1.trans (.new hp)) (rm1.skip hp) (.tup upd_same (ra.rev.mono (.new hp))) h1⟩⟩
  | ref a =>
    obtain ⟨ds, e, q⟩ := h1
    obtain ⟨vs, sc9, r⟩ := ref_rep rm1 e
    exact ⟨a, vs, rfl, .inl ⟨sc9, fun p hp => k _ _ _ _ (t1.trans (.new hp)) (rm1.newL hp r.rev) (.ref p) (q p (rm1.fresh hp))⟩⟩
  | _ => exact h1.elim
/-! extend by a list or a tuple -/
theorem tup_plain {P : Program} {w : World} {h : Heap} {b : Addr} {xs9 : Array Value} (p : IsTup h b xs9) : ∃ o, h.get? b = some o ∧ o.cls = .type "tuple" ∧ ∃ n, o.data = .seq xs9 n := p
def rExtendU (K : PySem.W.Frag) : V → List V → Hp → VK → Prop := fun x vs H Q => ∃ l b xs zs, x = .ref l ∧ vs = [.ref b] ∧ H l = some (.lst xs) ∧ (H b = some (.lst zs) ∨ SqT K H b zs) ∧ xs.length + zs.length ≤ sizeLine ∧ Q .non (upd H l (.lst (xs ++ zs)))
theorem pd_extend_tuple (l : Addr) (gs9 : Array Value) (n : Nat) (b : Addr) (gt9 : Array Value) (n2 : Nat) (dd : Option Addr) (sc9 : Array (Option Value)) (hs0 : ¬(!gs9.isEmpty && Builtin.List.listTooLong (gs9.size + gt9.size)) = true) (hs1 : gs9.size ≤ sizeLine) (hs2 : gs9.size + gt9.size ≤ sizeLine + 1) :
    Meets (Builtin.«list.extend» ⟨[.ref l, .ref b], []⟩) (fun _ R s => s.heap.get? l = some { cls := .type "list", dict := none, data := .seq gs9 n, slots := #[] } ∧ s.heap.get? b = some { cls := .type "tuple", dict := dd, data := .seq gt9 n2, slots := sc9 } ∧ R (.ok (.ret Value.none)) { s with heap := s.heap.update l (Obj.mapSeq fun x => x ++ gt9) }) :=
  .of_wp fun pg9 w A R s h => by
    obtain ⟨hp, g, d, tk, os⟩ := s; obtain ⟨hl, hb, h⟩ := h; have f1 := AutoSeq1.idx_int; have f2 := sub_tuple_tuple; have f3 := sub_list_list; have f4 := sub_tuple_list; have f5 := sub_list_tuple;
    have hz' : (gs9 ++ gt9).size ≤ sizeLine + 1 := by rw [Array.size_append]; exact hs2
    wp_walk using (wpAny_updateSeq hl rfl (hz := hs1) (_hz' := hz')), AutoSeq1.wpAny_loadPart' hl, AutoSeq1.wpAny_loadPart' hb; exact ⟨_, rfl, h⟩
theorem mt_extendU : MtM X "list.extend" (rExtendU X.K) := by
  intro pz s τ H x vs v us Q I rx ra9 h
  obtain ⟨l, b, xs, zs, rfl, rfl, hH, hB, hs9, q⟩ := h
  rcases hB with hB | hB
  · exact mt_extend pz s τ H _ _ v us Q I rx ra9 ⟨l, b, xs, zs, rfl, rfl, hH, hB, hs9, q⟩
  · cases rx
    obtain ⟨u, rfl, ru⟩ := ra9.one
    cases ru
    obtain ⟨z, xs9, n, r, hl, e⟩ := I.lstM hH
    obtain ⟨ys9, r2, p2, hl2⟩ := I.tuple hB
    obtain ⟨⟨c2, dd2, dt2, sl2⟩, e2, hc2, n2, hd2⟩ := id p2
    replace hc2 : c2 = .type "tuple" := hc2
    replace hd2 : dt2 = .seq ys9.toArray n2 := hd2
    subst hc2 hd2
    have le9 := r2.length
    have sz9 : xs9.toArray.size + ys9.toArray.size ≤ sizeLine := by rw [List.size_toArray, List.size_toArray]; omega
    have hlong : ¬ (!xs9.toArray.isEmpty && Builtin.List.listTooLong (xs9.toArray.size + ys9.toArray.size)) = true := by
      rw [notLongL sz9, Bool.and_false]
      exact Bool.false_ne_true
    refine call_meets F.slot_list_extend ⟨_, e, rfl⟩ F.entry_list_extend (F.args_list_extend_2 _ _)
      (pd_extend_tuple l xs9.toArray n b ys9.toArray n2 dd2 sl2 hlong (by rw [List.size_toArray]; omega) (by omega)) ⟨e, e2, ?_⟩
    refine ⟨.non, _, I.lset (its' := xs9 ++ ys9) hH e (by simp) (r.append r2) ?_, rfl, q⟩
    rw [List.length_append]
    omega
theorem lm_extend {K : PySem.W.Frag} : LM K (rExtendU K) dExtend := fun x vs H dx ds m Qd Q rm rx r h k => by
  match ds, r, h with
  | [.tup zs], r, h =>
    obtain ⟨a, es, zs', e, e1, hs9, q⟩ := h
    cases e1
    obtain ⟨rfl, rfl, _, ws, e2, r2⟩ := lst_rep rm rx e
    obtain ⟨v, rfl, ra9⟩ := repL1 r
    cases ra9 with
    | @tup _ b us sb rb => exact ⟨a, b, ws, us, rfl, rfl, e2, .inr sb, by rw [← r2.length, ← rb.length]; exact hs9, k _ _ _ _ (.lst e2) (rm.setL e2 (r2.append rb)) .non q⟩
  | [.ref b], r, h =>
    obtain ⟨a, es, zs, e, e1, hs9, q⟩ := h
    obtain ⟨rfl, rfl, _, ws, e2, r2⟩ := lst_rep rm rx e
    obtain ⟨v, rfl, ra9⟩ := repL1 r
    cases ra9
    unfold seqW at e1
    cases e3 : m b with
    | none => simp only [e3] at e1; cases e1
    | some o =>
      have z := rm b o e3
      cases o with
      | lst ys =>
        simp only [e3] at e1; cases e1
        obtain ⟨us, e4, rb⟩ := z
        exact ⟨a, b, ws, us, rfl, rfl, e2, .inl e4, by rw [← r2.length, ← rb.length]; exact hs9, k _ _ _ _ (.lst e2) (rm.setL e2 (r2.append rb)) .non q⟩
      | _ => simp only [e3] at e1; cases e1
  | [.non], _, h => obtain ⟨_, _, _, _, e, _⟩ := h; cases e
  | [.bl _], _, h => obtain ⟨_, _, _, _, e, _⟩ := h; cases e
  | [.int _], _, h => obtain ⟨_, _, _, _, e, _⟩ := h; cases e
  | [.str _], _, h => obtain ⟨_, _, _, _, e, _⟩ := h; cases e
  | [.rol _], _, h => obtain ⟨_, _, _, _, e, _⟩ := h; cases e
  | [.dic _ _], _, h => obtain ⟨_, _, _, _, e, _⟩ := h; cases e
  | [.dicT _ _], _, h => obtain ⟨_, _, _, _, e, _⟩ := h; cases e
  | [.obj _ _ _], _, h => obtain ⟨_, _, _, _, e, _⟩ := h; cases e
end
end PD

set_option Elab.async false
set_option linter.all false
set_option maxRecDepth 100000
set_option maxHeartbeats 4000000
namespace PD
open PySem PySem.Spec PyProof.Rows L2
section
variable {X : Cx}
/-! ### truth -/
theorem isEmptyL {K : PySem.W.Frag} {H : Hp} {ds : List D} {vs : List V} (r : RepL K H ds vs) : ds.isEmpty = vs.isEmpty := by
  cases r <;> rfl
theorem gt_tru {a : Expr} {da : DE} (ha : GE X a da) (he : ∀ whole, isTrue a X.env whole = (do let v ← whole; standAt a.pos; holding [v] (truthy v)) := by intro _; rfl) : GT X a (dTru da) := by
  obtain ⟨ta, p, l⟩ := ha.ex
  refine .of ⟨_, pt_truth p he, fun s H sd m Qd Q rs rm h k => ?_⟩
  refine l s H sd m _ _ rs rm h fun v H1 dv m1 t1 rm1 r1 h1 => ?_
  obtain ⟨b, e, q⟩ := h1
  refine ⟨b, ?_, k b H1 m1 t1 rm1 q⟩
  cases r1 with
  | non => cases e; rfl
  | bl c => cases e; rfl
  | int i => cases e; rfl
  | str z => cases e
  | @tup ds a vs sa ra =>
    cases e
    exact .inr (.inl ⟨vs, sa, by rw [← isEmptyL ra]⟩)
  | dic _ _ _ => cases e
  | dicT _ _ _ => cases e
  | obj _ _ _ => cases e
  | rol s r =>
    cases e
    exact .inl ⟨_, s.sq, by rw [← isEmptyL r]⟩
  | ref a =>
    have e : (seqOf m1 (.ref a)).map (fun ds => !ds.isEmpty) = some b := e
    cases e2 : seqOf m1 (.ref a) with
    | none => rw [e2] at e; cases e
    | some ds =>
      rw [e2] at e; cases e
      obtain ⟨vs, sl, r⟩ := ref_rep rm1 e2
      exact .inl ⟨vs, sl, by rw [← isEmptyL r]⟩
/-! ### statements -/
def dNext : DS := fun E s m => E.nx s m
def dSeq (t u : DS) : DS := fun E s m => t { E with nx := u E } s m
theorem gss_nil : GSs X [] dNext := ⟨_, pss_nil, fun s H sd m Ed E rs rm h k1 _ _ _ => k1 s H sd m (.refl H) rs rm h⟩
theorem LS.seq {K : PySem.W.Frag} {t u : TS} {d e : DS} (l : LS K t d) (l2 : LS K u e) : LS K (tSeq t u) (dSeq d e) := fun s H sd m Ed E rs rm h k1 k2 k3 k4 => by
  refine l s H sd m { Ed with nx := e Ed } { E with nx := u E } rs rm h (fun s' H' sd' m' t1 rs1 rm1 h1 => ?_) k2 k3 k4
  exact l2 s' H' sd' m' Ed E rs1 rm1 h1 (fun tB H2 sd2 m2 t2 a b c => k1 tB H2 sd2 m2 (t1.trans t2) a b c) (fun v H2 dv m2 t2 a b c => k2 v H2 dv m2 (t1.trans t2) a b c)
    (fun tB H2 sd2 m2 t2 a b c => k3 tB H2 sd2 m2 (t1.trans t2) a b c) (fun tB H2 sd2 m2 t2 a b c => k4 tB H2 sd2 m2 (t1.trans t2) a b c)
theorem gss_cons {st : Stmt} {rest : List Stmt} {d e : DS} (h1 : GS X st d) (h2 : GSs X rest e) : GSs X (st :: rest) (dSeq d e) := by
  obtain ⟨t, p, l⟩ := h1.ex
  obtain ⟨u, q, l2⟩ := h2.ex
  exact ⟨_, pss_cons p q, l.seq l2⟩
theorem gss_one {st : Stmt} {d : DS} (h1 : GS X st d) : GSs X [st] d := by
  obtain ⟨t, p, l⟩ := h1.ex
  exact ⟨_, pss_one p, l⟩
def dBreak : DS := fun E s m => E.bk s m
def dCont : DS := fun E s m => E.ct s m
theorem gs_pass {pos : Pos} : GS X (.Pass pos) dNext := ⟨_, ps_pass, fun s H sd m Ed E rs rm h k1 _ _ _ => k1 s H sd m (.refl H) rs rm h⟩
theorem gs_break {pos : Pos} : GS X (.Break pos) dBreak := ⟨_, ps_break, fun s H sd m Ed E rs rm h _ _ k3 _ => k3 s H sd m (.refl H) rs rm h⟩
theorem gs_continue {pos : Pos} : GS X (.Continue pos) dCont := ⟨_, ps_continue, fun s H sd m Ed E rs rm h _ _ _ k4 => k4 s H sd m (.refl H) rs rm h⟩
def dDrop (a : DE) : DS := fun E s m => a s m fun _ m1 => E.nx s m1
theorem gs_expr {e : Expr} {pos : Pos} {d : DE} (he : GE X e d) (hs : swapsWith e none pos.line X.env = pure false := by rfl) : GS X (.Expr e pos) (dDrop d) := by
  obtain ⟨t, p, l⟩ := he.ex
  exact ⟨_, ps_expr p hs, fun s H sd m Ed E rs rm h k1 _ _ _ => l s H sd m _ _ rs rm h fun v H1 dv m1 t1 rm1 r1 h1 => k1 s H1 sd m1 t1 (rs.mono t1) rm1 h1⟩
def dRet (a : DE) : DS := fun E s m => a s m E.rt
theorem gs_ret {e : Expr} {pos : Pos} {d : DE} (he : GE X e d) : GS X (.Return (some e) pos) (dRet d) := by
  obtain ⟨t, p, l⟩ := he.ex
  exact ⟨_, ps_ret p, fun s H sd m Ed E rs rm h _ k2 _ _ => l s H sd m _ _ rs rm h fun v H1 dv m1 t1 rm1 r1 h1 => k2 v H1 dv m1 t1 rm1 r1 h1⟩
def dRetN : DS := fun E _ m => E.rt .non m
theorem gs_retN {pos : Pos} : GS X (.Return none pos) dRetN := ⟨_, ps_retN, fun s H sd m Ed E rs rm h _ k2 _ _ => k2 .non H .non m (.refl H) rm .non h⟩
def dIfS (c : DT) (t u : DS) : DS := fun E s m => c s m fun b m1 => if b = true then t E s m1 else u E s m1
theorem gs_if {c : Expr} {a b : List Stmt} {pos : Pos} {dc : DT} {t u : DS} (hc : GT X c dc) (ha : GSs X a t) (hb : GSs X b u) : GS X (.If c a b pos) (dIfS dc t u) := by
  obtain ⟨tc, p, l⟩ := hc.ex
  obtain ⟨ta, q, l2⟩ := ha.ex
  obtain ⟨tb, q2, l3⟩ := hb.ex
  refine ⟨_, ps_if p q q2, fun s H sd m Ed E rs rm h k1 k2 k3 k4 => ?_⟩
  refine l s H sd m _ _ rs rm h fun b H1 m1 t1 rm1 h1 => ?_
  have c1 : ∀ tB H2 sd2 m2, TX H1 H2 → RS X.K H2 sd2 tB → RM X.K H2 m2 → Ed.nx sd2 m2 → E.nx tB H2 := fun tB H2 sd2 m2 t2 a b c => k1 tB H2 sd2 m2 (t1.trans t2) a b c
  have c2 : ∀ v H2 dv m2, TX H1 H2 → RM X.K H2 m2 → Rep X.K H2 dv v → Ed.rt dv m2 → E.rt v H2 := fun v H2 dv m2 t2 a b c => k2 v H2 dv m2 (t1.trans t2) a b c
  have c3 : ∀ tB H2 sd2 m2, TX H1 H2 → RS X.K H2 sd2 tB → RM X.K H2 m2 → Ed.bk sd2 m2 → E.bk tB H2 := fun tB H2 sd2 m2 t2 a b c => k3 tB H2 sd2 m2 (t1.trans t2) a b c
  have c4 : ∀ tB H2 sd2 m2, TX H1 H2 → RS X.K H2 sd2 tB → RM X.K H2 m2 → Ed.ct sd2 m2 → E.ct tB H2 := fun tB H2 sd2 m2 t2 a b c => k4 tB H2 sd2 m2 (t1.trans t2) a b c
  cases b with
  | true =>
    show ta E s H1
    exact l2 s H1 sd m1 Ed E (rs.mono t1) rm1 h1 c1 c2 c3 c4
  | false =>
    show tb E s H1
    exact l3 s H1 sd m1 Ed E (rs.mono t1) rm1 h1 c1 c2 c3 c4
/-! ### targets -/
abbrev DG := D → Sd → Mu → (Sd → Mu → Prop) → Prop
abbrev DGs := List D → Sd → Mu → (Sd → Mu → Prop) → Prop
/-- js: the slots that may be set -/
def Own (js : List Nat) (s tB : L2.St) : Prop := ∀ vs : List Nat, (∀ j ∈ js, j ∈ vs) → wipe tB vs = wipe s vs
def LG (K : PySem.W.Frag) (g : TG) (dg : DG) (js : List Nat) : Prop := ∀ x dx s H sd m (Qd : Sd → Mu → Prop) (Q : L2.St → Hp → Prop), Rep K H dx x → RS K H sd s → RM K H m → dg dx sd m Qd →
  (∀ s' H' sd' m', TX H H' → RS K H' sd' s' → RM K H' m' → Qd sd' m' → Own js s s' → Q s' H') → g x s H Q
def LGs (K : PySem.W.Frag) (g : TGs) (dg : DGs) (js : List Nat) : Prop := ∀ xs dxs s H sd m (Qd : Sd → Mu → Prop) (Q : L2.St → Hp → Prop), RepL K H dxs xs → RS K H sd s → RM K H m → dg dxs sd m Qd →
  (∀ s' H' sd' m', TX H H' → RS K H' sd' s' → RM K H' m' → Qd sd' m' → Own js s s' → Q s' H') → g xs s H Q
def liftG (K : PySem.W.Frag) (dg : DG) (js : List Nat) : TG := fun x s H Q => ∃ dx sd m Qd, Rep K H dx x ∧ RS K H sd s ∧ RM K H m ∧ dg dx sd m Qd ∧ ∀ s' H' sd' m', TX H H' → RS K H' sd' s' → RM K H' m' → Qd sd' m' → Own js s s' → Q s' H'
theorem liftG_le (K : PySem.W.Frag) (dg : DG) (js : List Nat) : LG K (liftG K dg js) dg js := fun x dx s H sd m Qd Q rx rs rm h k => ⟨dx, sd, m, Qd, rx, rs, rm, h, k⟩
structure GG (X : Cx) (tg : Expr) (dg : DG) (js : List Nat) : Prop where
  mk ::
  pg : PG X tg (liftG X.K dg js)
theorem GG.of {X : Cx} {tg : Expr} {g : TG} {dg : DG} {js : List Nat} (p : PG X tg g) (l : LG X.K g dg js) : GG X tg dg js :=
  ⟨⟨fun pz s τ H v u Q I r ⟨dx, sd, m, Qd, rx, rs, rm, h, k⟩ => p.run pz s τ H v u Q I r (l v dx τ H sd m Qd Q rx rs rm h k)⟩⟩
theorem GG.lg {X : Cx} {tg : Expr} {dg : DG} {js : List Nat} (h : GG X tg dg js) : LG X.K (liftG X.K dg js) dg js := liftG_le _ _ _
structure GGs (X : Cx) (ts : List Expr) (dg : DGs) (js : List Nat) : Prop where
  ex : ∃ g, PGs X ts g ∧ LGs X.K g dg js
theorem wipe_set {v : Option V} {j : Nat} : ∀ {vs : List Nat} {s : L2.St}, j ∈ vs → wipe (s.set j v) vs = wipe s vs
  | [], _, h => by cases h
  | i :: vs, s, h => by
    unfold wipe
    by_cases e : j = i
    · subst e
      by_cases h2 : j ∈ vs
      · rw [wipe_set h2]
      · have : ∀ {ws : List Nat} {s : L2.St}, j ∉ ws → wipe (s.set j v) ws = (wipe s ws).set j v := fun {ws} {s} => by
          induction ws with
          | nil => intro _; rfl
          | cons w ws ih =>
            intro hn
            unfold wipe
            rw [ih fun z => hn (List.mem_cons_of_mem _ z)]
            rw [List.set_comm _ _ (fun z => hn (by rw [z]; exact List.mem_cons_self ..))]
        rw [this h2, List.set_set]
    · rw [wipe_set (by rcases List.mem_cons.mp h with z | z; exact absurd z e; exact z)]
def dgN (j : Nat) : DG := fun d s m Q => Q (s.set j (some d)) m
theorem gg_name {pos : Pos} {i : Nat} {x : Str} (hN : X.N.Nodup) (hi : X.N[i]? = some x) (hx : Loc X.env.scope x) (hf : X.fn x = true ∨ X.env.scope.names.lookup x = some .local := by first | exact .inl rfl | exact .inr rfl | assumption) : GG X (.Name x pos) (dgN i) [i] :=
  .of (pg_name hN hi hx hf) fun x dx s H sd m Qd Q rx rs rm h k => k _ H _ m (.refl H) (rs.set rx i) rm h fun vs hv => wipe_set (hv i (List.mem_singleton.mpr rfl))
def dgNil : DGs := fun ds s m Q => match ds with | [] => Q s m | _ => False
def dgCons (g : DG) (r : DGs) : DGs := fun ds s m Q => match ds with | d :: ds => g d s m fun tA m1 => r ds tA m1 Q | [] => False
theorem ggs_nil : GGs X [] dgNil [] :=
  ⟨_, pgs_nil, fun xs dxs s H sd m Qd Q rx rs rm h k => by
    cases rx with
    | nil => exact ⟨rfl, k s H sd m (.refl H) rs rm h fun _ _ => rfl⟩
    | cons a b => exact h.elim⟩
theorem ggs_cons {e : Expr} {es : List Expr} {dg : DG} {dgs : DGs} {js ks : List Nat} (h1 : GG X e dg js) (h2 : GGs X es dgs ks) (hs : (assignEach (e :: es) X.env).map (·.2) = assign e X.env :: (assignEach es X.env).map (·.2) := by rfl) : GGs X (e :: es) (dgCons dg dgs) (js ++ ks) := by
  obtain ⟨gs, p2, l2⟩ := h2.ex
  exact ⟨_, pgs_cons h1.pg p2 hs, fun xs dxs s H sd m Qd Q rx rs rm h k => by
    cases rx with
    | nil => exact h.elim
    | cons a b =>
      refine ⟨_, _, rfl, h1.lg _ _ s H sd m _ _ a rs rm h fun tA H1 sd1 m1 t1 rs1 rm1 q1 o1 => ?_⟩
      exact l2 _ _ tA H1 sd1 m1 _ _ (b.mono t1) rs1 rm1 q1 fun tB H2 sd2 m2 t2 rs2 rm2 q2 o2 => k tB H2 sd2 m2 (t1.trans t2) rs2 rm2 q2 fun vs hv =>
        (o2 vs fun j hj => hv j (List.mem_append_right _ hj)).trans (o1 vs fun j hj => hv j (List.mem_append_left _ hj))⟩
def dgTup (n : Nat) (g : DGs) : DG := fun d s m Q => match d with | .tup ds => ds.length = n ∧ g ds s m Q | _ => False
theorem gg_tup {es : List Expr} {k n : Nat} {pos : Pos} {dg : DGs} {js : List Nat} (hc : X.calm = true) (h : GGs X es dg js) (hn : (assignEach es X.env).length = n := by rfl) (hst : (assignEach es X.env).findIdx? (·.1) = none := by rfl) : GG X (.Tuple es k pos) (dgTup n dg) js := by
  obtain ⟨g, p, l⟩ := h.ex
  exact .of (pg_tup hc p hn hst) fun x dx s H sd m Qd Q rx rs rm hh k => by
    cases rx with
    | @tup ds a vs sa ra => exact ⟨a, vs, rfl, sa, by rw [← ra.length]; exact hh.1, l _ _ s H sd m Qd Q ra rs rm hh.2 k⟩
    | _ => exact hh.elim
def dAsg (e : DE) (g : DG) : DS := fun E s m => e s m fun x m1 => g x s m1 E.nx
theorem gs_asg {tg e : Expr} {pos : Pos} {de : DE} {dg : DG} {js : List Nat} (he : GE X e de) (hg : GG X tg dg js) (hs : swapsWithSole [tg] e pos.line X.env = pure false := by rfl) (hw : swappedStores [tg] e X.env = pure none := by rfl) (h1 : (assignEach [tg] X.env).map (·.2) = [assign tg X.env] := by rfl) : GS X (.Assign [tg] e pos) (dAsg de dg) := by
  obtain ⟨t, p, l⟩ := he.ex
  refine ⟨_, ps_asg p hg.pg hs hw h1, fun s H sd m Ed E rs rm h k1 _ _ _ => ?_⟩
  refine l s H sd m _ _ rs rm h fun v H1 dv m1 t1 rm1 r1 h1 => ?_
  exact hg.lg v dv s H1 sd m1 _ _ r1 (rs.mono t1) rm1 h1 fun tB H2 sd2 m2 t2 rs2 rm2 q2 _ => k1 tB H2 sd2 m2 (t1.trans t2) rs2 rm2 q2
def dSet (i : Nat) (e : DE) : DS := dAsg e (dgN i)
theorem gs_set {i : Nat} {x : Str} {e : Expr} {pos pos' : Pos} {de : DE} (hN : X.N.Nodup) (hi : X.N[i]? = some x) (hx : Loc X.env.scope x) (he : GE X e de) (hs : swapsWith e (some (.Name x pos')) pos.line X.env = pure false := by rfl) (hf : X.fn x = true ∨ X.env.scope.names.lookup x = some .local := by first | exact .inl rfl | exact .inr rfl | assumption) :
    GS X (.Assign [.Name x pos'] e pos) (dSet i de) := by
  obtain ⟨t, p, l⟩ := he.ex
  refine ⟨_, ps_set hN hi hx p hs hf, fun s H sd m Ed E rs rm h k1 _ _ _ => ?_⟩
  exact l s H sd m _ _ rs rm h fun v H1 dv m1 t1 rm1 r1 h1 => k1 _ H1 _ m1 t1 ((rs.mono t1).set r1 i) rm1 h1
/-! x[i] = e -/
def dSub3 : D → D → D → Mu → (Mu → Prop) → Prop := fun o i v m Q => match i with
  | .int k => ∃ a es, lstOf m o = some (a, es) ∧ ∃ j, ixN es.length k = some j ∧ Q (mset m a (.lst (es.set j v)))
  | _ => False
def dgSub (o i : DE) : DG := fun v s m Q => o s m fun ov9 m1 => i s m1 fun iv m2 => dSub3 ov9 iv v m2 fun m3 => Q s m3
theorem gg_sub {o i : Expr} {pos : Pos} {d1 d2 : DE} (ho : GE X o d1) (hi : GE X i d2) (ha : ∀ v, assign (.Subscript o i pos) X.env v = (do
      let ov9 ← holding [v] (eval o X.env)
      let iv ← holding [v, ov9] (eval i X.env)
      standAt pos
      holding [v, ov9, iv] (setItem ov9 iv v)
      release [v, ov9, iv] []) := by intro _; rfl) : GG X (.Subscript o i pos) (dgSub d1 d2) [] :=
  .of (pg_sub ho.pe hi.pe set_list ha) fun x dx s H sd m Qd Q rx rs rm h k => by
    refine liftE_le _ d1 s H sd m _ _ rs rm h fun v H1 dv m1 t1 rm1 r1 h1 => ?_
    refine liftE_le _ d2 s H1 sd m1 _ _ (rs.mono t1) rm1 h1 fun u H2 du m2 t2 rm2 r2 h2 => ?_
    cases r2 with
    | int z =>
      obtain ⟨a, es, e, j, e2, q⟩ := h2
      obtain ⟨rfl, rfl, _, ws, e3, r3⟩ := lst_rep rm2 (r1.mono t2) e
      have t12 := t1.trans t2
      exact ⟨a, ws, z, j, rfl, rfl, e3, by rw [← r3.length]; exact e2, k s _ sd _ (t12.trans (.lst e3)) (rs.mono (t12.trans (.lst e3))) (rm2.setL e3 (RepL.set (rx.mono t12) j r3)) q fun _ _ => rfl⟩
    | _ => exact h2.elim
/-! ### += on a name -/
def dAug (i : Nat) (e : DE) (r : D2) : DS := fun E s m => match s[i]? with | some (some x) => e s m fun y m1 => r x y m1 fun z m2 => E.nx (s.set i (some z)) m2 | _ => False
theorem gs_aug {i : Nat} {x : Str} {e : Expr} {pos pos' : Pos} {op : Operator} {ti : TIp} {r : D2} {de : DE} (hN : X.N.Nodup) (hi : X.N[i]? = some x) (hx : Loc X.env.scope x) (he : GE X e de) (ho : PIp X op ti) (lr : LR X.K ti r) (hf : X.fn x = true ∨ X.env.scope.names.lookup x = some .local := by first | exact .inl rfl | exact .inr rfl | assumption) :
    GS X (.AugAssign (.Name x pos') op e pos) (dAug i de r) := by
  obtain ⟨t, p, l⟩ := he.ex
  refine ⟨_, ps_aug hN hi hx p ho hf, fun s H sd m Ed E rs rm h k1 _ _ _ => ?_⟩
  unfold dAug at h
  split at h
  · rename_i d e1
    obtain ⟨v, e2, ra9⟩ := rs.at_ i d e1
    refine ⟨v, e2, l s H sd m _ _ rs rm h fun u H1 du m1 t1 rm1 r1 h1 => ?_⟩
    exact lr v u H1 d du m1 _ _ rm1 (ra9.mono t1) r1 h1 fun z H2 dz m2 t2 rm2 r2 h2 => k1 _ H2 _ m2 (t1.trans t2) ((rs.mono (t1.trans t2)).set r2 i) rm2 h2
  · exact h.elim
end
end PD

set_option Elab.async false
set_option linter.all false
set_option maxRecDepth 100000
set_option maxHeartbeats 4000000
namespace PD
open PySem PySem.Spec PyProof.Rows L2
/-! ### what is walked: the items, and what must stand while it is walked -/
abbrev DI := Sd → Mu → (List D → (Mu → Prop) → Mu → Prop) → Prop
structure JOk (K : PySem.W.Frag) (J : It) (es : List D) (st : Mu → Prop) (H1 : Hp) : Prop where
  go : ∀ i H m, TX H1 H → RM K H m → st m → i < es.length → J.go i H
  yld : ∀ i H x H' m, TX H1 H → RM K H m → st m → i < es.length → J.yld i H x H' → ∃ d, es[i]? = some d ∧ TX H H' ∧ RM K H' m ∧ Rep K H' d x
  stop : ∀ i H m, TX H1 H → RM K H m → st m → es.length ≤ i → J.stop i H
def LI (K : PySem.W.Frag) (wi : TI) (di : DI) : Prop := ∀ s H sd m (Rd : List D → (Mu → Prop) → Mu → Prop) (R : It → Hp → Prop), RS K H sd s → RM K H m → di sd m Rd →
  (∀ J H1 es st m1, TX H H1 → RM K H1 m1 → JOk K J es st H1 → Rd es st m1 → R J H1) → wi s H R
structure GI (X : Cx) (tg iter : Expr) (wi : TI) (di : DI) : Prop where
  pi : PI X tg iter wi
  li : LI X.K wi di
def GIE (X : Cx) (tg iter : Expr) (di : DI) : Prop := ∃ wi, GI X tg iter wi di
/-- es walked -/
def dLoop (st : Mu → Prop) (g : DG) (tb : DS) (E : DEnds) : List D → Sd → Mu → Prop
  | [] => fun s m => st m ∧ E.nx s m
  | d :: es => fun s m => st m ∧ g d s m fun s2 m2 => tb { E with nx := dLoop st g tb E es, ct := dLoop st g tb E es, bk := E.nx } s2 m2
def dFor (di : DI) (g : DG) (tb : DS) : DS := fun E s m => di s m fun es st m1 => dLoop st g tb E es s m1
section
variable {X : Cx}
theorem gs_for {tg iter : Expr} {body : List Stmt} {pos : Pos} {di : DI} {dg : DG} {js : List Nat} {d : DS} (hp : PassesOwn (model X.prog X.w) X.A X.env X.xe) (hc : X.calm = true) (hi : GIE X tg iter di) (hg : GG X tg dg js) (hb : GSs X body d) (hs : ∀ x, foldedSetIterable iter X.env x = pure x := by intro _; rfl) :
    GS X (.For tg iter body [] pos) (dFor di dg d) := by
  obtain ⟨wi, hi⟩ := hi
  obtain ⟨tb, p, l⟩ := hb.ex
  refine ⟨_, ps_for hp hc hi.pi hg.pg p hs, fun s H sd m Ed E rs rm h k1 k2 k3 k4 => ?_⟩
  refine hi.li s H sd m _ _ rs rm h fun J H1 es st m1 t1 rm1 jo h1 => ?_
  refine ⟨fun i n s' H' => i ≤ es.length ∧ n = es.length - i ∧ ∃ sd' m', TX H1 H' ∧ RS X.K H' sd' s' ∧ RM X.K H' m' ∧ dLoop st dg d Ed (es.drop i) sd' m', ⟨es.length, Nat.zero_le _, by omega, sd, m1, .refl _, rs.mono t1, rm1, h1⟩, ?_⟩
  rintro i n s' H' ⟨hle, rfl, sd', m', t2, rs2, rm2, q⟩
  by_cases hlt : i < es.length
  · rw [List.drop_eq_getElem_cons hlt] at q
    obtain ⟨hst, q⟩ := q
    refine .inr ⟨jo.go i H' m' t2 rm2 hst hlt, fun s2 H2 => ∃ sd2 m2, TX H1 H2 ∧ RS X.K H2 sd2 s2 ∧ RM X.K H2 m2 ∧ dLoop st dg d Ed (es.drop (i + 1)) sd2 m2, fun s2 H2 ⟨sd2, m2, a, b, c, e⟩ => ⟨es.length - (i + 1), by omega, hlt, rfl, sd2, m2, a, b, c, e⟩, fun x H3 hy => ?_⟩
    obtain ⟨dx, e, t3, rm3, rx⟩ := jo.yld i H' x H3 m' t2 rm2 hst hlt hy
    rw [List.getElem?_eq_getElem hlt] at e
    cases e
    refine hg.lg x _ s' H3 sd' m' _ _ rx (rs2.mono t3) rm3 q fun s4 H4 sd4 m4 t4 rs4 rm4 q4 _ => ?_
    have t14 : TX H1 H4 := t2.trans (t3.trans t4)
    refine l s4 H4 sd4 m4 _ _ rs4 rm4 q4 (fun s5 H5 sd5 m5 t5 a b c => ⟨sd5, m5, t14.trans t5, a, b, c⟩) (fun v H5 dv m5 t5 a b c => k2 v H5 dv m5 (t1.trans (t14.trans t5)) a b c)
      (fun s5 H5 sd5 m5 t5 a b c => k1 s5 H5 sd5 m5 (t1.trans (t14.trans t5)) a b c) (fun s5 H5 sd5 m5 t5 a b c => ⟨sd5, m5, t14.trans t5, a, b, c⟩)
  · have e : i = es.length := by omega
    subst e
    rw [List.drop_length] at q
    exact .inl ⟨jo.stop _ H' m' t2 rm2 q.1 (Nat.le_refl _), k1 s' H' sd' m' (t1.trans t2) rs2 rm2 q.2⟩
/-! a list, a tuple -/
def dISeq (a : DE) : DI := fun s m R => a s m fun x m1 => match x with
  | .tup ds => R ds (fun _ => True) m1
  | .rol ds => R ds (fun _ => True) m1
  | .ref p => ∃ ds, seqOf m1 (.ref p) = some ds ∧ R ds (fun m' => seqOf m' (.ref p) = some ds) m1
  | _ => False
theorem gi_seq {tg l : Expr} {a : DE} (h : GE X l a) : GIE X tg l (dISeq a) :=
  ⟨iSeq X.K (liftE X.K a), pi_seq h.pe, fun s H sd m Rd R rs rm hh k => by
    refine liftE_le _ a s H sd m _ _ rs rm hh fun v H1 dv m1 t1 rm1 r1 h1 => ?_
    cases r1 with
    | @tup ds p vs sa ra =>
      refine ⟨p, rfl, .inr ⟨vs, sa, k _ H1 ds (fun _ => True) m1 t1 rm1 ⟨fun i H' m' t' _ _ hi => ?_, fun i H' x H2 m' t' rm' _ _ hy => ?_, fun i H' m' t' _ _ hi => ?_⟩ h1⟩⟩
      · have hi' : i < vs.length := by rw [← ra.length]; exact hi
        exact ⟨vs, vs[i], t'.sqT sa, List.getElem?_eq_getElem hi'⟩
      · obtain ⟨rfl, f⟩ := hy
        obtain ⟨d, e, q⟩ := ra.getV (f _ (t'.sqT sa))
        exact ⟨d, e, .refl _, rm', q.mono t'⟩
      · exact ⟨vs, t'.sqT sa, by rw [← ra.length]; exact hi⟩
    | @rol ds p vs sa ra =>
      refine ⟨p, rfl, .inl ⟨vs, sa.sq, k _ H1 ds (fun _ => True) m1 t1 rm1 ⟨fun i H' m' t' _ _ hi => ?_, fun i H' x H2 m' t' rm' _ _ hy => ?_, fun i H' m' t' _ _ hi => ?_⟩ h1⟩⟩
      · have hi' : i < vs.length := by rw [← ra.length]; exact hi
        exact ⟨vs, vs[i], (t'.ro sa).sq, List.getElem?_eq_getElem hi'⟩
      · obtain ⟨rfl, f⟩ := hy
        obtain ⟨d, e, q⟩ := ra.getV (f _ (t'.ro sa).sq)
        exact ⟨d, e, .refl _, rm', q.mono t'⟩
      · exact ⟨vs, (t'.ro sa).sq, by rw [← ra.length]; exact hi⟩
    | ref p =>
      obtain ⟨ds, e, q⟩ := h1
      obtain ⟨vs, sl, r⟩ := ref_rep rm1 e
      refine ⟨p, rfl, .inl ⟨vs, sl, k _ H1 ds (fun m' => seqOf m' (.ref p) = some ds) m1 t1 rm1 ⟨fun i H' m' t' rm' st hi => ?_, fun i H' x H2 m' t' rm' st _ hy => ?_, fun i H' m' t' rm' st hi => ?_⟩ q⟩⟩
      · obtain ⟨ws, sl', r'⟩ := ref_rep rm' st
        have hi' : i < ws.length := by rw [← r'.length]; exact hi
        exact ⟨ws, ws[i], sl', List.getElem?_eq_getElem hi'⟩
      · obtain ⟨rfl, f⟩ := hy
        obtain ⟨ws, sl', r'⟩ := ref_rep rm' st
        obtain ⟨d, e, q⟩ := r'.getV (f _ sl')
        exact ⟨d, e, .refl _, rm', q⟩
      · obtain ⟨ws, sl', r'⟩ := ref_rep rm' st
        exact ⟨ws, sl', by rw [← r'.length]; exact hi⟩
    | _ => exact h1.elim⟩
/-! range -/
def rangeD (lo : Int) (n : Nat) : List D := (List.range n).map fun (i : Nat) => .int (lo + (i : Int))
theorem jo_range {K : PySem.W.Frag} {lo : Int} {n : Nat} {H1 : Hp} : JOk K (Itr lo n) (rangeD lo n) (fun _ => True) H1 := by
  have hl : (rangeD lo n).length = n := by unfold rangeD; rw [List.length_map, List.length_range]
  refine ⟨fun i H m _ _ _ h => ?_, fun i H x H' m _ rm _ h hy => ?_, fun i H m _ _ _ h => ?_⟩
  · rw [hl] at h; exact h
  · obtain ⟨rfl, rfl⟩ := hy
    rw [hl] at h
    exact ⟨.int (lo + (i : Int)), by unfold rangeD; rw [List.getElem?_map, List.getElem?_range h]; rfl, .refl _, rm, .int _⟩
  · rw [hl] at h; exact h
def dIRng1 (a : DA) : DI := fun s m R => a s m fun ds m1 => match ds with
  | [.int j] => -(2 ^ 62) ≤ j ∧ j < 2 ^ 62 ∧ R (rangeD 0 j.toNat) (fun _ => True) m1
  | _ => False
def dIRng2 (a : DA) : DI := fun s m R => a s m fun ds m1 => match ds with
  | [.int i, .int j] => (-(2 ^ 62) ≤ i ∧ i < 2 ^ 62 ∧ -(2 ^ 62) ≤ j ∧ j < 2 ^ 62) ∧ R (rangeD i (j - i).toNat) (fun _ => True) m1
  | _ => False
theorem gi_rng1 {tg a : Expr} {p pos : Pos} {da : DA} (hg : Gl X "range") (hm : X.mg "range" = none) (ha : GA X [a] da) (hs : starEach [a] X.env = [(false, eval a X.env)] := by rfl) :
    GIE X tg (.Call (.Name "range" p) [a] [] pos) (dIRng1 da) := by
  obtain ⟨ta, q, l⟩ := ha.ex
  refine ⟨_, pi_range1 hg hm q hs, fun s H sd m Rd R rs rm h k => ?_⟩
  refine l s H sd m _ _ rs rm h fun vs H1 ds m1 t1 rm1 r1 h1 => ?_
  match ds, r1, h1 with
  | [.int j], r1, h1 =>
    obtain ⟨v, rfl, rv⟩ := repL1 r1
    cases rv
    exact ⟨j, rfl, h1.1, h1.2.1, k _ H1 _ _ m1 t1 rm1 jo_range h1.2.2⟩
theorem gi_rng2 {tg a b : Expr} {p pos : Pos} {da : DA} (hg : Gl X "range") (hm : X.mg "range" = none) (ha : GA X [a, b] da) (hs : starEach [a, b] X.env = [(false, eval a X.env), (false, eval b X.env)] := by rfl) (hs2 : starEach [b] X.env = [(false, eval b X.env)] := by rfl) :
    GIE X tg (.Call (.Name "range" p) [a, b] [] pos) (dIRng2 da) := by
  obtain ⟨ta, q, l⟩ := ha.ex
  refine ⟨_, pi_range2 hg hm q hs hs2, fun s H sd m Rd R rs rm h k => ?_⟩
  refine l s H sd m _ _ rs rm h fun vs H1 ds m1 t1 rm1 r1 h1 => ?_
  match ds, r1, h1 with
  | [.int i, .int j], r1, h1 =>
    obtain ⟨v, u, rfl, rv, ru⟩ := repL2 r1
    cases rv
    cases ru
    exact ⟨i, j, rfl, h1.1, k _ H1 _ _ m1 t1 rm1 jo_range h1.2⟩
/-! enumerate -/
def enumD (i : Nat) : List D → List D
  | [] => []
  | d :: ds => .tup [.int (i : Int), d] :: enumD (i + 1) ds
theorem enumD_len : ∀ (ds : List D) (i : Nat), (enumD i ds).length = ds.length
  | [], _ => rfl
  | d :: ds, i => by unfold enumD; rw [List.length_cons, List.length_cons, enumD_len ds]
theorem enumD_get : ∀ (ds : List D) (i j : Nat) {d : D}, ds[j]? = some d → (enumD i ds)[j]? = some (.tup [.int ((i + j : Nat) : Int), d])
  | [], _, _, _, h => by simp at h
  | d :: ds, i, 0, _, h => by
    have e := Option.some.inj h
    subst e; rfl
  | d :: ds, i, j + 1, e, h => by
    have z := enumD_get ds (i + 1) j (d := e) (by simpa using h)
    unfold enumD
    rw [List.getElem?_cons_succ, z]
    rw [show i + 1 + j = i + (j + 1) by omega]
def dIEnum (a : DA) : DI := fun s m R => a s m fun ds m1 => match ds with
  | [.tup es] => R (enumD 0 es) (fun _ => True) m1
  | [.ref p] => ∃ es, seqOf m1 (.ref p) = some es ∧ R (enumD 0 es) (fun m' => seqOf m' (.ref p) = some es) m1
  | _ => False
theorem enum_item {K : PySem.W.Frag} {i : Nat} {x : V} {d : D} {H : Hp} {T : Addr} {m : Mu} {es : List D} (rm : RM K H m) (hT : H T = none) (e : es[i]? = some d) (r : Rep K H d x) :
    ∃ d', (enumD 0 es)[i]? = some d' ∧ TX H (upd H T (.tup [.int (i : Nat), x])) ∧ RM K (upd H T (.tup [.int (i : Nat), x])) m ∧ Rep K (upd H T (.tup [.int (i : Nat), x])) d' (.ref T) := by
  refine ⟨_, enumD_get es 0 i e, .new hT, rm.skip hT, ?_⟩
  rw [Nat.zero_add]
  exact .tup upd_same (.cons (.int _) (.cons (r.mono (.new hT)) .nil))
theorem gi_enum {e : Expr} {p pos tpos : Pos} {elts : List Expr} {kk : Nat} {da : DA} (hg : Gl X "enumerate") (hm : X.mg "enumerate" = none) (ha : GA X [e] da) (hs : starEach [e] X.env = [(false, eval e X.env)] := by rfl) :
    GIE X (.Tuple elts kk tpos) (.Call (.Name "enumerate" p) [e] [] pos) (dIEnum da) := by
  obtain ⟨ta, q, l⟩ := ha.ex
  refine ⟨_, pi_enumT hg hm q hs, fun s H sd m Rd R rs rm h k => ?_⟩
  refine l s H sd m _ _ rs rm h fun vs H1 ds m1 t1 rm1 r1 h1 => ?_
  match ds, r1, h1 with
  | [.tup es], r1, h1 =>
    obtain ⟨v, rfl, rv⟩ := repL1 r1
    cases rv with
    | @tup _ a ws sa ra =>
      refine ⟨a, rfl, .inr ⟨ws, sa, k _ H1 _ (fun _ => True) m1 t1 rm1 ⟨fun i H' m' t' _ _ hi => ?_, fun i H' x H2 m' t' rm' _ _ hy => ?_, fun i H' m' t' _ _ hi => ?_⟩ h1⟩⟩
      · rw [enumD_len] at hi
        have hi' : i < ws.length := by rw [← ra.length]; exact hi
        exact ⟨ws, ws[i], t'.sqT sa, List.getElem?_eq_getElem hi'⟩
      · obtain ⟨T, y, rfl, hT, rfl, f⟩ := hy
        obtain ⟨d, e, q⟩ := ra.getV (f _ (t'.sqT sa))
        exact enum_item rm' hT e (q.mono t')
      · rw [enumD_len] at hi
        exact ⟨ws, t'.sqT sa, by rw [← ra.length]; exact hi⟩
  | [.ref p], r1, h1 =>
    obtain ⟨es, e, q⟩ := h1
    obtain ⟨v, rfl, rv⟩ := repL1 r1
    cases rv
    obtain ⟨ws, sl, r⟩ := ref_rep rm1 e
    refine ⟨p, rfl, .inl ⟨ws, sl, k _ H1 _ (fun m' => seqOf m' (.ref p) = some es) m1 t1 rm1 ⟨fun i H' m' t' rm' st hi => ?_, fun i H' x H2 m' t' rm' st _ hy => ?_, fun i H' m' t' rm' st hi => ?_⟩ q⟩⟩
    · rw [enumD_len] at hi
      obtain ⟨us, sl', r'⟩ := ref_rep rm' st
      have hi' : i < us.length := by rw [← r'.length]; exact hi
      exact ⟨us, us[i], sl', List.getElem?_eq_getElem hi'⟩
    · obtain ⟨T, y, rfl, hT, rfl, f⟩ := hy
      obtain ⟨us, sl', r'⟩ := ref_rep rm' st
      obtain ⟨d, e, q⟩ := r'.getV (f _ sl')
      exact enum_item rm' hT e q
    · rw [enumD_len] at hi
      obtain ⟨us, sl', r'⟩ := ref_rep rm' st
      exact ⟨us, sl', by rw [← r'.length]; exact hi⟩
/-! ### while -/
def dWhile (c : DT) (tb : DS) : DS := fun E s m => ∃ W : Nat → Sd → Mu → Prop, (∃ n, W n s m) ∧ ∀ n s m, W n s m →
  c s m fun b m1 => if b = true then tb { E with nx := fun s' m' => ∃ n', n' < n ∧ W n' s' m', ct := fun s' m' => ∃ n', n' < n ∧ W n' s' m', bk := E.nx } s m1 else E.nx s m1
theorem gs_while {c : Expr} {body : List Stmt} {pos : Pos} {dc : DT} {d : DS} (hp : PassesOwn (model X.prog X.w) X.A X.env X.xe) (hc : GT X c dc) (hb : GSs X body d) : GS X (.While c body [] pos) (dWhile dc d) := by
  obtain ⟨tc, p, l⟩ := hc.ex
  obtain ⟨tb, q, l2⟩ := hb.ex
  refine ⟨_, ps_while hp p q, fun s H sd m Ed E rs rm h k1 k2 k3 k4 => ?_⟩
  obtain ⟨W, ⟨n0, w0⟩, turn⟩ := h
  refine ⟨fun n s' H' => ∃ sd' m', TX H H' ∧ RS X.K H' sd' s' ∧ RM X.K H' m' ∧ W n sd' m', ⟨n0, sd, m, .refl _, rs, rm, w0⟩, ?_⟩
  rintro n s' H' ⟨sd', m', t1, rs1, rm1, w⟩
  refine l s' H' sd' m' _ _ rs1 rm1 (turn n sd' m' w) fun b H2 m2 t2 rm2 h2 => ?_
  have t12 : TX H H2 := t1.trans t2
  cases b with
  | true =>
    refine ⟨fun s3 H3 => ∃ n', n' < n ∧ ∃ sd3 m3, TX H H3 ∧ RS X.K H3 sd3 s3 ∧ RM X.K H3 m3 ∧ W n' sd3 m3, fun s3 H3 ⟨n', a, b⟩ => ⟨n', a, b⟩, ?_⟩
    exact l2 s' H2 sd' m2 _ _ (rs1.mono t2) rm2 h2 (fun s5 H5 sd5 m5 t5 a b ⟨n', c, e⟩ => ⟨n', c, sd5, m5, t12.trans t5, a, b, e⟩) (fun v H5 dv m5 t5 a b c => k2 v H5 dv m5 (t12.trans t5) a b c)
      (fun s5 H5 sd5 m5 t5 a b c => k1 s5 H5 sd5 m5 (t12.trans t5) a b c) (fun s5 H5 sd5 m5 t5 a b ⟨n', c, e⟩ => ⟨n', c, sd5, m5, t12.trans t5, a, b, e⟩)
  | false => exact k1 s' H2 sd' m2 t12 (rs1.mono t2) rm2 h2
/-! ### [e for x in xs if t] -/
def wipeD (s : Sd) : List Nat → Sd
  | [] => s
  | v :: vs => (wipeD s vs).set v none
theorem RS.wipe {K : PySem.W.Frag} {H : Hp} {sd : Sd} {s : L2.St} (r : RS K H sd s) : ∀ vs : List Nat, RS K H (wipeD sd vs) (wipe s vs)
  | [] => r
  | v :: vs => by
    have ih := RS.wipe r vs
    unfold wipeD L2.wipe
    refine ⟨by rw [List.length_set, List.length_set]; exact ih.len, fun i d e => ?_⟩
    rw [List.getElem?_set] at e
    rw [List.getElem?_set]
    by_cases hv : v = i
    · rw [if_pos hv] at e
      split at e
      · cases e
      · cases e
    · rw [if_neg hv] at e ⊢
      exact ih.at_ i d e
theorem wipe_wipe (s : L2.St) (vs : List Nat) : wipe (wipe s vs) vs = wipe s vs := by
  have go : ∀ ws : List Nat, (∀ w ∈ ws, w ∈ vs) → wipe (wipe s ws) vs = wipe s vs := fun ws => by
    induction ws with
    | nil => intro _; rfl
    | cons w ws ih =>
      intro h
      show wipe ((wipe s ws).set w none) vs = wipe s vs
      rw [wipe_set (h w (List.mem_cons_self ..)), ih fun x hx => h x (List.mem_cons_of_mem _ hx)]
  exact go vs fun _ h => h
def dTests (c : DT) : DT := c
def dYes : DT := fun _ m Q => Q true m
structure GTs (X : Cx) (ifs : List Expr) (d : DT) : Prop where
  mk ::
  pts : PTs X ifs (liftT X.K d)
theorem gts_nil : GTs X [] dYes := ⟨⟨fun pins s σ H Q I ⟨sd, m, Qd, rs, rm, h, k⟩ => pts_nil.run pins s σ H Q I (k true H m (.refl H) rm h)⟩⟩
theorem gts_one {c : Expr} {d : DT} (h : GT X c d) : GTs X [c] d := ⟨pts_one h.pt⟩
def dComp (st : Mu → Prop) (g : DG) (t : DT) (e : DE) (p : Addr) (s : Sd) (Q : DK) : List D → List D → Mu → Prop
  | [], acc => fun m => st m ∧ m p = some (.lst acc) ∧ Q (.ref p) m
  | d :: es, acc => fun m => st m ∧ g d s m fun s2 m2 => t s2 m2 fun b m3 =>
      if b = true then e s2 m3 fun y m4 => m4 p = some (.lst acc) ∧ acc.length < sizeLine ∧ dComp st g t e p s Q es (acc ++ [y]) (mset m4 p (.lst (acc ++ [y]))) else dComp st g t e p s Q es acc m3
def dLc (di : DI) (g : DG) (t : DT) (e : DE) (vs : List Nat) : DE := fun s m Q => di s m fun es st m1 => ∀ p, m1 p = none → dComp st g t e p (wipeD s vs) Q es [] (mset m1 p (.lst []))
theorem le_lc {s : L2.St} {H : Hp} {Q : VK} {sd : Sd} {m : Mu} {Qd : DK} {tg iter : Expr} {vs : List Nat} {wi : TI} {di : DI} {g : TG} {dg : DG} {js : List Nat} {dt : DT} {de : DE} (hi : GI X tg iter wi di) (lg : LG X.K g dg js) (hj : ∀ j ∈ js, j ∈ vs)
    (rs : RS X.K H sd s) (rm : RM X.K H m) (h : dLc di dg dt de vs sd m Qd) (k : ∀ v H' dv m', TX H H' → RM X.K H' m' → Rep X.K H' dv v → Qd dv m' → Q v H') : tLc wi g (liftT X.K dt) (liftE X.K de) vs s H Q := by
  refine hi.li s H sd m _ _ rs rm h fun J H1 es st m1 t1 rm1 jo h1 => ?_
  intro p hp
  have h2 := h1 p (rm1.fresh hp)
  have tn : TX H1 (upd H1 p (.lst [])) := .new hp
  refine ⟨fun i n H' => i ≤ es.length ∧ n = es.length - i ∧ ∃ m' acc, TX H1 H' ∧ RM X.K H' m' ∧ dComp st dg dt de p (wipeD sd vs) Qd (es.drop i) acc m', ⟨es.length, Nat.zero_le _, by omega, _, [], tn, rm1.newL hp .nil, h2⟩, ?_⟩
  rintro i n H' ⟨hle, rfl, m', acc, t2, rm2, q⟩
  by_cases hlt : i < es.length
  · rw [List.drop_eq_getElem_cons hlt] at q
    obtain ⟨hst, q⟩ := q
    refine .inr ⟨jo.go i H' m' t2 rm2 hst hlt, fun H2 => ∃ m2 acc, TX H1 H2 ∧ RM X.K H2 m2 ∧ dComp st dg dt de p (wipeD sd vs) Qd (es.drop (i + 1)) acc m2, fun H2 ⟨m2, acc, a, b, e⟩ => ⟨es.length - (i + 1), by omega, hlt, rfl, m2, acc, a, b, e⟩, fun x H3 hy => ?_⟩
    obtain ⟨dx, e, t3, rm3, rx⟩ := jo.yld i H' x H3 m' t2 rm2 hst hlt hy
    rw [List.getElem?_eq_getElem hlt] at e
    cases e
    refine lg x _ (wipe s vs) H3 (wipeD sd vs) m' _ _ rx ((rs.mono (t1.trans (t2.trans t3))).wipe _) rm3 q fun s4 H4 sd4 m4 t4 rs4 rm4 q4 ow => ?_
    refine ⟨by rw [ow _ hj, wipe_wipe], ?_⟩
    have t14 : TX H1 H4 := t2.trans (t3.trans t4)
    refine liftT_le _ dt s4 H4 sd4 m4 _ _ rs4 rm4 q4 fun b H5 m5 t5 rm5 q5 => ?_
    cases b with
    | true =>
      show liftE X.K de s4 H5 _
      refine liftE_le _ de s4 H5 sd4 m5 _ _ (rs4.mono t5) rm5 q5 fun y H6 dy m6 t6 rm6 ry q6 => ?_
      obtain ⟨e6, hz, q6⟩ := q6
      obtain ⟨ws, e7, r7⟩ := rm6 p _ e6
      exact ⟨ws, e7, by rw [← r7.length]; exact hz, _, acc ++ [dy], t14.trans (t5.trans (t6.trans (.lst e7))), rm6.setL e7 (r7.append (.cons ry .nil)), q6⟩
    | false =>
      exact ⟨m5, acc, t14.trans t5, rm5, q5⟩
  · have e : i = es.length := by omega
    subst e
    rw [List.drop_length] at q
    exact .inl ⟨jo.stop _ H' m' t2 rm2 q.1 (Nat.le_refl _), k _ H' _ m' (t1.trans t2) rm2 (.ref p) q.2.2⟩
theorem ge_lc {elt tg iter : Expr} {ifs : List Expr} {scope : Scope} {own : List (Str × Nat)} {pos : Pos} {di : DI} {dg : DG} {js : List Nat} {dt : DT} {de : DE} (hc : X.calm = true) (hN : X.N.Nodup) (hi : GIE X tg iter di) (ok : BlkOk X.N X.env.scope scope own)
    (hg : ∀ (s : Shared) (H : Hp) (C : Addr) (cl : List (Str × Addr)) (fp : List Addr), GG (X.blk s H scope (compEnvC scope cl C X.env) fp) tg dg js) (ht : ∀ (s : Shared) (H : Hp) (C : Addr) (cl : List (Str × Addr)) (fp : List Addr), GTs (X.blk s H scope (compEnvC scope cl C X.env) fp) ifs dt)
    (he : ∀ (s : Shared) (H : Hp) (C : Addr) (cl : List (Str × Addr)) (fp : List Addr), GE (X.blk s H scope (compEnvC scope cl C X.env) fp) elt de) (hj : ∀ j ∈ js, j ∈ own.map (·.2)) (hs : ∀ x, foldedSetIterable iter X.env x = pure x := by intro _; rfl) :
    GE X (.ListComp elt [⟨tg, iter, ifs, 0⟩] scope pos) (dLc di dg dt de (own.map (·.2))) := by
  obtain ⟨wi, hi⟩ := hi
  refine ⟨⟨fun pins s0 s H Q I ⟨sd, m, Qd, rs, rm, h, k⟩ => (pe_lc (g := liftG X.K dg js) (tt := liftT X.K dt) (te := liftE X.K de) hc hN hi.pi ok (fun s H C cl fp => (hg s H C cl fp).pg) (fun s H C cl fp => (ht s H C cl fp).pts) (fun s H C cl fp => (he s H C cl fp).pe) hs).run pins s0 s H Q I ?_⟩⟩
  exact le_lc hi (hg s0 H 0 [] []).lg hj rs rm h k
theorem gs_setLc {i : Nat} {y : Str} {py spos : Pos} {elt tg iter : Expr} {ifs : List Expr} {scope : Scope} {own : List (Str × Nat)} {pos : Pos} {di : DI} {dg : DG} {js : List Nat} {dt : DT} {de : DE} (hc : X.calm = true) (hN : X.N.Nodup) (hy : X.N[i]? = some y) (hyl : X.env.scope.names.lookup y = some .local)
    (hsw : swapsWith (.ListComp elt [⟨tg, iter, ifs, 0⟩] scope pos) (some (.Name y py)) spos.line X.env = pure true) (hi : GIE X tg iter di) (ok : BlkOk X.N X.env.scope scope own)
    (hg : ∀ (s : Shared) (H : Hp) (C : Addr) (cl : List (Str × Addr)) (fp : List Addr), GG (X.blk s H scope (compEnvC scope cl C X.env) fp) tg dg js) (ht : ∀ (s : Shared) (H : Hp) (C : Addr) (cl : List (Str × Addr)) (fp : List Addr), GTs (X.blk s H scope (compEnvC scope cl C X.env) fp) ifs dt)
    (he : ∀ (s : Shared) (H : Hp) (C : Addr) (cl : List (Str × Addr)) (fp : List Addr), GE (X.blk s H scope (compEnvC scope cl C X.env) fp) elt de) (hj : ∀ j ∈ js, j ∈ own.map (·.2)) (hs : ∀ x, foldedSetIterable iter X.env x = pure x := by intro _; rfl) :
    GS X (.Assign [.Name y py] (.ListComp elt [⟨tg, iter, ifs, 0⟩] scope pos) spos) (dSet i (dLc di dg dt de (own.map (·.2)))) := by
  obtain ⟨wi, hi⟩ := hi
  have P : PS X (.Assign [.Name y py] (.ListComp elt [⟨tg, iter, ifs, 0⟩] scope pos) spos) (fun E s H => ∃ sd m Ed, RS X.K H sd s ∧ RM X.K H m ∧ dSet i (dLc di dg dt de (own.map (·.2))) Ed sd m ∧
      ∀ s' H' sd' m', TX H H' → RS X.K H' sd' s' → RM X.K H' m' → Ed.nx sd' m' → E.nx s' H') :=
    ⟨fun pins s0 s H E I ⟨sd, m, Ed, rs, rm, h, k⟩ => (ps_setLc (g := liftG X.K dg js) (tt := liftT X.K dt) (te := liftE X.K de) hc hN hy hyl hsw hi.pi ok (fun s H C cl fp => (hg s H C cl fp).pg) (fun s H C cl fp => (ht s H C cl fp).pts) (fun s H C cl fp => (he s H C cl fp).pe) hs).run pins s0 s H E I
      (le_lc (Qd := fun x m1 => Ed.nx (sd.set i (some x)) m1) hi (hg s0 H 0 [] []).lg hj rs rm h fun v H' dv m' t rm' rv q => k _ H' _ m' t ((rs.mono t).set rv i) rm' q)⟩
  exact ⟨_, P, fun s H sd m Ed E rs rm h k1 _ _ _ => ⟨sd, m, Ed, rs, rm, h, k1⟩⟩
theorem lr_ip {K : PySem.W.Frag} {f : Int → Int → Int} : LR K (ipI f) (dInt2 (fun _ _ => True) f) := fun x y H dx dy m Qd Q rm rx ry h k => by
  cases rx with
  | int i =>
    cases ry with
    | int j => exact ⟨i, j, rfl, rfl, k _ H _ m (.refl H) rm (.int _) h.2⟩
    | _ => exact h.elim
  | _ => exact h.elim
end
end PD

set_option Elab.async false
set_option linter.all false
set_option maxRecDepth 100000
set_option maxHeartbeats 4000000
namespace PD
open PySem PySem.Spec PyProof.Rows L2
def startD (N : List Str) (ds : List D) : Sd := ds.map some ++ List.replicate (N.length - ds.length) none
def endsOf (Qd : DK) : DEnds := { nx := fun _ m' => ∃ m'', Sub m'' m' ∧ Qd .non m'', rt := fun v m' => ∃ m'', Sub m'' m' ∧ Qd v m'' }
theorem rs_start {K : PySem.W.Frag} {H : Hp} {N : List Str} {ds : List D} {vs : List V} (r : RepL K H ds vs) : RS K H (startD N ds) (L2.start N vs) := by
  refine ⟨by unfold startD L2.start; simp [r.length], fun i d e => ?_⟩
  unfold startD at e
  unfold L2.start
  have hl := r.length
  by_cases h : i < ds.length
  · rw [List.getElem?_append_left (by rw [List.length_map]; exact h), List.getElem?_map, List.getElem?_eq_getElem h] at e
    cases e
    obtain ⟨v, e2, q⟩ := r.get (List.getElem?_eq_getElem h)
    refine ⟨v, ?_, q⟩
    rw [List.getElem?_append_left (by rw [List.length_map]; omega), List.getElem?_map, e2]
    rfl
  · rw [List.getElem?_append_right (by rw [List.length_map]; omega), List.getElem?_replicate] at e
    split at e
    · cases e
    · cases e
section
variable {P : Program} {w : World} {K : PySem.W.Frag} {mg : Str → Option Value} {base : Heap}
theorem fn_ok {x qual : Str} {st : Stmt} {f : Addr} {fd : FuncData} {N ps : List Str} {k : Nat} {sd : SpD} {d : DS} (F : Fun K x qual st f fd) (S : FnScope N ps (defScope st))
    (hb : ∀ (cdv : Value) (A : Around) (outer : List Env) (s : Shared) (H : Hp) (E : XK), Room k (A.deeper (envOfC qual (defScope st) s.heap.objs.size f cdv)) →
      GSs (cxOf CX0 P w K mg base N qual (defScope st) f cdv A outer s H E).nox (defBody st) d)
    (hd : ∀ ds m Qd, sd ds m Qd → d (endsOf Qd) (startD N ds) m) : FnOk P w K mg base CX0 (k + 1) f fd ps (spL K ps.length sd) := by
  refine F.ok S (fun vs H Q E ⟨ds, m, Qd, r, rm, h, _⟩ => by rw [← r.length]; exact h.1) fun cdv A outer s H vs Q E hr ⟨ds, m, Qd, r, rm, ⟨_, h⟩, kq⟩ => ?_
  obtain ⟨t, p, l⟩ := (hb cdv A outer s H E hr).ex
  refine ⟨t, p, ?_⟩
  refine l (L2.start N vs) H (startD N ds) m (endsOf Qd) _ (rs_start r) rm (hd ds m Qd h) ?_ ?_ ?_ ?_
  · intro s' H' sd' m' t' rs' rm' ⟨m'', sb, q⟩
    exact kq .non H' .non m'' t' (rm'.sub sb) .non q
  · intro v H' dv m' t' rm' rv ⟨m'', sb, q⟩
    exact kq v H' dv m'' t' (rm'.sub sb) rv q
  · intro _ _ _ _ _ _ _ h; exact h.elim
  · intro _ _ _ _ _ _ _ h; exact h.elim
/-- any function whose keywords are its parameters in their order -/
theorem kw_all {x qual : Str} {st : Stmt} {f : Addr} {fd : FuncData} {ps : List Str} (F : Fun K x qual st f fd)
    (h : ∀ (kV doc pm : Value) (an : Option Addr) (cdv ct : Value) (ws : List Value), ws.length = ps.length → bindArgs (PySem.W.fnOf x qual (defArgs st) (defBody st) (defScope st) .none kV doc pm an cdv ct) ⟨[], ps.zip ws⟩ = pure (ps.zip ws)) : KwAll K fd ps ps := by
  obtain ⟨oc, od, kV, doc, pm, an, cdv, ct, osl, rfl, lk, hcd⟩ := F.ex
  refine ⟨fun s us ws hK hl => ?_, fun {vs us zs ws} r rz => ?_⟩
  · cases us with
    | nil => exact .of_eq (h kV doc pm an cdv ct ws hl)
    | cons u us =>
      have e : gK ps.length (u :: us) ws = List.replicate (ps.length + 1) Value.none := rfl
      rw [e, List.length_replicate] at hl
      exact absurd hl (Nat.succ_ne_self _)
  · cases r with
    | nil => exact rz
    | cons a b =>
      show Vals (List.replicate (ps.length + 1) V.non) (List.replicate (ps.length + 1) Value.none)
      generalize ps.length + 1 = n
      induction n with
      | zero => exact .nil
      | succ n ih => exact .cons rfl ih
end
end PD

set_option Elab.async false
set_option linter.all false
set_option maxRecDepth 100000
set_option maxHeartbeats 4000000
namespace PD
open PySem PySem.Spec PyProof.Rows L2
section
variable {m : Mu} {a b : Str} {i j : Int} {p q : Bool} {xs ys : List D} {x y z u v : D} {A : Addr}
theorem seqOf_tup : seqOf m (.tup xs) = some xs := rfl
theorem seqOf_rol : seqOf m (.rol xs) = some xs := rfl
theorem seqOf_ref (h : m A = some (.lst xs)) : seqOf m (.ref A) = some xs := by unfold seqOf; simp only [h]
theorem seqW_tup : seqW m (.tup xs) = some xs := rfl
theorem seqW_ref (h : m A = some (.lst xs)) : seqW m (.ref A) = some xs := by unfold seqW; simp only [h]
theorem lstOf_ref (h : m A = some (.lst xs)) : lstOf m (.ref A) = some (A, xs) := by unfold lstOf; simp only [h]
theorem eqK_ss : eqK m (.str a) (.str b) = some (a == b) := rfl
theorem eqK_ii : eqK m (.int i) (.int j) = some (i == j) := rfl
theorem eqK_bb : eqK m (.bl p) (.bl q) = some (p == q) := rfl
theorem eqK_nn : eqK m .non .non = some true := rfl
theorem eqK_ts : eqK m (.tup xs) (.str b) = some false := rfl
theorem eqK_st : eqK m (.str b) (.tup xs) = some false := rfl
theorem eqK_ti : eqK m (.tup xs) (.int i) = some false := rfl
theorem eqK_is : eqK m (.int i) (.str b) = some false := rfl
theorem eqK_ns : eqK m .non (.str b) = some false := rfl
theorem eqK_rs (h : m A = some (.lst xs)) : eqK m (.ref A) (.str b) = some false := by
  unfold eqK isSeq
  rw [seqOf_ref h]
  rfl
theorem flatD_str : flatD (.str a) = true := rfl
theorem flatD_int : flatD (.int i) = true := rfl
theorem flatD_bl : flatD (.bl p) = true := rfl
theorem flatD_non : flatD .non = true := rfl
theorem isNon_non : isNon .non = true := rfl
theorem isNon_bl : isNon (.bl p) = false := rfl
theorem isNon_int : isNon (.int i) = false := rfl
theorem isNon_str : isNon (.str a) = false := rfl
theorem isNon_tup : isNon (.tup xs) = false := rfl
theorem tyD_non : tyD m .non = some "NoneType" := rfl
theorem tyD_bl : tyD m (.bl p) = some "bool" := rfl
theorem tyD_int : tyD m (.int i) = some "int" := rfl
theorem tyD_str : tyD m (.str a) = some "str" := rfl
theorem tyD_tup : tyD m (.tup xs) = some "tuple" := rfl
theorem truD_bl : truD m (.bl p) = some p := rfl
theorem truD_int : truD m (.int i) = some (i != 0) := rfl
theorem truD_tup : truD m (.tup xs) = some (!xs.isEmpty) := rfl
theorem truD_ref (h : m A = some (.lst xs)) : truD m (.ref A) = some (!xs.isEmpty) := by
  show (seqOf m (.ref A)).map _ = _
  rw [seqOf_ref h]; rfl
theorem atI_0 {α : Type} {x : α} {xs : List α} : atI (x :: xs) 0 = some x := atI_nat (j := 0) rfl
theorem atI_1 {α : Type} {x y : α} {xs : List α} : atI (x :: y :: xs) 1 = some y := atI_nat (j := 1) rfl
theorem atI_2 {α : Type} {x y z : α} {xs : List α} : atI (x :: y :: z :: xs) 2 = some z := atI_nat (j := 2) rfl
theorem atI_3 {α : Type} {x y z u : α} {xs : List α} : atI (x :: y :: z :: u :: xs) 3 = some u := atI_nat (j := 3) rfl
theorem atI_4 {α : Type} {x y z u v : α} {xs : List α} : atI (x :: y :: z :: u :: v :: xs) 4 = some v := atI_nat (j := 4) rfl
theorem atI_m1 {α : Type} {x : α} : atI [x] (-1) = some x := atI_last [] x
theorem atI_m2 {α : Type} {x y : α} : atI [x, y] (-1) = some y := atI_last [x] y
theorem atI_m3 {α : Type} {x y z : α} : atI [x, y, z] (-1) = some z := atI_last [x, y] z
theorem ixN_0 {n : Nat} : ixN (n + 1) 0 = some 0 := by unfold ixN; rw [if_pos (by omega), if_pos (by omega)]; rfl
theorem ixN_1 {n : Nat} : ixN (n + 2) 1 = some 1 := by unfold ixN; rw [if_pos (by omega), if_pos (by omega)]; rfl
theorem ixN_2 {n : Nat} : ixN (n + 3) 2 = some 2 := by unfold ixN; rw [if_pos (by omega), if_pos (by omega)]; rfl
theorem ixN_3 {n : Nat} : ixN (n + 4) 3 = some 3 := by unfold ixN; rw [if_pos (by omega), if_pos (by omega)]; rfl
theorem ixN_40 : ixN 4 0 = some 0 := rfl
theorem ixN_41 : ixN 4 1 = some 1 := rfl
theorem ixN_42 : ixN 4 2 = some 2 := rfl
theorem ixN_43 : ixN 4 3 = some 3 := rfl
theorem seqI_0 {n : Nat} : seqIndex? 0 (n + 1) = some 0 := (ixN_seq ixN_0).1
theorem mset_skip {m : Mu} {a b : Addr} {o o' : MO} (h : b ≠ a) (e : m b = some o) : mset m a o' b = some o := by rw [mset_ne h]; exact e
/-! operations on known kinds -/
section
variable {Q : DK} {s : Sd} {B : Addr}
theorem dAdd_i : dAdd (.int i) (.int j) m Q = Q (.int (i + j)) m := rfl
theorem dAdd_s : dAdd (.str a) (.str b) m Q = (a.length + b.length ≤ sizeLine ∧ Q (.str (a ++ b)) m) := rfl
theorem dAdd_t : dAdd (.tup xs) (.tup ys) m Q = (xs.length + ys.length ≤ sizeLine ∧ Q (.tup (xs ++ ys)) m) := rfl
theorem dAdd_r : dAdd (.ref A) (.ref B) m Q = (∃ xs ys, m A = some (.lst xs) ∧ m B = some (.lst ys) ∧ xs.length + ys.length ≤ sizeLine ∧ ∀ p, m p = none → Q (.ref p) (mset m p (.lst (xs ++ ys)))) := rfl
theorem dSub_i : dSub (.int i) (.int j) m Q = Q (.int (i - j)) m := rfl
theorem dInt2_i {C : Int → Int → Prop} {g : Int → Int → Int} : dInt2 C g (.int i) (.int j) m Q = (C i j ∧ Q (.int (g i j)) m) := rfl
theorem dMul_i : dMul (.int i) (.int j) m Q = (CMul i j ∧ Q (.int (i * j)) m) := rfl
theorem dMul_s : dMul (.str a) (.int j) m Q = (0 ≤ j ∧ j ≤ 1000 ∧ a.length ≤ 1000 ∧ Q (.str (repS a j.toNat)) m) := rfl
theorem dNeg_i : dNeg (.int i) m Q = Q (.int (-i)) m := rfl
theorem dCmp_i {g : Int → Int → Bool} : dCmp g (.int i) (.int j) m Q = Q (.bl (g i j)) m := rfl
theorem dIsN_n : dIsN x .non m Q = Q (.bl (isNon x)) m := rfl
theorem dNotN_n : dNotN x .non m Q = Q (.bl (!isNon x)) m := rfl
theorem dInG_t {f : Bool → Bool} : dInG f x (.tup xs) m Q = (flatD x = true ∧ xs.all flatD = true ∧ Q (.bl (f (inF x xs))) m) := propext ⟨fun ⟨_, e, h⟩ => by cases e; exact h, fun h => ⟨_, rfl, h⟩⟩
theorem dInG_r {f : Bool → Bool} : dInG f x (.ref A) m Q = ∃ ds, seqOf m (.ref A) = some ds ∧ flatD x = true ∧ ds.all flatD = true ∧ Q (.bl (f (inF x ds))) m := rfl
theorem dIx_s : dIx (.str a) (.int i) m Q = (a.length ≤ sizeLine ∧ ∃ c, atI a.cps.toList i = some c ∧ Q (.str ⟨#[c]⟩) m) := rfl
theorem dIx_t : dIx (.tup xs) (.int i) m Q = ∃ d, atI xs i = some d ∧ Q d m := propext ⟨fun ⟨_, e, h⟩ => by cases e; exact h, fun h => ⟨_, rfl, h⟩⟩
theorem dIx_r : dIx (.ref A) (.int i) m Q = ∃ ds, seqOf m (.ref A) = some ds ∧ ∃ d, atI ds i = some d ∧ Q d m := rfl
theorem dLen_s : dLen [.str a] m Q = (a.length ≤ sizeLine ∧ Q (.int a.length) m) := rfl
theorem dLen_t : dLen [.tup xs] m Q = Q (.int xs.length) m := propext ⟨fun ⟨_, e, h⟩ => by cases e; exact h, fun h => ⟨_, rfl, h⟩⟩
theorem dLen_r : dLen [.ref A] m Q = ∃ es, seqOf m (.ref A) = some es ∧ Q (.int es.length) m := rfl
theorem dTuple_1 : dTuple [x] m Q = ∃ es, seqOf m x = some es ∧ Q (.tup es) m := rfl
theorem dList_1 : dList [x] m Q = ∃ es, seqOf m x = some es ∧ ∀ p, m p = none → Q (.ref p) (mset m p (.lst es)) := rfl
theorem dInt1_i : dInt1 [.int i] m Q = Q (.int i) m := rfl
theorem dTwo_i {g : Int → Int → Int} : dTwo g [.int i, .int j] m Q = Q (.int (g i j)) m := rfl
def dSlV (lo hi : Option Int) (x : D) (m3 : Mu) (Q : DK) : Prop := match x with
  | .tup ds => Q (.tup (cutD ds lo hi)) m3
  | .ref a => ∃ ds, seqOf m3 (.ref a) = some ds ∧ ∀ p, m3 p = none → Q (.ref p) (mset m3 p (.lst (cutD ds lo hi)))
  | _ => False
theorem dSl_v {de : DE} {dl dh : DO} : dSl de dl dh s m Q = de s m fun x m1 => dl s m1 fun lo m2 => dh s m2 fun hi m3 => dSlV lo hi x m3 Q := rfl
theorem dSlV_t {lo hi : Option Int} : dSlV lo hi (.tup xs) m Q = Q (.tup (cutD xs lo hi)) m := rfl
theorem dSlV_r {lo hi : Option Int} : dSlV lo hi (.ref A) m Q = ∃ ds, seqOf m (.ref A) = some ds ∧ ∀ p, m p = none → Q (.ref p) (mset m p (.lst (cutD ds lo hi))) := rfl
def dRevV (x : D) (m1 : Mu) (Q : DK) : Prop := match x with
  | .tup ds => Q (.tup ds.reverse) m1
  | .ref a => ∃ ds, seqOf m1 (.ref a) = some ds ∧ ∀ p, m1 p = none → Q (.ref p) (mset m1 p (.lst ds.reverse))
  | _ => False
theorem dRev_v {de : DE} : dRev de s m Q = de s m fun x m1 => dRevV x m1 Q := rfl
theorem dRevV_t : dRevV (.tup xs) m Q = Q (.tup xs.reverse) m := rfl
theorem dRevV_r : dRevV (.ref A) m Q = ∃ ds, seqOf m (.ref A) = some ds ∧ ∀ p, m p = none → Q (.ref p) (mset m p (.lst ds.reverse)) := rfl
variable {R : List D → (Mu → Prop) → Mu → Prop}
def dISeqV (x : D) (m1 : Mu) (R : List D → (Mu → Prop) → Mu → Prop) : Prop := match x with
  | .tup ds => R ds (fun _ => True) m1
  | .rol ds => R ds (fun _ => True) m1
  | .ref p => ∃ ds, seqOf m1 (.ref p) = some ds ∧ R ds (fun m' => seqOf m' (.ref p) = some ds) m1
  | _ => False
theorem dISeq_v {de : DE} : dISeq de s m R = de s m fun x m1 => dISeqV x m1 R := rfl
theorem dISeqV_t : dISeqV (.tup xs) m R = R xs (fun _ => True) m := rfl
theorem dISeqV_l : dISeqV (.rol xs) m R = R xs (fun _ => True) m := rfl
theorem dISeqV_r : dISeqV (.ref A) m R = ∃ ds, seqOf m (.ref A) = some ds ∧ R ds (fun m' => seqOf m' (.ref A) = some ds) m := rfl
def dIEnumV (ds : List D) (m1 : Mu) (R : List D → (Mu → Prop) → Mu → Prop) : Prop := match ds with
  | [.tup es] => R (enumD 0 es) (fun _ => True) m1
  | [.ref p] => ∃ es, seqOf m1 (.ref p) = some es ∧ R (enumD 0 es) (fun m' => seqOf m' (.ref p) = some es) m1
  | _ => False
theorem dIEnum_v {da : DA} : dIEnum da s m R = da s m fun ds m1 => dIEnumV ds m1 R := rfl
theorem dIEnumV_t : dIEnumV [.tup xs] m R = R (enumD 0 xs) (fun _ => True) m := rfl
theorem dIEnumV_r : dIEnumV [.ref A] m R = ∃ es, seqOf m (.ref A) = some es ∧ R (enumD 0 es) (fun m' => seqOf m' (.ref A) = some es) m := rfl
theorem dPop_0 : dPop x [] m Q = ∃ a es d, lstOf m x = some (a, es) ∧ es[es.length - 1]? = some d ∧ Q d (mset m a (.lst es.dropLast)) := rfl
theorem dPop_i : dPop x [.int i] m Q = ∃ a es, lstOf m x = some (a, es) ∧ -(2 ^ 63) ≤ i ∧ i < 2 ^ 63 ∧ ∃ k, seqIndex? i es.length = some k ∧ ∃ d, es[k]? = some d ∧ Q d (mset m a (.lst (es.eraseIdx k))) := rfl
theorem dAppend_1 : dAppend x [y] m Q = ∃ a es, lstOf m x = some (a, es) ∧ es.length < sizeLine ∧ Q .non (mset m a (.lst (es ++ [y]))) := rfl
theorem dExtend_1 : dExtend x [y] m Q = ∃ a es zs, lstOf m x = some (a, es) ∧ seqW m y = some zs ∧ es.length + zs.length ≤ sizeLine ∧ Q .non (mset m a (.lst (es ++ zs))) := rfl
theorem dSub3_i {v : D} {R : Mu → Prop} : dSub3 x (.int i) v m R = ∃ a es, lstOf m x = some (a, es) ∧ ∃ j, ixN es.length i = some j ∧ R (mset m a (.lst (es.set j v))) := rfl
theorem dSortP_r : dSortP [.ref A] m Q = ∃ ps : List (Int × Int), seqOf m (.ref A) = some (ps.map pD) ∧ ∀ qs : List (Int × Int), qs.Perm ps → qs.Pairwise pLe → ∀ p, m p = none → Q (.ref p) (mset m p (.lst (qs.map pD))) := rfl
def dRng1V (ds : List D) (m1 : Mu) (R : List D → (Mu → Prop) → Mu → Prop) : Prop := match ds with
  | [.int j] => -(2 ^ 62) ≤ j ∧ j < 2 ^ 62 ∧ R (rangeD 0 j.toNat) (fun _ => True) m1
  | _ => False
theorem dIRng1_v {da : DA} : dIRng1 da s m R = da s m fun ds m1 => dRng1V ds m1 R := rfl
theorem dRng1V_i : dRng1V [.int i] m R = (-(2 ^ 62) ≤ i ∧ i < 2 ^ 62 ∧ R (rangeD 0 i.toNat) (fun _ => True) m) := rfl
end
theorem isT_NoneType_bool : isT "NoneType" "bool" = false := by decide
theorem isT_NoneType_int : isT "NoneType" "int" = false := by decide
theorem isT_NoneType_str : isT "NoneType" "str" = false := by decide
theorem isT_NoneType_tuple : isT "NoneType" "tuple" = false := by decide
theorem isT_NoneType_list : isT "NoneType" "list" = false := by decide
theorem isT_bool_bool : isT "bool" "bool" = true := by decide
theorem isT_bool_int : isT "bool" "int" = true := by decide
theorem isT_bool_str : isT "bool" "str" = false := by decide
theorem isT_bool_tuple : isT "bool" "tuple" = false := by decide
theorem isT_bool_list : isT "bool" "list" = false := by decide
theorem isT_int_bool : isT "int" "bool" = false := by decide
theorem isT_int_int : isT "int" "int" = true := by decide
theorem isT_int_str : isT "int" "str" = false := by decide
theorem isT_int_tuple : isT "int" "tuple" = false := by decide
theorem isT_int_list : isT "int" "list" = false := by decide
theorem isT_str_bool : isT "str" "bool" = false := by decide
theorem isT_str_int : isT "str" "int" = false := by decide
theorem isT_str_str : isT "str" "str" = true := by decide
theorem isT_str_tuple : isT "str" "tuple" = false := by decide
theorem isT_str_list : isT "str" "list" = false := by decide
theorem isT_tuple_bool : isT "tuple" "bool" = false := by decide
theorem isT_tuple_int : isT "tuple" "int" = false := by decide
theorem isT_tuple_str : isT "tuple" "str" = false := by decide
theorem isT_tuple_tuple : isT "tuple" "tuple" = true := by decide
theorem isT_tuple_list : isT "tuple" "list" = false := by decide
theorem isT_list_bool : isT "list" "bool" = false := by decide
theorem isT_list_int : isT "list" "int" = false := by decide
theorem isT_list_str : isT "list" "str" = false := by decide
theorem isT_list_tuple : isT "list" "tuple" = false := by decide
theorem isT_list_list : isT "list" "list" = true := by decide
theorem small_line {n : Nat} (h : n ≤ 1000) : n ≤ sizeLine := Nat.le_trans h (by decide)
theorem sub_refl_fin {Qd : DK} {v : D} (h : Qd v m) : ∃ m'', Sub m'' m ∧ Qd v m'' := ⟨m, .refl m, h⟩
/-! ### loops and comprehensions by what holds between their turns -/
theorem loop_inv {st : Mu → Prop} {g : DG} {tb : DS} {E : DEnds} (J : List D → Sd → Mu → Prop)
    (hs : ∀ d rem s m (R : Sd → Mu → Prop), (∀ s m, J rem s m → R s m) → J (d :: rem) s m → st m ∧ g d s m fun s2 m2 => tb { E with nx := R, ct := R, bk := E.nx } s2 m2)
    (he : ∀ s m, J [] s m → st m ∧ E.nx s m) : ∀ {es : List D} {s : Sd} {m : Mu}, J es s m → dLoop st g tb E es s m
  | [], s, m, h => he s m h
  | d :: es, s, m, h => hs d es s m _ (fun s' m' h' => loop_inv J hs he h') h
theorem comp_inv {st : Mu → Prop} {g : DG} {t : DT} {e : DE} {p : Addr} {s : Sd} {Q : DK} (J : List D → List D → Mu → Prop)
    (hs : ∀ d rem acc m (R : List D → Mu → Prop), (∀ acc m, J rem acc m → R acc m) → J (d :: rem) acc m → st m ∧ g d s m fun s2 m2 => t s2 m2 fun b m3 =>
      if b = true then e s2 m3 fun y m4 => m4 p = some (.lst acc) ∧ acc.length < sizeLine ∧ R (acc ++ [y]) (mset m4 p (.lst (acc ++ [y]))) else R acc m3)
    (he : ∀ acc m, J [] acc m → st m ∧ m p = some (.lst acc) ∧ Q (.ref p) m) : ∀ {es acc : List D} {m : Mu}, J es acc m → dComp st g t e p s Q es acc m
  | [], acc, m, h => he acc m h
  | d :: es, acc, m, h => hs d es acc m _ (fun acc' m' h' => comp_inv J hs he h') h
/-- each item's answer is f of it, kept where c; nothing else changes -/
theorem comp_pure {st : Mu → Prop} {g : DG} {t : DT} {e : DE} {p : Addr} {s : Sd} {Q : DK} {m : Mu} (c : D → Bool) (f : D → D) (hst : ∀ a, st (mset m p (.lst a))) {es0 : List D} (hz : es0.length ≤ 100000)
    (h : ∀ d ∈ es0, ∀ a (R1 : D → Mu → Prop) (R2 : Mu → Prop), (c d = true → R1 (f d) (mset m p (.lst a))) → (c d = false → R2 (mset m p (.lst a))) → g d s (mset m p (.lst a)) fun s2 m2 => t s2 m2 fun b m3 => if b = true then e s2 m3 R1 else R2 m3)
    (hq : Q (.ref p) (mset m p (.lst ((es0.filter c).map f)))) : dComp st g t e p s Q es0 [] (mset m p (.lst [])) := by
  refine comp_inv (fun rem acc m' => ∃ pre, es0 = pre ++ rem ∧ acc = (pre.filter c).map f ∧ m' = mset m p (.lst acc)) (fun d rem acc m1 R hR ⟨pre, e1, e2, e3⟩ => ?_) (fun acc m1 ⟨pre, e1, e2, e3⟩ => ?_) ⟨[], rfl, rfl, rfl⟩
  · subst e3
    refine ⟨hst _, h d (by rw [e1]; simp) acc _ _ (fun hc => ⟨mset_same, ?_, ?_⟩) fun hc => ?_⟩
    · rw [e2, List.length_map]
      have h1 := List.length_filter_le c pre
      have h2 : pre.length < es0.length := by rw [e1]; simp
      exact Nat.lt_of_lt_of_le (by omega : _ < 100000) (by decide)
    · refine hR _ _ ⟨pre ++ [d], by rw [e1]; simp, ?_, mset_mset⟩
      rw [e2, List.filter_append, List.map_append]
      simp [hc]
    · refine hR _ _ ⟨pre ++ [d], by rw [e1]; simp, ?_, rfl⟩
      rw [e2, List.filter_append, List.map_append]
      simp [hc]
  · subst e3
    rw [List.append_nil] at e1
    subst e1 e2
    exact ⟨hst _, mset_same, hq⟩
theorem filter_yes {α : Type} : ∀ l : List α, l.filter (fun _ => true) = l
  | [] => rfl
  | a :: l => by rw [List.filter_cons, if_pos rfl, filter_yes l]
/-- [f(x) for x in xs] -/
theorem comp_map {st : Mu → Prop} {g : DG} {e : DE} {p : Addr} {s : Sd} {Q : DK} {m : Mu} (f : D → D) (hst : ∀ a, st (mset m p (.lst a))) {es0 : List D} (hz : es0.length ≤ 100000)
    (h : ∀ d ∈ es0, ∀ a (R1 : D → Mu → Prop), R1 (f d) (mset m p (.lst a)) → g d s (mset m p (.lst a)) fun s2 m2 => e s2 m2 R1)
    (hq : Q (.ref p) (mset m p (.lst (es0.map f)))) : dComp st g dYes e p s Q es0 [] (mset m p (.lst [])) := by
  refine comp_pure (fun _ => true) f hst hz (fun d hd a R1 R2 h1 _ => ?_) (by rw [filter_yes]; exact hq)
  have := h d hd a R1 (h1 rfl)
  unfold dYes
  simpa using this
theorem rangeD_len (lo : Int) (n : Nat) : (rangeD lo n).length = n := by unfold rangeD; rw [List.length_map, List.length_range]
theorem rangeD_succ (n : Nat) : rangeD 0 (n + 1) = rangeD 0 n ++ [.int (n : Int)] := by
  unfold rangeD
  rw [List.range_succ, List.map_append]
  simp
/-- a loop over range(n): what holds ahead of turn i -/
theorem loop_range {st : Mu → Prop} {g : DG} {tb : DS} {E : DEnds} {n : Nat} (J : Nat → Sd → Mu → Prop)
    (hs : ∀ (i : Nat) s m (R : Sd → Mu → Prop), i < n → (∀ s m, J (i + 1) s m → R s m) → J i s m → st m ∧ g (.int (i : Int)) s m fun s2 m2 => tb { E with nx := R, ct := R, bk := E.nx } s2 m2)
    (he : ∀ s m, J n s m → st m ∧ E.nx s m) {s : Sd} {m : Mu} (h : J 0 s m) : dLoop st g tb E (rangeD 0 n) s m := by
  refine loop_inv (fun rem s m => ∃ i, i ≤ n ∧ rem = (rangeD 0 n).drop i ∧ J i s m) (fun d rem s m R hR ⟨i, hi, e, hj⟩ => ?_) (fun s m ⟨i, hi, e, hj⟩ => ?_) ⟨0, Nat.zero_le _, rfl, h⟩
  · have hlt : i < n := by
      by_cases q : i < n
      · exact q
      · have e2 : i = n := by omega
        subst e2
        rw [List.drop_of_length_le (by rw [rangeD_len]; exact Nat.le_refl _)] at e
        cases e
    have hl : i < (rangeD 0 n).length := by rw [rangeD_len]; exact hlt
    rw [List.drop_eq_getElem_cons hl] at e
    injection e with e1 e2
    have e3 : (rangeD 0 n)[i] = .int (i : Int) := by unfold rangeD; simp
    rw [e3] at e1
    subst e1
    exact hs i s m R hlt (fun s' m' h' => hR s' m' ⟨i + 1, hlt, e2, h'⟩) hj
  · have e2 : i = n := by
      by_cases q : i < n
      · have hl : i < (rangeD 0 n).length := by rw [rangeD_len]; exact q
        rw [List.drop_eq_getElem_cons hl] at e
        cases e
      · omega
    subst e2
    exact he s m hj
theorem FnOk_falso {P : Program} {w : World} {K : PySem.W.Frag} {mg : Str → Option Value} {base : Heap} {k n : Nat} {f : Addr} {fd : FuncData} {ps : List Str} : FnOk P w K mg base CX0 k f fd ps (spL K n fun _ _ _ => False) :=
  ⟨fun _ _ _ _ ⟨_, _, _, _, _, h, _⟩ => h.2.elim, fun _ _ _ _ _ _ _ _ _ _ _ _ _ ⟨_, _, _, _, _, h, _⟩ => h.2.elim⟩
theorem atI_getD {α : Type} {xs : List α} {i : Nat} (h : i < xs.length) : atI xs (i : Int) = some xs[i] := atI_nat (List.getElem?_eq_getElem h)
theorem slen_app (a b : Str) : (a ++ b).length = a.length + b.length := Array.size_append
theorem atI_ex {α : Type} {xs : List α} {i : Int} (h0 : 0 ≤ i) (h1 : i < xs.length) : ∃ v, atI xs i = some v ∧ v ∈ xs := by
  obtain ⟨n, rfl⟩ : ∃ n : Nat, i = n := ⟨i.toNat, by omega⟩
  have h : n < xs.length := by omega
  exact ⟨xs[n], atI_getD h, List.getElem_mem h⟩
/-- a cut between a statement and what follows -/
theorem seq_cut {t u : DS} {E : DEnds} {s : Sd} {m : Mu} (Mid : Sd → Mu → Prop) (h1 : ∀ R : Sd → Mu → Prop, (∀ s' m', Mid s' m' → R s' m') → t { E with nx := R } s m) (h2 : ∀ s' m', Mid s' m' → u E s' m') : dSeq t u E s m := h1 _ h2
/-- all lists but two are kept -/
def OffS (a q : Addr) (m m' : Mu) : Prop := ∀ x o, x ≠ a → x ≠ q → m x = some o → m' x = some o
theorem OffS.refl (a q : Addr) (m : Mu) : OffS a q m m := fun _ _ _ _ h => h
theorem OffS.trans {a q : Addr} {m m1 m2 : Mu} (h : OffS a q m m1) (h' : OffS a q m1 m2) : OffS a q m m2 := fun x o n1 n2 e => h' x o n1 n2 (h x o n1 n2 e)
theorem OffS.setA {a q : Addr} {m m1 : Mu} {o : MO} (h : OffS a q m m1) : OffS a q m (mset m1 a o) := fun x u n1 n2 e => by rw [mset_ne n1]; exact h x u n1 n2 e
theorem OffS.setQ {a q : Addr} {m m1 : Mu} {o : MO} (h : OffS a q m m1) : OffS a q m (mset m1 q o) := fun x u n1 n2 e => by rw [mset_ne n2]; exact h x u n1 n2 e
theorem OffS.new {a q p : Addr} {m m1 : Mu} {o : MO} (h : OffS a q m m1) (hp : m1 p = none) : OffS a q m (mset m1 p o) := fun x u n1 n2 e => mset_new hp (h x u n1 n2 e)
theorem OffS.of_sub {a q : Addr} {m m1 : Mu} (h : Sub m m1) : OffS a q m m1 := fun x u _ _ e => h x u e
end
end PD

set_option Elab.async false
set_option linter.all false
set_option maxRecDepth 100000
set_option maxHeartbeats 4000000
/-! Errors: what a def may let out. Behind an error no slot of the caller is looked at (no def of the program catches one). -/
namespace PD
open PySem PySem.Spec PyProof.Rows L2
/-- a wish for errors: the class, the fields (the last one set first), the store -/
abbrev DX := Value → List (Str × D) → Mu → Prop
def FldR (K : PySem.W.Frag) (H : Hp) (fs : List (Str × D)) (d : Option Addr) : Prop := ∃ dd vs, d = some dd ∧ H dd = some (.xd vs) ∧ vs.map (·.1) = fs.map (·.1) ∧ RepL K H (fs.map (·.2)) (vs.map (·.2))
def wX (K : PySem.W.Frag) (Ed : DX) : WX := fun cls d _ H => ∃ fs m, RM K H m ∧ FldR K H fs d ∧ Ed cls fs m
abbrev SpX := List D → Mu → DK → DX → Prop
def spX (K : PySem.W.Frag) (n : Nat) (sd : SpX) : Sp := fun vs H Q E => ∃ ds m Qd Ed, RepL K H ds vs ∧ RM K H m ∧ (ds.length = n ∧ sd ds m Qd Ed) ∧ (∀ v H' dv m', TX H H' → RM K H' m' → Rep K H' dv v → Qd dv m' → Q v H') ∧ ∀ cls d H' fs m', RM K H' m' → FldR K H' fs d → Ed cls fs m' → E cls d H'
def dCallX (n : Nat) (sd : SpX) (Ed : DX) (a : DA) : DE := fun s m Q => a s m fun ds m1 => ds.length = n ∧ sd ds m1 Q Ed
section
variable {X : Cx} {Ed : DX}
theorem ge_callX {k n : Nat} {f : Addr} {fd : FuncData} {ps : List Str} {sd : SpX} {x : Str} {p pos : Pos} {e : Expr} {es : List Expr} {da : DA} (F : FnOk X.prog X.w X.K X.mg X.base (L2.CX X.prog X.w) k f fd ps (spX X.K n sd)) (tk : Takes X (wX X.K Ed)) (hr : Room k X.A) (hg : Gl X x) (hm : X.mg x = some (.ref f)) (hk : PySem.W.keepIn X.K (.ref f) = true) (hb : Binds X.K fd ps [])
    (ha : GA X (e :: es) da) (hdb : (x == ("__debug__" : Str)) = false := by decide) (he : starEach (e :: es) X.env = (false, eval e X.env) :: starEach es X.env := by rfl) (hpl : (backTo pos (starEach es X.env)).any (·.1) = false := by rfl) :
    GE X (.Call (.Name x p) (e :: es) [] pos) (dCallX n sd Ed da) := by
  obtain ⟨ta, q, l⟩ := ha.ex
  refine .of ⟨_, pe_callS (E := WE (wX X.K Ed)) F hr hg hm hk hb (passAt tk) q hdb he hpl, fun s H sd' m Qd Q rs rm h k => ?_⟩
  refine l s H sd' m _ _ rs rm h fun vs H1 ds m1 t1 rm1 r1 h1 => ?_
  exact ⟨ds, m1, Qd, Ed, r1, rm1, h1, fun v' H' dv' m' t' a b c => k v' H' dv' m' (t1.trans t') a b c, fun cls d H' fs m' a b c => ⟨fs, m', a, b, c⟩⟩
/-- raise C(..), the making told by its own reading -/
def dRaise (cls : Value) (ns : List Str) (Ed : DX) (a : DA) : DS := fun _ s m => a s m fun ds m1 => ds.length = ns.length ∧ Ed cls (ns.zip ds).reverse m1
end
section
variable {P : Program} {w : World} {K : PySem.W.Frag} {mg : Str → Option Value} {base : Heap}
theorem fn_okX {x qual : Str} {st : Stmt} {f : Addr} {fd : FuncData} {N ps : List Str} {k : Nat} {sd : SpX} {d : DX → DS} (F : Fun K x qual st f fd) (S : FnScope N ps (defScope st))
    (hb : ∀ (cdv : Value) (A : Around) (outer : List Env) (s : Shared) (H : Hp) (E : XK) (Ed : DX), Room k (A.deeper (envOfC qual (defScope st) s.heap.objs.size f cdv)) →
      Takes (cxOf (L2.CX P w) P w K mg base N qual (defScope st) f cdv A outer s H E) (wX K Ed) →
      GSs (cxOf (L2.CX P w) P w K mg base N qual (defScope st) f cdv A outer s H E) (defBody st) (d Ed))
    (hd : ∀ ds m Qd Ed, sd ds m Qd Ed → ds.length = ps.length → d Ed (endsOf Qd) (startD N ds) m) : FnOk P w K mg base (L2.CX P w) (k + 1) f fd ps (spX K ps.length sd) := by
  refine F.okX S (fun vs H Q E ⟨ds, m, Qd, Ed, r, rm, h, _⟩ => by rw [← r.length]; exact h.1) fun cdv A outer s H vs Q E hr ⟨ds, m, Qd, Ed, r, rm, ⟨hl, h⟩, kq, ke⟩ => ?_
  have tk : Takes (cxOf (L2.CX P w) P w K mg base N qual (defScope st) f cdv A outer s H E) (wX K Ed) :=
    Takes.imp (takes_of (E := E) rfl rfl rfl rfl) fun c d' σ H' ⟨fs, m', a, b, c'⟩ => ke c d' H' fs m' a b c'
  obtain ⟨t, p, l⟩ := (hb cdv A outer s H E Ed hr tk).ex
  refine ⟨t, p, ?_⟩
  refine l (L2.start N vs) H (startD N ds) m (endsOf Qd) _ (rs_start r) rm (hd ds m Qd Ed h hl) ?_ ?_ ?_ ?_
  · intro s' H' sd' m' t' rs' rm' ⟨m'', sb, q⟩
    exact kq .non H' .non m'' t' (rm'.sub sb) .non q
  · intro v H' dv m' t' rm' rv ⟨m'', sb, q⟩
    exact kq v H' dv m'' t' (rm'.sub sb) rv q
  · intro _ _ _ _ _ _ _ h; exact h.elim
  · intro _ _ _ _ _ _ _ h; exact h.elim
end
end PD

set_option Elab.async false
set_option linter.all false
set_option maxRecDepth 100000
set_option maxHeartbeats 4000000
/-! Own errors with fields: __init__ sets the parameters, one after the other. -/
namespace PD
open PySem PySem.Spec PyProof.Rows L2
/-- what __init__(self, ns) does to a fresh error -/
def iniSp (K : PySem.W.Frag) (ns : List Str) : Sp := fun vs H Q _ => ∃ (a C : Addr) (us : List V), vs = .ref a :: us ∧ us.length = ns.length ∧ OexC K C ∧ (∀ n ∈ ns, PySem.W.findIn K (.ref C) n = some none) ∧ H a = some (exo a C none) ∧
  ∀ d, H d = none → d ≠ a → Q .non (upd (upd H d (exd d (ns.zip us).reverse)) a (exo a C (some d)))
theorem upd_over {H : Hp} {a d : Addr} {A B A' : HO} (h : d ≠ a) : upd (upd (upd H d A) a B) d A' = upd (upd H d A') a B := by
  funext x
  by_cases h1 : x = d
  · subst h1; rw [upd_same, upd_ne h, upd_same]
  · rw [upd_ne h1]
    by_cases h2 : x = a
    · subst h2; rw [upd_same, upd_same]
    · rw [upd_ne h2, upd_ne h2, upd_ne h1, upd_ne h1]
theorem upd_gone {H : Hp} {a d : Addr} {A B E F : HO} (ha : H a = none) (h : d ≠ a) : upd (del (upd (upd (upd H a E) d A) a B) a) d F = upd H d F := by
  funext x
  by_cases h1 : x = d
  · subst h1; rw [upd_same, upd_same]
  · rw [upd_ne h1, upd_ne h1]
    by_cases h2 : x = a
    · subst h2; rw [del_same, ha]
    · rw [del_ne h2, upd_ne h2, upd_ne h1, upd_ne h2]
section
variable {P : Program} {w : World} {K : PySem.W.Frag} {mg : Str → Option Value} {base : Heap}
theorem ini_one {qual n : Str} {st : Stmt} {f : Addr} {fd : FuncData} (F : Fun K "__init__" qual st f fd) (S : FnScope ["self", n] ["self", n] (defScope st))
    (hb : ∀ (cdv : Value) (A : Around) (outer : List Env) (s : Shared) (H : Hp) (E : XK), PSs (cxOf CX0 P w K mg base ["self", n] qual (defScope st) f cdv A outer s H E).nox (defBody st) (tOst K n (tVar 0) (tVar 1))) :
    FnOk P w K mg base CX0 1 f fd ["self", n] (iniSp K [n]) := by
  refine F.ok S (fun vs H Q E ⟨a, C, us, e, hl, _⟩ => by rw [e]; show us.length + 1 = 2; rw [hl]; rfl) fun cdv A outer s H vs Q E hr ⟨a, C, us, e, hl, T, hno, ha, q⟩ => ⟨_, hb cdv A outer s H E, ?_⟩
  subst e
  match us, hl with
  | [u], _ =>
    refine ⟨u, rfl, .ref a, rfl, a, C, rfl, T, hno n (List.mem_singleton.mpr rfl), .inl ⟨ha, fun d h1 h2 => ?_⟩⟩
    exact q d h1 h2
theorem ini_two {qual n n2 : Str} {st : Stmt} {f : Addr} {fd : FuncData} (F : Fun K "__init__" qual st f fd) (S : FnScope ["self", n, n2] ["self", n, n2] (defScope st))
    (hb : ∀ (cdv : Value) (A : Around) (outer : List Env) (s : Shared) (H : Hp) (E : XK), PSs (cxOf CX0 P w K mg base ["self", n, n2] qual (defScope st) f cdv A outer s H E).nox (defBody st) (tSeq (tOst K n (tVar 0) (tVar 1)) (tOst K n2 (tVar 0) (tVar 2)))) :
    FnOk P w K mg base CX0 1 f fd ["self", n, n2] (iniSp K [n, n2]) := by
  refine F.ok S (fun vs H Q E ⟨a, C, us, e, hl, _⟩ => by rw [e]; show us.length + 1 = 3; rw [hl]; rfl) fun cdv A outer s H vs Q E hr ⟨a, C, us, e, hl, T, hno, ha, q⟩ => ⟨_, hb cdv A outer s H E, ?_⟩
  subst e
  match us, hl with
  | [u, u2], _ =>
    refine ⟨u, rfl, .ref a, rfl, a, C, rfl, T, hno n (by simp), .inl ⟨ha, fun d h1 h2 => ?_⟩⟩
    refine ⟨u2, rfl, .ref a, rfl, a, C, rfl, T, hno n2 (by simp), .inr ⟨d, _, upd_same, by rw [upd_ne h2, upd_same], by simp, ?_⟩⟩
    rw [upd_over h2]
    exact q d h1 h2
end
section
variable {X : Cx} {Ed : DX}
/-- raise C(e, ..) of an own error whose __init__ keeps its parameters -/
theorem gs_raise {x : Str} {C fI : Addr} {k : Nat} {fd : FuncData} {ns : List Str} {e : Expr} {es : List Expr} {da : DA} {p pos pos2 : Pos} (hc : X.calm = true) (tk : Takes X (wX X.K Ed)) (T : OexC X.K C) (hno : ∀ n ∈ ns, PySem.W.findIn X.K (.ref C) n = some none)
    (iC : PySem.W.findIn X.K (.ref C) "__init__" = some (some (.ref fI))) (tI : PySem.W.typeIn X.K (.ref fI) = some (.type "function"))
    (F1 : FnOk X.prog X.w X.K X.mg X.base CX0 k fI fd ("self" :: ns) (iniSp X.K ns)) (hr : Room (k + 1) X.A) (hb : Binds X.K fd ("self" :: ns) []) (hg : Gl X x) (hm : X.mg x = some (.ref C)) (ha : GA X (e :: es) da) (hns : ns.length ≤ 900)
    (hdb : (x == ("__debug__" : Str)) = false := by decide) (he : starEach (e :: es) X.env = (false, eval e X.env) :: starEach es X.env := by rfl) (hpl : (backTo pos (starEach es X.env)).any (·.1) = false := by rfl) :
    GS X (.Raise (some (.Call (.Name x p) (e :: es) [] pos)) none pos2) (dRaise (.ref C) ns Ed da) := by
  obtain ⟨ta, q, l⟩ := ha.ex
  refine ⟨_, ps_raise hc tk (pmk_oex T iC tI F1 hr hb .nil pass0 hg hm q hdb he hpl), fun s H sd m Ed' E rs rm h _ _ _ _ => ?_⟩
  refine l s H sd m _ _ rs rm h fun vs H1 ds m1 t1 rm1 r1 ⟨hl, h1⟩ => ?_
  have hlv : vs.length = ns.length := by rw [← r1.length]; exact hl
  refine ⟨by omega, fun a ha => ⟨a, C, vs, by rw [List.append_nil], hlv, T, hno, upd_same, fun d hd hda => ⟨rfl, d, _, upd_same, by rw [upd_ne hda, upd_same], by rw [upd_ne hda] at hd; exact hd, ?_⟩⟩⟩
  rw [upd_ne hda] at hd
  rw [upd_gone ha hda]
  have z1 : (ns.zip vs).map (·.1) = ns := List.map_fst_zip (by omega)
  have z2 : (ns.zip ds).map (·.1) = ns := List.map_fst_zip (by omega)
  have z3 : (ns.zip vs).map (·.2) = vs := List.map_snd_zip (by omega)
  have z4 : (ns.zip ds).map (·.2) = ds := List.map_snd_zip (by omega)
  refine ⟨(ns.zip ds).reverse, m1, rm1.skip hd, ⟨d, _, rfl, upd_same, ?_, ?_⟩, h1⟩
  · rw [List.map_reverse, List.map_reverse, z1, z2]
  · rw [List.map_reverse, List.map_reverse, z3, z4]
    exact r1.rev.mono (.new hd)
end
end PD

set_option Elab.async false
set_option linter.all false
set_option maxRecDepth 100000
set_option maxHeartbeats 4000000
/-! Instances: fields read and set. -/
namespace PD
open PySem PySem.Spec PyProof.Rows L2
theorem lookup_rep {κ : Type} [BEq κ] {K : PySem.W.Frag} {H : Hp} {f : κ} {u : D} : ∀ {fs : List (κ × D)} {us : List (κ × V)}, us.map (·.1) = fs.map (·.1) → RepL K H (fs.map (·.2)) (us.map (·.2)) → fs.lookup f = some u → ∃ v, us.lookup f = some v ∧ Rep K H u v
  | [], _, _, _, h => by cases h
  | (g, d) :: fs, [], e, _, _ => by cases e
  | (g, d) :: fs, (g', v) :: us, e, r, h => by
    simp only [List.map_cons] at e r
    injection e with e1 e2
    subst e1
    cases r with
    | cons r1 r2 =>
      rw [List.lookup_cons] at h ⊢
      cases q : (f == g') with
      | true => rw [q] at h; cases h; exact ⟨v, rfl, r1⟩
      | false => rw [q] at h; exact lookup_rep e2 r2 h
theorem lookup_none {κ : Type} [BEq κ] {f : κ} : ∀ {fs : List (κ × D)} {us : List (κ × V)}, us.map (·.1) = fs.map (·.1) → fs.lookup f = none → us.lookup f = none
  | [], [], _, _ => rfl
  | [], _ :: _, e, _ => by cases e
  | _ :: _, [], e, _ => by cases e
  | (g, d) :: fs, (g', v) :: us, e, h => by
    simp only [List.map_cons] at e
    injection e with e1 e2
    subst e1
    rw [List.lookup_cons] at h ⊢
    cases q : (f == g') with
    | true => rw [q] at h; cases h
    | false => rw [q] at h; exact lookup_none e2 h
theorem TX.ins {H : Hp} {a C dx : Addr} {us : List (Str × V)} {o : HO} (h : H a = some (.ins C dx us)) : TX H (upd H a o) := fun b u i e => by
  rw [upd_ne]
  · exact e
  · rintro rfl
    rw [h] at e; cases e; exact i.elim
theorem RM.setI {K : PySem.W.Frag} {H : Hp} {m : Mu} {p C dx dx' : Addr} {fs : List (Str × D)} {us ws : List (Str × V)} (r : RM K H m) (h : H p = some (.ins C dx ws)) (e1 : us.map (·.1) = fs.map (·.1)) (q : RepL K H (fs.map (·.2)) (us.map (·.2))) : RM K (upd H p (.ins C dx' us)) (mset m p (.ins C fs)) := fun a o e => by
  by_cases ha : a = p
  · subst ha
    rw [mset_same] at e; cases e
    exact ⟨dx', us, upd_same, e1, q.mono (.ins h)⟩
  · rw [mset_ne ha] at e
    refine (r a o e).tx (.ins h) fun us z => ?_
    rw [upd_ne ha]; exact z
def dFld (C : Addr) (f : Str) (de : DE) : DE := fun s m Q => de s m fun x m1 => ∃ a fs v, x = .ref a ∧ m1 a = some (.ins C fs) ∧ fs.lookup f = some v ∧ Q v m1
section
variable {X : Cx}
theorem ge_fld {C : Addr} {f : Str} {e : Expr} {de : DE} {pos : Pos} (c : Cls X.K C) (n : NoAttr X.K C f) (he : GE X e de) (hb : attributeBase e f X.env (eval e X.env) = eval e X.env := by rfl) : GE X (.Attribute e f pos) (dFld C f de) := by
  obtain ⟨te, pt, l⟩ := he.ex
  refine .of ⟨_, pe_fld pt hb, fun s H sd m Qd Q rs rm h k => l s H sd m _ _ rs rm h fun v H1 dv m1 t1 rm1 r1 h1 => ?_⟩
  obtain ⟨a, fs, u, rfl, e2, e3, h2⟩ := h1
  cases r1
  obtain ⟨dx, us, e4, e5, r⟩ := rm1 a _ e2
  obtain ⟨v', e6, r6⟩ := lookup_rep e5 r e3
  exact ⟨a, C, dx, us, v', rfl, e4, c, n, e6, k _ _ _ _ t1 rm1 r6 h2⟩
def putD (f : Str) (v : D) : List (Str × D) → List (Str × D)
  | [] => [(f, v)]
  | (g, x) :: r => if g = f then (g, v) :: r else (g, x) :: putD f v r
theorem put_names {f : Str} {y : V} {d : D} : ∀ {fs : List (Str × D)} {us : List (Str × V)}, us.map (·.1) = fs.map (·.1) → (putF f y us).map (·.1) = (putD f d fs).map (·.1)
  | [], [], _ => rfl
  | [], _ :: _, e => by cases e
  | _ :: _, [], e => by cases e
  | (g, b) :: fs, (g', v) :: us, e => by
    simp only [List.map_cons] at e
    injection e with e1 e2
    subst e1
    unfold putF putD
    by_cases h : g' = f
    · rw [if_pos h, if_pos h, List.map_cons, List.map_cons, e2]
    · rw [if_neg h, if_neg h, List.map_cons, List.map_cons, put_names e2]
theorem put_rep {K : PySem.W.Frag} {H : Hp} {f : Str} {y : V} {d : D} (ry : Rep K H d y) : ∀ {fs : List (Str × D)} {us : List (Str × V)}, us.map (·.1) = fs.map (·.1) → RepL K H (fs.map (·.2)) (us.map (·.2)) → RepL K H ((putD f d fs).map (·.2)) ((putF f y us).map (·.2))
  | [], [], _, _ => .cons ry .nil
  | [], _ :: _, e, _ => by cases e
  | _ :: _, [], e, _ => by cases e
  | (g, b) :: fs, (g', v) :: us, e, r => by
    simp only [List.map_cons] at e r
    injection e with e1 e2
    subst e1
    cases r with
    | cons r1 r2 =>
      unfold putF putD
      by_cases h : g' = f
      · rw [if_pos h, if_pos h]; exact .cons ry r2
      · rw [if_neg h, if_neg h]; exact .cons r1 (put_rep ry e2 r2)
def dSetF (C : Addr) (f : Str) (da dv : DE) : DS := fun E s m => dv s m fun y m1 => da s m1 fun x m2 => ∃ a fs, x = .ref a ∧ m2 a = some (.ins C fs) ∧ fs.length < 1000 ∧ E.nx s (mset m2 a (.ins C (putD f y fs)))
theorem gs_fld {C : Addr} {f : Str} {o value : Expr} {da dv : DE} {pos pos' : Pos} (c : Cls X.K C) (n : NoAttr X.K C f) (ha : GE X o da) (hv : GE X value dv) (hs : swapsWith value (some (.Attribute o f pos')) pos.line X.env = pure false := by rfl) : GS X (.Assign [.Attribute o f pos'] value pos) (dSetF C f da dv) := by
  obtain ⟨ta, pa, la⟩ := ha.ex
  obtain ⟨tv, pv', lv⟩ := hv.ex
  refine ⟨_, ps_fld pa pv' hs, fun s H sd m Ed E rs rm h k1 _ _ _ => ?_⟩
  refine lv s H sd m _ _ rs rm h fun y H1 dy m1 t1 rm1 r1 h1 => ?_
  refine la s H1 sd m1 _ _ (rs.mono t1) rm1 h1 fun x H2 dx2 m2 t2 rm2 r2 h2 => ?_
  obtain ⟨a, fs, rfl, e2, hl, h2⟩ := h2
  cases r2
  obtain ⟨dx, us, e4, e5, r⟩ := rm2 a _ e2
  have hlen : us.length = fs.length := by have z := congrArg List.length e5; rwa [List.length_map, List.length_map] at z
  exact ⟨a, C, dx, us, rfl, e4, c, n, by omega, k1 _ _ _ _ (t1.trans (t2.trans (.ins e4))) ((rs.mono (t1.trans t2)).mono (.ins e4)) (rm2.setI e4 (put_names e5) (put_rep (r1.mono t2) e5 r)) h2⟩
/-! methods -/
def dMeth (C : Addr) (mn : Str) (n : Nat) (sd : SpD) (de : DE) (da : DA) : DE := fun s m Q => de s m fun x m1 => ∃ a fs, x = .ref a ∧ m1 a = some (.ins C fs) ∧ fs.lookup mn = none ∧ da s m1 fun ds m2 => ds.length + 1 = n ∧ sd (x :: ds) m2 Q
theorem ge_meth {C f : Addr} {k n : Nat} {fd : FuncData} {ps : List Str} {sd : SpD} {mn : Str} {o e : Expr} {es : List Expr} {de : DE} {da : DA} {apos pos : Pos} {pl : Sem Bool} (he : GE X o de) (c : Cls X.K C) (hm : Meth X.K C mn f) (F : FnOk X.prog X.w X.K X.mg X.base CX0 k f fd ps (spL X.K n sd)) (hr : Room k X.A) (hb : Binds X.K fd ps [])
    (ha : GA X (e :: es) da) (hst : starEach (e :: es) X.env = (false, eval e X.env) :: starEach es X.env := by rfl) (hpl : (backTo pos (starEach es X.env)).any (·.1) = false := by rfl)
    (ht : eval (.Call (.Attribute o mn apos) (e :: es) [] pos) X.env = (do
      let ov9 ← eval o X.env
      standAt apos.atName
      let (f, first) ← holding [ov9] (getMethod ov9 mn pl)
      callWith pos f first (backTo pos (starEach (e :: es) X.env)) (backToKw pos (keywordEach [] X.env))) := by rfl) :
    GE X (.Call (.Attribute o mn apos) (e :: es) [] pos) (dMeth C mn n sd de da) := by
  obtain ⟨te, pt, l⟩ := he.ex
  obtain ⟨ta, q, la⟩ := ha.ex
  refine .of ⟨_, pe_meth (E := E0) pt c hm F hr hb .nil pass0 q hst hpl ht, fun s H sd' m Qd Q rs rm h k => ?_⟩
  refine l s H sd' m _ _ rs rm h fun x H1 dx1 m1 t1 rm1 r1 h1 => ?_
  obtain ⟨a, fs, rfl, e2, e3, h2⟩ := h1
  cases r1
  obtain ⟨dx, us, e4, e5, r⟩ := rm1 a _ e2
  refine ⟨a, dx, us, rfl, e4, lookup_none e5 e3, ?_⟩
  refine la s H1 sd' m1 _ _ (rs.mono t1) rm1 h2 fun vs H2 ds m2 t2 rm2 r2 h3 => ?_
  rw [List.append_nil]
  exact ⟨.ref a :: ds, m2, Qd, .cons (.ref a) r2, rm2, ⟨h3.1, h3.2⟩, fun v' H' dv' m' t' a b c => k v' H' dv' m' (t1.trans (t2.trans t')) a b c⟩
end
end PD

set_option Elab.async false
set_option linter.all false
set_option maxRecDepth 100000
set_option maxHeartbeats 4000000
/-! Instances: methods without arguments, methods that may raise, new instances. -/
namespace PD
open PySem PySem.Spec PyProof.Rows L2
theorem RM.newI {K : PySem.W.Frag} {H : Hp} {m : Mu} {x dx C : Addr} (r : RM K H m) (h1 : H x = none) (h2 : H dx = none) (hne : dx ≠ x) : RM K (upd (upd H dx (.own x)) x (.ins C dx [])) (mset m x (.ins C [])) := fun a o e => by
  by_cases ha : a = x
  · subst ha
    rw [mset_same] at e; cases e
    exact ⟨dx, [], upd_same, rfl, .nil⟩
  · rw [mset_ne ha] at e
    exact (r.skip h2).skip (by rw [upd_ne hne.symm]; exact h1) a o e
section
variable {X : Cx} {Ed : DX}
theorem ge_meth0 {C f : Addr} {k n : Nat} {fd : FuncData} {ps : List Str} {sd : SpD} {mn : Str} {o : Expr} {de : DE} {apos pos : Pos} {pl : Sem Bool} (he : GE X o de) (c : Cls X.K C) (hm : Meth X.K C mn f) (F : FnOk X.prog X.w X.K X.mg X.base CX0 k f fd ps (spL X.K n sd)) (hr : Room k X.A) (hb : Binds X.K fd ps [])
    (ht : eval (.Call (.Attribute o mn apos) [] [] pos) X.env = (do
      let ov9 ← eval o X.env
      standAt apos.atName
      let (f, first) ← holding [ov9] (getMethod ov9 mn pl)
      callWith pos f first (backTo pos (starEach [] X.env)) (backToKw pos (keywordEach [] X.env))) := by rfl) :
    GE X (.Call (.Attribute o mn apos) [] [] pos) (dMeth C mn n sd de dNil) := by
  obtain ⟨te, pt, l⟩ := he.ex
  refine .of ⟨_, pe_meth0 (E := E0) pt c hm F hr hb .nil pass0 ht, fun s H sd' m Qd Q rs rm h k => ?_⟩
  refine l s H sd' m _ _ rs rm h fun x H1 dx1 m1 t1 rm1 r1 h1 => ?_
  obtain ⟨a, fs, rfl, e2, e3, h2⟩ := h1
  cases r1
  obtain ⟨dx, us, e4, e5, r⟩ := rm1 a _ e2
  refine ⟨a, dx, us, rfl, e4, lookup_none e5 e3, ?_⟩
  exact ⟨[.ref a], m1, Qd, .cons (.ref a) .nil, rm1, ⟨h2.1, h2.2⟩, fun v' H' dv' m' t' a b c => k v' H' dv' m' (t1.trans t') a b c⟩
/-- what a callee may let out is what the caller may -/
theorem passX (tk : Takes X (wX X.K Ed)) : Passes (L2.CX X.prog X.w) X (fun cls d H => wX X.K Ed cls d [] H) := passes_call tk fun _ _ _ _ h => h
def dMethX (C : Addr) (mn : Str) (n : Nat) (sd : SpX) (Ed : DX) (de : DE) (da : DA) : DE := fun s m Q => de s m fun x m1 => ∃ a fs, x = .ref a ∧ m1 a = some (.ins C fs) ∧ fs.lookup mn = none ∧ da s m1 fun ds m2 => ds.length + 1 = n ∧ sd (x :: ds) m2 Q Ed
theorem ge_methX {C f : Addr} {k n : Nat} {fd : FuncData} {ps : List Str} {sd : SpX} {mn : Str} {o e : Expr} {es : List Expr} {de : DE} {da : DA} {apos pos : Pos} {pl : Sem Bool} (he : GE X o de) (c : Cls X.K C) (hm : Meth X.K C mn f) (F : FnOk X.prog X.w X.K X.mg X.base (L2.CX X.prog X.w) k f fd ps (spX X.K n sd)) (tk : Takes X (wX X.K Ed)) (hr : Room k X.A) (hb : Binds X.K fd ps [])
    (ha : GA X (e :: es) da) (hst : starEach (e :: es) X.env = (false, eval e X.env) :: starEach es X.env := by rfl) (hpl : (backTo pos (starEach es X.env)).any (·.1) = false := by rfl)
    (ht : eval (.Call (.Attribute o mn apos) (e :: es) [] pos) X.env = (do
      let ov9 ← eval o X.env
      standAt apos.atName
      let (f, first) ← holding [ov9] (getMethod ov9 mn pl)
      callWith pos f first (backTo pos (starEach (e :: es) X.env)) (backToKw pos (keywordEach [] X.env))) := by rfl) :
    GE X (.Call (.Attribute o mn apos) (e :: es) [] pos) (dMethX C mn n sd Ed de da) := by
  obtain ⟨te, pt, l⟩ := he.ex
  obtain ⟨ta, q, la⟩ := ha.ex
  refine .of ⟨_, pe_meth (E := fun cls d H => wX X.K Ed cls d [] H) pt c hm F hr hb .nil (passX tk) q hst hpl ht, fun s H sd' m Qd Q rs rm h k => ?_⟩
  refine l s H sd' m _ _ rs rm h fun x H1 dx1 m1 t1 rm1 r1 h1 => ?_
  obtain ⟨a, fs, rfl, e2, e3, h2⟩ := h1
  cases r1
  obtain ⟨dx, us, e4, e5, r⟩ := rm1 a _ e2
  refine ⟨a, dx, us, rfl, e4, lookup_none e5 e3, ?_⟩
  refine la s H1 sd' m1 _ _ (rs.mono t1) rm1 h2 fun vs H2 ds m2 t2 rm2 r2 h3 => ?_
  rw [List.append_nil]
  exact ⟨.ref a :: ds, m2, Qd, Ed, .cons (.ref a) r2, rm2, ⟨h3.1, h3.2⟩, fun v' H' dv' m' t' a b c => k v' H' dv' m' (t1.trans (t2.trans t')) a b c, fun cls d H' fs m' a b c => ⟨fs, m', a, b, c⟩⟩
/-- C(e, ..) -/
def dMakeX (C : Addr) (n : Nat) (sd : SpX) (Ed : DX) (da : DA) : DE := fun s m Q => da s m fun ds m1 => ds.length + 1 = n ∧ ∀ x, m1 x = none → sd (.ref x :: ds) (mset m1 x (.ins C [])) (fun v m2 => v = .non ∧ Q (.ref x) m2) Ed
theorem ge_makeX {C f : Addr} {k n : Nat} {fd : FuncData} {ps : List Str} {sd : SpX} {x : Str} {e : Expr} {es : List Expr} {da : DA} {p pos : Pos} (M : Mk X.K C f) (F : FnOk X.prog X.w X.K X.mg X.base (L2.CX X.prog X.w) k f fd ps (spX X.K n sd)) (tk : Takes X (wX X.K Ed)) (hr : Room (k + 1) X.A) (hg : Gl X x) (hm : X.mg x = some (.ref C)) (hb : Binds X.K fd ps [])
    (ha : GA X (e :: es) da) (hdb : (x == ("__debug__" : Str)) = false := by decide) (he : starEach (e :: es) X.env = (false, eval e X.env) :: starEach es X.env := by rfl) (hpl : (backTo pos (starEach es X.env)).any (·.1) = false := by rfl) :
    GE X (.Call (.Name x p) (e :: es) [] pos) (dMakeX C n sd Ed da) := by
  obtain ⟨ta, q, la⟩ := ha.ex
  refine .of ⟨_, pe_make (E := fun cls d H => wX X.K Ed cls d [] H) M F hr hg hm hb .nil (passX tk) q hdb he hpl, fun s H sd' m Qd Q rs rm h k => ?_⟩
  refine la s H sd' m _ _ rs rm h fun vs H1 ds m1 t1 rm1 r1 h1 => fun y dx hy hdx hne => ?_
  rw [List.append_nil]
  have ty : TX H1 (upd (upd H1 dx (.own y)) y (.ins C dx [])) := (TX.new hdx).trans (.new (by rw [upd_ne hne.symm]; exact hy))
  refine ⟨.ref y :: ds, mset m1 y (.ins C []), _, Ed, .cons (.ref y) (r1.mono ty), rm1.newI hy hdx hne, ⟨h1.1, h1.2 y (rm1.fresh hy)⟩, fun v' H' dv' m' t' a b ⟨c1, c2⟩ => ?_, fun cls d H' fs m' a b c => ⟨fs, m', a, b, c⟩⟩
  subst c1
  cases b
  exact ⟨rfl, k _ _ _ _ (t1.trans (ty.trans t')) a (.ref y) c2⟩
end
end PD

set_option Elab.async false
set_option linter.all false
set_option maxRecDepth 100000
set_option maxHeartbeats 4000000
/-! Dicts with ints and texts for keys. -/
namespace PD
open PySem PySem.Spec PyProof.Rows L2
def toKey : D → Option Key
  | .int i => some (.inl i)
  | .str x => some (.inr x)
  | _ => none
theorem key_rep {K : PySem.W.Frag} {H : Hp} {d : D} {v : V} {k : Key} (r : Rep K H d v) (h : toKey d = some k) : v = kV k := by
  cases r <;> unfold toKey at h <;> cases h <;> rfl
def valD {κ : Type} [DecidableEq κ] (kvs : List (κ × D)) (k : κ) : Option D := (kvs.find? fun kv => decide (kv.1 = k)).map (·.2)
def putKD {κ : Type} [DecidableEq κ] (kvs : List (κ × D)) (k : κ) (d : D) : List (κ × D) :=
  if (kvs.any fun kv => decide (kv.1 = k)) = true then kvs.map (fun kv => if kv.1 = k then (kv.1, d) else kv) else kvs ++ [(k, d)]
section
variable {κ : Type} [DecidableEq κ] {K : PySem.W.Frag} {H : Hp} {k : κ}
theorem val_rep : ∀ {kvs : List (κ × D)} {us : List (κ × V)}, us.map (·.1) = kvs.map (·.1) → RepL K H (kvs.map (·.2)) (us.map (·.2)) → (∀ d, valD kvs k = some d → ∃ v, valV us k = some v ∧ Rep K H d v) ∧ (valD kvs k = none → valV us k = none)
  | [], [], _, _ => ⟨fun _ h => (nomatch h), fun _ => rfl⟩
  | [], _ :: _, e, _ => by cases e
  | _ :: _, [], e, _ => by cases e
  | (g, b) :: kvs, (g', v) :: us, e, r => by
    simp only [List.map_cons] at e r
    injection e with e1 e2
    subst e1
    cases r with
    | cons r1 r2 =>
      have ih := val_rep e2 r2
      by_cases h : g' = k
      · have z1 : valD ((g', b) :: kvs) k = some b := by simp [valD, h]
        have z2 : valV ((g', v) :: us) k = some v := valV_pos h
        rw [z1, z2]
        exact ⟨fun d e => by cases e; exact ⟨v, rfl, r1⟩, fun e => (nomatch e)⟩
      · have z1 : valD ((g', b) :: kvs) k = valD kvs k := by simp [valD, h]
        have z2 : valV ((g', v) :: us) k = valV us k := valV_neg h
        rw [z1, z2]
        exact ih
theorem any_keys : ∀ {kvs : List (κ × D)} {us : List (κ × V)}, us.map (·.1) = kvs.map (·.1) → (us.any fun kv => decide (kv.1 = k)) = (kvs.any fun kv => decide (kv.1 = k))
  | [], [], _ => rfl
  | [], _ :: _, e => by cases e
  | _ :: _, [], e => by cases e
  | (g, b) :: kvs, (g', v) :: us, e => by
    simp only [List.map_cons] at e
    injection e with e1 e2
    subst e1
    rw [List.any_cons, List.any_cons, any_keys e2]
theorem putK_map_names {y : V} {d : D} : ∀ {kvs : List (κ × D)} {us : List (κ × V)}, us.map (·.1) = kvs.map (·.1) → RepL K H (kvs.map (·.2)) (us.map (·.2)) → Rep K H d y →
    ((us.map fun kv => if kv.1 = k then (kv.1, y) else kv).map (·.1) = (kvs.map fun kv => if kv.1 = k then (kv.1, d) else kv).map (·.1)) ∧ RepL K H ((kvs.map fun kv => if kv.1 = k then (kv.1, d) else kv).map (·.2)) ((us.map fun kv => if kv.1 = k then (kv.1, y) else kv).map (·.2))
  | [], [], _, _, _ => ⟨rfl, .nil⟩
  | [], _ :: _, e, _, _ => by cases e
  | _ :: _, [], e, _, _ => by cases e
  | (g, b) :: kvs, (g', v) :: us, e, r, ry => by
    simp only [List.map_cons] at e r
    injection e with e1 e2
    subst e1
    cases r with
    | cons r1 r2 =>
      have ih := putK_map_names e2 r2 ry
      simp only [List.map_cons]
      by_cases h : g' = k
      · simp only [if_pos h]
        exact ⟨by rw [ih.1], .cons ry ih.2⟩
      · simp only [if_neg h]
        exact ⟨by rw [ih.1], .cons r1 ih.2⟩
theorem putK_rep {y : V} {d : D} {kvs : List (κ × D)} {us : List (κ × V)} (e : us.map (·.1) = kvs.map (·.1)) (r : RepL K H (kvs.map (·.2)) (us.map (·.2))) (ry : Rep K H d y) :
    (putK us k y).map (·.1) = (putKD kvs k d).map (·.1) ∧ RepL K H ((putKD kvs k d).map (·.2)) ((putK us k y).map (·.2)) := by
  unfold putK putKD
  rw [any_keys e]
  split
  · exact putK_map_names e r ry
  · rw [List.map_append, List.map_append, List.map_append, List.map_append, e]
    exact ⟨rfl, r.append (.cons ry .nil)⟩
end
theorem TX.dK {H : Hp} {a : Addr} {us : List (Key × V)} {o : HO} (h : H a = some (.dK us)) : TX H (upd H a o) := fun b u i e => by
  rw [upd_ne]
  · exact e
  · rintro rfl
    rw [h] at e; cases e; exact i.elim
theorem RM.setD {K : PySem.W.Frag} {H : Hp} {m : Mu} {p : Addr} {kvs : List (Key × D)} {us ws : List (Key × V)} (r : RM K H m) (h : H p = some (.dK ws)) (e1 : us.map (·.1) = kvs.map (·.1)) (q : RepL K H (kvs.map (·.2)) (us.map (·.2))) : RM K (upd H p (.dK us)) (mset m p (.dct kvs)) := fun a o e => by
  by_cases ha : a = p
  · subst ha
    rw [mset_same] at e; cases e
    exact ⟨us, upd_same, e1, q.mono (.dK h)⟩
  · rw [mset_ne ha] at e
    refine (r a o e).tx (.dK h) fun us z => ?_
    rw [upd_ne ha]; exact z
theorem RM.newD {K : PySem.W.Frag} {H : Hp} {m : Mu} {p : Addr} (r : RM K H m) (h : H p = none) : RM K (upd H p (.dK [])) (mset m p (.dct [])) := fun a o e => by
  by_cases ha : a = p
  · subst ha
    rw [mset_same] at e; cases e
    exact ⟨[], upd_same, rfl, .nil⟩
  · rw [mset_ne ha] at e
    exact r.skip h a o e
def dDNew : DE := fun _ m Q => ∀ p, m p = none → Q (.ref p) (mset m p (.dct []))
def dDGet (dd dk : DE) : DE := fun s m Q => dd s m fun x m1 => dk s m1 fun y m2 => ∃ a kvs k d, x = .ref a ∧ m2 a = some (.dct kvs) ∧ toKey y = some k ∧ valD kvs k = some d ∧ Q d m2
def dDPut (dd dk dv : DE) : DS := fun E s m => dv s m fun z m1 => dd s m1 fun x m2 => dk s m2 fun y m3 => ∃ a kvs k, x = .ref a ∧ m3 a = some (.dct kvs) ∧ toKey y = some k ∧ kvs.length < sizeLine ∧ E.nx s (mset m3 a (.dct (putKD kvs k z)))
def dDIn (f : Bool → Bool) (dk dd : DE) : DE := fun s m Q => dk s m fun y m1 => dd s m1 fun x m2 => ∃ a kvs k, x = .ref a ∧ m2 a = some (.dct kvs) ∧ toKey y = some k ∧ Q (.bl (f (valD kvs k).isSome)) m2
section
variable {X : Cx} {o i value : Expr} {pos pos' : Pos} {dd dk dv : DE}
theorem ge_dnew : GE X (.Dict [] [] pos) dDNew :=
  .of ⟨_, pe_dnewK, fun s H sd m Qd Q rs rm h k => fun p hp => k _ _ _ _ (.new hp) (rm.newD hp) (.ref p) (h p (rm.fresh hp))⟩
theorem ge_dget (hu : X.A.units + 1 < cLine) (ho : GE X o dd) (hi : GE X i dk) (hs : NoSl i) : GE X (.Subscript o i pos) (dDGet dd dk) := by
  obtain ⟨td, pd, ld⟩ := ho.ex
  obtain ⟨ti, pi, li⟩ := hi.ex
  refine .of ⟨_, pe_dget hu pd pi hs, fun s H sd m Qd Q rs rm h k => ?_⟩
  refine ld s H sd m _ _ rs rm h fun x H1 dx m1 t1 rm1 r1 h1 => ?_
  refine li s H1 sd m1 _ _ (rs.mono t1) rm1 h1 fun y H2 dy m2 t2 rm2 r2 h2 => ?_
  obtain ⟨a, kvs, kk, d, rfl, e2, e3, e4, h3⟩ := h2
  cases r1
  obtain ⟨us, e5, e6, r⟩ := rm2 a _ e2
  obtain ⟨v, e7, r7⟩ := (val_rep e6 r).1 d e4
  have hy := key_rep r2 e3
  subst hy
  exact ⟨a, v, rfl, by rw [← e7]; exact DGet.k e5, k _ _ _ _ (t1.trans t2) rm2 r7 h3⟩
theorem gs_dput (hu : X.A.units + 1 < cLine) (ho : GE X o dd) (hi : GE X i dk) (hv : GE X value dv) (hs : swapsWith value (some (.Subscript o i pos')) pos.line X.env = pure false := by rfl) : GS X (.Assign [.Subscript o i pos'] value pos) (dDPut dd dk dv) := by
  obtain ⟨td, pd, ld⟩ := ho.ex
  obtain ⟨ti, pi, li⟩ := hi.ex
  obtain ⟨tv, pv', lv⟩ := hv.ex
  refine ⟨_, ps_dput hu pd pi pv' hs, fun s H sd m Ed E rs rm h k1 _ _ _ => ?_⟩
  refine lv s H sd m _ _ rs rm h fun z H1 dz m1 t1 rm1 r1 h1 => ?_
  refine ld s H1 sd m1 _ _ (rs.mono t1) rm1 h1 fun x H2 dx m2 t2 rm2 r2 h2 => ?_
  refine li s H2 sd m2 _ _ (rs.mono (t1.trans t2)) rm2 h2 fun y H3 dy m3 t3 rm3 r3 h3 => ?_
  obtain ⟨a, kvs, kk, rfl, e2, e3, hl, h4⟩ := h3
  cases r2
  obtain ⟨us, e5, e6, r⟩ := rm3 a _ e2
  have hy := key_rep r3 e3
  subst hy
  have hlen : us.length = kvs.length := by have z := congrArg List.length e6; rwa [List.length_map, List.length_map] at z
  have pr := putK_rep (k := kk) e6 r (r1.mono (t2.trans t3))
  exact ⟨a, _, rfl, DPut.k e5 (by omega), k1 _ _ _ _ (t1.trans (t2.trans (t3.trans (.dK e5)))) ((rs.mono (t1.trans (t2.trans t3))).mono (.dK e5)) (rm3.setD e5 pr.1 pr.2) h4⟩
theorem val_some {K : PySem.W.Frag} {H : Hp} {k : Key} {kvs : List (Key × D)} {us : List (Key × V)} (e : us.map (·.1) = kvs.map (·.1)) (r : RepL K H (kvs.map (·.2)) (us.map (·.2))) : (valV us k).isSome = (valD kvs k).isSome := by
  have z := val_rep (k := k) e r
  cases q : valD kvs k with
  | none => rw [z.2 q]; rfl
  | some d => obtain ⟨v, e1, _⟩ := z.1 d q; rw [e1]; rfl
theorem gt_din (hu : X.A.units + 1 < cLine) (hi : GE X i dk) (ho : GE X o dd) (hm : behindInMarks .In o = false := by rfl) : GT X (.Compare i [.In] [o] pos) (dTest (dDIn (fun b => b) dk dd)) := by
  obtain ⟨td, pd, ld⟩ := ho.ex
  obtain ⟨ti, pi, li⟩ := hi.ex
  refine .of ⟨_, pt_cmp (pc_din hu pi pd) hm, LE.testB fun s H sd m Qd Q rs rm h k => ?_⟩
  refine li s H sd m _ _ rs rm h fun y H1 dy m1 t1 rm1 r1 h1 => ?_
  refine ld s H1 sd m1 _ _ (rs.mono t1) rm1 h1 fun x H2 dx m2 t2 rm2 r2 h2 => ?_
  obtain ⟨a, kvs, kk, rfl, e2, e3, h3⟩ := h2
  cases r2
  obtain ⟨us, e5, e6, r⟩ := rm2 a _ e2
  have hy := key_rep (r1.mono t2) e3
  subst hy
  refine ⟨a, _, rfl, DGet.k e5, ?_⟩
  rw [val_some e6 r]
  exact k _ _ _ _ (t1.trans t2) rm2 (.bl _) h3
theorem gt_dnotin (hu : X.A.units + 1 < cLine) (hi : GE X i dk) (ho : GE X o dd) (hm : behindInMarks .NotIn o = false := by rfl) : GT X (.Compare i [.NotIn] [o] pos) (dTest (dDIn (fun b => !b) dk dd)) := by
  obtain ⟨td, pd, ld⟩ := ho.ex
  obtain ⟨ti, pi, li⟩ := hi.ex
  refine .of ⟨_, pt_cmp (pc_dnotin hu pi pd) hm, LE.testB fun s H sd m Qd Q rs rm h k => ?_⟩
  refine li s H sd m _ _ rs rm h fun y H1 dy m1 t1 rm1 r1 h1 => ?_
  refine ld s H1 sd m1 _ _ (rs.mono t1) rm1 h1 fun x H2 dx m2 t2 rm2 r2 h2 => ?_
  obtain ⟨a, kvs, kk, rfl, e2, e3, h3⟩ := h2
  cases r2
  obtain ⟨us, e5, e6, r⟩ := rm2 a _ e2
  have hy := key_rep (r1.mono t2) e3
  subst hy
  refine ⟨a, _, rfl, DGet.k e5, ?_⟩
  rw [val_some e6 r]
  exact k _ _ _ _ (t1.trans t2) rm2 (.bl _) h3
end
end PD

set_option Elab.async false
set_option linter.all false
set_option maxRecDepth 100000
set_option maxHeartbeats 4000000
/-! zip of two tuples, or of two lists. -/
namespace PD
open PySem PySem.Spec PyProof.Rows L2
def zipD (xs ys : List D) : List D := (xs.zip ys).map fun p => .tup [p.1, p.2]
theorem zipD_len (xs ys : List D) : (zipD xs ys).length = min xs.length ys.length := by unfold zipD; rw [List.length_map, List.length_zip]
theorem zipD_get {xs ys : List D} {i : Nat} {a b : D} (h1 : xs[i]? = some a) (h2 : ys[i]? = some b) : (zipD xs ys)[i]? = some (.tup [a, b]) := by
  unfold zipD
  rw [List.getElem?_map, (List.getElem?_zip_eq_some (z := (a, b))).mpr ⟨h1, h2⟩]
  rfl
def dIZip (a : DA) : DI := fun s m R => a s m fun ds m1 => match ds with
  | [.tup xs, .tup ys] => R (zipD xs ys) (fun _ => True) m1
  | [.ref p, .ref q] => ∃ xs ys, seqOf m1 (.ref p) = some xs ∧ seqOf m1 (.ref q) = some ys ∧ R (zipD xs ys) (fun m' => seqOf m' (.ref p) = some xs ∧ seqOf m' (.ref q) = some ys) m1
  | _ => False
theorem zip_item {K : PySem.W.Frag} {i : Nat} {x y : V} {a b : D} {H : Hp} {T : Addr} {m : Mu} {xs ys : List D} (rm : RM K H m) (hT : H T = none) (e1 : xs[i]? = some a) (e2 : ys[i]? = some b) (r1 : Rep K H a x) (r2 : Rep K H b y) :
    ∃ d', (zipD xs ys)[i]? = some d' ∧ TX H (upd H T (.tup [x, y])) ∧ RM K (upd H T (.tup [x, y])) m ∧ Rep K (upd H T (.tup [x, y])) d' (.ref T) :=
  ⟨_, zipD_get e1 e2, .new hT, rm.skip hT, .tup upd_same (.cons (r1.mono (.new hT)) (.cons (r2.mono (.new hT)) .nil))⟩
section
variable {X : Cx}
theorem gi_zip {e e2 : Expr} {p pos tpos : Pos} {elts : List Expr} {kk : Nat} {da : DA} (hg : Gl X "zip") (hm : X.mg "zip" = none) (ha : GA X [e, e2] da)
    (hs : starEach [e, e2] X.env = (false, eval e X.env) :: starEach [e2] X.env := by rfl) (hpl : (backTo pos (starEach [e2] X.env)).any (·.1) = false := by rfl) :
    GIE X (.Tuple elts kk tpos) (.Call (.Name "zip" p) [e, e2] [] pos) (dIZip da) := by
  obtain ⟨ta, q, l⟩ := ha.ex
  refine ⟨_, RZ.pi_zipA hg hm q hs hpl, fun s H sd m Rd R rs rm h k => ?_⟩
  refine l s H sd m _ _ rs rm h fun vs H1 ds m1 t1 rm1 r1 h1 => ?_
  match ds, r1, h1 with
  | [.tup xs, .tup ys], .cons (.tup (a := a) (vs := us) sa ra) (.cons (.tup (a := b) (vs := ws) sb rb) .nil), h1 =>
    refine ⟨a, b, us, ws, rfl, .inr ⟨sa, sb, k _ H1 _ (fun _ => True) m1 t1 rm1 ⟨fun i H' m' t' _ _ hi => ?_, fun i H' x H2 m' t' rm' _ hi hy => ?_, fun i H' m' t' _ _ hi => ?_⟩ h1⟩⟩
    · rw [zipD_len] at hi
      have l1 := ra.length
      have l2 := rb.length
      exact ⟨us, ws, us[i]'(by omega), ws[i]'(by omega), t'.sqT sa, t'.sqT sb, List.getElem?_eq_getElem _, List.getElem?_eq_getElem _⟩
    · obtain ⟨T, x1, y1, rfl, hT, rfl, f, g⟩ := hy
      obtain ⟨d, e, q1⟩ := ra.getV (f _ (t'.sqT sa))
      obtain ⟨d2, e2, q2⟩ := rb.getV (g _ (t'.sqT sb))
      exact zip_item rm' hT e e2 (q1.mono t') (q2.mono t')
    · rw [zipD_len] at hi
      have l1 := ra.length
      have l2 := rb.length
      exact ⟨us, ws, t'.sqT sa, t'.sqT sb, by omega⟩
  | [.ref a, .ref b], .cons (.ref _) (.cons (.ref _) .nil), h1 =>
    obtain ⟨xs, ys, e1, e2, q1⟩ := h1
    obtain ⟨us, sl, r⟩ := ref_rep rm1 e1
    obtain ⟨ws, sl2, r2⟩ := ref_rep rm1 e2
    refine ⟨a, b, us, ws, rfl, .inl ⟨sl, sl2, k _ H1 _ (fun m' => seqOf m' (.ref a) = some xs ∧ seqOf m' (.ref b) = some ys) m1 t1 rm1 ⟨fun i H' m' t' rm' st hi => ?_, fun i H' x H2 m' t' rm' st hi hy => ?_, fun i H' m' t' rm' st hi => ?_⟩ q1⟩⟩
    · rw [zipD_len] at hi
      obtain ⟨us', sl', r'⟩ := ref_rep rm' st.1
      obtain ⟨ws', sl2', r2'⟩ := ref_rep rm' st.2
      have l1 := r'.length
      have l2 := r2'.length
      exact ⟨us', ws', us'[i]'(by omega), ws'[i]'(by omega), sl', sl2', List.getElem?_eq_getElem _, List.getElem?_eq_getElem _⟩
    · obtain ⟨T, x1, y1, rfl, hT, rfl, f, g⟩ := hy
      obtain ⟨us', sl', r'⟩ := ref_rep rm' st.1
      obtain ⟨ws', sl2', r2'⟩ := ref_rep rm' st.2
      obtain ⟨d, e, q1⟩ := r'.getV (f _ sl')
      obtain ⟨d2, e2, q2⟩ := r2'.getV (g _ sl2')
      exact zip_item rm' hT e e2 q1 q2
    · rw [zipD_len] at hi
      obtain ⟨us', sl', r'⟩ := ref_rep rm' st.1
      obtain ⟨ws', sl2', r2'⟩ := ref_rep rm' st.2
      have l1 := r'.length
      have l2 := r2'.length
      exact ⟨us', ws', sl', sl2', by omega⟩
end
end PD

set_option Elab.async false
set_option linter.all false
set_option maxRecDepth 100000
set_option maxHeartbeats 4000000
/-! sum, max, min, any, all of a list. -/
namespace PD
open PySem PySem.Spec PyProof.Rows L2
theorem rep_ints {K : PySem.W.Frag} {H : Hp} : ∀ {ns : List Int} {vs : List V}, RepL K H (ns.map D.int) vs → vs = ns.map V.int
  | [], _, .nil => rfl
  | n :: ns, _, .cons (.int _) r => by rw [rep_ints r]; rfl
theorem rep_bools {K : PySem.W.Frag} {H : Hp} : ∀ {bs : List Bool} {vs : List V}, RepL K H (bs.map D.bl) vs → vs = bs.map V.bl
  | [], _, .nil => rfl
  | b :: bs, _, .cons (.bl _) r => by rw [rep_bools r]; rfl
theorem rep_strs {K : PySem.W.Frag} {H : Hp} : ∀ {xs : List Str} {vs : List V}, RepL K H (xs.map D.str) vs → vs = xs.map V.str
  | [], _, .nil => rfl
  | x :: xs, _, .cons (.str _) r => by rw [rep_strs r]; rfl
def dSum : DC := fun ds m Q => ∃ a ns, ds = [.ref a] ∧ m a = some (.lst ((ns : List Int).map .int)) ∧ Q (.int ns.sum) m
def dMaxL : DC := fun ds m Q => ∃ a ns, ds = [.ref a] ∧ m a = some (.lst ((ns : List Int).map .int)) ∧ 0 < ns.length ∧ ∀ x, x ∈ ns → (∀ y ∈ ns, y ≤ x) → Q (.int x) m
def dMinL : DC := fun ds m Q => ∃ a ns, ds = [.ref a] ∧ m a = some (.lst ((ns : List Int).map .int)) ∧ 0 < ns.length ∧ ∀ x, x ∈ ns → (∀ y ∈ ns, x ≤ y) → Q (.int x) m
def dAny : DC := fun ds m Q => ∃ a bs, ds = [.ref a] ∧ m a = some (.lst ((bs : List Bool).map .bl)) ∧ Q (.bl (bs.any id)) m
def dAll : DC := fun ds m Q => ∃ a bs, ds = [.ref a] ∧ m a = some (.lst ((bs : List Bool).map .bl)) ∧ Q (.bl (bs.all id)) m
section
variable {K : PySem.W.Frag}
theorem one_ref {H : Hp} {a : Addr} {vs : List V} (r : RepL K H [.ref a] vs) : vs = [.ref a] := by
  obtain ⟨v, rfl, rv⟩ := repL1 r
  cases rv
  rfl
theorem lc_sum : LC K (rSum K) dSum := fun vs H ds m Qd Q rm r ⟨a, ns, e1, e2, h⟩ k => by
  subst e1
  obtain ⟨us, e3, r3⟩ := rm a _ e2
  rw [rep_ints r3] at e3
  exact ⟨a, ns, one_ref r, .of e3, k _ _ _ _ (.refl H) rm (.int _) h⟩
theorem lc_max : LC K (rMax K) dMaxL := fun vs H ds m Qd Q rm r ⟨a, ns, e1, e2, hp, h⟩ k => by
  subst e1
  obtain ⟨us, e3, r3⟩ := rm a _ e2
  rw [rep_ints r3] at e3
  exact ⟨a, ns, one_ref r, .of e3, hp, fun x hx hy => k _ _ _ _ (.refl H) rm (.int _) (h x hx hy)⟩
theorem lc_min : LC K (rMin K) dMinL := fun vs H ds m Qd Q rm r ⟨a, ns, e1, e2, hp, h⟩ k => by
  subst e1
  obtain ⟨us, e3, r3⟩ := rm a _ e2
  rw [rep_ints r3] at e3
  exact ⟨a, ns, one_ref r, .of e3, hp, fun x hx hy => k _ _ _ _ (.refl H) rm (.int _) (h x hx hy)⟩
theorem lc_any : LC K (rAny K) dAny := fun vs H ds m Qd Q rm r ⟨a, bs, e1, e2, h⟩ k => by
  subst e1
  obtain ⟨us, e3, r3⟩ := rm a _ e2
  rw [rep_bools r3] at e3
  exact ⟨a, bs, one_ref r, .of e3, k _ _ _ _ (.refl H) rm (.bl _) h⟩
theorem lc_all : LC K (rAll K) dAll := fun vs H ds m Qd Q rm r ⟨a, bs, e1, e2, h⟩ k => by
  subst e1
  obtain ⟨us, e3, r3⟩ := rm a _ e2
  rw [rep_bools r3] at e3
  exact ⟨a, bs, one_ref r, .of e3, k _ _ _ _ (.refl H) rm (.bl _) h⟩
end
end PD

set_option Elab.async false
set_option linter.all false
set_option maxRecDepth 100000
set_option maxHeartbeats 4000000
/-! Sets of ints and texts: made empty, added to, asked. -/
namespace PD
open PySem PySem.Spec PyProof.Rows L2
theorem TX.sK {H : Hp} {P : Program} {w : World} {a : Addr} {S : Key → Bool} {n : Nat} {o : HO} (h : H a = some (SetK P w a S n)) : TX H (upd H a o) := fun b u i e => by
  rw [upd_ne]
  · exact e
  · rintro rfl
    rw [h] at e; cases e; exact i.elim
theorem RM.newS {K : PySem.W.Frag} {H : Hp} {m : Mu} {p : Addr} {P : Program} {w : World} {S : Key → Bool} {n : Nat} (r : RM K H m) (h : H p = none) : RM K (upd H p (SetK P w p S n)) (mset m p (.sset P w S n)) := fun a o e => by
  by_cases ha : a = p
  · subst ha
    rw [mset_same] at e; cases e
    exact upd_same
  · rw [mset_ne ha] at e
    exact r.skip h a o e
theorem RM.setS {K : PySem.W.Frag} {H : Hp} {m : Mu} {p : Addr} {P : Program} {w : World} {S S' : Key → Bool} {n n' : Nat} (r : RM K H m) (h : H p = some (SetK P w p S n)) : RM K (upd H p (SetK P w p S' n')) (mset m p (.sset P w S' n')) := fun a o e => by
  by_cases ha : a = p
  · subst ha
    rw [mset_same] at e; cases e
    exact upd_same
  · rw [mset_ne ha] at e
    refine (r a o e).tx (.sK h) fun us z => ?_
    rw [upd_ne ha]; exact z
def dSet0 (P : Program) (w : World) : DE := fun _ m Q => ∀ p, m p = none → Q (.ref p) (mset m p (.sset P w (fun _ => false) 0))
def dSAdd (P : Program) (w : World) (de : DE) (da : DA) : DE := fun s m Q => de s m fun x m1 => (∃ a S n, x = .ref a ∧ m1 a = some (.sset P w S n)) ∧ da s m1 fun ds m2 => ∃ a S n d k, x = .ref a ∧ ds = [d] ∧ toKey d = some k ∧ m2 a = some (.sset P w S n) ∧ n + 1 < scanBound ∧
  Q .non (mset m2 a (.sset P w (fun j => S j || decide (j = k)) (if S k = true then n else n + 1)))
def dSIn (P : Program) (w : World) (neg : Bool) : D2 := fun x y m Q => ∃ k a S n, toKey x = some k ∧ y = .ref a ∧ m a = some (.sset P w S n) ∧ Q (.bl (if neg then !S k else S k)) m
section
variable {X : Cx}
theorem ge_set0 {p pos : Pos} (hg : Gl X "set") (hm : X.mg "set" = none) : GE X (.Call (.Name "set" p) [] [] pos) (dSet0 X.prog X.w) :=
  .of ⟨_, pe_callTy0 cr_set0K hg hm (by decide +kernel), fun s H sd m Qd Q rs rm h k => ⟨rfl, fun p hp => k _ _ _ _ (.new hp) (rm.newS hp) (.ref p) (h p (rm.fresh hp))⟩⟩
theorem ge_sadd {o e : Expr} {es : List Expr} {de : DE} {da : DA} {apos cpos : Pos} (ho : GE X o de) (ha : GA X (e :: es) da)
    (base9 : attributeBase o "add" X.env (eval o X.env) = eval o X.env := by rfl)
    (few9 : ((backTo cpos (starEach (e :: es) X.env)).all (fun x => !x.1) && (backToKw cpos (keywordEach [] X.env)).all (fun x => x.1.isSome)
      && decide ((e :: es).length + ([] : List Keyword).length + (if ([] : List Keyword).isEmpty then 0 else 1) < 30)) = true := by rfl)
    (line9 : (apos.endLine == cpos.line) = true := by rfl) (hs : starEach (e :: es) X.env = (false, eval e X.env) :: starEach es X.env := by rfl) (plain9 : (backTo cpos (starEach es X.env)).any (·.1) = false := by rfl) :
    GE X (.Call (.Attribute o "add" apos) (e :: es) [] cpos) (dSAdd X.prog X.w de da) := by
  obtain ⟨te, pt, l⟩ := ho.ex
  obtain ⟨ta, q, la⟩ := ha.ex
  refine .of ⟨_, pe_saddK pt q base9 few9 line9 hs plain9, fun s H sd m Qd Q rs rm h k => ?_⟩
  refine l s H sd m _ _ rs rm h fun x H1 dx m1 t1 rm1 r1 h1 => ?_
  obtain ⟨⟨a, S, n, rfl, e2⟩, h2⟩ := h1
  cases r1
  refine ⟨⟨a, S, n, rfl, rm1 a _ e2⟩, ?_⟩
  refine la s H1 sd m1 _ _ (rs.mono t1) rm1 h2 fun vs H2 ds m2 t2 rm2 r2 h3 => ?_
  obtain ⟨a', S', n', d, kk, e3, rfl, e4, e5, room, h4⟩ := h3
  cases e3
  obtain ⟨v, rfl, rv⟩ := repL1 r2
  have hv := key_rep rv e4
  subst hv
  have e6 := rm2 a _ e5
  exact ⟨a, kk, S', n', rfl, rfl, e6, room, k _ _ _ _ (t1.trans (t2.trans (.sK e6))) (rm2.setS e6) .non h4⟩
theorem lr_sin {P : Program} {w : World} {K : PySem.W.Frag} {neg : Bool} : LR K (rSInK P w neg) (dSIn P w neg) := fun x y H dx dy m Qd Q rm rx ry h k => by
  obtain ⟨kk, a, S, n, e1, rfl, e2, h2⟩ := h
  cases ry
  exact ⟨kk, a, S, n, key_rep rx e1, rfl, rm a _ e2, k _ _ _ _ (.refl H) rm (.bl _) h2⟩
end
end PD

set_option Elab.async false
set_option linter.all false
set_option maxRecDepth 100000
set_option maxHeartbeats 4000000
/-! Calls by keyword that may raise; errors of three fields. -/
namespace PD
open PySem PySem.Spec PyProof.Rows L2
section
variable {X : Cx} {Ed : DX}
theorem ge_callKX {k n : Nat} {f : Addr} {fd : FuncData} {ps ks : List Str} {sd : SpX} {x : Str} {p pos : Pos} {kws : List Keyword} {dk : DA} (F : FnOk X.prog X.w X.K X.mg X.base (L2.CX X.prog X.w) k f fd ps (spX X.K n sd)) (tk : Takes X (wX X.K Ed)) (hr : Room k X.A) (hg : Gl X x) (hm : X.mg x = some (.ref f)) (hk : PySem.W.keepIn X.K (.ref f) = true) (hb : KwAll X.K fd ps ks)
    (hkw : GK X kws dk) (hall : (backToKw pos (keywordEach kws X.env)).all (·.1.isSome) = true := by rfl) (hks : (backToKw pos (keywordEach kws X.env)).filterMap (·.1) = ks := by rfl)
    (hdb : (x == ("__debug__" : Str)) = false := by decide) (hpl : ((backTo pos (starEach [] X.env)).any (·.1) || (backToKw pos (keywordEach kws X.env)).any (·.1.isNone)) = false := by rfl) :
    GE X (.Call (.Name x p) [] kws pos) (dCallX n sd Ed dk) := by
  obtain ⟨tk', q, l⟩ := hkw
  have P : PE X (.Call (.Name x p) [] kws pos) (fun τ H Q => tk' τ H fun zs H2 => spX X.K n sd zs H2 Q fun cls d H => wX X.K Ed cls d [] H) := by
    refine ⟨fun pz s τ H Q I h => ?_⟩
    refine wpAny_Call_Name_kw (ld_glob I hg hm ?_ hdb)
    refine PySem.W.callWith_KW0 (h₀ := X.base) I.ok.mod.kin hk hall (thn (q.run pos pz s τ H _ I h) fun ws tB ⟨zs, H2, iB, rz, q2⟩ => ⟨iB.kIn, ?_⟩) hpl
    rw [hks]
    exact run_fnk (us := []) (vs := []) F hr hb (passX tk) iB .nil rz q2
  refine .of ⟨_, P, fun s H sd' m Qd Q rs rm h k => ?_⟩
  refine l s H sd' m _ _ rs rm h fun vs H1 ds m1 t1 rm1 r1 h1 => ?_
  exact ⟨ds, m1, Qd, Ed, r1, rm1, h1, fun v' H' dv' m' t' a b c => k v' H' dv' m' (t1.trans t') a b c, fun cls d H' fs m' a b c => ⟨fs, m', a, b, c⟩⟩
/-- C(e, ..) whose __init__ lets nothing out -/
def dMake (C : Addr) (n : Nat) (sd : SpD) (da : DA) : DE := fun s m Q => da s m fun ds m1 => ds.length + 1 = n ∧ ∀ x, m1 x = none → sd (.ref x :: ds) (mset m1 x (.ins C [])) (fun v m2 => v = .non ∧ Q (.ref x) m2)
theorem ge_make {C f : Addr} {k n : Nat} {fd : FuncData} {ps : List Str} {sd : SpD} {x : Str} {e : Expr} {es : List Expr} {da : DA} {p pos : Pos} (M : Mk X.K C f) (F : FnOk X.prog X.w X.K X.mg X.base CX0 k f fd ps (spL X.K n sd)) (hr : Room (k + 1) X.A) (hg : Gl X x) (hm : X.mg x = some (.ref C)) (hb : Binds X.K fd ps [])
    (ha : GA X (e :: es) da) (hdb : (x == ("__debug__" : Str)) = false := by decide) (he : starEach (e :: es) X.env = (false, eval e X.env) :: starEach es X.env := by rfl) (hpl : (backTo pos (starEach es X.env)).any (·.1) = false := by rfl) :
    GE X (.Call (.Name x p) (e :: es) [] pos) (dMake C n sd da) := by
  obtain ⟨ta, q, la⟩ := ha.ex
  refine .of ⟨_, pe_make (E := E0) M F hr hg hm hb .nil pass0 q hdb he hpl, fun s H sd' m Qd Q rs rm h k => ?_⟩
  refine la s H sd' m _ _ rs rm h fun vs H1 ds m1 t1 rm1 r1 h1 => fun y dx hy hdx hne => ?_
  rw [List.append_nil]
  have ty : TX H1 (upd (upd H1 dx (.own y)) y (.ins C dx [])) := (TX.new hdx).trans (.new (by rw [upd_ne hne.symm]; exact hy))
  refine ⟨.ref y :: ds, mset m1 y (.ins C []), _, .cons (.ref y) (r1.mono ty), rm1.newI hy hdx hne, ⟨h1.1, h1.2 y (rm1.fresh hy)⟩, fun v' H' dv' m' t' a b ⟨c1, c2⟩ => ?_⟩
  subst c1
  cases b
  exact ⟨rfl, k _ _ _ _ (t1.trans (ty.trans t')) a (.ref y) c2⟩
end
section
variable {P : Program} {w : World} {K : PySem.W.Frag} {mg : Str → Option Value} {base : Heap}
theorem ini_three {qual n n2 n3 : Str} {st : Stmt} {f : Addr} {fd : FuncData} (F : Fun K "__init__" qual st f fd) (S : FnScope ["self", n, n2, n3] ["self", n, n2, n3] (defScope st))
    (hb : ∀ (cdv : Value) (A : Around) (outer : List Env) (s : Shared) (H : Hp) (E : XK), PSs (cxOf CX0 P w K mg base ["self", n, n2, n3] qual (defScope st) f cdv A outer s H E).nox (defBody st) (tSeq (tOst K n (tVar 0) (tVar 1)) (tSeq (tOst K n2 (tVar 0) (tVar 2)) (tOst K n3 (tVar 0) (tVar 3))))) :
    FnOk P w K mg base CX0 1 f fd ["self", n, n2, n3] (iniSp K [n, n2, n3]) := by
  refine F.ok S (fun vs H Q E ⟨a, C, us, e, hl, _⟩ => by rw [e]; show us.length + 1 = 4; rw [hl]; rfl) fun cdv A outer s H vs Q E hr ⟨a, C, us, e, hl, T, hno, ha, q⟩ => ⟨_, hb cdv A outer s H E, ?_⟩
  subst e
  match us, hl with
  | [u, u2, u3], _ =>
    refine ⟨u, rfl, .ref a, rfl, a, C, rfl, T, hno n (by simp), .inl ⟨ha, fun d h1 h2 => ?_⟩⟩
    refine ⟨u2, rfl, .ref a, rfl, a, C, rfl, T, hno n2 (by simp), .inr ⟨d, _, upd_same, by rw [upd_ne h2, upd_same], by simp, ?_⟩⟩
    rw [upd_over h2]
    refine ⟨u3, rfl, .ref a, rfl, a, C, rfl, T, hno n3 (by simp), .inr ⟨d, _, upd_same, by rw [upd_ne h2, upd_same], by simp, ?_⟩⟩
    rw [upd_over h2]
    exact q d h1 h2
end
end PD

set_option Elab.async false
set_option linter.all false
set_option maxRecDepth 100000
set_option maxHeartbeats 4000000
/-! Dicts whose keys are tuples, the key written out as one. -/
namespace PD
open PySem PySem.Spec PyProof.Rows L2
def toKeys : List D → Option (List Key)
  | [] => some []
  | d :: ds => match toKey d, toKeys ds with
    | some k, some ks => some (k :: ks)
    | _, _ => none
theorem keys_rep {K : PySem.W.Frag} {H : Hp} : ∀ {ds : List D} {vs : List V} {ks : List Key}, RepL K H ds vs → toKeys ds = some ks → vs = ks.map kV
  | [], _, _, .nil, h => by cases h; rfl
  | d :: ds, _, _, .cons r rs, h => by
    unfold toKeys at h
    split at h
    · rename_i k ks h1 h2
      cases h
      rw [key_rep r h1, keys_rep rs h2]
      rfl
    · cases h
theorem TX.dT {H : Hp} {a : Addr} {us : List (List Key × V)} {o : HO} (h : H a = some (.dT us)) : TX H (upd H a o) := fun b u i e => by
  rw [upd_ne]
  · exact e
  · rintro rfl
    rw [h] at e; cases e; exact i.elim
theorem RM.setT {K : PySem.W.Frag} {H : Hp} {m : Mu} {p : Addr} {kvs : List (List Key × D)} {us ws : List (List Key × V)} (r : RM K H m) (h : H p = some (.dT ws)) (e1 : us.map (·.1) = kvs.map (·.1)) (q : RepL K H (kvs.map (·.2)) (us.map (·.2))) : RM K (upd H p (.dT us)) (mset m p (.dcT kvs)) := fun a o e => by
  by_cases ha : a = p
  · subst ha
    rw [mset_same] at e; cases e
    exact ⟨us, upd_same, e1, q.mono (.dT h)⟩
  · rw [mset_ne ha] at e
    refine (r a o e).tx (.dT h) fun us z => ?_
    rw [upd_ne ha]; exact z
theorem RM.newT {K : PySem.W.Frag} {H : Hp} {m : Mu} {p : Addr} (r : RM K H m) (h : H p = none) : RM K (upd H p (.dT [])) (mset m p (.dcT [])) := fun a o e => by
  by_cases ha : a = p
  · subst ha
    rw [mset_same] at e; cases e
    exact ⟨[], upd_same, rfl, .nil⟩
  · rw [mset_ne ha] at e
    exact r.skip h a o e
def dDNewT : DE := fun _ m Q => ∀ p, m p = none → Q (.ref p) (mset m p (.dcT []))
def dDGetT (dd : DE) (da : DA) : DE := fun s m Q => dd s m fun x m1 => da s m1 fun ds m2 => ds.length ≤ sizeLine ∧ ∃ a kvs ks d, x = .ref a ∧ m2 a = some (.dcT kvs) ∧ toKeys ds = some ks ∧ valD kvs ks = some d ∧ Q d m2
def dDPutT (dd : DE) (da : DA) (dv : DE) : DS := fun E s m => dv s m fun z m1 => dd s m1 fun x m2 => da s m2 fun ds m3 => ds.length ≤ sizeLine ∧ ∃ a kvs ks, x = .ref a ∧ m3 a = some (.dcT kvs) ∧ toKeys ds = some ks ∧ kvs.length < sizeLine ∧ E.nx s (mset m3 a (.dcT (putKD kvs ks z)))
section
variable {X : Cx} {o value : Expr} {es : List Expr} {pos pos' tp : Pos} {dd dv : DE} {da : DA} {kk : Nat}
theorem ge_dnewT : GE X (.Dict [] [] pos) dDNewT :=
  .of ⟨_, pe_dnewT, fun s H sd m Qd Q rs rm h k => fun p hp => k _ _ _ _ (.new hp) (rm.newT hp) (.ref p) (h p (rm.fresh hp))⟩
theorem ge_dgetT (hu : X.A.units + 1 < cLine) (ho : GE X o dd) (ha : GA X es da) (hs : NoSl (.Tuple es kk tp)) : GE X (.Subscript o (.Tuple es kk tp) pos) (dDGetT dd da) := by
  obtain ⟨td, pd, ld⟩ := ho.ex
  obtain ⟨ta, pa, la⟩ := ha.ex
  refine .of ⟨_, pe_dget hu pd (pe_tup pa) hs, fun s H sd m Qd Q rs rm h k => ?_⟩
  refine ld s H sd m _ _ rs rm h fun x H1 dx m1 t1 rm1 r1 h1 => ?_
  refine la s H1 sd m1 _ _ (rs.mono t1) rm1 h1 fun vs H2 ds m2 t2 rm2 r2 h2 => ?_
  obtain ⟨hz, a, kvs, ks, d, rfl, e2, e3, e4, h3⟩ := h2
  cases r1
  obtain ⟨us, e5, e6, r⟩ := rm2 a _ e2
  obtain ⟨v, e7, r7⟩ := (val_rep e6 r).1 d e4
  have hv := keys_rep r2 e3
  subst hv
  refine ⟨by rw [← r2.length]; exact hz, fun p hp => ?_⟩
  refine ⟨a, v, rfl, ?_, k _ _ _ _ (t1.trans (t2.trans (.new hp))) (rm2.skip hp) (r7.mono (.new hp)) h3⟩
  rw [← e7]
  exact DGet.t (by rw [upd_ne (ne_of_none e5 hp)]; exact e5) upd_same
theorem gs_dputT (hu : X.A.units + 1 < cLine) (ho : GE X o dd) (ha : GA X es da) (hv : GE X value dv) (hs : swapsWith value (some (.Subscript o (.Tuple es kk tp) pos')) pos.line X.env = pure false := by rfl) : GS X (.Assign [.Subscript o (.Tuple es kk tp) pos'] value pos) (dDPutT dd da dv) := by
  obtain ⟨td, pd, ld⟩ := ho.ex
  obtain ⟨ta, pa, la⟩ := ha.ex
  obtain ⟨tv, pv', lv⟩ := hv.ex
  refine ⟨_, ps_dput hu pd (pe_tup pa) pv' hs, fun s H sd m Ed E rs rm h k1 _ _ _ => ?_⟩
  refine lv s H sd m _ _ rs rm h fun z H1 dz m1 t1 rm1 r1 h1 => ?_
  refine ld s H1 sd m1 _ _ (rs.mono t1) rm1 h1 fun x H2 dx m2 t2 rm2 r2 h2 => ?_
  refine la s H2 sd m2 _ _ (rs.mono (t1.trans t2)) rm2 h2 fun vs H3 ds m3 t3 rm3 r3 h3 => ?_
  obtain ⟨hz, a, kvs, ks, rfl, e2, e3, hl, h4⟩ := h3
  cases r2
  obtain ⟨us, e5, e6, r⟩ := rm3 a _ e2
  have hv := keys_rep r3 e3
  subst hv
  have hlen : us.length = kvs.length := by have z := congrArg List.length e6; rwa [List.length_map, List.length_map] at z
  refine ⟨by rw [← r3.length]; exact hz, fun p hp => ?_⟩
  have e5' : (upd H3 p (.tup (ks.map kV))) a = some (.dT us) := by rw [upd_ne (ne_of_none e5 hp)]; exact e5
  have tn : TX H3 (upd H3 p (.tup (ks.map kV))) := .new hp
  have pr := putK_rep (k := ks) e6 (r.mono tn) ((r1.mono (t2.trans t3)).mono tn)
  exact ⟨a, _, rfl, DPut.t e5' upd_same (by omega), k1 _ _ _ _ (t1.trans (t2.trans (t3.trans (tn.trans (.dT e5'))))) ((rs.mono (t1.trans (t2.trans (t3.trans tn)))).mono (.dT e5')) ((rm3.skip hp).setT e5' pr.1 pr.2) h4⟩
end
end PD

set_option Elab.async false
set_option linter.all false
set_option maxRecDepth 100000
set_option maxHeartbeats 4000000
/-! d.get(k, x). -/
namespace PD
open PySem PySem.Spec PyProof.Rows L2
def dDGet2 (dd dk dx : DE) : DE := fun s m Q => dd s m fun x m1 => ∃ a, x = .ref a ∧ (∃ kvs, m1 a = some (.dct kvs)) ∧ dk s m1 fun y m2 => dx s m2 fun z m3 => ∃ kvs k, m3 a = some (.dct kvs) ∧ toKey y = some k ∧ Q ((valD kvs k).getD z) m3
section
variable {X : Cx} {o e f : Expr} {apos cpos : Pos} {dd dk dx : DE}
theorem ge_dget2 (hu : X.A.units + 1 < cLine) (ho : GE X o dd) (he : GE X e dk) (hf : GE X f dx) (m : M2 X o "get" apos e f cpos) : GE X (.Call (.Attribute o "get" apos) [e, f] [] cpos) (dDGet2 dd dk dx) := by
  obtain ⟨td, pd, ld⟩ := ho.ex
  obtain ⟨te, pe, le⟩ := he.ex
  obtain ⟨tf, pf, lf⟩ := hf.ex
  refine .of ⟨_, pe_dget2 hu pd pe pf m, fun s H sd m Qd Q rs rm h k => ?_⟩
  refine ld s H sd m _ _ rs rm h fun x H1 dx1 m1 t1 rm1 r1 h1 => ?_
  obtain ⟨a, rfl, ⟨kvs0, e0⟩, h2⟩ := h1
  cases r1
  obtain ⟨us0, e1, _⟩ := rm1 a _ e0
  refine ⟨a, rfl, .inl ⟨us0, .inl e1⟩, ?_⟩
  refine le s H1 sd m1 _ _ (rs.mono t1) rm1 h2 fun y H2 dy m2 t2 rm2 r2 h3 => ?_
  refine lf s H2 sd m2 _ _ (rs.mono (t1.trans t2)) rm2 h3 fun z H3 dz m3 t3 rm3 r3 h4 => ?_
  obtain ⟨kvs, kk, e2, e3, h5⟩ := h4
  obtain ⟨us, e5, e6, r⟩ := rm3 a _ e2
  have hy := key_rep (r2.mono t3) e3
  subst hy
  refine ⟨_, DGet.k e5, k _ _ _ _ (t1.trans (t2.trans t3)) rm3 ?_ h5⟩
  have z := val_rep (k := kk) e6 r
  cases q : valD kvs kk with
  | none => rw [z.2 q]; exact r3
  | some d => obtain ⟨v, e7, r7⟩ := z.1 d q; rw [e7]; exact r7
end
end PD

set_option Elab.async false
set_option linter.all false
set_option maxRecDepth 100000
set_option maxHeartbeats 4000000
/-! Lists that are finished become values; orders, min, max, sorted of plain data. -/
namespace PD
open PySem PySem.Spec PyProof.Rows L2
/-! ### finished lists -/
def mdel (m : Mu) (a : Addr) : Mu := fun b => if b = a then none else m b
theorem mdel_ne {m : Mu} {a b : Addr} (h : b ≠ a) : mdel m a b = m b := by unfold mdel; rw [if_neg h]
theorem mdel_sub (m : Mu) (a : Addr) : Sub (mdel m a) m := fun b o e => by
  unfold mdel at e
  split at e
  · cases e
  · exact e
theorem RM.frz {K : PySem.W.Frag} {H : Hp} {m : Mu} {p : Addr} {vs : List V} {od : Obj} (r : RM K H m) (h : H p = some (.lst vs)) : RM K (upd H p (.frz od (.lst vs))) (mdel m p) := fun a o e => by
  by_cases ha : a = p
  · subst ha; unfold mdel at e; rw [if_pos rfl] at e; cases e
  · rw [mdel_ne ha] at e
    refine (r a o e).tx (.lst h) fun us z => ?_
    rw [upd_ne ha]; exact z
def tFrz (t : TE) : TE := fun σ H Q => t σ H fun x H1 => Q x H1 ∨ ∃ p vs, x = .ref p ∧ H1 p = some (.lst vs) ∧ ∀ od, Q x (upd H1 p (.frz od (.lst vs)))
section
variable {X : Cx}
theorem pe_frz {e : Expr} {t : TE} (h : PE X e t) : PE X e (tFrz t) := by
  refine ⟨fun pins s σ H Q I hw => ?_⟩
  refine thn (h.run pins s σ H _ I hw) fun v s1 ⟨x, H1, I1, r, q⟩ => ?_
  rcases q with q | ⟨p, vs, rfl, hp, q⟩
  · exact ⟨x, H1, I1, r, q⟩
  · obtain ⟨od, I2⟩ := I1.lock hp trivial
    exact ⟨_, _, I2, r, q od⟩
def dFrzV (x : D) (m1 : Mu) (Q : DK) : Prop := match x with
  | .ref p => ∃ ds, m1 p = some (.lst ds) ∧ Q (.rol ds) (mdel m1 p)
  | x => Q x m1
def dFrz (d : DE) : DE := fun s m Q => d s m fun x m1 => dFrzV x m1 Q
theorem ge_frz {e : Expr} {d : DE} (h : GE X e d) : GE X e (dFrz d) := by
  obtain ⟨t, p, l⟩ := h.ex
  refine .of ⟨_, pe_frz p, fun s H sd m Qd Q rs rm h k => ?_⟩
  refine l s H sd m _ _ rs rm h fun v H1 dv m1 t1 rm1 r1 h1 => ?_
  cases r1 with
  | ref p =>
    obtain ⟨ds, e1, q⟩ := h1
    obtain ⟨vs, e2, r2⟩ := rm1 p _ e1
    exact .inr ⟨p, vs, rfl, e2, fun od => k _ _ _ _ (t1.trans (.lst e2)) (rm1.frz e2) (.rol (.inl ⟨od, upd_same⟩) (r2.mono (.lst e2))) q⟩
  | non => exact .inl (k _ _ _ _ t1 rm1 .non h1)
  | bl b => exact .inl (k _ _ _ _ t1 rm1 (.bl b) h1)
  | int i => exact .inl (k _ _ _ _ t1 rm1 (.int i) h1)
  | str z => exact .inl (k _ _ _ _ t1 rm1 (.str z) h1)
  | tup s r => exact .inl (k _ _ _ _ t1 rm1 (.tup s r) h1)
  | rol s r => exact .inl (k _ _ _ _ t1 rm1 (.rol s r) h1)
  | dic e n r => exact .inl (k _ _ _ _ t1 rm1 (.dic e n r) h1)
  | dicT e n r => exact .inl (k _ _ _ _ t1 rm1 (.dicT e n r) h1)
  | obj e n r => exact .inl (k _ _ _ _ t1 rm1 (.obj e n r) h1)
/-! ### lists, finished or not -/
def lsq (m : Mu) : D → Option (List D)
  | .rol ds => some ds
  | .ref a => match m a with | some (.lst ds) => some ds | _ => none
  | _ => none
theorem lsq_rep {K : PySem.W.Frag} {H : Hp} {m : Mu} {d : D} {v : V} {ds : List D} (rm : RM K H m) (r : Rep K H d v) (h : lsq m d = some ds) : ∃ a vs, v = .ref a ∧ SqL K H a vs ∧ RepL K H ds vs := by
  cases r with
  | rol s q => unfold lsq at h; cases h; exact ⟨_, _, rfl, s.sq, q⟩
  | ref a =>
    unfold lsq at h
    cases e : m a with
    | none => simp only [e] at h; cases h
    | some o =>
      have q := rm a o e
      cases o with
      | lst es => simp only [e] at h; cases h; obtain ⟨vs, e2, r⟩ := q; exact ⟨a, vs, rfl, SqL.of e2, r⟩
      | _ => simp only [e] at h; cases h
  | _ => unfold lsq at h; cases h
theorem lsq_rol {m : Mu} {ds : List D} : lsq m (.rol ds) = some ds := rfl
theorem lsq_ref {m : Mu} {a : Addr} {ds : List D} (h : m a = some (.lst ds)) : lsq m (.ref a) = some ds := by unfold lsq; simp only [h]
/-- list + list -/
def rCatL (K : PySem.W.Frag) : R2 := fun x y H Q => ∃ l b xs zs, x = .ref l ∧ y = .ref b ∧ SqL K H l xs ∧ SqL K H b zs ∧ xs.length + zs.length ≤ sizeLine ∧ ∀ p, H p = none → Q (.ref p) (upd H p (.lst (xs ++ zs)))
theorem op_catL : OpR X (binaryOp .Add) (rCatL X.K) := by
  intro pins s σ H x y v u Q I rx ry h
  obtain ⟨l, b, xs, zs, rfl, rfl, hH, hB, hz, q⟩ := h
  cases rx
  cases ry
  obtain ⟨its, r, p1, hl⟩ := I.list hH
  obtain ⟨its2, r2, p2, hl2⟩ := I.list hB
  obtain ⟨⟨cls, dd, data, sl⟩, n, ho, hc, hdd, hd⟩ := p1
  obtain ⟨⟨cls2, dd2, data2, sl2⟩, n2, ho2, hc2, hdd2, hd2⟩ := p2
  simp only at hc hd hc2 hd2
  subst hc hd hc2 hd2
  have ea : its.toArray ++ its2.toArray = (its ++ its2).toArray := by simp
  have hz2 : its.toArray.size + its2.toArray.size ≤ sizeLine := by
    have z1 := r.length
    have z2 := r2.length
    simp only [List.size_toArray]; omega
  refine PySem.concat_meets ⟨_, ho, rfl⟩ ⟨_, ho2, rfl⟩ PySem.noFill_list_add PySem.seq_list_add PySem.F.slot_list_add PySem.F.entry_list_add (PySem.F.args_list_add_2 _ _) (list_addW l b its.toArray its2.toArray n n2 dd dd2 sl sl2 hz2) ⟨ho, ho2, ?_⟩
  rw [ea]
  exact ⟨.ref _, _, I.lnew (t' := s.toks) (r.append r2) (by rw [List.length_append]; omega), rfl, q _ I.fresh⟩
def dAddL : D2 := fun x y m Q => match x, y with
  | .int i, .int j => Q (.int (i + j)) m
  | .str i, .str j => i.length + j.length ≤ sizeLine ∧ Q (.str (i ++ j)) m
  | .tup a, .tup b => a.length + b.length ≤ sizeLine ∧ Q (.tup (a ++ b)) m
  | x, y => ∃ xs ys, lsq m x = some xs ∧ lsq m y = some ys ∧ xs.length + ys.length ≤ sizeLine ∧ ∀ p, m p = none → Q (.ref p) (mset m p (.lst (xs ++ ys)))
def rAddL (K : PySem.W.Frag) : R2 := fun x y H Q => rAddU K x y H Q ∨ rCatL K x y H Q
theorem op_addL : OpR X (binaryOp .Add) (rAddL X.K) := op_addU.or op_catL
theorem lr_addL {K : PySem.W.Frag} : LR K (rAddL K) dAddL := fun x y H dx dy m Qd Q rm rx ry h k => by
  have go : (∃ xs ys, lsq m dx = some xs ∧ lsq m dy = some ys ∧ xs.length + ys.length ≤ sizeLine ∧ ∀ p, m p = none → Qd (.ref p) (mset m p (.lst (xs ++ ys)))) → rAddL K x y H Q := by
    rintro ⟨xs, ys, h1, h2, hz, h⟩
    obtain ⟨a, vs, rfl, s1, r1⟩ := lsq_rep rm rx h1
    obtain ⟨b, ws, rfl, s2, r2⟩ := lsq_rep rm ry h2
    exact .inr ⟨a, b, vs, ws, rfl, rfl, s1, s2, by rw [← r1.length, ← r2.length]; exact hz, fun p hp => k _ _ _ _ (.new hp) (rm.newL hp (r1.append r2)) (.ref p) (h p (rm.fresh hp))⟩
  by_cases hi : (∃ i j, dx = .int i ∧ dy = .int j) ∨ (∃ i j, dx = .str i ∧ dy = .str j) ∨ ∃ i j, dx = .tup i ∧ dy = .tup j
  · refine .inl (lr_add x y H dx dy m Qd Q rm rx ry ?_ k)
    rcases hi with ⟨i, j, rfl, rfl⟩ | ⟨i, j, rfl, rfl⟩ | ⟨i, j, rfl, rfl⟩ <;> exact h
  · refine go ?_
    unfold dAddL at h
    split at h
    · exact absurd (.inl ⟨_, _, rfl, rfl⟩) hi
    · exact absurd (.inr (.inl ⟨_, _, rfl, rfl⟩)) hi
    · exact absurd (.inr (.inr ⟨_, _, rfl, rfl⟩)) hi
    · exact h
/-! list * int, of a list just made -/
def dMulL : D2 := fun x y m Q => match x, y with
  | .int i, .int j => CMul i j ∧ Q (.int (i * j)) m
  | .str z, .int n => 0 ≤ n ∧ n ≤ 1000 ∧ z.length ≤ 1000 ∧ Q (.str (repS z n.toNat)) m
  | .ref a, .int n => ∃ xs, m a = some (.lst xs) ∧ -(2 ^ 63) ≤ n ∧ n < 2 ^ 63 ∧ xs.length * n.toNat ≤ sizeLine ∧ ∀ p, m p = none → Q (.ref p) (mset m p (.lst (List.replicate n.toNat xs).flatten))
  | _, _ => False
def rMulL : R2 := fun x y H Q => rMulU x y H Q ∨ rRep x y H Q
theorem op_mulL : OpR X (binaryOp .Mult) rMulL := op_mulU.or op_rep
theorem RepL.repl {K : PySem.W.Frag} {H : Hp} {ds : List D} {vs : List V} (r : RepL K H ds vs) : ∀ n : Nat, RepL K H (List.replicate n ds).flatten (List.replicate n vs).flatten
  | 0 => .nil
  | n + 1 => by rw [List.replicate_succ, List.replicate_succ, List.flatten_cons, List.flatten_cons]; exact r.append (RepL.repl r n)
theorem lr_mulL {K : PySem.W.Frag} : LR K rMulL dMulL := fun x y H dx dy m Qd Q rm rx ry h k => by
  cases rx with
  | int i =>
    cases ry with
    | int j => exact .inl (.inl ⟨i, j, rfl, rfl, h.1, k _ H _ m (.refl H) rm (.int _) h.2⟩)
    | _ => exact h.elim
  | str i =>
    cases ry with
    | int j => exact .inl (.inr ⟨i, j, rfl, rfl, h.1, h.2.1, h.2.2.1, k _ H _ m (.refl H) rm (.str _) h.2.2.2⟩)
    | _ => exact h.elim
  | ref a =>
    cases ry with
    | int j =>
      obtain ⟨xs, e, h1, h2, h3, h4⟩ := h
      obtain ⟨vs, e2, r⟩ := rm a _ e
      exact .inr ⟨a, j, vs, rfl, rfl, e2, h1, h2, by rw [← r.length]; exact h3, fun p hp => k _ _ _ _ (.new hp) (rm.newL hp (r.repl _)) (.ref p) (h4 p (rm.fresh hp))⟩
    | _ => exact h.elim
  | _ => exact h.elim
/-! slices of finished lists too -/
def dSlL (de : DE) (dl dh : DO) : DE := fun s m Q => de s m fun x m1 => dl s m1 fun lo m2 => dh s m2 fun hi m3 => match x with
  | .tup ds => Q (.tup (cutD ds lo hi)) m3
  | x => ∃ ds, lsq m3 x = some ds ∧ ∀ p, m3 p = none → Q (.ref p) (mset m3 p (.lst (cutD ds lo hi)))
theorem ge_sliceL {e : Expr} {lo hi : Option Expr} {pos p2 : Pos} {de : DE} {dl dh : DO} (he : GE X e de) (hl : GO X lo dl) (hh : GO X hi dh) : GE X (.Subscript e (.Slice lo hi none p2) pos) (dSlL de dl dh) := by
  obtain ⟨te, p, l⟩ := he.ex
  obtain ⟨tl, q, l2⟩ := hl.ex
  obtain ⟨th, q2, l3⟩ := hh.ex
  refine .of ⟨_, pe_slice (sl_tupA.or sl_list) p q q2, fun s H sd m Qd Q rs rm h k => ?_⟩
  refine l s H sd m _ _ rs rm h fun v H1 dv m1 t1 rm1 r1 h1 => ?_
  refine l2 s H1 sd m1 _ _ (rs.mono t1) rm1 h1 fun lo H2 m2 t2 rm2 h2 => ?_
  refine l3 s H2 sd m2 _ _ (rs.mono (t1.trans t2)) rm2 h2 fun hi H3 m3 t3 rm3 h3 => ?_
  have r3 := r1.mono (t2.trans t3)
  have t13 := t1.trans (t2.trans t3)
  by_cases ht : ∃ ds, dv = .tup ds
  · obtain ⟨ds, rfl⟩ := ht
    cases r3 with
    | @tup ds a vs sa ra =>
      refine .inl ⟨a, vs, rfl, sa, fun e => ?_, fun e p hp => ?_⟩
      · have e2 : cutD ds lo hi = ds := by
          unfold cutD
          rw [ra.length, e.1, e.2, List.drop_zero, Nat.sub_zero, ← ra.length, List.take_length]
        have h4 : Qd (.tup (cutD ds lo hi)) m3 := h3
        rw [e2] at h4
        exact k _ H3 _ m3 t13 rm3 (.tup sa ra) h4
      · exact k _ _ _ m3 (t13.trans (.new hp)) (rm3.skip hp) (.tup upd_same ((ra.cut lo hi).mono (.new hp))) h3
  · have h4 : ∃ ds, lsq m3 dv = some ds ∧ ∀ p, m3 p = none → Qd (.ref p) (mset m3 p (.lst (cutD ds lo hi))) := by
      split at h3
      · exact absurd ⟨_, rfl⟩ ht
      · exact h3
    obtain ⟨ds, e, q⟩ := h4
    obtain ⟨a, vs, rfl, sl, r⟩ := lsq_rep rm3 r3 e
    exact .inr ⟨a, vs, rfl, sl, fun p hp => k _ _ _ _ (t13.trans (.new hp)) (rm3.newL hp (r.cut lo hi)) (.ref p) (q p (rm3.fresh hp))⟩
/-! ### orders of plain data -/
def ltP (x y : D) : Bool := match toP x, toP y with
  | some p, some q => PySem.W.dataLt p q
  | _, _ => false
/-- both can be asked which is less -/
def ordP (x y : D) : Prop := ∃ p q, toP x = some p ∧ toP y = some q ∧ PySem.W.alike p q = true ∧ p ≠ .none ∧ min p.depth q.depth ≤ 60
def rLtS (K : PySem.W.Frag) (f : PyData → PyData → Bool) : R2 := fun x y H Q => ∃ p q, Dp K H x p ∧ Dp K H y q ∧ PySem.W.alike p q = true ∧ p ≠ .none ∧ min p.depth q.depth ≤ 60 ∧ Q (.bl (f p q)) H
theorem op_ltS (hu : X.A.units + 64 < cLine) : OpR X (compareOp .Lt) (rLtS X.K fun p q => PySem.W.dataLt p q) := fun pz s τ H x y v u Q I rx ry ⟨p, q, hp, hq, al, hn, hd, h⟩ => by
  obtain ⟨as, r1⟩ := Dp.reads I _ _ v hp rx
  obtain ⟨bs, r2⟩ := Dp.reads I _ _ u hq ry
  exact PySem.W.lt_data r1 r2 al hn (by omega) ⟨.bl _, H, I, rfl, h⟩
theorem op_gtS (hu : X.A.units + 64 < cLine) : OpR X (compareOp .Gt) (rLtS X.K fun p q => PySem.W.dataLt q p) := fun pz s τ H x y v u Q I rx ry ⟨p, q, hp, hq, al, hn, hd, h⟩ => by
  obtain ⟨as, r1⟩ := Dp.reads I _ _ v hp rx
  obtain ⟨bs, r2⟩ := Dp.reads I _ _ u hq ry
  exact PySem.W.gt_data r1 r2 al hn (by omega) ⟨.bl _, H, I, rfl, h⟩
theorem op_leS (hu : X.A.units + 64 < cLine) : OpR X (compareOp .LtE) (rLtS X.K fun p q => !PySem.W.dataLt q p) := fun pz s τ H x y v u Q I rx ry ⟨p, q, hp, hq, al, hn, hd, h⟩ => by
  obtain ⟨as, r1⟩ := Dp.reads I _ _ v hp rx
  obtain ⟨bs, r2⟩ := Dp.reads I _ _ u hq ry
  exact PySem.W.le_data r1 r2 al hn (by omega) ⟨.bl _, H, I, rfl, h⟩
def dLtS (f : D → D → Bool) : D2 := fun x y m Q => ordP x y ∧ Q (.bl (f x y)) m
theorem lr_ltS {K : PySem.W.Frag} {f : PyData → PyData → Bool} {g : D → D → Bool} (hg : ∀ x y p q, toP x = some p → toP y = some q → g x y = f p q) : LR K (rLtS K f) (dLtS g) := fun x y H dx dy m Qd Q rm rx ry ⟨⟨p, q, e1, e2, al, hn, hd⟩, h⟩ k =>
  ⟨p, q, rx.dp e1, ry.dp e2, al, hn, hd, by rw [← hg _ _ _ _ e1 e2]; exact k _ H _ m (.refl H) rm (.bl _) h⟩
theorem ltP_eq {x y : D} {p q : PyData} (e1 : toP x = some p) (e2 : toP y = some q) : ltP x y = PySem.W.dataLt p q := by unfold ltP; rw [e1, e2]
theorem lr_ltP {K : PySem.W.Frag} : LR K (rLtS K fun p q => PySem.W.dataLt p q) (dLtS ltP) := lr_ltS fun _ _ _ _ e1 e2 => ltP_eq e1 e2
theorem lr_gtP {K : PySem.W.Frag} : LR K (rLtS K fun p q => PySem.W.dataLt q p) (dLtS fun x y => ltP y x) := lr_ltS fun _ _ _ _ e1 e2 => ltP_eq e2 e1
theorem lr_leP {K : PySem.W.Frag} : LR K (rLtS K fun p q => !PySem.W.dataLt q p) (dLtS fun x y => !ltP y x) := lr_ltS fun _ _ _ _ e1 e2 => by rw [ltP_eq e2 e1]
theorem ordP_i (i j : Int) : ordP (.int i) (.int j) := ⟨.int i, .int j, rfl, rfl, rfl, (fun z => by cases z), by show min 0 0 ≤ 60; decide⟩
theorem ordP_s (i j : Str) : ordP (.str i) (.str j) := ⟨.str i, .str j, rfl, rfl, rfl, (fun z => by cases z), by show min 0 0 ≤ 60; decide⟩
theorem ltP_i (i j : Int) : ltP (.int i) (.int j) = decide (i < j) := PySem.W.dataLt_int i j
theorem ltP_s (i j : Str) : ltP (.str i) (.str j) = decide (i.cps.toList < j.cps.toList) := PySem.W.dataLt_str i j
theorem dLtS_i {f : D → D → Bool} {i j : Int} {m : Mu} {Q : DK} : dLtS f (.int i) (.int j) m Q = Q (.bl (f (.int i) (.int j))) m := propext ⟨fun h => h.2, fun h => ⟨ordP_i i j, h⟩⟩
theorem dLtS_s {f : D → D → Bool} {i j : Str} {m : Mu} {Q : DK} : dLtS f (.str i) (.str j) m Q = Q (.bl (f (.str i) (.str j))) m := propext ⟨fun h => h.2, fun h => ⟨ordP_s i j, h⟩⟩
/-! x in xs, of plain data -/
def eqP (x y : D) : Bool := match toP x, toP y with
  | some p, some q => PyData.eqv p q
  | _, _ => false
def inP (x : D) (ds : List D) : Bool := ds.any fun y => eqP y x
def rInP (K : PySem.W.Frag) (neg : Bool) : R2 := fun x y H Q => ∃ (p : PyData) (ps : List PyData), Dp K H x p ∧ (Dp K H y (.list ps) ∨ Dp K H y (.tuple ps)) ∧ PyData.plainAll ps = true ∧ p.plain = true ∧ min (PyData.depthAll ps) p.depth ≤ 60 ∧ Q (.bl (if neg then !ps.any fun z => PyData.eqv z p else ps.any fun z => PyData.eqv z p)) H
theorem op_inP (hu : X.A.units + 64 < cLine) : OpR X (compareOp .In) (rInP X.K false) := fun pz s τ H x y v u Q I rx ry ⟨p, ps, hp, hq, h1, h2, hd, h⟩ => by
  obtain ⟨as, r1⟩ := Dp.reads I _ _ v hp rx
  rcases hq with hq | hq
  · obtain ⟨bs, r2⟩ := Dp.reads I _ _ u hq ry
    exact PySem.SeqAt.in_list_data r2 r1 h1 h2 (by omega) ⟨.bl _, H, I, rfl, h⟩
  · obtain ⟨bs, r2⟩ := Dp.reads I _ _ u hq ry
    exact PySem.SeqAt.in_tuple_data r2 r1 h1 h2 (by omega) ⟨.bl _, H, I, rfl, h⟩
theorem op_notInP (hu : X.A.units + 64 < cLine) : OpR X (compareOp .NotIn) (rInP X.K true) := fun pz s τ H x y v u Q I rx ry ⟨p, ps, hp, hq, h1, h2, hd, h⟩ => by
  obtain ⟨as, r1⟩ := Dp.reads I _ _ v hp rx
  rcases hq with hq | hq
  · obtain ⟨bs, r2⟩ := Dp.reads I _ _ u hq ry
    exact PySem.SeqAt.notIn_list_data r2 r1 h1 h2 (by omega) ⟨.bl _, H, I, rfl, h⟩
  · obtain ⟨bs, r2⟩ := Dp.reads I _ _ u hq ry
    exact PySem.SeqAt.notIn_tuple_data r2 r1 h1 h2 (by omega) ⟨.bl _, H, I, rfl, h⟩
end
end PD

set_option Elab.async false
set_option linter.all false
set_option maxRecDepth 100000
set_option maxHeartbeats 4000000
/-! sorted, min, max, sum of lists and tuples of plain data -/
namespace PySem.W
open PySem PySem.Calls PyProof.Rows
section
variable {prog : Program} {w : World} {A : Around} {E : Value → Shared → Prop} {s : Shared} {β : Type} {R : Value → β → Prop} {enc : β → PyData} {vs : List Value} {bs : List β}
theorem pd_sorted_seq {it : Addr} {T : String} {o : Obj} {n : Nat} {Q : Value → Shared → Prop} (hT : T = "list" ∨ T = "tuple") (ho : s.heap.get? it = some o) (hc : o.cls = .type T) (hd : o.data = .seq vs.toArray n)
    (e : EachIs R vs bs) (er : EachIs (fun v b => ∃ as, Reads s.heap v (enc b) as) vs bs) (hal : AllAlike (bs.map enc)) (hk : Sortable (bs.map enc)) (hL : bs.length ≤ sizeLine) (hu : ∀ b, b ∈ bs → A.units + 2 + (enc b).depth < cLine)
    (h : ∀ (out : List Value) (p : Addr) (c : Nat) (h1 h' : Heap), out.length = bs.length → EachIs R out (bs.mergeSort (dataLe false enc)) → (∀ b u, s.heap.get? b = some u → h1.get? b = some u) → (∀ b u, h1.get? b = some u → h'.get? b = some u) → h1.objs.size ≤ p → h'.get? p = some (seqObj "list" out.toArray c) → Q (.ref p) { s with heap := h' }) :
    wpAny (model prog w) A (call (.builtin "sorted") [.ref it]) Q E s := by
  have hLv : vs.length ≤ sizeLine := by rw [e.length]; exact hL
  refine call_function_entry_kw kind_sorted plain_sorted entry_sorted (args_sorted1 _) ?_
  unfold Builtin.«sorted»
  refine wpAny_bind (m := checkCount "sorted" 1 1 _) (wpAny_pure ?_)
  refine wpAny_bind (wpAny_collect_seq it hT ho hc hd (fun h1 k1 => ?_) (by rw [List.size_toArray]; exact hLv))
  rw [show vs.toArray.toList = vs from rfl]
  refine wpAny_bind (wpAny_newList ?_ hLv)
  have hoL : (h1.push (seqObj "list" vs.toArray 0)).get? h1.objs.size = some (seqObj "list" vs.toArray 0) := Heap.get?_push_size _ rfl
  have k2 : ∀ b u, s.heap.get? b = some u → (sortingHeap (h1.push (seqObj "list" vs.toArray 0)) h1.objs.size vs).get? b = some u := fun b u q => by
    have q1 := k1 b u q
    have hlt := Heap.lt_size q1
    exact sortingHeap_old (Nat.ne_of_lt hlt) (Heap.get?_push_of_some _ q1)
  have er' : EachIs (fun v b => ∃ as, Reads (sortingHeap (h1.push (seqObj "list" vs.toArray 0)) h1.objs.size vs) v (enc b) as) vs bs := er.mono fun _ _ ⟨as, r⟩ => ⟨as, PyProof.Rows.Reads.keeps k2 r⟩
  have S : SortsAt prog w A.in1.in1 { s with heap := sortingHeap (h1.push (seqObj "list" vs.toArray 0)) h1.objs.size vs } (dataKind (sortingHeap (h1.push (seqObj "list" vs.toArray 0)) h1.objs.size vs) (bs.map enc)) vs :=
    SortsAt.data (s := { s with heap := sortingHeap (h1.push (seqObj "list" vs.toArray 0)) h1.objs.size vs }) (each_map (R := fun v d => ∃ as, Reads (sortingHeap (h1.push (seqObj "list" vs.toArray 0)) h1.objs.size vs) v d as) enc er') hal hk (bound_map hu)
  refine wpAny_bind (wpAny_holding (wpAny_call_entry_kw slot_list_sort ⟨_, hoL, rfl⟩ entry_list_sort ?body (args_list_sort _)))
  case body =>
    refine list_sort_vals (s := { s with heap := h1.push (seqObj "list" vs.toArray 0) }) (n := 0) hoL S hLv ⟨_, rfl, wpAny_pure ⟨_, rfl, ?_⟩⟩
    obtain ⟨c, hc⟩ := sortedHeap_at (vs := vs) (out := (sortVals (dataKind (sortingHeap (h1.push (seqObj "list" vs.toArray 0)) h1.objs.size vs) (bs.map enc)) false vs vs).toArray) hoL
    refine h _ h1.objs.size c h1 _ (by rw [sortVals_length false rfl]; exact e.length) (sortVals_data false e er' hal) k1 (fun b u q => ?_) (Nat.le_refl _) hc
    have hlt := Heap.lt_size q
    rw [sortedHeap_old (Nat.ne_of_lt hlt) (by rw [size_push']; exact Nat.lt_succ_of_lt hlt)]
    exact Heap.get?_push_of_some _ q
theorem pd_minD_mem : ∀ (xs : List PyData) (x : PyData), minD x xs ∈ x :: xs
  | [], x => List.mem_cons_self ..
  | y :: ys, x => by
    have q : minD x (y :: ys) = minD (if dataLt y x then y else x) ys := rfl
    rw [q]
    rcases List.mem_cons.mp (pd_minD_mem ys (if dataLt y x then y else x)) with z | z
    · rw [z]; split <;> simp
    · exact List.mem_cons_of_mem _ (List.mem_cons_of_mem _ z)
theorem pd_maxD_mem : ∀ (xs : List PyData) (x : PyData), maxD x xs ∈ x :: xs
  | [], x => List.mem_cons_self ..
  | y :: ys, x => by
    have q : maxD x (y :: ys) = maxD (if dataLt x y then y else x) ys := rfl
    rw [q]
    rcases List.mem_cons.mp (pd_maxD_mem ys (if dataLt x y then y else x)) with z | z
    · rw [z]; split <;> simp
    · exact List.mem_cons_of_mem _ (List.mem_cons_of_mem _ z)
end
end PySem.W
namespace PD
open PySem PySem.Spec PyProof.Rows L2
open PySem.W (EachIs AllAlike Sortable dataLe AlikeAll minD maxD)
/-! a value of the machine stands for plain data -/
def RD (K : PySem.W.Frag) (H : Hp) (u : Value) (d : D) : Prop := ∃ x : V, RelV x u ∧ Rep K H d x
def encP (d : D) : PyData := (toP d).getD .none
def leP (a b : D) : Bool := !ltP b a
/-- all have data -/
def datL (ds : List D) : Prop := ∀ d ∈ ds, (toP d).isSome
section
variable {X : Cx}
theorem each_of {K : PySem.W.Frag} {H : Hp} : ∀ {ds : List D} {vs : List V} {us : List Value}, RepL K H ds vs → Vals vs us → EachIs (RD K H) us ds
  | _, _, _, .nil, .nil => .nil
  | _, _, _, .cons r t, .cons a b => .cons ⟨_, a, r⟩ (each_of t b)
theorem of_each {K : PySem.W.Frag} {H : Hp} : ∀ {ds : List D} {us : List Value}, EachIs (RD K H) us ds → ∃ vs, RepL K H ds vs ∧ Vals vs us
  | _, _, .nil => ⟨[], .nil, .nil⟩
  | _, _, .cons ⟨x, a, r⟩ t => let ⟨vs, b, c⟩ := of_each t; ⟨x :: vs, .cons r b, .cons a c⟩
theorem encP_some {d : D} (h : (toP d).isSome) : toP d = some (encP d) := by
  unfold encP
  cases e : toP d with
  | none => rw [e] at h; cases h
  | some p => rfl
theorem each_reads {pz : List (Addr × Obj)} {τ : L2.St} {H : Hp} {s : Shared} (I : Inv X pz τ H s) : ∀ {ds : List D} {us : List Value}, datL ds → EachIs (RD X.K H) us ds → EachIs (fun v b => ∃ as, Reads s.heap v (encP b) as) us ds
  | _, _, _, .nil => .nil
  | _, _, h, .cons ⟨x, a, r⟩ t => .cons (Dp.reads I _ _ _ (r.dp (encP_some (h _ (List.mem_cons_self ..)))) a) (each_reads I (fun d hd => h d (List.mem_cons_of_mem _ hd)) t)
/-- what sorted, min and max ask of the items -/
structure OrdL (ds : List D) : Prop where
  dat : datL ds
  al : ∀ x ∈ ds, ∀ y ∈ ds, PySem.W.alike (encP x) (encP y) = true
  dep : ∀ x ∈ ds, (encP x).depth ≤ 50
theorem OrdL.all {ds : List D} (h : OrdL ds) : AllAlike (ds.map encP) := fun d hd d' hd' => by
  obtain ⟨x, hx, rfl⟩ := List.mem_map.mp hd
  obtain ⟨y, hy, rfl⟩ := List.mem_map.mp hd'
  exact h.al x hx y hy
def rSortS (K : PySem.W.Frag) : List V → Hp → VK → Prop := fun vs H Q => ∃ (a : Addr) (xs : List V) (ds : List D), vs = [V.ref a] ∧ (SqL K H a xs ∨ SqT K H a xs) ∧ RepL K H ds xs ∧ OrdL ds ∧ Sortable (ds.map encP) ∧
  ∀ ys p, RepL K H (ds.mergeSort (dataLe false encP)) ys → H p = none → Q (.ref p) (upd H p (.lst ys))
theorem cr_sortS (hu : X.A.units + 64 < cLine) : CallR X (.builtin "sorted") (rSortS X.K) := by
  intro pins s σ H vs us Q I r h
  obtain ⟨a, xs, ds, rfl, hs, rep, ord, srt, q⟩ := h
  rw [Vals.ref1 r]
  obtain ⟨its, rv, hz, T, hT, o, n, ho, hc, hd⟩ : ∃ its : List Value, Vals xs its ∧ xs.length ≤ sizeLine ∧ ∃ T, (T = "list" ∨ T = "tuple") ∧ ∃ (o : Obj) (n : Nat), s.heap.get? a = some o ∧ o.cls = .type T ∧ o.data = .seq its.toArray n := by
    rcases hs with hs | hs
    · obtain ⟨its, rv, ⟨o, n, ho, hc, _, hd⟩, hz⟩ := I.list hs
      exact ⟨its, rv, hz, "list", .inl rfl, o, n, ho, hc, hd⟩
    · obtain ⟨its, rv, ⟨o, ho, hc, n, hd⟩, hz⟩ := I.tuple hs
      exact ⟨its, rv, hz, "tuple", .inr rfl, o, n, ho, hc, hd⟩
  have e := each_of rep rv
  refine PySem.W.pd_sorted_seq (enc := encP) hT ho hc hd e (each_reads I ord.dat e) ord.all srt (by rw [rep.length]; exact hz) (fun b hb => by have := ord.dep b hb; omega) fun out p c h1 h' hl he k1 k2 hp hg => ?_
  obtain ⟨ys, ry, vy⟩ := of_each he
  have I1 : Inv X pins σ H { s with heap := h1, toks := s.toks } := I.kept k1
  have hn : H p = none := I1.hok.fresh hp
  have hlen : ys.length ≤ sizeLine := by
    rw [← ry.length, List.length_mergeSort, rep.length]; exact hz
  exact ⟨.ref p, upd H p (.lst ys), I1.laid (t' := s.toks) k2 hp ⟨hlen, out, c, vy, hg⟩, rfl, q ys p ry hn⟩
def dSortL : DC := fun ds m Q => match ds with
  | [d] => ∃ es, seqOf m d = some es ∧ OrdL es ∧ Sortable (es.map encP) ∧ ∀ p, m p = none → Q (.ref p) (mset m p (.lst (es.mergeSort (dataLe false encP))))
  | _ => False
theorem lc_sortL {K : PySem.W.Frag} : LC K (rSortS K) dSortL := fun vs H ds m Qd Q rm r h k => by
  match ds, r, h with
  | [d], r, h =>
    obtain ⟨es, e, ord, srt, q⟩ := h
    obtain ⟨v, rfl, ra9⟩ := repL1 r
    obtain ⟨a, ws, rfl, s, r2⟩ := seq_rep rm ra9 e
    exact ⟨a, ws, es, rfl, s, r2, ord, srt, fun ys p ry hp => k _ _ _ _ (.new hp) (rm.newL hp ry) (.ref p) (q p (rm.fresh hp))⟩
/-! min, max -/
def rMinS (K : PySem.W.Frag) (f : PyData → List PyData → PyData) : List V → Hp → VK → Prop := fun vs H Q => ∃ (a : Addr) (xs : List V) (d : D) (ds : List D), vs = [V.ref a] ∧ (SqL K H a xs ∨ SqT K H a xs) ∧ RepL K H (d :: ds) xs ∧ OrdL (d :: ds) ∧ (∀ x ∈ d :: ds, encP x ≠ .none) ∧
  ∀ x ∈ d :: ds, encP x = f (encP d) (ds.map encP) → ∀ v, Rep K H x v → Q v H
theorem depthAll_le {n : Nat} : ∀ {ps : List PyData}, (∀ p ∈ ps, p.depth ≤ n) → PyData.depthAll ps ≤ n
  | [], _ => by unfold PyData.depthAll; exact Nat.zero_le _
  | p :: ps, h => by
    unfold PyData.depthAll
    have h1 := h p (List.mem_cons_self ..)
    have h2 := depthAll_le (ps := ps) fun q hq => h q (List.mem_cons_of_mem _ hq)
    omega
theorem OrdL.alike {ds : List D} (h : OrdL ds) (hn : ∀ x ∈ ds, encP x ≠ .none) : AlikeAll (ds.map encP) := ⟨h.all, fun p hp => by
  obtain ⟨x, hx, rfl⟩ := List.mem_map.mp hp
  exact hn x hx⟩
theorem readsAll_of {h : Heap} : ∀ {us : List Value} {ds : List D}, EachIs (fun v b => ∃ as, Reads h v (encP b) as) us ds → ∃ as, ReadsAll h us (ds.map encP) as
  | _, _, e => PySem.W.each_readsAll encP e
theorem each_get {α β : Type} {R : α → β → Prop} : ∀ {as : List α} {bs : List β} {i : Nat} {a : α}, EachIs R as bs → as[i]? = some a → ∃ b, bs[i]? = some b ∧ R a b
  | _, _, _, _, .nil, e => by simp at e
  | _, _, 0, _, .cons h t, e => by simp at e; subst e; exact ⟨_, rfl, h⟩
  | _, _, i + 1, a, .cons h t, e => by
    obtain ⟨b, h1, h2⟩ := each_get (i := i) (a := a) t (by simpa using e)
    exact ⟨b, by simpa using h1, h2⟩
theorem min_fin {pins : List (Addr × Obj)} {σ : L2.St} {H : Hp} {s : Shared} {its : List Value} {d : D} {ds : List D} {f : PyData → List PyData → PyData} (I : Inv X pins σ H s) (ord : OrdL (d :: ds)) (e : EachIs (RD X.K H) its (d :: ds)) (hm : ∀ x xs, f x xs ∈ x :: xs)
    {Q : VK} (q : ∀ x ∈ d :: ds, encP x = f (encP d) (ds.map encP) → ∀ v, Rep X.K H x v → Q v H) {i : Nat} {v : Value} {h' : Heap} {tk : Nat} {bs : List Addr} (hi : its[i]? = some v) (hr : Reads h' v (f (encP d) (ds.map encP)) bs) (hk : ∀ b o, s.heap.get? b = some o → h'.get? b = some o) :
    EP X pins σ Q v { s with heap := h', toks := tk } := by
  have I1 : Inv X pins σ H { s with heap := h', toks := tk } := I.kept hk
  obtain ⟨x, hx, y, rv, ry⟩ := each_get e hi
  have hxm : x ∈ d :: ds := List.mem_of_getElem? hx
  obtain ⟨as, r2⟩ := Dp.reads I1 _ _ _ (ry.dp (encP_some (ord.dat x hxm))) rv
  obtain ⟨z, hz, hze⟩ : ∃ z ∈ d :: ds, encP z = f (encP d) (ds.map encP) := by
    have := hm (encP d) (ds.map encP)
    rw [show encP d :: ds.map encP = (d :: ds).map encP from rfl] at this
    obtain ⟨z, hz, e⟩ := List.mem_map.mp this
    exact ⟨z, hz, e⟩
  have ee : encP x = f (encP d) (ds.map encP) := PySem.W.alike_unique _ _ _ _ _ (by rw [← hze]; exact ord.al x hxm z hz) r2 hr
  exact ⟨y, H, I1, rv, q x hxm ee y ry⟩
theorem cr_minS (hc : X.calm = true) (hu : X.A.units + 64 < cLine) : CallR X (.builtin "min") (rMinS X.K minD) := by
  intro pins s σ H vs us Q I r h
  obtain ⟨a, xs, d, ds, rfl, hs, rep, ord, hn, q⟩ := h
  rw [Vals.ref1 r]
  have hd : X.A.units + 1 + PyData.depthAll (encP d :: ds.map encP) < cLine := by
    have := depthAll_le (n := 50) (ps := (d :: ds).map encP) fun p hp => by
      obtain ⟨x, hx, rfl⟩ := List.mem_map.mp hp
      exact ord.dep x hx
    rw [List.map_cons] at this
    omega
  rcases hs with hs | hs
  · obtain ⟨its, rv, pl, hz⟩ := I.list hs
    have e := each_of rep rv
    obtain ⟨as, hr⟩ := readsAll_of (each_reads I ord.dat e)
    exact PySem.W.min_list_data (I.ok.hd hc) pl.isList hr (ord.alike hn) hd fun i v h' tk bs hi hrd hk => min_fin I ord e (fun x xs => PySem.W.pd_minD_mem xs x) q (by simpa using hi) hrd hk
  · obtain ⟨its, rv, pl, hz⟩ := I.tuple hs
    have e := each_of rep rv
    obtain ⟨as, hr⟩ := readsAll_of (each_reads I ord.dat e)
    exact PySem.W.min_tuple_data (I.ok.hd hc) pl hr (ord.alike hn) hd fun i v h' tk bs hi hrd hk => min_fin I ord e (fun x xs => PySem.W.pd_minD_mem xs x) q (by simpa using hi) hrd hk
theorem cr_maxS (hc : X.calm = true) (hu : X.A.units + 64 < cLine) : CallR X (.builtin "max") (rMinS X.K maxD) := by
  intro pins s σ H vs us Q I r h
  obtain ⟨a, xs, d, ds, rfl, hs, rep, ord, hn, q⟩ := h
  rw [Vals.ref1 r]
  have hd : X.A.units + 1 + PyData.depthAll (encP d :: ds.map encP) < cLine := by
    have := depthAll_le (n := 50) (ps := (d :: ds).map encP) fun p hp => by
      obtain ⟨x, hx, rfl⟩ := List.mem_map.mp hp
      exact ord.dep x hx
    rw [List.map_cons] at this
    omega
  rcases hs with hs | hs
  · obtain ⟨its, rv, pl, hz⟩ := I.list hs
    have e := each_of rep rv
    obtain ⟨as, hr⟩ := readsAll_of (each_reads I ord.dat e)
    exact PySem.W.max_list_data (I.ok.hd hc) pl.isList hr (ord.alike hn) hd fun i v h' tk bs hi hrd hk => min_fin I ord e (fun x xs => PySem.W.pd_maxD_mem xs x) q (by simpa using hi) hrd hk
  · obtain ⟨its, rv, pl, hz⟩ := I.tuple hs
    have e := each_of rep rv
    obtain ⟨as, hr⟩ := readsAll_of (each_reads I ord.dat e)
    exact PySem.W.max_tuple_data (I.ok.hd hc) pl hr (ord.alike hn) hd fun i v h' tk bs hi hrd hk => min_fin I ord e (fun x xs => PySem.W.pd_maxD_mem xs x) q (by simpa using hi) hrd hk
/-- min, max: of one sequence, or of two ints -/
def dMinU (f : PyData → List PyData → PyData) (g : Int → Int → Int) : DC := fun ds m Q => match ds with
  | [x] => ∃ d es, seqOf m x = some (d :: es) ∧ OrdL (d :: es) ∧ (∀ x ∈ d :: es, encP x ≠ .none) ∧ ∀ x ∈ d :: es, encP x = f (encP d) (es.map encP) → Q x m
  | [.int i, .int j] => Q (.int (g i j)) m
  | _ => False
def rMinU (K : PySem.W.Frag) (f : PyData → List PyData → PyData) (g : Int → Int → Int) : List V → Hp → VK → Prop := fun xs H Q => (∃ i j, xs = [.int i, .int j] ∧ Q (.int (g i j)) H) ∨ rMinS K f xs H Q
theorem lc_minU {K : PySem.W.Frag} {f : PyData → List PyData → PyData} {g : Int → Int → Int} : LC K (rMinU K f g) (dMinU f g) := fun vs H ds m Qd Q rm r h k => by
  match ds, r, h with
  | [x], r, h =>
    obtain ⟨d, es, e, ord, hn, q⟩ := h
    obtain ⟨v, rfl, ra9⟩ := repL1 r
    obtain ⟨a, ws, rfl, s, r2⟩ := seq_rep rm ra9 e
    exact .inr ⟨a, ws, d, es, rfl, s, r2, ord, hn, fun x hx he v rv => k _ _ _ _ (.refl H) rm rv (q x hx he)⟩
  | [.int i, .int j], r, h =>
    obtain ⟨v, u, rfl, rv, ru⟩ := repL2 r
    cases rv
    cases ru
    exact .inl ⟨i, j, rfl, k _ H _ m (.refl H) rm (.int _) h⟩
theorem cr_minU (hc : X.calm = true) (hu : X.A.units + 64 < cLine) : CallR X (.builtin "min") (rMinU X.K minD fun i j => if j < i then j else i) := (call_min2 hc).or (cr_minS hc hu)
theorem cr_maxU (hc : X.calm = true) (hu : X.A.units + 64 < cLine) : CallR X (.builtin "max") (rMinU X.K maxD fun i j => if j > i then j else i) := (call_max2 hc).or (cr_maxS hc hu)
/-! sum -/
def rSumS (K : PySem.W.Frag) : List V → Hp → VK → Prop := fun vs H Q => ∃ (a : Addr) (ns : List Int), vs = [V.ref a] ∧ (SqL K H a (ns.map V.int) ∨ SqT K H a (ns.map V.int)) ∧ Q (.int ns.sum) H
theorem cr_sumS (hc : X.calm = true) : CallR X (.builtin "sum") (rSumS X.K) := by
  intro pins s σ H vs us Q I r h
  obtain ⟨a, ns, rfl, hs, q⟩ := h
  rcases hs with hs | hs
  · exact cr_sum hc pins s σ H _ us Q I r ⟨a, ns, rfl, hs, q⟩
  · rw [Vals.ref1 r]
    obtain ⟨its, rv, pl, _⟩ := I.tuple hs
    have hi := rv.ints
    obtain ⟨xs, hx⟩ := hi.allInts.items
    have hn : PySem.numsOf its.toArray.toList = ns := by rw [show its.toArray.toList = its from rfl, hi.numsOf]
    rw [hx] at hn pl
    rw [nums_intItems] at hn
    refine PySem.W.ktm_sumG (I.ok.hd hc) pl fun h' tk t' hk => ?_
    rw [preSum_eq, List.take_of_length_le (by simp), hn]
    exact ⟨.int _, H, I.kept hk, ⟨_, rfl⟩, q⟩
def dSumL : DC := fun ds m Q => match ds with
  | [x] => ∃ ns : List Int, seqOf m x = some (ns.map .int) ∧ Q (.int ns.sum) m
  | _ => False
theorem lc_sumL {K : PySem.W.Frag} : LC K (rSumS K) dSumL := fun vs H ds m Qd Q rm r h k => by
  match ds, r, h with
  | [x], r, h =>
    obtain ⟨ns, e, q⟩ := h
    obtain ⟨v, rfl, ra9⟩ := repL1 r
    obtain ⟨a, ws, rfl, s, r2⟩ := seq_rep rm ra9 e
    have := rep_ints r2
    subst this
    exact ⟨a, ns, rfl, s, k _ _ _ _ (.refl H) rm (.int _) q⟩
/-! in -/
theorem lr_inP {K : PySem.W.Frag} {neg : Bool} : LR K (rInP K neg) (fun x y m Q => ∃ ds p ps, seqOf m y = some ds ∧ toP x = some p ∧ toPs ds = some ps ∧ PyData.plainAll ps = true ∧ p.plain = true ∧ min (PyData.depthAll ps) p.depth ≤ 60 ∧ Q (.bl (if neg then !ps.any fun z => PyData.eqv z p else ps.any fun z => PyData.eqv z p)) m) := fun x y H dx dy m Qd Q rm rx ry ⟨ds, p, ps, e, e1, e2, h1, h2, h3, h4⟩ k => by
  obtain ⟨a, vs, rfl, s, r⟩ := seq_rep rm ry e
  refine ⟨p, ps, rx.dp e1, ?_, h1, h2, h3, k _ H _ m (.refl H) rm (.bl _) h4⟩
  rcases s with s | s
  · exact .inl (.lst s (r.dp e2))
  · exact .inr (.tup s (r.dp e2))
end
end PD

set_option Elab.async false
set_option linter.all false
set_option maxRecDepth 100000
set_option maxHeartbeats 4000000
/-! Sets of texts: made of a list or a tuple, measured, asked, sorted. -/
namespace TXS
open PySem PySem.Spec PyProof.Rows L2 PySem.Froz
/-- the table's places rise, and it tells its order -/
def TxS (w : World) (dat : SD) : Prop := Ris dat.2.2.place.toList ∧ (w.params.followText "set-order" = true ∨ dat.2.2.led = true)
theorem tailTx_s {w : World} {ep : Nat} {es : Array (Int × Value)} {tb : SetTable} {wd : Bool} (r : Ris tb.place.toList) (l : w.params.followText "set-order" = true ∨ tb.led = true) : TxS w (tailTx ep es tb wd) := by
  unfold tailTx
  split
  · exact ⟨relayAll_ris _ _ _, l.imp id fun z => by show (relayAll tb es _).2.1.led = true; rw [relayAll_led]; exact z⟩
  · exact ⟨r, l⟩
theorem addTx_s {w : World} {hv : Int} {v : Value} {dat : SD} (st : TxS w dat) : TxS w (addTx hv v dat) := by
  obtain ⟨es, ep, tb⟩ := dat
  have r1 := layNew_ris tb es hv v st.1
  have l1 : w.params.followText "set-order" = true ∨ (layNew tb es hv v).2.1.led = true := st.2.imp id fun z => by rw [layNew_led]; exact z
  unfold addTx
  refine tailTx_s ?_ ?_
  · dsimp only; split
    · exact r1
    · exact r1
  · dsimp only; split
    · exact l1
    · exact l1
/-- at a stands the set of the unlike texts l -/
def TxAt (P : Program) (w : World) (h : Heap) (a : Addr) (l : List Str) : Prop := ∃ dat : SD, h.get? a = some (sObj "set" dat) ∧ TxOk P w dat l ∧ TxS w dat ∧ l.Nodup
theorem TxAt.at {P : Program} {w : World} {h h' : Heap} {a : Addr} {l : List Str} (R : TxAt P w h a l) (k : ∀ o, h.get? a = some o → h'.get? a = some o) : TxAt P w h' a l := by
  obtain ⟨dat, e, r⟩ := R
  exact ⟨dat, k _ e, r⟩
def putT (k : Str) (l : List Str) : List Str := if k ∈ l then l else k :: l
theorem putT_nodup {k : Str} {l : List Str} (h : l.Nodup) : (putT k l).Nodup := by
  unfold putT
  split
  · exact h
  · rename_i q; exact List.nodup_cons.mpr ⟨q, h⟩
theorem putT_mem {k x : Str} {l : List Str} : x ∈ putT k l ↔ x = k ∨ x ∈ l := by
  unfold putT
  split
  · rename_i q
    exact ⟨.inr, fun z => z.elim (fun e => e ▸ q) id⟩
  · exact List.mem_cons
theorem putT_len (k : Str) (l : List Str) : (putT k l).length ≤ l.length + 1 := by
  unfold putT
  split
  · omega
  · exact Nat.le_refl _
section
variable {P : Program} {w : World} {A : Around} {E : Value → Shared → Prop} {s : Shared}
theorem tx_add {a : Addr} {l : List Str} {k : Str} {u : Tok} {Q : Bool → Shared → Prop} (R : TxAt P w s.heap a l) (room : l.length + 1 < scanBound)
    (hQ : ∀ b h', Heap.SameBut a s.heap h' → TxAt P w h' a (putT k l) → Q b { s with heap := h' }) : wpAny (model P w) A (setAddHashed a (.str k u) (hashStr w k)) Q E s := by
  obtain ⟨dat, hob, F, st, nd⟩ := R
  by_cases hk : k ∈ l
  · obtain ⟨es, ep, tb⟩ := dat
    have hpay : (sObj "set" (es, ep, tb)).data = .set es ep tb := rfl
    have lz : es.size = l.length := F.sz
    have small : es.size < scanBound := by omega
    have same : putT k l = l := by unfold putT; rw [if_pos hk]
    have kk : (strKind P w).is k (.str k u) = true := is_str k u
    unfold setAddHashed setAddHashedIn
    refine wpAny_holding (wpAny_bind (wpAny_setState_of hob hpay F.fit ?_))
    dsimp only
    rw [byScan_of rfl small F.el]
    simp only [↓reduceIte]
    unfold setAddByScan
    refine wpAny_bind ?_
    refine wpAny_bind (wpAny_rule ?_)
    refine wpAny_bind (wpAny_setScan_of (knd := strKind P w) (k := k) kk hob hpay F.fit F.el ?_)
    cases place : List.findIdx? (fun e => (strKind P w).is k e.2) es.toList with
    | none =>
      obtain ⟨e, he, z⟩ := (F.mem k).mp hk
      have c := List.findIdx?_eq_none_iff.mp place e he
      rw [z] at c
      cases c
    | some j =>
      dsimp only
      refine wpAny_pure (wpAny_pure (hQ _ s.heap (Heap.SameBut.refl a s.heap) ?_))
      rw [same]
      exact ⟨_, hob, F, st, nd⟩
  · have more : putT k l = k :: l := by unfold putT; rw [if_neg hk]
    refine add_x hob F hk room (hQ _ _ (Heap.SameBut.update s.heap a _) ?_)
    rw [more]
    exact ⟨_, get_upd _ hob rfl, add_ok u F, addTx_s st, List.nodup_cons.mpr ⟨hk, nd⟩⟩
/-- what the texts put one after another leave -/
def allT : List Str → List Str → List Str
  | [], l => l
  | x :: xs, l => allT xs (putT x l)
theorem allT_nodup : ∀ {xs l : List Str}, l.Nodup → (allT xs l).Nodup
  | [], _, h => h
  | y :: ys, l, h => by unfold allT; exact allT_nodup (putT_nodup h)
theorem allT_mem {x : Str} : ∀ {xs l : List Str}, x ∈ allT xs l ↔ x ∈ xs ∨ x ∈ l
  | [], l => by simp [allT]
  | y :: xs, l => by
    unfold allT
    rw [allT_mem, putT_mem, List.mem_cons]
    constructor
    · rintro (h | h | h)
      · exact .inl (.inr h)
      · exact .inl (.inl h)
      · exact .inr h
    · rintro ((h | h) | h)
      · exact .inr (.inl h)
      · exact .inl h
      · exact .inr (.inr h)
theorem allT_len : ∀ (xs l : List Str), (allT xs l).length ≤ xs.length + l.length
  | [], l => by unfold allT; simp
  | x :: xs, l => by
    unfold allT
    have h1 := allT_len xs (putT x l)
    have h2 := putT_len x l
    rw [List.length_cons]
    omega
theorem allT_snoc (y : Str) : ∀ (xs l : List Str), allT (xs ++ [y]) l = putT y (allT xs l)
  | [], l => rfl
  | x :: xs, l => allT_snoc y xs (putT x l)
theorem tx_loop {I : Addr} {fp wr : List Addr} {G : Array GenState → Array GenState → Prop} {n : Nat} {Pv : Nat → Value → Prop} {St : Nat → Shared → Prop} {R : Result → Shared → Prop}
    (W : WalksS P w A.in1 I fp wr G n Pv St) (S : Addr) (out : S ∉ fp) (xs : List Str) (hn : n = xs.length) (room : xs.length + 1 < scanBound) (item : ∀ i v, Pv i v → ∃ k t, xs[i]? = some k ∧ v = .str k t)
    (hR : ∀ t', TxAt P w t'.heap S (allT xs []) → ∀ s0, Moved (S :: wr) G s0 t' → s0 = s → R (.ok (.ret .none)) t') :
    ∀ (left i : Nat) (t : Shared), n - i = left → i ≤ n → St i t → TxAt P w t.heap S (allT (xs.take i) []) → Moved (S :: wr) G s t →
      codeAny (model P w) A (.builtin "set.update.loop" ⟨[.ref S, .ref I], []⟩) R t := by
  have notW : S ∉ wr := fun z => out (W.sub _ z)
  have wider : ∀ b ∈ wr, b ∈ S :: wr := fun b hb => List.mem_cons_of_mem _ hb
  intro left
  induction left with
  | zero =>
    intro i t hl hi hst hT hm0
    obtain rfl : i = n := by omega
    refine codeAny_builtin F.entry_set_update_loop ?_
    rw [Around.under_plainId F.plain_set_update_loop _]
    refine wpAny_bind (W.done t _ _ hst fun t' hm => ?_)
    rw [List.take_of_length_le (Nat.le_of_eq hn.symm)] at hT
    exact wpAny_pure (hR t' (hT.at fun o e => hm.heap S o notW e) s (Moved.trans W.gtrans hm0 (hm.mono wider)) rfl)
  | succ left ih =>
    intro i t hl hi hst hT hm0
    have more : i < n := by omega
    refine codeAny_builtin F.entry_set_update_loop ?_
    rw [Around.under_plainId F.plain_set_update_loop _]
    refine wpAny_bind (W.item i t _ _ more hst fun v t' hv hst' hm => ?_)
    obtain ⟨k, tok, hx, rfl⟩ := item i v hv
    have hT' : TxAt P w t'.heap S (allT (xs.take i) []) := hT.at fun o e => hm.heap S o notW e
    have len1 : (allT (xs.take i) []).length + 1 < scanBound := by
      have z1 := allT_len (xs.take i) []
      have z2 := List.length_take_le i xs
      have z3 := List.length_take_le' i xs
      simp only [List.length_nil] at z1
      omega
    refine wpAny_bind (wpAny_holding ?_)
    unfold setAdd
    refine wpAny_holding ?_
    refine wpAny_bind ((strKind P w).pyHash (k := k) (strKind_is _ _ _ _) ?_)
    refine tx_add (s := { t' with toks := t'.toks + 1 }) hT' len1 fun b h' sb hT2 => ?_
    rw [← allT_snoc, show xs.take i ++ [k] = xs.take (i + 1) by rw [List.take_add_one, hx]; rfl] at hT2
    have frame : ∀ c o, c ≠ S → t'.heap.get? c = some o → h'.get? c = some o := fun c o hc e => by rw [sb.2 c hc]; exact e
    refine wpAny_pure ⟨plainId_quiet F.plain_set_update_loop _, ih (i + 1) _ (by omega) more (W.frame _ t' _ _ hst' (Nat.le_succ _) fun c hc o e => frame c o (fun z => out (z ▸ hc)) e) hT2 ?_⟩
    exact Moved.trans W.gtrans hm0 ((hm.mono wider).then_heap (Nat.le_succ _) fun c o hc e => frame c o (fun z => hc (by rw [z]; exact List.mem_cons_self)) e)
set_option maxHeartbeats 8000000 in
theorem set_of_list {l : Addr} {cells : Array Value} (xs : List Str) {Q : Value → Shared → Prop} (calm : A.handled = none) (seq : s.heap.IsList l cells) (txt : StrsAre cells.toList xs) (room : xs.length + 1 < scanBound)
    (fin : ∀ (h' : Heap) (tk : Nat), TxAt P w h' s.heap.objs.size (allT xs []) → (∀ b o, s.heap.get? b = some o → h'.get? b = some o) → Q (.ref s.heap.objs.size) { s with heap := h', toks := tk }) :
    wpAny (model P w) A (call (.type "set") [.ref l]) Q E s := by
  have num : cells.size = xs.length := by
    rw [← Array.length_toList]; exact txt.length
  have mro := F.called_set.mro
  obtain ⟨c9, tl9, mro9⟩ := mro
  have made9 := F.called_set.made
  have sub9 := F.called_set.sub
  refine wpAny_call (codeAny_of_tree ?_)
  refine wpAny_pure ⟨Code.quiet_builtin _ (by decide +kernel), codeAny_builtin F.entry_type_call ?_⟩
  rw [Around.under_plain (weight_type_call_type "set" [.ref l] []) rfl]
  have not9 := F.called_set.notType
  have can9 := F.called_set.canCreate
  have ct9 := F.typeCall_set_1 (.ref l)
  repeat (any_goals (first | assumption | wp_step))
  obtain ⟨empty9, he9⟩ : ∃ o : Obj, o = { cls := .type "set", dict := none, data := .set #[] 0 (.fresh 0 0 (!w.params.followText "set-order")) } := ⟨_, rfl⟩
  refine codeAny_mono (code_set_led1 (.ref l) (E := E) (Q₁ := fun obj s9 => obj = .ref s.heap.objs.size ∧ s9 = { s with heap := s.heap.push empty9 }) ⟨rfl, by rw [he9]⟩) fun r9 s9 out9 => ?_
  cases r9 with
  | error e => exact out9
  | ok fl =>
    cases fl with
    | ret obj =>
      obtain ⟨rfl, rfl⟩ := out9
      have at9 : (s.heap.push empty9).get? s.heap.objs.size = some ({ cls := .type "set", dict := none, data := .set #[] 0 (.fresh 0 0 (!w.params.followText "set-order")) } : Obj) := by rw [← he9]; exact Heap.get?_push_size _ (by rw [he9]; rfl)
      have ty9 : Shared.TypeIs { s with heap := s.heap.push empty9 } (.ref s.heap.objs.size) "set" := ⟨_, at9, rfl⟩
      have li9 := F.called_set.init.lookup
      have bi9 := F.called_set.init.bind (.ref s.heap.objs.size)
      repeat (any_goals (first | assumption | wp_step))
      refine codeAny_mono (codeAny_call_builtin (R := wants (fun r s8 => r = .none ∧ ∃ h' tk, s8 = { s with heap := h', toks := tk } ∧ TxAt P w h' s.heap.objs.size (allT xs []) ∧
          (∀ b o, s.heap.get? b = some o → h'.get? b = some o)) E) F.called_set.init.plain F.entry_set_init (check_set_init_1 ty9 ?_)) fun r8 s8 out8 => ?_
      · obtain ⟨⟨ocls, odict, odata, oslots⟩, hol, hcl, nl, hdl⟩ := seq
        simp only at hcl hdl
        subst hcl hdl
        have in9 : (s.heap.push empty9).get? l = some { cls := .type "list", dict := odict, data := .seq cells nl, slots := oslots } := Heap.get?_push_of_some _ hol
        have no1 := F.sub_list_set
        have no2 := F.sub_list_frozenset
        have no3 : (Value.type "list" == Value.type "dict") = false := by decide
        have seq9 : (s.heap.push empty9).IsList l cells := ⟨_, in9, rfl, nl, rfl⟩
        unfold Builtin.«set.__init__» noKeywords Builtin.Frozenset.updateFrom
        generalize it9 : pyIter = PI
        wp_walk
        subst it9
        refine wpAny_pyIter_list seq9 ?_
        refine wpAny_bind (wpAny_runValue ?_)
        have low : l < s.heap.objs.size := Heap.lt_size hol
        have calm3 : A.in1.in1.in1.handled = none := by simp [calm]
        have z9 : (s.heap.push empty9).objs.size = s.heap.objs.size + 1 := Heap.size_push ..
        have apart : l ≠ (s.heap.push empty9).objs.size := by rw [z9]; exact Nat.ne_of_lt (Nat.lt_succ_of_lt low)
        have off : s.heap.objs.size ∉ [(s.heap.push empty9).objs.size, l] := fun z => by
          rcases List.mem_cons.mp z with z | z
          · rw [z9] at z; exact absurd z (Nat.ne_of_lt (Nat.lt_succ_self _))
          · rw [← List.mem_singleton.mp z] at low; exact Nat.lt_irrefl _ low
        have item : ∀ (i : Nat) (v : Value), cells[i]? = some v → ∃ k t, xs[i]? = some k ∧ v = .str k t := fun i v hv => by
          have hi : i < xs.length := by rw [← num]; exact (Array.getElem?_eq_some_iff.mp hv).1
          obtain ⟨t, e⟩ := SS.strs_at txt i v (by rw [Array.getElem?_toList]; exact hv)
          refine ⟨xs[i], t, List.getElem?_eq_getElem hi, ?_⟩
          rw [e, List.getD_eq_getElem?_getD, List.getElem?_eq_getElem hi] <;> rfl
        refine tx_loop ((Walks.list calm3 _ l apart cells).toS) s.heap.objs.size off xs num room item ?hR (cells.size - 0) 0 _ (by omega) (Nat.zero_le _)
          ⟨⟨_, Heap.get?_push_size _ rfl, rfl, rfl⟩, (seq9.push _)⟩ ?hS0 (Moved.refl (fun _ => rfl))
        case hS0 =>
          have get9 : ((s.heap.push empty9).push { cls := .type "list_iterator", data := .fields #[.ref l, .int 0 0] }).get? s.heap.objs.size = some ({ cls := .type "set", dict := none, data := .set #[] 0 (.fresh 0 0 (!w.params.followText "set-order")) } : Obj) := Heap.get?_push_of_some _ at9
          refine ⟨(#[], 0, .fresh 0 0 (!w.params.followText "set-order")), get9, TxOk.nil (by rfl), ⟨List.Pairwise.nil, ?_⟩, List.nodup_nil⟩
          show _ ∨ (!w.params.followText "set-order") = true
          cases w.params.followText "set-order"
          · exact .inr rfl
          · exact .inl rfl
        case hR =>
          intro t' hT s0 hm hs0
          subst hs0
          obtain ⟨h', g2, d', tk', os'⟩ := t'
          have eg : g2 = s.gens := hm.gens
          have ed : d' = s.drawn := hm.drawn
          have eo : os' = s.os := hm.os
          subst eg ed eo
          refine wpAny_pure ?_
          refine wpAny_pure ⟨rfl, h', tk', rfl, hT, fun b o e => ?_⟩
          have hb0 : b < s.heap.objs.size := Heap.lt_size e
          exact hm.heap b o (fun z => by
            rcases List.mem_cons.mp z with z | z
            · exact absurd z (Nat.ne_of_lt hb0)
            · rcases List.mem_singleton.mp z with z
              rw [z9] at z; exact absurd z (Nat.ne_of_lt (Nat.lt_succ_of_lt hb0))) (Heap.get?_push_of_some _ (Heap.get?_push_of_some _ e))
      · cases r8 with
        | error e => exact out8
        | ok fl8 =>
          cases fl8 with
          | ret r =>
            obtain ⟨rfl, h', tk, rfl, hT, hk⟩ := out8
            repeat (any_goals (first | assumption | wp_step))
            exact fin _ _ hT hk
          | _ => exact out8.elim
    | _ => exact out9.elim
set_option maxHeartbeats 8000000 in
theorem set_of_tuple {l : Addr} {cells : Array Value} (xs : List Str) {Q : Value → Shared → Prop} (calm : A.handled = none) (seq : s.heap.IsTuple l cells) (txt : StrsAre cells.toList xs) (room : xs.length + 1 < scanBound)
    (fin : ∀ (h' : Heap) (tk : Nat), TxAt P w h' s.heap.objs.size (allT xs []) → (∀ b o, s.heap.get? b = some o → h'.get? b = some o) → Q (.ref s.heap.objs.size) { s with heap := h', toks := tk }) :
    wpAny (model P w) A (call (.type "set") [.ref l]) Q E s := by
  have num : cells.size = xs.length := by
    rw [← Array.length_toList]; exact txt.length
  have mro := F.called_set.mro
  obtain ⟨c9, tl9, mro9⟩ := mro
  have made9 := F.called_set.made
  have sub9 := F.called_set.sub
  refine wpAny_call (codeAny_of_tree ?_)
  refine wpAny_pure ⟨Code.quiet_builtin _ (by decide +kernel), codeAny_builtin F.entry_type_call ?_⟩
  rw [Around.under_plain (weight_type_call_type "set" [.ref l] []) rfl]
  have not9 := F.called_set.notType
  have can9 := F.called_set.canCreate
  have ct9 := F.typeCall_set_1 (.ref l)
  repeat (any_goals (first | assumption | wp_step))
  obtain ⟨empty9, he9⟩ : ∃ o : Obj, o = { cls := .type "set", dict := none, data := .set #[] 0 (.fresh 0 0 (!w.params.followText "set-order")) } := ⟨_, rfl⟩
  refine codeAny_mono (code_set_led1 (.ref l) (E := E) (Q₁ := fun obj s9 => obj = .ref s.heap.objs.size ∧ s9 = { s with heap := s.heap.push empty9 }) ⟨rfl, by rw [he9]⟩) fun r9 s9 out9 => ?_
  cases r9 with
  | error e => exact out9
  | ok fl =>
    cases fl with
    | ret obj =>
      obtain ⟨rfl, rfl⟩ := out9
      have at9 : (s.heap.push empty9).get? s.heap.objs.size = some ({ cls := .type "set", dict := none, data := .set #[] 0 (.fresh 0 0 (!w.params.followText "set-order")) } : Obj) := by rw [← he9]; exact Heap.get?_push_size _ (by rw [he9]; rfl)
      have ty9 : Shared.TypeIs { s with heap := s.heap.push empty9 } (.ref s.heap.objs.size) "set" := ⟨_, at9, rfl⟩
      have li9 := F.called_set.init.lookup
      have bi9 := F.called_set.init.bind (.ref s.heap.objs.size)
      repeat (any_goals (first | assumption | wp_step))
      refine codeAny_mono (codeAny_call_builtin (R := wants (fun r s8 => r = .none ∧ ∃ h' tk, s8 = { s with heap := h', toks := tk } ∧ TxAt P w h' s.heap.objs.size (allT xs []) ∧
          (∀ b o, s.heap.get? b = some o → h'.get? b = some o)) E) F.called_set.init.plain F.entry_set_init (check_set_init_1 ty9 ?_)) fun r8 s8 out8 => ?_
      · obtain ⟨⟨ocls, odict, odata, oslots⟩, hol, hcl, nl, hdl⟩ := seq
        simp only at hcl hdl
        subst hcl hdl
        have in9 : (s.heap.push empty9).get? l = some { cls := .type "tuple", dict := odict, data := .seq cells nl, slots := oslots } := Heap.get?_push_of_some _ hol
        have no1 := F.sub_tuple_set
        have no2 := F.sub_tuple_frozenset
        have no3 : (Value.type "tuple" == Value.type "dict") = false := by decide
        have seq9 : (s.heap.push empty9).IsTuple l cells := ⟨_, in9, rfl, nl, rfl⟩
        unfold Builtin.«set.__init__» noKeywords Builtin.Frozenset.updateFrom
        generalize it9 : pyIter = PI
        wp_walk
        subst it9
        refine wpAny_pyIter_tuple seq9 ?_
        refine wpAny_bind (wpAny_runValue ?_)
        have low : l < s.heap.objs.size := Heap.lt_size hol
        have calm3 : A.in1.in1.in1.handled = none := by simp [calm]
        have z9 : (s.heap.push empty9).objs.size = s.heap.objs.size + 1 := Heap.size_push ..
        have apart : l ≠ (s.heap.push empty9).objs.size := by rw [z9]; exact Nat.ne_of_lt (Nat.lt_succ_of_lt low)
        have off : s.heap.objs.size ∉ [(s.heap.push empty9).objs.size, l] := fun z => by
          rcases List.mem_cons.mp z with z | z
          · rw [z9] at z; exact absurd z (Nat.ne_of_lt (Nat.lt_succ_self _))
          · rw [← List.mem_singleton.mp z] at low; exact Nat.lt_irrefl _ low
        have item : ∀ (i : Nat) (v : Value), cells[i]? = some v → ∃ k t, xs[i]? = some k ∧ v = .str k t := fun i v hv => by
          have hi : i < xs.length := by rw [← num]; exact (Array.getElem?_eq_some_iff.mp hv).1
          obtain ⟨t, e⟩ := SS.strs_at txt i v (by rw [Array.getElem?_toList]; exact hv)
          refine ⟨xs[i], t, List.getElem?_eq_getElem hi, ?_⟩
          rw [e, List.getD_eq_getElem?_getD, List.getElem?_eq_getElem hi] <;> rfl
        refine tx_loop ((Walks.tuple calm3 _ l apart cells).toS) s.heap.objs.size off xs num room item ?hR (cells.size - 0) 0 _ (by omega) (Nat.zero_le _)
          ⟨⟨_, Heap.get?_push_size _ rfl, rfl, rfl⟩, (seq9.push _)⟩ ?hS0 (Moved.refl (fun _ => rfl))
        case hS0 =>
          have get9 : ((s.heap.push empty9).push { cls := .type "tuple_iterator", data := .fields #[.ref l, .int 0 0] }).get? s.heap.objs.size = some ({ cls := .type "set", dict := none, data := .set #[] 0 (.fresh 0 0 (!w.params.followText "set-order")) } : Obj) := Heap.get?_push_of_some _ at9
          refine ⟨(#[], 0, .fresh 0 0 (!w.params.followText "set-order")), get9, TxOk.nil (by rfl), ⟨List.Pairwise.nil, ?_⟩, List.nodup_nil⟩
          show _ ∨ (!w.params.followText "set-order") = true
          cases w.params.followText "set-order"
          · exact .inr rfl
          · exact .inl rfl
        case hR =>
          intro t' hT s0 hm hs0
          subst hs0
          obtain ⟨h', g2, d', tk', os'⟩ := t'
          have eg : g2 = s.gens := hm.gens
          have ed : d' = s.drawn := hm.drawn
          have eo : os' = s.os := hm.os
          subst eg ed eo
          refine wpAny_pure ?_
          refine wpAny_pure ⟨rfl, h', tk', rfl, hT, fun b o e => ?_⟩
          have hb0 : b < s.heap.objs.size := Heap.lt_size e
          exact hm.heap b o (fun z => by
            rcases List.mem_cons.mp z with z | z
            · exact absurd z (Nat.ne_of_lt hb0)
            · rcases List.mem_singleton.mp z with z
              rw [z9] at z; exact absurd z (Nat.ne_of_lt (Nat.lt_succ_of_lt hb0))) (Heap.get?_push_of_some _ (Heap.get?_push_of_some _ e))
      · cases r8 with
        | error e => exact out8
        | ok fl8 =>
          cases fl8 with
          | ret r =>
            obtain ⟨rfl, h', tk, rfl, hT, hk⟩ := out8
            repeat (any_goals (first | assumption | wp_step))
            exact fin _ _ hT hk
          | _ => exact out8.elim
    | _ => exact out9.elim
end
end TXS

set_option Elab.async false
set_option linter.all false
set_option maxRecDepth 100000
set_option maxHeartbeats 4000000
/-! the same over the layer -/
namespace TXS
open PySem PySem.Spec PyProof.Rows L2 PySem.Froz
theorem perm_of_sub : ∀ {l ks : List Str}, l.Nodup → (∀ x ∈ l, x ∈ ks) → ks.length ≤ l.length → ks.Perm l
  | [], ks, _, _, h => by
    have : ks = [] := List.eq_nil_of_length_eq_zero (Nat.le_zero.mp h)
    rw [this]
  | x :: l, ks, nd, sub, h => by
    have hx : x ∈ ks := sub x (List.mem_cons_self ..)
    have nx := (List.nodup_cons.mp nd).1
    have p := List.perm_cons_erase hx
    have hl : (ks.erase x).length ≤ l.length := by
      rw [List.length_erase_of_mem hx, List.length_cons] at *
      omega
    exact p.trans ((perm_of_sub (List.nodup_cons.mp nd).2 (fun y hy => (List.mem_erase_of_ne (fun e => nx (by rw [← e]; exact hy))).mpr (sub y (List.mem_cons_of_mem _ hy))) hl).cons x)
theorem strs_of_vals : ∀ {es : List (Int × Value)}, (∀ e ∈ es, ∃ k t, e.2 = Value.str k t) → ∃ ks : List Str, StrsAre (es.map (·.2)) ks
  | [], _ => ⟨[], .nil⟩
  | e :: es, h => by
    obtain ⟨k, t, q⟩ := h e (List.mem_cons_self ..)
    obtain ⟨ks, r⟩ := strs_of_vals fun e he => h e (List.mem_cons_of_mem _ he)
    refine ⟨k :: ks, ?_⟩
    rw [List.map_cons, q]
    exact .cons k t r
theorem strs_mem {k : Str} : ∀ {us : List Value} {ks : List Str}, StrsAre us ks → (k ∈ ks ↔ ∃ t, Value.str k t ∈ us)
  | _, _, .nil => by simp
  | _, _, .cons n t r => by
    rw [List.mem_cons, strs_mem r]
    constructor
    · rintro (rfl | ⟨t', h⟩)
      · exact ⟨t, List.mem_cons_self ..⟩
      · exact ⟨t', List.mem_cons_of_mem _ h⟩
    · rintro ⟨t', h⟩
      rcases List.mem_cons.mp h with h | h
      · cases h; exact .inl rfl
      · exact .inr ⟨t', h⟩
theorem strs_perm : ∀ {us vs : List Value} {ks : List Str}, us.Perm vs → StrsAre vs ks → ∃ js, StrsAre us js ∧ js.Perm ks := fun {us vs ks} p => by
  induction p generalizing ks with
  | nil => intro h; cases h; exact ⟨[], .nil, .refl _⟩
  | cons x p ih =>
    intro h
    cases h with
    | cons n t r => obtain ⟨js, a, b⟩ := ih r; exact ⟨n :: js, .cons n t a, b.cons n⟩
  | swap x y l =>
    intro h
    cases h with
    | cons n t r =>
      cases r with
      | cons n2 t2 r => exact ⟨n2 :: n :: _, .cons n2 t2 (.cons n t r), .swap _ _ _⟩
  | trans p q ih1 ih2 =>
    intro h
    obtain ⟨js, a, b⟩ := ih2 h
    obtain ⟨is, c, d⟩ := ih1 a
    exact ⟨is, c, d.trans b⟩
/-- the members, in some order -/
theorem TxOk.vals {P : Program} {w : World} {dat : SD} {l : List Str} (F : TxOk P w dat l) (nd : l.Nodup) : ∃ ks, StrsAre (dat.1.toList.map (·.2)) ks ∧ ks.Perm l := by
  obtain ⟨ks, r⟩ := strs_of_vals (es := dat.1.toList) fun e he => by
    obtain ⟨⟨k, hk, _⟩, _⟩ := F.el e he
    obtain ⟨t, q⟩ := Value.isStrOf_shape hk
    exact ⟨k, t, q⟩
  refine ⟨ks, r, perm_of_sub nd (fun x hx => ?_) ?_⟩
  · obtain ⟨e, he, q⟩ := (F.mem x).mp hx
    obtain ⟨t, q2⟩ := Value.isStrOf_shape q
    exact (strs_mem r).mpr ⟨t, List.mem_map.mpr ⟨e, he, q2⟩⟩
  · rw [← r.length, List.length_map, Array.length_toList, F.sz]
    exact Nat.le_refl _
end TXS
namespace PySem.W
open PySem PySem.Calls PyProof.Rows L2 TXS
section
variable {P : Program} {w : World} {A : Around} {E : Value → Shared → Prop} {s : Shared}
theorem each_strs0 : ∀ {us : List Value} {ks : List Str}, StrsAre us ks → EachIs (fun v (x : Str) => ∃ t, v = Value.str x t) us ks
  | _, _, .nil => .nil
  | _, _, .cons n t r => .cons ⟨t, rfl⟩ (each_strs0 r)
theorem pd_sorted_txt {a : Addr} {l : List Str} {Q : Value → Shared → Prop} (calm : A.handled = none) (R : TxAt P w s.heap a l) (room : l.length < scanBound) (hu : A.units + 2 < cLine)
    (h : ∀ (ks : List Str) (out : List Value) (p : Addr) (c : Nat) (s1 : Shared) (h' : Heap), ks.Perm l → EachIs (fun v (x : Str) => ∃ t, v = Value.str x t) out (ks.mergeSort (dataLe false fun x => PyData.str x)) → (∀ b u, s.heap.get? b = some u → s1.heap.get? b = some u) → s1.gens = s.gens → s1.os = s.os → (∀ b u, s1.heap.get? b = some u → h'.get? b = some u) → s1.heap.objs.size ≤ p → h'.get? p = some (seqObj "list" out.toArray c) → out.length ≤ sizeLine → Q (.ref p) { s1 with heap := h' }) :
    wpAny (model P w) A (call (.builtin "sorted") [.ref a]) Q E s := by
  obtain ⟨dat, hob, F, st, nd⟩ := R
  obtain ⟨es, ep, tb⟩ := dat
  refine call_function_entry_kw kind_sorted plain_sorted entry_sorted (args_sorted1 _) ?_
  unfold Builtin.«sorted»
  refine wpAny_bind (m := checkCount "sorted" 1 1 _) (wpAny_pure ?_)
  have lz : es.size = l.length := F.sz
  refine wpAny_bind (collect_set (A := A.in1) calm ⟨_, hob, rfl, rfl⟩ F.fit (by rw [show ((es, ep, tb) : Froz.SD).1 = es from rfl, lz]; exact room) st.1 st.2 fun s1 vs k1 z1 g1 o1 pm => ?_)
  obtain ⟨ks0, r0, p0⟩ := TxOk.vals F nd
  obtain ⟨ks, rk, pk⟩ := strs_perm pm r0
  have e := each_strs0 rk
  have num : vs.length = l.length := by rw [e.length, (pk.trans p0).length_eq]
  have hLv : vs.length ≤ sizeLine := by
    rw [num, sizeLine_eq]
    have : scanBound ≤ 16777216 := by decide
    omega
  refine wpAny_bind (wpAny_newList ?_ hLv)
  have hoL : (s1.heap.push (seqObj "list" vs.toArray 0)).get? s1.heap.objs.size = some (seqObj "list" vs.toArray 0) := Heap.get?_push_size _ rfl
  have er : EachIs (fun v (x : Str) => ∃ as, Reads (sortingHeap (s1.heap.push (seqObj "list" vs.toArray 0)) s1.heap.objs.size vs) v (PyData.str x) as) vs ks := e.mono fun v x ⟨t, q⟩ => by subst q; exact ⟨_, Reads.str x t⟩
  have hal : AllAlike (ks.map fun x => PyData.str x) := AllAlike.of fun _ _ => rfl
  have hk : Sortable (ks.map fun x => PyData.str x) := Sortable.others fun _ => ⟨(fun z => by cases z), fun _ z => by cases z⟩
  have S : SortsAt P w A.in1.in1 { s1 with heap := sortingHeap (s1.heap.push (seqObj "list" vs.toArray 0)) s1.heap.objs.size vs } (dataKind (sortingHeap (s1.heap.push (seqObj "list" vs.toArray 0)) s1.heap.objs.size vs) (ks.map fun x => PyData.str x)) vs :=
    SortsAt.data (s := { s1 with heap := sortingHeap (s1.heap.push (seqObj "list" vs.toArray 0)) s1.heap.objs.size vs }) (each_map (R := fun v d => ∃ as, Reads (sortingHeap (s1.heap.push (seqObj "list" vs.toArray 0)) s1.heap.objs.size vs) v d as) (fun x => PyData.str x) er) hal hk (bound_map fun x _ => by show A.units + 2 + 0 < cLine; exact hu)
  refine wpAny_bind (wpAny_holding (wpAny_call_entry_kw slot_list_sort ⟨_, hoL, rfl⟩ entry_list_sort ?body (args_list_sort _)))
  case body =>
    refine list_sort_vals (s := { s1 with heap := s1.heap.push (seqObj "list" vs.toArray 0) }) (n := 0) hoL S hLv ⟨_, rfl, wpAny_pure ⟨_, rfl, ?_⟩⟩
    obtain ⟨c, hc⟩ := sortedHeap_at (vs := vs) (out := (sortVals (dataKind (sortingHeap (s1.heap.push (seqObj "list" vs.toArray 0)) s1.heap.objs.size vs) (ks.map fun x => PyData.str x)) false vs vs).toArray) hoL
    refine h ks _ s1.heap.objs.size c s1 _ (pk.trans p0) (sortVals_data (enc := fun x => PyData.str x) false e er hal) k1 g1 o1 (fun b u q => ?_) (Nat.le_refl _) hc (by rw [sortVals_length false rfl]; exact hLv)
    have hlt := Heap.lt_size q
    rw [sortedHeap_old (Nat.ne_of_lt hlt) (by rw [size_push']; exact Nat.lt_succ_of_lt hlt)]
    exact Heap.get?_push_of_some _ q
end
end PySem.W
namespace PD
open PySem PySem.Spec PyProof.Rows L2 TXS
open PySem.W (EachIs AllAlike Sortable dataLe AlikeAll minD maxD)
/-- a set of the texts l at a -/
def SetTx (P : Program) (w : World) (a : Addr) (l : List Str) : HO := .ext fun h => TxAt P w h a l
section
variable {X : Cx}
theorem setTx_new {w : World} {P : Program} {H : Hp} {h : Heap} {a : Addr} {l : List Str} (R : TxAt P w h a l) : ObjOk P w H h a (SetTx P w a l) := by
  have ⟨_, e, _⟩ := R
  exact ⟨R, ⟨_, e⟩, fun h1 h2 p k => TxAt.at p k⟩
def rSetTx (K : PySem.W.Frag) (P : Program) (w : World) : List V → Hp → VK → Prop := fun vs H Q => ∃ (a : Addr) (xs : List Str), vs = [.ref a] ∧ (SqL K H a (xs.map V.str) ∨ SqT K H a (xs.map V.str)) ∧ xs.length ≤ 1000 ∧
  ∀ (p : Addr) (l : List Str), l.Nodup → (∀ x, x ∈ l ↔ x ∈ xs) → l.length ≤ xs.length → H p = none → Q (.ref p) (upd H p (SetTx P w p l))
theorem cr_setTx (hc : X.calm = true) : CallR X (.type "set") (rSetTx X.K X.prog X.w) := by
  intro pins s σ H vs us Q I r h
  obtain ⟨a, xs, rfl, hs, hz, q⟩ := h
  rw [Vals.ref1 r]
  have room : xs.length + 1 < scanBound := by
    have : 2000 < scanBound := by decide
    omega
  have fin : ∀ (h' : Heap) (tk : Nat), TxAt X.prog X.w h' s.heap.objs.size (allT xs []) → (∀ b o, s.heap.get? b = some o → h'.get? b = some o) → EP X pins σ Q (.ref s.heap.objs.size) { s with heap := h', toks := tk } := fun h' tk T k =>
    ⟨.ref _, _, I.laid (t' := tk) k (Nat.le_refl _) (setTx_new T), rfl, q _ _ (allT_nodup List.nodup_nil) (fun x => by rw [allT_mem]; simp) (by have := allT_len xs []; simpa using this) (I.hok.fresh (Nat.le_refl _))⟩
  rcases hs with hs | hs
  · obtain ⟨its, rv, pl, _⟩ := I.list hs
    exact set_of_list xs (I.ok.hd hc) pl.isList (by simpa using strsAre_of rv) room fin
  · obtain ⟨its, rv, pl, _⟩ := I.tuple hs
    exact set_of_tuple xs (I.ok.hd hc) pl (by simpa using strsAre_of rv) room fin
/-- sorted(set) -/
def rSortTx (P : Program) (w : World) : List V → Hp → VK → Prop := fun vs H Q => ∃ (a : Addr) (l : List Str), vs = [.ref a] ∧ H a = some (SetTx P w a l) ∧ l.length ≤ 1000 ∧
  ∀ (p : Addr) (ks : List Str), ks.Perm l → H p = none → Q (.ref p) (upd H p (.lst ((ks.mergeSort (dataLe false fun x => PyData.str x)).map V.str)))
theorem each_strs : ∀ {us : List Value} {ks : List Str}, EachIs (fun v (x : Str) => ∃ t, v = Value.str x t) us ks → Vals (ks.map V.str) us
  | _, _, .nil => .nil
  | _, _, .cons h t => .cons h (each_strs t)
theorem cr_sortTx (hc : X.calm = true) (hu : X.A.units + 64 < cLine) : CallR X (.builtin "sorted") (rSortTx X.prog X.w) := by
  intro pins s σ H vs us Q I r h
  obtain ⟨a, l, rfl, ha, hz, q⟩ := h
  rw [Vals.ref1 r]
  have T : TxAt X.prog X.w s.heap a l := (I.hok a _ ha).1
  refine PySem.W.pd_sorted_txt (I.ok.hd hc) T (by have : 2000 < scanBound := by decide
                                                  omega) (by omega) fun ks out p c s1 h' pk he k1 g1 o1 k2 hp hg hl => ?_
  have J : Inv X pins σ H { s with heap := s1.heap, gens := s1.gens, drawn := s1.drawn, toks := s1.toks } :=
    I.call (ch := []) (Un.kept k1) (I.hok.kept k1) (by rw [g1]; exact I.bare) (fun _ z => nomatch z)
  have es : s1 = { s with heap := s1.heap, gens := s1.gens, drawn := s1.drawn, toks := s1.toks } := by
    cases s1
    cases s
    cases o1
    rfl
  have J1 : Inv X pins σ H s1 := by rw [es]; exact J
  have hn : H p = none := J1.hok.fresh hp
  have hlen : ((ks.mergeSort (dataLe false fun x => PyData.str x)).map V.str).length ≤ sizeLine := by
    rw [List.length_map, ← he.length]; exact hl
  exact ⟨.ref p, upd H p (.lst ((ks.mergeSort (dataLe false fun x => PyData.str x)).map V.str)), J1.laid (t' := s1.toks) k2 hp ⟨hlen, out, c, each_strs he, hg⟩, rfl, q p ks pk hn⟩
/-! the rules -/
theorem RM.newO {K : PySem.W.Frag} {H : Hp} {m : Mu} {p : Addr} {u : HO} (r : RM K H m) (h : H p = none) : RM K (upd H p u) (mset m p (.oth u)) := fun a o e => by
  by_cases ha : a = p
  · subst ha
    rw [mset_same] at e; cases e
    exact upd_same
  · rw [mset_ne ha] at e
    exact r.skip h a o e
def dSetTx (P : Program) (w : World) : DC := fun ds m Q => match ds with
  | [d] => ∃ xs : List Str, seqOf m d = some (xs.map .str) ∧ xs.length ≤ 1000 ∧ ∀ (p : Addr) (l : List Str), l.Nodup → (∀ x, x ∈ l ↔ x ∈ xs) → l.length ≤ xs.length → m p = none → Q (.ref p) (mset m p (.oth (SetTx P w p l)))
  | _ => False
theorem lc_setTx {K : PySem.W.Frag} {P : Program} {w : World} : LC K (rSetTx K P w) (dSetTx P w) := fun vs H ds m Qd Q rm r h k => by
  match ds, r, h with
  | [d], r, h =>
    obtain ⟨xs, e, hz, q⟩ := h
    obtain ⟨v, rfl, ra9⟩ := repL1 r
    obtain ⟨a, ws, rfl, s, r2⟩ := seq_rep rm ra9 e
    have := rep_strs r2
    subst this
    exact ⟨a, xs, rfl, s, hz, fun p l nd hm hl hp => k _ _ _ _ (.new hp) (rm.newO hp) (.ref p) (q p l nd hm hl (rm.fresh hp))⟩
def dSortTx (P : Program) (w : World) : DC := fun ds m Q => ∃ a l, ds = [.ref a] ∧ m a = some (.oth (SetTx P w a l)) ∧ l.length ≤ 1000 ∧ ∀ (p : Addr) (ks : List Str), ks.Perm l → m p = none → Q (.ref p) (mset m p (.lst ((ks.mergeSort (dataLe false fun x => PyData.str x)).map .str)))
theorem repl_strs {K : PySem.W.Frag} {H : Hp} : ∀ xs : List Str, RepL K H (xs.map D.str) (xs.map V.str)
  | [] => .nil
  | x :: xs => .cons (.str x) (repl_strs xs)
theorem repl_ints {K : PySem.W.Frag} {H : Hp} : ∀ xs : List Int, RepL K H (xs.map D.int) (xs.map V.int)
  | [] => .nil
  | x :: xs => .cons (.int x) (repl_ints xs)
theorem lc_sortTx {K : PySem.W.Frag} {P : Program} {w : World} : LC K (rSortTx P w) (dSortTx P w) := fun vs H ds m Qd Q rm r ⟨a, l, e, ha, hz, q⟩ k => by
  subst e
  exact ⟨a, l, one_ref r, rm a _ ha, hz, fun p ks pk hp => k _ _ _ _ (.new hp) (rm.newL hp (repl_strs _)) (.ref p) (q p ks pk (rm.fresh hp))⟩
/-- sorted(d), a dict of ints -/
def rSortDI : List V → Hp → VK → Prop := fun xs H Q => ∃ (a : Addr) (kvs : List (Key × V)) (ks : List Int), xs = [.ref a] ∧ Rd H a (.dK kvs) ∧ kvs.map (·.1) = ks.map Sum.inl ∧ ks.length < 64 ∧ ∀ (ys : List Int) (p : Addr), ys.Perm ks → ys.Pairwise (· ≤ ·) → H p = none → Q (.ref p) (upd H p (.lst (ys.map V.int)))
def dSortDI : DC := fun ds m Q => ∃ a kvs, ∃ ks : List Int, ds = [.ref a] ∧ m a = some (.dct kvs) ∧ kvs.map (·.1) = ks.map Sum.inl ∧ ks.length < 64 ∧ ∀ (ys : List Int) (p : Addr), ys.Perm ks → ys.Pairwise (· ≤ ·) → m p = none → Q (.ref p) (mset m p (.lst (ys.map .int)))
theorem lc_sortDI {K : PySem.W.Frag} : LC K rSortDI dSortDI := fun vs H ds m Qd Q rm r ⟨a, kvs, ks, e, ha, hk, hz, q⟩ k => by
  subst e
  obtain ⟨us, e1, e2, _⟩ := rm a _ ha
  exact ⟨a, us, ks, one_ref r, .inl e1, e2.trans hk, hz, fun ys p pk pw hp => k _ _ _ _ (.new hp) (rm.newL hp (repl_ints _)) (.ref p) (q ys p pk pw (rm.fresh hp))⟩
def rSortU (K : PySem.W.Frag) (P : Program) (w : World) : List V → Hp → VK → Prop := fun xs H Q => rSortS K xs H Q ∨ rSortTx P w xs H Q ∨ rSortDI xs H Q
def dSortU (P : Program) (w : World) : DC := fun ds m Q => dSortL ds m Q ∨ dSortTx P w ds m Q ∨ dSortDI ds m Q
theorem cr_sortU (hc : X.calm = true) (hu : X.A.units + 64 < cLine) : CallR X (.builtin "sorted") (rSortU X.K X.prog X.w) := (cr_sortS hu).or ((cr_sortTx hc hu).or (call_sortedDI hc))
theorem lc_sortU {K : PySem.W.Frag} {P : Program} {w : World} : LC K (rSortU K P w) (dSortU P w) := fun vs H ds m Qd Q rm r h k => by
  rcases h with h | h | h
  · exact .inl (lc_sortL vs H ds m Qd Q rm r h k)
  · exact .inr (.inl (lc_sortTx vs H ds m Qd Q rm r h k))
  · exact .inr (.inr (lc_sortDI vs H ds m Qd Q rm r h k))
end
end PD

set_option Elab.async false
set_option linter.all false
set_option maxRecDepth 100000
set_option maxHeartbeats 4000000
namespace PD
open PySem PySem.Spec PyProof.Rows L2
open PySem.W (EachIs AllAlike Sortable dataLe AlikeAll minD maxD)
theorem lt1 {a c : Nat} (h : a + 64 < c) : a + 1 < c := by omega
section
variable {m m1 m2 : Mu} {a b : Str} {i j : Int} {p q : Bool} {xs ys : List D} {x y z u v : D} {A B : Addr} {Q : DK} {s : Sd}
theorem dFrzV_i : dFrzV (.int i) m Q = Q (.int i) m := rfl
theorem dFrzV_s : dFrzV (.str a) m Q = Q (.str a) m := rfl
theorem dFrzV_b : dFrzV (.bl p) m Q = Q (.bl p) m := rfl
theorem dFrzV_n : dFrzV .non m Q = Q .non m := rfl
theorem dFrzV_t : dFrzV (.tup xs) m Q = Q (.tup xs) m := rfl
theorem dFrzV_l : dFrzV (.rol xs) m Q = Q (.rol xs) m := rfl
theorem dFrzV_r : dFrzV (.ref A) m Q = ∃ ds, m A = some (.lst ds) ∧ Q (.rol ds) (mdel m A) := rfl
theorem dAddL_i : dAddL (.int i) (.int j) m Q = Q (.int (i + j)) m := rfl
theorem dAddL_s : dAddL (.str a) (.str b) m Q = (a.length + b.length ≤ sizeLine ∧ Q (.str (a ++ b)) m) := rfl
theorem dAddL_t : dAddL (.tup xs) (.tup ys) m Q = (xs.length + ys.length ≤ sizeLine ∧ Q (.tup (xs ++ ys)) m) := rfl
theorem dAddL_rr : dAddL (.ref A) (.ref B) m Q = ∃ xs ys, lsq m (.ref A) = some xs ∧ lsq m (.ref B) = some ys ∧ xs.length + ys.length ≤ sizeLine ∧ ∀ p, m p = none → Q (.ref p) (mset m p (.lst (xs ++ ys))) := rfl
theorem dAddL_rl : dAddL (.ref A) (.rol ys) m Q = ∃ xs zs, lsq m (.ref A) = some xs ∧ lsq m (.rol ys) = some zs ∧ xs.length + zs.length ≤ sizeLine ∧ ∀ p, m p = none → Q (.ref p) (mset m p (.lst (xs ++ zs))) := rfl
theorem dAddL_lr : dAddL (.rol xs) (.ref B) m Q = ∃ zs ys, lsq m (.rol xs) = some zs ∧ lsq m (.ref B) = some ys ∧ zs.length + ys.length ≤ sizeLine ∧ ∀ p, m p = none → Q (.ref p) (mset m p (.lst (zs ++ ys))) := rfl
theorem dAddL_ll : dAddL (.rol xs) (.rol ys) m Q = ∃ zs us, lsq m (.rol xs) = some zs ∧ lsq m (.rol ys) = some us ∧ zs.length + us.length ≤ sizeLine ∧ ∀ p, m p = none → Q (.ref p) (mset m p (.lst (zs ++ us))) := rfl
theorem dMulL_i : dMulL (.int i) (.int j) m Q = (CMul i j ∧ Q (.int (i * j)) m) := rfl
theorem dMulL_s : dMulL (.str a) (.int j) m Q = (0 ≤ j ∧ j ≤ 1000 ∧ a.length ≤ 1000 ∧ Q (.str (repS a j.toNat)) m) := rfl
theorem dMulL_r : dMulL (.ref A) (.int j) m Q = ∃ xs, m A = some (.lst xs) ∧ -(2 ^ 63) ≤ j ∧ j < 2 ^ 63 ∧ xs.length * j.toNat ≤ sizeLine ∧ ∀ p, m p = none → Q (.ref p) (mset m p (.lst (List.replicate j.toNat xs).flatten)) := rfl
def dSlLV (lo hi : Option Int) (x : D) (m3 : Mu) (Q : DK) : Prop := match x with
  | .tup ds => Q (.tup (cutD ds lo hi)) m3
  | x => ∃ ds, lsq m3 x = some ds ∧ ∀ p, m3 p = none → Q (.ref p) (mset m3 p (.lst (cutD ds lo hi)))
theorem dSlL_v {de : DE} {dl dh : DO} : dSlL de dl dh s m Q = de s m fun x m1 => dl s m1 fun lo m2 => dh s m2 fun hi m3 => dSlLV lo hi x m3 Q := rfl
theorem dSlLV_t {lo hi : Option Int} : dSlLV lo hi (.tup xs) m Q = Q (.tup (cutD xs lo hi)) m := rfl
theorem dSlLV_l {lo hi : Option Int} : dSlLV lo hi (.rol xs) m Q = ∃ ds, lsq m (.rol xs) = some ds ∧ ∀ p, m p = none → Q (.ref p) (mset m p (.lst (cutD ds lo hi))) := rfl
theorem dSlLV_r {lo hi : Option Int} : dSlLV lo hi (.ref A) m Q = ∃ ds, lsq m (.ref A) = some ds ∧ ∀ p, m p = none → Q (.ref p) (mset m p (.lst (cutD ds lo hi))) := rfl
theorem dMinU_2 {f : PyData → List PyData → PyData} {g : Int → Int → Int} : dMinU f g [.int i, .int j] m Q = Q (.int (g i j)) m := rfl
theorem dMinU_1 {f : PyData → List PyData → PyData} {g : Int → Int → Int} : dMinU f g [x] m Q = ∃ d es, seqOf m x = some (d :: es) ∧ OrdL (d :: es) ∧ (∀ x ∈ d :: es, encP x ≠ .none) ∧ ∀ x ∈ d :: es, encP x = f (encP d) (es.map encP) → Q x m := rfl
theorem dSumL_1 : dSumL [x] m Q = ∃ ns : List Int, seqOf m x = some (ns.map .int) ∧ Q (.int ns.sum) m := rfl
theorem dSetTx_1 {P : Program} {w : World} : dSetTx P w [x] m Q = ∃ xs : List Str, seqOf m x = some (xs.map .str) ∧ xs.length ≤ 1000 ∧ ∀ (p : Addr) (l : List Str), l.Nodup → (∀ x, x ∈ l ↔ x ∈ xs) → l.length ≤ xs.length → m p = none → Q (.ref p) (mset m p (.oth (SetTx P w p l))) := rfl
theorem dIx_l : dIx (.rol xs) (.int i) m Q = ∃ d, atI xs i = some d ∧ Q d m := propext ⟨fun ⟨_, e, h⟩ => by cases e; exact h, fun h => ⟨_, rfl, h⟩⟩
theorem dLen_l : dLen [.rol xs] m Q = Q (.int xs.length) m := propext ⟨fun ⟨_, e, h⟩ => by cases e; exact h, fun h => ⟨_, rfl, h⟩⟩
theorem dInG_l {f : Bool → Bool} : dInG f x (.rol xs) m Q = (flatD x = true ∧ xs.all flatD = true ∧ Q (.bl (f (inF x xs))) m) := propext ⟨fun ⟨_, e, h⟩ => by cases e; exact h, fun h => ⟨_, rfl, h⟩⟩
theorem truD_rol : truD m (.rol xs) = some (!xs.isEmpty) := rfl
theorem tyD_rol : tyD m (.rol xs) = some "list" := rfl
theorem dInt1_b : dInt1 [.bl p] m Q = Q (.int (if p = true then 1 else 0)) m := rfl
/-! stores -/
theorem mdel_same : mdel m A A = none := by unfold mdel; rw [if_pos rfl]
theorem mdel_mset {o : MO} : mdel (mset m A o) A = mdel m A := by funext b; unfold mdel mset; split <;> rfl
theorem mdel_none (h : m A = none) : mdel m A = m := by
  funext b; unfold mdel
  split
  · rename_i e; rw [e, h]
  · rfl
theorem Sub.del (h : Sub m m1) (h2 : m A = none) : Sub m (mdel m1 A) := fun c o e => by
  rw [mdel_ne (mne h2 e)]; exact h c o e
/-- all but one kept -/
def Off1 (a : Addr) (m m' : Mu) : Prop := ∀ x o, x ≠ a → m x = some o → m' x = some o
theorem Off1.refl (a : Addr) (m : Mu) : Off1 a m m := fun _ _ _ h => h
theorem Off1.trans {a : Addr} (h : Off1 a m m1) (h' : Off1 a m1 m2) : Off1 a m m2 := fun x o n e => h' x o n (h x o n e)
theorem Off1.of_sub {a : Addr} (h : Sub m m1) : Off1 a m m1 := fun x o _ e => h x o e
theorem Off1.set {a : Addr} {o : MO} (h : Off1 a m m1) : Off1 a m (mset m1 a o) := fun x u n e => by rw [mset_ne n]; exact h x u n e
theorem Off1.new {a p : Addr} {o : MO} (h : Off1 a m m1) (hp : m1 p = none) : Off1 a m (mset m1 p o) := fun x u n e => mset_new hp (h x u n e)
theorem Off1.del {a p : Addr} (h : Off1 a m m1) (hp : m p = none) : Off1 a m (mdel m1 p) := fun x u n e => by
  rw [mdel_ne (mne hp e)]; exact h x u n e
theorem Off1.free {a p : Addr} (h : Off1 a m m1) (n : p ≠ a) (e : m1 p = none) : m p = none := by
  cases q : m p with
  | none => rfl
  | some o => rw [h p o n q] at e; cases e
end
/-! calls by keyword in another order: at each parameter the place of its keyword -/
def gP (si : List Nat) (us ws : List Value) : List Value := if us.isEmpty = true ∧ ws.length = si.length then si.map fun i => ws.getD i Value.none else List.replicate (si.length + 1) Value.none
def gPV (si : List Nat) (vs zs : List V) : List V := if vs.isEmpty = true ∧ zs.length = si.length then si.map fun i => zs.getD i V.non else List.replicate (si.length + 1) V.non
def KwP (K : PySem.W.Frag) (fd : FuncData) (ps ks : List Str) (si : List Nat) : Prop := KBinds K fd ps ks (gP si) (gPV si)
theorem vals_getD : ∀ {zs : List V} {ws : List Value} (i : Nat), Vals zs ws → RelV (zs.getD i V.non) (ws.getD i Value.none)
  | _, _, _, .nil => rfl
  | _, _, 0, .cons a _ => a
  | _, _, i + 1, .cons _ b => vals_getD i b
theorem vals_map {zs : List V} {ws : List Value} (r : Vals zs ws) : ∀ si : List Nat, Vals (si.map fun i => zs.getD i V.non) (si.map fun i => ws.getD i Value.none)
  | [] => .nil
  | i :: si => .cons (vals_getD i r) (vals_map r si)
theorem vals_rep : ∀ n : Nat, Vals (List.replicate n V.non) (List.replicate n Value.none)
  | 0 => .nil
  | n + 1 => .cons rfl (vals_rep n)
theorem kw_perm {K : PySem.W.Frag} {x qual : Str} {st : Stmt} {f : Addr} {fd : FuncData} {ps ks : List Str} {si : List Nat} (F : Fun K x qual st f fd) (hz : si.length = ps.length)
    (h : ∀ (kV doc pm : Value) (an : Option Addr) (cdv ct : Value) (ws : List Value), ws.length = si.length → bindArgs (PySem.W.fnOf x qual (defArgs st) (defBody st) (defScope st) .none kV doc pm an cdv ct) ⟨[], ks.zip ws⟩ = pure (ps.zip (si.map fun i => ws.getD i Value.none))) : KwP K fd ps ks si := by
  obtain ⟨oc, od, kV, doc, pm, an, cdv, ct, osl, rfl, lk, hcd⟩ := F.ex
  refine ⟨fun s us ws hK hl => ?_, fun {vs us zs ws} r rz => ?_⟩
  · by_cases c : us.isEmpty = true ∧ ws.length = si.length
    · have e : gP si us ws = si.map fun i => ws.getD i Value.none := by unfold gP; rw [if_pos c]
      rw [e]
      have : us = [] := List.isEmpty_iff.mp c.1
      subst this
      exact .of_eq (h kV doc pm an cdv ct ws c.2)
    · have e : gP si us ws = List.replicate (si.length + 1) Value.none := by unfold gP; rw [if_neg c]
      rw [e, List.length_replicate, hz] at hl
      exact absurd hl (Nat.succ_ne_self _)
  · have l1 := r.length
    have l2 := rz.length
    unfold gP gPV
    have ee : (vs.isEmpty = true ∧ zs.length = si.length) ↔ (us.isEmpty = true ∧ ws.length = si.length) := by
      rw [List.isEmpty_iff_length_eq_zero, List.isEmpty_iff_length_eq_zero, l1, l2]
    by_cases c : us.isEmpty = true ∧ ws.length = si.length
    · rw [if_pos c, if_pos (ee.mpr c)]; exact vals_map rz si
    · rw [if_neg c, if_neg (fun z => c (ee.mp z))]; exact vals_rep _
def dCallP (n : Nat) (sd : SpD) (si : List Nat) (a : DA) : DE := fun s m Q => a s m fun ds m1 => ds.length = si.length ∧ si.length = n ∧ sd (si.map fun i => ds.getD i .non) m1 Q
theorem repl_getD {K : PySem.W.Frag} {H : Hp} : ∀ {ds : List D} {zs : List V} (i : Nat), RepL K H ds zs → Rep K H (ds.getD i .non) (zs.getD i V.non)
  | _, _, _, .nil => .non
  | _, _, 0, .cons a _ => a
  | _, _, i + 1, .cons _ b => repl_getD i b
theorem repl_map {K : PySem.W.Frag} {H : Hp} {ds : List D} {zs : List V} (r : RepL K H ds zs) : ∀ si : List Nat, RepL K H (si.map fun i => ds.getD i .non) (si.map fun i => zs.getD i V.non)
  | [] => .nil
  | i :: si => .cons (repl_getD i r) (repl_map r si)
section
variable {X : Cx}
theorem ge_callP {k n : Nat} {f : Addr} {fd : FuncData} {ps ks : List Str} {si : List Nat} {sd : SpD} {x : Str} {p pos : Pos} {kws : List Keyword} {dk : DA} (F : FnOk X.prog X.w X.K X.mg X.base CX0 k f fd ps (spL X.K n sd)) (hr : Room k X.A) (hg : Gl X x) (hm : X.mg x = some (.ref f)) (hk : PySem.W.keepIn X.K (.ref f) = true) (hb : KwP X.K fd ps ks si)
    (hkw : GK X kws dk) (hall : (backToKw pos (keywordEach kws X.env)).all (·.1.isSome) = true := by rfl) (hks : (backToKw pos (keywordEach kws X.env)).filterMap (·.1) = ks := by rfl)
    (hdb : (x == ("__debug__" : Str)) = false := by decide) (hpl : ((backTo pos (starEach [] X.env)).any (·.1) || (backToKw pos (keywordEach kws X.env)).any (·.1.isNone)) = false := by rfl) :
    GE X (.Call (.Name x p) [] kws pos) (dCallP n sd si dk) := by
  obtain ⟨tk, q, l⟩ := hkw
  have P : PE X (.Call (.Name x p) [] kws pos) (fun τ H Q => tk τ H fun zs H2 => spL X.K n sd (gPV si [] zs) H2 Q E0) := by
    refine ⟨fun pz s τ H Q I h => ?_⟩
    refine wpAny_Call_Name_kw (ld_glob I hg hm ?_ hdb)
    refine PySem.W.callWith_KW0 (h₀ := X.base) I.ok.mod.kin hk hall (thn (q.run pos pz s τ H _ I h) fun ws tB ⟨zs, H2, iB, rz, q2⟩ => ⟨iB.kIn, ?_⟩) hpl
    rw [hks]
    exact run_fnk (us := []) (vs := []) F hr hb pass0 iB .nil rz q2
  refine .of ⟨_, P, fun s H sd' m Qd Q rs rm h k => ?_⟩
  refine l s H sd' m _ _ rs rm h fun vs H1 ds m1 t1 rm1 r1 h1 => ?_
  have e : gPV si [] vs = si.map fun i => vs.getD i V.non := by unfold gPV; rw [if_pos ⟨rfl, by rw [← r1.length]; exact h1.1⟩]
  rw [e]
  exact ⟨_, m1, Qd, repl_map r1 si, rm1, ⟨by rw [List.length_map]; exact h1.2.1, h1.2.2⟩, fun v' H' dv' m' t' a b c => k v' H' dv' m' (t1.trans t') a b c⟩
end
end PD

set_option Elab.async false
set_option linter.all false
set_option maxRecDepth 100000
set_option maxHeartbeats 4000000
namespace PD
open PySem PySem.Spec PyProof.Rows L2
/-- a loop each of whose turns adds f of the item to the list at p -/
theorem loop_acc {st : Mu → Prop} {g : DG} {tb : DS} {E : DEnds} {m0 : Mu} {p : Addr} (Sl : Sd → Prop) (f : D → List D) {es0 init : List D} (hst : ∀ m', Sub m0 m' → st m')
    (hs : ∀ d ∈ es0, ∀ acc s' m' (R : Sd → Mu → Prop), Sl s' → Sub m0 m' → m' p = some (.lst acc) → acc.length + (f d).length ≤ (init ++ es0.flatMap f).length → (∀ s'' m'', Sl s'' → Sub m0 m'' → m'' p = some (.lst (acc ++ f d)) → R s'' m'') → g d s' m' fun s2 m2 => tb { E with nx := R, ct := R, bk := E.nx } s2 m2)
    (he : ∀ s' m', Sl s' → Sub m0 m' → m' p = some (.lst (init ++ es0.flatMap f)) → E.nx s' m') {s : Sd} {m : Mu} (h1 : Sl s) (h2 : Sub m0 m) (h3 : m p = some (.lst init)) : dLoop st g tb E es0 s m := by
  refine loop_inv (fun rem s' m' => ∃ pre, es0 = pre ++ rem ∧ Sl s' ∧ Sub m0 m' ∧ m' p = some (.lst (init ++ pre.flatMap f))) ?_ ?_ ⟨[], rfl, h1, h2, by rw [List.flatMap_nil, List.append_nil]; exact h3⟩
  · rintro d rem s' m' R hR ⟨pre, e, a, b, c⟩
    refine ⟨hst _ b, hs d (by rw [e]; simp) _ s' m' _ a b c ?_ fun s'' m'' a' b' c' => hR _ _ ⟨pre ++ [d], by rw [e]; simp, a', b', ?_⟩⟩
    · rw [e, List.flatMap_append, List.flatMap_cons, List.length_append, List.length_append, List.length_append, List.length_append]
      omega
    · rw [c', List.flatMap_append, List.flatMap_cons, List.flatMap_nil, List.append_nil, List.append_assoc]
  · rintro s' m' ⟨pre, e, a, b, c⟩
    rw [List.append_nil] at e
    subst e
    exact ⟨hst _ b, he _ _ a b c⟩
theorem flatMap_one {α β : Type} (f : α → β) : ∀ l : List α, l.flatMap (fun x => [f x]) = l.map f
  | [] => rfl
  | x :: l => by rw [List.flatMap_cons, List.map_cons, flatMap_one f l]; rfl
theorem flatMap_map' {α β γ : Type} (f : α → β) (g : β → List γ) : ∀ l : List α, (l.map f).flatMap g = l.flatMap fun x => g (f x)
  | [] => rfl
  | x :: l => by rw [List.map_cons, List.flatMap_cons, List.flatMap_cons, flatMap_map' f g l]
/-- a comprehension over what does not change the store, items by an invariant J of the answers' list and the store without p -/
theorem comp_st {st : Mu → Prop} {g : DG} {e : DE} {p : Addr} {s : Sd} {Q : DK} {m : Mu} (J : List D → Mu → Prop) (hst : ∀ m', st m') {es0 : List D} (hz : es0.length ≤ 100000)
    (hs : ∀ d ∈ es0, ∀ acc m' (R : D → Mu → Prop), J acc m' → m' p = some (.lst acc) → (∀ y m'', J (acc ++ [y]) (mset m'' p (.lst (acc ++ [y]))) → m'' p = some (.lst acc) → R y m'') → g d s m' fun s2 m2 => e s2 m2 R)
    (he : ∀ acc m', acc.length = es0.length → J acc m' → m' p = some (.lst acc) → Q (.ref p) m') (h : J [] (mset m p (.lst []))) : dComp st g dYes e p s Q es0 [] (mset m p (.lst [])) := by
  refine comp_inv (fun rem acc m' => ∃ pre, es0 = pre ++ rem ∧ acc.length = pre.length ∧ J acc m' ∧ m' p = some (.lst acc)) (fun d rem acc m1 R hR ⟨pre, e1, e2, e3, e4⟩ => ?_) (fun acc m1 ⟨pre, e1, e2, e3, e4⟩ => ?_) ⟨[], rfl, rfl, h, mset_same⟩
  · refine ⟨hst _, ?_⟩
    have q := hs d (by rw [e1]; simp) acc m1 (fun y m4 => m4 p = some (.lst acc) ∧ acc.length < sizeLine ∧ R (acc ++ [y]) (mset m4 p (.lst (acc ++ [y])))) e3 e4 fun y m'' h1 h2 => ⟨h2, ?_, hR _ _ ⟨pre ++ [d], by rw [e1]; simp, by simp [e2], h1, mset_same⟩⟩
    · simpa [dYes] using q
    · have : pre.length < es0.length := by rw [e1]; simp
      exact Nat.lt_of_lt_of_le (by omega : acc.length < 100000) (by decide)
  · rw [List.append_nil] at e1
    subst e1
    exact ⟨hst _, e4, he acc m1 e2 e3 e4⟩
end PD
namespace PD
open PySem PySem.Spec PyProof.Rows L2
theorem Off1.set' {a p : Addr} {m m1 : Mu} {o : MO} (h : Off1 a m m1) (hp : m p = none) : Off1 a m (mset m1 p o) := fun x u n e => by
  rw [mset_ne (mne hp e)]; exact h x u n e
end PD
namespace PD
open PySem PySem.Spec PyProof.Rows L2
theorem cut_mem {α : Type} {xs : List α} {lo hi : Option Int} {d : α} (h : d ∈ cutD xs lo hi) : d ∈ xs := List.mem_of_mem_drop (List.mem_of_mem_take h)
/-- xs[:n] -/
theorem cut_take {α : Type} (xs : List α) (n : Nat) : cutD xs none (some (n : Int)) = xs.take n := by
  unfold cutD
  rw [HT.sIx_none, HT.sIx_nat, List.drop_zero, Nat.sub_zero]
  by_cases h : n ≤ xs.length
  · rw [Nat.min_eq_left h]
  · rw [Nat.min_eq_right (by omega), List.take_length, List.take_of_length_le (by omega)]
/-- xs[-n:] -/
theorem cut_last {α : Type} (xs : List α) (n : Nat) (h0 : 0 < n) (h : n ≤ xs.length) : cutD xs (some (-(n : Int))) none = xs.drop (xs.length - n) := by
  unfold cutD
  have e : HT.sIx xs.length 0 (some (-(n : Int))) = xs.length - n := by
    show (if (-(n : Int)) < 0 then ((-(n : Int)) + (xs.length : Int)).toNat else min (-(n : Int)).toNat xs.length) = xs.length - n
    rw [if_pos (by omega)]; omega
  rw [e, HT.sIx_none]
  rw [List.take_of_length_le (by rw [List.length_drop]; exact Nat.le_refl _)]
theorem rep_one {α : Type} (x : α) (n : Nat) : (List.replicate n [x]).flatten = List.replicate n x := by
  induction n with
  | zero => rfl
  | succ n ih => rw [List.replicate_succ, List.flatten_cons, ih]; rfl
end PD
namespace PD
open PySem PySem.Spec PyProof.Rows L2
/-- the same over typed items -/
theorem loop_accT {β : Type} {st : Mu → Prop} {g : DG} {tb : DS} {E : DEnds} {m0 : Mu} {p : Addr} (Sl : Sd → Prop) (e : β → D) (f : β → List D) {us : List β} {init : List D} (hst : ∀ m', Sub m0 m' → st m')
    (hs : ∀ u ∈ us, ∀ acc s' m' (R : Sd → Mu → Prop), Sl s' → Sub m0 m' → m' p = some (.lst acc) → acc.length + (f u).length ≤ (init ++ us.flatMap f).length → (∀ s'' m'', Sl s'' → Sub m0 m'' → m'' p = some (.lst (acc ++ f u)) → R s'' m'') → g (e u) s' m' fun s2 m2 => tb { E with nx := R, ct := R, bk := E.nx } s2 m2)
    (he : ∀ s' m', Sl s' → Sub m0 m' → m' p = some (.lst (init ++ us.flatMap f)) → E.nx s' m') {s : Sd} {m : Mu} (h1 : Sl s) (h2 : Sub m0 m) (h3 : m p = some (.lst init)) : dLoop st g tb E (us.map e) s m := by
  refine loop_inv (fun rem s' m' => ∃ pre post, us = pre ++ post ∧ rem = post.map e ∧ Sl s' ∧ Sub m0 m' ∧ m' p = some (.lst (init ++ pre.flatMap f))) ?_ ?_ ⟨[], us, rfl, rfl, h1, h2, by rw [List.flatMap_nil, List.append_nil]; exact h3⟩
  · rintro d rem s' m' R hR ⟨pre, post, q, q2, a, b, c⟩
    cases post with
    | nil => cases q2
    | cons u post =>
      rw [List.map_cons] at q2
      injection q2 with q2 q3
      subst q2
      refine ⟨hst _ b, hs u (by rw [q]; simp) _ s' m' _ a b c ?_ fun s'' m'' a' b' c' => hR _ _ ⟨pre ++ [u], post, by rw [q]; simp, q3, a', b', ?_⟩⟩
      · rw [q, List.flatMap_append, List.flatMap_cons, List.length_append, List.length_append, List.length_append, List.length_append]
        omega
      · rw [c', List.flatMap_append, List.flatMap_cons, List.flatMap_nil, List.append_nil, List.append_assoc]
  · rintro s' m' ⟨pre, post, q, q2, a, b, c⟩
    cases post with
    | cons u post => cases q2
    | nil =>
      rw [List.append_nil] at q
      subst q
      exact ⟨hst _ b, he _ _ a b c⟩
/-- a comprehension over typed items that changes nothing -/
theorem comp_pureT {β γ : Type} {st : Mu → Prop} {g : DG} {t : DT} {e : DE} {p : Addr} {s : Sd} {Q : DK} {m : Mu} (i : β → D) (o : β → D) (c : β → Bool) (hst : ∀ a, st (mset m p (.lst a))) {us : List β} (hz : us.length ≤ 100000)
    (h : ∀ u ∈ us, ∀ a (R1 : D → Mu → Prop) (R2 : Mu → Prop), (c u = true → R1 (o u) (mset m p (.lst a))) → (c u = false → R2 (mset m p (.lst a))) → g (i u) s (mset m p (.lst a)) fun s2 m2 => t s2 m2 fun b m3 => if b = true then e s2 m3 R1 else R2 m3)
    (hq : Q (.ref p) (mset m p (.lst ((us.filter c).map o)))) : dComp st g t e p s Q (us.map i) [] (mset m p (.lst [])) := by
  refine comp_inv (fun rem acc m' => ∃ pre post, us = pre ++ post ∧ rem = post.map i ∧ acc = (pre.filter c).map o ∧ m' = mset m p (.lst acc)) (fun d rem acc m1 R hR ⟨pre, post, e1, e0, e2, e3⟩ => ?_) (fun acc m1 ⟨pre, post, e1, e0, e2, e3⟩ => ?_) ⟨[], us, rfl, rfl, rfl, rfl⟩
  · cases post with
    | nil => cases e0
    | cons u post =>
      rw [List.map_cons] at e0
      injection e0 with e0 e4
      subst e0 e3
      refine ⟨hst _, h u (by rw [e1]; simp) acc _ _ (fun hc => ⟨mset_same, ?_, ?_⟩) fun hc => ?_⟩
      · rw [e2, List.length_map]
        have h1 := List.length_filter_le c pre
        have h2 : pre.length < us.length := by rw [e1]; simp
        exact Nat.lt_of_lt_of_le (by omega : _ < 100000) (by decide)
      · refine hR _ _ ⟨pre ++ [u], post, by rw [e1]; simp, e4, ?_, mset_mset⟩
        rw [e2, List.filter_append, List.map_append]
        simp [hc]
      · refine hR _ _ ⟨pre ++ [u], post, by rw [e1]; simp, e4, ?_, rfl⟩
        rw [e2, List.filter_append, List.map_append]
        simp [hc]
  · cases post with
    | cons u post => cases e0
    | nil =>
      subst e3
      rw [List.append_nil] at e1
      subst e1 e2
      exact ⟨hst _, mset_same, hq⟩
end PD

set_option Elab.async false
set_option linter.all false
set_option maxRecDepth 100000
set_option maxHeartbeats 4000000
/-! d.setdefault(k, x). -/
namespace PD
open PySem PySem.Spec PyProof.Rows L2
def dDSetd (dd dk dx : DE) : DE := fun s m Q => dd s m fun x m1 => ∃ a, x = .ref a ∧ (∃ kvs, m1 a = some (.dct kvs)) ∧ dk s m1 fun y m2 => dx s m2 fun z m3 => ∃ kvs k, m3 a = some (.dct kvs) ∧ toKey y = some k ∧ kvs.length < sizeLine ∧
  (∀ d, valD kvs k = some d → Q d m3) ∧ (valD kvs k = none → Q z (mset m3 a (.dct (putKD kvs k z))))
section
variable {X : Cx} {o e f : Expr} {apos cpos : Pos} {dd dk dx : DE}
theorem ge_dsetd (ho : GE X o dd) (he : GE X e dk) (hf : GE X f dx) (m : M2 X o "setdefault" apos e f cpos) : GE X (.Call (.Attribute o "setdefault" apos) [e, f] [] cpos) (dDSetd dd dk dx) := by
  obtain ⟨td, pd, ld⟩ := ho.ex
  obtain ⟨te, pe, le⟩ := he.ex
  obtain ⟨tf, pf, lf⟩ := hf.ex
  refine .of ⟨_, pe_dsetd pd pe pf m, fun s H sd m Qd Q rs rm h k => ?_⟩
  refine ld s H sd m _ _ rs rm h fun x H1 dx1 m1 t1 rm1 r1 h1 => ?_
  obtain ⟨a, rfl, ⟨kvs0, e0⟩, h2⟩ := h1
  cases r1
  obtain ⟨us0, e1, _⟩ := rm1 a _ e0
  refine ⟨a, rfl, .inl ⟨us0, .inl e1⟩, ?_⟩
  refine le s H1 sd m1 _ _ (rs.mono t1) rm1 h2 fun y H2 dy m2 t2 rm2 r2 h3 => ?_
  refine lf s H2 sd m2 _ _ (rs.mono (t1.trans t2)) rm2 h3 fun z H3 dz m3 t3 rm3 r3 h4 => ?_
  obtain ⟨kvs, kk, e2, e3, hl, h5, h6⟩ := h4
  obtain ⟨us, e5, e6, r⟩ := rm3 a _ e2
  have hy := key_rep (r2.mono t3) e3
  subst hy
  have hlen : us.length = kvs.length := by have z := congrArg List.length e6; rwa [List.length_map, List.length_map] at z
  have z := val_rep (k := kk) e6 r
  have pr := putK_rep (k := kk) e6 r r3
  refine ⟨us, kk, e5, rfl, by omega, fun v hv => ?_, fun hn => ?_⟩
  · cases q : valD kvs kk with
    | none => rw [z.2 q] at hv; cases hv
    | some d =>
      obtain ⟨v2, e7, r7⟩ := z.1 d q
      rw [hv] at e7
      cases e7
      exact k _ _ _ _ (t1.trans (t2.trans t3)) rm3 r7 (h5 d q)
  · cases q : valD kvs kk with
    | none => exact k _ _ _ _ (t1.trans (t2.trans (t3.trans (.dK e5)))) (rm3.setD e5 pr.1 pr.2) (r3.mono (.dK e5)) (h6 q)
    | some d =>
      obtain ⟨v2, e7, _⟩ := z.1 d q
      rw [hn] at e7; cases e7
/-! sorted of a dict with texts for keys -/
theorem repl_strs2 {K : PySem.W.Frag} {H : Hp} : ∀ l : List Str, RepL K H (l.map D.str) (l.map V.str)
  | [] => .nil
  | x :: l => .cons (.str x) (repl_strs2 l)
def rSortDS : List V → Hp → VK → Prop := fun xs H Q => ∃ (a : Addr) (kvs : List (Key × V)) (ks : List Str), xs = [.ref a] ∧ Rd H a (.dK kvs) ∧ kvs.map (·.1) = ks.map Sum.inr ∧ ks.length < 64 ∧ ∀ (ys : List Str) (p : Addr), ys.Perm ks → sortedS ys = true → H p = none → Q (.ref p) (upd H p (.lst (ys.map V.str)))
def dSortDS : DC := fun ds m Q => ∃ a kvs, ∃ ks : List Str, ds = [.ref a] ∧ m a = some (.dct kvs) ∧ kvs.map (·.1) = ks.map Sum.inr ∧ ks.length < 64 ∧ ∀ (ys : List Str) (p : Addr), ys.Perm ks → sortedS ys = true → m p = none → Q (.ref p) (mset m p (.lst (ys.map .str)))
theorem lc_sortDS {K : PySem.W.Frag} : LC K rSortDS dSortDS := fun vs H ds m Qd Q rm r ⟨a, kvs, ks, e, ha, hk, hz, q⟩ k => by
  subst e
  obtain ⟨us, e1, e2, _⟩ := rm a _ ha
  exact ⟨a, us, ks, one_ref r, .inl e1, e2.trans hk, hz, fun ys p pk pw hp => k _ _ _ _ (.new hp) (rm.newL hp (repl_strs2 _)) (.ref p) (q ys p pk pw (rm.fresh hp))⟩
def rSortV (K : PySem.W.Frag) (P : Program) (w : World) : List V → Hp → VK → Prop := fun xs H Q => rSortU K P w xs H Q ∨ rSortDS xs H Q
def dSortV (P : Program) (w : World) : DC := fun ds m Q => dSortU P w ds m Q ∨ dSortDS ds m Q
theorem cr_sortV (hc : X.calm = true) (hu : X.A.units + 64 < cLine) : CallR X (.builtin "sorted") (rSortV X.K X.prog X.w) := (cr_sortU hc hu).or (call_sortedD hc)
theorem lc_sortV {K : PySem.W.Frag} {P : Program} {w : World} : LC K (rSortV K P w) (dSortV P w) := fun vs H ds m Qd Q rm r h k => by
  rcases h with h | h
  · exact .inl (lc_sortU vs H ds m Qd Q rm r h k)
  · exact .inr (lc_sortDS vs H ds m Qd Q rm r h k)
end
end PD

set_option Elab.async false
set_option linter.all false
set_option maxRecDepth 100000
set_option maxHeartbeats 4000000
namespace PD
open PySem PySem.Spec PyProof.Rows L2
/-! extend by any list that stays, or a tuple -/
section
variable {X : Cx}
theorem pd_extend_lst (l : Addr) (gs9 : Array Value) (n : Nat) (b : Addr) (gt9 : Array Value) (n2 : Nat) (dd : Option Addr) (sc9 : Array (Option Value)) (hs0 : ¬(!gs9.isEmpty && Builtin.List.listTooLong (gs9.size + gt9.size)) = true) (hs1 : gs9.size ≤ sizeLine) (hs2 : gs9.size + gt9.size ≤ sizeLine + 1) :
    Meets (Builtin.«list.extend» ⟨[.ref l, .ref b], []⟩) (fun _ R s => s.heap.get? l = some { cls := .type "list", dict := none, data := .seq gs9 n, slots := #[] } ∧ s.heap.get? b = some { cls := .type "list", dict := dd, data := .seq gt9 n2, slots := sc9 } ∧ R (.ok (.ret Value.none)) { s with heap := s.heap.update l (Obj.mapSeq fun x => x ++ gt9) }) :=
  .of_wp fun pg9 w A R s h => by
    obtain ⟨hp, g, d, tk, os⟩ := s; obtain ⟨hl, hb, h⟩ := h; have f1 := AutoSeq1.idx_int; have f2 := sub_tuple_tuple; have f3 := sub_list_list; have f4 := sub_tuple_list; have f5 := sub_list_tuple;
    have hz' : (gs9 ++ gt9).size ≤ sizeLine + 1 := by rw [Array.size_append]; exact hs2
    wp_walk using (wpAny_updateSeq hl rfl (hz := hs1) (_hz' := hz')), AutoSeq1.wpAny_loadPart' hl, AutoSeq1.wpAny_loadPart' hb; exact ⟨_, rfl, h⟩
def rExtendL (K : PySem.W.Frag) : V → List V → Hp → VK → Prop := fun x vs H Q => ∃ l b xs zs, x = .ref l ∧ vs = [.ref b] ∧ H l = some (.lst xs) ∧ (SqL K H b zs ∨ SqT K H b zs) ∧ xs.length + zs.length ≤ sizeLine ∧ Q .non (upd H l (.lst (xs ++ zs)))
theorem mt_extendL : MtM X "list.extend" (rExtendL X.K) := by
  intro pz s τ H x xs v us Q I rx ra9 h
  obtain ⟨l, b, xs, zs, rfl, rfl, hH, hB, hs9, q⟩ := h
  rcases hB with hB | hB
  · cases rx
    obtain ⟨u, rfl, ru⟩ := ra9.one
    cases ru
    obtain ⟨z, xs9, n, r, hl, e⟩ := I.lstM hH
    obtain ⟨ys9, r2, p2, hl2⟩ := I.list hB
    obtain ⟨⟨c2, dt2, dd2, sl2⟩, n2, e2, hc2, hdd2, hd2⟩ := p2
    simp only at hc2 hd2
    subst hc2 hd2
    have le9 := r2.length
    have sz9 : xs9.toArray.size + ys9.toArray.size ≤ sizeLine := by rw [List.size_toArray, List.size_toArray]; omega
    have hlong : ¬ (!xs9.toArray.isEmpty && Builtin.List.listTooLong (xs9.toArray.size + ys9.toArray.size)) = true := by
      rw [notLongL sz9, Bool.and_false]
      exact Bool.false_ne_true
    refine call_meets F.slot_list_extend ⟨_, e, rfl⟩ F.entry_list_extend (F.args_list_extend_2 _ _)
      (pd_extend_lst l xs9.toArray n b ys9.toArray n2 _ sl2 hlong (by rw [List.size_toArray]; omega) (by omega)) ⟨e, e2, ?_⟩
    refine ⟨.non, _, I.lset (its' := xs9 ++ ys9) hH e (by simp) (r.append r2) ?_, rfl, q⟩
    rw [List.length_append]
    omega
  · exact mt_extendU pz s τ H _ _ v us Q I rx ra9 ⟨l, b, xs, zs, rfl, rfl, hH, .inr hB, hs9, q⟩
def dExtendL : DM := fun x ds m Q => match ds with
  | [d] => ∃ a es zs, lstOf m x = some (a, es) ∧ seqOf m d = some zs ∧ es.length + zs.length ≤ sizeLine ∧ Q .non (mset m a (.lst (es ++ zs)))
  | _ => False
theorem lm_extendL {K : PySem.W.Frag} : LM K (rExtendL K) dExtendL := fun x vs H dx ds m Qd Q rm rx r h k => by
  match ds, r, h with
  | [d], r, h =>
    obtain ⟨a, es, zs, e, e1, hs9, q⟩ := h
    obtain ⟨rfl, rfl, _, ws, e2, r2⟩ := lst_rep rm rx e
    obtain ⟨v, rfl, ra9⟩ := repL1 r
    obtain ⟨b, us, rfl, sb, rb⟩ := seq_rep rm ra9 e1
    exact ⟨a, b, ws, us, rfl, rfl, e2, sb, by rw [← r2.length, ← rb.length]; exact hs9, k _ _ _ _ (.lst e2) (rm.setL e2 (r2.append rb)) .non q⟩
theorem dExtendL_1 : dExtendL x [y] m Q = ∃ a es zs, lstOf m x = some (a, es) ∧ seqOf m y = some zs ∧ es.length + zs.length ≤ sizeLine ∧ Q .non (mset m a (.lst (es ++ zs))) := rfl
end
end PD

set_option Elab.async false
set_option linter.all false
set_option maxRecDepth 100000
set_option maxHeartbeats 4000000
namespace PD
open PySem PySem.Spec PyProof.Rows L2
/-! texts: sign by sign, in, join, slices, upper; abs; a < b < c -/
def sgn (x : Str) : List D := x.cps.toList.map fun c => .str ⟨#[c]⟩
theorem sgn_len (x : Str) : (sgn x).length = x.length := by unfold sgn; rw [List.length_map, Array.length_toList]; rfl
def dIStr (a : DE) : DI := fun s m R => a s m fun x m1 => match x with
  | .str x => R (sgn x) (fun _ => True) m1
  | _ => False
theorem jo_str {K : PySem.W.Frag} {H1 : Hp} {x : Str} : JOk K (Its x) (sgn x) (fun _ => True) H1 := by
  have hl : (sgn x).length = x.cps.size := by unfold sgn; rw [List.length_map, Array.length_toList]
  refine ⟨fun i H m _ _ _ h => ?_, fun i H y H' m _ rm _ h hy => ?_, fun i H m _ _ _ h => ?_⟩
  · rw [hl] at h; exact h
  · obtain ⟨rfl, c, e, rfl⟩ := hy
    exact ⟨.str ⟨#[c]⟩, by unfold sgn; rw [List.getElem?_map, Array.getElem?_toList, e]; rfl, .refl _, rm, .str _⟩
  · rw [hl] at h; exact h
theorem repL_str {K : PySem.W.Frag} {H : Hp} : ∀ {ys : List Str} {vs : List V}, RepL K H (ys.map D.str) vs → vs = ys.map V.str
  | [], _, r => by cases r; rfl
  | y :: ys, _, r => by
    cases r with
    | cons a b =>
      cases a
      rw [repL_str b]; rfl
section
variable {X : Cx}
theorem gi_str {tg l : Expr} {a : DE} (h : GE X l a) : GIE X tg l (dIStr a) :=
  ⟨iStr (liftE X.K a), pi_str h.pe, fun s H sd m Rd R rs rm hh k => by
    refine liftE_le _ a s H sd m _ _ rs rm hh fun v H1 dv m1 t1 rm1 r1 h1 => ?_
    cases r1 with
    | str x => exact ⟨x, rfl, k _ H1 _ _ m1 t1 rm1 jo_str h1⟩
    | _ => exact h1.elim⟩
def dInSg (f : Bool → Bool) : D2 := fun x y m Q => ∃ c z, x = .str ⟨#[c]⟩ ∧ y = .str z ∧ Q (.bl (f (decide (c ∈ z.cps.toList)))) m
theorem lr_inSg {K : PySem.W.Frag} : LR K (fun x y H Q => ∃ c z, x = V.str ⟨#[c]⟩ ∧ y = V.str z ∧ Q (V.bl (decide (c ∈ z.cps.toList))) H) (dInSg id) := fun x y H dx dy m Qd Q rm rx ry h k => by
  obtain ⟨c, z, rfl, rfl, q⟩ := h
  cases rx
  cases ry
  exact ⟨c, z, rfl, rfl, k _ H _ m (.refl H) rm (.bl _) q⟩
theorem lr_notInSg {K : PySem.W.Frag} : LR K (fun x y H Q => ∃ c z, x = V.str ⟨#[c]⟩ ∧ y = V.str z ∧ Q (V.bl !decide (c ∈ z.cps.toList)) H) (dInSg not) := fun x y H dx dy m Qd Q rm rx ry h k => by
  obtain ⟨c, z, rfl, rfl, q⟩ := h
  cases rx
  cases ry
  exact ⟨c, z, rfl, rfl, k _ H _ m (.refl H) rm (.bl _) q⟩
def dJoin (da db : DE) : DE := fun s m Q => da s m fun x m1 => ∃ a, x = .str a ∧ db s m1 fun y m2 => ∃ ys : List Str, seqOf m2 y = some (ys.map .str) ∧ (ys.map (·.length)).sum + ys.length * a.length ≤ 16777216 ∧ Q (.str (Txt.join a ys)) m2
theorem ge_join {o e : Expr} {apos pos : Pos} {da db : DE} (ho : GE X o da) (he : GE X e db) (h1 : starEach [e] X.env = [(false, eval e X.env)] := by rfl) (h2 : attributeBase o "join" X.env (eval o X.env) = eval o X.env := by rfl) (h3 : (apos.endLine == pos.line) = true := by rfl) :
    GE X (.Call (.Attribute o "join" apos) [e] [] pos) (dJoin da db) := by
  obtain ⟨to, p, l⟩ := ho.ex
  obtain ⟨te, q, l2⟩ := he.ex
  refine .of ⟨_, pe_join p q h1 h2 h3, fun s H sd m Qd Q rs rm h k => ?_⟩
  refine l s H sd m _ _ rs rm h fun v H1 dv m1 t1 rm1 r1 h1 => ?_
  obtain ⟨a, rfl, h1⟩ := h1
  cases r1
  refine ⟨⟨a, rfl⟩, l2 s H1 sd m1 _ _ (rs.mono t1) rm1 h1 fun y H2 dy m2 t2 rm2 r2 ⟨ys, e3, hl, z⟩ => ?_⟩
  obtain ⟨b, vs, rfl, sb, rb⟩ := seq_rep rm2 r2 e3
  rw [repL_str rb] at sb
  exact ⟨a, b, ys, rfl, rfl, sb, hl, k _ H2 _ m2 (t1.trans t2) rm2 (.str _) z⟩
def dSlS (de : DE) (dl dh : DO) : DE := fun s m Q => de s m fun x m1 => dl s m1 fun lo m2 => dh s m2 fun hi m3 => match x with
  | .str z => z.length ≤ sizeLine ∧ Q (.str (cutS z lo hi)) m3
  | _ => False
theorem ge_sliceS {e : Expr} {lo hi : Option Expr} {pos p2 : Pos} {de : DE} {dl dh : DO} (he : GE X e de) (hl : GO X lo dl) (hh : GO X hi dh) : GE X (.Subscript e (.Slice lo hi none p2) pos) (dSlS de dl dh) := by
  obtain ⟨te, p, l⟩ := he.ex
  obtain ⟨tl, q, l2⟩ := hl.ex
  obtain ⟨th, q2, l3⟩ := hh.ex
  refine .of ⟨_, pe_slice sl_str p q q2, fun s H sd m Qd Q rs rm h k => ?_⟩
  refine l s H sd m _ _ rs rm h fun v H1 dv m1 t1 rm1 r1 h1 => ?_
  refine l2 s H1 sd m1 _ _ (rs.mono t1) rm1 h1 fun lo H2 m2 t2 rm2 h2 => ?_
  refine l3 s H2 sd m2 _ _ (rs.mono (t1.trans t2)) rm2 h2 fun hi H3 m3 t3 rm3 h3 => ?_
  cases r1 with
  | str z => exact ⟨z, rfl, h3.1, k _ H3 _ m3 (t1.trans (t2.trans t3)) rm3 (.str _) h3.2⟩
  | _ => exact h3.elim
def dUpper (da : DE) : DE := fun s m Q => da s m fun x m1 => ∃ a, x = .str a ∧ a.length ≤ 5592405 ∧ Q (.str (Txt.upper a)) m1
theorem ge_upper {o : Expr} {apos pos : Pos} {da : DE} (ho : GE X o da) (h2 : attributeBase o "upper" X.env (eval o X.env) = eval o X.env := by rfl) (h3 : (apos.endLine == pos.line) = true := by rfl) :
    GE X (.Call (.Attribute o "upper" apos) [] [] pos) (dUpper da) := by
  obtain ⟨to, p, l⟩ := ho.ex
  refine .of ⟨_, pe_upper p h2 h3, fun s H sd m Qd Q rs rm h k => ?_⟩
  refine l s H sd m _ _ rs rm h fun v H1 dv m1 t1 rm1 r1 h1 => ?_
  obtain ⟨a, rfl, h1, z⟩ := h1
  cases r1
  exact ⟨⟨a, rfl⟩, a, rfl, rfl, h1, k _ H1 _ m1 t1 rm1 (.str _) z⟩
def dAbs : DC := fun ds m Q => match ds with
  | [.int i] => Q (.int (if i < 0 then -i else i)) m
  | _ => False
theorem lc_abs {K : PySem.W.Frag} : LC K (fun xs H Q => ∃ i, xs = [V.int i] ∧ Q (V.int (if i < 0 then -i else i)) H) dAbs := fun vs H ds m Qd Q rm r h k => by
  match ds, r, h with
  | [.int i], r, h =>
    obtain ⟨v, rfl, ra⟩ := repL1 r
    cases ra
    exact ⟨i, rfl, k _ H _ m (.refl H) rm (.int _) h⟩
def dChain (d d' : D2) (da db dc : DE) : DT := fun s m Q => da s m fun x m1 => db s m1 fun y m2 => d x y m2 fun z m3 => match z with
  | .bl k => if k = true then dc s m3 fun u m4 => d' y u m4 fun z' m5 => match z' with
      | .bl k' => Q k' m5
      | _ => False
    else Q false m3
  | _ => False
theorem gt_chain {a b c : Expr} {da db dc : DE} {pos : Pos} {op op' : CmpOp} {r r' : R2} {d d' : D2} (ho : OpR X (compareOp op) r) (ho' : OpR X (compareOp op') r') (hl : LR X.K r d) (hl' : LR X.K r' d') (ha : GE X a da) (hb : GE X b db) (hc : GE X c dc) (hm : lastMarks [op, op'] [b, c] = false := by rfl) :
    GT X (.Compare a [op, op'] [b, c] pos) (dChain d d' da db dc) := by
  obtain ⟨ta, p, l⟩ := ha.ex
  obtain ⟨tb, q, l2⟩ := hb.ex
  obtain ⟨tc, q2, l3⟩ := hc.ex
  refine .of ⟨_, pt_chain ho ho' p q q2 hm, fun s H sd m Qd Q rs rm h k => ?_⟩
  refine l s H sd m _ _ rs rm h fun x H1 dx m1 t1 rm1 r1 h1 => ?_
  refine l2 s H1 sd m1 _ _ (rs.mono t1) rm1 h1 fun y H2 dy m2 t2 rm2 r2 h2 => ?_
  refine hl x y H2 dx dy m2 _ _ rm2 (r1.mono t2) r2 h2 fun z H3 dz m3 t3 rm3 r3 h3 => ?_
  cases r3 with
  | bl b =>
    refine ⟨b, rfl, ?_⟩
    cases b with
    | true =>
      have h3 : dc sd m3 _ := h3
      refine l3 s H3 sd m3 _ _ (rs.mono (t1.trans (t2.trans t3))) rm3 h3 fun u H4 du m4 t4 rm4 r4 h4 => ?_
      refine hl' y u H4 dy du m4 _ _ rm4 (r2.mono (t3.trans t4)) r4 h4 fun z' H5 dz' m5 t5 rm5 r5 h5 => ?_
      cases r5 with
      | bl b' => exact ⟨b', rfl, k b' H5 m5 (t1.trans (t2.trans (t3.trans (t4.trans t5)))) rm5 h5⟩
      | _ => exact h5.elim
    | false => exact ⟨false, rfl, k false H3 m3 (t1.trans (t2.trans t3)) rm3 h3⟩
  | _ => exact h3.elim
end
end PD

set_option Elab.async false
set_option linter.all false
set_option maxRecDepth 100000
set_option maxHeartbeats 4000000
/-! enumerate(text) -/
namespace PySem
open Sem (wp)
theorem pd_meets_enumS (x : Str) (t : Tok) :
    Meets (Builtin.«enumerate.__new__» ⟨[.type "enumerate", .str x t], []⟩) (fun _ R s =>
      R (.ok (.ret (.ref (s.heap.push { cls := .type (strIterType x), data := .fields #[.str x t, .int 0 0] }).objs.size)))
        { s with heap := (s.heap.push { cls := .type (strIterType x), data := .fields #[.str x t, .int 0 0] }).push { cls := .type "enumerate", data := .fields #[.none, .bool false, .ref s.heap.objs.size, rawInt 0, .none, .none] } }) :=
  .of_wp fun pg9 w A R s h => by
    obtain ⟨hp, g, d, tk9, os9⟩ := s
    have hsub := sub_enumerate
    wp_walk using wpAny_pyIter_strU
    refine wpAny_stack_any fun st => wpAny_pure ?_
    split
    · rename_i c _ _ _ _ _
      cases (c == Value.type "enumerate")
      · wp_walk using wpAny_pyIter_strU
        exact ⟨_, rfl, h⟩
      · wp_walk using wpAny_pyIter_strU
        exact ⟨_, rfl, h⟩
    · wp_walk using wpAny_pyIter_strU
      exact ⟨_, rfl, h⟩
section
variable {pg9 : Program} {w : World} {A : Around} {E : Value → Shared → Prop} {s : Shared}
theorem pd_call_enumS {x : Str} {t : Tok} {Q : Value → Shared → Prop}
    (h : ∀ h', IsEnum h' (s.heap.objs.size + 1) s.heap.objs.size 0 .none → h'.IsStrIter s.heap.objs.size (strIterType x) x t 0 → h'.objs.size = s.heap.objs.size + 2 →
      (∀ b o, s.heap.get? b = some o → h'.get? b = some o) → Q (.ref (s.heap.objs.size + 1)) { s with heap := h' }) :
    wpAny (model pg9 w) A (call (.type "enumerate") [.str x t]) Q E s := by
  refine callType_new F.called_enumerate (by decide) (F.typeCall_enumerate_1 _) (F.newCall_enumerate_1 _) (fun obj => F.args_object_init_2 obj _) F.entry_enumerate_new
    (pd_meets_enumS x t) ?_
  have hs9 : (s.heap.push { cls := .type (strIterType x), data := .fields #[.str x t, .int 0 0] }).objs.size = s.heap.objs.size + 1 := Heap.size_push ..
  show _ ∧ _
  rw [hs9]
  have ea9 : IsEnum ((s.heap.push { cls := .type (strIterType x), data := .fields #[.str x t, .int 0 0] }).push
      { cls := .type "enumerate", data := .fields #[.none, .bool false, .ref s.heap.objs.size, rawInt 0, .none, .none] }) (s.heap.objs.size + 1) s.heap.objs.size 0 .none := by
    have := Heap.get?_push_size (s.heap.push { cls := .type (strIterType x), data := .fields #[.str x t, .int 0 0] })
      (o := { cls := .type "enumerate", data := .fields #[.none, .bool false, .ref s.heap.objs.size, rawInt 0, .none, .none] }) rfl
    rw [hs9] at this; exact this
  refine ⟨⟨_, ea9, rfl⟩, h _ ea9 ⟨_, Heap.get?_push_of_some _ (Heap.get?_push_size _ rfl), rfl, rfl⟩ (by rw [Heap.size_push, hs9]) fun b o x => Heap.get?_push_of_some _ (Heap.get?_push_of_some _ x)⟩
end
end PySem
namespace PD
open PySem PySem.Spec PyProof.Rows L2
def Ites (x : Str) : It :=
  ⟨fun i _ => i < x.cps.size, fun i H v H' => ∃ T c, v = .ref T ∧ H T = none ∧ x.cps[i]? = some c ∧ H' = upd H T (.tup [.int (i : Nat), .str ⟨#[c]⟩]), fun i _ => x.cps.size ≤ i⟩
theorem turn_enumS {P : Program} {w : World} {K : PySem.W.Frag} {elts : List Expr} {kk : Nat} {tpos : Pos} (x : Str) (t : Tok) (e jt9 : Addr) :
    Turn P w K (.Tuple elts kk tpos) (Ites x) [e, jt9] e (fun i h => (∃ ol9, IsEnum h e jt9 ((i : Nat) : Int) ol9) ∧ h.IsStrIter jt9 (strIterType x) x t i ∧ e ≠ jt9 ∧ i ≤ x.cps.size) where
  mem := by simp
  obj := fun i h st b hb => by
    obtain ⟨⟨ol9, ea9⟩, ⟨o, oa9, ca9, da9⟩, _⟩ := st
    have ee9 : b = e ∨ b = jt9 := by simpa using hb
    rcases ee9 with z | z
    · rw [z]; exact ⟨_, ea9, fun v q => nomatch q⟩
    · rw [z]; exact ⟨o, oa9, fun v q => by rw [da9] at q; cases q⟩
  keep := fun i h h' st k => let ⟨⟨ol9, ea9⟩, ⟨o, oa9, r⟩, na9⟩ := st; ⟨⟨ol9, k e (by simp) _ ea9⟩, ⟨o, k jt9 (by simp) o oa9, r⟩, na9⟩
  item := by
    intro X hP hw hK ca9 i pz s τ H E I fa9 st hg
    subst hP hw hK
    obtain ⟨⟨ol9, ea9⟩, ia9, na9, li9⟩ := st
    have ka9 : e < s.heap.objs.size := Heap.lt_size ea9
    have la9 : jt9 < s.heap.objs.size := by obtain ⟨_, q, _⟩ := ia9; exact Heap.lt_size q
    have hd1 : X.A.in1.handled = none := I.ok.hd ca9
    have Dr := Draws.text (prog := X.prog) (w := X.w) (A := X.A.in1) hd1 jt9 x t
    refine wpAny_pyNext_enum_itemD Dr ea9 ia9 hg na9 (fun z => na9 (by simpa using z)) fun y h' tk9 hy oa9 st' hT za9 ga9 => ?_
    obtain ⟨c, u, hc, rfl⟩ := hy
    refine ⟨_, rfl, wpAny_letOwnedTupleGo_enum (s := { s with heap := h', toks := tk9 + 1 }) oa9 fun h'' he' sb => ?_⟩
    have hT2 : h''.get? s.heap.objs.size = some { cls := .type "tuple", data := .seq #[.int i tk9, .str ⟨#[c]⟩ u] } := (sb.2 _ (Nat.ne_of_gt ka9)).trans hT
    have nw9 : ObjOk X.prog X.w (upd H s.heap.objs.size (.tup [.int (i : Nat), .str ⟨#[c]⟩])) h'' s.heap.objs.size (.tup [.int (i : Nat), .str ⟨#[c]⟩]) :=
      ⟨by show 2 ≤ sizeLine; decide, [.int i tk9, .str ⟨#[c]⟩ u], .cons ⟨_, rfl⟩ (.cons ⟨_, rfl⟩ .nil), ⟨_, hT2, rfl, _, rfl⟩⟩
    have iA : Inv X pz τ (upd H s.heap.objs.size (.tup [.int (i : Nat), .str ⟨#[c]⟩])) { s with heap := h'', toks := tk9 + 1 } :=
      I.turnedNew (ch := [e, jt9]) (fun b ob hb q => (sb.2 b (fun z => hb (by simp [z]))).trans (ga9 b ob (fun z => hb (by simp [z])) (fun z => hb (by simp [z])) q)) fa9 (Nat.le_refl _) nw9
    refine ⟨.ref s.heap.objs.size, _, iA, rfl, ⟨_, c, rfl, I.hok.fresh (Nat.le_refl _), hc, rfl⟩, ⟨⟨.str ⟨#[c]⟩ u, ?_⟩, ?_, na9, hg⟩, fun b hb => ?_⟩
    · have e1 : ((i + 1 : Nat) : Int) = (i : Int) + 1 := by omega
      rw [e1]; exact he'
    · obtain ⟨o, q, r⟩ := st'
      exact ⟨o, (sb.2 jt9 (Ne.symm na9)).trans q, r⟩
    · have bb9 : b < s.heap.objs.size := by
        have ee9 : b = e ∨ b = jt9 := by simpa using hb
        rcases ee9 with z | z
        · rw [z]; exact ka9
        · rw [z]; exact la9
      rw [upd_ne (Nat.ne_of_lt bb9)]
      exact (fa9 b hb).1
  done := by
    intro X hP hw hK ca9 i pz s τ H E I fa9 st hg
    subst hP hw hK
    obtain ⟨⟨ol9, ea9⟩, ia9, na9, li9⟩ := st
    obtain ⟨f0, f1, f2, f3, f4, f5⟩ := fa9 jt9 (by simp)
    have hd1 : X.A.in1.handled = none := I.ok.hd ca9
    have Dr := Draws.text (prog := X.prog) (w := X.w) (A := X.A.in1.in1) (by exact hd1) jt9 x t
    have ei : i = x.cps.size := Nat.le_antisymm li9 hg
    subst ei
    unfold pyNext
    refine wpAny_bind (wpAny_attempt (wpAny_callSpecial?_slot (name := Str.ofString "__next__") ⟨_, ea9, rfl⟩ F.slot_enumerate_next
      (wpAny_call_entry F.slot_enumerate_next ⟨_, ea9, rfl⟩ F.entry_enumerate_next ?_ (F.args_enumerate_next_1 _))))
    show wpAny _ _ (field (.ref e) 2 >>= _) _ _ _
    refine wpAny_bind (wpAny_field ea9 rfl (x := .ref jt9) rfl ?_)
    refine wpAny_bind (Draws.done (Draws.text hd1 jt9 x t) _ _ _ ia9 fun h' x he' hx' => ?_)
    obtain ⟨o, oa9, ca9⟩ := hx'
    refine wpAny_bind (wpAny_isInstance (T := "StopIteration") (b := true) ⟨o, oa9, ca9⟩ isSubtype_stop ?_)
    exact wpAny_pure ⟨rfl, I.turned (t' := s.toks) (fun b o hb q => he' b o hb q) f0 f1 f3 f4 f5⟩
  self := fun A i s Q E st h => let ⟨⟨_, ea9⟩, _⟩ := st; wpAny_pyIter_enum ea9 h
def iEnumS (ta : TA) : TI := fun τ H R => ta τ H fun vs H1 => ∃ x, vs = [.str x] ∧ R (Ites x) H1
theorem pi_enumS {X : Cx} {e : Expr} {ta : TA} {pp9 pos tpos : Pos} {elts : List Expr} {kk : Nat} (hg : Gl X "enumerate") (hm : X.mg "enumerate" = none) (ha : PA X [e] ta) (hs : starEach [e] X.env = [(false, eval e X.env)] := by rfl) :
    PI X (.Tuple elts kk tpos) (.Call (.Name "enumerate" pp9) [e] [] pos) (iEnumS ta) := by
  refine ⟨fun pz s τ H R I h => ?_⟩
  refine Call_ (ld_blt I hg hm boot_enumerate (PyProof.Rows.callWith_type1 (thn (ha.run pos pz s τ H _ I h) fun us tA ⟨vs, H1, iA, r1, q1⟩ => ?_) hs rfl))
  obtain ⟨x, ex, q⟩ := q1
  subst ex
  cases r1 with
  | cons r rr =>
    cases rr
    obtain ⟨t, rfl⟩ := r
    have fin : ∀ b ∈ [tA.heap.objs.size + 1, tA.heap.objs.size], FpOk X pz H1 b := fun b hb => by
      have ee9 : b = tA.heap.objs.size + 1 ∨ b = tA.heap.objs.size := by simpa using hb
      have le9 : tA.heap.objs.size ≤ b := by
        rcases ee9 with z | z
        · rw [z]; exact Nat.le_add_right _ _
        · rw [z]; exact Nat.le_refl _
      exact iA.fpOk le9 (iA.hok.fresh le9)
    refine pd_call_enumS fun h' ea9 ia9 za9 ga9 => wpAny_pyIter_enum ea9 ?_
    have iB : Inv X pz τ H1 { tA with heap := h' } := iA.kept (t' := tA.toks) ga9
    exact ⟨tA.heap.objs.size + 1, [tA.heap.objs.size + 1, tA.heap.objs.size], _, _, H1, rfl, iB, turn_enumS x t (tA.heap.objs.size + 1) tA.heap.objs.size, ⟨⟨.none, ea9⟩, ia9, Nat.succ_ne_self _, Nat.zero_le _⟩, fin, q⟩
def dIEnumS (a : DA) : DI := fun s m R => a s m fun ds m1 => match ds with
  | [.str x] => R (enumD 0 (sgn x)) (fun _ => True) m1
  | _ => False
section
variable {X : Cx}
theorem gi_enumS {e : Expr} {p pos tpos : Pos} {elts : List Expr} {kk : Nat} {da : DA} (hg : Gl X "enumerate") (hm : X.mg "enumerate" = none) (ha : GA X [e] da) (hs : starEach [e] X.env = [(false, eval e X.env)] := by rfl) :
    GIE X (.Tuple elts kk tpos) (.Call (.Name "enumerate" p) [e] [] pos) (dIEnumS da) := by
  obtain ⟨ta, q, l⟩ := ha.ex
  refine ⟨_, pi_enumS hg hm q hs, fun s H sd m Rd R rs rm h k => ?_⟩
  refine l s H sd m _ _ rs rm h fun vs H1 ds m1 t1 rm1 r1 h1 => ?_
  match ds, r1, h1 with
  | [.str x], r1, h1 =>
    obtain ⟨v, rfl, rv⟩ := repL1 r1
    cases rv
    have hl : (sgn x).length = x.cps.size := by unfold sgn; rw [List.length_map, Array.length_toList]
    refine ⟨x, rfl, k _ H1 _ (fun _ => True) m1 t1 rm1 ⟨fun i H' m' t' _ _ hi => ?_, fun i H' y H2 m' t' rm' _ _ hy => ?_, fun i H' m' t' _ _ hi => ?_⟩ h1⟩
    · rw [enumD_len, hl] at hi; exact hi
    · obtain ⟨T, c, rfl, hT, hc, rfl⟩ := hy
      exact enum_item rm' hT (show (sgn x)[i]? = some (.str ⟨#[c]⟩) by unfold sgn; rw [List.getElem?_map, Array.getElem?_toList, hc]; rfl) (.str _)
    · rw [enumD_len, hl] at hi; exact hi
end
end PD

set_option Elab.async false
set_option linter.all false
set_option maxRecDepth 100000
set_option maxHeartbeats 4000000
/-! try with several handlers, each with a name or without -/
namespace PD
open PySem PySem.Spec PyProof.Rows L2
inductive Hs (X : Cx) : List ExceptHandler → List (Value × Option Nat × (Addr → Value → Option Addr → TS)) → Prop
  | nil : Hs X [] []
  | one {x : Str} {c : Value} {ts : Addr → Value → Option Addr → TS} {b₀ : Stmt} {su : List Stmt} {np ps : Pos} {hds : List ExceptHandler} {l : List (Value × Option Nat × (Addr → Value → Option Addr → TS))} (hc : Names X x c)
      (hsu : ∀ (a : Addr) (oe : Obj) (cls : Value) (d : Option Addr) (pn : List (Addr × Obj)), Zc cls d oe → (∃ vs, oe.data = .fields vs) → PSs (X.suite a ((a, oe) :: pn)) (b₀ :: su) (ts a cls d)) (r : Hs X hds l) :
      Hs X (.ExceptHandler (some (.Name x np)) none (b₀ :: su) ps :: hds) ((c, none, ts) :: l)
  | as {x n : Str} {c : Value} {i : Nat} {ts : Addr → Value → Option Addr → TS} {b₀ : Stmt} {su : List Stmt} {np ps : Pos} {hds : List ExceptHandler} {l : List (Value × Option Nat × (Addr → Value → Option Addr → TS))} (hN : X.N.Nodup) (hi : X.N[i]? = some n) (hln : X.env.kindOf n = some .local) (hc : Names X x c)
      (hsu : ∀ (a : Addr) (oe : Obj) (cls : Value) (d : Option Addr) (pn : List (Addr × Obj)), Zc cls d oe → (∃ vs, oe.data = .fields vs) → PSs (X.suite a ((a, oe) :: pn)) (b₀ :: su) (ts a cls d)) (r : Hs X hds l) :
      Hs X (.ExceptHandler (some (.Name x np)) (some n) (b₀ :: su) ps :: hds) ((c, some i, ts) :: l)
def offE (i : Nat) (D : Ends) : Ends := { nx := fun σ H => D.nx (σ.set i none) H, rt := D.rt, bk := fun σ H => D.bk (σ.set i none) H, ct := fun σ H => D.ct (σ.set i none) H }
def wHs (K : PySem.W.Frag) (Wout : WX) (D : Ends) : List (Value × Option Nat × (Addr → Value → Option Addr → TS)) → WX
  | [] => Wout
  | (c, none, ts) :: l => fun cls d σ H => ∃ b, PySem.W.exmOne K cls c = some b ∧ (b = true → ∀ a, H a = none → ts a cls d D σ H) ∧ (b = false → wHs K Wout D l cls d σ H)
  | (c, some i, ts) :: l => fun cls d σ H => ∃ b, PySem.W.exmOne K cls c = some b ∧ (b = true → ∀ a, H a = none → ts a cls d (offE i D) (σ.set i (some (.ref a))) H) ∧ (b = false → wHs K Wout D l cls d σ H)
theorem ps_try_hs {X : Cx} {body : List Stmt} {h₀ : ExceptHandler} {hds : List ExceptHandler} {l : List (Value × Option Nat × (Addr → Value → Option Addr → TS))} {pos : Pos} {tb : WX → TS} {Wout : WX} (hs : X.stack = X.env :: X.outer) (hf : X.env.frame = some X.env.locals) (tk : Takes X Wout)
    (hb : ∀ (W : WX) (pn : List (Addr × Obj)) (xe : Value → Shared → Prop), Takes (X.tr pn xe) W → PassesOwn (model X.prog X.w) X.A X.env xe → PSs (X.tr pn xe) body (tb W)) (hh : Hs X (h₀ :: hds) l) :
    PS X (.Try body (h₀ :: hds) [] [] pos) fun D σ H => tb (wHs X.K Wout D l) D σ H := by
  refine ⟨fun pins s σ H D I h => ?_⟩
  have ok := I.ok
  have hfr := ok.frames
  rw [hs] at hfr
  refine wpAny_Try_except (wpAny_mono ((hb (wHs X.K Wout D l) (X.pn ++ pins) (fun e s₁ => wpAny (model X.prog X.w) X.A (noteFrame e X.env) (fun _ s₂ => wpAny (model X.prog X.w) X.A (setFlight e none) (fun _ s₃ => wpAny (model X.prog X.w) X.A (handleBy e X.env (h₀ :: hds)) (SP X pins D) X.xe s₃) X.xe s₂) X.xe s₁) (fun u s' xx => ?_) PassesOwn.looking).run [] s σ H D (Inv.toTry I _) h) (fun f s1 hsp => ?_) fun e s1 he => he)
  · obtain ⟨a, B, sI, pins', σ', H', cls, d, e, J', nb, up, sky, na, os, ag, w⟩ := xx
    subst e
    have J := Inv.ofTry J' ok
    have sky' : Sky B (X.env :: X.outer) a (Zc cls d) X.env.locals s'.heap := by rw [← hs]; exact sky
    refine Sky.land Zc.steady hfr hf sky' fun h3 fl3 up3 => ?_
    have J3 : L2.Inv X pins σ' H' { s' with heap := h3 } := Inv.landed (s' := { s' with heap := h3 }) J nb fl3.1 (Heap.UpToSlots.trans up up3) os ag
    obtain ⟨oe3, vs3, he3, hz3, hd3⟩ := HandSPX.FlyingZ.there fl3
    have nfr : a ∉ (X.env :: X.outer).filterMap (·.frame) := fun hm => by
      obtain ⟨_, o', e', hnf⟩ := Heap.FunFrames.mem fl3.2.2.1 hm
      rw [he3] at e'
      cases e'
      exact hnf _ hd3
    have nL : a ≠ X.env.locals := fun z => nfr (List.mem_filterMap.mpr ⟨X.env, List.mem_cons_self, by rw [hf, z]⟩)
    have nF : a ∉ X.outer.filterMap (·.frame) := fun hm => by
      obtain ⟨e, he, q⟩ := List.mem_filterMap.mp hm
      exact nfr (List.mem_filterMap.mpr ⟨e, List.mem_cons_of_mem _ he, q⟩)
    have S3 := Inv.suite J3 he3 hd3 na nL nF
    have go : ∀ {hds' : List ExceptHandler} {l' : List (Value × Option Nat × (Addr → Value → Option Addr → TS))}, Hs X hds' l' → wHs X.K Wout D l' cls d σ' H' → wpAny (model X.prog X.w) X.A (handleBy (.ref a) X.env hds') (SP X pins D) X.xe { s' with heap := h3 } := by
      intro hds' l' hk
      induction hk with
      | nil =>
        intro w
        refine wpAny_handleBy_nil ?_
        obtain ⟨k1, k2, k3, oe, vs, T, oT, ts', he, hz, hd, h1, hr⟩ := id fl3
        refine wpAny_bind (wpAny_field he hd h1 ?_)
        rw [if_neg (by simp)]
        have fin : wpAny (model X.prog X.w) X.A (setFlight (.ref a) X.env.frame) (fun _ s4 => wpAny (model X.prog X.w) X.A (throw (.ref a)) (SP X pins D) X.xe s4) X.xe { s' with heap := h3 } := by
          rw [hf]
          exact HandSPX.setFlight_upZ fl3 fun h4 hh4 up4 => wpAny_throw (tk (.ref a) _ ⟨a, B, sI, pins, σ', H', cls, d, rfl, J, nb, Heap.UpToSlots.trans (Heap.UpToSlots.trans up up3) up4, .inr (.inr (by rw [hs]; exact hh4)), na, os, ag, w⟩)
        exact wpAny_bind fin
      | @one x c ts b₀ su np ps hds l hc hsu r ih =>
        rintro ⟨b, hb1, hyes, hno⟩
        refine wpAny_handleBy_cons (codeAny_handlers_test ?_) (fun q => by cases q)
        have LM := PySem.W.exm_one (M := model X.prog X.w) (c := c) (Inv.kIn J3) (fun A Q E s k q => wpAny_typeOf_ref (k a oe3 he3) (by rw [hz3.1]; exact q)) hb1
        have cont : ∀ {Q : Value → Shared → Prop} {E : Value → Shared → Prop} {pos : Pos}, Q c { s' with heap := h3 } → wpAny (model X.prog X.w) (X.A.mark (some (.ref a))) (eval (.Name x pos) X.env) Q E { s' with heap := h3 } := fun {Q E pos} q => by
          obtain ⟨hg, hdbg, hm | ⟨hm, hv, hnn⟩⟩ := hc
          · exact ld_glob S3 hg hm q hdbg
          · exact ld_blt S3 hg hm hv q hnn hdbg
        refine cont (PySem.W.Looks.here LM ?_)
        cases b with
        | false => exact ih (hno rfl)
        | true =>
          refine codeAny_handlers_suite (HandSPX.lands_againZ fl3 fun h4 fl4 up4 => ?_)
          have J4 : L2.Inv X pins σ' H' { s' with heap := h4 } := Inv.landed (s' := { s' with heap := h4 }) J nb fl4.1 (Heap.UpToSlots.trans (Heap.UpToSlots.trans up up3) up4) os ag
          obtain ⟨oe4, vs4, he4, hz4, hd4⟩ := HandSPX.FlyingZ.there fl4
          have S4 := Inv.suite J4 he4 hd4 na nL nF
          refine wpAny_mono ((hsu a oe4 cls d (X.pn ++ pins) hz4 ⟨vs4, hd4⟩).run [] _ σ' H' D S4 (hyes rfl a na)) (fun f s6 hsp => ?_) fun _ _ z => z.elim
          cases f with
          | ret u => obtain ⟨v6, σ6, H6, S6, r6, q6⟩ := hsp; exact ⟨v6, σ6, H6, Inv.unsuite S6 ok, r6, q6⟩
          | _ => obtain ⟨σ6, H6, S6, q6⟩ := hsp; exact ⟨σ6, H6, Inv.unsuite S6 ok, q6⟩
      | @as x n c i ts b₀ su np ps hds l hN hi hln hc hsu r ih =>
        rintro ⟨b, hb1, hyes, hno⟩
        refine wpAny_handleBy_cons (codeAny_handlers_test ?_) (fun q => by cases q)
        have LM := PySem.W.exm_one (M := model X.prog X.w) (c := c) (Inv.kIn J3) (fun A Q E s k q => wpAny_typeOf_ref (k a oe3 he3) (by rw [hz3.1]; exact q)) hb1
        have cont : ∀ {Q : Value → Shared → Prop} {E : Value → Shared → Prop} {pos : Pos}, Q c { s' with heap := h3 } → wpAny (model X.prog X.w) (X.A.mark (some (.ref a))) (eval (.Name x pos) X.env) Q E { s' with heap := h3 } := fun {Q E pos} q => by
          obtain ⟨hg, hdbg, hm | ⟨hm, hv, hnn⟩⟩ := hc
          · exact ld_glob S3 hg hm q hdbg
          · exact ld_blt S3 hg hm hv q hnn hdbg
        refine cont (PySem.W.Looks.here LM ?_)
        cases b with
        | false => exact ih (hno rfl)
        | true =>
          refine codeAny_handlers_suite_as (HandSPX.lands_againZ fl3 fun h4 fl4 up4 => ?_)
          have J4 : L2.Inv X pins σ' H' { s' with heap := h4 } := Inv.landed (s' := { s' with heap := h4 }) J nb fl4.1 (Heap.UpToSlots.trans (Heap.UpToSlots.trans up up3) up4) os ag
          obtain ⟨oe4, vs4, he4, hz4, hd4⟩ := HandSPX.FlyingZ.there fl4
          have S4 := Inv.suite J4 he4 hd4 na nL nF
          refine store_ok (X := X.suite a ((a, oe4) :: (X.pn ++ pins))) (v := .ref a) S4 hN hi (Or.inl hln) rfl (fun s5 S5 => wpAny_mono ((hsu a oe4 cls d (X.pn ++ pins) hz4 ⟨vs4, hd4⟩).run [] s5 (σ'.set i (some (.ref a))) H' (offE i D) S5 (hyes rfl a na)) (fun f s6 hsp => ?_) fun _ _ z => z.elim) (Or.inr hln)
          have end_ : ∀ {σ6 : L2.St} {H6 : Hp} {Q : Unit → Shared → Prop} {E : Value → Shared → Prop} {ps : Pos}, L2.Inv (X.suite a ((a, oe4) :: (X.pn ++ pins))) [] σ6 H6 s6 → (∀ s7, L2.Inv X pins (σ6.set i none) H6 s7 → Q () s7) → wpAny (model X.prog X.w) X.A (do bindName X.env n .none; unbindBehindTheSuite X.env n ps) Q E s6 := fun {σ6 H6 Q E ps} S6 hq => gone_ok (Inv.unsuite S6 ok) hN hi hln hq
          cases f with
          | ret u => obtain ⟨v6, σ6, H6, S6, r6, q6⟩ := hsp; exact end_ S6 fun s7 J7 => ⟨v6, _, H6, J7, r6, q6⟩
          | _ => obtain ⟨σ6, H6, S6, q6⟩ := hsp; exact end_ S6 fun s7 J7 => ⟨_, H6, J7, q6⟩
    exact go hh w
  · cases f with
    | next => obtain ⟨σ', H', J', q⟩ := hsp; exact wpAny_execs_nil ⟨σ', H', Inv.ofTry J' ok, q⟩
    | ret u => obtain ⟨v, σ', H', J', r, q⟩ := hsp; exact ⟨v, σ', H', Inv.ofTry J' ok, r, q⟩
    | _ => obtain ⟨σ', H', J', q⟩ := hsp; exact ⟨σ', H', Inv.ofTry J' ok, q⟩
end PD

set_option Elab.async false
set_option linter.all false
set_option maxRecDepth 100000
set_option maxHeartbeats 4000000
namespace PD
open PySem PySem.Spec PyProof.Rows L2
/-! min and max of three; no error is let out -/
def min3 (i j k : Int) : Int := min (min i j) k
def max3 (i j k : Int) : Int := max (max i j) k
def dMin3 : DC := fun ds m Q => match ds with
  | [.int i, .int j, .int k] => Q (.int (min3 i j k)) m
  | _ => False
def dMax3 : DC := fun ds m Q => match ds with
  | [.int i, .int j, .int k] => Q (.int (max3 i j k)) m
  | _ => False
theorem nuLt_i (i j : Int) : nuLt (.int i) (.int j) = some (decide (i < j)) := rfl
theorem nuMin3_i (i j k : Int) : nuMin3 (.int i) (.int j) (.int k) = some (.int (min3 i j k)) := by
  unfold nuMin3 nuMin2 min3
  rw [nuLt_i, Option.map_some, Option.bind_some]
  by_cases c : j < i
  · rw [decide_eq_true c, if_pos rfl, nuLt_i, Option.map_some]
    by_cases c2 : k < j
    · rw [decide_eq_true c2, if_pos rfl]; congr 2; omega
    · rw [decide_eq_false c2, if_neg Bool.false_ne_true]; congr 2; omega
  · rw [decide_eq_false c, if_neg Bool.false_ne_true, nuLt_i, Option.map_some]
    by_cases c2 : k < i
    · rw [decide_eq_true c2, if_pos rfl]; congr 2; omega
    · rw [decide_eq_false c2, if_neg Bool.false_ne_true]; congr 2; omega
theorem nuMax3_i (i j k : Int) : nuMax3 (.int i) (.int j) (.int k) = some (.int (max3 i j k)) := by
  unfold nuMax3 nuMax2 max3
  rw [nuLt_i, Option.map_some, Option.bind_some]
  by_cases c : i < j
  · rw [decide_eq_true c, if_pos rfl, nuLt_i, Option.map_some]
    by_cases c2 : j < k
    · rw [decide_eq_true c2, if_pos rfl]; congr 2; omega
    · rw [decide_eq_false c2, if_neg Bool.false_ne_true]; congr 2; omega
  · rw [decide_eq_false c, if_neg Bool.false_ne_true, nuLt_i, Option.map_some]
    by_cases c2 : i < k
    · rw [decide_eq_true c2, if_pos rfl]; congr 2; omega
    · rw [decide_eq_false c2, if_neg Bool.false_ne_true]; congr 2; omega
theorem repL3 {K : PySem.W.Frag} {H : Hp} {i j k : Int} {vs : List V} (r : RepL K H [.int i, .int j, .int k] vs) : vs = [.int i, .int j, .int k] := by
  cases r with
  | cons a r =>
    cases a
    cases r with
    | cons b r =>
      cases b
      cases r with
      | cons c r =>
        cases c
        cases r
        rfl
theorem lc_min3 {K : PySem.W.Frag} : LC K (rNuC3 nuMin3) dMin3 := fun vs H ds m Qd Q rm r h k => by
  match ds, r, h with
  | [.int i, .int j, .int l], r, h =>
    obtain rfl := repL3 r
    exact ⟨_, _, _, _, rfl, nuMin3_i i j l, k _ H _ m (.refl H) rm (.int _) h⟩
theorem lc_max3 {K : PySem.W.Frag} : LC K (rNuC3 nuMax3) dMax3 := fun vs H ds m Qd Q rm r h k => by
  match ds, r, h with
  | [.int i, .int j, .int l], r, h =>
    obtain rfl := repL3 r
    exact ⟨_, _, _, _, rfl, nuMax3_i i j l, k _ H _ m (.refl H) rm (.int _) h⟩
theorem dMin3_i {i j k : Int} {m : Mu} {Q : DK} : dMin3 [.int i, .int j, .int k] m Q = Q (.int (min3 i j k)) m := rfl
theorem dMax3_i {i j k : Int} {m : Mu} {Q : DK} : dMax3 [.int i, .int j, .int k] m Q = Q (.int (max3 i j k)) m := rfl
section
variable {X : Cx}
theorem no_tk : Takes X (wX X.K fun _ _ _ => False) := Takes.imp takes0 fun _ _ _ _ ⟨_, _, _, _, h⟩ => h
end
end PD

set_option Elab.async false
set_option linter.all false
set_option maxRecDepth 100000
set_option maxHeartbeats 4000000
/-! x, y = a, b -/
namespace PD
open PySem PySem.Spec PyProof.Rows L2
def dPar (i j : Nat) (da : DA) : DS := fun E s m => da s m fun ds m1 => match ds with
  | [v, w] => E.nx ((s.set i (some v)).set j (some w)) m1
  | _ => False
theorem gs_par {X : Cx} {i j kt k2 : Nat} {x y : Str} {a b : Expr} {px py pt pt2 pos : Pos} {da : DA} (hc : X.calm = true) (hN : X.N.Nodup) (hi : X.N[i]? = some x) (hj : X.N[j]? = some y) (hij : i ≠ j) (hx : X.env.scope.names.lookup x = some .local) (hy : X.env.scope.names.lookup y = some .local) (ha : GA X [a, b] da)
    (hw : swappedStores [.Tuple [.Name x px, .Name y py] kt pt] (.Tuple [a, b] k2 pt2) X.env = pure (some [x, y]) := by rfl) :
    GS X (.Assign [.Tuple [.Name x px, .Name y py] kt pt] (.Tuple [a, b] k2 pt2) pos) (dPar i j da) := by
  obtain ⟨ta, p, l⟩ := ha.ex
  refine ⟨_, ps_par (hc := hc) (hN := hN) (hi := hi) (hj := hj) (hij := hij) (hx := hx) (hy := hy) (hw := hw) (by exact p), fun s H sd m Ed E rs rm h k1 _ _ _ => ?_⟩
  refine l s H sd m _ _ rs rm h fun vs H1 ds m1 t1 rm1 r1 h1 => ?_
  match ds, r1, h1 with
  | [v, w], .cons rv (.cons rw .nil), h1 => exact ⟨_, _, rfl, k1 _ H1 _ m1 t1 (((rs.mono t1).set rv i).set rw j) rm1 h1⟩
end PD

set_option Elab.async false
set_option linter.all false
set_option maxRecDepth 100000
set_option maxHeartbeats 4000000
/-! defs that raise, called by keywords; isinstance of an own error with fields -/
namespace PD
open PySem PySem.Spec PyProof.Rows L2
def dCallPX (n : Nat) (sd : SpX) (si : List Nat) (Ed : DX) (dk : DA) : DE := fun s m Q => dk s m fun ds m1 => ds.length = si.length ∧ si.length = n ∧ sd (si.map fun i => ds.getD i .non) m1 Q Ed
section
variable {X : Cx} {Ed : DX}
theorem ge_callPX {k n : Nat} {f : Addr} {fd : FuncData} {ps ks : List Str} {si : List Nat} {sd : SpX} {x : Str} {p pos : Pos} {kws : List Keyword} {dk : DA} (F : FnOk X.prog X.w X.K X.mg X.base (L2.CX X.prog X.w) k f fd ps (spX X.K n sd)) (tk : Takes X (wX X.K Ed)) (hr : Room k X.A) (hg : Gl X x) (hm : X.mg x = some (.ref f)) (hk : PySem.W.keepIn X.K (.ref f) = true) (hb : KwP X.K fd ps ks si)
    (hkw : GK X kws dk) (hall : (backToKw pos (keywordEach kws X.env)).all (·.1.isSome) = true := by rfl) (hks : (backToKw pos (keywordEach kws X.env)).filterMap (·.1) = ks := by rfl)
    (hdb : (x == ("__debug__" : Str)) = false := by decide) (hpl : ((backTo pos (starEach [] X.env)).any (·.1) || (backToKw pos (keywordEach kws X.env)).any (·.1.isNone)) = false := by rfl) :
    GE X (.Call (.Name x p) [] kws pos) (dCallPX n sd si Ed dk) := by
  obtain ⟨tk1, q, l⟩ := hkw
  have P : PE X (.Call (.Name x p) [] kws pos) (fun τ H Q => tk1 τ H fun zs H2 => spX X.K n sd (gPV si [] zs) H2 Q (WE (wX X.K Ed) [])) := by
    refine ⟨fun pz s τ H Q I h => ?_⟩
    refine wpAny_Call_Name_kw (ld_glob I hg hm ?_ hdb)
    refine PySem.W.callWith_KW0 (h₀ := X.base) I.ok.mod.kin hk hall (thn (q.run pos pz s τ H _ I h) fun ws tB ⟨zs, H2, iB, rz, q2⟩ => ⟨iB.kIn, ?_⟩) hpl
    rw [hks]
    exact run_fnk (us := []) (vs := []) F hr hb (fun pins σ H s e s' I h => passAt tk σ pins H s e s' I h) iB .nil rz q2
  refine .of ⟨_, P, fun s H sd' m Qd Q rs rm h k => ?_⟩
  refine l s H sd' m _ _ rs rm h fun vs H1 ds m1 t1 rm1 r1 h1 => ?_
  have e : gPV si [] vs = si.map fun i => vs.getD i V.non := by unfold gPV; rw [if_pos ⟨rfl, by rw [← r1.length]; exact h1.1⟩]
  rw [e]
  exact ⟨_, m1, Qd, Ed, repl_map r1 si, rm1, ⟨by rw [List.length_map]; exact h1.2.1, h1.2.2⟩, fun v' H' dv' m' t' a b c => k v' H' dv' m' (t1.trans t') a b c, fun cls d H' fs m' a b c => ⟨fs, m', a, b, c⟩⟩
end
end PD
namespace PD
open PySem PySem.Spec PyProof.Rows L2
def rIsEd (K : PySem.W.Frag) (D a : Addr) (d : Option Addr) : List V → Hp → VK → Prop := fun xs H Q => ∃ (c : V) (cv : Value) (b : Bool) (dd : Addr) (vs : List (Str × V)), xs = [.ref a, c] ∧ (∀ u, RelV c u → u = cv) ∧ PySem.W.kitOne K (.ref D) cv = some b ∧ d = some dd ∧ H dd = some (.xd vs) ∧ Q (.bl b) H
theorem call_isEd {X : Cx} {a D : Addr} {oe : Obj} {d : Option Addr} {pn : List (Addr × Obj)} (C : ExcC X.K D) (hc : (PySem.W.clsIn X.K D).isSome = true) (hz : Zc (.ref D) d oe) (hf : ∃ vs, oe.data = .fields vs) :
    CallR (X.suite a ((a, oe) :: pn)) (.builtin "isinstance") (rIsEd X.K D a d) := fun pins s σ H xs us Q I r h => by
  obtain ⟨c, cv, b, dd, vs, rfl, hcv, e, rfl, hd, q⟩ := h
  match us, r with
  | [_, u2], .cons rx (.cons rt .nil) =>
    cases rx
    have ec := hcv u2 rt
    subst ec
    obtain ⟨hget, hH, _⟩ := I.pin (a, oe) (List.mem_append_left _ List.mem_cons_self)
    obtain ⟨vf, hv⟩ := hf
    obtain ⟨o, ho⟩ : ∃ o, s.heap.get? dd = some o := by
      have := I.hok dd _ hd
      unfold L2.ObjOk at this
      obtain ⟨mA, h1, _⟩ := this
      obtain ⟨o, es, ep, h1, _⟩ := h1
      exact ⟨o, h1⟩
    have J : PySem.W.InstAt s.heap a oe D (some o) := ⟨hget, hz.1, by unfold PySem.W.notCls; rw [hv], by rw [hz.2]; exact ho⟩
    exact PySem.W.kia_one (PySem.W.kitx_exc hc C.hg C.hk C.hs C.ha C.hn C.ht C.hm) (show X.K.In s.heap from Inv.kIn (X := X.suite a ((a, oe) :: pn)) I) J e (fun z => nomatch z) fun tk => ⟨.bl b, H, Inv.kept I fun x x_1 z => z, rfl, q⟩
end PD

set_option Elab.async false
set_option linter.all false
set_option maxRecDepth 100000
set_option maxHeartbeats 4000000
/-! a try at the head of a def: what a suite may know, and its body read by data -/
namespace PD
open PySem PySem.Spec PyProof.Rows L2
theorem tx_inv {X : Cx} {pins : List (Addr × Obj)} {σ : L2.St} {H : Hp} {s : Shared} (I : L2.Inv X pins σ H s) : TX X.H_0 H := fun a u i e => by
  cases u with
  | tup xs => exact I.base.tups a xs e
  | frz o u => exact I.base.frzs a o u e
  | _ => exact i.elim
/-- a suite may lean on what never changes since the def began -/
theorem pss_tx {X : Cx} {b : List Stmt} {t : TS} (p : PSs X b t) : PSs X b (fun D σ H => TX X.H_0 H → t D σ H) :=
  ⟨fun pins s σ H D I h => p.run pins s σ H D I (h (tx_inv I))⟩
/-- a reading by data as one of heaps -/
def liftS (K : PySem.W.Frag) (d : DS) : TS := fun E s H => ∃ sd m Ed, RS K H sd s ∧ RM K H m ∧ d Ed sd m ∧
  (∀ s' H' sd' m', TX H H' → RS K H' sd' s' → RM K H' m' → Ed.nx sd' m' → E.nx s' H') ∧
  (∀ v H' dv m', TX H H' → RM K H' m' → Rep K H' dv v → Ed.rt dv m' → E.rt v H') ∧
  (∀ s' H' sd' m', TX H H' → RS K H' sd' s' → RM K H' m' → Ed.bk sd' m' → E.bk s' H') ∧
  ∀ s' H' sd' m', TX H H' → RS K H' sd' s' → RM K H' m' → Ed.ct sd' m' → E.ct s' H'
theorem pss_lift {X : Cx} {b : List Stmt} {d : DS} (g : GSs X b d) : PSs X b (liftS X.K d) := by
  obtain ⟨t, p, l⟩ := g.ex
  exact ⟨fun pins s σ H D I ⟨sd, m, Ed, a, b, c, k1, k2, k3, k4⟩ => p.run pins s σ H D I (l σ H sd m Ed D a b c k1 k2 k3 k4)⟩
/-- the errors that W takes -/
def EdOf (K : PySem.W.Frag) (W : WX) : DX := fun cls fs m => ∀ d σ H, RM K H m → FldR K H fs d → W cls d σ H
theorem takes_ed {X : Cx} {W : WX} (h : Takes X W) : Takes X (wX X.K (EdOf X.K W)) := Takes.imp h fun _ d σ H ⟨_, _, a, b, c⟩ => c d σ H a b
section
variable {P : Program} {w : World} {K : PySem.W.Frag} {mg : Str → Option Value} {base : Heap}
/-- def f(..): try: body except ..: suites; then a return. The body always raises here, one of the errors that the suites read -/
theorem fn_okT {x qual : Str} {st : Stmt} {f : Addr} {fd : FuncData} {N ps : List Str} {k : Nat} {sd : SpD} {db : DX → DS} {body rest : List Stmt} {h₀ : ExceptHandler} {hds : List ExceptHandler} {pos : Pos} {tr : TS}
    (F : Fun K x qual st f fd) (S : FnScope N ps (defScope st)) (hst : defBody st = .Try body (h₀ :: hds) [] [] pos :: rest)
    (hb : ∀ (cdv : Value) (A : Around) (outer : List Env) (s : Shared) (H : Hp) (E : XK) (pn : List (Addr × Obj)) (xe : Value → Shared → Prop) (Ed : DX), Room k (A.deeper (envOfC qual (defScope st) s.heap.objs.size f cdv)) →
      Takes ((cxOf CX0 P w K mg base N qual (defScope st) f cdv A outer s H E).nox.tr pn xe) (wX K Ed) → GSs ((cxOf CX0 P w K mg base N qual (defScope st) f cdv A outer s H E).nox.tr pn xe) body (db Ed))
    (hh : ∀ (cdv : Value) (A : Around) (outer : List Env) (s : Shared) (H : Hp) (E : XK), Room k (A.deeper (envOfC qual (defScope st) s.heap.objs.size f cdv)) →
      ∃ l, Hs (cxOf CX0 P w K mg base N qual (defScope st) f cdv A outer s H E).nox (h₀ :: hds) l ∧ PSs (cxOf CX0 P w K mg base N qual (defScope st) f cdv A outer s H E).nox rest tr ∧
        ∀ ds m Qd (D : Ends), sd ds m Qd → (∀ v H' dv m', TX H H' → RM K H' m' → Rep K H' dv v → Qd dv m' → D.rt v H') → ∀ Ed : DX, (∀ cls fs m', (∀ d σ H', RM K H' m' → FldR K H' fs d → wHs K (fun _ _ _ _ => False) D l cls d σ H') → Ed cls fs m') → db Ed { nx := fun _ _ => False, rt := fun _ _ => False } (startD N ds) m) :
    FnOk P w K mg base CX0 (k + 1) f fd ps (spL K ps.length sd) := by
  refine F.ok S (fun vs H Q E ⟨ds, m, Qd, r, rm, h, _⟩ => by rw [← r.length]; exact h.1) fun cdv A outer s H vs Q E hr ⟨ds, m, Qd, r, rm, ⟨_, h⟩, kq⟩ => ?_
  obtain ⟨l, hl, pr, hd⟩ := hh cdv A outer s H E hr
  rw [hst]
  refine ⟨_, pss_cons (ps_try_hs (tb := fun W => liftS K (db (EdOf K W))) rfl rfl takes0 (fun W pn xe tk _ => pss_lift (hb cdv A outer s H E pn xe _ hr (takes_ed tk))) hl) pr, ?_⟩
  refine ⟨startD N ds, m, { nx := fun _ _ => False, rt := fun _ _ => False }, rs_start r, rm, hd ds m Qd _ h (fun v H' dv m' t a b c => kq v H' dv m' t a b c) _ (fun cls fs m' hw => hw), ?_, ?_, ?_, ?_⟩
  · intro _ _ _ _ _ _ _ h; exact h.elim
  · intro _ _ _ _ _ _ _ h; exact h.elim
  · intro _ _ _ _ _ _ _ h; exact h.elim
  · intro _ _ _ _ _ _ _ h; exact h.elim
end
end PD

set_option Elab.async false
set_option linter.all false
set_option maxRecDepth 100000
set_option maxHeartbeats 4000000
/-! a suite that reads its error: its int field, its classes. The error's dict stands in the store as what it is. -/
namespace PD
open PySem PySem.Spec PyProof.Rows L2
def dXf (a : Addr) (d : Option Addr) (n : Str) (de : DE) : DE := fun s m Q => de s m fun x m1 => x = .ref a ∧ ∃ (dd : Addr) (vs : List (Str × V)) (i : Int), d = some dd ∧ m1 dd = some (.oth (.xd vs)) ∧ vs.lookup n = some (.int i) ∧ Q (.int i) m1
def dIsE (a : Addr) (d : Option Addr) (b : Bool) (de : DE) : DE := fun s m Q => de s m fun x m1 => x = .ref a ∧ ∃ (dd : Addr) (vs : List (Str × V)), d = some dd ∧ m1 dd = some (.oth (.xd vs)) ∧ Q (.bl b) m1
section
variable {X : Cx} {a C : Addr} {oe : Obj} {d : Option Addr} {pn : List (Addr × Obj)}
theorem ge_xf {e : Expr} {de : DE} {pos : Pos} {n : Str} (XF : XfC X.K C) (hno : PySem.W.findIn X.K (.ref C) n = some none) (hz : Zc (.ref C) d oe) (hf : ∃ vs, oe.data = .fields vs) (he : GE (X.suite a ((a, oe) :: pn)) e de) (hab : attributeBase e n X.env (eval e X.env) = eval e X.env := by rfl) :
    GE (X.suite a ((a, oe) :: pn)) (.Attribute e n pos) (dXf a d n de) := by
  obtain ⟨te, p, l⟩ := he.ex
  refine .of ⟨_, pe_xf XF hno hz hf p hab, fun s H sd m Qd Q rs rm h k => ?_⟩
  refine l s H sd m _ _ rs rm h fun v H1 dv m1 t1 rm1 r1 ⟨e1, dd, vs, i, e2, e3, e4, h1⟩ => ?_
  subst e1
  cases r1
  exact ⟨rfl, rfl, dd, vs, .int i, e2, rm1 dd _ e3, e4, k _ H1 _ m1 t1 rm1 (.int i) h1⟩
theorem ge_isE {e : Expr} {de : DE} {p q pos : Pos} {y : Str} {c : V} {cv : Value} {b : Bool} (EC : ExcC X.K C) (hc : (PySem.W.clsIn X.K C).isSome = true) (hz : Zc (.ref C) d oe) (hf : ∃ vs, oe.data = .fields vs) (hg : Gl X "isinstance") (ma9 : X.mg "isinstance" = none)
    (he : GE (X.suite a ((a, oe) :: pn)) e de) (hy : PE (X.suite a ((a, oe) :: pn)) (.Name y q) (tC c)) (hcv : ∀ u, RelV c u → u = cv) (hk : PySem.W.kitOne X.K (.ref C) cv = some b)
    (hs1 : starEach [e, .Name y q] X.env = (false, eval e X.env) :: starEach [.Name y q] X.env := by rfl) (hs2 : starEach [.Name y q] X.env = (false, eval (.Name y q) X.env) :: starEach [] X.env := by rfl)
    (hpl : (backTo pos (starEach [.Name y q] X.env)).any (·.1) = false := by rfl) (hv : bootBuiltins "isinstance" = some (.builtin "isinstance") := by decide +kernel) :
    GE (X.suite a ((a, oe) :: pn)) (.Call (.Name "isinstance" p) [e, .Name y q] [] pos) (dIsE a d b de) := by
  obtain ⟨te, pt, l⟩ := he.ex
  refine .of ⟨_, pe_callB (call_isEd EC hc hz hf) hg ma9 hv (pa_cons pt (pa_cons hy pa_nil hs2) hs1) (by decide) (by decide) hs1 hpl, fun s H sd m Qd Q rs rm h k => ?_⟩
  refine l s H sd m _ _ rs rm h fun v H1 dv m1 t1 rm1 r1 ⟨e1, dd, vs, e2, e3, h1⟩ => ?_
  subst e1
  cases r1
  exact ⟨c, cv, b, dd, vs, rfl, hcv, hk, e2, rm1 dd _ e3, k _ H1 _ m1 t1 rm1 (.bl b) h1⟩
end
end PD

set_option Elab.async false
set_option linter.all false
set_option maxRecDepth 100000
set_option maxHeartbeats 4000000
/-! Finished dicts and instances become values. -/
namespace PD
open PySem PySem.Spec PyProof.Rows L2
theorem TX.mut {H : Hp} {p : Addr} {u o : HO} (h : H p = some u) (n : ¬ Imm u) : TX H (upd H p o) := fun a v i e => by
  rw [upd_ne (fun z => by rw [z, h] at e; cases e; exact n i)]; exact e
theorem RM.frzG {K : PySem.W.Frag} {H : Hp} {m : Mu} {p : Addr} {u : HO} {od : Obj} (r : RM K H m) (h : H p = some u) (n : ¬ Imm u) : RM K (upd H p (.frz od u)) (mdel m p) := fun a o e => by
  by_cases ha : a = p
  · subst ha; unfold mdel at e; rw [if_pos rfl] at e; cases e
  · rw [mdel_ne ha] at e
    refine (r a o e).tx (.mut h n) fun us z => ?_
    rw [upd_ne ha]; exact z
def tFrzG (t : TE) : TE := fun τ H Q => t τ H fun x H1 => ∃ p u, x = .ref p ∧ H1 p = some u ∧ Mut (some u) ∧ ∀ od, Q x (upd H1 p (.frz od u))
section
variable {X : Cx}
theorem pe_frzG {e : Expr} {t : TE} (h : PE X e t) : PE X e (tFrzG t) := by
  refine ⟨fun pz s τ H Q I hw => ?_⟩
  refine thn (h.run pz s τ H _ I hw) fun v s1 ⟨x, H1, I1, r, p, u, ex, hp, mu, q⟩ => ?_
  subst ex
  obtain ⟨od, I2⟩ := I1.lock hp mu
  exact ⟨_, _, I2, r, q od⟩
def dFrzD (d : DE) : DE := fun s m Q => d s m fun x m1 => ∃ p kvs, x = .ref p ∧ m1 p = some (.dct kvs) ∧ Q (.dic (kvs.map (·.1)) (kvs.map (·.2))) (mdel m1 p)
def dFrzT (d : DE) : DE := fun s m Q => d s m fun x m1 => ∃ p kvs, x = .ref p ∧ m1 p = some (.dcT kvs) ∧ Q (.dicT (kvs.map (·.1)) (kvs.map (·.2))) (mdel m1 p)
def dFrzO (C : Addr) (d : DE) : DE := fun s m Q => d s m fun x m1 => ∃ p fs, x = .ref p ∧ m1 p = some (.ins C fs) ∧ Q (.obj C (fs.map (·.1)) (fs.map (·.2))) (mdel m1 p)
theorem ge_frzD {e : Expr} {d : DE} (h : GE X e d) : GE X e (dFrzD d) := by
  obtain ⟨t, p, l⟩ := h.ex
  refine .of ⟨_, pe_frzG p, fun s H sd m Qd Q rs rm h k => ?_⟩
  refine l s H sd m _ _ rs rm h fun v H1 dv m1 t1 rm1 r1 ⟨p, kvs, ex, e1, q⟩ => ?_
  subst ex
  cases r1
  obtain ⟨us, e2, e3, r2⟩ := rm1 p _ e1
  have t2 : ∀ od, TX H1 (upd H1 p (.frz od (.dK us))) := fun od => .mut e2 (fun z => z)
  exact ⟨p, _, rfl, e2, trivial, fun od => k _ _ _ _ (t1.trans (t2 od)) (rm1.frzG e2 (fun z => z)) (.dic upd_same e3 (r2.mono (t2 od))) q⟩
theorem ge_frzT {e : Expr} {d : DE} (h : GE X e d) : GE X e (dFrzT d) := by
  obtain ⟨t, p, l⟩ := h.ex
  refine .of ⟨_, pe_frzG p, fun s H sd m Qd Q rs rm h k => ?_⟩
  refine l s H sd m _ _ rs rm h fun v H1 dv m1 t1 rm1 r1 ⟨p, kvs, ex, e1, q⟩ => ?_
  subst ex
  cases r1
  obtain ⟨us, e2, e3, r2⟩ := rm1 p _ e1
  have t2 : ∀ od, TX H1 (upd H1 p (.frz od (.dT us))) := fun od => .mut e2 (fun z => z)
  exact ⟨p, _, rfl, e2, trivial, fun od => k _ _ _ _ (t1.trans (t2 od)) (rm1.frzG e2 (fun z => z)) (.dicT upd_same e3 (r2.mono (t2 od))) q⟩
theorem ge_frzO {e : Expr} {d : DE} {C : Addr} (h : GE X e d) : GE X e (dFrzO C d) := by
  obtain ⟨t, p, l⟩ := h.ex
  refine .of ⟨_, pe_frzG p, fun s H sd m Qd Q rs rm h k => ?_⟩
  refine l s H sd m _ _ rs rm h fun v H1 dv m1 t1 rm1 r1 ⟨p, fs, ex, e1, q⟩ => ?_
  subst ex
  cases r1
  obtain ⟨dx, us, e2, e3, r2⟩ := rm1 p _ e1
  have t2 : ∀ od, TX H1 (upd H1 p (.frz od (.ins C dx us))) := fun od => .mut e2 (fun z => z)
  exact ⟨p, _, rfl, e2, trivial, fun od => k _ _ _ _ (t1.trans (t2 od)) (rm1.frzG e2 (fun z => z)) (.obj upd_same e3 (r2.mono (t2 od))) q⟩
end
/-! ### fields and methods of instances that stay -/
def lookF (f : Str) : List Str → List D → Option D
  | g :: gs, d :: ds => if f == g then some d else lookF f gs ds
  | _, _ => none
theorem lookF_rep {K : PySem.W.Frag} {H : Hp} {f : Str} : ∀ {gs : List Str} {ds : List D} {us : List (Str × V)}, us.map (·.1) = gs → RepL K H ds (us.map (·.2)) → (∀ d, lookF f gs ds = some d → ∃ v, us.lookup f = some v ∧ Rep K H d v) ∧ (lookF f gs ds = none → us.lookup f = none)
  | _, _, [], e, _ => by subst e; exact ⟨fun _ h => (nomatch h), fun _ => rfl⟩
  | _, _, (g, v) :: us, e, r => by
    subst e
    cases r with
    | cons r1 r2 =>
      have ih := lookF_rep (f := f) rfl r2
      simp only [List.map_cons, lookF, List.lookup_cons]
      cases q : (f == g) with
      | true => simp only [if_true]; exact ⟨fun d h => by cases h; exact ⟨v, rfl, r1⟩, fun h => (nomatch h)⟩
      | false => simp only [Bool.false_eq_true, if_false]; exact ih
def dFldV (C : Addr) (f : Str) (x : D) (m : Mu) (Q : DK) : Prop := match x with
  | .obj C' fs ds => C' = C ∧ ∃ v, lookF f fs ds = some v ∧ Q v m
  | _ => False
def dFldO (C : Addr) (f : Str) (de : DE) : DE := fun s m Q => de s m fun x m1 => dFldV C f x m1 Q
theorem dFldV_o {C : Addr} {f : Str} {fs : List Str} {ds : List D} {m : Mu} {Q : DK} : dFldV C f (.obj C fs ds) m Q = ∃ v, lookF f fs ds = some v ∧ Q v m := by
  show (C = C ∧ _) = _
  rw [eq_self, true_and]
section
variable {P : Program} {w : World} {H : Hp} {h : Heap} {a C dx : Addr} {fs : List (Str × V)}
theorem ins_rd (hok : HOk P w H h) (e : Rd H a (.ins C dx fs)) : ∃ mA, ObjM h a dx C mA ∧ (∀ f, RelO (fs.lookup f) (mA f)) := by
  obtain ⟨d, z, ne, ob, mA, n, r, q⟩ := (show ObjOk P w H h a (.ins C dx fs) from e.ok hok)
  exact ⟨mA, ⟨ob, n, ne⟩, r⟩
end
section
variable {X : Cx} {o e : Expr} {f : Str} {pos : Pos}
def tFldR (K : PySem.W.Frag) (ta : TE) (f : Str) : TE := fun τ H Q => ta τ H fun x H1 => ∃ a C dx fs v, x = .ref a ∧ Rd H1 a (.ins C dx fs) ∧ Cls K C ∧ NoAttr K C f ∧ fs.lookup f = some v ∧ Q v H1
theorem pe_fldR {ta : TE} (he : PE X e ta) (hb : attributeBase e f X.env (eval e X.env) = eval e X.env) : PE X (.Attribute e f pos) (tFldR X.K ta f) := by
  refine ⟨fun pz s τ H Q I h => ?_⟩
  refine attr_of hb (thn (he.run pz s τ H _ I h) fun u s1 ⟨x, H1, I1, rx, a, C, dx, fs, v, ex, ea, c, n, l, q⟩ => ?_)
  subst ex
  obtain rfl : u = Value.ref a := rx
  obtain ⟨mA, O, r⟩ := ins_rd I1.hok ea
  obtain ⟨u2, hu, ru⟩ := RelO.some_of (v := v) (o := mA f) (by rw [← l]; exact r f)
  exact get_map I1.kIn O (c.get f) c.hd n hu (handed_of ru) ⟨v, H1, I1.tok _, ru, q⟩
theorem ge_fldO {C : Addr} {de : DE} (c : Cls X.K C) (n : NoAttr X.K C f) (he : GE X e de) (hb : attributeBase e f X.env (eval e X.env) = eval e X.env := by rfl) : GE X (.Attribute e f pos) (dFldO C f de) := by
  obtain ⟨te, pt, l⟩ := he.ex
  refine .of ⟨_, pe_fldR pt hb, fun s H sd m Qd Q rs rm h k => l s H sd m _ _ rs rm h fun v H1 dv m1 t1 rm1 r1 h1 => ?_⟩
  cases r1 with
  | @obj C' fs ds a dx ob us ea en r =>
    obtain ⟨rfl, d, e3, h2⟩ := h1
    obtain ⟨v', e6, r6⟩ := (lookF_rep en r).1 d e3
    exact ⟨a, _, dx, us, v', rfl, .inr ⟨ob, ea⟩, c, n, e6, k _ _ _ _ t1 rm1 r6 h2⟩
  | _ => exact h1.elim
/-! methods -/
def tMethR (C : Addr) (m : Str) (sp : Sp) (dvs : List V) (E : XK) (ta : TE) (t : TA) : TE := fun τ H Q => ta τ H fun x H1 => ∃ a dx fs, x = .ref a ∧ Rd H1 a (.ins C dx fs) ∧ fs.lookup m = none ∧
  t τ H1 fun vs H2 => sp (x :: (vs ++ dvs)) H2 Q E
theorem getmeth_rd {pins : List (Addr × Obj)} {τ : L2.St} {H : Hp} {s : Shared} {a C dx : Addr} {fs : List (Str × V)} {m : Str} {g : Addr} {pl : Sem Bool} {A : Around} {E : Value → Shared → Prop} {Q : Value × List Value → Shared → Prop} (I : Inv X pins τ H s) (e : Rd H a (.ins C dx fs)) (c : Cls X.K C) (k : Meth X.K C m g) (l : fs.lookup m = none)
    (h : Q (.ref g, [.ref a]) s) : wpAny (model X.prog X.w) A (getMethod (.ref a) m pl) Q E s := by
  obtain ⟨mA, O, r⟩ := ins_rd I.hok e
  have hn : mA m = none := RelO.none_of (by rw [← l]; exact r m)
  exact get_meth I.kIn O (c.get m) k.at_ k.fn hn h
theorem pe_methR {C g : Addr} {k : Nat} {fd : FuncData} {ps : List Str} {sp : Sp} {CX : CXT} {dvs : List V} {E : XK} {mn : Str} {es : List Expr} {ta : TE} {t : TA} {apos : Pos} {dvz : List Value} {pl : Sem Bool} (he : PE X o ta) (c : Cls X.K C) (hm : Meth X.K C mn g) (F : FnOk X.prog X.w X.K X.mg X.base CX k g fd ps sp) (hr : Room k X.A) (hb : Binds X.K fd ps dvz) (hd : Vals dvs dvz) (hx : Passes CX X E) (ha : PA X (e :: es) t)
    (hst : starEach (e :: es) X.env = (false, eval e X.env) :: starEach es X.env := by rfl) (hpl : (backTo pos (starEach es X.env)).any (·.1) = false := by rfl)
    (ht : eval (.Call (.Attribute o mn apos) (e :: es) [] pos) X.env = (do
      let ov9 ← eval o X.env
      standAt apos.atName
      let (f, first) ← holding [ov9] (getMethod ov9 mn pl)
      callWith pos f first (backTo pos (starEach (e :: es) X.env)) (backToKw pos (keywordEach [] X.env))) := by rfl) :
    PE X (.Call (.Attribute o mn apos) (e :: es) [] pos) (tMethR C mn sp dvs E ta t) := by
  refine ⟨fun pz s τ H Q I h => ?_⟩
  refine PySem.W.methodCall_KW (pl := pl) (thn (he.run pz s τ H _ I h) fun u s1 ⟨x, H1, I1, rx, a, dx, fs, ex, ea, l, q⟩ => ?_) ht
  subst ex
  obtain rfl : u = Value.ref a := rx
  refine getmeth_rd I1 ea c hm l ?_
  refine PySem.W.callWith_K (first := [.ref a]) (h₀ := X.base) I.ok.mod.kin hm.kp (thn (ha.run pos pz s1 τ H1 _ I1 q) fun us s2 ⟨vs, H2, I2, r, q2⟩ => ⟨I2.kIn, ?_⟩) hst hpl
  exact run_fn (us := .ref a :: us) (vs := .ref a :: vs) F hr hb hd hx I2 (.cons rfl r) q2
theorem pe_methR0 {C g : Addr} {k : Nat} {fd : FuncData} {ps : List Str} {sp : Sp} {CX : CXT} {dvs : List V} {E : XK} {mn : Str} {ta : TE} {apos : Pos} {dvz : List Value} {pl : Sem Bool} (he : PE X o ta) (c : Cls X.K C) (hm : Meth X.K C mn g) (F : FnOk X.prog X.w X.K X.mg X.base CX k g fd ps sp) (hr : Room k X.A) (hb : Binds X.K fd ps dvz) (hd : Vals dvs dvz) (hx : Passes CX X E)
    (ht : eval (.Call (.Attribute o mn apos) [] [] pos) X.env = (do
      let ov9 ← eval o X.env
      standAt apos.atName
      let (f, first) ← holding [ov9] (getMethod ov9 mn pl)
      callWith pos f first (backTo pos (starEach [] X.env)) (backToKw pos (keywordEach [] X.env))) := by rfl) :
    PE X (.Call (.Attribute o mn apos) [] [] pos) (tMethR C mn sp dvs E ta tNil) := by
  refine ⟨fun pz s τ H Q I h => ?_⟩
  refine PySem.W.methodCall_KW (pl := pl) (thn (he.run pz s τ H _ I h) fun u s1 ⟨x, H1, I1, rx, a, dx, fs, ex, ea, l, q⟩ => ?_) ht
  subst ex
  obtain rfl : u = Value.ref a := rx
  refine getmeth_rd I1 ea c hm l ?_
  exact PySem.W.callWith_K0 (first := [.ref a]) I1.kIn hm.kp (run_fn (us := [.ref a]) (vs := [.ref a]) F hr hb hd hx I1 (.cons rfl .nil) q)
def dMethV (C : Addr) (mn : Str) (n : Nat) (sd : SpD) (x : D) (a : (List D → Mu → Prop) → Prop) (Q : DK) : Prop := match x with
  | .obj C' fs ds => C' = C ∧ lookF mn fs ds = none ∧ a fun es m2 => es.length + 1 = n ∧ sd (.obj C' fs ds :: es) m2 Q
  | _ => False
theorem dMethV_o {C : Addr} {mn : Str} {n : Nat} {sd : SpD} {fs : List Str} {ds : List D} {a : (List D → Mu → Prop) → Prop} {Q : DK} : dMethV C mn n sd (.obj C fs ds) a Q = (lookF mn fs ds = none ∧ a fun es m2 => es.length + 1 = n ∧ sd (.obj C fs ds :: es) m2 Q) := by
  show (C = C ∧ _) = _
  rw [eq_self, true_and]
def dMethO (C : Addr) (mn : Str) (n : Nat) (sd : SpD) (de : DE) (da : DA) : DE := fun s m Q => de s m fun x m1 => dMethV C mn n sd x (fun k => da s m1 k) Q
theorem ge_methO {C g : Addr} {k n : Nat} {fd : FuncData} {ps : List Str} {sd : SpD} {mn : Str} {es : List Expr} {de : DE} {da : DA} {apos : Pos} {pl : Sem Bool} (c : Cls X.K C) (hm : Meth X.K C mn g) (F : FnOk X.prog X.w X.K X.mg X.base CX0 k g fd ps (spL X.K n sd)) (hr : Room k X.A) (hb : Binds X.K fd ps []) (he : GE X o de)
    (ha : GA X (e :: es) da) (hst : starEach (e :: es) X.env = (false, eval e X.env) :: starEach es X.env := by rfl) (hpl : (backTo pos (starEach es X.env)).any (·.1) = false := by rfl)
    (ht : eval (.Call (.Attribute o mn apos) (e :: es) [] pos) X.env = (do
      let ov9 ← eval o X.env
      standAt apos.atName
      let (f, first) ← holding [ov9] (getMethod ov9 mn pl)
      callWith pos f first (backTo pos (starEach (e :: es) X.env)) (backToKw pos (keywordEach [] X.env))) := by rfl) :
    GE X (.Call (.Attribute o mn apos) (e :: es) [] pos) (dMethO C mn n sd de da) := by
  obtain ⟨te, pt, l⟩ := he.ex
  obtain ⟨ta, q, la⟩ := ha.ex
  refine .of ⟨_, pe_methR (E := E0) pt c hm F hr hb .nil pass0 q hst hpl ht, fun s H sd' m Qd Q rs rm h k => ?_⟩
  refine l s H sd' m _ _ rs rm h fun x H1 dx1 m1 t1 rm1 r1 h1 => ?_
  cases r1 with
  | @obj C' fs ds a dx ob us ea en r =>
    obtain ⟨rfl, e3, h2⟩ := h1
    refine ⟨a, dx, us, rfl, .inr ⟨ob, ea⟩, (lookF_rep en r).2 e3, ?_⟩
    refine la s H1 sd' m1 _ _ (rs.mono t1) rm1 h2 fun vs H2 es2 m2 t2 rm2 r2 h3 => ?_
    rw [List.append_nil]
    exact ⟨_ :: es2, m2, Qd, .cons (Rep.mono t2 (.obj ea en r)) r2, rm2, ⟨h3.1, h3.2⟩, fun v' H' dv' m' t' a b c => k v' H' dv' m' (t1.trans (t2.trans t')) a b c⟩
  | _ => exact h1.elim
theorem ge_methO0 {C g : Addr} {k n : Nat} {fd : FuncData} {ps : List Str} {sd : SpD} {mn : Str} {de : DE} {apos : Pos} {pl : Sem Bool} (c : Cls X.K C) (hm : Meth X.K C mn g) (F : FnOk X.prog X.w X.K X.mg X.base CX0 k g fd ps (spL X.K n sd)) (hr : Room k X.A) (hb : Binds X.K fd ps []) (he : GE X o de)
    (ht : eval (.Call (.Attribute o mn apos) [] [] pos) X.env = (do
      let ov9 ← eval o X.env
      standAt apos.atName
      let (f, first) ← holding [ov9] (getMethod ov9 mn pl)
      callWith pos f first (backTo pos (starEach [] X.env)) (backToKw pos (keywordEach [] X.env))) := by rfl) :
    GE X (.Call (.Attribute o mn apos) [] [] pos) (dMethO C mn n sd de dNil) := by
  obtain ⟨te, pt, l⟩ := he.ex
  refine .of ⟨_, pe_methR0 (E := E0) pt c hm F hr hb .nil pass0 ht, fun s H sd' m Qd Q rs rm h k => ?_⟩
  refine l s H sd' m _ _ rs rm h fun x H1 dx1 m1 t1 rm1 r1 h1 => ?_
  cases r1 with
  | @obj C' fs ds a dx ob us ea en r =>
    obtain ⟨rfl, e3, h2⟩ := h1
    refine ⟨a, dx, us, rfl, .inr ⟨ob, ea⟩, (lookF_rep en r).2 e3, ?_⟩
    exact ⟨[_], m1, Qd, .cons (.obj ea en r) .nil, rm1, ⟨h2.1, h2.2⟩, fun v' H' dv' m' t' a b c => k v' H' dv' m' (t1.trans t') a b c⟩
  | _ => exact h1.elim
end
end PD

set_option Elab.async false
set_option linter.all false
set_option maxRecDepth 100000
set_option maxHeartbeats 4000000
/-! Dicts, finished or not: asked, walked, made by a comprehension. -/
namespace PD
open PySem PySem.Spec PyProof.Rows L2
def dicOf (kvs : List (Key × D)) : D := .dic (kvs.map (·.1)) (kvs.map (·.2))
def dicTOf (kvs : List (List Key × D)) : D := .dicT (kvs.map (·.1)) (kvs.map (·.2))
theorem zip_self {α β : Type} : ∀ l : List (α × β), (l.map (·.1)).zip (l.map (·.2)) = l
  | [] => rfl
  | x :: l => by rw [List.map_cons, List.map_cons, List.zip_cons_cons, zip_self l]
def dctOf (m : Mu) : D → Option (List (Key × D))
  | .dic ks ds => some (ks.zip ds)
  | .ref a => match m a with | some (.dct kvs) => some kvs | _ => none
  | _ => none
theorem dct_dic {m : Mu} {kvs : List (Key × D)} : dctOf m (dicOf kvs) = some kvs := by
  show some ((kvs.map (·.1)).zip (kvs.map (·.2))) = _
  rw [zip_self]
theorem dct_ref {m : Mu} {a : Addr} {kvs : List (Key × D)} (h : m a = some (.dct kvs)) : dctOf m (.ref a) = some kvs := by unfold dctOf; simp only [h]
theorem map_snd_of {α β γ : Type} {us : List (α × β)} {ds : List γ} (h : ds.length = us.length) : ((us.map (·.1)).zip ds).map (·.1) = us.map (·.1) ∧ ((us.map (·.1)).zip ds).map (·.2) = ds :=
  ⟨List.map_fst_zip (by rw [List.length_map]; omega), List.map_snd_zip (by rw [List.length_map]; omega)⟩
theorem dct_rep {K : PySem.W.Frag} {H : Hp} {m : Mu} {d : D} {v : V} {kvs : List (Key × D)} (rm : RM K H m) (r : Rep K H d v) (h : dctOf m d = some kvs) :
    ∃ a us, v = .ref a ∧ Rd H a (.dK us) ∧ us.map (·.1) = kvs.map (·.1) ∧ RepL K H (kvs.map (·.2)) (us.map (·.2)) := by
  cases r with
  | @dic ks ds a o us ea en r =>
    unfold dctOf at h
    cases h
    have hl := r.length
    rw [List.length_map] at hl
    obtain ⟨z1, z2⟩ := map_snd_of (us := us) hl
    subst en
    exact ⟨a, us, rfl, .inr ⟨o, ea⟩, z1.symm, by rw [z2]; exact r⟩
  | ref a =>
    unfold dctOf at h
    cases e : m a with
    | none => simp only [e] at h; cases h
    | some o =>
      have q := rm a o e
      cases o with
      | dct es => simp only [e] at h; cases h; obtain ⟨us, e2, e3, r⟩ := q; exact ⟨a, us, rfl, .inl e2, e3, r⟩
      | _ => simp only [e] at h; cases h
  | _ => unfold dctOf at h; cases h
theorem dget_rd {H : Hp} {a : Addr} {us : List (Key × V)} {k : Key} (e : Rd H a (.dK us)) : DGet H a (kV k) (valV us k) := .inl ⟨us, k, e, rfl, rfl⟩
def dGetV (x y : D) (m : Mu) (Q : DK) : Prop := ∃ kvs, dctOf m x = some kvs ∧ ∃ k, toKey y = some k ∧ ∃ d, valD kvs k = some d ∧ Q d m
def dInV (f : Bool → Bool) (y x : D) (m : Mu) (Q : DK) : Prop := ∃ kvs, dctOf m x = some kvs ∧ ∃ k, toKey y = some k ∧ Q (.bl (f (valD kvs k).isSome)) m
def dDGetU (dd dk : DE) : DE := fun s m Q => dd s m fun x m1 => dk s m1 fun y m2 => dGetV x y m2 Q
def dDInU (f : Bool → Bool) (dk dd : DE) : DE := fun s m Q => dk s m fun y m1 => dd s m1 fun x m2 => dInV f y x m2 Q
def dGet2V (x y z : D) (m : Mu) (Q : DK) : Prop := ∃ kvs, dctOf m x = some kvs ∧ ∃ k, toKey y = some k ∧ Q ((valD kvs k).getD z) m
def dDGet2U (dd dk dx : DE) : DE := fun s m Q => dd s m fun x m1 => (dctOf m1 x).isSome = true ∧ dk s m1 fun y m2 => dx s m2 fun z m3 => dGet2V x y z m3 Q
section
variable {X : Cx} {o i e f : Expr} {pos apos cpos : Pos} {dd dk dx : DE}
theorem ge_dgetU (hu : X.A.units + 1 < cLine) (ho : GE X o dd) (hi : GE X i dk) (hs : NoSl i) : GE X (.Subscript o i pos) (dDGetU dd dk) := by
  obtain ⟨td, pd, ld⟩ := ho.ex
  obtain ⟨ti, pi, li⟩ := hi.ex
  refine .of ⟨_, pe_dget hu pd pi hs, fun s H sd m Qd Q rs rm h k => ?_⟩
  refine ld s H sd m _ _ rs rm h fun x H1 dx m1 t1 rm1 r1 h1 => ?_
  refine li s H1 sd m1 _ _ (rs.mono t1) rm1 h1 fun y H2 dy m2 t2 rm2 r2 h2 => ?_
  obtain ⟨kvs, e2, kk, e3, d, e4, h3⟩ := h2
  obtain ⟨a, us, rfl, e5, e6, r⟩ := dct_rep rm2 (r1.mono t2) e2
  obtain ⟨v, e7, r7⟩ := (val_rep e6 r).1 d e4
  have hy := key_rep r2 e3
  subst hy
  exact ⟨a, v, rfl, by rw [← e7]; exact dget_rd e5, k _ _ _ _ (t1.trans t2) rm2 r7 h3⟩
theorem gt_dinU (hu : X.A.units + 1 < cLine) (hi : GE X i dk) (ho : GE X o dd) (hm : behindInMarks .In o = false := by rfl) : GT X (.Compare i [.In] [o] pos) (dTest (dDInU (fun b => b) dk dd)) := by
  obtain ⟨td, pd, ld⟩ := ho.ex
  obtain ⟨ti, pi, li⟩ := hi.ex
  refine .of ⟨_, pt_cmp (pc_din hu pi pd) hm, LE.testB fun s H sd m Qd Q rs rm h k => ?_⟩
  refine li s H sd m _ _ rs rm h fun y H1 dy m1 t1 rm1 r1 h1 => ?_
  refine ld s H1 sd m1 _ _ (rs.mono t1) rm1 h1 fun x H2 dx m2 t2 rm2 r2 h2 => ?_
  obtain ⟨kvs, e2, kk, e3, h3⟩ := h2
  obtain ⟨a, us, rfl, e5, e6, r⟩ := dct_rep rm2 r2 e2
  have hy := key_rep (r1.mono t2) e3
  subst hy
  refine ⟨a, _, rfl, dget_rd e5, ?_⟩
  rw [val_some e6 r]
  exact k _ _ _ _ (t1.trans t2) rm2 (.bl _) h3
theorem gt_dnotinU (hu : X.A.units + 1 < cLine) (hi : GE X i dk) (ho : GE X o dd) (hm : behindInMarks .NotIn o = false := by rfl) : GT X (.Compare i [.NotIn] [o] pos) (dTest (dDInU (fun b => !b) dk dd)) := by
  obtain ⟨td, pd, ld⟩ := ho.ex
  obtain ⟨ti, pi, li⟩ := hi.ex
  refine .of ⟨_, pt_cmp (pc_dnotin hu pi pd) hm, LE.testB fun s H sd m Qd Q rs rm h k => ?_⟩
  refine li s H sd m _ _ rs rm h fun y H1 dy m1 t1 rm1 r1 h1 => ?_
  refine ld s H1 sd m1 _ _ (rs.mono t1) rm1 h1 fun x H2 dx m2 t2 rm2 r2 h2 => ?_
  obtain ⟨kvs, e2, kk, e3, h3⟩ := h2
  obtain ⟨a, us, rfl, e5, e6, r⟩ := dct_rep rm2 r2 e2
  have hy := key_rep (r1.mono t2) e3
  subst hy
  refine ⟨a, _, rfl, dget_rd e5, ?_⟩
  rw [val_some e6 r]
  exact k _ _ _ _ (t1.trans t2) rm2 (.bl _) h3
/-! as a value -/
theorem ge_dinU (hu : X.A.units + 1 < cLine) (hi : GE X i dk) (ho : GE X o dd) (hm : behindInMarks .In o = false := by rfl) : GE X (.Compare i [.In] [o] pos) (dDInU (fun b => b) dk dd) := by
  obtain ⟨td, pd, ld⟩ := ho.ex
  obtain ⟨ti, pi, li⟩ := hi.ex
  refine .of ⟨_, pe_cmp (pc_din hu pi pd) hm, fun s H sd m Qd Q rs rm h k => ?_⟩
  refine li s H sd m _ _ rs rm h fun y H1 dy m1 t1 rm1 r1 h1 => ?_
  refine ld s H1 sd m1 _ _ (rs.mono t1) rm1 h1 fun x H2 dx m2 t2 rm2 r2 h2 => ?_
  obtain ⟨kvs, e2, kk, e3, h3⟩ := h2
  obtain ⟨a, us, rfl, e5, e6, r⟩ := dct_rep rm2 r2 e2
  have hy := key_rep (r1.mono t2) e3
  subst hy
  refine ⟨a, _, rfl, dget_rd e5, ?_⟩
  rw [val_some e6 r]
  exact k _ _ _ _ (t1.trans t2) rm2 (.bl _) h3
theorem ge_dget2U (hu : X.A.units + 1 < cLine) (ho : GE X o dd) (he : GE X e dk) (hf : GE X f dx) (m : M2 X o "get" apos e f cpos) : GE X (.Call (.Attribute o "get" apos) [e, f] [] cpos) (dDGet2U dd dk dx) := by
  obtain ⟨td, pd, ld⟩ := ho.ex
  obtain ⟨te, pe, le⟩ := he.ex
  obtain ⟨tf, pf, lf⟩ := hf.ex
  refine .of ⟨_, pe_dget2 hu pd pe pf m, fun s H sd m Qd Q rs rm h k => ?_⟩
  refine ld s H sd m _ _ rs rm h fun x H1 dx1 m1 t1 rm1 r1 h1 => ?_
  obtain ⟨ei, h2⟩ := h1
  obtain ⟨kvs0, e0⟩ := Option.isSome_iff_exists.mp ei
  obtain ⟨a, us0, rfl, e1, _⟩ := dct_rep rm1 r1 e0
  refine ⟨a, rfl, .inl ⟨us0, e1⟩, ?_⟩
  refine le s H1 sd m1 _ _ (rs.mono t1) rm1 h2 fun y H2 dy m2 t2 rm2 r2 h3 => ?_
  refine lf s H2 sd m2 _ _ (rs.mono (t1.trans t2)) rm2 h3 fun z H3 dz m3 t3 rm3 r3 h4 => ?_
  obtain ⟨kvs, e2, kk, e3, h5⟩ := h4
  obtain ⟨a', us, e9, e5, e6, r⟩ := dct_rep rm3 (r1.mono (t2.trans t3)) e2
  cases e9
  have hy := key_rep (r2.mono t3) e3
  subst hy
  refine ⟨_, dget_rd e5, k _ _ _ _ (t1.trans (t2.trans t3)) rm3 ?_ h5⟩
  have z := val_rep (k := kk) e6 r
  cases q : valD kvs kk with
  | none => rw [z.2 q]; exact r3
  | some d => obtain ⟨v, e7, r7⟩ := z.1 d q; rw [e7]; exact r7
end
/-! ### for k in d, d finished -/
def keyD : Key → D
  | .inl i => .int i
  | .inr x => .str x
theorem keyD_rep {K : PySem.W.Frag} {H : Hp} (k : Key) : Rep K H (keyD k) (kV k) := by cases k <;> constructor
def dIKeys (a : DE) : DI := fun s m R => a s m fun x m1 => match x with
  | .dic ks _ => R (ks.map keyD) (fun _ => True) m1
  | _ => False
theorem gi_keys {X : Cx} {tg l : Expr} {a : DE} (h : GE X l a) : GIE X tg l (dIKeys a) :=
  ⟨iKeys (liftE X.K a), pi_keys h.pe, fun s H sd m Rd R rs rm hh k => by
    refine liftE_le _ a s H sd m _ _ rs rm hh fun v H1 dv m1 t1 rm1 r1 h1 => ?_
    cases r1 with
    | @dic ks ds p o us ea en r =>
      have hl : (ks.map keyD).length = us.length := by rw [← en, List.length_map, List.length_map]
      refine ⟨p, o, rfl, .inl ⟨us, ea, k _ H1 (ks.map keyD) (fun _ => True) m1 t1 rm1 ⟨fun i H' m' t' _ _ hi => ?_, fun i H' x H2 m' t' rm' _ _ hy => ?_, fun i H' m' t' _ _ hi => ?_⟩ h1⟩⟩
      · exact ⟨t' _ _ trivial ea, by omega⟩
      · obtain ⟨rfl, kk, v, e1, rfl⟩ := hy
        refine ⟨keyD kk, ?_, .refl _, rm', keyD_rep kk⟩
        subst en
        rw [List.getElem?_map, List.getElem?_map, e1]; rfl
      · exact ⟨t' _ _ trivial ea, by omega⟩
    | _ => exact h1.elim⟩
/-! ### {k: v for x in xs if t} -/
def dDComp (st : Mu → Prop) (g : DG) (t : DT) (tk te : DE) (p : Addr) (s : Sd) (Q : DK) : List D → List (Key × D) → Mu → Prop
  | [], acc => fun m => st m ∧ m p = some (.dct acc) ∧ Q (.ref p) m
  | d :: es, acc => fun m => st m ∧ g d s m fun s2 m2 => t s2 m2 fun b m3 =>
      if b = true then tk s2 m3 fun y m4 => te s2 m4 fun z m5 => ∃ k, toKey y = some k ∧ m5 p = some (.dct acc) ∧ acc.length < sizeLine ∧ dDComp st g t tk te p s Q es (putKD acc k z) (mset m5 p (.dct (putKD acc k z))) else dDComp st g t tk te p s Q es acc m3
def dDc (di : DI) (g : DG) (t : DT) (tk te : DE) (vs : List Nat) : DE := fun s m Q => di s m fun es st m1 => ∀ p, m1 p = none → dDComp st g t tk te p (wipeD s vs) Q es [] (mset m1 p (.dct []))
section
variable {X : Cx}
theorem le_dc {s : L2.St} {H : Hp} {Q : VK} {sd : Sd} {m : Mu} {Qd : DK} {tg iter : Expr} {vs : List Nat} {wi : TI} {di : DI} {g : TG} {dg : DG} {js : List Nat} {dt : DT} {dk de : DE} (hi : GI X tg iter wi di) (lg : LG X.K g dg js) (hj : ∀ j ∈ js, j ∈ vs)
    (rs : RS X.K H sd s) (rm : RM X.K H m) (h : dDc di dg dt dk de vs sd m Qd) (k : ∀ v H' dv m', TX H H' → RM X.K H' m' → Rep X.K H' dv v → Qd dv m' → Q v H') : tDc wi g (liftT X.K dt) (liftE X.K dk) (liftE X.K de) vs s H Q := by
  refine hi.li s H sd m _ _ rs rm h fun J H1 es st m1 t1 rm1 jo h1 => ?_
  intro p hp
  have h2 := h1 p (rm1.fresh hp)
  have tn : TX H1 (upd H1 p (.dK [])) := .new hp
  refine ⟨fun i n H' => i ≤ es.length ∧ n = es.length - i ∧ ∃ m' acc, TX H1 H' ∧ RM X.K H' m' ∧ dDComp st dg dt dk de p (wipeD sd vs) Qd (es.drop i) acc m', ⟨es.length, Nat.zero_le _, by omega, _, [], tn, rm1.newD hp, h2⟩, ?_⟩
  rintro i n H' ⟨hle, rfl, m', acc, t2, rm2, q⟩
  by_cases hlt : i < es.length
  · rw [List.drop_eq_getElem_cons hlt] at q
    obtain ⟨hst, q⟩ := q
    refine .inr ⟨jo.go i H' m' t2 rm2 hst hlt, fun H2 => ∃ m2 acc, TX H1 H2 ∧ RM X.K H2 m2 ∧ dDComp st dg dt dk de p (wipeD sd vs) Qd (es.drop (i + 1)) acc m2, fun H2 ⟨m2, acc, a, b, e⟩ => ⟨es.length - (i + 1), by omega, hlt, rfl, m2, acc, a, b, e⟩, fun x H3 hy => ?_⟩
    obtain ⟨dx, e, t3, rm3, rx⟩ := jo.yld i H' x H3 m' t2 rm2 hst hlt hy
    rw [List.getElem?_eq_getElem hlt] at e
    cases e
    refine lg x _ (wipe s vs) H3 (wipeD sd vs) m' _ _ rx ((rs.mono (t1.trans (t2.trans t3))).wipe _) rm3 q fun s4 H4 sd4 m4 t4 rs4 rm4 q4 ow => ?_
    refine ⟨by rw [ow _ hj, wipe_wipe], ?_⟩
    have t14 : TX H1 H4 := t2.trans (t3.trans t4)
    refine liftT_le _ dt s4 H4 sd4 m4 _ _ rs4 rm4 q4 fun b H5 m5 t5 rm5 q5 => ?_
    cases b with
    | true =>
      show liftE X.K dk s4 H5 _
      refine liftE_le _ dk s4 H5 sd4 m5 _ _ (rs4.mono t5) rm5 q5 fun y H6 dy m6 t6 rm6 ry q6 => ?_
      refine liftE_le _ de s4 H6 sd4 m6 _ _ (rs4.mono (t5.trans t6)) rm6 q6 fun z H7 dz m7 t7 rm7 rz q7 => ?_
      obtain ⟨kk, e5, e6, hz, q8⟩ := q7
      obtain ⟨us, e7, e8, r7⟩ := rm7 p _ e6
      have hy := key_rep ry e5
      subst hy
      have hlen : us.length = acc.length := by have z := congrArg List.length e8; rwa [List.length_map, List.length_map] at z
      have pr := putK_rep (k := kk) e8 r7 rz
      exact ⟨us, kk, rfl, e7, by omega, _, putKD acc kk dz, t14.trans (t5.trans (t6.trans (t7.trans (.dK e7)))), rm7.setD e7 pr.1 pr.2, q8⟩
    | false =>
      exact ⟨m5, acc, t14.trans t5, rm5, q5⟩
  · have e : i = es.length := by omega
    subst e
    rw [List.drop_length] at q
    exact .inl ⟨jo.stop _ H' m' t2 rm2 q.1 (Nat.le_refl _), k _ H' _ m' (t1.trans t2) rm2 (.ref p) q.2.2⟩
theorem ge_dc {kx vx tg iter : Expr} {ifs : List Expr} {scope : Scope} {own : List (Str × Nat)} {pos : Pos} {di : DI} {dg : DG} {js : List Nat} {dt : DT} {dk de : DE} (hc : X.calm = true) (hN : X.N.Nodup) (hi : GIE X tg iter di) (ok : BlkOk X.N X.env.scope scope own)
    (hg : ∀ (s : Shared) (H : Hp) (C : Addr) (cl : List (Str × Addr)) (fp : List Addr), GG (X.blk s H scope (compEnvC scope cl C X.env) fp) tg dg js) (ht : ∀ (s : Shared) (H : Hp) (C : Addr) (cl : List (Str × Addr)) (fp : List Addr), GTs (X.blk s H scope (compEnvC scope cl C X.env) fp) ifs dt)
    (hk : ∀ (s : Shared) (H : Hp) (C : Addr) (cl : List (Str × Addr)) (fp : List Addr), GE (X.blk s H scope (compEnvC scope cl C X.env) fp) kx dk)
    (he : ∀ (s : Shared) (H : Hp) (C : Addr) (cl : List (Str × Addr)) (fp : List Addr), GE (X.blk s H scope (compEnvC scope cl C X.env) fp) vx de) (hj : ∀ j ∈ js, j ∈ own.map (·.2)) (hs : ∀ x, foldedSetIterable iter X.env x = pure x := by intro _; rfl) :
    GE X (.DictComp kx vx [⟨tg, iter, ifs, 0⟩] scope pos) (dDc di dg dt dk de (own.map (·.2))) := by
  obtain ⟨wi, hi⟩ := hi
  refine ⟨⟨fun pz s0 s H Q I ⟨sd, m, Qd, rs, rm, h, k⟩ => (pe_dc (g := liftG X.K dg js) (tt := liftT X.K dt) (tk := liftE X.K dk) (tv := liftE X.K de) hc hN hi.pi ok (fun s H C cl fp => (hg s H C cl fp).pg) (fun s H C cl fp => (ht s H C cl fp).pts) (fun s H C cl fp => (hk s H C cl fp).pe) (fun s H C cl fp => (he s H C cl fp).pe) hs).run pz s0 s H Q I ?_⟩⟩
  exact le_dc hi (hg s0 H 0 [] []).lg hj rs rm h k
end
end PD

set_option Elab.async false
set_option linter.all false
set_option maxRecDepth 100000
set_option maxHeartbeats 4000000
/-! Ints at a module's top; defs that are never called; texts as lists of signs. -/
namespace PD
open PySem PySem.Spec PyProof.Rows L2
theorem ge_glb {X : Cx} {x : Str} {i : Int} {pos : Pos} (hg : Gl X x) (hm : ∃ t, X.mg x = some (.int i t)) (hd : (x == ("__debug__" : Str)) = false := by decide) : GE X (.Name x pos) (dC (.int i)) :=
  let ⟨t, e⟩ := hm
  ge_c (pe_glob (v := .int i) hg e ⟨t, rfl⟩ hd) fun _ => .int i
section
variable {P : Program} {w : World} {K : PySem.W.Frag} {mg : Str → Option Value} {base : Heap}
def sp_nev : SpD := fun _ _ _ => False
def sp_nevX : SpX := fun _ _ _ _ => False
theorem fn_nev {x qual : Str} {st : Stmt} {f : Addr} {fd : FuncData} {N ps : List Str} {k : Nat} (F : Fun K x qual st f fd) (S : FnScope N ps (defScope st)) : FnOk P w K mg base CX0 (k + 1) f fd ps (spL K ps.length sp_nev) :=
  F.ok S (fun vs H Q E ⟨ds, m, Qd, r, rm, h, _⟩ => h.2.elim) fun cdv A outer s H vs Q E hr ⟨ds, m, Qd, r, rm, ⟨_, h⟩, kq⟩ => h.elim
theorem fn_nevX {x qual : Str} {st : Stmt} {f : Addr} {fd : FuncData} {N ps : List Str} {k : Nat} (F : Fun K x qual st f fd) (S : FnScope N ps (defScope st)) : FnOk P w K mg base (L2.CX P w) (k + 1) f fd ps (spX K ps.length sp_nevX) :=
  F.okX S (fun vs H Q E ⟨ds, m, Qd, Ed, r, rm, h, _⟩ => h.2.elim) fun cdv A outer s H vs Q E hr ⟨ds, m, Qd, Ed, r, rm, ⟨_, h⟩, kq, ke⟩ => h.elim
end
/-! ### texts as lists of their signs -/
def tx (l : List Nat) : Str := ⟨l.toArray⟩
theorem tx_app {a b : List Nat} : tx a ++ tx b = tx (a ++ b) := by
  show Str.append (tx a) (tx b) = _
  unfold Str.append tx; rw [List.append_toArray]
theorem tx_len {l : List Nat} : (tx l).length = l.length := by unfold tx; show l.toArray.size = _; rw [List.size_toArray]
theorem tx_emp : ("" : Str) = tx [] := rfl
theorem tx_is (x : Str) : x = tx x.cps.toList := by unfold tx; cases x; rfl
theorem tx_inj {a b : List Nat} (h : tx a = tx b) : a = b := by
  have := congrArg (fun s : Str => s.cps.toList) h
  simpa [tx] using this
theorem cps_tx (l : List Nat) : (tx l).cps.toList = l := by unfold tx; simp
theorem dIx_tx {l : List Nat} {i : Int} {m : Mu} {Q : DK} : dIx (.str (tx l)) (.int i) m Q = (l.length ≤ sizeLine ∧ ∃ c, atI l i = some c ∧ Q (.str (tx [c])) m) := by
  rw [dIx_s, tx_len]; unfold tx; rfl
theorem sgn_tx {l : List Nat} : sgn (tx l) = l.map fun c => .str (tx [c]) := by unfold sgn tx; rfl
theorem cutS_to {l : List Nat} {k : Nat} : cutS (tx l) none (some (k : Int)) = tx (l.take k) := by
  unfold cutS
  rw [HT.sIx_none, HT.sIx_nat, List.drop_zero, Nat.sub_zero, tx_len]
  unfold tx
  congr 2
  show List.take (min k l.length) l = _
  by_cases h : k ≤ l.length
  · rw [Nat.min_eq_left h]
  · rw [Nat.min_eq_right (by omega), List.take_length, List.take_of_length_le (by omega)]
theorem cutS_fr {l : List Nat} {k : Nat} : cutS (tx l) (some (k : Int)) none = tx (l.drop k) := by
  unfold cutS
  rw [HT.sIx_none, HT.sIx_nat, tx_len]
  unfold tx
  congr 2
  show List.take (l.length - min k l.length) (List.drop (min k l.length) l) = _
  by_cases h : k ≤ l.length
  · rw [Nat.min_eq_left h, List.take_of_length_le (by rw [List.length_drop]; exact Nat.le_refl _)]
  · rw [Nat.min_eq_right (by omega), List.drop_length, List.take_nil, List.drop_of_length_le (by omega)]
theorem cutS_fr1 {l : List Nat} {k : Nat} : cutS (tx l) (some ((k : Int) + 1)) none = tx (l.drop (k + 1)) := cutS_fr (k := k + 1)
theorem glue_go : ∀ (ls : List (List Nat)) (acc : List Nat), (ls.map tx).foldl (fun (a : Array Nat) p => a ++ (tx []).cps ++ p.cps) acc.toArray = (acc ++ ls.flatten).toArray
  | [], acc => by simp
  | l :: ls, acc => by
    rw [List.map_cons, List.foldl_cons]
    have e : acc.toArray ++ (tx []).cps ++ (tx l).cps = (acc ++ l).toArray := by unfold tx; simp
    rw [e, glue_go ls (acc ++ l), List.flatten_cons, List.append_assoc]
theorem join_tx (ls : List (List Nat)) : Txt.join (tx []) (ls.map tx) = tx ls.flatten := by
  unfold Txt.join Builtin.Str.glued
  cases ls with
  | nil => rfl
  | cons l ls =>
    have := glue_go ls l
    unfold tx at this ⊢
    rw [List.flatten_cons, List.map_cons, List.headD_cons, List.drop_one, List.tail_cons]
    rw [this]
theorem flat_sg : ∀ l : List Nat, (l.map fun c => [c]).flatten = l
  | [] => rfl
  | c :: l => by rw [List.map_cons, List.flatten_cons, flat_sg l]; rfl
theorem join_sg (l : List Nat) : Txt.join (tx []) (l.map fun c => tx [c]) = tx l := by
  have := join_tx (l.map fun c => [c])
  rw [List.map_map, flat_sg] at this
  exact this
theorem dAbs_i {i : Int} {m : Mu} {Q : DK} : dAbs [.int i] m Q = Q (.int (if i < 0 then -i else i)) m := rfl
end PD

set_option Elab.async false
set_option linter.all false
set_option maxRecDepth 100000
set_option maxHeartbeats 4000000
/-! Equality of plain data: no bools among ints. -/
namespace PD
open PySem PySem.Spec PyProof.Rows L2
mutual
def pln : D → Bool
  | .non | .int _ | .str _ => true
  | .tup ds | .rol ds => plns ds
  | _ => false
def plns : List D → Bool
  | [] => true
  | d :: ds => pln d && plns ds
end
mutual
def dep : D → Nat
  | .tup ds | .rol ds => deps ds + 1
  | _ => 0
def deps : List D → Nat
  | [] => 0
  | d :: ds => max (dep d) (deps ds)
end
mutual
def sok : D → Bool
  | .str x => PyData.canLay0 (.str x)
  | .tup ds | .rol ds => soks ds
  | _ => true
def soks : List D → Bool
  | [] => true
  | d :: ds => sok d && soks ds
end
theorem plns_iff {ds : List D} : plns ds = true ↔ ∀ d ∈ ds, pln d = true := by
  induction ds with
  | nil => simp [plns]
  | cons d ds ih => simp [plns, ih]
theorem soks_iff {ds : List D} : soks ds = true ↔ ∀ d ∈ ds, sok d = true := by
  induction ds with
  | nil => simp [soks]
  | cons d ds ih => simp [soks, ih]
theorem deps_le {ds : List D} {n : Nat} : deps ds ≤ n ↔ ∀ d ∈ ds, dep d ≤ n := by
  induction ds with
  | nil => simp [deps]
  | cons d ds ih => simp only [deps, List.mem_cons, forall_eq_or_imp, ← ih]; omega
mutual
theorem toP_pln : ∀ d : D, pln d = true → ∃ p, toP d = some p ∧ p.plain = true ∧ p.depth = dep d ∧ p.canLay0 = sok d
  | .non, _ => ⟨.none, rfl, rfl, by simp [PyData.depth, dep], by simp [PyData.canLay0, sok]⟩
  | .int i, _ => ⟨.int i, rfl, rfl, by simp [PyData.depth, dep], by simp [PyData.canLay0, sok]⟩
  | .str x, _ => ⟨.str x, rfl, rfl, by simp [PyData.depth, dep], by simp [sok]⟩
  | .tup ds, h => by
    obtain ⟨ps, e, h1, h2, h3⟩ := toPs_pln ds (by simpa [pln] using h)
    exact ⟨.tuple ps, by unfold toP; rw [e]; rfl, by simpa [PyData.plain] using h1, by simp [PyData.depth, dep, h2], by simp [PyData.canLay0, sok, h3]⟩
  | .rol ds, h => by
    obtain ⟨ps, e, h1, h2, h3⟩ := toPs_pln ds (by simpa [pln] using h)
    exact ⟨.list ps, by unfold toP; rw [e]; rfl, by simpa [PyData.plain] using h1, by simp [PyData.depth, dep, h2], by simp [PyData.canLay0, sok, h3]⟩
  | .bl _, h => by simp [pln] at h
  | .ref _, h => by simp [pln] at h
  | .dic _ _, h => by simp [pln] at h
  | .dicT _ _, h => by simp [pln] at h
  | .obj _ _ _, h => by simp [pln] at h
theorem toPs_pln : ∀ ds : List D, plns ds = true → ∃ ps, toPs ds = some ps ∧ PyData.plainAll ps = true ∧ PyData.depthAll ps = deps ds ∧ PyData.canLayAll0 ps = soks ds
  | [], _ => ⟨[], rfl, rfl, by simp [PyData.depthAll, deps], by simp [PyData.canLayAll0, soks]⟩
  | d :: ds, h => by
    obtain ⟨h1, h2⟩ := Bool.and_eq_true_iff.mp (show (pln d && plns ds) = true by simpa [plns] using h)
    obtain ⟨p, e, p1, p2, p3⟩ := toP_pln d h1
    obtain ⟨ps, e', q1, q2, q3⟩ := toPs_pln ds h2
    exact ⟨p :: ps, by unfold toPs; rw [e, e'], by simp [PyData.plainAll, p1, q1], by simp [PyData.depthAll, deps, p2, q2], by simp [PyData.canLayAll0, soks, p3, q3]⟩
end
mutual
theorem eqv_iff : ∀ (d e : D) (p q : PyData), pln d = true → pln e = true → toP d = some p → toP e = some q → (PyData.eqv p q = true ↔ d = e)
  | .tup ds, e, p, q, h1, h2, h3, h4 => by
    obtain ⟨ps, e1, _⟩ := toPs_pln ds (by simpa [pln] using h1)
    have : toP (.tup ds) = some (.tuple ps) := by unfold toP; rw [e1]; rfl
    rw [this] at h3; cases h3
    cases e with
    | tup es =>
      obtain ⟨qs, e2, _⟩ := toPs_pln es (by simpa [pln] using h2)
      have : toP (.tup es) = some (.tuple qs) := by unfold toP; rw [e2]; rfl
      rw [this] at h4; cases h4
      simp only [PyData.eqv, D.tup.injEq]
      exact eqvs_iff ds es ps qs (by simpa [pln] using h1) (by simpa [pln] using h2) e1 e2
    | rol es =>
      obtain ⟨qs, e2, _⟩ := toPs_pln es (by simpa [pln] using h2)
      have : toP (.rol es) = some (.list qs) := by unfold toP; rw [e2]; rfl
      rw [this] at h4; cases h4
      simp [PyData.eqv]
    | non => cases h4; simp [PyData.eqv]
    | int _ => cases h4; simp [PyData.eqv]
    | str _ => cases h4; simp [PyData.eqv]
    | _ => simp [pln] at h2
  | .rol ds, e, p, q, h1, h2, h3, h4 => by
    obtain ⟨ps, e1, _⟩ := toPs_pln ds (by simpa [pln] using h1)
    have : toP (.rol ds) = some (.list ps) := by unfold toP; rw [e1]; rfl
    rw [this] at h3; cases h3
    cases e with
    | rol es =>
      obtain ⟨qs, e2, _⟩ := toPs_pln es (by simpa [pln] using h2)
      have : toP (.rol es) = some (.list qs) := by unfold toP; rw [e2]; rfl
      rw [this] at h4; cases h4
      simp only [PyData.eqv, D.rol.injEq]
      exact eqvs_iff ds es ps qs (by simpa [pln] using h1) (by simpa [pln] using h2) e1 e2
    | tup es =>
      obtain ⟨qs, e2, _⟩ := toPs_pln es (by simpa [pln] using h2)
      have : toP (.tup es) = some (.tuple qs) := by unfold toP; rw [e2]; rfl
      rw [this] at h4; cases h4
      simp [PyData.eqv]
    | non => cases h4; simp [PyData.eqv]
    | int _ => cases h4; simp [PyData.eqv]
    | str _ => cases h4; simp [PyData.eqv]
    | _ => simp [pln] at h2
  | .non, e, p, q, h1, h2, h3, h4 => by
    cases h3
    cases e with
    | tup es =>
      obtain ⟨qs, e2, _⟩ := toPs_pln es (by simpa [pln] using h2)
      have : toP (.tup es) = some (.tuple qs) := by unfold toP; rw [e2]; rfl
      rw [this] at h4; cases h4
      simp [PyData.eqv]
    | rol es =>
      obtain ⟨qs, e2, _⟩ := toPs_pln es (by simpa [pln] using h2)
      have : toP (.rol es) = some (.list qs) := by unfold toP; rw [e2]; rfl
      rw [this] at h4; cases h4
      simp [PyData.eqv]
    | non => cases h4; simp [PyData.eqv]
    | int _ => cases h4; simp [PyData.eqv]
    | str _ => cases h4; simp [PyData.eqv]
    | _ => simp [pln] at h2
  | .int i, e, p, q, h1, h2, h3, h4 => by
    cases h3
    cases e with
    | tup es =>
      obtain ⟨qs, e2, _⟩ := toPs_pln es (by simpa [pln] using h2)
      have : toP (.tup es) = some (.tuple qs) := by unfold toP; rw [e2]; rfl
      rw [this] at h4; cases h4
      simp [PyData.eqv]
    | rol es =>
      obtain ⟨qs, e2, _⟩ := toPs_pln es (by simpa [pln] using h2)
      have : toP (.rol es) = some (.list qs) := by unfold toP; rw [e2]; rfl
      rw [this] at h4; cases h4
      simp [PyData.eqv]
    | non => cases h4; simp [PyData.eqv]
    | int _ => cases h4; simp [PyData.eqv]
    | str _ => cases h4; simp [PyData.eqv]
    | _ => simp [pln] at h2
  | .str x, e, p, q, h1, h2, h3, h4 => by
    cases h3
    cases e with
    | tup es =>
      obtain ⟨qs, e2, _⟩ := toPs_pln es (by simpa [pln] using h2)
      have : toP (.tup es) = some (.tuple qs) := by unfold toP; rw [e2]; rfl
      rw [this] at h4; cases h4
      simp [PyData.eqv]
    | rol es =>
      obtain ⟨qs, e2, _⟩ := toPs_pln es (by simpa [pln] using h2)
      have : toP (.rol es) = some (.list qs) := by unfold toP; rw [e2]; rfl
      rw [this] at h4; cases h4
      simp [PyData.eqv]
    | non => cases h4; simp [PyData.eqv]
    | int _ => cases h4; simp [PyData.eqv]
    | str _ => cases h4; simp [PyData.eqv]
    | _ => simp [pln] at h2
  | .bl _, _, _, _, h, _, _, _ => by simp [pln] at h
  | .ref _, _, _, _, h, _, _, _ => by simp [pln] at h
  | .dic _ _, _, _, _, h, _, _, _ => by simp [pln] at h
  | .dicT _ _, _, _, _, h, _, _, _ => by simp [pln] at h
  | .obj _ _ _, _, _, _, h, _, _, _ => by simp [pln] at h
theorem eqvs_iff : ∀ (ds es : List D) (ps qs : List PyData), plns ds = true → plns es = true → toPs ds = some ps → toPs es = some qs → (PyData.eqvAll ps qs = true ↔ ds = es)
  | [], [], ps, qs, _, _, h3, h4 => by cases h3; cases h4; simp [PyData.eqvAll]
  | [], e :: es, ps, qs, _, h2, h3, h4 => by
    cases h3
    obtain ⟨g1, g2⟩ := Bool.and_eq_true_iff.mp (show (pln e && plns es) = true by simpa [plns] using h2)
    obtain ⟨q', e1, _⟩ := toP_pln e g1
    obtain ⟨qs', e2, _⟩ := toPs_pln es g2
    unfold toPs at h4; rw [e1, e2] at h4; cases h4
    simp [PyData.eqvAll]
  | d :: ds, [], ps, qs, h1, _, h3, h4 => by
    cases h4
    obtain ⟨g1, g2⟩ := Bool.and_eq_true_iff.mp (show (pln d && plns ds) = true by simpa [plns] using h1)
    obtain ⟨q', e1, _⟩ := toP_pln d g1
    obtain ⟨qs', e2, _⟩ := toPs_pln ds g2
    unfold toPs at h3; rw [e1, e2] at h3; cases h3
    simp [PyData.eqvAll]
  | d :: ds, e :: es, ps, qs, h1, h2, h3, h4 => by
    obtain ⟨f1, f2⟩ := Bool.and_eq_true_iff.mp (show (pln d && plns ds) = true by simpa [plns] using h1)
    obtain ⟨p', e3, _⟩ := toP_pln d f1
    obtain ⟨ps', e4, _⟩ := toPs_pln ds f2
    obtain ⟨g1, g2⟩ := Bool.and_eq_true_iff.mp (show (pln e && plns es) = true by simpa [plns] using h2)
    obtain ⟨q', e1, _⟩ := toP_pln e g1
    obtain ⟨qs', e2, _⟩ := toPs_pln es g2
    unfold toPs at h3; rw [e3, e4] at h3; cases h3
    unfold toPs at h4; rw [e1, e2] at h4; cases h4
    rw [PyData.eqvAll, Bool.and_eq_true_iff, eqv_iff d e p' q' f1 g1 e3 e1, eqvs_iff ds es ps' qs' f2 g2 e4 e2, List.cons.injEq]
end
theorem pln_flat {d : D} (h : pln d = true) : flatD d = true ∨ (∃ ds, d = .tup ds) ∨ ∃ ds, d = .rol ds := by
  cases d <;> simp [pln, flatD] at *
theorem eqF_iff {d e : D} (h1 : pln d = true) (h2 : pln e = true) (f1 : flatD d = true) (f2 : flatD e = true) : eqF d e = true ↔ d = e := by
  cases d <;> cases e <;> simp [pln, flatD, eqF] at *
/-- == of plain data is equality -/
theorem eqK_iff (m : Mu) {d e : D} (h1 : pln d = true) (h2 : pln e = true) (s1 : sok d = true) (s2 : sok e = true) (l1 : dep d ≤ 60) (l2 : dep e ≤ 60) : ∃ b, eqK m d e = some b ∧ (b = true ↔ d = e) := by
  have shp : ∀ {x : D} {p : PyData}, toP x = some p → p.canLay0 = sok x → p.depth = dep x → sok x = true → dep x ≤ 60 → SeqAt.shaped p = true := fun e a b c d => by
    unfold SeqAt.shaped
    rw [a, c, Bool.true_and]
    exact decide_eq_true (by rw [b]; omega)
  have tpm : ∀ x : D, pln x = true → toPm m x = toP x := fun x hx => by cases x <;> first | rfl | simp [pln] at hx
  by_cases f1 : flatD d = true
  · by_cases f2 : flatD e = true
    · exact ⟨eqF d e, by unfold eqK; rw [f1, f2]; rfl, eqF_iff h1 h2 f1 f2⟩
    · refine ⟨false, ?_, ?_⟩
      · unfold eqK isSeq
        simp only [f1, f2, Bool.and_false, Bool.false_eq_true, if_false, if_true]
        rcases pln_flat h2 with c | ⟨ds, rfl⟩ | ⟨ds, rfl⟩
        · exact absurd c f2
        · rfl
        · rfl
      · exact ⟨fun h => (nomatch h), fun h => absurd (h ▸ f1) f2⟩
  · by_cases f2 : flatD e = true
    · refine ⟨false, ?_, ?_⟩
      · unfold eqK isSeq
        simp only [f1, f2, Bool.and_true, Bool.false_eq_true, if_false, if_true]
        rcases pln_flat h1 with c | ⟨ds, rfl⟩ | ⟨ds, rfl⟩
        · exact absurd c f1
        · rfl
        · rfl
      · exact ⟨fun h => (nomatch h), fun h => absurd (h ▸ f2) f1⟩
    · obtain ⟨p, e1, _, p2, p3⟩ := toP_pln d h1
      obtain ⟨q, e2, _, q2, q3⟩ := toP_pln e h2
      refine ⟨PyData.eqv p q, ?_, eqv_iff d e p q h1 h2 e1 e2⟩
      unfold eqK
      simp only [f1, f2, Bool.and_false, Bool.false_eq_true, if_false, tpm d h1, tpm e h2, e1, e2]
      rw [shp e1 p3 p2 s1 l1, shp e2 q3 q2 s2 l2]
      rfl
theorem eqK_yes (m : Mu) {d : D} (h1 : pln d = true) (s1 : sok d = true) (l1 : dep d ≤ 60) : eqK m d d = some true := by
  obtain ⟨b, e, h⟩ := eqK_iff m h1 h1 s1 s1 l1 l1
  rw [e, h.mpr rfl]
theorem eqK_no (m : Mu) {d e : D} (h1 : pln d = true) (h2 : pln e = true) (s1 : sok d = true) (s2 : sok e = true) (l1 : dep d ≤ 60) (l2 : dep e ≤ 60) (n : d ≠ e) : eqK m d e = some false := by
  obtain ⟨b, e', h⟩ := eqK_iff m h1 h2 s1 s2 l1 l2
  rw [e']
  cases b with
  | false => rfl
  | true => exact absurd (h.mp rfl) n
/-- in, of plain data, is being a member -/
theorem inP_iff {x : D} {ds : List D} (h1 : pln x = true) (h2 : plns ds = true) : inP x ds = true ↔ x ∈ ds := by
  unfold inP
  rw [List.any_eq_true]
  constructor
  · rintro ⟨y, hy, e⟩
    obtain ⟨p, e1, _⟩ := toP_pln y (plns_iff.mp h2 y hy)
    obtain ⟨q, e2, _⟩ := toP_pln x h1
    unfold eqP at e
    rw [e1, e2] at e
    rw [← (eqv_iff y x p q (plns_iff.mp h2 y hy) h1 e1 e2).mp e]
    exact hy
  · intro hx
    refine ⟨x, hx, ?_⟩
    obtain ⟨q, e2, _⟩ := toP_pln x h1
    unfold eqP
    rw [e2]
    exact (eqv_iff x x q q h1 h1 e2 e2).mpr rfl
theorem inP_any {x : D} {p : PyData} (hx : toP x = some p) : ∀ {ds : List D} {ps : List PyData}, toPs ds = some ps → (ps.any fun z => PyData.eqv z p) = inP x ds
  | [], _, h => by cases h; rfl
  | d :: ds, _, h => by
    unfold toPs at h
    cases e : toP d with
    | none => rw [e] at h; cases h
    | some q =>
      cases e2 : toPs ds with
      | none => rw [e, e2] at h; cases h
      | some qs =>
        rw [e, e2] at h; cases h
        have ih := inP_any hx e2
        unfold inP at ih ⊢
        rw [List.any_cons, List.any_cons, ih]
        unfold eqP
        rw [e, hx]
/-- the reading of in, of plain data -/
def dInPP (f : Bool → Bool) : D2 := fun x y m Q => ∃ ds, seqOf m y = some ds ∧ pln x = true ∧ plns ds = true ∧ dep x ≤ 60 ∧ Q (.bl (f (inP x ds))) m
theorem lr_inPP {K : PySem.W.Frag} : LR K (rInP K false) (dInPP id) := fun x y H dx dy m Qd Q rm rx ry ⟨ds, e, h1, h2, h3, h⟩ k => by
  obtain ⟨p, e1, p1, p2, _⟩ := toP_pln dx h1
  obtain ⟨ps, e2, q1, q2, _⟩ := toPs_pln ds h2
  exact lr_inP (neg := false) x y H dx dy m Qd Q rm rx ry ⟨ds, p, ps, e, e1, e2, q1, p1, by rw [p2]; exact Nat.le_trans (Nat.min_le_right _ _) h3, by rw [inP_any e1 e2]; exact h⟩ k
theorem lr_notInPP {K : PySem.W.Frag} : LR K (rInP K true) (dInPP not) := fun x y H dx dy m Qd Q rm rx ry ⟨ds, e, h1, h2, h3, h⟩ k => by
  obtain ⟨p, e1, p1, p2, _⟩ := toP_pln dx h1
  obtain ⟨ps, e2, q1, q2, _⟩ := toPs_pln ds h2
  exact lr_inP (neg := true) x y H dx dy m Qd Q rm rx ry ⟨ds, p, ps, e, e1, e2, q1, p1, by rw [p2]; exact Nat.le_trans (Nat.min_le_right _ _) h3, by rw [inP_any e1 e2]; exact h⟩ k
end PD

set_option Elab.async false
set_option linter.all false
set_option maxRecDepth 100000
set_option maxHeartbeats 4000000
/-! What a statement has made is finished behind it. -/
namespace PD
open PySem PySem.Spec PyProof.Rows L2
def tFz (t : TS) : TS := fun E τ H => t { E with nx := fun τ' H' => ∃ q u, H' q = some u ∧ Mut (some u) ∧ ∀ od, E.nx τ' (upd H' q (.frz od u)) } τ H
theorem ps_fz {X : Cx} {st : Stmt} {t : TS} (h : PS X st t) : PS X st (tFz t) := by
  refine ⟨fun pz s τ H D I hw => ?_⟩
  refine thn (h.run pz s τ H _ I hw) fun f s1 q => ?_
  cases f with
  | next =>
    obtain ⟨τ', H', I2, p, u, hp, mu, q⟩ := q
    obtain ⟨od, I3⟩ := I2.lock hp mu
    exact ⟨τ', _, I3, q od⟩
  | brk => exact q
  | cont => exact q
  | ret v => exact q
def dFz (i : Nat) (d : DS) : DS := fun E s m => d { E with nx := fun s' m' => ∃ p ds, s'[i]? = some (some (.ref p)) ∧ m' p = some (.lst ds) ∧ E.nx (s'.set i (some (.rol ds))) (mdel m' p) } s m
def dFzD (i : Nat) (d : DS) : DS := fun E s m => d { E with nx := fun s' m' => ∃ p kvs, s'[i]? = some (some (.ref p)) ∧ m' p = some (.dct kvs) ∧ E.nx (s'.set i (some (dicOf kvs))) (mdel m' p) } s m
theorem RS.put {K : PySem.W.Frag} {H : Hp} {sd : Sd} {s : L2.St} (r : RS K H sd s) {i : Nat} {d : D} {v : V} (e : s[i]? = some (some v)) (q : Rep K H d v) : RS K H (sd.set i (some d)) s := by
  have z := r.set q i
  have e2 : s.set i (some v) = s := by
    apply List.ext_getElem?
    intro j
    rw [List.getElem?_set]
    by_cases hij : i = j
    · subst hij
      have hl : i < s.length := (List.getElem?_eq_some_iff.mp e).1
      rw [if_pos rfl, if_pos hl, e]
    · rw [if_neg hij]
  rw [e2] at z
  exact z
theorem gs_fz {X : Cx} {st : Stmt} {d : DS} (i : Nat) (h : GS X st d) : GS X st (dFz i d) := by
  obtain ⟨t, p, l⟩ := h.ex
  refine ⟨_, ps_fz p, fun s H sd m Ed E rs rm h k1 k2 k3 k4 => ?_⟩
  refine l s H sd m _ _ rs rm h ?_ k2 k3 k4
  rintro s' H' sd' m' t' rs' rm' ⟨p, ds, e1, e2, q⟩
  obtain ⟨v, e3, r3⟩ := rs'.at_ i _ e1
  cases r3
  obtain ⟨vs, e4, r4⟩ := rm' p _ e2
  have tt : ∀ od, TX H' (upd H' p (.frz od (.lst vs))) := fun od => .lst e4
  exact ⟨p, _, e4, trivial, fun od => k1 _ _ _ _ (t'.trans (tt od)) ((rs'.mono (tt od)).put e3 (.rol (.inl ⟨od, upd_same⟩) (r4.mono (tt od)))) (rm'.frz e4) q⟩
theorem gs_fzD {X : Cx} {st : Stmt} {d : DS} (i : Nat) (h : GS X st d) : GS X st (dFzD i d) := by
  obtain ⟨t, p, l⟩ := h.ex
  refine ⟨_, ps_fz p, fun s H sd m Ed E rs rm h k1 k2 k3 k4 => ?_⟩
  refine l s H sd m _ _ rs rm h ?_ k2 k3 k4
  rintro s' H' sd' m' t' rs' rm' ⟨p, kvs, e1, e2, q⟩
  obtain ⟨v, e3, r3⟩ := rs'.at_ i _ e1
  cases r3
  obtain ⟨us, e4, e5, r4⟩ := rm' p _ e2
  have tt : ∀ od, TX H' (upd H' p (.frz od (.dK us))) := fun od => .mut e4 (fun z => z)
  exact ⟨p, _, e4, trivial, fun od => k1 _ _ _ _ (t'.trans (tt od)) ((rs'.mono (tt od)).put e3 (.dic upd_same e5 (r4.mono (tt od)))) (rm'.frzG e4 (fun z => z)) q⟩
/-! frozen by frz: named forms -/
theorem dFrzD_v {d : DE} {s : Sd} {m : Mu} {Q : DK} : dFrzD d s m Q = d s m fun x m1 => ∃ p kvs, x = .ref p ∧ m1 p = some (.dct kvs) ∧ Q (dicOf kvs) (mdel m1 p) := rfl
theorem dFrzT_v {d : DE} {s : Sd} {m : Mu} {Q : DK} : dFrzT d s m Q = d s m fun x m1 => ∃ p kvs, x = .ref p ∧ m1 p = some (.dcT kvs) ∧ Q (dicTOf kvs) (mdel m1 p) := rfl
/-! zip of lists, finished or not -/
def dIZipL (a : DA) : DI := fun s m R => a s m fun ds m1 => match ds with
  | [.tup xs, .tup ys] => R (zipD xs ys) (fun _ => True) m1
  | [x, y] => ∃ xs ys, lsq m1 x = some xs ∧ lsq m1 y = some ys ∧ R (zipD xs ys) (fun m' => lsq m' x = some xs ∧ lsq m' y = some ys) m1
  | _ => False
section
variable {X : Cx}
theorem gi_zipL {e e2 : Expr} {p pos tpos : Pos} {elts : List Expr} {kk : Nat} {da : DA} (hg : Gl X "zip") (hm : X.mg "zip" = none) (ha : GA X [e, e2] da)
    (hs : starEach [e, e2] X.env = (false, eval e X.env) :: starEach [e2] X.env := by rfl) (hpl : (backTo pos (starEach [e2] X.env)).any (·.1) = false := by rfl) :
    GIE X (.Tuple elts kk tpos) (.Call (.Name "zip" p) [e, e2] [] pos) (dIZipL da) := by
  obtain ⟨ta, q, l⟩ := ha.ex
  refine ⟨_, RZ.pi_zipA hg hm q hs hpl, fun s H sd m Rd R rs rm h k => ?_⟩
  refine l s H sd m _ _ rs rm h fun vs H1 ds m1 t1 rm1 r1 h1 => ?_
  split at h1
  · rename_i xs ys
    match r1, h1 with
    | .cons (.tup (a := a) (vs := us) sa ra) (.cons (.tup (a := b) (vs := ws) sb rb) .nil), h1 =>
      refine ⟨a, b, us, ws, rfl, .inr ⟨sa, sb, k _ H1 _ (fun _ => True) m1 t1 rm1 ⟨fun i H' m' t' _ _ hi => ?_, fun i H' x H2 m' t' rm' _ hi hy => ?_, fun i H' m' t' _ _ hi => ?_⟩ h1⟩⟩
      · rw [zipD_len] at hi
        have l1 := ra.length
        have l2 := rb.length
        exact ⟨us, ws, us[i]'(by omega), ws[i]'(by omega), t'.sqT sa, t'.sqT sb, List.getElem?_eq_getElem _, List.getElem?_eq_getElem _⟩
      · obtain ⟨T, x1, y1, rfl, hT, rfl, f, g⟩ := hy
        obtain ⟨d, e, q1⟩ := ra.getV (f _ (t'.sqT sa))
        obtain ⟨d2, e2, q2⟩ := rb.getV (g _ (t'.sqT sb))
        exact zip_item rm' hT e e2 (q1.mono t') (q2.mono t')
      · rw [zipD_len] at hi
        have l1 := ra.length
        have l2 := rb.length
        exact ⟨us, ws, t'.sqT sa, t'.sqT sb, by omega⟩
  · rename_i x y _
    obtain ⟨xs, ys, e1, e2, q1⟩ := h1
    obtain ⟨v, u, rfl, rv, ru⟩ := repL2 r1
    obtain ⟨a, us, rfl, sl, r⟩ := lsq_rep rm1 rv e1
    obtain ⟨b, ws, rfl, sl2, r2⟩ := lsq_rep rm1 ru e2
    refine ⟨a, b, us, ws, rfl, .inl ⟨sl, sl2, k _ H1 _ (fun m' => lsq m' x = some xs ∧ lsq m' y = some ys) m1 t1 rm1 ⟨fun i H' m' t' rm' st hi => ?_, fun i H' z H2 m' t' rm' st hi hy => ?_, fun i H' m' t' rm' st hi => ?_⟩ q1⟩⟩
    · rw [zipD_len] at hi
      obtain ⟨a', us', ea, sl', r'⟩ := lsq_rep rm' (rv.mono t') st.1
      obtain ⟨b', ws', eb, sl2', r2'⟩ := lsq_rep rm' (ru.mono t') st.2
      cases ea; cases eb
      have l1 := r'.length
      have l2 := r2'.length
      exact ⟨us', ws', us'[i]'(by omega), ws'[i]'(by omega), sl', sl2', List.getElem?_eq_getElem _, List.getElem?_eq_getElem _⟩
    · obtain ⟨T, x1, y1, rfl, hT, rfl, f, g⟩ := hy
      obtain ⟨a', us', ea, sl', r'⟩ := lsq_rep rm' (rv.mono t') st.1
      obtain ⟨b', ws', eb, sl2', r2'⟩ := lsq_rep rm' (ru.mono t') st.2
      cases ea; cases eb
      obtain ⟨d, e, q1⟩ := r'.getV (f _ sl')
      obtain ⟨d2, e2, q2⟩ := r2'.getV (g _ sl2')
      exact zip_item rm' hT e e2 q1 q2
    · rw [zipD_len] at hi
      obtain ⟨a', us', ea, sl', r'⟩ := lsq_rep rm' (rv.mono t') st.1
      obtain ⟨b', ws', eb, sl2', r2'⟩ := lsq_rep rm' (ru.mono t') st.2
      cases ea; cases eb
      have l1 := r'.length
      have l2 := r2'.length
      exact ⟨us', ws', sl', sl2', by omega⟩
  · exact h1.elim
end
end PD

set_option Elab.async false
set_option linter.all false
set_option maxRecDepth 100000
set_option maxHeartbeats 4000000
namespace PD
open PySem PySem.Spec PyProof.Rows L2
/-- a loop that leaves the store as it was -/
theorem loop_chk {β : Type} {st : Mu → Prop} {g : DG} {tb : DS} {E : DEnds} {m : Mu} (Sl : Sd → Prop) (e : β → D) {us : List β} (hst : st m)
    (hs : ∀ u ∈ us, ∀ s (R : Sd → Mu → Prop), Sl s → (∀ s', Sl s' → R s' m) → g (e u) s m fun s2 m2 => tb { E with nx := R, ct := R, bk := E.nx } s2 m2)
    (he : ∀ s, Sl s → E.nx s m) {s : Sd} (h : Sl s) : dLoop st g tb E (us.map e) s m := by
  refine loop_inv (fun rem s' m' => ∃ pre post, us = pre ++ post ∧ rem = post.map e ∧ Sl s' ∧ m' = m) ?_ ?_ ⟨[], us, rfl, rfl, h, rfl⟩
  · rintro d rem s' m' R hR ⟨pre, post, e1, e2, a, rfl⟩
    cases post with
    | nil => cases e2
    | cons u post =>
      rw [List.map_cons] at e2
      injection e2 with e2 e3
      subst e2
      exact ⟨hst, hs u (by rw [e1]; simp) s' _ a fun s'' a' => hR _ _ ⟨pre ++ [u], post, by rw [e1]; simp, e3, a', rfl⟩⟩
  · rintro s' m' ⟨pre, post, e1, e2, a, rfl⟩
    exact ⟨hst, he _ a⟩
/-- a loop with a store of its own, by an invariant over what is done -/
theorem loop_pre {β : Type} {st : Mu → Prop} {g : DG} {tb : DS} {E : DEnds} (J : List β → Sd → Mu → Prop) (e : β → D) {us : List β} (hst : ∀ pre s m, J pre s m → st m)
    (hs : ∀ pre u post, us = pre ++ u :: post → ∀ s m (R : Sd → Mu → Prop), J pre s m → (∀ s' m', J (pre ++ [u]) s' m' → R s' m') → g (e u) s m fun s2 m2 => tb { E with nx := R, ct := R, bk := E.nx } s2 m2)
    (he : ∀ s m, J us s m → E.nx s m) {s : Sd} {m : Mu} (h : J [] s m) : dLoop st g tb E (us.map e) s m := by
  refine loop_inv (fun rem s' m' => ∃ pre post, us = pre ++ post ∧ rem = post.map e ∧ J pre s' m') ?_ ?_ ⟨[], us, rfl, rfl, h⟩
  · rintro d rem s' m' R hR ⟨pre, post, e1, e2, a⟩
    cases post with
    | nil => cases e2
    | cons u post =>
      rw [List.map_cons] at e2
      injection e2 with e2 e3
      subst e2
      exact ⟨hst _ _ _ a, hs pre u post e1 s' m' _ a fun s'' m'' a' => hR _ _ ⟨pre ++ [u], post, by rw [e1]; simp, e3, a'⟩⟩
  · rintro s' m' ⟨pre, post, e1, e2, a⟩
    cases post with
    | cons u post => cases e2
    | nil =>
      rw [List.append_nil] at e1
      subst e1
      exact ⟨hst _ _ _ a, he _ _ a⟩
theorem comp_pT {β : Type} {st : Mu → Prop} {g : DG} {t : DT} {e : DE} {p : Addr} {s : Sd} {Q : DK} {m : Mu} (i : β → D) (o : β → D) (c : β → Bool) (hst : ∀ a, st (mset m p (.lst a))) {us : List β} (hz : us.length ≤ 100000)
    (h : ∀ u ∈ us, ∀ a (R1 : D → Mu → Prop) (R2 : Mu → Prop), (c u = true → R1 (o u) (mset m p (.lst a))) → (c u = false → R2 (mset m p (.lst a))) → g (i u) s (mset m p (.lst a)) fun s2 m2 => t s2 m2 fun b m3 => if b = true then e s2 m3 R1 else R2 m3)
    (hq : Q (.ref p) (mset m p (.lst ((us.filter c).map o)))) : dComp st g t e p s Q (us.map i) [] (mset m p (.lst [])) := comp_pureT (γ := Nat) i o c hst hz h hq
/-- all items kept -/
theorem comp_all {β : Type} {st : Mu → Prop} {g : DG} {e : DE} {p : Addr} {s : Sd} {Q : DK} {m : Mu} (i : β → D) (o : β → D) (hst : ∀ a, st (mset m p (.lst a))) {us : List β} (hz : us.length ≤ 100000)
    (h : ∀ u ∈ us, ∀ a (R1 : D → Mu → Prop), R1 (o u) (mset m p (.lst a)) → g (i u) s (mset m p (.lst a)) fun s2 m2 => e s2 m2 R1)
    (hq : Q (.ref p) (mset m p (.lst (us.map o)))) : dComp st g dYes e p s Q (us.map i) [] (mset m p (.lst [])) :=
  comp_pureT (γ := Nat) i o (fun _ => true) hst hz (fun u hu a R1 R2 k1 _ => by simpa [dYes] using h u hu a R1 (k1 rfl)) (by rw [filter_yes]; exact hq)
/-- {k: v for x in xs}, texts for keys, by what is made -/
theorem dcomp_pure {β : Type} {st : Mu → Prop} {g : DG} {tk te : DE} {p : Addr} {s : Sd} {Q : DK} {m : Mu} (e : β → D) (kv : β → Key × D) {us : List β} (hst : ∀ a, st (mset m p (.dct a))) (hz : us.length ≤ 100000)
    (hnd : (us.map fun u => (kv u).1).Nodup)
    (h : ∀ u ∈ us, ∀ a (R : D → D → Mu → Prop), (∀ y, toKey y = some (kv u).1 → R y (kv u).2 (mset m p (.dct a))) → g (e u) s (mset m p (.dct a)) fun s2 m2 => tk s2 m2 fun y m4 => te s2 m4 fun z m5 => R y z m5)
    (hq : Q (.ref p) (mset m p (.dct (us.map kv)))) : dDComp st g dYes tk te p s Q (us.map e) [] (mset m p (.dct [])) := by
  have go : ∀ (post pre : List β), us = pre ++ post → dDComp st g dYes tk te p s Q (post.map e) (pre.map kv) (mset m p (.dct (pre.map kv))) := by
    intro post
    induction post with
    | nil =>
      intro pre e1
      rw [List.append_nil] at e1
      subst e1
      exact ⟨hst _, mset_same, hq⟩
    | cons u post ih =>
      intro pre e1
      refine ⟨hst _, ?_⟩
      have hn : (kv u).1 ∉ (pre.map kv).map (·.1) := by
        rw [e1, List.map_append, List.nodup_append] at hnd
        intro hc
        rw [List.map_map] at hc
        exact hnd.2.2 _ hc _ (List.mem_cons_self ..) rfl
      have hput : putKD (pre.map kv) (kv u).1 (kv u).2 = (pre ++ [u]).map kv := by
        unfold putKD
        rw [if_neg, List.map_append]
        · rfl
        · intro c
          rw [List.any_eq_true] at c
          obtain ⟨x, h1, h2⟩ := c
          exact hn (List.mem_map.mpr ⟨x, h1, of_decide_eq_true h2⟩)
      have hl : (pre.map kv).length < sizeLine := by
        rw [List.length_map]
        have : pre.length < us.length := by rw [e1]; simp
        exact Nat.lt_of_lt_of_le (by omega : pre.length < 100000) (by decide)
      have := h u (by rw [e1]; simp) (pre.map kv) (fun y z m5 => ∃ k, toKey y = some k ∧ m5 p = some (.dct (pre.map kv)) ∧ (pre.map kv).length < sizeLine ∧ dDComp st g dYes tk te p s Q (post.map e) (putKD (pre.map kv) k z) (mset m5 p (.dct (putKD (pre.map kv) k z)))) fun y hy => by
        refine ⟨_, hy, mset_same, hl, ?_⟩
        rw [hput, mset_mset]
        exact ih (pre ++ [u]) (by rw [e1]; simp)
      simpa [dYes] using this
  exact go us [] rfl
end PD
namespace PD
open PySem PySem.Spec PyProof.Rows L2
section
variable {X : Cx} {P : Program} {w : World}
theorem ge_set0P {p pos : Pos} (hP : X.prog = P) (hw : X.w = w) (hg : Gl X "set") (hm : X.mg "set" = none) : GE X (.Call (.Name "set" p) [] [] pos) (dSet0 P w) := by
  subst hP hw; exact ge_set0 hg hm
theorem ge_saddP {o e : Expr} {es : List Expr} {de : DE} {da : DA} {apos cpos : Pos} (hP : X.prog = P) (hw : X.w = w) (ho : GE X o de) (ha : GA X (e :: es) da)
    (base9 : attributeBase o "add" X.env (eval o X.env) = eval o X.env := by rfl)
    (few9 : ((backTo cpos (starEach (e :: es) X.env)).all (fun x => !x.1) && (backToKw cpos (keywordEach [] X.env)).all (fun x => x.1.isSome)
      && decide ((e :: es).length + ([] : List Keyword).length + (if ([] : List Keyword).isEmpty then 0 else 1) < 30)) = true := by rfl)
    (line9 : (apos.endLine == cpos.line) = true := by rfl) (hs : starEach (e :: es) X.env = (false, eval e X.env) :: starEach es X.env := by rfl) (plain9 : (backTo cpos (starEach es X.env)).any (·.1) = false := by rfl) :
    GE X (.Call (.Attribute o "add" apos) (e :: es) [] cpos) (dSAdd P w de da) := by
  subst hP hw; exact ge_sadd ho ha base9 few9 line9 hs plain9
end
end PD

set_option Elab.async false
set_option linter.all false
set_option maxRecDepth 100000
set_option maxHeartbeats 4000000
/-! Dicts whose keys are tuples, asked and made by a comprehension. -/
namespace PD
open PySem PySem.Spec PyProof.Rows L2
section
variable {X : Cx}
/-- one more pair -/
theorem dictSetT {pz : List (Addr × Obj)} {τ : L2.St} {H : Hp} {s : Shared} {E : Value → Shared → Prop} {D b : Addr} {kvs : List (List Key × V)} {k : List Key} {v : V} {r : Value} {Q : Unit → Shared → Prop} (hu : X.A.units + 1 < cLine) (I : Inv X pz τ H s) (hD : H D = some (.dT kvs)) (hz : kvs.length < sizeLine)
    (hb : H b = some (.tup (k.map kV))) (rv : RelV v r) (h : ∀ s', Inv X pz τ (upd H D (.dT (putK kvs k v))) s' → Q () s') : wpAny (model X.prog X.w) X.A (dictSet D (.ref b) r) Q E s := by
  obtain ⟨z, hd, xs, rel, dd⟩ := dt_of I.hok hD
  have le1 := Paired.length rel
  have le2 := length_putK kvs k v
  refine wpAny_dictSet_heap (hsz := by omega) (show X.A.units < cLine by omega) (key_of I.hok hb) dd fun h' dd' hs => h _ ?_
  obtain ⟨q, es, ep, hq, e2, e3, e4, _, e5⟩ := dd'
  have new : KT (upd H D (.dT (putK kvs k v))) (putK kvs k v) _ := (rel.put k hb rv).keeps fun c ys ec => by rw [upd_ne (ne_of ec hD (fun z => nomatch z))]; exact ec
  exact d_write I (by rw [hD]; exact True.intro) hs ⟨q, hq⟩ ⟨by omega, hd, _, new, q, es, ep, hq, e2, e3, e4, e5⟩
/-- {k: v for .. in ..}, the keys tuples -/
def tDcT (wi : TI) (g : TG) (tt : TT) (tk tv : TE) (vs : List Nat) : TE := fun τ H Q => wi τ H fun J H1 => ∀ D, H1 D = none → ∃ W : Nat → Nat → Hp → Prop, (∃ m, W 0 m (upd H1 D (.dT []))) ∧ ∀ i m H, W i m H →
  (J.stop i H ∧ Q (.ref D) H) ∨ (J.go i H ∧ ∃ Nx : Hp → Prop, (∀ H', Nx H' → ∃ m', m' < m ∧ W (i + 1) m' H') ∧ ∀ x H', J.yld i H x H' → g x (wipe τ vs) H' fun τ2 H2 => wipe τ2 vs = wipe τ vs ∧ tt τ2 H2 fun b H3 =>
    if b = true then tk τ2 H3 fun y H4 => tv τ2 H4 fun z H5 => ∃ kvs k a, y = .ref a ∧ H5 a = some (.tup (k.map kV)) ∧ H5 D = some (.dT kvs) ∧ kvs.length < sizeLine ∧ Nx (upd H5 D (.dT (putK kvs k z))) else Nx H3)
section
variable {kx vx tg iter : Expr} {ifs : List Expr} {scope : Scope} {own : List (Str × Nat)} {pos : Pos} {wi : TI} {g : TG} {tt : TT} {tk tv : TE}
theorem dcT_core {pz : List (Addr × Obj)} {sA : Shared} {τ : L2.St} {HA : Hp} {Q : VK} {pos' : Pos} {use : Option (Value → Sem Unit)} {Qf : Value → Shared → Prop} (hu : X.A.units + 1 < cLine) (hc : X.calm = true) (hN : X.N.Nodup) (IA : Inv X pz τ HA sA) (hi : PI X tg iter wi) (ok : BlkOk X.N X.env.scope scope own)
    (hg : ∀ (s : Shared) (H : Hp) (C : Addr) (cl : List (Str × Addr)) (fp : List Addr), PG (X.blk s H scope (compEnvC scope cl C X.env) fp) tg g)
    (ht : ∀ (s : Shared) (H : Hp) (C : Addr) (cl : List (Str × Addr)) (fp : List Addr), PTs (X.blk s H scope (compEnvC scope cl C X.env) fp) ifs tt)
    (hk : ∀ (s : Shared) (H : Hp) (C : Addr) (cl : List (Str × Addr)) (fp : List Addr), PE (X.blk s H scope (compEnvC scope cl C X.env) fp) kx tk)
    (he : ∀ (s : Shared) (H : Hp) (C : Addr) (cl : List (Str × Addr)) (fp : List Addr), PE (X.blk s H scope (compEnvC scope cl C X.env) fp) vx tv) (hs : ∀ x, foldedSetIterable iter X.env x = pure x)
    (hw : tDcT wi g tt tk tv (own.map (·.2)) τ HA Q)
    (last : ∀ D C s' m H', Inv X pz τ H' s' → Q (.ref D) H' → s'.heap.Ns C m → FpOk X pz H' C → compPost (model X.prog X.w) X.A X.xe use Qf (.ref D) C (.ok .next) s') :
    wpAny (model X.prog X.w) X.A (comprehension (.DictComp kx vx [⟨tg, iter, ifs, 0⟩] scope pos) scope X.env pos' newDict false (eval iter X.env) use) Qf X.xe sA := by
  have clo : ∀ y ∈ scope.names, y.2 = .free → ∃ c, X.env.cells.lookup y.1 = some c := fun y hy e => (ok.free y hy e).elim (fun z => IA.ok.has _ (.inl z)) fun z => IA.ok.has _ (.inr z)
  refine wpAny_comprehension_free (use := use) rfl hs (closure_ok clo) ok.kind (fun y hy e => by rw [ok.uniq y hy, e]) (thn (hi.run pz sA τ HA _ IA hw) fun _ _ step1 => thn step1 fun _ sB step2 => ?_)
  obtain ⟨it, fp, tn, J, HB, rfl, IB, T, stB, fpB, turnOf⟩ := step2
  refine wpAny_newObj_type (newEnv_comp ?_)
  generalize eD : sB.heap.objs.size = D
  have freeD : HB D = none := IB.hok.fresh (Nat.le_of_eq eD)
  obtain ⟨W, ⟨n0, w0⟩, turn⟩ := turnOf D freeD
  generalize eC : ({ sB with heap := sB.heap.push { cls := .type "dict", data := .dict #[] } } : Shared) = sC
  have hC : sC.heap = sB.heap.push { cls := .type "dict", data := .dict #[] } := by rw [← eC]
  have IC : Inv X pz τ (upd HB D (.dT [])) sC := by
    subst eC eD
    exact IB.laid (t' := sB.toks) (fun _ _ q => Heap.get?_push_of_some _ q) (Nat.le_refl _) (dt_empty sB.heap IB.big)
  have fpC : ∀ b ∈ fp, FpOk X pz (upd HB D (.dT [])) b ∧ b < sC.heap.objs.size := fun b hb => by
    obtain ⟨_, e, _⟩ := T.obj _ _ stB b hb
    have lt := Heap.lt_size e
    refine ⟨⟨?_, (fpB b hb).2⟩, by rw [hC, Heap.size_push]; exact Nat.lt_succ_of_lt lt⟩
    rw [upd_ne (by rw [← eD]; exact Nat.ne_of_lt lt)]
    exact (fpB b hb).1
  have stC : tn 0 sC.heap := T.keep _ _ _ stB fun _ _ _ q => by rw [hC]; exact Heap.get?_push_of_some _ q
  have noneC : ∀ b ∈ fp, upd HB D (.dT []) b = none := fun b hb => (fpC b hb).1.1
  have ID := block_start IC ok hN fpC
  -- the block's own context
  generalize ecl : cellsFrom (sC.heap.objs.size + 1) scope.names (cloFrom X.env.cells scope.names []) = cl at ID ⊢
  have lc : (compEnvC scope cl sC.heap.objs.size X.env).locals = sC.heap.objs.size := rfl
  generalize eenv : compEnvC scope cl sC.heap.objs.size X.env = ce at ID lc ⊢
  have Pg := hg sC (upd HB D (.dT [])) sC.heap.objs.size cl fp
  have Pt := ht sC (upd HB D (.dT [])) sC.heap.objs.size cl fp
  have Pk := hk sC (upd HB D (.dT [])) sC.heap.objs.size cl fp
  have Pv := he sC (upd HB D (.dT [])) sC.heap.objs.size cl fp
  rw [eenv] at Pg Pt Pk Pv
  generalize eHC : upd HB D (.dT []) = HC at *
  generalize esD : ({ sC with heap := pushCells (sC.heap.push { cls := .type "dict", data := .dict #[] }) scope.names } : Shared) = sD at ID
  have stD : tn 0 sD.heap := T.keep _ _ _ stC fun _ _ _ q => by rw [← esD]; exact pushCells_keeps _ _ _ _ (Heap.get?_push_of_some _ q)
  have still : ∀ {τ' : L2.St} {H' : Hp} {s' : Shared}, Inv (X.blk sC HC scope ce fp) [] τ' H' s' → (∀ b ∈ fp, H' b = none) → ∀ b ∈ fp, FpOk (X.blk sC HC scope ce fp) [] H' b := fun {τ' H' s'} I' nn b hb =>
    ⟨nn b hb, (I'.ok.exf b hb).1, I'.ok.exfs b hb, .inl hb, fun x c e => (I'.ok.exf b hb).2 x c e, fun p hp => absurd (show p ∈ ([] : List (Addr × Obj)) ++ [] from hp) (by simp)⟩
  let Turn : Nat → Shared → Prop := fun n s' => ∃ i H', Inv (X.blk sC HC scope ce fp) [] (wipe τ (own.map (·.2))) H' s' ∧ tn i s'.heap ∧ (∀ b ∈ fp, H' b = none) ∧ W i n H'
  have loop : codeAny (model X.prog X.w) X.A (.compLoop (.DictComp kx vx [⟨tg, iter, ifs, 0⟩] scope pos) 0 (.ref it) (.ref D) ce) (compPost (model X.prog X.w) X.A X.xe use Qf (.ref D) sC.heap.objs.size) sD := by
    refine compLoop_anyD Turn ?_ n0 ⟨0, HC, ID, stD, noneC, w0⟩
    rintro n s1 ⟨i, H1, I1, st1, nn1, w1⟩
    rcases turn i n H1 w1 with ⟨stop, fine⟩ | ⟨go, Nx, less, step⟩
    · refine thnF (T.done (X.blk sC HC scope ce fp) rfl rfl rfl hc i [] s1 _ H1 (fun _ _ => False) I1 (still I1 nn1) st1 stop) fun r s2 ⟨er, I2⟩ => ?_
      subst er
      obtain ⟨mm, hmm, _⟩ := I2.loc
      have hmm' : s2.heap.Ns ce.locals mm := hmm
      have nl : H1 ce.locals = none := I2.free
      rw [lc] at hmm' nl
      have IE : Inv X pz τ H1 s2 := IC.call' (ch := fp) I2.os I2.base I2.hok I2.bare fun b hb => ⟨(fpC b hb).1.2.2.2.1, (fpC b hb).1.2.1, (fpC b hb).1.2.2.2.2.1, (fpC b hb).1.2.2.2.2.2⟩
      exact last D sC.heap.objs.size s2 mm H1 IE fine hmm' (IC.fpOk (Nat.le_refl _) nl)
    · refine thnF (T.item (X.blk sC HC scope ce fp) rfl rfl rfl hc i [] s1 _ H1 (fun _ _ => False) I1 (still I1 nn1) st1 go) fun r s2 ⟨u, er, more⟩ => ?_
      subst er
      refine thnF more fun _ s3 ⟨x, H3, I3, rx, yl, st3, nn3⟩ => ?_
      have I3' := I3.pinned (still I3 nn3) (T.obj _ _ st3)
      have ends : ∀ {s' : Shared} {τ' : L2.St} {H' : Hp}, wipe τ' (own.map (·.2)) = wipe τ (own.map (·.2)) → Inv (X.blk sC HC scope ce fp) ([] ++ pinsAt fp s3.heap) τ' H' s' → Nx H' → ∃ m, m < n ∧ Turn m s' := fun {s' τ' H'} ew I' nx => by
        obtain ⟨m', hm, w'⟩ := less H' nx
        have pin : ∀ b ∈ fp, ∀ o, s3.heap.get? b = some o → s'.heap.get? b = some o ∧ H' b = none := fun b hb o e => by
          obtain ⟨z1, z2, _⟩ := I'.pin (b, o) (List.mem_append_right _ (List.mem_append_right _ (mem_pinsAt hb e)))
          exact ⟨z1, z2⟩
        have el : (wipe τ (own.map (·.2))).length = τ'.length := by rw [← ew, wipe_length]
        exact ⟨m', hm, i + 1, H', (I'.unpinned (pins := [])).weak el (fun j v e => (wipe_some (ew ▸ e)).1), T.keep _ _ _ st3 fun b hb o e => (pin b hb o e).1,
          fun b hb => let ⟨o, e, _⟩ := T.obj _ _ st3 b hb; (pin b hb o e).2, w'⟩
      refine thnF (Pg.run _ s3 _ H3 x u _ I3' rx (step x H3 yl)) fun _ s4 ⟨τ4, H4, I4, ew, q4⟩ => ?_
      refine thnF (Pt.run _ s4 τ4 H4 _ I4 q4) fun b s5 ⟨H5, I5, q5⟩ => ?_
      cases b with
      | false => exact ends ew I5 (by simpa using q5)
      | true =>
        rw [if_pos rfl] at q5 ⊢
        refine thnF (Pk.run _ s5 τ4 H5 _ I5 q5) fun _ s6 ⟨yk, H6, I6, rk, q6⟩ => ?_
        refine thnF (Pv.run _ s6 τ4 H6 _ I6 q6) fun _ s7 ⟨yv, H7, I7, rv, kvs, k, a, ek, ha, hd7, hz7, nx⟩ => ?_
        subst ek
        cases rk
        exact dictSetT (X := X.blk sC HC scope ce fp) hu I7 hd7 hz7 ha rv fun _ I8 => ends ew I8 nx
  have fin := codeAny_compStart_dict loop (T.self X.A 0 _ _ _ stD loop)
  show codeAny _ _ (.compStart _ 0 (.ref it) (.ref D) (compEnvC scope cl sC.heap.objs.size X.env)) (compPost _ _ _ use Qf (.ref D) sC.heap.objs.size) _
  rw [eenv]
  exact fin
section
variable (hu : X.A.units + 1 < cLine) (hc : X.calm = true) (hN : X.N.Nodup) (hi : PI X tg iter wi) (ok : BlkOk X.N X.env.scope scope own)
    (hg : ∀ (s : Shared) (H : Hp) (C : Addr) (cl : List (Str × Addr)) (fp : List Addr), PG (X.blk s H scope (compEnvC scope cl C X.env) fp) tg g)
    (ht : ∀ (s : Shared) (H : Hp) (C : Addr) (cl : List (Str × Addr)) (fp : List Addr), PTs (X.blk s H scope (compEnvC scope cl C X.env) fp) ifs tt)
    (hk : ∀ (s : Shared) (H : Hp) (C : Addr) (cl : List (Str × Addr)) (fp : List Addr), PE (X.blk s H scope (compEnvC scope cl C X.env) fp) kx tk)
    (he : ∀ (s : Shared) (H : Hp) (C : Addr) (cl : List (Str × Addr)) (fp : List Addr), PE (X.blk s H scope (compEnvC scope cl C X.env) fp) vx tv)
include hu hc hN hi ok hg ht hk he
theorem pe_dcT (hs : ∀ x, foldedSetIterable iter X.env x = pure x := by intro _; rfl) : PE X (.DictComp kx vx [⟨tg, iter, ifs, 0⟩] scope pos) (tDcT wi g tt tk tv (own.map (·.2))) := by
  refine ⟨fun pz sA τ HA Q IA hw => ?_⟩
  rw [arm_eval_DictComp]
  refine dcT_core hu hc hN IA hi ok hg ht hk he hs hw fun D C s' mm H' IE fine hmm fpo => ⟨mm, hmm, fun h'' sb => ?_⟩
  obtain ⟨f0, f1, f2, f3, f4, f5⟩ := fpo
  exact ⟨.ref D, H', IE.turned (t' := s'.toks) (fun b o hb e => (sb.2 b hb).trans e) f0 f1 f3 f4 f5, rfl, fine⟩
/-- y = {..}: the block's name is the def's -/
theorem ps_setDcT {i : Nat} {y : Str} {py spos : Pos} (hy : X.N[i]? = some y) (hyl : X.env.scope.names.lookup y = some .local) (hsw : swapsWith (.DictComp kx vx [⟨tg, iter, ifs, 0⟩] scope pos) (some (.Name y py)) spos.line X.env = pure true)
    (hs : ∀ x, foldedSetIterable iter X.env x = pure x := by intro _; rfl) : PS X (.Assign [.Name y py] (.DictComp kx vx [⟨tg, iter, ifs, 0⟩] scope pos) spos) (tAsg (tDcT wi g tt tk tv (own.map (·.2))) (gName i)) := by
  refine ⟨fun pz sA τ HA E IA hw => ?_⟩
  have hw : tDcT wi g tt tk tv (own.map (·.2)) τ HA (fun x H1 => gName i x τ H1 E.nx) := hw
  rw [exec_Assign_Name_used _ _ _ _ hsw]
  refine wpAny_bind (wpAny_standAt (wpAny_bind (wpAny_bind (thn (dcT_core (use := some (assign (.Name y py) X.env)) (Qf := fun _ s' => SP X pz E .next s') hu hc hN IA hi ok hg ht hk he hs hw fun D C s' mm H' IE fine hmm fpo => ?_) fun _ s' q => wpAny_pure (wpAny_pure q)))))
  obtain ⟨f0, f1, f2, f3, f4, f5⟩ := fpo
  refine wpAny_assign_Name (store_ok2 (v := V.ref D) IE hN hy (.inl hyl) rfl (fun s2 I2 ⟨a, sb, ha⟩ => ?_) (.inr hyl))
  have far : C ≠ a := ha.elim (fun z => by rw [z]; exact f1) fun z => fun e => f4 y a z e.symm
  exact ⟨mm, hmm.sameBut sb far, fun h3 sb3 => ⟨_, H', I2.turned (t' := s2.toks) (fun b o hb e => (sb3.2 b hb).trans e) f0 f1 f3 f4 f5, fine⟩⟩
end
end
end
end PD

set_option Elab.async false
set_option linter.all false
set_option maxRecDepth 100000
set_option maxHeartbeats 4000000
/-! Dicts whose keys are tuples; is of bools; str of ints; index; texts turned round. -/
namespace PD
open PySem PySem.Spec PyProof.Rows L2
def dctTOf (m : Mu) : D → Option (List (List Key × D))
  | .dicT ks ds => some (ks.zip ds)
  | .ref a => match m a with | some (.dcT kvs) => some kvs | _ => none
  | _ => none
theorem dctT_dic {m : Mu} {kvs : List (List Key × D)} : dctTOf m (dicTOf kvs) = some kvs := by
  show some ((kvs.map (·.1)).zip (kvs.map (·.2))) = _
  rw [zip_self]
theorem dctT_ref {m : Mu} {a : Addr} {kvs : List (List Key × D)} (h : m a = some (.dcT kvs)) : dctTOf m (.ref a) = some kvs := by unfold dctTOf; simp only [h]
theorem dctT_rep {K : PySem.W.Frag} {H : Hp} {m : Mu} {d : D} {v : V} {kvs : List (List Key × D)} (rm : RM K H m) (r : Rep K H d v) (h : dctTOf m d = some kvs) :
    ∃ a us, v = .ref a ∧ Rd H a (.dT us) ∧ us.map (·.1) = kvs.map (·.1) ∧ RepL K H (kvs.map (·.2)) (us.map (·.2)) := by
  cases r with
  | @dicT ks ds a o us ea en r =>
    unfold dctTOf at h
    cases h
    have hl := r.length
    rw [List.length_map] at hl
    obtain ⟨z1, z2⟩ := map_snd_of (us := us) hl
    subst en
    exact ⟨a, us, rfl, .inr ⟨o, ea⟩, z1.symm, by rw [z2]; exact r⟩
  | ref a =>
    unfold dctTOf at h
    cases e : m a with
    | none => simp only [e] at h; cases h
    | some o =>
      have q := rm a o e
      cases o with
      | dcT es => simp only [e] at h; cases h; obtain ⟨us, e2, e3, r⟩ := q; exact ⟨a, us, rfl, .inl e2, e3, r⟩
      | _ => simp only [e] at h; cases h
  | _ => unfold dctTOf at h; cases h
def toKeyT : D → Option (List Key)
  | .tup ds => toKeys ds
  | _ => none
theorem keyT_rep {K : PySem.W.Frag} {H : Hp} {d : D} {v : V} {ks : List Key} (r : Rep K H d v) (h : toKeyT d = some ks) : ∃ b, v = .ref b ∧ H b = some (.tup (ks.map kV)) := by
  cases r with
  | @tup ds a vs s q =>
    have e := keys_rep q h
    subst e
    exact ⟨a, rfl, s⟩
  | _ => cases h
theorem dgetT_rd {H : Hp} {a b : Addr} {us : List (List Key × V)} {k : List Key} (e : Rd H a (.dT us)) (eb : H b = some (.tup (k.map kV))) : DGet H a (.ref b) (valV us k) := .inr ⟨us, k, b, e, rfl, eb, rfl⟩
theorem valT_some {K : PySem.W.Frag} {H : Hp} {k : List Key} {kvs : List (List Key × D)} {us : List (List Key × V)} (e : us.map (·.1) = kvs.map (·.1)) (r : RepL K H (kvs.map (·.2)) (us.map (·.2))) : (valV us k).isSome = (valD kvs k).isSome := by
  have z := val_rep (k := k) e r
  cases q : valD kvs k with
  | none => rw [z.2 q]; rfl
  | some d => obtain ⟨v, e1, _⟩ := z.1 d q; rw [e1]; rfl
def dGetTV (x y : D) (m : Mu) (Q : DK) : Prop := ∃ kvs, dctTOf m x = some kvs ∧ ∃ k, toKeyT y = some k ∧ ∃ d, valD kvs k = some d ∧ Q d m
def dInTV (f : Bool → Bool) (y x : D) (m : Mu) (Q : DK) : Prop := ∃ kvs, dctTOf m x = some kvs ∧ ∃ k, toKeyT y = some k ∧ Q (.bl (f (valD kvs k).isSome)) m
def dGet2TV (x y z : D) (m : Mu) (Q : DK) : Prop := ∃ kvs, dctTOf m x = some kvs ∧ ∃ k, toKeyT y = some k ∧ Q ((valD kvs k).getD z) m
def dDGetTU (dd dk : DE) : DE := fun s m Q => dd s m fun x m1 => dk s m1 fun y m2 => dGetTV x y m2 Q
def dDInTU (f : Bool → Bool) (dk dd : DE) : DE := fun s m Q => dk s m fun y m1 => dd s m1 fun x m2 => dInTV f y x m2 Q
def dDGet2TU (dd dk dx : DE) : DE := fun s m Q => dd s m fun x m1 => (dctTOf m1 x).isSome = true ∧ dk s m1 fun y m2 => dx s m2 fun z m3 => dGet2TV x y z m3 Q
section
variable {X : Cx} {o i e f : Expr} {pos apos cpos : Pos} {dd dk dx : DE}
theorem ge_dgetTU (hu : X.A.units + 1 < cLine) (ho : GE X o dd) (hi : GE X i dk) (hs : NoSl i) : GE X (.Subscript o i pos) (dDGetTU dd dk) := by
  obtain ⟨td, pd, ld⟩ := ho.ex
  obtain ⟨ti, pi, li⟩ := hi.ex
  refine .of ⟨_, pe_dget hu pd pi hs, fun s H sd m Qd Q rs rm h k => ?_⟩
  refine ld s H sd m _ _ rs rm h fun x H1 dx m1 t1 rm1 r1 h1 => ?_
  refine li s H1 sd m1 _ _ (rs.mono t1) rm1 h1 fun y H2 dy m2 t2 rm2 r2 h2 => ?_
  obtain ⟨kvs, e2, kk, e3, d, e4, h3⟩ := h2
  obtain ⟨a, us, rfl, e5, e6, r⟩ := dctT_rep rm2 (r1.mono t2) e2
  obtain ⟨v, e7, r7⟩ := (val_rep e6 r).1 d e4
  obtain ⟨b, rfl, eb⟩ := keyT_rep r2 e3
  exact ⟨a, v, rfl, by rw [← e7]; exact dgetT_rd e5 eb, k _ _ _ _ (t1.trans t2) rm2 r7 h3⟩
theorem gt_dinTU (hu : X.A.units + 1 < cLine) (hi : GE X i dk) (ho : GE X o dd) (hm : behindInMarks .In o = false := by rfl) : GT X (.Compare i [.In] [o] pos) (dTest (dDInTU (fun b => b) dk dd)) := by
  obtain ⟨td, pd, ld⟩ := ho.ex
  obtain ⟨ti, pi, li⟩ := hi.ex
  refine .of ⟨_, pt_cmp (pc_din hu pi pd) hm, LE.testB fun s H sd m Qd Q rs rm h k => ?_⟩
  refine li s H sd m _ _ rs rm h fun y H1 dy m1 t1 rm1 r1 h1 => ?_
  refine ld s H1 sd m1 _ _ (rs.mono t1) rm1 h1 fun x H2 dx m2 t2 rm2 r2 h2 => ?_
  obtain ⟨kvs, e2, kk, e3, h3⟩ := h2
  obtain ⟨a, us, rfl, e5, e6, r⟩ := dctT_rep rm2 r2 e2
  obtain ⟨b, rfl, eb⟩ := keyT_rep (r1.mono t2) e3
  refine ⟨a, _, rfl, dgetT_rd e5 eb, ?_⟩
  rw [valT_some e6 r]
  exact k _ _ _ _ (t1.trans t2) rm2 (.bl _) h3
theorem ge_dget2TU (hu : X.A.units + 1 < cLine) (ho : GE X o dd) (he : GE X e dk) (hf : GE X f dx) (m : M2 X o "get" apos e f cpos) : GE X (.Call (.Attribute o "get" apos) [e, f] [] cpos) (dDGet2TU dd dk dx) := by
  obtain ⟨td, pd, ld⟩ := ho.ex
  obtain ⟨te, pe, le⟩ := he.ex
  obtain ⟨tf, pf, lf⟩ := hf.ex
  refine .of ⟨_, pe_dget2 hu pd pe pf m, fun s H sd m Qd Q rs rm h k => ?_⟩
  refine ld s H sd m _ _ rs rm h fun x H1 dx1 m1 t1 rm1 r1 h1 => ?_
  obtain ⟨ei, h2⟩ := h1
  obtain ⟨kvs0, e0⟩ := Option.isSome_iff_exists.mp ei
  obtain ⟨a, us0, rfl, e1, _⟩ := dctT_rep rm1 r1 e0
  refine ⟨a, rfl, .inr ⟨us0, e1⟩, ?_⟩
  refine le s H1 sd m1 _ _ (rs.mono t1) rm1 h2 fun y H2 dy m2 t2 rm2 r2 h3 => ?_
  refine lf s H2 sd m2 _ _ (rs.mono (t1.trans t2)) rm2 h3 fun z H3 dz m3 t3 rm3 r3 h4 => ?_
  obtain ⟨kvs, e2, kk, e3, h5⟩ := h4
  obtain ⟨a', us, e9, e5, e6, r⟩ := dctT_rep rm3 (r1.mono (t2.trans t3)) e2
  cases e9
  obtain ⟨b, rfl, eb⟩ := keyT_rep (r2.mono t3) e3
  refine ⟨_, dgetT_rd e5 eb, k _ _ _ _ (t1.trans (t2.trans t3)) rm3 ?_ h5⟩
  have z := val_rep (k := kk) e6 r
  cases q : valD kvs kk with
  | none => rw [z.2 q]; exact r3
  | some d => obtain ⟨v, e7, r7⟩ := z.1 d q; rw [e7]; exact r7
end
/-! {k: v for ..}, the keys tuples -/
def dDCompT (st : Mu → Prop) (g : DG) (t : DT) (tk te : DE) (p : Addr) (s : Sd) (Q : DK) : List D → List (List Key × D) → Mu → Prop
  | [], acc => fun m => st m ∧ m p = some (.dcT acc) ∧ Q (.ref p) m
  | d :: es, acc => fun m => st m ∧ g d s m fun s2 m2 => t s2 m2 fun b m3 =>
      if b = true then tk s2 m3 fun y m4 => te s2 m4 fun z m5 => ∃ k, toKeyT y = some k ∧ m5 p = some (.dcT acc) ∧ acc.length < sizeLine ∧ dDCompT st g t tk te p s Q es (putKD acc k z) (mset m5 p (.dcT (putKD acc k z))) else dDCompT st g t tk te p s Q es acc m3
def dDcT (di : DI) (g : DG) (t : DT) (tk te : DE) (vs : List Nat) : DE := fun s m Q => di s m fun es st m1 => ∀ p, m1 p = none → dDCompT st g t tk te p (wipeD s vs) Q es [] (mset m1 p (.dcT []))
section
variable {X : Cx}
theorem le_dcT {s : L2.St} {H : Hp} {Q : VK} {sd : Sd} {m : Mu} {Qd : DK} {tg iter : Expr} {vs : List Nat} {wi : TI} {di : DI} {g : TG} {dg : DG} {js : List Nat} {dt : DT} {dk de : DE} (hi : GI X tg iter wi di) (lg : LG X.K g dg js) (hj : ∀ j ∈ js, j ∈ vs)
    (rs : RS X.K H sd s) (rm : RM X.K H m) (h : dDcT di dg dt dk de vs sd m Qd) (k : ∀ v H' dv m', TX H H' → RM X.K H' m' → Rep X.K H' dv v → Qd dv m' → Q v H') : tDcT wi g (liftT X.K dt) (liftE X.K dk) (liftE X.K de) vs s H Q := by
  refine hi.li s H sd m _ _ rs rm h fun J H1 es st m1 t1 rm1 jo h1 => ?_
  intro p hp
  have h2 := h1 p (rm1.fresh hp)
  have tn : TX H1 (upd H1 p (.dT [])) := .new hp
  refine ⟨fun i n H' => i ≤ es.length ∧ n = es.length - i ∧ ∃ m' acc, TX H1 H' ∧ RM X.K H' m' ∧ dDCompT st dg dt dk de p (wipeD sd vs) Qd (es.drop i) acc m', ⟨es.length, Nat.zero_le _, by omega, _, [], tn, rm1.newT hp, h2⟩, ?_⟩
  rintro i n H' ⟨hle, rfl, m', acc, t2, rm2, q⟩
  by_cases hlt : i < es.length
  · rw [List.drop_eq_getElem_cons hlt] at q
    obtain ⟨hst, q⟩ := q
    refine .inr ⟨jo.go i H' m' t2 rm2 hst hlt, fun H2 => ∃ m2 acc, TX H1 H2 ∧ RM X.K H2 m2 ∧ dDCompT st dg dt dk de p (wipeD sd vs) Qd (es.drop (i + 1)) acc m2, fun H2 ⟨m2, acc, a, b, e⟩ => ⟨es.length - (i + 1), by omega, hlt, rfl, m2, acc, a, b, e⟩, fun x H3 hy => ?_⟩
    obtain ⟨dx, e, t3, rm3, rx⟩ := jo.yld i H' x H3 m' t2 rm2 hst hlt hy
    rw [List.getElem?_eq_getElem hlt] at e
    cases e
    refine lg x _ (wipe s vs) H3 (wipeD sd vs) m' _ _ rx ((rs.mono (t1.trans (t2.trans t3))).wipe _) rm3 q fun s4 H4 sd4 m4 t4 rs4 rm4 q4 ow => ?_
    refine ⟨by rw [ow _ hj, wipe_wipe], ?_⟩
    have t14 : TX H1 H4 := t2.trans (t3.trans t4)
    refine liftT_le _ dt s4 H4 sd4 m4 _ _ rs4 rm4 q4 fun b H5 m5 t5 rm5 q5 => ?_
    cases b with
    | true =>
      show liftE X.K dk s4 H5 _
      refine liftE_le _ dk s4 H5 sd4 m5 _ _ (rs4.mono t5) rm5 q5 fun y H6 dy m6 t6 rm6 ry q6 => ?_
      refine liftE_le _ de s4 H6 sd4 m6 _ _ (rs4.mono (t5.trans t6)) rm6 q6 fun z H7 dz m7 t7 rm7 rz q7 => ?_
      obtain ⟨kk, e5, e6, hz, q8⟩ := q7
      obtain ⟨us, e7, e8, r7⟩ := rm7 p _ e6
      obtain ⟨b, rfl, eb⟩ := keyT_rep (ry.mono t7) e5
      have hlen : us.length = acc.length := by have z := congrArg List.length e8; rwa [List.length_map, List.length_map] at z
      have pr := putK_rep (k := kk) e8 r7 rz
      exact ⟨us, kk, b, rfl, eb, e7, by omega, _, putKD acc kk dz, t14.trans (t5.trans (t6.trans (t7.trans (.dT e7)))), rm7.setT e7 pr.1 pr.2, q8⟩
    | false =>
      exact ⟨m5, acc, t14.trans t5, rm5, q5⟩
  · have e : i = es.length := by omega
    subst e
    rw [List.drop_length] at q
    exact .inl ⟨jo.stop _ H' m' t2 rm2 q.1 (Nat.le_refl _), k _ H' _ m' (t1.trans t2) rm2 (.ref p) q.2.2⟩
theorem ge_dcT {kx vx tg iter : Expr} {ifs : List Expr} {scope : Scope} {own : List (Str × Nat)} {pos : Pos} {di : DI} {dg : DG} {js : List Nat} {dt : DT} {dk de : DE} (hu : X.A.units + 1 < cLine) (hc : X.calm = true) (hN : X.N.Nodup) (hi : GIE X tg iter di) (ok : BlkOk X.N X.env.scope scope own)
    (hg : ∀ (s : Shared) (H : Hp) (C : Addr) (cl : List (Str × Addr)) (fp : List Addr), GG (X.blk s H scope (compEnvC scope cl C X.env) fp) tg dg js) (ht : ∀ (s : Shared) (H : Hp) (C : Addr) (cl : List (Str × Addr)) (fp : List Addr), GTs (X.blk s H scope (compEnvC scope cl C X.env) fp) ifs dt)
    (hk : ∀ (s : Shared) (H : Hp) (C : Addr) (cl : List (Str × Addr)) (fp : List Addr), GE (X.blk s H scope (compEnvC scope cl C X.env) fp) kx dk)
    (he : ∀ (s : Shared) (H : Hp) (C : Addr) (cl : List (Str × Addr)) (fp : List Addr), GE (X.blk s H scope (compEnvC scope cl C X.env) fp) vx de) (hj : ∀ j ∈ js, j ∈ own.map (·.2)) (hs : ∀ x, foldedSetIterable iter X.env x = pure x := by intro _; rfl) :
    GE X (.DictComp kx vx [⟨tg, iter, ifs, 0⟩] scope pos) (dDcT di dg dt dk de (own.map (·.2))) := by
  obtain ⟨wi, hi⟩ := hi
  refine ⟨⟨fun pz s0 s H Q I ⟨sd, m, Qd, rs, rm, h, k⟩ => (pe_dcT (g := liftG X.K dg js) (tt := liftT X.K dt) (tk := liftE X.K dk) (tv := liftE X.K de) hu hc hN hi.pi ok (fun s H C cl fp => (hg s H C cl fp).pg) (fun s H C cl fp => (ht s H C cl fp).pts) (fun s H C cl fp => (hk s H C cl fp).pe) (fun s H C cl fp => (he s H C cl fp).pe) hs).run pz s0 s H Q I ?_⟩⟩
  exact le_dcT hi (hg s0 H 0 [] []).lg hj rs rm h k
end
/-! y = {..} -/
theorem sw_trueD {kx vx : Expr} {gs : List Comprehension} {scope : Scope} {pos py : Pos} {y : Str} {l : Nat} {env : Env} (hk : env.scope.kind = .function) (hy : env.scope.names.lookup y = some .local) (hl : (py.line == pos.line) = true)
    (ha : (scope.names.any fun (n, k) => n == y && (k == .local || k == .cell)) = false) : swapsWith (.DictComp kx vx gs scope pos) (some (.Name y py)) l env = pure true := by
  have e1 : env.kindOf y = some .local := hy
  have e2 : env.blockKind = .function := by unfold Env.blockKind; rw [hk]; rfl
  unfold swapsWith
  simp only [e2, e1, ha, Expr.pos, hl]
  rfl
theorem gs_setDcT {X : Cx} {i : Nat} {y : Str} {py spos : Pos} {kx vx tg iter : Expr} {ifs : List Expr} {scope : Scope} {own : List (Str × Nat)} {pos : Pos} {di : DI} {dg : DG} {js : List Nat} {dt : DT} {dk de : DE} (hu : X.A.units + 1 < cLine) (hc : X.calm = true) (hN : X.N.Nodup) (hy : X.N[i]? = some y) (hyl : X.env.scope.names.lookup y = some .local)
    (hsw : swapsWith (.DictComp kx vx [⟨tg, iter, ifs, 0⟩] scope pos) (some (.Name y py)) spos.line X.env = pure true) (hi : GIE X tg iter di) (ok : BlkOk X.N X.env.scope scope own)
    (hg : ∀ (s : Shared) (H : Hp) (C : Addr) (cl : List (Str × Addr)) (fp : List Addr), GG (X.blk s H scope (compEnvC scope cl C X.env) fp) tg dg js) (ht : ∀ (s : Shared) (H : Hp) (C : Addr) (cl : List (Str × Addr)) (fp : List Addr), GTs (X.blk s H scope (compEnvC scope cl C X.env) fp) ifs dt)
    (hk : ∀ (s : Shared) (H : Hp) (C : Addr) (cl : List (Str × Addr)) (fp : List Addr), GE (X.blk s H scope (compEnvC scope cl C X.env) fp) kx dk)
    (he : ∀ (s : Shared) (H : Hp) (C : Addr) (cl : List (Str × Addr)) (fp : List Addr), GE (X.blk s H scope (compEnvC scope cl C X.env) fp) vx de) (hj : ∀ j ∈ js, j ∈ own.map (·.2)) (hs : ∀ x, foldedSetIterable iter X.env x = pure x := by intro _; rfl) :
    GS X (.Assign [.Name y py] (.DictComp kx vx [⟨tg, iter, ifs, 0⟩] scope pos) spos) (dSet i (dDcT di dg dt dk de (own.map (·.2)))) := by
  obtain ⟨wi, hi⟩ := hi
  have P : PS X (.Assign [.Name y py] (.DictComp kx vx [⟨tg, iter, ifs, 0⟩] scope pos) spos) (fun E s H => ∃ sd m Ed, RS X.K H sd s ∧ RM X.K H m ∧ dSet i (dDcT di dg dt dk de (own.map (·.2))) Ed sd m ∧
      ∀ s' H' sd' m', TX H H' → RS X.K H' sd' s' → RM X.K H' m' → Ed.nx sd' m' → E.nx s' H') :=
    ⟨fun pz s0 s H E I ⟨sd, m, Ed, rs, rm, h, k⟩ => (ps_setDcT (g := liftG X.K dg js) (tt := liftT X.K dt) (tk := liftE X.K dk) (tv := liftE X.K de) hu hc hN hi.pi ok (fun s H C cl fp => (hg s H C cl fp).pg) (fun s H C cl fp => (ht s H C cl fp).pts) (fun s H C cl fp => (hk s H C cl fp).pe) (fun s H C cl fp => (he s H C cl fp).pe) hy hyl hsw hs).run pz s0 s H E I
      (le_dcT (Qd := fun x m1 => Ed.nx (sd.set i (some x)) m1) hi (hg s0 H 0 [] []).lg hj rs rm h fun v H' dv m' t rm' rv q => k _ H' _ m' t ((rs.mono t).set rv i) rm' q)⟩
  exact ⟨_, P, fun s H sd m Ed E rs rm h k1 _ _ _ => ⟨sd, m, Ed, rs, rm, h, k1⟩⟩
def dFzT (i : Nat) (d : DS) : DS := fun E s m => d { E with nx := fun s' m' => ∃ p kvs, s'[i]? = some (some (.ref p)) ∧ m' p = some (.dcT kvs) ∧ E.nx (s'.set i (some (dicTOf kvs))) (mdel m' p) } s m
theorem gs_fzT {X : Cx} {st : Stmt} {d : DS} (i : Nat) (h : GS X st d) : GS X st (dFzT i d) := by
  obtain ⟨t, p, l⟩ := h.ex
  refine ⟨_, ps_fz p, fun s H sd m Ed E rs rm h k1 k2 k3 k4 => ?_⟩
  refine l s H sd m _ _ rs rm h ?_ k2 k3 k4
  rintro s' H' sd' m' t' rs' rm' ⟨p, kvs, e1, e2, q⟩
  obtain ⟨v, e3, r3⟩ := rs'.at_ i _ e1
  cases r3
  obtain ⟨us, e4, e5, r4⟩ := rm' p _ e2
  have tt : ∀ od, TX H' (upd H' p (.frz od (.dT us))) := fun od => .mut e4 (fun z => z)
  exact ⟨p, _, e4, trivial, fun od => k1 _ _ _ _ (t'.trans (tt od)) ((rs'.mono (tt od)).put e3 (.dicT upd_same e5 (r4.mono (tt od)))) (rm'.frzG e4 (fun z => z)) q⟩
/-! is of bools -/
def dIsB (f : Bool → Bool) : D2 := fun x y m Q => match x, y with
  | .bl a, .bl b => Q (.bl (f (decide (a = b)))) m
  | _, _ => False
theorem lr_isB {K : PySem.W.Frag} : LR K rIsB (dIsB id) := fun x y H dx dy m Qd Q rm rx ry h k => by
  cases rx with
  | bl a => cases ry with
    | bl b => exact ⟨a, b, rfl, rfl, k _ H _ m (.refl H) rm (.bl _) h⟩
    | _ => exact h.elim
  | _ => exact h.elim
theorem lr_isNotB {K : PySem.W.Frag} : LR K rNotB (dIsB not) := fun x y H dx dy m Qd Q rm rx ry h k => by
  cases rx with
  | bl a => cases ry with
    | bl b => exact ⟨a, b, rfl, rfl, k _ H _ m (.refl H) rm (.bl _) h⟩
    | _ => exact h.elim
  | _ => exact h.elim
theorem dIsB_b {f : Bool → Bool} {a b : Bool} {m : Mu} {Q : DK} : dIsB f (.bl a) (.bl b) m Q = Q (.bl (f (decide (a = b)))) m := rfl
/-! str of an int -/
def dStrI : DC := fun ds m Q => match ds with
  | [.int i] => i.natAbs.log2 < 1920 ∧ Q (.str (toString i)) m
  | _ => False
theorem lc_strI {K : PySem.W.Frag} : LC K (fun xs H Q => ∃ i, xs = [V.int i] ∧ i.natAbs.log2 < 1920 ∧ Q (V.str (toString i)) H) dStrI := fun vs H ds m Qd Q rm r h k => by
  match ds, r, h with
  | [.int i], r, h =>
    obtain ⟨v, rfl, ra⟩ := repL1 r
    cases ra
    exact ⟨i, rfl, h.1, k _ H _ m (.refl H) rm (.str _) h.2⟩
theorem dStrI_i {i : Int} {m : Mu} {Q : DK} : dStrI [.int i] m Q = (i.natAbs.log2 < 1920 ∧ Q (.str (toString i)) m) := rfl
/-! xs.index(x), of plain data -/
def dIndexP : DM := fun x ds m Q => ∃ es d j, ds = [d] ∧ lsq m x = some es ∧ plns es = true ∧ pln d = true ∧ soks es = true ∧ sok d = true ∧ deps es ≤ 50 ∧ dep d ≤ 50 ∧ es[j]? = some d ∧ (∀ i, i < j → es[i]? ≠ some d) ∧ Q (.int (j : Nat)) m
theorem toPs_get : ∀ {es : List D} {ps : List PyData} {j : Nat}, toPs es = some ps → (∀ e, es[j]? = some e → ∃ p, toP e = some p ∧ ps[j]? = some p) ∧ (∀ p, ps[j]? = some p → ∃ e, es[j]? = some e ∧ toP e = some p)
  | [], _, j, h => by cases h; exact ⟨fun e h => by simp at h, fun p h => by simp at h⟩
  | d :: es, _, j, h => by
    unfold toPs at h
    cases e1 : toP d with
    | none => rw [e1] at h; cases h
    | some p =>
      cases e2 : toPs es with
      | none => rw [e1, e2] at h; cases h
      | some ps =>
        rw [e1, e2] at h; cases h
        cases j with
        | zero => exact ⟨fun e h => by simp at h; subst h; exact ⟨p, e1, rfl⟩, fun q h => by simp at h; subst h; exact ⟨d, rfl, e1⟩⟩
        | succ j => exact ⟨fun e h => by simpa using (toPs_get e2).1 e (by simpa using h), fun q h => by simpa using (toPs_get e2).2 q (by simpa using h)⟩
theorem lm_index {K : PySem.W.Frag} : LM K (rIndexD K) dIndexP := fun x vs H dx ds m Qd Q rm rx r h k => by
  obtain ⟨es, d, j, rfl, e1, p1, p2, s1, s2, d1, d2, g1, g2, q⟩ := h
  obtain ⟨v, rfl, rv⟩ := repL1 r
  obtain ⟨a, us, rfl, sl, r2⟩ := lsq_rep rm rx e1
  obtain ⟨ps, t1, t2, t3, t4⟩ := toPs_pln es p1
  obtain ⟨p, u1, u2, u3, u4⟩ := toP_pln d p2
  have shp : ∀ {q : PyData}, q.canLay0 = true → q.depth ≤ 60 → SeqAt.shaped q = true := fun {q} a b => by
    unfold SeqAt.shaped; rw [a, Bool.true_and]; exact decide_eq_true (by omega)
  obtain ⟨p', w1, w2⟩ := (toPs_get t1).1 d g1
  rw [u1] at w1; cases w1
  refine ⟨a, v, p, ps, j, p, rfl, rfl, .lst sl (r2.dp t1), rv.dp u1, ?_, shp (u4.trans s2) (by omega), w2, ?_, ?_, k _ H _ m (.refl H) rm (.int _) q⟩
  · refine shp ?_ ?_
    · show PyData.canLay0 (.list ps) = true
      simp [PyData.canLay0, t4, s1]
    · simp [PyData.depth, t3]; omega
  · exact (eqv_iff d d p p p2 p2 u1 u1).mpr rfl
  · intro i z hi hz
    obtain ⟨e, f1, f2⟩ := (toPs_get t1).2 z hz
    have hpe : pln e = true := plns_iff.mp p1 e (List.mem_of_getElem? f1)
    cases c : PyData.eqv z p with
    | false => rfl
    | true =>
      have := (eqv_iff e d z p hpe p2 f2 u1).mp c
      subst this
      exact absurd f1 (g2 i hi)
/-! a text turned round -/
def revT (x : Str) : Str := ⟨x.cps.toList.reverse.toArray⟩
def dRevT (d : DE) : DE := fun s m Q => d s m fun x m1 => ∃ z, x = .str z ∧ z.length ≤ sizeLine ∧ Q (.str (revT z)) m1
theorem strIx_rev (x : Str) : ((Builtin.Str.strSliceIndices none none (-1) x.length).filterMap (x.cps[·]?)).toArray = x.cps.toList.reverse.toArray := by
  show ((sliceRange ((x.cps.size : Int) - 1) (-1) (-1)).filterMap (x.cps[·]?)).toArray = _
  rw [PySem.W.krv_sliceRange, PySem.W.krv_range, List.filterMap_reverse, PySem.W.krv_all]
section
variable {X : Cx}
def tRevT (te : TE) : TE := fun τ H Q => te τ H fun x H1 => ∃ z, x = .str z ∧ z.length ≤ sizeLine ∧ Q (.str (revT z)) H1
theorem pe_revT {e : Expr} {te : TE} {k : Nat} {p1 p2 p3 pos : Pos} (he : PE X e te) : PE X (.Subscript e (.Slice none none (some (.UnaryOp .USub (.Constant (.int 1) k p1) p2)) p3) pos) (tRevT te) := by
  refine ⟨fun pz s τ H Q I h => ?_⟩
  refine Subscript_ (thn (he.run pz s τ H _ I h) fun v tA ⟨x, H1, iA, r1, q1⟩ => ?_)
  obtain ⟨z, ex, hz, q⟩ := q1
  subst ex
  obtain ⟨tk9, rfl⟩ := r1
  have st9 : PO X (some (.UnaryOp .USub (.Constant (.int 1) k p1) p2)) (tPart (tUn (rU fun i => .int (-i)) (tC (.int 1)))) := po_some (pe_un un_neg pe_int)
  refine wpAny_Slice (thn (po_none.run pz tA τ H1 (fun o H2 => o = none ∧ H2 = H1) iA ⟨rfl, rfl⟩) fun vl tB ⟨l, H2, iB, pl, el, e2⟩ => ?_)
  subst el e2
  refine thn (po_none.run pz tB τ H2 (fun o H3 => o = none ∧ H3 = H2) iB ⟨rfl, rfl⟩) fun vu tC ⟨u, H3, iC, pu, eu, e3⟩ => ?_
  subst eu e3
  refine thn (st9.run pz tC τ H3 (fun o H4 => o = some (-1) ∧ H4 = H3) iC ⟨1, rfl, -1, rfl, rfl, rfl⟩) fun vs tD ⟨o, H4, iD, ps, eo, e4⟩ => ?_
  subst eo e4
  have iE : Inv X pz τ H4 { tD with heap := tD.heap.push { cls := .type "slice", data := .fields #[vl, vu, vs] } } := iD.kept (t' := tD.toks) fun b ob q => Heap.get?_push_of_some _ q
  obtain ⟨l, rfl, el⟩ := IsPart.raw pl
  obtain ⟨u, rfl, eu⟩ := IsPart.raw pu
  obtain ⟨st, rfl, es⟩ := IsPart.raw ps
  show wpAny (model X.prog X.w) X.A (subscriptTail e (.Slice none none (some (.UnaryOp .USub (.Constant (.int 1) k p1) p2)) p3) (.str z tk9) (.ref tD.heap.objs.size)) (EP X pz τ Q) X.xe { tD with heap := tD.heap.push { cls := .type "slice", data := .fields #[partValue l, partValue u, partValue st] } }
  refine tail_any (ops := [.str z tk9, .ref tD.heap.objs.size]) (typeIs_str _ _ _) (PySem.F.slot_str_getitem.lookup) ?_ (by with_unfolding_all rfl)
  cases l with
  | some l => cases el
  | none =>
  cases u with
  | some u => cases eu
  | none =>
  cases st with
  | none => cases es
  | some st =>
  obtain ⟨i, t3⟩ := st
  cases es
  refine wpAny_getItem_str_slice (l := none) (u := none) (st := some (-1, t3)) ⟨_, Heap.get?_push_size _ rfl, rfl, rfl⟩ rfl ?_
  show Made.post (if (((-1 : Int) == 1) && _) = true then _ else Made.str ⟨((Builtin.Str.strSliceIndices none none (-1) z.length).filterMap (z.cps[·]?)).toArray⟩) (EP X pz τ Q) _
  rw [show ((-1 : Int) == 1) = false from rfl, Bool.false_and, if_neg (by decide), strIx_rev]
  refine ⟨?_, .str (revT z), H4, iE.tok _, ⟨_, rfl⟩, q⟩
  show (revT z).length ≤ sizeLine
  have : (revT z).length = z.length := by unfold revT; show z.cps.toList.reverse.toArray.size = z.cps.size; simp
  omega
theorem ge_revT {e : Expr} {de : DE} {k : Nat} {p1 p2 p3 pos : Pos} (he : GE X e de) : GE X (.Subscript e (.Slice none none (some (.UnaryOp .USub (.Constant (.int 1) k p1) p2)) p3) pos) (dRevT de) := by
  obtain ⟨te, p, l⟩ := he.ex
  refine .of ⟨_, pe_revT p, fun s H sd m Qd Q rs rm h k => ?_⟩
  refine l s H sd m _ _ rs rm h fun v H1 dv m1 t1 rm1 r1 h1 => ?_
  obtain ⟨z, rfl, hz, q⟩ := h1
  cases r1
  exact ⟨z, rfl, hz, k _ _ _ _ t1 rm1 (.str _) q⟩
theorem revT_tx {l : List Nat} : revT (tx l) = tx l.reverse := by unfold revT; rw [cps_tx]; rfl
end
end PD
namespace PD
open PySem PySem.Spec PyProof.Rows L2
theorem units65 {k : Nat} {A : Around} (r : Room k A) : A.units + 65 < cLine := by have := r.un; omega
end PD

set_option Elab.async false
set_option linter.all false
set_option maxRecDepth 100000
set_option maxHeartbeats 4000000
/-! zip of a list and a tuple: told for any two things that can be walked. -/
namespace PD
open PySem PySem.Spec PyProof.Rows L2 RZ
/-- what can be walked: the state of its iterator, and what it is -/
structure Wk where
  It : Heap → Addr → Addr → Nat → Prop
  Sq : Heap → Addr → Array Value → Prop
  e1 : ∀ {h h' : Heap} {a b l : Addr} {i : Nat}, It h a l i → Heap.ExtBut b h h' → a ≠ b → It h' a l i
  e2 : ∀ {h h' : Heap} {a b : Addr} {xs : Array Value}, Sq h a xs → Heap.ExtBut b h h' → a ≠ b → Sq h' a xs
  same : ∀ {h h' : Heap} {a l : Addr} {i : Nat}, It h a l i → (∀ o, h.get? a = some o → h'.get? a = some o) → It h' a l i
  flds : ∀ {h : Heap} {a l : Addr} {i : Nat}, It h a l i → ∃ o fs, h.get? a = some o ∧ o.data = .fields fs
  item : ∀ {prog : Program} {w : World} {A : Around} {E : Value → Shared → Prop} {s : Shared} {it l : Addr} {i : Nat} {xs : Array Value} {x : Value} {Q : Value → Shared → Prop}, It s.heap it l i → Sq s.heap l xs → xs[i]? = some x →
    (∀ h', It h' it l (i + 1) → Heap.SameBut it s.heap h' → Q x { s with heap := h' }) → wpAny (model prog w) A (Builtin.SmallTypes.nextOf (.ref it)) Q E s
  stop : ∀ {prog : Program} {w : World} {A : Around} {E : Value → Shared → Prop} {s : Shared} {it l : Addr} {i : Nat} {xs : Array Value} {Q : Value → Shared → Prop}, A.handled = none → It s.heap it l i → Sq s.heap l xs → xs[i]? = none →
    (∀ h' e, Heap.ExtBut it s.heap h' → (∃ o, h'.get? e = some o ∧ o.cls = .type "StopIteration") → E (.ref e) { s with heap := h' }) → wpAny (model prog w) A (Builtin.SmallTypes.nextOf (.ref it)) Q E s
def wkL : Wk where
  It := Heap.IsListIter
  Sq := Heap.IsList
  e1 := Heap.IsListIter.extBut
  e2 := Heap.IsList.extBut
  same := Heap.IsListIter.at
  flds := fun ⟨o, a, _, c⟩ => ⟨o, _, a, c⟩
  item := wpAny_nextOf_list_item
  stop := wpAny_nextOf_list_end
def wkT : Wk where
  It := Heap.IsTupleIter
  Sq := Heap.IsTuple
  e1 := Heap.IsTupleIter.extBut
  e2 := Heap.IsTuple.extBut
  same := Heap.IsTupleIter.at
  flds := fun ⟨o, a, _, c⟩ => ⟨o, _, a, c⟩
  item := nextOf_tuple_item
  stop := nextOf_tuple_end
end PD
namespace PD
open PySem PySem.Spec PyProof.Rows L2 RZ
section
variable {prog : Program} {w : World} {A : Around} {E : Value → Shared → Prop} {s : Shared} {j k : Wk} {z TI TO i1 i2 l1 l2 : Addr} {n1 n2 : Nat} {xs ys : Array Value} {a b : Value}
/-- what a zip stands on, at one turn -/
structure ZAt (j k : Wk) (z TI TO i1 i2 l1 l2 : Addr) (n1 n2 : Nat) (xs ys : Array Value) (a b : Value) (h : Heap) : Prop where
  hz : IsZip h z TI TO .none
  ti : IsPair h TI (.ref i1) (.ref i2)
  to : IsPair h TO a b
  t1 : j.It h i1 l1 n1
  t2 : k.It h i2 l2 n2
  s1 : j.Sq h l1 xs
  s2 : k.Sq h l2 ys
theorem zipW_item {x y : Value} {Q : Value → Shared → Prop} (D : ZipApart z TI TO i1 i2 l1 l2) (Z : ZAt j k z TI TO i1 i2 l1 l2 n1 n2 xs ys a b s.heap) (hx : xs[n1]? = some x) (hy : ys[n2]? = some y)
    (hQ : ∀ h', IsZip h' z TI TO (rawInt s.heap.objs.size) → IsPair h' TO x y → j.It h' i1 l1 (n1 + 1) → k.It h' i2 l2 (n2 + 1) → IsPair h' s.heap.objs.size x y → h'.objs.size = s.heap.objs.size + 1 →
      (∀ c o, c ≠ z → c ≠ TO → c ≠ i1 → c ≠ i2 → s.heap.get? c = some o → h'.get? c = some o) → Q (.ref s.heap.objs.size) { s with heap := h' }) :
    wpAny (model prog w) A (Builtin.«zip.__next__» ⟨[.ref z], []⟩) (fun fin s' => ∃ v, fin = .done (.ret v) ∧ Q v s') E s := by
  obtain ⟨Zz, Zi, Zo, Z1, Z2, Y1, Y2⟩ := Z
  -- the pair's place is taken
  show wpAny _ _ (field (.ref z) 2 >>= _) _ _ s
  refine wpAny_bind (wpAny_field (x := .bool false) Zz rfl rfl ?_)
  show wpAny _ _ (field (.ref z) 3 >>= _) _ _ s
  refine wpAny_bind (wpAny_field (x := .ref TI) Zz rfl rfl (wpAny_bind (wpAny_seqItems Zi rfl ?_)))
  show wpAny _ _ (Builtin.SmallTypes.ownedTupleIsFree (.ref z) >>= _) _ _ s
  unfold Builtin.SmallTypes.ownedTupleIsFree
  refine wpAny_bind (wpAny_bind (wpAny_field (x := .none) Zz rfl rfl (wpAny_pure ?_)))
  rw [if_pos (by rfl)]
  refine wpAny_bind (wpAny_rule (wpAny_bind (wpAny_field (x := .ref TO) Zz rfl rfl (wpAny_bind (wpAny_setField_rec Zz (by simp) fun hA zA kA => wpAny_bind ?_)))))
  have zA' : IsZip hA z TI TO .ellipsis := zA
  clear zA
  simp only [List.forIn_nil, List.forIn_cons, List.zipIdx_nil, List.zipIdx_cons]
  have uA := kA.extBut
  -- the first item
  refine wpAny_bind (wpAny_bind (wpAny_onRaise ?_))
  show wpAny _ _ (Builtin.SmallTypes.nextOf (.ref i1) >>= _) _ _ { s with heap := hA }
  refine wpAny_bind (j.item (j.e1 Z1 uA D.i1z) (j.e2 Y1 uA D.l1z) hx fun hB tB kB => wpAny_pure ?_)
  have uB := kB.extBut
  have pB : IsPair hB TO a b := uB _ _ D.TOi1 (uA _ _ D.TOz Zo)
  refine wpAny_bind (wpAny_seqItems pB rfl (wpAny_bind (wpAny_updateSeq_pair pB fun hC pC kC => wpAny_bind (wpAny_letGo (wpAny_pure ?_)))))
  have pC' : IsPair hC TO x b := pC
  have uC := kC.extBut
  -- the second
  refine wpAny_bind (wpAny_bind (wpAny_onRaise ?_))
  show wpAny _ _ (Builtin.SmallTypes.nextOf (.ref i2) >>= _) _ _ { s with heap := hC }
  refine wpAny_bind (k.item (k.e1 (k.e1 (k.e1 Z2 uA D.i2z) uB (Ne.symm D.i12)) uC (Ne.symm D.TOi2)) (k.e2 (k.e2 (k.e2 Y2 uA D.l2z) uB D.l2i1) uC D.l2TO) hy fun hD tD kD => wpAny_pure ?_)
  have uD := kD.extBut
  have pD9 : IsPair hD TO x b := uD _ _ D.TOi2 pC'
  refine wpAny_bind (wpAny_seqItems pD9 rfl (wpAny_bind (wpAny_updateSeq_pair pD9 fun hE pE kE => wpAny_bind (wpAny_letGo (wpAny_pure (wpAny_pure ?_))))))
  have pE' : IsPair hE TO x y := pE
  have uE := kE.extBut
  refine wpAny_bind (wpAny_seqItems pE' rfl (wpAny_bind (wpAny_newTuple ?_)))
  have es : hE.objs.size = s.heap.objs.size := by rw [kE.1, kD.1, kC.1, kB.1, kA.1]
  have far : ∀ c o, c ≠ z → c ≠ TO → c ≠ i1 → c ≠ i2 → s.heap.get? c = some o → hE.get? c = some o := fun c o n1 n2 n3 n4 e => uE _ _ n2 (uD _ _ n4 (uC _ _ n2 (uB _ _ n3 (uA _ _ n1 e))))
  have zE : IsZip hE z TI TO .ellipsis := uE _ _ (Ne.symm D.TOz) (uD _ _ (Ne.symm D.i2z) (uC _ _ (Ne.symm D.TOz) (uB _ _ (Ne.symm D.i1z) zA')))
  have f1 : j.It hE i1 l1 (n1 + 1) := j.e1 (j.e1 (j.e1 tB uC (Ne.symm D.TOi1)) uD D.i12) uE (Ne.symm D.TOi1)
  have f2 : k.It hE i2 l2 (n2 + 1) := k.e1 tD uE (Ne.symm D.TOi2)
  have lz : z < hE.objs.size := Heap.lt_size zE
  -- the new pair is handed out
  show wpAny _ _ (Builtin.SmallTypes.ownedTupleHandOut (.ref z) (.ref hE.objs.size) >>= _) _ _ _
  unfold Builtin.SmallTypes.ownedTupleHandOut
  have zF : IsZip (hE.push { cls := .type "tuple", data := .seq #[x, y] }) z TI TO .ellipsis := Heap.get?_push_of_some _ zE
  refine wpAny_bind (wpAny_bind (wpAny_setField_rec zF (by simp) fun hG zG kG => ?_))
  have zG' : IsZip hG z TI TO (rawInt hE.objs.size) := zG
  refine wpAny_setField_rec zG' (by simp) fun hI zI kI => wpAny_pure ⟨_, rfl, ?_⟩
  have zI' : IsZip hI z TI TO (rawInt hE.objs.size) := zI
  have up : ∀ c o, c ≠ z → hE.get? c = some o → hI.get? c = some o := fun c o n e => kI.extBut _ _ n (kG.extBut _ _ n (Heap.get?_push_of_some _ e))
  have own : IsPair hI hE.objs.size x y := kI.extBut _ _ (Nat.ne_of_gt lz) (kG.extBut _ _ (Nat.ne_of_gt lz) (Heap.get?_push_size _ rfl))
  have sI : hI.objs.size = hE.objs.size + 1 := by rw [kI.1, kG.1, Heap.size_push]
  show Q (.ref hE.objs.size) _
  rw [es] at zI' own sI ⊢
  exact hQ hI zI' (up _ _ D.TOz pE') (j.same f1 fun o e => up _ o D.i1z e) (k.same f2 fun o e => up _ o D.i2z e) own sI fun c o n1 n2 n3 n4 e => up c o n1 (far c o n1 n2 n3 n4 e)
theorem zipW_stop {Q : Fin → Shared → Prop} (hh : A.handled = none) (D : ZipApart z TI TO i1 i2 l1 l2) (Z : ZAt j k z TI TO i1 i2 l1 l2 n1 n2 xs ys a b s.heap) (hend : xs[n1]? = none ∨ ys[n2]? = none)
    (hE : ∀ h' e, (∀ c o, c ≠ z → c ≠ TO → c ≠ i1 → c ≠ i2 → s.heap.get? c = some o → h'.get? c = some o) → (∃ o, h'.get? e = some o ∧ o.cls = .type "StopIteration") → E (.ref e) { s with heap := h' }) :
    wpAny (model prog w) A (Builtin.«zip.__next__» ⟨[.ref z], []⟩) Q E s := by
  obtain ⟨Zz, Zi, Zo, Z1, Z2, Y1, Y2⟩ := Z
  show wpAny _ _ (field (.ref z) 2 >>= _) _ _ s
  refine wpAny_bind (wpAny_field (x := .bool false) Zz rfl rfl ?_)
  show wpAny _ _ (field (.ref z) 3 >>= _) _ _ s
  refine wpAny_bind (wpAny_field (x := .ref TI) Zz rfl rfl (wpAny_bind (wpAny_seqItems Zi rfl ?_)))
  show wpAny _ _ (Builtin.SmallTypes.ownedTupleIsFree (.ref z) >>= _) _ _ s
  unfold Builtin.SmallTypes.ownedTupleIsFree
  refine wpAny_bind (wpAny_bind (wpAny_field (x := .none) Zz rfl rfl (wpAny_pure ?_)))
  rw [if_pos (by rfl)]
  refine wpAny_bind (wpAny_rule (wpAny_bind (wpAny_field (x := .ref TO) Zz rfl rfl (wpAny_bind (wpAny_setField_rec Zz (by simp) fun hA zA kA => wpAny_bind ?_)))))
  have zA' : IsZip hA z TI TO .ellipsis := zA
  clear zA
  simp only [List.forIn_nil, List.forIn_cons, List.zipIdx_nil, List.zipIdx_cons]
  have uA := kA.extBut
  refine wpAny_bind (wpAny_bind (wpAny_onRaise ?_))
  show wpAny _ _ (Builtin.SmallTypes.nextOf (.ref i1) >>= _) _ _ { s with heap := hA }
  -- the error goes on; the place is given back
  have back : ∀ {hN : Heap} {e : Addr}, IsZip hN z TI TO .ellipsis → (∃ o, hN.get? e = some o ∧ o.cls = .type "StopIteration") → (∀ c o, c ≠ z → c ≠ TO → c ≠ i1 → c ≠ i2 → s.heap.get? c = some o → hN.get? c = some o) →
      ∀ h', Heap.SameBut z hN h' → E (.ref e) { s with heap := h' } := fun {hN e} zN ⟨o, eo, co⟩ far h' kN => by
    have ne : e ≠ z := fun q => by rw [q, zN] at eo; cases eo; simp at co
    exact hE h' e (fun c q n1 n2 n3 n4 x => kN.extBut _ _ n1 (far c q n1 n2 n3 n4 x)) ⟨o, kN.extBut _ _ ne eo, co⟩
  cases hx : xs[n1]? with
  | none =>
    refine wpAny_bind (j.stop hh (j.e1 Z1 uA D.i1z) (j.e2 Y1 uA D.l1z) hx fun hB e uB st => ?_)
    have zB : IsZip hB z TI TO .ellipsis := uB _ _ (Ne.symm D.i1z) zA'
    exact wpAny_setField_rec zB (by simp) fun hC _ kC => back zB st (fun c o n1 _ n3 _ q => uB _ _ n3 (uA _ _ n1 q)) hC kC
  | some x =>
    have hy : ys[n2]? = none := hend.resolve_left fun q => by rw [hx] at q; cases q
    refine wpAny_bind (j.item (j.e1 Z1 uA D.i1z) (j.e2 Y1 uA D.l1z) hx fun hB tB kB => wpAny_pure ?_)
    have uB := kB.extBut
    have pB : IsPair hB TO a b := uB _ _ D.TOi1 (uA _ _ D.TOz Zo)
    refine wpAny_bind (wpAny_seqItems pB rfl (wpAny_bind (wpAny_updateSeq_pair pB fun hC pC kC => wpAny_bind (wpAny_letGo (wpAny_pure ?_)))))
    have uC := kC.extBut
    refine wpAny_bind (wpAny_bind (wpAny_onRaise ?_))
    show wpAny _ _ (Builtin.SmallTypes.nextOf (.ref i2) >>= _) _ _ { s with heap := hC }
    refine wpAny_bind (k.stop hh (k.e1 (k.e1 (k.e1 Z2 uA D.i2z) uB (Ne.symm D.i12)) uC (Ne.symm D.TOi2)) (k.e2 (k.e2 (k.e2 Y2 uA D.l2z) uB D.l2i1) uC D.l2TO) hy fun hD e uD st => ?_)
    have zD : IsZip hD z TI TO .ellipsis := uD _ _ (Ne.symm D.i2z) (uC _ _ (Ne.symm D.TOz) (uB _ _ (Ne.symm D.i1z) zA'))
    exact wpAny_setField_rec zD (by simp) fun hF _ kF => back zD st (fun c o n1 n2 n3 n4 q => uD _ _ n4 (uC _ _ n2 (uB _ _ n3 (uA _ _ n1 q)))) hF kF
end
end PD
namespace PD
open PySem PySem.Spec PyProof.Rows L2 RZ
section
variable {prog : Program} {w : World} {A : Around} {E : Value → Shared → Prop} {s : Shared} {j k : Wk} {z TI TO i1 i2 l1 l2 : Addr} {n1 n2 : Nat} {xs ys : Array Value} {a b : Value}
theorem nextW_item {x y : Value} {Q : Option Value → Shared → Prop} (D : ZipApart z TI TO i1 i2 l1 l2) (Z : ZAt j k z TI TO i1 i2 l1 l2 n1 n2 xs ys a b s.heap) (hx : xs[n1]? = some x) (hy : ys[n2]? = some y)
    (hQ : ∀ h', IsZip h' z TI TO (rawInt s.heap.objs.size) → IsPair h' TO x y → j.It h' i1 l1 (n1 + 1) → k.It h' i2 l2 (n2 + 1) → IsPair h' s.heap.objs.size x y → h'.objs.size = s.heap.objs.size + 1 →
      (∀ c o, c ≠ z → c ≠ TO → c ≠ i1 → c ≠ i2 → s.heap.get? c = some o → h'.get? c = some o) → Q (some (.ref s.heap.objs.size)) { s with heap := h' }) :
    wpAny (model prog w) A (pyNext (.ref z)) Q E s := by
  have ty : s.TypeIs (.ref z) "zip" := ⟨_, Z.hz, rfl⟩
  have run := fun {A : Around} => zipW_item (prog := prog) (w := w) (A := A) (E := fun e s' => wants (fun (r : Value) s => Q (some r) s) E (.error e) s') (Q := fun v s' => Q (some v) s') D Z hx hy hQ
  unfold pyNext
  refine wpAny_bind (wpAny_attempt (wpAny_callSpecial?_slot (name := Str.ofString "__next__") ty F.slot_zip_next (wpAny_call_entry F.slot_zip_next ty F.entry_zip_next ?_ (F.args_zip_next_1 _))))
  exact zipW_item D Z hx hy fun h' a1 a2 a3 a4 a5 a6 a7 => wpAny_pure (hQ h' a1 a2 a3 a4 a5 a6 a7)
theorem nextW_stop {Q : Option Value → Shared → Prop} (hh : A.handled = none) (D : ZipApart z TI TO i1 i2 l1 l2) (Z : ZAt j k z TI TO i1 i2 l1 l2 n1 n2 xs ys a b s.heap) (hend : xs[n1]? = none ∨ ys[n2]? = none)
    (hQ : ∀ h', (∀ c o, c ≠ z → c ≠ TO → c ≠ i1 → c ≠ i2 → s.heap.get? c = some o → h'.get? c = some o) → Q none { s with heap := h' }) : wpAny (model prog w) A (pyNext (.ref z)) Q E s := by
  have ty : s.TypeIs (.ref z) "zip" := ⟨_, Z.hz, rfl⟩
  unfold pyNext
  refine wpAny_bind (wpAny_attempt (wpAny_callSpecial?_slot (name := Str.ofString "__next__") ty F.slot_zip_next (wpAny_call_entry F.slot_zip_next ty F.entry_zip_next ?_ (F.args_zip_next_1 _))))
  exact zipW_stop hh D Z hend fun h' e far ⟨o, ho, hc⟩ => wpAny_bind (wpAny_isInstance (T := "StopIteration") (b := true) ⟨o, ho, hc⟩ isSubtype_stop (wpAny_pure (hQ _ far)))
end
/-- the heap behind zip(list, tuple) -/
def zw1 (h : Heap) (l : Addr) : Heap := h.push { cls := .type "list_iterator", data := .fields #[.ref l, .int 0 0] }
def zw2 (h : Heap) (l t : Addr) : Heap := (zw1 h l).push { cls := .type "tuple_iterator", data := .fields #[.ref t, .int 0 0] }
def zw3 (h : Heap) (l t : Addr) : Heap := (zw2 h l t).push { cls := .type "tuple", data := .seq #[.ref h.objs.size, .ref (zw1 h l).objs.size] }
def zw4 (h : Heap) (l t : Addr) : Heap := (zw3 h l t).push { cls := .type "tuple", data := .seq #[.none, .none] }
def zw5 (h : Heap) (l t : Addr) : Heap := (zw4 h l t).push { cls := .type "zip", data := .fields #[.none, .bool false, .bool false, .ref (zw2 h l t).objs.size, .ref (zw3 h l t).objs.size] }
theorem meets_zipW (l t : Addr) (xs ys : Array Value) : Meets (Builtin.«zip.__new__» ⟨[.type "zip", .ref l, .ref t], []⟩) (fun _ R s => s.heap.IsList l xs ∧ s.heap.IsTuple t ys ∧ R (.ok (.ret (.ref (zw4 s.heap l t).objs.size))) { s with heap := zw5 s.heap l t }) :=
  .of_wp fun prog w A R s h => by
    obtain ⟨hp, g, d, tk, os⟩ := s
    obtain ⟨isL, isT, h⟩ := h
    have sub := sub_zip
    have isL1 : Heap.IsList (Shared.heap ⟨hp, g, d, tk, os⟩) l xs := isL
    have isT1 : Heap.IsTuple (Shared.heap ⟨hp.push { cls := .type "list_iterator", data := .fields #[.ref l, .int 0 0] }, g, d, tk, os⟩) t ys := Heap.IsTuple.push isT _
    wp_walk using wpAny_pyIter_list isL1, wpAny_pyIter_tuple isT1
    exact ⟨_, rfl, h⟩
theorem zw_sizes (h : Heap) (l t : Addr) : (zw1 h l).objs.size = h.objs.size + 1 ∧ (zw2 h l t).objs.size = h.objs.size + 2 ∧ (zw3 h l t).objs.size = h.objs.size + 3 ∧ (zw4 h l t).objs.size = h.objs.size + 4 ∧ (zw5 h l t).objs.size = h.objs.size + 5 := by
  have q1 : (zw1 h l).objs.size = h.objs.size + 1 := Heap.size_push ..
  have q2 : (zw2 h l t).objs.size = h.objs.size + 2 := by unfold zw2; rw [Heap.size_push, q1]
  have q3 : (zw3 h l t).objs.size = h.objs.size + 3 := by unfold zw3; rw [Heap.size_push, q2]
  have q4 : (zw4 h l t).objs.size = h.objs.size + 4 := by unfold zw4; rw [Heap.size_push, q3]
  exact ⟨q1, q2, q3, q4, by unfold zw5; rw [Heap.size_push, q4]⟩
theorem call_zipW {prog : Program} {w : World} {A : Around} {E : Value → Shared → Prop} {s : Shared} {l t : Addr} {xs ys : Array Value} {Q : Value → Shared → Prop} (isL : s.heap.IsList l xs) (isT : s.heap.IsTuple t ys)
    (h : ∀ h', (∀ c o, s.heap.get? c = some o → h'.get? c = some o) → ZAt wkL wkT (s.heap.objs.size + 4) (s.heap.objs.size + 2) (s.heap.objs.size + 3) s.heap.objs.size (s.heap.objs.size + 1) l t 0 0 xs ys .none .none h' → Q (.ref (s.heap.objs.size + 4)) { s with heap := h' }) :
    wpAny (model prog w) A (call (.type "zip") [.ref l, .ref t]) Q E s := by
  refine callType_new F.called_zip (by decide) (F.typeCall_zip_2 _ _) (F.newCall_zip_2 _ _) (fun obj => F.args_object_init_3 obj _ _) F.entry_zip_new (meets_zipW l t xs ys) ⟨isL, isT, ?_⟩
  obtain ⟨q1, q2, q3, q4, q5⟩ := zw_sizes s.heap l t
  have up5 : ∀ {c : Addr} {o : Obj}, (zw4 s.heap l t).get? c = some o → (zw5 s.heap l t).get? c = some o := fun e => Heap.get?_push_of_some _ e
  have up4 : ∀ {c : Addr} {o : Obj}, (zw3 s.heap l t).get? c = some o → (zw5 s.heap l t).get? c = some o := fun e => up5 (Heap.get?_push_of_some _ e)
  have up3 : ∀ {c : Addr} {o : Obj}, (zw2 s.heap l t).get? c = some o → (zw5 s.heap l t).get? c = some o := fun e => up4 (Heap.get?_push_of_some _ e)
  have up2 : ∀ {c : Addr} {o : Obj}, (zw1 s.heap l).get? c = some o → (zw5 s.heap l t).get? c = some o := fun e => up3 (Heap.get?_push_of_some _ e)
  have up1 : ∀ {c : Addr} {o : Obj}, s.heap.get? c = some o → (zw5 s.heap l t).get? c = some o := fun e => up2 (Heap.get?_push_of_some _ e)
  have o5 : (zw5 s.heap l t).get? (zw4 s.heap l t).objs.size = some _ := Heap.get?_push_size _ rfl
  have o4 : (zw5 s.heap l t).get? (zw3 s.heap l t).objs.size = some _ := up5 (Heap.get?_push_size _ rfl)
  have o3 : (zw5 s.heap l t).get? (zw2 s.heap l t).objs.size = some _ := up4 (Heap.get?_push_size _ rfl)
  have o2 : (zw5 s.heap l t).get? (zw1 s.heap l).objs.size = some _ := up3 (Heap.get?_push_size _ rfl)
  have o1 : (zw5 s.heap l t).get? s.heap.objs.size = some _ := up2 (Heap.get?_push_size _ rfl)
  rw [q4, q2, q3] at o5
  rw [q3] at o4
  rw [q2, q1] at o3
  rw [q1] at o2
  show _ ∧ _
  rw [q4]
  obtain ⟨ol, el, cl⟩ := id isL
  obtain ⟨ot, et, ct⟩ := id isT
  exact ⟨⟨_, o5, rfl⟩, h _ (fun c o e => up1 e) ⟨o5, o3, o4, ⟨_, o1, rfl, rfl⟩, ⟨_, o2, rfl, rfl⟩, ⟨ol, up1 el, cl⟩, ⟨ot, up1 et, ct⟩⟩⟩
/-- the list at a and the tuple at b -/
def ItzW (K : PySem.W.Frag) (a b : Addr) : It :=
  ⟨fun i H => ∃ (xs ys : List V) (x y : V), SqL K H a xs ∧ SqT K H b ys ∧ xs[i]? = some x ∧ ys[i]? = some y,
    fun i H v H' => ∃ T x y, v = .ref T ∧ H T = none ∧ H' = upd H T (.tup [x, y]) ∧ (∀ xs, SqL K H a xs → xs[i]? = some x) ∧ ∀ ys, SqT K H b ys → ys[i]? = some y,
    fun i H => ∃ xs ys : List V, SqL K H a xs ∧ SqT K H b ys ∧ (xs.length ≤ i ∨ ys.length ≤ i)⟩
def zfp (z TI TO i1 i2 : Addr) : List Addr := [z, TI, TO, i1, i2]
theorem mem_zfp {c z TI TO i1 i2 : Addr} (h : c ∈ zfp z TI TO i1 i2) : c = z ∨ c = TI ∨ c = TO ∨ c = i1 ∨ c = i2 := by unfold zfp at h; simpa using h
theorem turn_zipW {P : Program} {w : World} {K : PySem.W.Frag} {elts : List Expr} {kk : Nat} {tpos : Pos} {a b z TI TO i1 i2 : Addr} (D : ZipApart z TI TO i1 i2 a b) :
    Turn P w K (.Tuple elts kk tpos) (ItzW K a b) (zfp z TI TO i1 i2) z (fun i h => IsZip h z TI TO .none ∧ IsPair h TI (.ref i1) (.ref i2) ∧ (∃ x y, IsPair h TO x y) ∧ h.IsListIter i1 a i ∧ h.IsTupleIter i2 b i) where
  mem := by unfold zfp; simp
  obj := fun i h ⟨pz, pi, ⟨x, y, po⟩, p1, p2⟩ c hc => by
    obtain ⟨o1, f1, g1, d1⟩ := wkL.flds p1
    obtain ⟨o2, f2, g2, d2⟩ := wkT.flds p2
    rcases mem_zfp hc with q | q | q | q | q <;> subst q
    · exact ⟨_, pz, fun v q => nomatch q⟩
    · exact ⟨_, pi, fun v q => nomatch q⟩
    · exact ⟨_, po, fun v q => nomatch q⟩
    · exact ⟨o1, g1, fun v q => by rw [d1] at q; cases q⟩
    · exact ⟨o2, g2, fun v q => by rw [d2] at q; cases q⟩
  keep := fun i h h' ⟨pz, pi, ⟨x, y, po⟩, p1, p2⟩ stay => by
    have on : ∀ c, c = z ∨ c = TI ∨ c = TO ∨ c = i1 ∨ c = i2 → ∀ o, h.get? c = some o → h'.get? c = some o := fun c hc => stay c (by unfold zfp; simpa using hc)
    exact ⟨on z (by simp) _ pz, on TI (by simp) _ pi, ⟨x, y, on TO (by simp) _ po⟩, wkL.same p1 (on i1 (by simp)), wkT.same p2 (on i2 (by simp))⟩
  item := by
    rintro X rfl rfl rfl hc i pz s τ H E I hf ⟨Zz, Zi, ⟨x0, y0, Zo⟩, Z1, Z2⟩ ⟨xs, ys, x, y, qx, qy, hx, hy⟩
    obtain ⟨us, ru, pu, _⟩ := I.list qx
    obtain ⟨vs, rv, pv, _⟩ := I.tuple qy
    obtain ⟨u, hu, wu⟩ := ru.get hx
    obtain ⟨v, hv, wv⟩ := rv.get hy
    have lz : z < s.heap.objs.size := Heap.lt_size Zz
    refine nextW_item (j := wkL) (k := wkT) (x := u) (y := v) D ⟨Zz, Zi, Zo, Z1, Z2, pu.isList, pv⟩ (by simpa using hu) (by simpa using hv) fun h' nz no n1 n2 nT ns far => ?_
    refine ⟨_, rfl, wpAny_letOwnedTupleGo_zip (s := { s with heap := h' }) nz fun h2 nz2 sb => ?_⟩
    have pT : h2.get? s.heap.objs.size = some { cls := .type "tuple", data := .seq #[u, v] } := (sb.2 _ (Nat.ne_of_gt lz)).trans nT
    have okT : ObjOk X.prog X.w (upd H s.heap.objs.size (.tup [x, y])) h2 s.heap.objs.size (.tup [x, y]) := ⟨by show 2 ≤ sizeLine; decide, [u, v], .cons wu (.cons wv .nil), _, pT, rfl, _, rfl⟩
    have out : ∀ c o, c ∉ zfp z TI TO i1 i2 → s.heap.get? c = some o → h2.get? c = some o := fun c o hn e => by
      have ne : ∀ d, d = z ∨ d = TI ∨ d = TO ∨ d = i1 ∨ d = i2 → c ≠ d := fun d hd q => hn (by subst q; unfold zfp; simpa using hd)
      exact (sb.2 c (ne z (by simp))).trans (far c o (ne z (by simp)) (ne TO (by simp)) (ne i1 (by simp)) (ne i2 (by simp)) e)
    have I2 := I.turnedNew (t' := s.toks) (ch := zfp z TI TO i1 i2) (fun c o hb q => out c o hb q) hf (Nat.le_refl _) okT
    refine ⟨.ref s.heap.objs.size, _, I2, rfl, ⟨_, x, y, rfl, I.hok.fresh (Nat.le_refl _), rfl, fun l hl => ?_, fun l hl => ?_⟩, ⟨nz2, (sb.2 _ D.TIz).trans (far _ _ D.TIz D.TITO D.TIi1 D.TIi2 Zi), ⟨u, v, (sb.2 _ D.TOz).trans no⟩, ?_, ?_⟩, fun c hcm => ?_⟩
    · rw [I.list_inj hl qx]; exact hx
    · rw [I.tuple_inj hl qy]; exact hy
    · exact wkL.same n1 fun o q => (sb.2 _ D.i1z).trans q
    · exact wkT.same n2 fun o q => (sb.2 _ D.i2z).trans q
    · obtain ⟨o1, f1, g1, _⟩ := wkL.flds Z1
      obtain ⟨o2, f2, g2, _⟩ := wkT.flds Z2
      have hlt : c < s.heap.objs.size := by
        rcases mem_zfp hcm with q | q | q | q | q <;> subst q
        · exact lz
        · exact Heap.lt_size Zi
        · exact Heap.lt_size Zo
        · exact Heap.lt_size g1
        · exact Heap.lt_size g2
      rw [upd_ne (Nat.ne_of_lt hlt)]
      exact (hf c hcm).1
  done := by
    rintro X rfl rfl rfl hc i pz s τ H E I hf ⟨Zz, Zi, ⟨x0, y0, Zo⟩, Z1, Z2⟩ ⟨xs, ys, qx, qy, hend⟩
    obtain ⟨us, ru, pu, _⟩ := I.list qx
    obtain ⟨vs, rv, pv, _⟩ := I.tuple qy
    have c1 := ru.length
    have c2 := rv.length
    refine nextW_stop (j := wkL) (k := wkT) (xs := us.toArray) (ys := vs.toArray) (I.ok.hd hc) D ⟨Zz, Zi, Zo, Z1, Z2, pu.isList, pv⟩ (hend.imp (fun q => ?_) fun q => ?_) fun h' far => ⟨rfl, ?_⟩
    · rw [List.getElem?_toArray]; exact List.getElem?_eq_none (by omega)
    · rw [List.getElem?_toArray]; exact List.getElem?_eq_none (by omega)
    · refine I.turnedL (t' := s.toks) (ch := zfp z TI TO i1 i2) (fun c o hn e => ?_) hf
      have ne : ∀ d, d = z ∨ d = TI ∨ d = TO ∨ d = i1 ∨ d = i2 → c ≠ d := fun d hd q => hn (by subst q; unfold zfp; simpa using hd)
      exact far c o (ne z (by simp)) (ne TO (by simp)) (ne i1 (by simp)) (ne i2 (by simp)) e
  self := fun A i s Q E st h => wpAny_pyIter_zip st.1 h
def iZipW (K : PySem.W.Frag) (ta : TA) : TI := fun τ H R => ta τ H fun vs H1 => ∃ a b xs ys, vs = [.ref a, .ref b] ∧ SqL K H1 a xs ∧ SqT K H1 b ys ∧ R (ItzW K a b) H1
theorem pi_zipW {X : Cx} {e e2 : Expr} {ta : TA} {p pos tpos : Pos} {elts : List Expr} {kk : Nat} (hg : Gl X "zip") (hm : X.mg "zip" = none) (ha : PA X [e, e2] ta)
    (hs : starEach [e, e2] X.env = (false, eval e X.env) :: starEach [e2] X.env := by rfl) (hpl : (backTo pos (starEach [e2] X.env)).any (·.1) = false := by rfl) :
    PI X (.Tuple elts kk tpos) (.Call (.Name "zip" p) [e, e2] [] pos) (iZipW X.K ta) := by
  refine ⟨fun pz s τ H R I h => ?_⟩
  refine Call_ (ld_blt I hg hm PyProof.Rows.boot_zip (PyProof.Rows.callWith_type1 (thn (ha.run pos pz s τ H _ I h) fun us sA ⟨vs, HA, IA, rA, a, b, xs, ys, ex, qx, qy, q⟩ => ?_) hs hpl))
  subst ex
  obtain ⟨u, v, rfl, ru, rv⟩ := vals2 rA
  cases ru
  cases rv
  obtain ⟨its, _, pl, _⟩ := IA.list qx
  obtain ⟨jts, _, pt, _⟩ := IA.tuple qy
  obtain ⟨ot, et, _⟩ := id pt
  refine call_zipW pl.isList pt fun h' stay Z => wpAny_pyIter_zip Z.hz ?_
  have IB : Inv X pz τ HA { sA with heap := h' } := IA.kept (t' := sA.toks) stay
  refine ⟨sA.heap.objs.size + 4, zfp (sA.heap.objs.size + 4) (sA.heap.objs.size + 2) (sA.heap.objs.size + 3) sA.heap.objs.size (sA.heap.objs.size + 1), _, _, HA, rfl, IB, turn_zipW (PySem.W.ktu_apart sA.heap.objs.size a b pl.lt (Heap.lt_size et)), ⟨Z.hz, Z.ti, ⟨_, _, Z.to⟩, Z.t1, Z.t2⟩, fun c hcm => ?_, q⟩
  have le : sA.heap.objs.size ≤ c := by
    rcases mem_zfp hcm with q | q | q | q | q <;> subst q
    · exact Nat.le_add_right _ 4
    · exact Nat.le_add_right _ 2
    · exact Nat.le_add_right _ 3
    · exact Nat.le_refl _
    · exact Nat.le_add_right _ 1
  exact IA.fpOk le (IA.hok.fresh le)
/-- zip(list, tuple) -/
def dIZipW (a : DA) : DI := fun s m R => a s m fun ds m1 => ∃ x xs ys, ds = [x, .tup ys] ∧ lsq m1 x = some xs ∧ R (zipD xs ys) (fun m' => lsq m' x = some xs) m1
theorem gi_zipW {X : Cx} {e e2 : Expr} {p pos tpos : Pos} {elts : List Expr} {kk : Nat} {da : DA} (hg : Gl X "zip") (hm : X.mg "zip" = none) (ha : GA X [e, e2] da)
    (hs : starEach [e, e2] X.env = (false, eval e X.env) :: starEach [e2] X.env := by rfl) (hpl : (backTo pos (starEach [e2] X.env)).any (·.1) = false := by rfl) :
    GIE X (.Tuple elts kk tpos) (.Call (.Name "zip" p) [e, e2] [] pos) (dIZipW da) := by
  obtain ⟨ta, q, l⟩ := ha.ex
  refine ⟨_, pi_zipW hg hm q hs hpl, fun s H sd m Rd R rs rm h k => ?_⟩
  refine l s H sd m _ _ rs rm h fun vs H1 ds m1 t1 rm1 r1 ⟨x, xs, ys, ed, e1, q1⟩ => ?_
  subst ed
  obtain ⟨v, u, rfl, rv, ru⟩ := repL2 r1
  obtain ⟨a, us, rfl, sl, r⟩ := lsq_rep rm1 rv e1
  cases ru with
  | @tup _ b ws sb rb =>
    refine ⟨a, b, us, ws, rfl, sl, sb, k _ H1 _ (fun m' => lsq m' x = some xs) m1 t1 rm1 ⟨fun i H' m' t' rm' st hi => ?_, fun i H' z H2 m' t' rm' st hi hy => ?_, fun i H' m' t' rm' st hi => ?_⟩ q1⟩
    · rw [zipD_len] at hi
      obtain ⟨a', us', ea, sl', r'⟩ := lsq_rep rm' (rv.mono t') st
      cases ea
      have c1 := r'.length
      have c2 := rb.length
      exact ⟨us', ws, us'[i]'(by omega), ws[i]'(by omega), sl', t'.sqT sb, List.getElem?_eq_getElem _, List.getElem?_eq_getElem _⟩
    · obtain ⟨T, x1, y1, rfl, hT, rfl, f, g⟩ := hy
      obtain ⟨a', us', ea, sl', r'⟩ := lsq_rep rm' (rv.mono t') st
      cases ea
      obtain ⟨d, e, q1⟩ := r'.getV (f _ sl')
      obtain ⟨d2, e2, q2⟩ := rb.getV (g _ (t'.sqT sb))
      exact zip_item rm' hT e e2 q1 (q2.mono t')
    · rw [zipD_len] at hi
      obtain ⟨a', us', ea, sl', r'⟩ := lsq_rep rm' (rv.mono t') st
      cases ea
      have c1 := r'.length
      have c2 := rb.length
      exact ⟨us', ws, sl', t'.sqT sb, by omega⟩
end PD

set_option Elab.async false
set_option linter.all false
set_option maxRecDepth 100000
set_option maxHeartbeats 4000000
namespace PD
open PySem PySem.Spec PyProof.Rows L2
/-- {k: v for x in xs}, tuples for keys, by what is made -/
theorem dcompT_pure {β : Type} {st : Mu → Prop} {g : DG} {tk te : DE} {p : Addr} {s : Sd} {Q : DK} {m : Mu} (e : β → D) (kv : β → List Key × D) {us : List β} (hst : ∀ a, st (mset m p (.dcT a))) (hz : us.length ≤ 100000)
    (hnd : (us.map fun u => (kv u).1).Nodup)
    (h : ∀ u ∈ us, ∀ a (R : D → D → Mu → Prop), (∀ y, toKeyT y = some (kv u).1 → R y (kv u).2 (mset m p (.dcT a))) → g (e u) s (mset m p (.dcT a)) fun s2 m2 => tk s2 m2 fun y m4 => te s2 m4 fun z m5 => R y z m5)
    (hq : Q (.ref p) (mset m p (.dcT (us.map kv)))) : dDCompT st g dYes tk te p s Q (us.map e) [] (mset m p (.dcT [])) := by
  have go : ∀ (post pre : List β), us = pre ++ post → dDCompT st g dYes tk te p s Q (post.map e) (pre.map kv) (mset m p (.dcT (pre.map kv))) := by
    intro post
    induction post with
    | nil =>
      intro pre e1
      rw [List.append_nil] at e1
      subst e1
      exact ⟨hst _, mset_same, hq⟩
    | cons u post ih =>
      intro pre e1
      refine ⟨hst _, ?_⟩
      have hn : (kv u).1 ∉ (pre.map kv).map (·.1) := by
        rw [e1, List.map_append, List.nodup_append] at hnd
        intro hc
        rw [List.map_map] at hc
        exact hnd.2.2 _ hc _ (List.mem_cons_self ..) rfl
      have hput : putKD (pre.map kv) (kv u).1 (kv u).2 = (pre ++ [u]).map kv := by
        unfold putKD
        rw [if_neg, List.map_append]
        · rfl
        · intro c
          rw [List.any_eq_true] at c
          obtain ⟨x, h1, h2⟩ := c
          exact hn (List.mem_map.mpr ⟨x, h1, of_decide_eq_true h2⟩)
      have hl : (pre.map kv).length < sizeLine := by
        rw [List.length_map]
        have : pre.length < us.length := by rw [e1]; simp
        exact Nat.lt_of_lt_of_le (by omega : pre.length < 100000) (by decide)
      have := h u (by rw [e1]; simp) (pre.map kv) (fun y z m5 => ∃ k, toKeyT y = some k ∧ m5 p = some (.dcT (pre.map kv)) ∧ (pre.map kv).length < sizeLine ∧ dDCompT st g dYes tk te p s Q (post.map e) (putKD (pre.map kv) k z) (mset m5 p (.dcT (putKD (pre.map kv) k z)))) fun y hy => by
        refine ⟨_, hy, mset_same, hl, ?_⟩
        rw [hput, mset_mset]
        exact ih (pre ++ [u]) (by rw [e1]; simp)
      simpa [dYes] using this
  exact go us [] rfl
/-! a method of a list, frozen or not -/
def dBML (d : DM) (a : DE) (b : DA) : DE := fun s m Q => a s m fun x m1 => (lsq m1 x).isSome = true ∧ b s m1 fun ds m2 => d x ds m2 Q
theorem ty_lsq {K : PySem.W.Frag} {H : Hp} {m : Mu} {d : D} {v : V} (rm : RM K H m) (r : Rep K H d v) (h : (lsq m d).isSome = true) : tyV K "list" v H := by
  obtain ⟨ds, e⟩ := Option.isSome_iff_exists.mp h
  obtain ⟨a, vs, rfl, s, _⟩ := lsq_rep rm r e
  exact .inl ⟨rfl, _, s⟩
theorem ge_bmL {X : Cx} {o e : Expr} {es : List Expr} {name : Str} {id : String} {apos cpos : Pos} {r : V → List V → Hp → VK → Prop} {d : DM} {da : DE} {db : DA} (slot : Slot "list" name id) (hty : typeOf (.builtin id) = pure (.type "method_descriptor")) (hm : MtR X id r) (lm : LM X.K r d) (ho : GE X o da) (ha : GA X (e :: es) db)
    (base9 : attributeBase o name X.env (eval o X.env) = eval o X.env := by rfl)
    (few9 : ((backTo cpos (starEach (e :: es) X.env)).all (fun x => !x.1) && (backToKw cpos (keywordEach [] X.env)).all (fun x => x.1.isSome)
      && decide ((e :: es).length + ([] : List Keyword).length + (if ([] : List Keyword).isEmpty then 0 else 1) < 30)) = true := by rfl)
    (line9 : (apos.endLine == cpos.line) = true := by rfl) (hs : starEach (e :: es) X.env = (false, eval e X.env) :: starEach es X.env := by rfl) (plain9 : (backTo cpos (starEach es X.env)).any (·.1) = false := by rfl) :
    GE X (.Call (.Attribute o name apos) (e :: es) [] cpos) (dBML d da db) := by
  obtain ⟨ta, p, l⟩ := ho.ex
  obtain ⟨tb, q, l2⟩ := ha.ex
  refine .of ⟨_, pe_bm PySem.F.plainAttrs_list slot hty hm p q base9 few9 line9 hs plain9, fun s H sd m Qd Q rs rm h k => ?_⟩
  refine l s H sd m _ _ rs rm h fun v H1 dv m1 t1 rm1 r1 h1 => ?_
  refine ⟨ty_lsq rm1 r1 h1.1, l2 s H1 sd m1 _ _ (rs.mono t1) rm1 h1.2 fun vs H2 ds m2 t2 rm2 r2 h2 => ?_⟩
  exact lm v vs H2 dv ds m2 Qd Q rm2 (r1.mono t2) r2 h2 fun v' H' dv' m' t' a b c => k v' H' dv' m' (t1.trans (t2.trans t')) a b c
end PD

set_option Elab.async false
set_option linter.all false
set_option maxRecDepth 100000
set_option maxHeartbeats 4000000
/-! Programs as Lean data, and what their looks ask. -/
namespace Bk
open PySem PySem.Spec PyProof.Rows L2 PD
inductive MW | sign | none | run
  deriving DecidableEq
def MW.s : MW → Str
  | .sign => "sign"
  | .none => "none"
  | .run => "run"
inductive Mark | sign (l : List Nat) | none | run (lo : Int) (hi : Option Int)
def oi : Option Int → D
  | some i => .int i
  | none => .non
def Mark.d : Mark → D
  | .sign l => .tup [.str "sign", .str (tx l)]
  | .none => .tup [.str "none"]
  | .run lo hi => .tup [.str "run", .int lo, oi hi]
def Mark.w : Mark → MW
  | .sign _ => .sign
  | .none => .none
  | .run _ _ => .run
inductive Piece | lot (n : Str) | plain (ms : List Mark)
def Piece.d : Piece → D
  | .lot n => .tup [.str "lot", .str n]
  | .plain ms => .tup [.str "plain", .tup (ms.map Mark.d)]
abbrev Ref := Nat × Nat
def refD (r : Ref) : D := .tup [.int (r.1 : Int), .int (r.2 : Int)]
structure Test where
  nm : Str
  a : Ref
  b : Ref
def Test.d (t : Test) : D := .tup [.str t.nm, refD t.a, refD t.b]
structure Way where
  mr : Str
  ps : List Piece
  ts : List Test
def Way.d (w : Way) : D := .tup [.str w.mr, .tup (w.ps.map Piece.d), .tup (w.ts.map Test.d)]
abbrev Knd := Option (List MW)
def Piece.k : Piece → Knd
  | .lot _ => none
  | .plain ms => some (ms.map Mark.w)
def kindD : Knd → D
  | none => .str "lot"
  | some ws => .tup (ws.map fun w => .str w.s)
def Way.k (w : Way) : List Knd := w.ps.map Piece.k
def kindsD (ks : List Knd) : D := .tup (ks.map kindD)
def wordsD (ls : List (List Nat)) : D := .tup (ls.map fun l => .str (tx l))
def pairD (p : Str × List (List Nat)) : D := .tup [.str p.1, wordsD p.2]
def waysD (ws : List Way) : D := .tup (ws.map Way.d)
def lotD (l : Str × List Way) : D := .tup [.str l.1, waysD l.2]
structure Prog where
  sg : List Nat
  rows : Nat
  pairs : List (Str × List (List Nat))
  nums : List D
  start : Str
  lots : List (Str × List Way)
  js : List D
  as : List D
def Prog.d (p : Prog) : D := .tup [.str "program", .str (tx p.sg), .int (p.rows : Int), .tup (p.pairs.map pairD), .tup p.nums, .str p.start, .tup (p.lots.map lotD), .tup p.js, .tup p.as]
def Prog.ways (p : Prog) : List Way := p.lots.flatMap (·.2)
/-! dicts by texts -/
def fnd {α : Type} (l : List (Str × α)) (n : Str) : Option α := (l.find? fun p => decide (p.1 = n)).map (·.2)
def sDic {α : Type} (f : α → D) (l : List (Str × α)) : List (Key × D) := l.map fun p => (.inr p.1, f p.2)
theorem fnd_cons {α : Type} {p : Str × α} {l : List (Str × α)} {n : Str} : fnd (p :: l) n = if p.1 = n then some p.2 else fnd l n := by
  unfold fnd
  by_cases h : p.1 = n
  · rw [if_pos h, List.find?_cons_of_pos (by simpa using h)]; rfl
  · rw [if_neg h, List.find?_cons_of_neg (by simpa using h)]
theorem fnd_none {α : Type} {n : Str} : ∀ {l : List (Str × α)}, fnd l n = none ↔ n ∉ l.map (·.1)
  | [] => by simp [fnd]
  | p :: l => by
    rw [fnd_cons]
    by_cases h : p.1 = n
    · simp [h]
    · rw [if_neg h, fnd_none, List.map_cons, List.mem_cons, not_or]
      exact ⟨fun z => ⟨fun e => h e.symm, z⟩, fun z => z.2⟩
theorem fnd_mem {α : Type} {n : Str} {a : α} : ∀ {l : List (Str × α)}, fnd l n = some a → (n, a) ∈ l
  | [], h => by simp [fnd] at h
  | p :: l, h => by
    rw [fnd_cons] at h
    split at h
    · rename_i e; cases h; subst e; exact List.mem_cons_self ..
    · exact List.mem_cons_of_mem _ (fnd_mem h)
theorem fnd_nd {α : Type} {n : Str} {a : α} : ∀ {l : List (Str × α)}, (l.map (·.1)).Nodup → (n, a) ∈ l → fnd l n = some a
  | [], _, h => (List.not_mem_nil h).elim
  | p :: l, nd, h => by
    rw [List.map_cons, List.nodup_cons] at nd
    rw [fnd_cons]
    rcases List.mem_cons.mp h with e | h
    · subst e; rw [if_pos rfl]
    · rw [if_neg, fnd_nd nd.2 h]
      exact fun e => nd.1 (e ▸ List.mem_map.mpr ⟨_, h, rfl⟩)
theorem fnd_some {α : Type} {n : Str} {l : List (Str × α)} (h : n ∈ l.map (·.1)) : ∃ a, fnd l n = some a := by
  cases e : fnd l n with
  | some a => exact ⟨a, rfl⟩
  | none => exact absurd h (fnd_none.mp e)
theorem fnd_app {α : Type} {n : Str} : ∀ {l r : List (Str × α)}, fnd (l ++ r) n = match fnd l n with | some a => some a | none => fnd r n
  | [], r => rfl
  | p :: l, r => by
    rw [List.cons_append, fnd_cons, fnd_cons]
    by_cases h : p.1 = n
    · rw [if_pos h, if_pos h]
    · rw [if_neg h, if_neg h, fnd_app]
theorem valD_s {α : Type} {f : α → D} {n : Str} : ∀ {l : List (Str × α)}, valD (sDic f l) (.inr n) = (fnd l n).map f
  | [] => rfl
  | p :: l => by
    have ih := valD_s (f := f) (n := n) (l := l)
    rw [fnd_cons]
    unfold sDic at ih ⊢
    rw [List.map_cons]
    by_cases h : p.1 = n
    · rw [if_pos h]; simp [valD, h]
    · rw [if_neg h, ← ih]
      have h' : ¬ (Sum.inr p.1 : Key) = .inr n := fun e => h (Sum.inr.inj e)
      simp [valD, h']
theorem put_new {α : Type} {f : α → D} {n : Str} {a : α} {l : List (Str × α)} (h : n ∉ l.map (·.1)) : putKD (sDic f l) (.inr n) (f a) = sDic f (l ++ [(n, a)]) := by
  unfold putKD
  rw [if_neg]
  · unfold sDic; rw [List.map_append]; rfl
  · intro e
    rw [List.any_eq_true] at e
    obtain ⟨kv, h1, h2⟩ := e
    unfold sDic at h1
    obtain ⟨p, h3, rfl⟩ := List.mem_map.mp h1
    exact h (List.mem_map.mpr ⟨p, h3, Sum.inr.inj (of_decide_eq_true h2)⟩)
theorem sDic_len {α : Type} {f : α → D} {l : List (Str × α)} : (sDic f l).length = l.length := by unfold sDic; rw [List.length_map]
/-! kinds by makers -/
def insK (acc : List (Str × List Knd)) (w : Way) : List (Str × List Knd) := if w.mr ∈ acc.map (·.1) then acc else acc ++ [(w.mr, w.k)]
def kbm (ws : List Way) : List (Str × List Knd) := ws.foldl insK []
theorem insK_keys {acc : List (Str × List Knd)} {w : Way} {n : Str} : n ∈ (insK acc w).map (·.1) ↔ n ∈ acc.map (·.1) ∨ n = w.mr := by
  unfold insK
  split
  · rename_i h
    exact ⟨.inl, fun z => z.elim id fun e => e ▸ h⟩
  · rw [List.map_append, List.mem_append]; simp
theorem foldK_keys : ∀ (ws : List Way) (acc : List (Str × List Knd)) (n : Str), n ∈ (ws.foldl insK acc).map (·.1) ↔ n ∈ acc.map (·.1) ∨ n ∈ ws.map Way.mr
  | [], acc, n => by simp
  | w :: ws, acc, n => by
    rw [List.foldl_cons, foldK_keys ws, insK_keys, List.map_cons, List.mem_cons, or_assoc]
theorem foldK_mem : ∀ (ws : List Way) (acc : List (Str × List Knd)) (x : Str × List Knd), x ∈ ws.foldl insK acc → x ∈ acc ∨ ∃ w ∈ ws, x = (w.mr, w.k)
  | [], acc, x, h => .inl h
  | w :: ws, acc, x, h => by
    rw [List.foldl_cons] at h
    rcases foldK_mem ws _ x h with h | ⟨v, hv, e⟩
    · unfold insK at h
      split at h
      · exact .inl h
      · rcases List.mem_append.mp h with h | h
        · exact .inl h
        · exact .inr ⟨w, List.mem_cons_self .., List.mem_singleton.mp h⟩
    · exact .inr ⟨v, List.mem_cons_of_mem _ hv, e⟩
theorem kbm_keys {ws : List Way} {n : Str} : n ∈ (kbm ws).map (·.1) ↔ n ∈ ws.map Way.mr := by
  unfold kbm; rw [foldK_keys]; simp
theorem kbm_fnd {ws : List Way} {w : Way} (hw : w ∈ ws) : ∃ v ∈ ws, v.mr = w.mr ∧ fnd (kbm ws) w.mr = some v.k := by
  obtain ⟨ks, e⟩ := fnd_some (kbm_keys.mpr (List.mem_map.mpr ⟨w, hw, rfl⟩))
  have := fnd_mem e
  rcases foldK_mem ws [] _ this with h | ⟨v, hv, e2⟩
  · exact (List.not_mem_nil h).elim
  · injection e2 with e3 e4
    exact ⟨v, hv, e3.symm, by rw [e, e4]⟩
theorem insK_len {acc : List (Str × List Knd)} {w : Way} : (insK acc w).length ≤ acc.length + 1 := by
  unfold insK; split
  · omega
  · rw [List.length_append, List.length_singleton]; omega
theorem foldK_len : ∀ (ws : List Way) (acc : List (Str × List Knd)), (ws.foldl insK acc).length ≤ acc.length + ws.length
  | [], acc => Nat.le_refl _
  | w :: ws, acc => by
    rw [List.foldl_cons, List.length_cons]
    have := foldK_len ws (insK acc w)
    have := insK_len (acc := acc) (w := w)
    omega
/-! refs -/
def refsOf (i : Nat) (S : MW → Bool) (ws : List MW) : List Ref := ((ws.zipIdx).filter fun p => S p.1).map fun p => (i, p.2)
def refsTo (S : MW → Bool) (ks : List Knd) : List Ref := (ks.zipIdx).flatMap fun p => match p.1 with | none => [] | some ws => refsOf p.2 S ws
abbrev isSg : MW → Bool := fun w => w == .sign
abbrev isRn : MW → Bool := fun w => w == .run
abbrev isMk : MW → Bool := fun _ => true
theorem enumD_map {α : Type} (f : α → D) : ∀ (l : List α) (n : Nat), enumD n (l.map f) = (l.zipIdx n).map fun p => .tup [.int (p.2 : Int), f p.1]
  | [], _ => rfl
  | x :: l, n => by rw [List.map_cons, enumD, List.zipIdx_cons, List.map_cons, enumD_map f l (n + 1)]
theorem refsOf_len {i : Nat} {S : MW → Bool} {ws : List MW} : (refsOf i S ws).length ≤ ws.length := by
  unfold refsOf
  rw [List.length_map]
  exact Nat.le_trans (List.length_filter_le _ _) (by rw [List.length_zipIdx]; exact Nat.le_refl _)
theorem flat_le {α β : Type} {f : α → List β} {n : Nat} : ∀ {l : List α}, (∀ x ∈ l, (f x).length ≤ n) → (l.flatMap f).length ≤ l.length * n
  | [], _ => by simp
  | x :: l, h => by
    rw [List.flatMap_cons, List.length_append, List.length_cons, Nat.succ_mul]
    have := flat_le (l := l) (f := f) (n := n) fun y hy => h y (List.mem_cons_of_mem _ hy)
    have := h x (List.mem_cons_self ..)
    omega
theorem mem_refsOf {i : Nat} {S : MW → Bool} {ws : List MW} {r : Ref} : r ∈ refsOf i S ws ↔ r.1 = i ∧ ∃ w, ws[r.2]? = some w ∧ S w = true := by
  unfold refsOf
  simp only [List.mem_map, List.mem_filter]
  constructor
  · rintro ⟨⟨w, j⟩, ⟨h1, h2⟩, rfl⟩
    rw [List.mem_zipIdx_iff_getElem?] at h1
    exact ⟨rfl, w, h1, h2⟩
  · rintro ⟨rfl, w, h1, h2⟩
    exact ⟨(w, r.2), ⟨List.mem_zipIdx_iff_getElem?.mpr h1, h2⟩, rfl⟩
theorem mem_refsTo {S : MW → Bool} {ks : List Knd} {r : Ref} : r ∈ refsTo S ks ↔ ∃ ws w, ks[r.1]? = some (some ws) ∧ ws[r.2]? = some w ∧ S w = true := by
  unfold refsTo
  simp only [List.mem_flatMap]
  constructor
  · rintro ⟨⟨k, i⟩, h1, h2⟩
    rw [List.mem_zipIdx_iff_getElem?] at h1
    cases k with
    | none => exact (List.not_mem_nil h2).elim
    | some ws =>
      obtain ⟨e, w, h3, h4⟩ := mem_refsOf.mp h2
      rw [e]
      exact ⟨ws, w, h1, h3, h4⟩
  · rintro ⟨ws, w, h1, h2, h3⟩
    exact ⟨(some ws, r.1), List.mem_zipIdx_iff_getElem?.mpr h1, mem_refsOf.mpr ⟨rfl, w, h2, h3⟩⟩
/-! ### what the looks ask -/
def lettersOf : Piece → List (List Nat)
  | .lot _ => []
  | .plain ms => ms.filterMap fun m => match m with | .sign l => some l | _ => none
def wayLetters (y : Way) : List (List Nat) := y.ps.flatMap lettersOf
def OverSg (sg l : List Nat) : Prop := (∀ c ∈ l, c ∈ sg) ∧ l.length ≤ 1000
def PieceOk (p : Prog) : Piece → Prop
  | .lot n => n ∈ p.lots.map (·.1)
  | .plain ms => ms.length ≤ 10 ∧ ∀ l, Mark.sign l ∈ ms → OverSg p.sg l
structure Sizes (p : Prog) : Prop where
  pr : p.pairs.length ≤ 100
  lt : p.lots.length ≤ 100
  wd : ∀ q ∈ p.pairs, q.2.length ≤ 100
  ws : ∀ l ∈ p.lots, l.2.length ≤ 100
  wy : ∀ w ∈ p.ways, w.ps.length ≤ 100 ∧ w.ts.length ≤ 100
structure Good (p : Prog) : Prop extends Sizes p where
  ll : (p.ways.flatMap wayLetters).length ≤ 100000
  ndP : (p.pairs.map (·.1)).Nodup
  ndL : (p.lots.map (·.1)).Nodup
  wp : ∀ q ∈ p.pairs, ∀ l ∈ q.2, OverSg p.sg l
  pc : ∀ w ∈ p.ways, ∀ q ∈ w.ps, PieceOk p q
  st : p.start ∈ p.lots.map (·.1)
  mkk : ∀ w ∈ p.ways, ∀ v ∈ p.ways, w.mr = v.mr → w.k = v.k
  ts : ∀ w ∈ p.ways, ∀ t ∈ w.ts, t.nm ∈ p.pairs.map (·.1) ∧ t.a ∈ refsTo isSg w.k ∧ t.b ∈ refsTo isSg w.k
structure Good0 (p : Prog) : Prop extends Good p where
  nn : p.nums = []
  nj : p.js = []
  na : p.as = []
theorem Sizes.ways {p : Prog} (h : Sizes p) : p.ways.length ≤ 10000 := by
  have := flat_le (f := fun l : Str × List Way => l.2) (n := 100) h.ws
  have h1 := h.lt
  unfold Prog.ways
  omega
/-! the book -/
def bkFs : List Str := ["program", "signs", "rows", "start", "_ways", "_kinds", "_pairs", "_numbers", "_sorts", "_formulas", "_asks"]
def bkVs (p : Prog) (nv sv fv av : D) : List D := [p.d, .str (tx p.sg), .int (p.rows : Int), .str p.start, dicOf (sDic waysD p.lots), dicOf (sDic kindsD (kbm p.ways)), dicOf (sDic wordsD p.pairs), nv, sv, fv, av]
def bookD (C : Addr) (p : Prog) (nv sv fv av : D) : D := .obj C bkFs (bkVs p nv sv fv av)
def book0 (C : Addr) (p : Prog) : D := bookD C p (dicOf []) (dicOf []) (dicTOf []) (dicOf [])
section
variable {p : Prog} {nv sv fv av : D}
theorem bk_program : lookF "program" bkFs (bkVs p nv sv fv av) = some p.d := by rfl
theorem bk_signs : lookF "signs" bkFs (bkVs p nv sv fv av) = some (.str (tx p.sg)) := by rfl
theorem bk_rows : lookF "rows" bkFs (bkVs p nv sv fv av) = some (.int (p.rows : Int)) := by rfl
theorem bk_start : lookF "start" bkFs (bkVs p nv sv fv av) = some (.str p.start) := by rfl
theorem bk_ways : lookF "_ways" bkFs (bkVs p nv sv fv av) = some (dicOf (sDic waysD p.lots)) := by rfl
theorem bk_kinds : lookF "_kinds" bkFs (bkVs p nv sv fv av) = some (dicOf (sDic kindsD (kbm p.ways))) := by rfl
theorem bk_pairs : lookF "_pairs" bkFs (bkVs p nv sv fv av) = some (dicOf (sDic wordsD p.pairs)) := by rfl
theorem bk_numbers : lookF "_numbers" bkFs (bkVs p nv sv fv av) = some nv := by rfl
theorem bk_sorts : lookF "_sorts" bkFs (bkVs p nv sv fv av) = some sv := by rfl
theorem bk_formulas : lookF "_formulas" bkFs (bkVs p nv sv fv av) = some fv := by rfl
theorem bk_asks : lookF "_asks" bkFs (bkVs p nv sv fv av) = some av := by rfl
theorem bk_m1 : lookF "ways" bkFs (bkVs p nv sv fv av) = none := by rfl
theorem bk_m2 : lookF "in_pairs" bkFs (bkVs p nv sv fv av) = none := by rfl
theorem bk_m3 : lookF "number_for" bkFs (bkVs p nv sv fv av) = none := by rfl
theorem bk_m4 : lookF "kinds" bkFs (bkVs p nv sv fv av) = none := by rfl
theorem bk_m5 : lookF "parts" bkFs (bkVs p nv sv fv av) = none := by rfl
theorem bk_m6 : lookF "lots" bkFs (bkVs p nv sv fv av) = none := by rfl
theorem bk_m7 : lookF "makers" bkFs (bkVs p nv sv fv av) = none := by rfl
theorem bk_m8 : lookF "judges" bkFs (bkVs p nv sv fv av) = none := by rfl
theorem bk_m9 : lookF "sort_of" bkFs (bkVs p nv sv fv av) = none := by rfl
theorem bk_ma : lookF "formula" bkFs (bkVs p nv sv fv av) = none := by rfl
theorem bk_mb : lookF "asks" bkFs (bkVs p nv sv fv av) = none := by rfl
theorem bk_mc : lookF "ask" bkFs (bkVs p nv sv fv av) = none := by rfl
end
theorem dMethV_bk {C : Addr} {mn : Str} {n : Nat} {sd : SpD} {p : Prog} {nv sv fv av : D} {a : (List D → Mu → Prop) → Prop} {Q : DK} : dMethV C mn n sd (bookD C p nv sv fv av) a Q = (lookF mn bkFs (bkVs p nv sv fv av) = none ∧ a fun es m2 => es.length + 1 = n ∧ sd (bookD C p nv sv fv av :: es) m2 Q) := dMethV_o
theorem dFldV_bk {C : Addr} {f : Str} {p : Prog} {nv sv fv av : D} {m : Mu} {Q : DK} : dFldV C f (bookD C p nv sv fv av) m Q = ∃ v, lookF f bkFs (bkVs p nv sv fv av) = some v ∧ Q v m := dFldV_o
theorem atI_5 {α : Type} {a b c d e f : α} {xs : List α} : atI (a :: b :: c :: d :: e :: f :: xs) 5 = some f := atI_nat (j := 5) rfl
theorem atI_6 {α : Type} {a b c d e f g : α} {xs : List α} : atI (a :: b :: c :: d :: e :: f :: g :: xs) 6 = some g := atI_nat (j := 6) rfl
theorem atI_7 {α : Type} {a b c d e f g h : α} {xs : List α} : atI (a :: b :: c :: d :: e :: f :: g :: h :: xs) 7 = some h := atI_nat (j := 7) rfl
theorem atI_8 {α : Type} {a b c d e f g h i : α} {xs : List α} : atI (a :: b :: c :: d :: e :: f :: g :: h :: i :: xs) 8 = some i := atI_nat (j := 8) rfl
section
variable {p : Prog} {m : Mu} {Q : DK}
theorem pd_sg : dIx p.d (.int 1) m Q = Q (.str (tx p.sg)) m := by
  unfold Prog.d
  rw [dIx_t]
  exact propext ⟨fun ⟨d, e, h⟩ => by cases (rfl : atI _ _ = some _).symm.trans e; exact h, fun h => ⟨_, rfl, h⟩⟩
theorem pd_rows : dIx p.d (.int 2) m Q = Q (.int (p.rows : Int)) m := by
  unfold Prog.d
  rw [dIx_t]
  exact propext ⟨fun ⟨d, e, h⟩ => by cases (rfl : atI _ _ = some _).symm.trans e; exact h, fun h => ⟨_, rfl, h⟩⟩
theorem pd_pairs : dIx p.d (.int 3) m Q = Q (.tup (p.pairs.map Bk.pairD)) m := by
  unfold Prog.d
  rw [dIx_t]
  exact propext ⟨fun ⟨d, e, h⟩ => by cases (rfl : atI _ _ = some _).symm.trans e; exact h, fun h => ⟨_, rfl, h⟩⟩
theorem pd_nums : dIx p.d (.int 4) m Q = Q (.tup p.nums) m := by
  unfold Prog.d
  rw [dIx_t]
  exact propext ⟨fun ⟨d, e, h⟩ => by cases (rfl : atI _ _ = some _).symm.trans e; exact h, fun h => ⟨_, rfl, h⟩⟩
theorem pd_start : dIx p.d (.int 5) m Q = Q (.str p.start) m := by
  unfold Prog.d
  rw [dIx_t]
  exact propext ⟨fun ⟨d, e, h⟩ => by cases (rfl : atI _ _ = some _).symm.trans e; exact h, fun h => ⟨_, rfl, h⟩⟩
theorem pd_lots : dIx p.d (.int 6) m Q = Q (.tup (p.lots.map lotD)) m := by
  unfold Prog.d
  rw [dIx_t]
  exact propext ⟨fun ⟨d, e, h⟩ => by cases (rfl : atI _ _ = some _).symm.trans e; exact h, fun h => ⟨_, rfl, h⟩⟩
theorem pd_js : dIx p.d (.int 7) m Q = Q (.tup p.js) m := by
  unfold Prog.d
  rw [dIx_t]
  exact propext ⟨fun ⟨d, e, h⟩ => by cases (rfl : atI _ _ = some _).symm.trans e; exact h, fun h => ⟨_, rfl, h⟩⟩
theorem pd_as : dIx p.d (.int 8) m Q = Q (.tup p.as) m := by
  unfold Prog.d
  rw [dIx_t]
  exact propext ⟨fun ⟨d, e, h⟩ => by cases (rfl : atI _ _ = some _).symm.trans e; exact h, fun h => ⟨_, rfl, h⟩⟩
end
end Bk

set_option Elab.async false
set_option linter.all false
set_option maxRecDepth 100000
set_option maxHeartbeats 4000000
namespace K29
open PySem PySem.Spec PyProof.Rows L2 PD Bk
def topS (i : Nat) : Stmt := PySem.Challenge.pw_chooseonce_k29_signing_of_a_way.main.body.getD i (.Pass ⟨0, 0, 0, 0⟩)
def iniS (i j : Nat) : Stmt := match topS i with | .ClassDef _ _ _ body _ _ _ _ _ _ _ => body.getD j (.Pass ⟨0, 0, 0, 0⟩) | _ => .Pass ⟨0, 0, 0, 0⟩
abbrev s_letters_of : Stmt := topS 2
abbrev N_letters_of : List Str := ["book", "mark"]
theorem sc_letters_of : FnScope N_letters_of ["book", "mark"] (defScope s_letters_of) := ⟨rfl, rfl, rfl, by decide +kernel, rfl, by decide +kernel, by decide +kernel⟩
abbrev s_kinds_of : Stmt := topS 4
abbrev N_kinds_of : List Str := ["way", "piece"]
theorem sc_kinds_of : FnScope N_kinds_of ["way"] (defScope s_kinds_of) := ⟨rfl, rfl, rfl, by decide +kernel, rfl, by decide +kernel, by decide +kernel⟩
abbrev s_sign_places : Stmt := topS 6
abbrev N_sign_places : List Str := ["kinds"]
theorem sc_sign_places : FnScope N_sign_places ["kinds"] (defScope s_sign_places) := ⟨rfl, rfl, rfl, by decide +kernel, rfl, by decide +kernel, by decide +kernel⟩
abbrev s_kinds_by_maker : Stmt := topS 9
abbrev N_kinds_by_maker : List Str := ["ways", "kinds", "way"]
theorem sc_kinds_by_maker : FnScope N_kinds_by_maker ["ways"] (defScope s_kinds_by_maker) := ⟨rfl, rfl, rfl, by decide +kernel, rfl, by decide +kernel, by decide +kernel⟩
abbrev s__kind_of : Stmt := topS 10
abbrev N__kind_of : List Str := ["piece", "mark"]
theorem sc__kind_of : FnScope N__kind_of ["piece"] (defScope s__kind_of) := ⟨rfl, rfl, rfl, by decide +kernel, rfl, by decide +kernel, by decide +kernel⟩
abbrev s__refs_to : Stmt := topS 11
abbrev N__refs_to : List Str := ["kinds", "words", "refs", "piece", "kind", "row", "word"]
theorem sc__refs_to : FnScope N__refs_to ["kinds", "words"] (defScope s__refs_to) := ⟨rfl, rfl, rfl, by decide +kernel, rfl, by decide +kernel, by decide +kernel⟩
abbrev s_signing_of : Stmt := topS 13
abbrev N_signing_of : List Str := ["book", "way", "tested", "signs", "told", "refs", "ref", "sign"]
theorem sc_signing_of : FnScope N_signing_of ["book", "way"] (defScope s_signing_of) := ⟨rfl, rfl, rfl, by decide +kernel, rfl, by decide +kernel, by decide +kernel⟩
abbrev s_is_signed : Stmt := topS 14
abbrev N_is_signed : List Str := ["book", "way"]
theorem sc_is_signed : FnScope N_is_signed ["book", "way"] (defScope s_is_signed) := ⟨rfl, rfl, rfl, by decide +kernel, rfl, by decide +kernel, by decide +kernel⟩
abbrev s__tested_refs : Stmt := topS 15
abbrev N__tested_refs : List Str := ["way", "refs", "test", "ref"]
theorem sc__tested_refs : FnScope N__tested_refs ["way"] (defScope s__tested_refs) := ⟨rfl, rfl, rfl, by decide +kernel, rfl, by decide +kernel, by decide +kernel⟩
abbrev s__signs_for : Stmt := topS 16
abbrev N__signs_for : List Str := ["book", "way", "refs", "due", "begun", "letters", "longer", "sign", "signs"]
theorem sc__signs_for : FnScope N__signs_for ["book", "way", "refs"] (defScope s__signs_for) := ⟨rfl, rfl, rfl, by decide +kernel, rfl, by decide +kernel, by decide +kernel⟩
abbrev s__may_hold : Stmt := topS 17
abbrev N__may_hold : List Str := ["book", "way", "refs", "signs", "told", "name", "one", "other", "ref", "sign"]
theorem sc__may_hold : FnScope N__may_hold ["book", "way", "refs", "signs"] (defScope s__may_hold) := ⟨rfl, rfl, rfl, by decide +kernel, rfl, by decide +kernel, by decide +kernel⟩
abbrev s__letters_at : Stmt := topS 18
abbrev N__letters_at : List Str := ["book", "way", "ref", "piece", "row"]
theorem sc__letters_at : FnScope N__letters_at ["book", "way", "ref"] (defScope s__letters_at) := ⟨rfl, rfl, rfl, by decide +kernel, rfl, by decide +kernel, by decide +kernel⟩
abbrev s_judges_of : Stmt := topS 30
abbrev N_judges_of : List Str := ["ask", "judges", "one"]
theorem sc_judges_of : FnScope N_judges_of ["ask"] (defScope s_judges_of) := ⟨rfl, rfl, rfl, by decide +kernel, rfl, by decide +kernel, by decide +kernel⟩
abbrev s_has_first : Stmt := topS 32
abbrev N_has_first : List Str := ["ask", "one"]
theorem sc_has_first : FnScope N_has_first ["ask"] (defScope s_has_first) := ⟨rfl, rfl, rfl, by decide +kernel, rfl, by decide +kernel, by decide +kernel⟩
abbrev s_all_asks : Stmt := topS 33
abbrev N_all_asks : List Str := ["ask", "found", "due", "one"]
theorem sc_all_asks : FnScope N_all_asks ["ask"] (defScope s_all_asks) := ⟨rfl, rfl, rfl, by decide +kernel, rfl, by decide +kernel, by decide +kernel⟩
abbrev s_all_ways : Stmt := topS 44
abbrev N_all_ways : List Str := ["program", "ways", "lot"]
theorem sc_all_ways : FnScope N_all_ways ["program"] (defScope s_all_ways) := ⟨rfl, rfl, rfl, by decide +kernel, rfl, by decide +kernel, by decide +kernel⟩
abbrev s_look_formulas : Stmt := topS 47
abbrev N_look_formulas : List Str := ["program", "first_kinds", "widths", "judge", "sort", "formulas", "made", "maker", "entry", "formula"]
theorem sc_look_formulas : FnScope N_look_formulas ["program"] (defScope s_look_formulas) := ⟨rfl, rfl, rfl, by decide +kernel, rfl, by decide +kernel, by decide +kernel⟩
abbrev s_look_asks : Stmt := topS 48
abbrev N_look_asks : List Str := ["program", "sorts", "name", "ask", "judges", "judge", "twice", "entry", "one"]
theorem sc_look_asks : FnScope N_look_asks ["program"] (defScope s_look_asks) := ⟨rfl, rfl, rfl, by decide +kernel, rfl, by decide +kernel, by decide +kernel⟩
abbrev s__first_told : Stmt := topS 49
abbrev N__first_told : List Str := ["pairs", "told", "name", "value"]
theorem sc__first_told : FnScope N__first_told ["pairs"] (defScope s__first_told) := ⟨rfl, rfl, rfl, by decide +kernel, rfl, by decide +kernel, by decide +kernel⟩
abbrev s__look_makers_of : Stmt := topS 50
abbrev N__look_makers_of : List Str := ["formulas", "sort", "first_kinds", "widths", "seen", "maker", "formula", "mention"]
theorem sc__look_makers_of : FnScope N__look_makers_of ["formulas", "sort", "first_kinds", "widths"] (defScope s__look_makers_of) := ⟨rfl, rfl, rfl, by decide +kernel, rfl, by decide +kernel, by decide +kernel⟩
abbrev s__mentions_in : Stmt := topS 51
abbrev N__mentions_in : List Str := ["sort", "formula", "mentions", "form", "_", "nums", "parts", "k", "atom", "place", "name", "refs"]
theorem sc__mentions_in : FnScope N__mentions_in ["sort", "formula"] (defScope s__mentions_in) := ⟨rfl, rfl, rfl, by decide +kernel, rfl, by decide +kernel, by decide +kernel⟩
abbrev s__look_mention : Stmt := topS 52
abbrev N__look_mention : List Str := ["mention", "maker", "kinds", "widths"]
theorem sc__look_mention : FnScope N__look_mention ["mention", "maker", "kinds", "widths"] (defScope s__look_mention) := ⟨rfl, rfl, rfl, by decide +kernel, rfl, by decide +kernel, by decide +kernel⟩
abbrev s__fits : Stmt := topS 53
abbrev N__fits : List Str := ["mention", "kinds", "widths", "places", "known", "ref"]
theorem sc__fits : FnScope N__fits ["mention", "kinds", "widths"] (defScope s__fits) := ⟨rfl, rfl, rfl, by decide +kernel, rfl, by decide +kernel, by decide +kernel⟩
abbrev s__is_let : Stmt := topS 54
abbrev N__is_let : List Str := ["ask", "sorts", "judge"]
theorem sc__is_let : FnScope N__is_let ["ask", "sorts"] (defScope s__is_let) := ⟨rfl, rfl, rfl, by decide +kernel, rfl, by decide +kernel, by decide +kernel⟩
abbrev s_look_names : Stmt := topS 57
abbrev N_look_names : List Str := ["program", "place", "entry"]
theorem sc_look_names : FnScope N_look_names ["program"] (defScope s_look_names) := ⟨rfl, rfl, rfl, by decide +kernel, rfl, by decide +kernel, by decide +kernel⟩
abbrev s__look_list : Stmt := topS 58
abbrev N__look_list : List Str := ["names", "seen", "name"]
theorem sc__look_list : FnScope N__look_list ["names"] (defScope s__look_list) := ⟨rfl, rfl, rfl, by decide +kernel, rfl, by decide +kernel, by decide +kernel⟩
abbrev s_look_mentions : Stmt := topS 60
abbrev N_look_mentions : List Str := ["program", "lots", "pairs", "maker", "pieces", "tests", "piece", "test", "lot", "pair"]
theorem sc_look_mentions : FnScope N_look_mentions ["program"] (defScope s_look_mentions) := ⟨rfl, rfl, rfl, by decide +kernel, rfl, by decide +kernel, by decide +kernel⟩
abbrev s_look_makers : Stmt := topS 61
abbrev N_look_makers : List Str := ["program", "ways", "first_kinds", "way"]
theorem sc_look_makers : FnScope N_look_makers ["program"] (defScope s_look_makers) := ⟨rfl, rfl, rfl, by decide +kernel, rfl, by decide +kernel, by decide +kernel⟩
abbrev s_look_tests : Stmt := topS 62
abbrev N_look_tests : List Str := ["program", "way", "places", "_", "one", "other"]
theorem sc_look_tests : FnScope N_look_tests ["program"] (defScope s_look_tests) := ⟨rfl, rfl, rfl, by decide +kernel, rfl, by decide +kernel, by decide +kernel⟩
abbrev s__look_name : Stmt := topS 63
abbrev N__look_name : List Str := ["name", "names"]
theorem sc__look_name : FnScope N__look_name ["name", "names"] (defScope s__look_name) := ⟨rfl, rfl, rfl, by decide +kernel, rfl, by decide +kernel, by decide +kernel⟩
abbrev s_has_only : Stmt := topS 65
abbrev N_has_only : List Str := ["word", "characters", "character"]
theorem sc_has_only : FnScope N_has_only ["word", "characters"] (defScope s_has_only) := ⟨rfl, rfl, rfl, by decide +kernel, rfl, by decide +kernel, by decide +kernel⟩
abbrev s_look_signs : Stmt := topS 67
abbrev N_look_signs : List Str := ["program", "word"]
theorem sc_look_signs : FnScope N_look_signs ["program"] (defScope s_look_signs) := ⟨rfl, rfl, rfl, by decide +kernel, rfl, by decide +kernel, by decide +kernel⟩
abbrev s__words_of : Stmt := topS 68
abbrev N__words_of : List Str := ["program", "words", "pair", "numbers", "word", "integer"]
theorem sc__words_of : FnScope N__words_of ["program"] (defScope s__words_of) := ⟨rfl, rfl, rfl, by decide +kernel, rfl, by decide +kernel, by decide +kernel⟩
abbrev s__letters_of : Stmt := topS 69
abbrev N__letters_of : List Str := ["program", "letters", "way", "piece", "mark"]
theorem sc__letters_of : FnScope N__letters_of ["program"] (defScope s__letters_of) := ⟨rfl, rfl, rfl, by decide +kernel, rfl, by decide +kernel, by decide +kernel⟩
abbrev s_Book___init__ : Stmt := iniS 71 0
abbrev N_Book___init__ : List Str := ["self", "program", "entry", "name", "ways", "words", "ask"]
theorem sc_Book___init__ : FnScope N_Book___init__ ["self", "program"] (defScope s_Book___init__) := ⟨rfl, rfl, rfl, by decide +kernel, rfl, by decide +kernel, by decide +kernel⟩
abbrev s_Book_in_pairs : Stmt := iniS 71 7
abbrev N_Book_in_pairs : List Str := ["self", "name", "word"]
theorem sc_Book_in_pairs : FnScope N_Book_in_pairs ["self", "name", "word"] (defScope s_Book_in_pairs) := ⟨rfl, rfl, rfl, by decide +kernel, rfl, by decide +kernel, by decide +kernel⟩
abbrev s__look_all : Stmt := topS 72
abbrev N__look_all : List Str := ["program"]
theorem sc__look_all : FnScope N__look_all ["program"] (defScope s__look_all) := ⟨rfl, rfl, rfl, by decide +kernel, rfl, by decide +kernel, by decide +kernel⟩
abbrev s__told_by : Stmt := topS 73
abbrev N__told_by : List Str := ["numbers", "entries", "word", "integer"]
theorem sc__told_by : FnScope N__told_by ["numbers"] (defScope s__told_by) := ⟨rfl, rfl, rfl, by decide +kernel, rfl, by decide +kernel, by decide +kernel⟩
abbrev s__formulas_of : Stmt := topS 74
abbrev N__formulas_of : List Str := ["program", "found", "judge", "_", "formulas", "maker", "formula"]
theorem sc__formulas_of : FnScope N__formulas_of ["program"] (defScope s__formulas_of) := ⟨rfl, rfl, rfl, by decide +kernel, rfl, by decide +kernel, by decide +kernel⟩
abbrev s__law_tape : Stmt := topS 76
abbrev N__law_tape : List Str := ["_law_script", "_law_state", "_law_cells", "_law_cell"]
theorem sc__law_tape : FnScope N__law_tape ["_law_script"] (defScope s__law_tape) := ⟨rfl, rfl, rfl, by decide +kernel, rfl, by decide +kernel, by decide +kernel⟩
abbrev s__law_pick : Stmt := topS 77
abbrev N__law_pick : List Str := ["_law_tape_here", "_law_limit", "_law_turn", "_law_value"]
theorem sc__law_pick : FnScope N__law_pick ["_law_tape_here", "_law_limit"] (defScope s__law_pick) := ⟨rfl, rfl, rfl, by decide +kernel, rfl, by decide +kernel, by decide +kernel⟩
abbrev s__law_letters : Stmt := topS 78
abbrev N__law_letters : List Str := ["_law_tape_here", "_law_signs", "_law_text", "_law_sign"]
theorem sc__law_letters : FnScope N__law_letters ["_law_tape_here", "_law_signs"] (defScope s__law_letters) := ⟨rfl, rfl, rfl, by decide +kernel, rfl, by decide +kernel, by decide +kernel⟩
abbrev s__law_mark : Stmt := topS 79
abbrev N__law_mark : List Str := ["_law_tape_here", "_law_signs", "_law_what", "_law_least"]
theorem sc__law_mark : FnScope N__law_mark ["_law_tape_here", "_law_signs"] (defScope s__law_mark) := ⟨rfl, rfl, rfl, by decide +kernel, rfl, by decide +kernel, by decide +kernel⟩
abbrev s__law_piece : Stmt := topS 80
abbrev N__law_piece : List Str := ["_law_tape_here", "_law_signs", "_law_rows", "_law_names", "_law_marks", "_law_turn"]
theorem sc__law_piece : FnScope N__law_piece ["_law_tape_here", "_law_signs", "_law_rows", "_law_names"] (defScope s__law_piece) := ⟨rfl, rfl, rfl, by decide +kernel, rfl, by decide +kernel, by decide +kernel⟩
abbrev s__law_places : Stmt := topS 81
abbrev N__law_places : List Str := ["_law_pieces", "_law_found", "_law_at", "_law_line_here"]
theorem sc__law_places : FnScope N__law_places ["_law_pieces"] (defScope s__law_places) := ⟨rfl, rfl, rfl, by decide +kernel, rfl, by decide +kernel, by decide +kernel⟩
abbrev s__law_kinds : Stmt := topS 82
abbrev N__law_kinds : List Str := ["_law_pieces", "_law_kinds_here", "_law_part", "_law_mark_here"]
theorem sc__law_kinds : FnScope N__law_kinds ["_law_pieces"] (defScope s__law_kinds) := ⟨rfl, rfl, rfl, by decide +kernel, rfl, by decide +kernel, by decide +kernel⟩
abbrev s__law_maker : Stmt := topS 83
abbrev N__law_maker : List Str := ["_law_tape_here", "_law_pieces", "_law_makers", "_law_kinds_here", "_law_told", "_law_name"]
theorem sc__law_maker : FnScope N__law_maker ["_law_tape_here", "_law_pieces", "_law_makers"] (defScope s__law_maker) := ⟨rfl, rfl, rfl, by decide +kernel, rfl, by decide +kernel, by decide +kernel⟩
abbrev s__law_way : Stmt := topS 84
abbrev N__law_way : List Str := ["_law_tape_here", "_law_signs", "_law_rows", "_law_names", "_law_pairs_here", "_law_makers", "_law_size", "_law_pieces", "_law_turn", "_law_places_here", "_law_tests", "_law_name", "_law_one"]
theorem sc__law_way : FnScope N__law_way ["_law_tape_here", "_law_signs", "_law_rows", "_law_names", "_law_pairs_here", "_law_makers"] (defScope s__law_way) := ⟨rfl, rfl, rfl, by decide +kernel, rfl, by decide +kernel, by decide +kernel⟩
abbrev s__law_words : Stmt := topS 85
abbrev N__law_words : List Str := ["_law_tape_here", "_law_signs", "_law_words_here", "_law_turn", "_law_word"]
theorem sc__law_words : FnScope N__law_words ["_law_tape_here", "_law_signs"] (defScope s__law_words) := ⟨rfl, rfl, rfl, by decide +kernel, rfl, by decide +kernel, by decide +kernel⟩
abbrev s__law_pairs : Stmt := topS 86
abbrev N__law_pairs : List Str := ["_law_tape_here", "_law_signs", "_law_size", "_law_pairs_here", "_law_at"]
theorem sc__law_pairs : FnScope N__law_pairs ["_law_tape_here", "_law_signs", "_law_size"] (defScope s__law_pairs) := ⟨rfl, rfl, rfl, by decide +kernel, rfl, by decide +kernel, by decide +kernel⟩
abbrev s__law_can : Stmt := topS 87
abbrev N__law_can : List Str := ["_law_refs", "_law_allowed_here", "_law_tests", "_law_pairs_here", "_law_chosen", "_law_test", "_law_sign", "_law_word"]
theorem sc__law_can : FnScope N__law_can ["_law_refs", "_law_allowed_here", "_law_tests", "_law_pairs_here", "_law_chosen"] (defScope s__law_can) := ⟨rfl, rfl, rfl, by decide +kernel, rfl, by decide +kernel, by decide +kernel⟩
abbrev s__law_line : Stmt := topS 88
abbrev N__law_line : List Str := ["_law_pairs_here", "_law_name", "_law_line_here"]
theorem sc__law_line : FnScope N__law_line ["_law_pairs_here", "_law_name"] (defScope s__law_line) := ⟨rfl, rfl, rfl, by decide +kernel, rfl, by decide +kernel, by decide +kernel⟩
abbrev s__law_allowed : Stmt := topS 89
abbrev N__law_allowed : List Str := ["_law_form", "_law_ref", "_law_signs", "_law_letters_here"]
theorem sc__law_allowed : FnScope N__law_allowed ["_law_form", "_law_ref", "_law_signs"] (defScope s__law_allowed) := ⟨rfl, rfl, rfl, by decide +kernel, rfl, by decide +kernel, by decide +kernel⟩
abbrev s__law_due : Stmt := topS 90
abbrev N__law_due : List Str := ["_law_form", "_law_signs", "_law_pairs_here", "_law_refs", "_law_test", "_law_ref"]
theorem sc__law_due : FnScope N__law_due ["_law_form", "_law_signs", "_law_pairs_here"] (defScope s__law_due) := ⟨rfl, rfl, rfl, by decide +kernel, rfl, by decide +kernel, by decide +kernel⟩
abbrev s__law_suits : Stmt := topS 91
abbrev N__law_suits : List Str := ["_law_told", "_law_form", "_law_signs", "_law_pairs_here", "_law_places_here", "_law_chosen", "_law_at", "_law_test", "_law_pair", "_law_side", "_law_word"]
theorem sc__law_suits : FnScope N__law_suits ["_law_told", "_law_form", "_law_signs", "_law_pairs_here"] (defScope s__law_suits) := ⟨rfl, rfl, rfl, by decide +kernel, rfl, by decide +kernel, by decide +kernel⟩
abbrev s__law_right : Stmt := topS 92
abbrev N__law_right : List Str := ["_law_told", "_law_said", "_law_form", "_law_signs", "_law_pairs_here"]
theorem sc__law_right : FnScope N__law_right ["_law_told", "_law_said", "_law_form", "_law_signs", "_law_pairs_here"] (defScope s__law_right) := ⟨rfl, rfl, rfl, by decide +kernel, rfl, by decide +kernel, by decide +kernel⟩
abbrev s_law : Stmt := topS 93
abbrev N_law : List Str := ["_law_script", "_law_tape_here", "_law_signs", "_law_rows", "_law_names", "_law_pairs_here", "_law_makers", "_law_lots", "_law_name", "_law_others", "_law_spare", "_law_tome", "_law_twin", "_law_told", "_law_forms", "_law_turn", "_law_form", "_law_first"]
theorem sc_law : FnScope N_law ["_law_script"] (defScope s_law) := ⟨rfl, rfl, rfl, by decide +kernel, rfl, by decide +kernel, by decide +kernel⟩
abbrev si_TwiceNamed : Stmt := iniS 22 0
theorem sci_TwiceNamed : FnScope ["self", "name"] ["self", "name"] (defScope si_TwiceNamed) := ⟨rfl, rfl, rfl, by decide +kernel, rfl, by decide +kernel, by decide +kernel⟩
abbrev si_BadSign : Stmt := iniS 23 0
theorem sci_BadSign : FnScope ["self", "word"] ["self", "word"] (defScope si_BadSign) := ⟨rfl, rfl, rfl, by decide +kernel, rfl, by decide +kernel, by decide +kernel⟩
abbrev si_NoName : Stmt := iniS 24 0
theorem sci_NoName : FnScope ["self", "name"] ["self", "name"] (defScope si_NoName) := ⟨rfl, rfl, rfl, by decide +kernel, rfl, by decide +kernel, by decide +kernel⟩
abbrev si_BadMaker : Stmt := iniS 25 0
theorem sci_BadMaker : FnScope ["self", "maker"] ["self", "maker"] (defScope si_BadMaker) := ⟨rfl, rfl, rfl, by decide +kernel, rfl, by decide +kernel, by decide +kernel⟩
abbrev si_BadRef : Stmt := iniS 26 0
theorem sci_BadRef : FnScope ["self", "maker"] ["self", "maker"] (defScope si_BadRef) := ⟨rfl, rfl, rfl, by decide +kernel, rfl, by decide +kernel, by decide +kernel⟩
abbrev si_Missing : Stmt := iniS 27 0
theorem sci_Missing : FnScope ["self", "judge", "maker"] ["self", "judge", "maker"] (defScope si_Missing) := ⟨rfl, rfl, rfl, by decide +kernel, rfl, by decide +kernel, by decide +kernel⟩
abbrev si_BadAsk : Stmt := iniS 28 0
theorem sci_BadAsk : FnScope ["self", "name"] ["self", "name"] (defScope si_BadAsk) := ⟨rfl, rfl, rfl, by decide +kernel, rfl, by decide +kernel, by decide +kernel⟩
structure Txt (K : PySem.W.Frag) (mg : Str → Option Value) where
  c_TwiceNamed : Addr
  oe_TwiceNamed : OexC K c_TwiceNamed
  no_TwiceNamed : ∀ n ∈ (["name"] : List Str), PySem.W.findIn K (.ref c_TwiceNamed) n = some none
  fi_TwiceNamed : Addr
  fdi_TwiceNamed : FuncData
  ic_TwiceNamed : PySem.W.findIn K (.ref c_TwiceNamed) "__init__" = some (some (.ref fi_TwiceNamed))
  ti_TwiceNamed : PySem.W.typeIn K (.ref fi_TwiceNamed) = some (.type "function")
  Fi_TwiceNamed : Fun K "__init__" "TwiceNamed.__init__" si_TwiceNamed fi_TwiceNamed fdi_TwiceNamed
  gc_TwiceNamed : mg "TwiceNamed" = some (.ref c_TwiceNamed)
  c_BadSign : Addr
  oe_BadSign : OexC K c_BadSign
  no_BadSign : ∀ n ∈ (["word"] : List Str), PySem.W.findIn K (.ref c_BadSign) n = some none
  fi_BadSign : Addr
  fdi_BadSign : FuncData
  ic_BadSign : PySem.W.findIn K (.ref c_BadSign) "__init__" = some (some (.ref fi_BadSign))
  ti_BadSign : PySem.W.typeIn K (.ref fi_BadSign) = some (.type "function")
  Fi_BadSign : Fun K "__init__" "BadSign.__init__" si_BadSign fi_BadSign fdi_BadSign
  gc_BadSign : mg "BadSign" = some (.ref c_BadSign)
  c_NoName : Addr
  oe_NoName : OexC K c_NoName
  no_NoName : ∀ n ∈ (["name"] : List Str), PySem.W.findIn K (.ref c_NoName) n = some none
  fi_NoName : Addr
  fdi_NoName : FuncData
  ic_NoName : PySem.W.findIn K (.ref c_NoName) "__init__" = some (some (.ref fi_NoName))
  ti_NoName : PySem.W.typeIn K (.ref fi_NoName) = some (.type "function")
  Fi_NoName : Fun K "__init__" "NoName.__init__" si_NoName fi_NoName fdi_NoName
  gc_NoName : mg "NoName" = some (.ref c_NoName)
  c_BadMaker : Addr
  oe_BadMaker : OexC K c_BadMaker
  no_BadMaker : ∀ n ∈ (["maker"] : List Str), PySem.W.findIn K (.ref c_BadMaker) n = some none
  fi_BadMaker : Addr
  fdi_BadMaker : FuncData
  ic_BadMaker : PySem.W.findIn K (.ref c_BadMaker) "__init__" = some (some (.ref fi_BadMaker))
  ti_BadMaker : PySem.W.typeIn K (.ref fi_BadMaker) = some (.type "function")
  Fi_BadMaker : Fun K "__init__" "BadMaker.__init__" si_BadMaker fi_BadMaker fdi_BadMaker
  gc_BadMaker : mg "BadMaker" = some (.ref c_BadMaker)
  c_BadRef : Addr
  oe_BadRef : OexC K c_BadRef
  no_BadRef : ∀ n ∈ (["maker"] : List Str), PySem.W.findIn K (.ref c_BadRef) n = some none
  fi_BadRef : Addr
  fdi_BadRef : FuncData
  ic_BadRef : PySem.W.findIn K (.ref c_BadRef) "__init__" = some (some (.ref fi_BadRef))
  ti_BadRef : PySem.W.typeIn K (.ref fi_BadRef) = some (.type "function")
  Fi_BadRef : Fun K "__init__" "BadRef.__init__" si_BadRef fi_BadRef fdi_BadRef
  gc_BadRef : mg "BadRef" = some (.ref c_BadRef)
  c_Missing : Addr
  oe_Missing : OexC K c_Missing
  no_Missing : ∀ n ∈ (["judge", "maker"] : List Str), PySem.W.findIn K (.ref c_Missing) n = some none
  fi_Missing : Addr
  fdi_Missing : FuncData
  ic_Missing : PySem.W.findIn K (.ref c_Missing) "__init__" = some (some (.ref fi_Missing))
  ti_Missing : PySem.W.typeIn K (.ref fi_Missing) = some (.type "function")
  Fi_Missing : Fun K "__init__" "Missing.__init__" si_Missing fi_Missing fdi_Missing
  gc_Missing : mg "Missing" = some (.ref c_Missing)
  c_BadAsk : Addr
  oe_BadAsk : OexC K c_BadAsk
  no_BadAsk : ∀ n ∈ (["name"] : List Str), PySem.W.findIn K (.ref c_BadAsk) n = some none
  fi_BadAsk : Addr
  fdi_BadAsk : FuncData
  ic_BadAsk : PySem.W.findIn K (.ref c_BadAsk) "__init__" = some (some (.ref fi_BadAsk))
  ti_BadAsk : PySem.W.typeIn K (.ref fi_BadAsk) = some (.type "function")
  Fi_BadAsk : Fun K "__init__" "BadAsk.__init__" si_BadAsk fi_BadAsk fdi_BadAsk
  gc_BadAsk : mg "BadAsk" = some (.ref c_BadAsk)
  c_Book : Addr
  cls_Book : Cls K c_Book
  gc_Book : mg "Book" = some (.ref c_Book)
  na_Book_signs : NoAttr K c_Book "signs"
  na_Book_program : NoAttr K c_Book "program"
  na_Book_rows : NoAttr K c_Book "rows"
  na_Book_start : NoAttr K c_Book "start"
  na_Book__ways : NoAttr K c_Book "_ways"
  na_Book__kinds : NoAttr K c_Book "_kinds"
  na_Book__pairs : NoAttr K c_Book "_pairs"
  na_Book__numbers : NoAttr K c_Book "_numbers"
  na_Book__sorts : NoAttr K c_Book "_sorts"
  na_Book__formulas : NoAttr K c_Book "_formulas"
  na_Book__asks : NoAttr K c_Book "_asks"
  f_letters_of : Addr
  fd_letters_of : FuncData
  F_letters_of : Fun K "letters_of" "letters_of" s_letters_of f_letters_of fd_letters_of
  g_letters_of : mg "letters_of" = some (.ref f_letters_of)
  f_kinds_of : Addr
  fd_kinds_of : FuncData
  F_kinds_of : Fun K "kinds_of" "kinds_of" s_kinds_of f_kinds_of fd_kinds_of
  g_kinds_of : mg "kinds_of" = some (.ref f_kinds_of)
  f_sign_places : Addr
  fd_sign_places : FuncData
  F_sign_places : Fun K "sign_places" "sign_places" s_sign_places f_sign_places fd_sign_places
  g_sign_places : mg "sign_places" = some (.ref f_sign_places)
  f_kinds_by_maker : Addr
  fd_kinds_by_maker : FuncData
  F_kinds_by_maker : Fun K "kinds_by_maker" "kinds_by_maker" s_kinds_by_maker f_kinds_by_maker fd_kinds_by_maker
  g_kinds_by_maker : mg "kinds_by_maker" = some (.ref f_kinds_by_maker)
  f__kind_of : Addr
  fd__kind_of : FuncData
  F__kind_of : Fun K "_kind_of" "_kind_of" s__kind_of f__kind_of fd__kind_of
  g__kind_of : mg "_kind_of" = some (.ref f__kind_of)
  f__refs_to : Addr
  fd__refs_to : FuncData
  F__refs_to : Fun K "_refs_to" "_refs_to" s__refs_to f__refs_to fd__refs_to
  g__refs_to : mg "_refs_to" = some (.ref f__refs_to)
  f_signing_of : Addr
  fd_signing_of : FuncData
  F_signing_of : Fun K "signing_of" "signing_of" s_signing_of f_signing_of fd_signing_of
  g_signing_of : mg "signing_of" = some (.ref f_signing_of)
  f_is_signed : Addr
  fd_is_signed : FuncData
  F_is_signed : Fun K "is_signed" "is_signed" s_is_signed f_is_signed fd_is_signed
  g_is_signed : mg "is_signed" = some (.ref f_is_signed)
  f__tested_refs : Addr
  fd__tested_refs : FuncData
  F__tested_refs : Fun K "_tested_refs" "_tested_refs" s__tested_refs f__tested_refs fd__tested_refs
  g__tested_refs : mg "_tested_refs" = some (.ref f__tested_refs)
  f__signs_for : Addr
  fd__signs_for : FuncData
  F__signs_for : Fun K "_signs_for" "_signs_for" s__signs_for f__signs_for fd__signs_for
  g__signs_for : mg "_signs_for" = some (.ref f__signs_for)
  f__may_hold : Addr
  fd__may_hold : FuncData
  F__may_hold : Fun K "_may_hold" "_may_hold" s__may_hold f__may_hold fd__may_hold
  g__may_hold : mg "_may_hold" = some (.ref f__may_hold)
  f__letters_at : Addr
  fd__letters_at : FuncData
  F__letters_at : Fun K "_letters_at" "_letters_at" s__letters_at f__letters_at fd__letters_at
  g__letters_at : mg "_letters_at" = some (.ref f__letters_at)
  f_judges_of : Addr
  fd_judges_of : FuncData
  F_judges_of : Fun K "judges_of" "judges_of" s_judges_of f_judges_of fd_judges_of
  g_judges_of : mg "judges_of" = some (.ref f_judges_of)
  f_has_first : Addr
  fd_has_first : FuncData
  F_has_first : Fun K "has_first" "has_first" s_has_first f_has_first fd_has_first
  g_has_first : mg "has_first" = some (.ref f_has_first)
  f_all_asks : Addr
  fd_all_asks : FuncData
  F_all_asks : Fun K "all_asks" "all_asks" s_all_asks f_all_asks fd_all_asks
  g_all_asks : mg "all_asks" = some (.ref f_all_asks)
  f_all_ways : Addr
  fd_all_ways : FuncData
  F_all_ways : Fun K "all_ways" "all_ways" s_all_ways f_all_ways fd_all_ways
  g_all_ways : mg "all_ways" = some (.ref f_all_ways)
  f_look_formulas : Addr
  fd_look_formulas : FuncData
  F_look_formulas : Fun K "look_formulas" "look_formulas" s_look_formulas f_look_formulas fd_look_formulas
  g_look_formulas : mg "look_formulas" = some (.ref f_look_formulas)
  f_look_asks : Addr
  fd_look_asks : FuncData
  F_look_asks : Fun K "look_asks" "look_asks" s_look_asks f_look_asks fd_look_asks
  g_look_asks : mg "look_asks" = some (.ref f_look_asks)
  f__first_told : Addr
  fd__first_told : FuncData
  F__first_told : Fun K "_first_told" "_first_told" s__first_told f__first_told fd__first_told
  g__first_told : mg "_first_told" = some (.ref f__first_told)
  f__look_makers_of : Addr
  fd__look_makers_of : FuncData
  F__look_makers_of : Fun K "_look_makers_of" "_look_makers_of" s__look_makers_of f__look_makers_of fd__look_makers_of
  g__look_makers_of : mg "_look_makers_of" = some (.ref f__look_makers_of)
  f__mentions_in : Addr
  fd__mentions_in : FuncData
  F__mentions_in : Fun K "_mentions_in" "_mentions_in" s__mentions_in f__mentions_in fd__mentions_in
  g__mentions_in : mg "_mentions_in" = some (.ref f__mentions_in)
  f__look_mention : Addr
  fd__look_mention : FuncData
  F__look_mention : Fun K "_look_mention" "_look_mention" s__look_mention f__look_mention fd__look_mention
  g__look_mention : mg "_look_mention" = some (.ref f__look_mention)
  f__fits : Addr
  fd__fits : FuncData
  F__fits : Fun K "_fits" "_fits" s__fits f__fits fd__fits
  g__fits : mg "_fits" = some (.ref f__fits)
  f__is_let : Addr
  fd__is_let : FuncData
  F__is_let : Fun K "_is_let" "_is_let" s__is_let f__is_let fd__is_let
  g__is_let : mg "_is_let" = some (.ref f__is_let)
  f_look_names : Addr
  fd_look_names : FuncData
  F_look_names : Fun K "look_names" "look_names" s_look_names f_look_names fd_look_names
  g_look_names : mg "look_names" = some (.ref f_look_names)
  f__look_list : Addr
  fd__look_list : FuncData
  F__look_list : Fun K "_look_list" "_look_list" s__look_list f__look_list fd__look_list
  g__look_list : mg "_look_list" = some (.ref f__look_list)
  f_look_mentions : Addr
  fd_look_mentions : FuncData
  F_look_mentions : Fun K "look_mentions" "look_mentions" s_look_mentions f_look_mentions fd_look_mentions
  g_look_mentions : mg "look_mentions" = some (.ref f_look_mentions)
  f_look_makers : Addr
  fd_look_makers : FuncData
  F_look_makers : Fun K "look_makers" "look_makers" s_look_makers f_look_makers fd_look_makers
  g_look_makers : mg "look_makers" = some (.ref f_look_makers)
  f_look_tests : Addr
  fd_look_tests : FuncData
  F_look_tests : Fun K "look_tests" "look_tests" s_look_tests f_look_tests fd_look_tests
  g_look_tests : mg "look_tests" = some (.ref f_look_tests)
  f__look_name : Addr
  fd__look_name : FuncData
  F__look_name : Fun K "_look_name" "_look_name" s__look_name f__look_name fd__look_name
  g__look_name : mg "_look_name" = some (.ref f__look_name)
  f_has_only : Addr
  fd_has_only : FuncData
  F_has_only : Fun K "has_only" "has_only" s_has_only f_has_only fd_has_only
  g_has_only : mg "has_only" = some (.ref f_has_only)
  f_look_signs : Addr
  fd_look_signs : FuncData
  F_look_signs : Fun K "look_signs" "look_signs" s_look_signs f_look_signs fd_look_signs
  g_look_signs : mg "look_signs" = some (.ref f_look_signs)
  f__words_of : Addr
  fd__words_of : FuncData
  F__words_of : Fun K "_words_of" "_words_of" s__words_of f__words_of fd__words_of
  g__words_of : mg "_words_of" = some (.ref f__words_of)
  f__letters_of : Addr
  fd__letters_of : FuncData
  F__letters_of : Fun K "_letters_of" "_letters_of" s__letters_of f__letters_of fd__letters_of
  g__letters_of : mg "_letters_of" = some (.ref f__letters_of)
  f_Book___init__ : Addr
  fd_Book___init__ : FuncData
  F_Book___init__ : Fun K "__init__" "Book.__init__" s_Book___init__ f_Book___init__ fd_Book___init__
  mk_Book : Mk K c_Book f_Book___init__
  f_Book_in_pairs : Addr
  fd_Book_in_pairs : FuncData
  F_Book_in_pairs : Fun K "in_pairs" "Book.in_pairs" s_Book_in_pairs f_Book_in_pairs fd_Book_in_pairs
  m_Book_in_pairs : Meth K c_Book "in_pairs" f_Book_in_pairs
  f__look_all : Addr
  fd__look_all : FuncData
  F__look_all : Fun K "_look_all" "_look_all" s__look_all f__look_all fd__look_all
  g__look_all : mg "_look_all" = some (.ref f__look_all)
  f__told_by : Addr
  fd__told_by : FuncData
  F__told_by : Fun K "_told_by" "_told_by" s__told_by f__told_by fd__told_by
  g__told_by : mg "_told_by" = some (.ref f__told_by)
  f__formulas_of : Addr
  fd__formulas_of : FuncData
  F__formulas_of : Fun K "_formulas_of" "_formulas_of" s__formulas_of f__formulas_of fd__formulas_of
  g__formulas_of : mg "_formulas_of" = some (.ref f__formulas_of)
  f__law_tape : Addr
  fd__law_tape : FuncData
  F__law_tape : Fun K "_law_tape" "_law_tape" s__law_tape f__law_tape fd__law_tape
  g__law_tape : mg "_law_tape" = some (.ref f__law_tape)
  f__law_pick : Addr
  fd__law_pick : FuncData
  F__law_pick : Fun K "_law_pick" "_law_pick" s__law_pick f__law_pick fd__law_pick
  g__law_pick : mg "_law_pick" = some (.ref f__law_pick)
  f__law_letters : Addr
  fd__law_letters : FuncData
  F__law_letters : Fun K "_law_letters" "_law_letters" s__law_letters f__law_letters fd__law_letters
  g__law_letters : mg "_law_letters" = some (.ref f__law_letters)
  f__law_mark : Addr
  fd__law_mark : FuncData
  F__law_mark : Fun K "_law_mark" "_law_mark" s__law_mark f__law_mark fd__law_mark
  g__law_mark : mg "_law_mark" = some (.ref f__law_mark)
  f__law_piece : Addr
  fd__law_piece : FuncData
  F__law_piece : Fun K "_law_piece" "_law_piece" s__law_piece f__law_piece fd__law_piece
  g__law_piece : mg "_law_piece" = some (.ref f__law_piece)
  f__law_places : Addr
  fd__law_places : FuncData
  F__law_places : Fun K "_law_places" "_law_places" s__law_places f__law_places fd__law_places
  g__law_places : mg "_law_places" = some (.ref f__law_places)
  f__law_kinds : Addr
  fd__law_kinds : FuncData
  F__law_kinds : Fun K "_law_kinds" "_law_kinds" s__law_kinds f__law_kinds fd__law_kinds
  g__law_kinds : mg "_law_kinds" = some (.ref f__law_kinds)
  f__law_maker : Addr
  fd__law_maker : FuncData
  F__law_maker : Fun K "_law_maker" "_law_maker" s__law_maker f__law_maker fd__law_maker
  g__law_maker : mg "_law_maker" = some (.ref f__law_maker)
  f__law_way : Addr
  fd__law_way : FuncData
  F__law_way : Fun K "_law_way" "_law_way" s__law_way f__law_way fd__law_way
  g__law_way : mg "_law_way" = some (.ref f__law_way)
  f__law_words : Addr
  fd__law_words : FuncData
  F__law_words : Fun K "_law_words" "_law_words" s__law_words f__law_words fd__law_words
  g__law_words : mg "_law_words" = some (.ref f__law_words)
  f__law_pairs : Addr
  fd__law_pairs : FuncData
  F__law_pairs : Fun K "_law_pairs" "_law_pairs" s__law_pairs f__law_pairs fd__law_pairs
  g__law_pairs : mg "_law_pairs" = some (.ref f__law_pairs)
  f__law_can : Addr
  fd__law_can : FuncData
  F__law_can : Fun K "_law_can" "_law_can" s__law_can f__law_can fd__law_can
  g__law_can : mg "_law_can" = some (.ref f__law_can)
  f__law_line : Addr
  fd__law_line : FuncData
  F__law_line : Fun K "_law_line" "_law_line" s__law_line f__law_line fd__law_line
  g__law_line : mg "_law_line" = some (.ref f__law_line)
  f__law_allowed : Addr
  fd__law_allowed : FuncData
  F__law_allowed : Fun K "_law_allowed" "_law_allowed" s__law_allowed f__law_allowed fd__law_allowed
  g__law_allowed : mg "_law_allowed" = some (.ref f__law_allowed)
  f__law_due : Addr
  fd__law_due : FuncData
  F__law_due : Fun K "_law_due" "_law_due" s__law_due f__law_due fd__law_due
  g__law_due : mg "_law_due" = some (.ref f__law_due)
  f__law_suits : Addr
  fd__law_suits : FuncData
  F__law_suits : Fun K "_law_suits" "_law_suits" s__law_suits f__law_suits fd__law_suits
  g__law_suits : mg "_law_suits" = some (.ref f__law_suits)
  f__law_right : Addr
  fd__law_right : FuncData
  F__law_right : Fun K "_law_right" "_law_right" s__law_right f__law_right fd__law_right
  g__law_right : mg "_law_right" = some (.ref f__law_right)
  f_law : Addr
  fd_law : FuncData
  F_law : Fun K "law" "law" s_law f_law fd_law
  g_law : mg "law" = some (.ref f_law)
  z_tuple : mg "tuple" = none
  z_enumerate : mg "enumerate" = none
  z_zip : mg "zip" = none
  z_len : mg "len" = none
  z_all : mg "all" = none
  z_set : mg "set" = none
  z_int : mg "int" = none
  z_range : mg "range" = none
  z_str : mg "str" = none
  z_min : mg "min" = none
  z_isinstance : mg "isinstance" = none
  z_bool : mg "bool" = none
  v_SIGNS : ∃ t, mg "SIGNS" = some (.int 1 t)
  v_ROWS : ∃ t, mg "ROWS" = some (.int 2 t)
  v_PAIRS : ∃ t, mg "PAIRS" = some (.int 3 t)
  v_NUMBERS : ∃ t, mg "NUMBERS" = some (.int 4 t)
  v_START : ∃ t, mg "START" = some (.int 5 t)
  v_LOTS : ∃ t, mg "LOTS" = some (.int 6 t)
  v_JUDGES : ∃ t, mg "JUDGES" = some (.int 7 t)
  v_ASKS : ∃ t, mg "ASKS" = some (.int 8 t)
theorem Txt.b_letters_of {K : PySem.W.Frag} {mg : Str → Option Value} (T : Txt K mg) : Binds K T.fd_letters_of ["book", "mark"] [] := T.F_letters_of.binds fun _ _ _ _ _ _ us hl => match us, hl with | [_, _], _ => rfl
theorem Txt.b_kinds_of {K : PySem.W.Frag} {mg : Str → Option Value} (T : Txt K mg) : Binds K T.fd_kinds_of ["way"] [] := T.F_kinds_of.binds fun _ _ _ _ _ _ us hl => match us, hl with | [_], _ => rfl
theorem Txt.b_sign_places {K : PySem.W.Frag} {mg : Str → Option Value} (T : Txt K mg) : Binds K T.fd_sign_places ["kinds"] [] := T.F_sign_places.binds fun _ _ _ _ _ _ us hl => match us, hl with | [_], _ => rfl
theorem Txt.b_kinds_by_maker {K : PySem.W.Frag} {mg : Str → Option Value} (T : Txt K mg) : Binds K T.fd_kinds_by_maker ["ways"] [] := T.F_kinds_by_maker.binds fun _ _ _ _ _ _ us hl => match us, hl with | [_], _ => rfl
theorem Txt.b__kind_of {K : PySem.W.Frag} {mg : Str → Option Value} (T : Txt K mg) : Binds K T.fd__kind_of ["piece"] [] := T.F__kind_of.binds fun _ _ _ _ _ _ us hl => match us, hl with | [_], _ => rfl
theorem Txt.b__refs_to {K : PySem.W.Frag} {mg : Str → Option Value} (T : Txt K mg) : Binds K T.fd__refs_to ["kinds", "words"] [] := T.F__refs_to.binds fun _ _ _ _ _ _ us hl => match us, hl with | [_, _], _ => rfl
theorem Txt.b_signing_of {K : PySem.W.Frag} {mg : Str → Option Value} (T : Txt K mg) : Binds K T.fd_signing_of ["book", "way"] [] := T.F_signing_of.binds fun _ _ _ _ _ _ us hl => match us, hl with | [_, _], _ => rfl
theorem Txt.b_is_signed {K : PySem.W.Frag} {mg : Str → Option Value} (T : Txt K mg) : Binds K T.fd_is_signed ["book", "way"] [] := T.F_is_signed.binds fun _ _ _ _ _ _ us hl => match us, hl with | [_, _], _ => rfl
theorem Txt.b__tested_refs {K : PySem.W.Frag} {mg : Str → Option Value} (T : Txt K mg) : Binds K T.fd__tested_refs ["way"] [] := T.F__tested_refs.binds fun _ _ _ _ _ _ us hl => match us, hl with | [_], _ => rfl
theorem Txt.b__signs_for {K : PySem.W.Frag} {mg : Str → Option Value} (T : Txt K mg) : Binds K T.fd__signs_for ["book", "way", "refs"] [] := T.F__signs_for.binds fun _ _ _ _ _ _ us hl => match us, hl with | [_, _, _], _ => rfl
theorem Txt.b__may_hold {K : PySem.W.Frag} {mg : Str → Option Value} (T : Txt K mg) : Binds K T.fd__may_hold ["book", "way", "refs", "signs"] [] := T.F__may_hold.binds fun _ _ _ _ _ _ us hl => match us, hl with | [_, _, _, _], _ => rfl
theorem Txt.b__letters_at {K : PySem.W.Frag} {mg : Str → Option Value} (T : Txt K mg) : Binds K T.fd__letters_at ["book", "way", "ref"] [] := T.F__letters_at.binds fun _ _ _ _ _ _ us hl => match us, hl with | [_, _, _], _ => rfl
theorem Txt.b_judges_of {K : PySem.W.Frag} {mg : Str → Option Value} (T : Txt K mg) : Binds K T.fd_judges_of ["ask"] [] := T.F_judges_of.binds fun _ _ _ _ _ _ us hl => match us, hl with | [_], _ => rfl
theorem Txt.b_has_first {K : PySem.W.Frag} {mg : Str → Option Value} (T : Txt K mg) : Binds K T.fd_has_first ["ask"] [] := T.F_has_first.binds fun _ _ _ _ _ _ us hl => match us, hl with | [_], _ => rfl
theorem Txt.b_all_asks {K : PySem.W.Frag} {mg : Str → Option Value} (T : Txt K mg) : Binds K T.fd_all_asks ["ask"] [] := T.F_all_asks.binds fun _ _ _ _ _ _ us hl => match us, hl with | [_], _ => rfl
theorem Txt.b_all_ways {K : PySem.W.Frag} {mg : Str → Option Value} (T : Txt K mg) : Binds K T.fd_all_ways ["program"] [] := T.F_all_ways.binds fun _ _ _ _ _ _ us hl => match us, hl with | [_], _ => rfl
theorem Txt.b_look_formulas {K : PySem.W.Frag} {mg : Str → Option Value} (T : Txt K mg) : Binds K T.fd_look_formulas ["program"] [] := T.F_look_formulas.binds fun _ _ _ _ _ _ us hl => match us, hl with | [_], _ => rfl
theorem Txt.b_look_asks {K : PySem.W.Frag} {mg : Str → Option Value} (T : Txt K mg) : Binds K T.fd_look_asks ["program"] [] := T.F_look_asks.binds fun _ _ _ _ _ _ us hl => match us, hl with | [_], _ => rfl
theorem Txt.b__first_told {K : PySem.W.Frag} {mg : Str → Option Value} (T : Txt K mg) : Binds K T.fd__first_told ["pairs"] [] := T.F__first_told.binds fun _ _ _ _ _ _ us hl => match us, hl with | [_], _ => rfl
theorem Txt.b__look_makers_of {K : PySem.W.Frag} {mg : Str → Option Value} (T : Txt K mg) : Binds K T.fd__look_makers_of ["formulas", "sort", "first_kinds", "widths"] [] := T.F__look_makers_of.binds fun _ _ _ _ _ _ us hl => match us, hl with | [_, _, _, _], _ => rfl
theorem Txt.b__mentions_in {K : PySem.W.Frag} {mg : Str → Option Value} (T : Txt K mg) : Binds K T.fd__mentions_in ["sort", "formula"] [] := T.F__mentions_in.binds fun _ _ _ _ _ _ us hl => match us, hl with | [_, _], _ => rfl
theorem Txt.b__look_mention {K : PySem.W.Frag} {mg : Str → Option Value} (T : Txt K mg) : Binds K T.fd__look_mention ["mention", "maker", "kinds", "widths"] [] := T.F__look_mention.binds fun _ _ _ _ _ _ us hl => match us, hl with | [_, _, _, _], _ => rfl
theorem Txt.b__fits {K : PySem.W.Frag} {mg : Str → Option Value} (T : Txt K mg) : Binds K T.fd__fits ["mention", "kinds", "widths"] [] := T.F__fits.binds fun _ _ _ _ _ _ us hl => match us, hl with | [_, _, _], _ => rfl
theorem Txt.b__is_let {K : PySem.W.Frag} {mg : Str → Option Value} (T : Txt K mg) : Binds K T.fd__is_let ["ask", "sorts"] [] := T.F__is_let.binds fun _ _ _ _ _ _ us hl => match us, hl with | [_, _], _ => rfl
theorem Txt.b_look_names {K : PySem.W.Frag} {mg : Str → Option Value} (T : Txt K mg) : Binds K T.fd_look_names ["program"] [] := T.F_look_names.binds fun _ _ _ _ _ _ us hl => match us, hl with | [_], _ => rfl
theorem Txt.b__look_list {K : PySem.W.Frag} {mg : Str → Option Value} (T : Txt K mg) : Binds K T.fd__look_list ["names"] [] := T.F__look_list.binds fun _ _ _ _ _ _ us hl => match us, hl with | [_], _ => rfl
theorem Txt.b_look_mentions {K : PySem.W.Frag} {mg : Str → Option Value} (T : Txt K mg) : Binds K T.fd_look_mentions ["program"] [] := T.F_look_mentions.binds fun _ _ _ _ _ _ us hl => match us, hl with | [_], _ => rfl
theorem Txt.b_look_makers {K : PySem.W.Frag} {mg : Str → Option Value} (T : Txt K mg) : Binds K T.fd_look_makers ["program"] [] := T.F_look_makers.binds fun _ _ _ _ _ _ us hl => match us, hl with | [_], _ => rfl
theorem Txt.b_look_tests {K : PySem.W.Frag} {mg : Str → Option Value} (T : Txt K mg) : Binds K T.fd_look_tests ["program"] [] := T.F_look_tests.binds fun _ _ _ _ _ _ us hl => match us, hl with | [_], _ => rfl
theorem Txt.b__look_name {K : PySem.W.Frag} {mg : Str → Option Value} (T : Txt K mg) : Binds K T.fd__look_name ["name", "names"] [] := T.F__look_name.binds fun _ _ _ _ _ _ us hl => match us, hl with | [_, _], _ => rfl
theorem Txt.b_has_only {K : PySem.W.Frag} {mg : Str → Option Value} (T : Txt K mg) : Binds K T.fd_has_only ["word", "characters"] [] := T.F_has_only.binds fun _ _ _ _ _ _ us hl => match us, hl with | [_, _], _ => rfl
theorem Txt.b_look_signs {K : PySem.W.Frag} {mg : Str → Option Value} (T : Txt K mg) : Binds K T.fd_look_signs ["program"] [] := T.F_look_signs.binds fun _ _ _ _ _ _ us hl => match us, hl with | [_], _ => rfl
theorem Txt.b__words_of {K : PySem.W.Frag} {mg : Str → Option Value} (T : Txt K mg) : Binds K T.fd__words_of ["program"] [] := T.F__words_of.binds fun _ _ _ _ _ _ us hl => match us, hl with | [_], _ => rfl
theorem Txt.b__letters_of {K : PySem.W.Frag} {mg : Str → Option Value} (T : Txt K mg) : Binds K T.fd__letters_of ["program"] [] := T.F__letters_of.binds fun _ _ _ _ _ _ us hl => match us, hl with | [_], _ => rfl
theorem Txt.b_Book___init__ {K : PySem.W.Frag} {mg : Str → Option Value} (T : Txt K mg) : Binds K T.fd_Book___init__ ["self", "program"] [] := T.F_Book___init__.binds fun _ _ _ _ _ _ us hl => match us, hl with | [_, _], _ => rfl
theorem Txt.b_Book_in_pairs {K : PySem.W.Frag} {mg : Str → Option Value} (T : Txt K mg) : Binds K T.fd_Book_in_pairs ["self", "name", "word"] [] := T.F_Book_in_pairs.binds fun _ _ _ _ _ _ us hl => match us, hl with | [_, _, _], _ => rfl
theorem Txt.b__look_all {K : PySem.W.Frag} {mg : Str → Option Value} (T : Txt K mg) : Binds K T.fd__look_all ["program"] [] := T.F__look_all.binds fun _ _ _ _ _ _ us hl => match us, hl with | [_], _ => rfl
theorem Txt.b__told_by {K : PySem.W.Frag} {mg : Str → Option Value} (T : Txt K mg) : Binds K T.fd__told_by ["numbers"] [] := T.F__told_by.binds fun _ _ _ _ _ _ us hl => match us, hl with | [_], _ => rfl
theorem Txt.b__formulas_of {K : PySem.W.Frag} {mg : Str → Option Value} (T : Txt K mg) : Binds K T.fd__formulas_of ["program"] [] := T.F__formulas_of.binds fun _ _ _ _ _ _ us hl => match us, hl with | [_], _ => rfl
theorem Txt.b__law_tape {K : PySem.W.Frag} {mg : Str → Option Value} (T : Txt K mg) : Binds K T.fd__law_tape ["_law_script"] [] := T.F__law_tape.binds fun _ _ _ _ _ _ us hl => match us, hl with | [_], _ => rfl
theorem Txt.b__law_pick {K : PySem.W.Frag} {mg : Str → Option Value} (T : Txt K mg) : Binds K T.fd__law_pick ["_law_tape_here", "_law_limit"] [] := T.F__law_pick.binds fun _ _ _ _ _ _ us hl => match us, hl with | [_, _], _ => rfl
theorem Txt.b__law_letters {K : PySem.W.Frag} {mg : Str → Option Value} (T : Txt K mg) : Binds K T.fd__law_letters ["_law_tape_here", "_law_signs"] [] := T.F__law_letters.binds fun _ _ _ _ _ _ us hl => match us, hl with | [_, _], _ => rfl
theorem Txt.b__law_mark {K : PySem.W.Frag} {mg : Str → Option Value} (T : Txt K mg) : Binds K T.fd__law_mark ["_law_tape_here", "_law_signs"] [] := T.F__law_mark.binds fun _ _ _ _ _ _ us hl => match us, hl with | [_, _], _ => rfl
theorem Txt.b__law_piece {K : PySem.W.Frag} {mg : Str → Option Value} (T : Txt K mg) : Binds K T.fd__law_piece ["_law_tape_here", "_law_signs", "_law_rows", "_law_names"] [] := T.F__law_piece.binds fun _ _ _ _ _ _ us hl => match us, hl with | [_, _, _, _], _ => rfl
theorem Txt.b__law_places {K : PySem.W.Frag} {mg : Str → Option Value} (T : Txt K mg) : Binds K T.fd__law_places ["_law_pieces"] [] := T.F__law_places.binds fun _ _ _ _ _ _ us hl => match us, hl with | [_], _ => rfl
theorem Txt.b__law_kinds {K : PySem.W.Frag} {mg : Str → Option Value} (T : Txt K mg) : Binds K T.fd__law_kinds ["_law_pieces"] [] := T.F__law_kinds.binds fun _ _ _ _ _ _ us hl => match us, hl with | [_], _ => rfl
theorem Txt.b__law_maker {K : PySem.W.Frag} {mg : Str → Option Value} (T : Txt K mg) : Binds K T.fd__law_maker ["_law_tape_here", "_law_pieces", "_law_makers"] [] := T.F__law_maker.binds fun _ _ _ _ _ _ us hl => match us, hl with | [_, _, _], _ => rfl
theorem Txt.b__law_way {K : PySem.W.Frag} {mg : Str → Option Value} (T : Txt K mg) : Binds K T.fd__law_way ["_law_tape_here", "_law_signs", "_law_rows", "_law_names", "_law_pairs_here", "_law_makers"] [] := T.F__law_way.binds fun _ _ _ _ _ _ us hl => match us, hl with | [_, _, _, _, _, _], _ => rfl
theorem Txt.b__law_words {K : PySem.W.Frag} {mg : Str → Option Value} (T : Txt K mg) : Binds K T.fd__law_words ["_law_tape_here", "_law_signs"] [] := T.F__law_words.binds fun _ _ _ _ _ _ us hl => match us, hl with | [_, _], _ => rfl
theorem Txt.b__law_pairs {K : PySem.W.Frag} {mg : Str → Option Value} (T : Txt K mg) : Binds K T.fd__law_pairs ["_law_tape_here", "_law_signs", "_law_size"] [] := T.F__law_pairs.binds fun _ _ _ _ _ _ us hl => match us, hl with | [_, _, _], _ => rfl
theorem Txt.b__law_can {K : PySem.W.Frag} {mg : Str → Option Value} (T : Txt K mg) : Binds K T.fd__law_can ["_law_refs", "_law_allowed_here", "_law_tests", "_law_pairs_here", "_law_chosen"] [] := T.F__law_can.binds fun _ _ _ _ _ _ us hl => match us, hl with | [_, _, _, _, _], _ => rfl
theorem Txt.b__law_line {K : PySem.W.Frag} {mg : Str → Option Value} (T : Txt K mg) : Binds K T.fd__law_line ["_law_pairs_here", "_law_name"] [] := T.F__law_line.binds fun _ _ _ _ _ _ us hl => match us, hl with | [_, _], _ => rfl
theorem Txt.b__law_allowed {K : PySem.W.Frag} {mg : Str → Option Value} (T : Txt K mg) : Binds K T.fd__law_allowed ["_law_form", "_law_ref", "_law_signs"] [] := T.F__law_allowed.binds fun _ _ _ _ _ _ us hl => match us, hl with | [_, _, _], _ => rfl
theorem Txt.b__law_due {K : PySem.W.Frag} {mg : Str → Option Value} (T : Txt K mg) : Binds K T.fd__law_due ["_law_form", "_law_signs", "_law_pairs_here"] [] := T.F__law_due.binds fun _ _ _ _ _ _ us hl => match us, hl with | [_, _, _], _ => rfl
theorem Txt.b__law_suits {K : PySem.W.Frag} {mg : Str → Option Value} (T : Txt K mg) : Binds K T.fd__law_suits ["_law_told", "_law_form", "_law_signs", "_law_pairs_here"] [] := T.F__law_suits.binds fun _ _ _ _ _ _ us hl => match us, hl with | [_, _, _, _], _ => rfl
theorem Txt.b__law_right {K : PySem.W.Frag} {mg : Str → Option Value} (T : Txt K mg) : Binds K T.fd__law_right ["_law_told", "_law_said", "_law_form", "_law_signs", "_law_pairs_here"] [] := T.F__law_right.binds fun _ _ _ _ _ _ us hl => match us, hl with | [_, _, _, _, _], _ => rfl
theorem Txt.b_law {K : PySem.W.Frag} {mg : Str → Option Value} (T : Txt K mg) : Binds K T.fd_law ["_law_script"] [] := T.F_law.binds fun _ _ _ _ _ _ us hl => match us, hl with | [_], _ => rfl
theorem Txt.kp_is_signed_1_0 {K : PySem.W.Frag} {mg : Str → Option Value} (T : Txt K mg) : KwP K T.fd_is_signed ["book", "way"] ["way", "book"] [1, 0] := kw_perm T.F_is_signed rfl fun _ _ _ _ _ _ ws hl => match ws, hl with | [_, _], _ => rfl
theorem Txt.kp_signing_of_1_0 {K : PySem.W.Frag} {mg : Str → Option Value} (T : Txt K mg) : KwP K T.fd_signing_of ["book", "way"] ["way", "book"] [1, 0] := kw_perm T.F_signing_of rfl fun _ _ _ _ _ _ ws hl => match ws, hl with | [_, _], _ => rfl
theorem Txt.ini_TwiceNamed {P : Program} {w : World} {K : PySem.W.Frag} {mg : Str → Option Value} {base : Heap} (T : Txt K mg) : FnOk P w K mg base CX0 1 T.fi_TwiceNamed T.fdi_TwiceNamed ["self", "name"] (iniSp K ["name"]) := ini_one T.Fi_TwiceNamed sci_TwiceNamed fun _ _ _ _ _ _ => pss_one (ps_ost (pv 0) (pv 1))
theorem Txt.bi_TwiceNamed {K : PySem.W.Frag} {mg : Str → Option Value} (T : Txt K mg) : Binds K T.fdi_TwiceNamed ["self", "name"] [] := T.Fi_TwiceNamed.binds fun _ _ _ _ _ _ us hl => match us, hl with | [_, _], _ => rfl
theorem Txt.ini_BadSign {P : Program} {w : World} {K : PySem.W.Frag} {mg : Str → Option Value} {base : Heap} (T : Txt K mg) : FnOk P w K mg base CX0 1 T.fi_BadSign T.fdi_BadSign ["self", "word"] (iniSp K ["word"]) := ini_one T.Fi_BadSign sci_BadSign fun _ _ _ _ _ _ => pss_one (ps_ost (pv 0) (pv 1))
theorem Txt.bi_BadSign {K : PySem.W.Frag} {mg : Str → Option Value} (T : Txt K mg) : Binds K T.fdi_BadSign ["self", "word"] [] := T.Fi_BadSign.binds fun _ _ _ _ _ _ us hl => match us, hl with | [_, _], _ => rfl
theorem Txt.ini_NoName {P : Program} {w : World} {K : PySem.W.Frag} {mg : Str → Option Value} {base : Heap} (T : Txt K mg) : FnOk P w K mg base CX0 1 T.fi_NoName T.fdi_NoName ["self", "name"] (iniSp K ["name"]) := ini_one T.Fi_NoName sci_NoName fun _ _ _ _ _ _ => pss_one (ps_ost (pv 0) (pv 1))
theorem Txt.bi_NoName {K : PySem.W.Frag} {mg : Str → Option Value} (T : Txt K mg) : Binds K T.fdi_NoName ["self", "name"] [] := T.Fi_NoName.binds fun _ _ _ _ _ _ us hl => match us, hl with | [_, _], _ => rfl
theorem Txt.ini_BadMaker {P : Program} {w : World} {K : PySem.W.Frag} {mg : Str → Option Value} {base : Heap} (T : Txt K mg) : FnOk P w K mg base CX0 1 T.fi_BadMaker T.fdi_BadMaker ["self", "maker"] (iniSp K ["maker"]) := ini_one T.Fi_BadMaker sci_BadMaker fun _ _ _ _ _ _ => pss_one (ps_ost (pv 0) (pv 1))
theorem Txt.bi_BadMaker {K : PySem.W.Frag} {mg : Str → Option Value} (T : Txt K mg) : Binds K T.fdi_BadMaker ["self", "maker"] [] := T.Fi_BadMaker.binds fun _ _ _ _ _ _ us hl => match us, hl with | [_, _], _ => rfl
theorem Txt.ini_BadRef {P : Program} {w : World} {K : PySem.W.Frag} {mg : Str → Option Value} {base : Heap} (T : Txt K mg) : FnOk P w K mg base CX0 1 T.fi_BadRef T.fdi_BadRef ["self", "maker"] (iniSp K ["maker"]) := ini_one T.Fi_BadRef sci_BadRef fun _ _ _ _ _ _ => pss_one (ps_ost (pv 0) (pv 1))
theorem Txt.bi_BadRef {K : PySem.W.Frag} {mg : Str → Option Value} (T : Txt K mg) : Binds K T.fdi_BadRef ["self", "maker"] [] := T.Fi_BadRef.binds fun _ _ _ _ _ _ us hl => match us, hl with | [_, _], _ => rfl
theorem Txt.ini_Missing {P : Program} {w : World} {K : PySem.W.Frag} {mg : Str → Option Value} {base : Heap} (T : Txt K mg) : FnOk P w K mg base CX0 1 T.fi_Missing T.fdi_Missing ["self", "judge", "maker"] (iniSp K ["judge", "maker"]) := ini_two T.Fi_Missing sci_Missing fun _ _ _ _ _ _ => pss_cons (ps_ost (pv 0) (pv 1)) (pss_one (ps_ost (pv 0) (pv 2)))
theorem Txt.bi_Missing {K : PySem.W.Frag} {mg : Str → Option Value} (T : Txt K mg) : Binds K T.fdi_Missing ["self", "judge", "maker"] [] := T.Fi_Missing.binds fun _ _ _ _ _ _ us hl => match us, hl with | [_, _, _], _ => rfl
theorem Txt.ini_BadAsk {P : Program} {w : World} {K : PySem.W.Frag} {mg : Str → Option Value} {base : Heap} (T : Txt K mg) : FnOk P w K mg base CX0 1 T.fi_BadAsk T.fdi_BadAsk ["self", "name"] (iniSp K ["name"]) := ini_one T.Fi_BadAsk sci_BadAsk fun _ _ _ _ _ _ => pss_one (ps_ost (pv 0) (pv 1))
theorem Txt.bi_BadAsk {K : PySem.W.Frag} {mg : Str → Option Value} (T : Txt K mg) : Binds K T.fdi_BadAsk ["self", "name"] [] := T.Fi_BadAsk.binds fun _ _ _ _ _ _ us hl => match us, hl with | [_, _], _ => rfl
end K29

set_option Elab.async false
set_option linter.all false
set_option maxRecDepth 100000
set_option maxHeartbeats 4000000
namespace K29
open PySem PySem.Spec PyProof.Rows L2 PD Bk
local macro_rules | `(tactic| walk_at "pd") => `(tactic| simp (config := { decide := true, maxSteps := 400000 }) only [dIZipL, dFzT, dDGetTU, dDInTU, dDGet2TU, dDcT, dDCompT, dFzT, dIsB_b, dStrI_i, dRevT, revT_tx, Bk.pd_sg, Bk.pd_rows, Bk.pd_pairs, Bk.pd_nums, Bk.pd_start, Bk.pd_lots, Bk.pd_js, Bk.pd_as, dFldO, dFldV_o, dMethO, dMethV_o, dDGetU, dDInU, dDGet2U, dDc, dDComp, dIKeys, dFrzD_v, dFrzT_v, dFrzO, dFz, dFzD, dSetF, dMakeX, dMake, dSet0, dSAdd, Bk.dMethV_bk, Bk.dFldV_bk, Bk.bk_program, Bk.bk_signs, Bk.bk_rows, Bk.bk_start, Bk.bk_ways, Bk.bk_kinds, Bk.bk_pairs, Bk.bk_numbers, Bk.bk_sorts, Bk.bk_formulas, Bk.bk_asks, Bk.bk_m1, Bk.bk_m2, Bk.bk_m3, Bk.bk_m4, Bk.bk_m5, Bk.bk_m6, Bk.bk_m7, Bk.bk_m8, Bk.bk_m9, Bk.bk_ma, Bk.bk_mb, Bk.bk_mc, Bk.atI_5, Bk.atI_6, Bk.atI_7, Bk.atI_8, dAbs_i, tx_app, tx_len, tx_emp, dIx_tx, sgn_tx, cutS_to, cutS_fr, cutS_fr1, dPar, dIRng2, dIEnumS, dIStr, dInSg, dJoin, dSlS, dUpper, dChain, dDNewT, dDGetT, dDPutT, dMin3_i, dMax3_i, dCallX, dRaise, dSeq, dSet, dAsg, dgN, dRet, dRetN, dIfS, dFor, dLoop, dDrop, dNext, dVar, dC, dNil, dCons, dOp, dUn, dTest, dTru, dAnd, dOr, dNot, dAndV, dOrV, dNotV, dIfE, dTup, dLst, dCB, dCall, dCallP, dBM, dBML, dBM0, dLc, dComp, dYes, dgTup, dgCons, dgNil, dgSub, dPart, dNoPart, dAug, dIsi, dEq, dNe, wipeD, endsOf,
  dFrz, dFrzV_i, dFrzV_s, dFrzV_b, dFrzV_n, dFrzV_t, dFrzV_l, dFrzV_r, dAddL_i, dAddL_s, dAddL_t, dAddL_rr, dAddL_rl, dAddL_lr, dAddL_ll, dMulL_i, dMulL_s, dMulL_r, dSlL_v, dSlLV_t, dSlLV_l, dSlLV_r, dMinU_1, dMinU_2, dSumL_1, dSetTx_1, dIx_l, dLen_l, dInG_l, truD_rol, tyD_rol, dInt1_b, dISeqV_l, dLtS_i, dLtS_s, ltP_i, ltP_s, lsq_rol, dDNew, dDGet, dDGet2, dDSetd, dDPut, dSub_i, dInt2_i, dNeg_i, dCmp_i, dIsN_n, dNotN_n, dInG_t, dInG_r, dIx_t, dIx_r, dLen_s, dLen_t, dLen_r, dTuple_1, dList_1, dInt1_i, dRev_v, dRevV_t, dRevV_r, dISeq_v, dISeqV_t, dISeqV_r, dIEnum_v, dIEnumV_t, dIEnumV_r, dPop_0, dPop_i, dAppend_1, dExtend_1, dSub3_i, dIRng1_v, dRng1V_i,
  seqOf_tup, seqOf_rol, seqW_tup, eqK_ss, eqK_ii, eqK_bb, eqK_nn, eqK_ts, eqK_st, eqK_ti, eqK_is, eqK_ns, flatD_str, flatD_int, flatD_bl, flatD_non, isT_NoneType_bool, isT_NoneType_int, isT_NoneType_str, isT_NoneType_tuple, isT_NoneType_list, isT_bool_bool, isT_bool_int, isT_bool_str, isT_bool_tuple, isT_bool_list, isT_int_bool, isT_int_int, isT_int_str, isT_int_tuple, isT_int_list, isT_str_bool, isT_str_int, isT_str_str, isT_str_tuple, isT_str_list, isT_tuple_bool, isT_tuple_int, isT_tuple_str, isT_tuple_tuple, isT_tuple_list, isT_list_bool, isT_list_int, isT_list_str, isT_list_tuple, isT_list_list, isNon_non, isNon_bl, isNon_int, isNon_str, isNon_tup, tyD_non, tyD_bl, tyD_int, tyD_str, tyD_tup, truD_bl, truD_int, truD_tup,
  atI_0, atI_1, atI_2, atI_3, atI_4, atI_m1, atI_m2, atI_m3, Option.some.injEq, exists_eq_left', exists_eq_left, beq_self_eq_true, Bool.not_true, Bool.not_false, if_true, if_false, true_and, and_true, Bool.false_eq_true, ↓reduceIte,
  List.getElem?_cons_zero, List.getElem?_cons_succ, List.set_cons_zero, List.set_cons_succ, List.map_cons, List.map_nil, List.length_cons, List.length_nil, mset_same, mset_mset, List.isEmpty_nil, List.isEmpty_cons, decide_eq_true_eq, beq_iff_eq, seqI_0, List.eraseIdx_cons_zero, List.eraseIdx_cons_succ, ixN_40, ixN_41, ixN_42, ixN_43, Nat.reduceAdd])
local macro_rules | `(tactic| walk_at "ne") => `(tactic| first | assumption | exact Ne.symm (by assumption))
local macro_rules | `(tactic| walk_at "mu") => `(tactic| first | exact mset_same | assumption | exact mset_skip (by walk_at "ne") (by walk_at "mu"))
local macro_rules | `(tactic| walk_at "go") => `(tactic| repeat (first | walk_at "pd" | refine ⟨_, seqOf_ref (by walk_at "mu"), ?_⟩ | refine ⟨⟨_, _, lstOf_ref (by walk_at "mu")⟩, ?_⟩ | refine ⟨_, _, lstOf_ref (by walk_at "mu"), ?_⟩ | refine ⟨(show CMul _ _ from Or.inr ⟨by decide, by decide⟩), ?_⟩ | refine ⟨(show CDiv _ _ from ⟨by decide, by decide⟩), ?_⟩))
local macro_rules | `(tactic| walk_at "w") => `(tactic| try walk_at "pd")
section
variable {P : Program} {w : World} {K : PySem.W.Frag} {mg : Str → Option Value} {base : Heap}
def sp_all_ways : SpD := fun ds m Q => ∃ p : Prog, ds = [p.d] ∧ Sizes p ∧ Q (.rol (p.ways.map Way.d)) m
theorem ok_all_ways  (T : Txt K mg)  : FnOk P w K mg base CX0 (1) T.f_all_ways T.fd_all_ways ["program"] (spL K 1 sp_all_ways) := by
  refine fn_ok T.F_all_ways sc_all_ways (fun cdv A outer s H E hr =>
(gss_cons (gs_set (i := 1) sc_all_ways.nd rfl (.inl rfl) (ge_lst ga_nil))
 (gss_cons (gs_for PassesOwn.never rfl (gi_seq (ge_ix (gv 0) (ge_glb (by rfl) T.v_LOTS))) (gg_name (i := 2) sc_all_ways.nd rfl (.inl rfl))
 (gss_one (gs_expr (ge_bm PySem.F.slot_list_extend PySem.F.type_list_extend mt_extendU lm_extend (gv 1) (ga_cons (ge_ix (gv 2) ge_int) ga_nil)))))
 (gss_one (gs_ret (ge_frz (gv 1))))))) (fun ds m Q h => ?_)
  obtain ⟨p, rfl, hz, h⟩ := h
  rw [show startD N_all_ways [p.d] = [some (p.d), none, none] from rfl]
  unfold Prog.d
  walk_at "pd"
  intro q hq
  refine loop_accT (m0 := m) (p := q) (fun s' => ∃ x, s' = [some p.d, some (.ref q), x]) lotD (fun l => l.2.map Way.d) (us := p.lots) (init := []) (fun _ _ => trivial) ?_ ?_ ⟨_, rfl⟩ (PD.Sub.new hq) mset_same
  · rintro l hl acc s' m' R ⟨x, rfl⟩ b1 b2 hz2 hR
    unfold lotD waysD
    walk_at "pd"
    refine ⟨⟨_, _, lstOf_ref b2⟩, _, _, _, lstOf_ref b2, rfl, ?_, hR _ _ ⟨_, rfl⟩ ?_ mset_same⟩
    · have e : ([] ++ p.lots.flatMap fun l => l.2.map Way.d) = (p.ways).map Way.d := by
        unfold Prog.ways; rw [List.nil_append, List.map_flatMap]
      rw [e] at hz2
      have := hz.ways
      have e2 : (p.ways.map Way.d).length = p.ways.length := List.length_map _
      rw [e2] at hz2
      exact Nat.le_trans hz2 (Nat.le_trans this (by decide))
    · exact PD.Sub.new' b1 hq
  · rintro s' m' ⟨x, rfl⟩ b1 b2
    walk_at "pd"
    refine ⟨_, b2, m, b1.del hq, ?_⟩
    have e : ([] ++ p.lots.flatMap fun l => l.2.map Way.d) = (p.ways).map Way.d := by
      unfold Prog.ways; rw [List.nil_append, List.map_flatMap]
    rw [e]; exact h
def sp__kind_of : SpD := fun ds m Q => ∃ q : Piece, ds = [q.d] ∧ (∀ ms, q = .plain ms → ms.length ≤ 10) ∧ Q (kindD q.k) m
theorem ok__kind_of  (T : Txt K mg)  : FnOk P w K mg base CX0 (1) T.f__kind_of T.fd__kind_of ["piece"] (spL K 1 sp__kind_of) := by
  refine fn_ok T.F__kind_of sc__kind_of (fun cdv A outer s H E hr =>
(gss_cons (gs_if (gt_cmpR (op_eqS hr.units) lr_eq (ge_ix (gv 0) ge_int) ge_str (nomark _))
 (gss_one (gs_ret ge_str))
 gss_nil)
 (gss_one (gs_ret (ge_callTy call_tuple_of lc_tuple (by rfl) T.z_tuple (by decide +kernel) (ga_cons (ge_lc (own := [("mark", 1)]) rfl sc__kind_of.nd (gi_seq (ge_ix (gv 0) ge_int)) (blkOk_by (N := N__kind_of) (sc := defScope s__kind_of) (by decide +kernel)) (fun _ _ _ _ _ => (gg_name (i := 1) sc__kind_of.nd rfl (.inl rfl))) (fun _ _ _ _ _ => gts_nil) (fun _ _ _ _ _ => (ge_ix (gv 1) ge_int)) (by decide)) ga_nil)))))) (fun ds m Q h => ?_)
  obtain ⟨q, rfl, hz, h⟩ := h
  rw [show startD N__kind_of [q.d] = [some (q.d), none] from rfl]
  cases q with
  | lot n =>
    unfold Piece.d
    walk_at "pd"
    exact sub_refl_fin h
  | plain ms =>
    unfold Piece.d
    walk_at "pd"
    intro q hq
    refine comp_all Mark.d (fun a => .str a.w.s) (fun _ => trivial) (by have := hz ms rfl; omega) (fun a ha acc R1 k1 => ?_) ?_
    · cases a <;> unfold Mark.d <;> walk_at "pd" <;> exact k1
    · refine ⟨_, seqOf_ref mset_same, m, PD.Sub.new hq, ?_⟩
      have e : (ms.map fun a => D.str a.w.s) = (ms.map Mark.w).map fun a => D.str a.s := by rw [List.map_map]; rfl
      rw [e]; exact h
def sp_kinds_of : SpD := fun ds m Q => ∃ y : Way, ds = [y.d] ∧ y.ps.length ≤ 100 ∧ (∀ ms, Piece.plain ms ∈ y.ps → ms.length ≤ 10) ∧ Q (kindsD y.k) m
theorem ok_kinds_of  (T : Txt K mg) (G__kind_of : FnOk P w K mg base CX0 (1) T.f__kind_of T.fd__kind_of ["piece"] (spL K 1 sp__kind_of)) : FnOk P w K mg base CX0 (2) T.f_kinds_of T.fd_kinds_of ["way"] (spL K 1 sp_kinds_of) := by
  refine fn_ok T.F_kinds_of sc_kinds_of (fun cdv A outer s H E hr =>
(gss_one (gs_ret (ge_callTy call_tuple_of lc_tuple (by rfl) T.z_tuple (by decide +kernel) (ga_cons (ge_lc (own := [("piece", 1)]) rfl sc_kinds_of.nd (gi_seq (ge_ix (gv 0) ge_int)) (blkOk_by (N := N_kinds_of) (sc := defScope s_kinds_of) (by decide +kernel)) (fun _ _ _ _ _ => (gg_name (i := 1) sc_kinds_of.nd rfl (.inl rfl))) (fun _ _ _ _ _ => gts_nil) (fun _ _ _ _ _ => (ge_call G__kind_of (hr.mono (by omega)) (by rfl) T.g__kind_of T.F__kind_of.kp T.b__kind_of (ga_cons (gv 1) ga_nil))) (by decide)) ga_nil))))) (fun ds m Q h => ?_)
  obtain ⟨y, rfl, hz, hz2, h⟩ := h
  rw [show startD N_kinds_of [y.d] = [some (y.d), none] from rfl]
  unfold Way.d
  walk_at "pd"
  intro q hq
  refine comp_all Piece.d (fun a => kindD a.k) (fun _ => trivial) (by omega) (fun a ha acc R1 k1 => ?_) ?_
  · walk_at "pd"
    exact ⟨a, rfl, fun ms e => hz2 ms (e ▸ ha), k1⟩
  · refine ⟨_, seqOf_ref mset_same, m, PD.Sub.new hq, ?_⟩
    unfold kindsD Way.k at h
    rw [List.map_map] at h
    exact h
def sp__refs_to : SpD := fun ds m Q => ∃ (ks : List Knd) (ws : List D) (S : MW → Bool), ds = [kindsD ks, .tup ws] ∧ ws.all flatD = true ∧ (∀ a : MW, inF (.str a.s) ws = S a) ∧ ks.length ≤ 100 ∧ (∀ k, some k ∈ ks → k.length ≤ 10) ∧ Q (.tup ((refsTo S ks).map refD)) m
theorem ok__refs_to  (T : Txt K mg)  : FnOk P w K mg base CX0 (1) T.f__refs_to T.fd__refs_to ["kinds", "words"] (spL K 2 sp__refs_to) := by
  refine fn_ok T.F__refs_to sc__refs_to (fun cdv A outer s H E hr =>
(gss_cons (gs_set (i := 2) sc__refs_to.nd rfl (.inl rfl) (ge_lst ga_nil))
 (gss_cons (gs_for PassesOwn.never rfl (gi_enum (by rfl) T.z_enumerate (ga_cons (gv 0) ga_nil)) (gg_tup (n := 2) rfl (ggs_cons (gg_name (i := 3) sc__refs_to.nd rfl (.inr rfl)) (ggs_cons (gg_name (i := 4) sc__refs_to.nd rfl (.inl rfl)) ggs_nil)))
 (gss_one (gs_if (gt_cmpR (op_neS hr.units) lr_ne (gv 4) ge_str (nomark _))
 (gss_one (gs_expr (ge_bm PySem.F.slot_list_extend PySem.F.type_list_extend mt_extendU lm_extend (gv 2) (ga_cons (ge_lc (own := [("row", 5), ("word", 6)]) rfl sc__refs_to.nd (gi_enum (by rfl) T.z_enumerate (ga_cons (gv 4) ga_nil)) (blkOk_by (N := N__refs_to) (sc := defScope s__refs_to) (by decide +kernel)) (fun _ _ _ _ _ => (gg_tup (n := 2) rfl (ggs_cons (gg_name (i := 5) sc__refs_to.nd rfl (.inl rfl)) (ggs_cons (gg_name (i := 6) sc__refs_to.nd rfl (.inl rfl)) ggs_nil)))) (fun _ _ _ _ _ => (gts_one (gt_cmpR op_inU lr_in (gv 6) (gv 1) (by rfl)))) (fun _ _ _ _ _ => (ge_tup (ga_cons (gv 3) (ga_cons (gv 5) ga_nil)))) (by decide)) ga_nil))))
 gss_nil)))
 (gss_one (gs_ret (ge_callTy call_tuple_of lc_tuple (by rfl) T.z_tuple (by decide +kernel) (ga_cons (gv 2) ga_nil))))))) (fun ds m Q h => ?_)
  obtain ⟨ks, ws, S, rfl, hf, hS, hz, hz2, h⟩ := h
  rw [show startD N__refs_to [kindsD ks, .tup ws] = [some (kindsD ks), some (.tup ws), none, none, none, none, none] from rfl]
  unfold kindsD
  walk_at "pd"
  intro q hq
  rw [enumD_map]
  refine loop_accT (m0 := m) (p := q) (fun s' => ∃ x y z u, s' = [some (.tup (ks.map kindD)), some (.tup ws), some (.ref q), x, y, z, u]) (fun p : Knd × Nat => D.tup [.int (p.2 : Int), kindD p.1]) (fun p => match p.1 with | none => [] | some ws => (refsOf p.2 S ws).map refD) (us := ks.zipIdx) (init := []) (fun _ _ => trivial) ?_ ?_ ⟨_, _, _, _, rfl⟩ (PD.Sub.new hq) mset_same
  · rintro ⟨k, i⟩ hk acc s' m' R ⟨x, y, z, u, rfl⟩ b1 b2 hz3 hR
    cases k with
    | none =>
      rw [show kindD none = D.str "lot" from rfl]
      walk_at "pd"
      simp only [List.append_nil] at hR
      exact hR _ _ ⟨_, _, _, _, rfl⟩ b1 b2
    | some k =>
      have hkl : k.length ≤ 10 := hz2 k (List.mem_of_getElem? (List.mem_zipIdx_iff_getElem?.mp hk))
      rw [show kindD (some k) = D.tup (k.map fun w => .str w.s) from rfl]
      walk_at "pd"
      refine ⟨⟨_, _, lstOf_ref b2⟩, fun q2 hq2 => ?_⟩
      have n2 : q ≠ q2 := fun e => by rw [e, hq2] at b2; cases b2
      rw [enumD_map]
      refine comp_pT (fun p : MW × Nat => D.tup [.int (p.2 : Int), .str p.1.s]) (fun p => refD (i, p.2)) (fun p => S p.1) (fun _ => trivial) (by rw [List.length_zipIdx]; omega) (fun p hp acc2 R1 R2 k1 k2 => ?_) ?_
      · walk_at "pd"
        refine ⟨hf, ?_⟩
        rw [hS]
        cases e : S p.1 with
        | true => walk_at "pd"; exact k1 e
        | false => walk_at "pd"; exact k2 e
      · refine ⟨_, _, _, lstOf_ref (by rw [mset_ne n2]; exact b2), seqW_ref mset_same, ?_, hR _ _ ⟨_, _, _, _, rfl⟩ ?_ ?_⟩
        · have h1 : (List.map (fun p : MW × Nat => refD (i, p.2)) (List.filter (fun p => S p.1) k.zipIdx)).length ≤ 10 := by
            rw [List.length_map]
            exact Nat.le_trans (List.length_filter_le _ _) (by rw [List.length_zipIdx]; exact hkl)
          have h2 : ([] ++ ks.zipIdx.flatMap fun p : Knd × Nat => match p.1 with | none => ([] : List D) | some ws => (refsOf p.2 S ws).map refD).length ≤ 100 * 10 := by
            rw [List.nil_append]
            refine Nat.le_trans (flat_le (n := 10) ?_) (by rw [List.length_zipIdx]; omega)
            rintro ⟨k', i'⟩ hk'
            cases k' with
            | none => exact Nat.zero_le _
            | some k' =>
              show ((refsOf i' S k').map refD).length ≤ 10
              rw [List.length_map]
              exact Nat.le_trans refsOf_len (hz2 k' (List.mem_of_getElem? (List.mem_zipIdx_iff_getElem?.mp hk')))
          exact Nat.le_trans (by omega : acc.length + _ ≤ 1010) (by decide)
        · exact PD.Sub.new' (PD.Sub.new' b1 (PD.Sub.free b1 hq2)) hq
        · rw [mset_same]
          congr 3
          show _ = List.map refD (refsOf i S k)
          unfold refsOf
          rw [List.map_map]
          rfl
  · rintro s' m' ⟨x, y, z, u, rfl⟩ b1 b2
    walk_at "pd"
    refine ⟨_, seqOf_ref b2, m, b1, ?_⟩
    have e : ([] ++ ks.zipIdx.flatMap fun p : Knd × Nat => match p.1 with | none => ([] : List D) | some ws => (refsOf p.2 S ws).map refD) = (refsTo S ks).map refD := by
      unfold refsTo
      rw [List.nil_append, List.map_flatMap]
      congr 1
      funext p
      cases p.1 <;> rfl
    rw [e]; exact h
def sp_sign_places : SpD := fun ds m Q => ∃ (ks : List Knd), ds = [kindsD ks] ∧ ks.length ≤ 100 ∧ (∀ k, some k ∈ ks → k.length ≤ 10) ∧ Q (.tup ((refsTo isSg ks).map refD)) m
theorem ok_sign_places  (T : Txt K mg) (G__refs_to : FnOk P w K mg base CX0 (1) T.f__refs_to T.fd__refs_to ["kinds", "words"] (spL K 2 sp__refs_to)) : FnOk P w K mg base CX0 (2) T.f_sign_places T.fd_sign_places ["kinds"] (spL K 1 sp_sign_places) := by
  refine fn_ok T.F_sign_places sc_sign_places (fun cdv A outer s H E hr =>
(gss_one (gs_ret (ge_call G__refs_to (hr.mono (by omega)) (by rfl) T.g__refs_to T.F__refs_to.kp T.b__refs_to (ga_cons (gv 0) (ga_cons (ge_tup (ga_cons ge_str ga_nil)) ga_nil)))))) (fun ds m Q h => ?_)
  obtain ⟨ks, rfl, hz, hz2, h⟩ := h
  rw [show startD N_sign_places [kindsD ks] = [some (kindsD ks)] from rfl]
  walk_at "pd"
  exact ⟨ks, _, isSg, rfl, rfl, (fun a => by cases a <;> decide), hz, hz2, sub_refl_fin h⟩
def sp_kinds_by_maker : SpD := fun ds m Q => ∃ (ws : List Way), ds = [.rol (ws.map Way.d)] ∧ ws.length ≤ 10000 ∧ (∀ y ∈ ws, y.ps.length ≤ 100 ∧ ∀ ms, Piece.plain ms ∈ y.ps → ms.length ≤ 10) ∧ Q (dicOf (sDic kindsD (kbm ws))) m
theorem ok_kinds_by_maker  (T : Txt K mg) (G_kinds_of : FnOk P w K mg base CX0 (2) T.f_kinds_of T.fd_kinds_of ["way"] (spL K 1 sp_kinds_of)) : FnOk P w K mg base CX0 (3) T.f_kinds_by_maker T.fd_kinds_by_maker ["ways"] (spL K 1 sp_kinds_by_maker) := by
  refine fn_ok T.F_kinds_by_maker sc_kinds_by_maker (fun cdv A outer s H E hr =>
(gss_cons (gs_set (i := 1) sc_kinds_by_maker.nd rfl (.inl rfl) ge_dnew)
 (gss_cons (gs_for PassesOwn.never rfl (gi_seq (gv 0)) (gg_name (i := 2) sc_kinds_by_maker.nd rfl (.inl rfl))
 (gss_one (gs_if (gt_dnotinU (lt1 hr.units) (ge_ix (gv 2) ge_int) (gv 1))
 (gss_one (gs_dput (lt1 hr.units) (gv 1) (ge_ix (gv 2) ge_int) (ge_call G_kinds_of (hr.mono (by omega)) (by rfl) T.g_kinds_of T.F_kinds_of.kp T.b_kinds_of (ga_cons (gv 2) ga_nil))))
 gss_nil)))
 (gss_one (gs_ret (ge_frzD (gv 1))))))) (fun ds m Q h => ?_)
  obtain ⟨ws, rfl, hz, hz2, h⟩ := h
  rw [show startD N_kinds_by_maker [.rol (ws.map Way.d)] = [some (.rol (ws.map Way.d)), none, none] from rfl]
  walk_at "pd"
  intro q hq
  refine loop_pre (fun pre s' m' => (∃ x, s' = [some (.rol (ws.map Way.d)), some (.ref q), x]) ∧ m' = mset m q (.dct (sDic kindsD (kbm pre)))) Way.d (fun _ _ _ _ => trivial) ?_ ?_ ⟨⟨_, rfl⟩, rfl⟩
  · rintro pre y post e s' m' R ⟨⟨x, rfl⟩, rfl⟩ hR
    have hy : y ∈ ws := by rw [e]; simp
    have ek : kbm (pre ++ [y]) = insK (kbm pre) y := by unfold kbm; rw [List.foldl_append]; rfl
    have hl : (kbm pre).length < 20000 := by
      have := foldK_len pre []
      have h2 : pre.length ≤ ws.length := by rw [e]; simp
      unfold kbm
      rw [List.length_nil] at this
      omega
    unfold Way.d
    walk_at "pd"
    refine ⟨_, dct_ref mset_same, _, rfl, ?_⟩
    rw [valD_s]
    by_cases hc : y.mr ∈ (kbm pre).map (·.1)
    · obtain ⟨ks, ev⟩ := fnd_some hc
      rw [ev]
      walk_at "pd"
      refine hR _ _ ⟨⟨_, rfl⟩, ?_⟩
      rw [ek]; unfold insK; rw [if_pos hc]
    · rw [fnd_none.mpr hc]
      walk_at "pd"
      refine ⟨y, rfl, (hz2 y hy).1, (hz2 y hy).2, ?_⟩
      walk_at "pd"
      refine ⟨q, _, _, rfl, mset_same, rfl, by rw [sDic_len]; exact Nat.lt_of_lt_of_le hl (by decide), hR _ _ ⟨⟨_, rfl⟩, ?_⟩⟩
      rw [put_new hc, mset_mset, ek]; unfold insK; rw [if_neg hc]
  · rintro s' m' ⟨⟨x, rfl⟩, rfl⟩
    walk_at "pd"
    exact ⟨q, _, rfl, mset_same, m, (PD.Sub.new hq).del hq, h⟩
end
end K29

set_option Elab.async false
set_option linter.all false
set_option maxRecDepth 100000
set_option maxHeartbeats 4000000
namespace K29
open PySem PySem.Spec PyProof.Rows L2 PD Bk
local macro_rules | `(tactic| walk_at "pd") => `(tactic| simp (config := { decide := true, maxSteps := 400000 }) only [dIZipL, dFzT, dDGetTU, dDInTU, dDGet2TU, dDcT, dDCompT, dFzT, dIsB_b, dStrI_i, dRevT, revT_tx, Bk.pd_sg, Bk.pd_rows, Bk.pd_pairs, Bk.pd_nums, Bk.pd_start, Bk.pd_lots, Bk.pd_js, Bk.pd_as, dFldO, dFldV_o, dMethO, dMethV_o, dDGetU, dDInU, dDGet2U, dDc, dDComp, dIKeys, dFrzD_v, dFrzT_v, dFrzO, dFz, dFzD, dSetF, dMakeX, dMake, dSet0, dSAdd, Bk.dMethV_bk, Bk.dFldV_bk, Bk.bk_program, Bk.bk_signs, Bk.bk_rows, Bk.bk_start, Bk.bk_ways, Bk.bk_kinds, Bk.bk_pairs, Bk.bk_numbers, Bk.bk_sorts, Bk.bk_formulas, Bk.bk_asks, Bk.bk_m1, Bk.bk_m2, Bk.bk_m3, Bk.bk_m4, Bk.bk_m5, Bk.bk_m6, Bk.bk_m7, Bk.bk_m8, Bk.bk_m9, Bk.bk_ma, Bk.bk_mb, Bk.bk_mc, Bk.atI_5, Bk.atI_6, Bk.atI_7, Bk.atI_8, dAbs_i, tx_app, tx_len, tx_emp, dIx_tx, sgn_tx, cutS_to, cutS_fr, cutS_fr1, dPar, dIRng2, dIEnumS, dIStr, dInSg, dJoin, dSlS, dUpper, dChain, dDNewT, dDGetT, dDPutT, dMin3_i, dMax3_i, dCallX, dRaise, dSeq, dSet, dAsg, dgN, dRet, dRetN, dIfS, dFor, dLoop, dDrop, dNext, dVar, dC, dNil, dCons, dOp, dUn, dTest, dTru, dAnd, dOr, dNot, dAndV, dOrV, dNotV, dIfE, dTup, dLst, dCB, dCall, dCallP, dBM, dBML, dBM0, dLc, dComp, dYes, dgTup, dgCons, dgNil, dgSub, dPart, dNoPart, dAug, dIsi, dEq, dNe, wipeD, endsOf,
  dFrz, dFrzV_i, dFrzV_s, dFrzV_b, dFrzV_n, dFrzV_t, dFrzV_l, dFrzV_r, dAddL_i, dAddL_s, dAddL_t, dAddL_rr, dAddL_rl, dAddL_lr, dAddL_ll, dMulL_i, dMulL_s, dMulL_r, dSlL_v, dSlLV_t, dSlLV_l, dSlLV_r, dMinU_1, dMinU_2, dSumL_1, dSetTx_1, dIx_l, dLen_l, dInG_l, truD_rol, tyD_rol, dInt1_b, dISeqV_l, dLtS_i, dLtS_s, ltP_i, ltP_s, lsq_rol, dDNew, dDGet, dDGet2, dDSetd, dDPut, dSub_i, dInt2_i, dNeg_i, dCmp_i, dIsN_n, dNotN_n, dInG_t, dInG_r, dIx_t, dIx_r, dLen_s, dLen_t, dLen_r, dTuple_1, dList_1, dInt1_i, dRev_v, dRevV_t, dRevV_r, dISeq_v, dISeqV_t, dISeqV_r, dIEnum_v, dIEnumV_t, dIEnumV_r, dPop_0, dPop_i, dAppend_1, dExtend_1, dSub3_i, dIRng1_v, dRng1V_i,
  seqOf_tup, seqOf_rol, seqW_tup, eqK_ss, eqK_ii, eqK_bb, eqK_nn, eqK_ts, eqK_st, eqK_ti, eqK_is, eqK_ns, flatD_str, flatD_int, flatD_bl, flatD_non, isT_NoneType_bool, isT_NoneType_int, isT_NoneType_str, isT_NoneType_tuple, isT_NoneType_list, isT_bool_bool, isT_bool_int, isT_bool_str, isT_bool_tuple, isT_bool_list, isT_int_bool, isT_int_int, isT_int_str, isT_int_tuple, isT_int_list, isT_str_bool, isT_str_int, isT_str_str, isT_str_tuple, isT_str_list, isT_tuple_bool, isT_tuple_int, isT_tuple_str, isT_tuple_tuple, isT_tuple_list, isT_list_bool, isT_list_int, isT_list_str, isT_list_tuple, isT_list_list, isNon_non, isNon_bl, isNon_int, isNon_str, isNon_tup, tyD_non, tyD_bl, tyD_int, tyD_str, tyD_tup, truD_bl, truD_int, truD_tup,
  atI_0, atI_1, atI_2, atI_3, atI_4, atI_m1, atI_m2, atI_m3, Option.some.injEq, exists_eq_left', exists_eq_left, beq_self_eq_true, Bool.not_true, Bool.not_false, if_true, if_false, true_and, and_true, Bool.false_eq_true, ↓reduceIte,
  List.getElem?_cons_zero, List.getElem?_cons_succ, List.set_cons_zero, List.set_cons_succ, List.map_cons, List.map_nil, List.length_cons, List.length_nil, mset_same, mset_mset, List.isEmpty_nil, List.isEmpty_cons, decide_eq_true_eq, beq_iff_eq, seqI_0, List.eraseIdx_cons_zero, List.eraseIdx_cons_succ, ixN_40, ixN_41, ixN_42, ixN_43, Nat.reduceAdd])
local macro_rules | `(tactic| walk_at "ne") => `(tactic| first | assumption | exact Ne.symm (by assumption))
local macro_rules | `(tactic| walk_at "mu") => `(tactic| first | exact mset_same | assumption | exact mset_skip (by walk_at "ne") (by walk_at "mu"))
local macro_rules | `(tactic| walk_at "go") => `(tactic| repeat (first | walk_at "pd" | refine ⟨_, seqOf_ref (by walk_at "mu"), ?_⟩ | refine ⟨⟨_, _, lstOf_ref (by walk_at "mu")⟩, ?_⟩ | refine ⟨_, _, lstOf_ref (by walk_at "mu"), ?_⟩ | refine ⟨(show CMul _ _ from Or.inr ⟨by decide, by decide⟩), ?_⟩ | refine ⟨(show CDiv _ _ from ⟨by decide, by decide⟩), ?_⟩))
local macro_rules | `(tactic| walk_at "w") => `(tactic| try walk_at "pd")
section
variable {P : Program} {w : World} {K : PySem.W.Frag} {mg : Str → Option Value} {base : Heap}
def sp_has_only : SpD := fun ds m Q => ∃ (l sg : List Nat), ds = [.str (tx l), .str (tx sg)] ∧ l.length ≤ 1000 ∧ Q (.bl (l.all fun c => decide (c ∈ sg))) m
theorem ok_has_only  (T : Txt K mg)  : FnOk P w K mg base CX0 (1) T.f_has_only T.fd_has_only ["word", "characters"] (spL K 2 sp_has_only) := by
  refine fn_ok T.F_has_only sc_has_only (fun cdv A outer s H E hr =>
(gss_one (gs_ret (ge_callB (cr_all rfl) lc_all (by rfl) T.z_all (by decide +kernel) (ga_cons (ge_lc (own := [("character", 2)]) rfl sc_has_only.nd (gi_str (gv 0)) (blkOk_by (N := N_has_only) (sc := defScope s_has_only) (by decide +kernel)) (fun _ _ _ _ _ => (gg_name (i := 2) sc_has_only.nd rfl (.inl rfl))) (fun _ _ _ _ _ => gts_nil) (fun _ _ _ _ _ => (ge_cmpR op_in_sign lr_inSg (gv 2) (gv 1) (by rfl))) (by decide)) ga_nil))))) (fun ds m Q h => ?_)
  obtain ⟨l, sg, rfl, hl, h⟩ := h
  rw [show startD N_has_only [.str (tx l), .str (tx sg)] = [some (.str (tx l)), some (.str (tx sg)), none] from rfl]
  walk_at "pd"
  intro p hp
  refine comp_all (fun c => D.str (tx [c])) (fun c => D.bl (decide (c ∈ sg))) (fun _ => trivial) (by omega) (fun c hc acc R1 k1 => ?_) ?_
  · walk_at "pd"
    refine ⟨c, tx sg, rfl, rfl, ?_⟩
    rw [cps_tx]
    exact k1
  refine ⟨p, l.map fun c => decide (c ∈ sg), rfl, by rw [List.map_map, mset_same]; rfl, ?_⟩
  have e : (l.map fun c => decide (c ∈ sg)).all id = l.all fun c => decide (c ∈ sg) := by rw [List.all_map]; rfl
  rw [e]
  exact ⟨m, .new hp, h⟩
def sp__look_list : SpX := fun ds m Q Ed => ∃ ns : List Str, ds = [.rol (ns.map .str)] ∧ ns.Nodup ∧ ns.length ≤ 1000 ∧ Q .non m
theorem ok__look_list  (T : Txt K mg)  : FnOk P w K mg base (L2.CX P w) (3) T.f__look_list T.fd__look_list ["names"] (spX K 1 sp__look_list) := by
  refine fn_okX T.F__look_list sc__look_list (fun cdv A outer s H E Ed hr tk =>
(gss_cons (gs_set (i := 1) sc__look_list.nd rfl (.inl rfl) (ge_set0P (P := P) (w := w) rfl rfl (by rfl) T.z_set))
 (gss_one (gs_for (passes_of rfl) rfl (gi_seq (gv 0)) (gg_name (i := 2) sc__look_list.nd rfl (.inl rfl))
 (gss_cons (gs_if (gt_cmpR or_sinK (lr_sin (P := P) (w := w)) (gv 2) (gv 1) (by rfl))
 (gss_one (gs_raise rfl tk T.oe_TwiceNamed T.no_TwiceNamed T.ic_TwiceNamed T.ti_TwiceNamed (T.ini_TwiceNamed) (hr.mono (by omega)) T.bi_TwiceNamed (by rfl) T.gc_TwiceNamed (ga_cons (gv 2) ga_nil) (by decide)))
 gss_nil)
 (gss_one (gs_expr (ge_saddP (P := P) (w := w) rfl rfl (gv 1) (ga_cons (gv 2) ga_nil))))))))) (fun ds m Q Ed h _ => ?_)
  obtain ⟨ns, rfl, nd, hl, h⟩ := h
  rw [show startD N__look_list [.rol (ns.map .str)] = [some (.rol (ns.map .str)), none, none] from rfl]
  walk_at "pd"
  intro q hq
  refine loop_pre (fun pre s' m' => (∃ x, s' = [some (.rol (ns.map .str)), some (.ref q), x]) ∧ m' = mset m q (.sset P w (fun j => decide (∃ n ∈ pre, j = Sum.inr n)) pre.length)) D.str (fun _ _ _ _ => trivial) ?_ ?_ ⟨⟨_, rfl⟩, ?_⟩
  · rintro pre n post e s' m' R ⟨⟨x, rfl⟩, rfl⟩ hR
    have hn : n ∉ pre := by
      rw [e, List.nodup_append] at nd
      exact fun hc => nd.2.2 _ hc _ (List.mem_cons_self ..) rfl
    have hS : (decide (∃ a ∈ pre, (Sum.inr n : Key) = Sum.inr a)) = false := decide_eq_false (by rintro ⟨a, ha, e⟩; cases e; exact hn ha)
    have hpl : pre.length < ns.length := by rw [e]; simp
    walk_at "pd"
    refine ⟨_, q, _, _, rfl, rfl, mset_same, ?_⟩
    rw [hS]
    walk_at "pd"
    refine ⟨⟨q, _, _, rfl, mset_same⟩, q, _, _, _, _, rfl, rfl, rfl, mset_same, ?_, hR _ _ ⟨⟨_, rfl⟩, ?_⟩⟩
    · exact Nat.lt_of_lt_of_le (by omega : pre.length + 1 < 1002) (by decide)
    · rw [mset_mset]
      rw [hS, if_neg (by decide), List.length_append, List.length_singleton]
      congr 2
      funext j
      rw [← Bool.decide_or]
      congr 1
      apply propext
      constructor
      · rintro (⟨a, ha, e⟩ | e)
        · exact ⟨a, by simp [ha], e⟩
        · exact ⟨n, by simp, e⟩
      · rintro ⟨a, ha, e⟩
        rcases List.mem_append.mp ha with ha | ha
        · exact .inl ⟨a, ha, e⟩
        · exact .inr (by rw [e, List.mem_singleton.mp ha])
  · rintro s' m' ⟨⟨x, rfl⟩, rfl⟩
    exact ⟨m, PD.Sub.new hq, h⟩
  · congr 2
def sp_look_names : SpX := fun ds m Q Ed => ∃ p : Prog, ds = [p.d] ∧ Good0 p ∧ Q .non m
theorem names_comp {α : Type} {f : α → D} {nm : α → Str} {us : List α} {s : Sd} {m : Mu} {p : Addr} {Q : DK} {j : Nat} (hz : us.length ≤ 1000) (hf : ∀ u ∈ us, ∀ m' (R : D → Mu → Prop), R (.str (nm u)) m' → dgN j (f u) s m' fun s2 m2 => dOp dIx (dVar j) (dC (.int 0)) s2 m2 R)
    (h : Q (.ref p) (mset m p (.lst ((us.map nm).map .str)))) : dComp (fun _ => True) (dgN j) dYes (dOp dIx (dVar j) (dC (.int 0))) p s Q (us.map f) [] (mset m p (.lst [])) := by
  refine comp_all f (fun u => .str (nm u)) (fun _ => trivial) (by omega) (fun u hu acc R1 k1 => hf u hu _ _ k1) ?_
  rw [List.map_map] at h
  exact h
theorem ok_look_names  (T : Txt K mg) (G__look_list : FnOk P w K mg base (L2.CX P w) (3) T.f__look_list T.fd__look_list ["names"] (spX K 1 sp__look_list)) : FnOk P w K mg base (L2.CX P w) (4) T.f_look_names T.fd_look_names ["program"] (spX K 1 sp_look_names) := by
  refine fn_okX T.F_look_names sc_look_names (fun cdv A outer s H E Ed hr tk =>
(gss_one (gs_for (passes_of rfl) rfl (gi_seq (ge_tup (ga_cons (ge_glb (by rfl) T.v_PAIRS) (ga_cons (ge_glb (by rfl) T.v_NUMBERS) (ga_cons (ge_glb (by rfl) T.v_LOTS) (ga_cons (ge_glb (by rfl) T.v_JUDGES) (ga_cons (ge_glb (by rfl) T.v_ASKS) ga_nil))))))) (gg_name (i := 1) sc_look_names.nd rfl (.inl rfl))
 (gss_one (gs_expr (ge_callX G__look_list tk (hr.mono (by omega)) (by rfl) T.g__look_list T.F__look_list.kp T.b__look_list (ga_cons (ge_frz (ge_lc (own := [("entry", 2)]) rfl sc_look_names.nd (gi_seq (ge_ix (gv 0) (gv 1))) (blkOk_by (N := N_look_names) (sc := defScope s_look_names) (by decide +kernel)) (fun _ _ _ _ _ => (gg_name (i := 2) sc_look_names.nd rfl (.inl rfl))) (fun _ _ _ _ _ => gts_nil) (fun _ _ _ _ _ => (ge_ix (gv 2) ge_int)) (by decide))) ga_nil))))))) (fun ds m Q Ed h _ => ?_)
  obtain ⟨p, rfl, g, h⟩ := h
  rw [show startD N_look_names [p.d] = [some (p.d), none, none] from rfl]
  unfold Prog.d
  walk_at "pd"
  intro q1 hq1
  refine names_comp (nm := fun x : Str × List (List Nat) => x.1) (by have := g.pr; omega) (fun u hu m' R k => by unfold Bk.pairD; walk_at "pd"; exact k) ?_
  refine ⟨_, mset_same, _, rfl, g.ndP, by rw [List.length_map]; have := g.pr; omega, ?_⟩
  rw [g.nn, g.nj, g.na]
  have S1 := PD.Sub.del (PD.Sub.new (o := .lst (List.map D.str (List.map (fun x : Str × List (List Nat) => x.1) p.pairs))) hq1) hq1
  generalize mdel (mset m q1 (.lst (List.map D.str (List.map (fun x : Str × List (List Nat) => x.1) p.pairs)))) q1 = m1 at *
  intro q2 hq2
  walk_at "pd"
  refine ⟨[], rfl, [], rfl, List.nodup_nil, Nat.zero_le _, ?_⟩
  have S2 := PD.Sub.del (PD.Sub.new' (o := .lst []) S1 (PD.Sub.free S1 hq2)) (PD.Sub.free S1 hq2)
  generalize mdel (mset m1 q2 (.lst [])) q2 = m2 at *
  intro q3 hq3
  refine names_comp (nm := fun x : Str × List Way => x.1) (by have := g.lt; omega) (fun u hu m' R k => by unfold lotD; walk_at "pd"; exact k) ?_
  refine ⟨_, mset_same, _, rfl, g.ndL, by rw [List.length_map]; have := g.lt; omega, ?_⟩
  have S3 := PD.Sub.del (PD.Sub.new' (o := .lst (List.map D.str (List.map (fun x : Str × List Way => x.1) p.lots))) S2 (PD.Sub.free S2 hq3)) (PD.Sub.free S2 hq3)
  generalize mdel (mset m2 q3 (.lst (List.map D.str (List.map (fun x : Str × List Way => x.1) p.lots)))) q3 = m3 at *
  intro q4 hq4
  refine ⟨[], rfl, [], rfl, List.nodup_nil, Nat.zero_le _, ?_⟩
  have S4 := PD.Sub.del (PD.Sub.new' (o := .lst []) S3 (PD.Sub.free S3 hq4)) (PD.Sub.free S3 hq4)
  generalize mdel (mset m3 q4 (.lst [])) q4 = m4 at *
  intro q5 hq5
  refine ⟨[], rfl, [], rfl, List.nodup_nil, Nat.zero_le _, ?_⟩
  have S5 := PD.Sub.del (PD.Sub.new' (o := .lst []) S4 (PD.Sub.free S4 hq5)) (PD.Sub.free S4 hq5)
  exact ⟨m, S5, h⟩
def sp__words_of : SpD := fun ds m Q => ∃ p : Prog, ds = [p.d] ∧ Good0 p ∧ Q (.rol ((p.pairs.flatMap (·.2)).map fun l => .str (tx l))) m
theorem ok__words_of  (T : Txt K mg)  : FnOk P w K mg base CX0 (1) T.f__words_of T.fd__words_of ["program"] (spL K 1 sp__words_of) := by
  refine fn_ok T.F__words_of sc__words_of (fun cdv A outer s H E hr =>
(gss_cons (gs_set (i := 1) sc__words_of.nd rfl (.inl rfl) (ge_lst ga_nil))
 (gss_cons (gs_for PassesOwn.never rfl (gi_seq (ge_ix (gv 0) (ge_glb (by rfl) T.v_PAIRS))) (gg_name (i := 2) sc__words_of.nd rfl (.inl rfl))
 (gss_one (gs_expr (ge_bm PySem.F.slot_list_extend PySem.F.type_list_extend mt_extendU lm_extend (gv 1) (ga_cons (ge_ix (gv 2) ge_int) ga_nil)))))
 (gss_cons (gs_for PassesOwn.never rfl (gi_seq (ge_ix (gv 0) (ge_glb (by rfl) T.v_NUMBERS))) (gg_name (i := 3) sc__words_of.nd rfl (.inl rfl))
 (gss_one (gs_expr (ge_bm PySem.F.slot_list_extend PySem.F.type_list_extend mt_extendU lm_extend (gv 1) (ga_cons (ge_lc (own := [("word", 4), ("integer", 5)]) rfl sc__words_of.nd (gi_seq (ge_ix (gv 3) ge_int)) (blkOk_by (N := N__words_of) (sc := defScope s__words_of) (by decide +kernel)) (fun _ _ _ _ _ => (gg_tup (n := 2) rfl (ggs_cons (gg_name (i := 4) sc__words_of.nd rfl (.inl rfl)) (ggs_cons (gg_name (i := 5) sc__words_of.nd rfl (.inl rfl)) ggs_nil)))) (fun _ _ _ _ _ => gts_nil) (fun _ _ _ _ _ => (gv 4)) (by decide)) ga_nil)))))
 (gss_one (gs_ret (ge_frz (gv 1)))))))) (fun ds m Q h => ?_)
  obtain ⟨p, rfl, g, h⟩ := h
  rw [show startD N__words_of [p.d] = [some (p.d), none, none, none, none, none] from rfl]
  unfold Prog.d
  walk_at "pd"
  intro q hq
  have hsz : (p.pairs.flatMap fun x => x.2).length ≤ 10000 := by
    have := flat_le (f := fun x : Str × List (List Nat) => x.2) (n := 100) g.wd
    have := g.pr
    omega
  have e0 : ([] ++ p.pairs.flatMap fun x : Str × List (List Nat) => x.2.map fun l => D.str (tx l)).length = (p.pairs.flatMap (·.2)).length := by rw [List.nil_append, ← List.map_flatMap, List.length_map]
  refine loop_accT (m0 := m) (p := q) (fun s' => ∃ x y z u, s' = [some p.d, some (.ref q), x, y, z, u]) Bk.pairD (fun x : Str × List (List Nat) => x.2.map fun l => .str (tx l)) (us := p.pairs) (init := []) (fun _ _ => trivial) ?_ ?_ ⟨_, _, _, _, rfl⟩ (PD.Sub.new hq) mset_same
  · rintro l hl acc s' m' R ⟨x, y, z, u, rfl⟩ b1 b2 hz2 hR
    unfold Bk.pairD wordsD
    walk_at "pd"
    refine ⟨⟨_, _, lstOf_ref b2⟩, _, _, _, lstOf_ref b2, rfl, ?_, hR _ _ ⟨_, _, _, _, rfl⟩ (PD.Sub.new' b1 hq) mset_same⟩
    rw [e0] at hz2
    exact Nat.le_trans hz2 (Nat.le_trans hsz (by decide))
  · rintro s' m' ⟨x, y, z, u, rfl⟩ b1 b2
    unfold Prog.d
    rw [g.nn]
    walk_at "pd"
    refine ⟨_, b2, m, PD.Sub.del b1 hq, ?_⟩
    rw [List.nil_append, ← List.map_flatMap]
    exact h
def sp__letters_of : SpD := fun ds m Q => ∃ p : Prog, ds = [p.d] ∧ Good p ∧ Q (.rol ((p.ways.flatMap wayLetters).map fun l => .str (tx l))) m
theorem ok__letters_of  (T : Txt K mg) (G_all_ways : FnOk P w K mg base CX0 (1) T.f_all_ways T.fd_all_ways ["program"] (spL K 1 sp_all_ways)) : FnOk P w K mg base CX0 (2) T.f__letters_of T.fd__letters_of ["program"] (spL K 1 sp__letters_of) := by
  refine fn_ok T.F__letters_of sc__letters_of (fun cdv A outer s H E hr =>
(gss_cons (gs_set (i := 1) sc__letters_of.nd rfl (.inl rfl) (ge_lst ga_nil))
 (gss_cons (gs_for PassesOwn.never rfl (gi_seq (ge_call G_all_ways (hr.mono (by omega)) (by rfl) T.g_all_ways T.F_all_ways.kp T.b_all_ways (ga_cons (gv 0) ga_nil))) (gg_name (i := 2) sc__letters_of.nd rfl (.inl rfl))
 (gss_one (gs_for PassesOwn.never rfl (gi_seq (ge_ix (gv 2) ge_int)) (gg_name (i := 3) sc__letters_of.nd rfl (.inl rfl))
 (gss_one (gs_if (gt_cmpR (op_eqS hr.units) lr_eq (ge_ix (gv 3) ge_int) ge_str (nomark _))
 (gss_one (gs_expr (ge_bm PySem.F.slot_list_extend PySem.F.type_list_extend mt_extendU lm_extend (gv 1) (ga_cons (ge_lc (own := [("mark", 4)]) rfl sc__letters_of.nd (gi_seq (ge_ix (gv 3) ge_int)) (blkOk_by (N := N__letters_of) (sc := defScope s__letters_of) (by decide +kernel)) (fun _ _ _ _ _ => (gg_name (i := 4) sc__letters_of.nd rfl (.inl rfl))) (fun _ _ _ _ _ => (gts_one (gt_cmpR (op_eqS hr.units) lr_eq (ge_ix (gv 4) ge_int) ge_str (nomark _)))) (fun _ _ _ _ _ => (ge_ix (gv 4) ge_int)) (by decide)) ga_nil))))
 gss_nil)))))
 (gss_one (gs_ret (ge_frz (gv 1))))))) (fun ds m Q h => ?_)
  obtain ⟨p, rfl, g, h⟩ := h
  have hsz := g.ll
  rw [show startD N__letters_of [p.d] = [some (p.d), none, none, none, none] from rfl]
  walk_at "pd"
  intro q hq
  refine ⟨p, rfl, g.toSizes, ?_⟩
  walk_at "pd"
  have e0 : ([] ++ p.ways.flatMap fun x => (wayLetters x).map fun l => D.str (tx l)).length = (p.ways.flatMap wayLetters).length := by rw [List.nil_append, ← List.map_flatMap, List.length_map]
  refine loop_accT (m0 := m) (p := q) (fun s' => ∃ x y z, s' = [some p.d, some (.ref q), x, y, z]) Way.d (fun x => (wayLetters x).map fun l => .str (tx l)) (us := p.ways) (init := []) (fun _ _ => trivial) ?_ ?_ ⟨_, _, _, rfl⟩ (PD.Sub.new hq) mset_same
  · rintro y hy acc s' m' R ⟨x, z, u, rfl⟩ b1 b2 hz2 hR
    rw [e0] at hz2
    unfold Way.d
    walk_at "pd"
    have e1 : ((wayLetters y).map fun l => D.str (tx l)) = y.ps.flatMap fun q => (lettersOf q).map fun l => D.str (tx l) := by unfold wayLetters; rw [List.map_flatMap]
    rw [e1] at hR hz2
    refine loop_accT (m0 := m) (p := q) (fun s' => ∃ x z, s' = [some p.d, some (.ref q), some (.tup [.str y.mr, .tup (y.ps.map Piece.d), .tup (y.ts.map Test.d)]), x, z]) Piece.d (fun x => (lettersOf x).map fun l => .str (tx l)) (us := y.ps) (init := acc) (fun _ _ => trivial) ?_ ?_ ⟨_, _, rfl⟩ b1 b2
    · rintro a ha acc2 s2 m2 R2 ⟨x2, z2, rfl⟩ c1 c2 hz3 hR2
      rw [List.length_append] at hz3
      cases a with
      | lot n =>
        unfold Piece.d
        walk_at "pd"
        simp only [lettersOf, List.map_nil, List.append_nil] at hR2
        exact hR2 _ _ ⟨_, _, rfl⟩ c1 c2
      | plain ms =>
        have hp := g.pc y hy _ ha
        unfold Piece.d
        walk_at "pd"
        refine ⟨⟨_, _, lstOf_ref c2⟩, fun q2 hq2 => ?_⟩
        have n2 : q ≠ q2 := fun e => by rw [e, hq2] at c2; cases c2
        refine comp_pT Mark.d (fun a => match a with | .sign l => .str (tx l) | _ => .non) (fun a => a.w == .sign) (fun _ => trivial) (by have := hp.1; omega) (fun a ha2 acc3 R3 R4 k1 k2 => ?_) ?_
        · cases a with
          | sign l => unfold Mark.d; walk_at "pd"; exact k1 rfl
          | none => unfold Mark.d; walk_at "pd"; exact k2 rfl
          | run lo hi => unfold Mark.d; walk_at "pd"; exact k2 rfl
        · have e2 : ∀ ms : List Mark, (List.map (fun a : Mark => match a with | .sign l => D.str (tx l) | _ => .non) (List.filter (fun a => a.w == .sign) ms)) = (lettersOf (.plain ms)).map fun l => D.str (tx l) := by
            intro ms
            unfold lettersOf
            induction ms with
            | nil => rfl
            | cons a ms ih => cases a <;> simp [Mark.w, List.filter_cons, List.filterMap_cons] at ih ⊢ <;> exact ih
          rw [e2]
          refine ⟨_, _, _, lstOf_ref (by rw [mset_ne n2]; exact c2), seqW_ref mset_same, ?_, hR2 _ _ ⟨_, _, rfl⟩ (PD.Sub.new' (PD.Sub.new' c1 (PD.Sub.free c1 hq2)) hq) mset_same⟩
          exact Nat.le_trans (by omega : _ ≤ 100000) (by decide)
    · rintro s2 m2 ⟨x2, z2, rfl⟩ c1 c2
      exact hR _ _ ⟨_, _, _, rfl⟩ c1 c2
  · rintro s' m' ⟨x, y, z, rfl⟩ b1 b2
    walk_at "pd"
    refine ⟨_, b2, m, PD.Sub.del b1 hq, ?_⟩
    rw [List.nil_append, ← List.map_flatMap]
    exact h
theorem over_all {sg l : List Nat} (h : OverSg sg l) : (l.all fun c => decide (c ∈ sg)) = true := List.all_eq_true.mpr fun c hc => decide_eq_true (h.1 c hc)
def sp_look_signs : SpX := fun ds m Q Ed => ∃ p : Prog, ds = [p.d] ∧ Good0 p ∧ Q .non m
theorem ok_look_signs  (T : Txt K mg) (G__words_of : FnOk P w K mg base CX0 (1) T.f__words_of T.fd__words_of ["program"] (spL K 1 sp__words_of)) (G__letters_of : FnOk P w K mg base CX0 (2) T.f__letters_of T.fd__letters_of ["program"] (spL K 1 sp__letters_of)) (G_has_only : FnOk P w K mg base CX0 (1) T.f_has_only T.fd_has_only ["word", "characters"] (spL K 2 sp_has_only)) : FnOk P w K mg base (L2.CX P w) (3) T.f_look_signs T.fd_look_signs ["program"] (spX K 1 sp_look_signs) := by
  refine fn_okX T.F_look_signs sc_look_signs (fun cdv A outer s H E Ed hr tk =>
(gss_one (gs_for (passes_of rfl) rfl (gi_seq (ge_op op_addL lr_addL (ge_call G__words_of (hr.mono (by omega)) (by rfl) T.g__words_of T.F__words_of.kp T.b__words_of (ga_cons (gv 0) ga_nil)) (ge_call G__letters_of (hr.mono (by omega)) (by rfl) T.g__letters_of T.F__letters_of.kp T.b__letters_of (ga_cons (gv 0) ga_nil)))) (gg_name (i := 1) sc_look_signs.nd rfl (.inl rfl))
 (gss_one (gs_if (gt_not (gt_val (ge_call G_has_only (hr.mono (by omega)) (by rfl) T.g_has_only T.F_has_only.kp T.b_has_only (ga_cons (gv 1) (ga_cons (ge_ix (gv 0) (ge_glb (by rfl) T.v_SIGNS)) ga_nil)))))
 (gss_one (gs_raise rfl tk T.oe_BadSign T.no_BadSign T.ic_BadSign T.ti_BadSign (T.ini_BadSign) (hr.mono (by omega)) T.bi_BadSign (by rfl) T.gc_BadSign (ga_cons (gv 1) ga_nil) (by decide)))
 gss_nil))))) (fun ds m Q Ed h _ => ?_)
  obtain ⟨p, rfl, g, h⟩ := h
  rw [show startD N_look_signs [p.d] = [some (p.d), none] from rfl]
  walk_at "pd"
  refine ⟨p, rfl, g, ?_⟩
  walk_at "pd"
  refine ⟨p, rfl, g.toGood, ?_⟩
  walk_at "pd"
  have h1 : (p.pairs.flatMap (·.2)).length ≤ 10000 := by
    have := flat_le (f := fun x : Str × List (List Nat) => x.2) (n := 100) g.wd
    have := g.pr
    omega
  have h2 := g.ll
  refine ⟨_, _, rfl, rfl, by rw [List.length_map, List.length_map]; exact Nat.le_trans (Nat.add_le_add h1 h2) (by decide), fun q hq => ⟨_, seqOf_ref mset_same, ?_⟩⟩
  rw [← List.map_append]
  refine loop_chk (m := mset m q _) (fun s' => ∃ x, s' = [some p.d, x]) (fun l : List Nat => D.str (tx l)) (seqOf_ref mset_same) ?_ ?_ ⟨_, rfl⟩
  · rintro l hl s' R ⟨x, rfl⟩ hR
    have hov : OverSg p.sg l := by
      rcases List.mem_append.mp hl with hl | hl
      · obtain ⟨x, hx, hl⟩ := List.mem_flatMap.mp hl
        exact g.wp x hx l hl
      · obtain ⟨y, hy, hl⟩ := List.mem_flatMap.mp hl
        obtain ⟨a, ha, hl⟩ := List.mem_flatMap.mp hl
        have := g.pc y hy a ha
        cases a with
        | lot n => exact (List.not_mem_nil hl).elim
        | plain ms =>
          obtain ⟨mk, hm, he⟩ := List.mem_filterMap.mp hl
          cases mk with
          | sign l' => cases he; exact this.2 l hm
          | none => cases he
          | run lo hi => cases he
    walk_at "pd"
    refine ⟨l, p.sg, rfl, hov.2, ?_⟩
    rw [over_all hov]
    walk_at "pd"
    exact hR _ ⟨_, rfl⟩
  · rintro s' ⟨x, rfl⟩
    exact ⟨m, PD.Sub.new hq, h⟩
def sp__look_name : SpX := fun ds m Q Ed => ∃ (n : Str) (ns : List Str), ds = [.str n, .rol (ns.map .str)] ∧ n ∈ ns ∧ Q .non m
theorem inF_s {n : Str} : ∀ {ns : List Str}, inF (.str n) (ns.map D.str) = decide (n ∈ ns)
  | [] => by unfold inF; rw [List.map_nil]; simp
  | x :: ns => by
    have ih := inF_s (n := n) (ns := ns)
    unfold inF at ih ⊢
    rw [List.map_cons, List.any_cons, ih]
    by_cases h : x = n
    · subst h; simp [eqF]
    · have : eqF (.str x) (.str n) = false := by simp [eqF, h]
      rw [this, Bool.false_or]
      simp [Ne.symm h]
theorem flat_s {ns : List Str} : (ns.map D.str).all flatD = true := by rw [List.all_map]; exact List.all_eq_true.mpr fun _ _ => rfl
theorem ok__look_name  (T : Txt K mg)  : FnOk P w K mg base (L2.CX P w) (3) T.f__look_name T.fd__look_name ["name", "names"] (spX K 2 sp__look_name) := by
  refine fn_okX T.F__look_name sc__look_name (fun cdv A outer s H E Ed hr tk =>
(gss_one (gs_if (gt_cmpR op_notInU lr_notIn (gv 0) (gv 1) (by rfl))
 (gss_one (gs_raise rfl tk T.oe_NoName T.no_NoName T.ic_NoName T.ti_NoName (T.ini_NoName) (hr.mono (by omega)) T.bi_NoName (by rfl) T.gc_NoName (ga_cons (gv 0) ga_nil) (by decide)))
 gss_nil))) (fun ds m Q Ed h _ => ?_)
  obtain ⟨n, ns, rfl, hn, h⟩ := h
  rw [show startD N__look_name [.str n, .rol (ns.map .str)] = [some (.str n), some (.rol (ns.map .str))] from rfl]
  walk_at "pd"
  refine ⟨flat_s, ?_⟩
  rw [inF_s, decide_eq_true hn]
  walk_at "pd"
  exact sub_refl_fin h
end
end K29

set_option Elab.async false
set_option linter.all false
set_option maxRecDepth 100000
set_option maxHeartbeats 4000000
namespace K29
open PySem PySem.Spec PyProof.Rows L2 PD Bk
local macro_rules | `(tactic| walk_at "pd") => `(tactic| simp (config := { decide := true, maxSteps := 400000 }) only [dIZipL, dFzT, dDGetTU, dDInTU, dDGet2TU, dDcT, dDCompT, dFzT, dIsB_b, dStrI_i, dRevT, revT_tx, Bk.pd_sg, Bk.pd_rows, Bk.pd_pairs, Bk.pd_nums, Bk.pd_start, Bk.pd_lots, Bk.pd_js, Bk.pd_as, dFldO, dFldV_o, dMethO, dMethV_o, dDGetU, dDInU, dDGet2U, dDc, dDComp, dIKeys, dFrzD_v, dFrzT_v, dFrzO, dFz, dFzD, dSetF, dMakeX, dMake, dSet0, dSAdd, Bk.dMethV_bk, Bk.dFldV_bk, Bk.bk_program, Bk.bk_signs, Bk.bk_rows, Bk.bk_start, Bk.bk_ways, Bk.bk_kinds, Bk.bk_pairs, Bk.bk_numbers, Bk.bk_sorts, Bk.bk_formulas, Bk.bk_asks, Bk.bk_m1, Bk.bk_m2, Bk.bk_m3, Bk.bk_m4, Bk.bk_m5, Bk.bk_m6, Bk.bk_m7, Bk.bk_m8, Bk.bk_m9, Bk.bk_ma, Bk.bk_mb, Bk.bk_mc, Bk.atI_5, Bk.atI_6, Bk.atI_7, Bk.atI_8, dAbs_i, tx_app, tx_len, tx_emp, dIx_tx, sgn_tx, cutS_to, cutS_fr, cutS_fr1, dPar, dIRng2, dIEnumS, dIStr, dInSg, dJoin, dSlS, dUpper, dChain, dDNewT, dDGetT, dDPutT, dMin3_i, dMax3_i, dCallX, dRaise, dSeq, dSet, dAsg, dgN, dRet, dRetN, dIfS, dFor, dLoop, dDrop, dNext, dVar, dC, dNil, dCons, dOp, dUn, dTest, dTru, dAnd, dOr, dNot, dAndV, dOrV, dNotV, dIfE, dTup, dLst, dCB, dCall, dCallP, dBM, dBML, dBM0, dLc, dComp, dYes, dgTup, dgCons, dgNil, dgSub, dPart, dNoPart, dAug, dIsi, dEq, dNe, wipeD, endsOf,
  dFrz, dFrzV_i, dFrzV_s, dFrzV_b, dFrzV_n, dFrzV_t, dFrzV_l, dFrzV_r, dAddL_i, dAddL_s, dAddL_t, dAddL_rr, dAddL_rl, dAddL_lr, dAddL_ll, dMulL_i, dMulL_s, dMulL_r, dSlL_v, dSlLV_t, dSlLV_l, dSlLV_r, dMinU_1, dMinU_2, dSumL_1, dSetTx_1, dIx_l, dLen_l, dInG_l, truD_rol, tyD_rol, dInt1_b, dISeqV_l, dLtS_i, dLtS_s, ltP_i, ltP_s, lsq_rol, dDNew, dDGet, dDGet2, dDSetd, dDPut, dSub_i, dInt2_i, dNeg_i, dCmp_i, dIsN_n, dNotN_n, dInG_t, dInG_r, dIx_t, dIx_r, dLen_s, dLen_t, dLen_r, dTuple_1, dList_1, dInt1_i, dRev_v, dRevV_t, dRevV_r, dISeq_v, dISeqV_t, dISeqV_r, dIEnum_v, dIEnumV_t, dIEnumV_r, dPop_0, dPop_i, dAppend_1, dExtend_1, dSub3_i, dIRng1_v, dRng1V_i,
  seqOf_tup, seqOf_rol, seqW_tup, eqK_ss, eqK_ii, eqK_bb, eqK_nn, eqK_ts, eqK_st, eqK_ti, eqK_is, eqK_ns, flatD_str, flatD_int, flatD_bl, flatD_non, isT_NoneType_bool, isT_NoneType_int, isT_NoneType_str, isT_NoneType_tuple, isT_NoneType_list, isT_bool_bool, isT_bool_int, isT_bool_str, isT_bool_tuple, isT_bool_list, isT_int_bool, isT_int_int, isT_int_str, isT_int_tuple, isT_int_list, isT_str_bool, isT_str_int, isT_str_str, isT_str_tuple, isT_str_list, isT_tuple_bool, isT_tuple_int, isT_tuple_str, isT_tuple_tuple, isT_tuple_list, isT_list_bool, isT_list_int, isT_list_str, isT_list_tuple, isT_list_list, isNon_non, isNon_bl, isNon_int, isNon_str, isNon_tup, tyD_non, tyD_bl, tyD_int, tyD_str, tyD_tup, truD_bl, truD_int, truD_tup,
  atI_0, atI_1, atI_2, atI_3, atI_4, atI_m1, atI_m2, atI_m3, Option.some.injEq, exists_eq_left', exists_eq_left, beq_self_eq_true, Bool.not_true, Bool.not_false, if_true, if_false, true_and, and_true, Bool.false_eq_true, ↓reduceIte,
  List.getElem?_cons_zero, List.getElem?_cons_succ, List.set_cons_zero, List.set_cons_succ, List.map_cons, List.map_nil, List.length_cons, List.length_nil, mset_same, mset_mset, List.isEmpty_nil, List.isEmpty_cons, decide_eq_true_eq, beq_iff_eq, seqI_0, List.eraseIdx_cons_zero, List.eraseIdx_cons_succ, ixN_40, ixN_41, ixN_42, ixN_43, Nat.reduceAdd])
local macro_rules | `(tactic| walk_at "ne") => `(tactic| first | assumption | exact Ne.symm (by assumption))
local macro_rules | `(tactic| walk_at "mu") => `(tactic| first | exact mset_same | assumption | exact mset_skip (by walk_at "ne") (by walk_at "mu"))
local macro_rules | `(tactic| walk_at "go") => `(tactic| repeat (first | walk_at "pd" | refine ⟨_, seqOf_ref (by walk_at "mu"), ?_⟩ | refine ⟨⟨_, _, lstOf_ref (by walk_at "mu")⟩, ?_⟩ | refine ⟨_, _, lstOf_ref (by walk_at "mu"), ?_⟩ | refine ⟨(show CMul _ _ from Or.inr ⟨by decide, by decide⟩), ?_⟩ | refine ⟨(show CDiv _ _ from ⟨by decide, by decide⟩), ?_⟩))
local macro_rules | `(tactic| walk_at "w") => `(tactic| try walk_at "pd")
section
variable {P : Program} {w : World} {K : PySem.W.Frag} {mg : Str → Option Value} {base : Heap}
def sp_look_mentions : SpX := fun ds m Q Ed => ∃ p : Prog, ds = [p.d] ∧ Good p ∧ Q .non m
theorem ok_look_mentions  (T : Txt K mg) (G_all_ways : FnOk P w K mg base CX0 (1) T.f_all_ways T.fd_all_ways ["program"] (spL K 1 sp_all_ways)) (G__look_name : FnOk P w K mg base (L2.CX P w) (3) T.f__look_name T.fd__look_name ["name", "names"] (spX K 2 sp__look_name)) : FnOk P w K mg base (L2.CX P w) (4) T.f_look_mentions T.fd_look_mentions ["program"] (spX K 1 sp_look_mentions) := by
  refine fn_okX T.F_look_mentions sc_look_mentions (fun cdv A outer s H E Ed hr tk =>
(gss_cons (gs_fz 1 (gs_setLc (i := 1) (own := [("lot", 8)]) rfl sc_look_mentions.nd rfl rfl (sw_true rfl rfl rfl (by decide +kernel)) (gi_seq (ge_ix (gv 0) (ge_glb (by rfl) T.v_LOTS))) (blkOk_by (N := N_look_mentions) (sc := defScope s_look_mentions) (by decide +kernel)) (fun _ _ _ _ _ => (gg_name (i := 8) sc_look_mentions.nd rfl (.inl rfl))) (fun _ _ _ _ _ => gts_nil) (fun _ _ _ _ _ => (ge_ix (gv 8) ge_int)) (by decide)))
 (gss_cons (gs_fz 2 (gs_setLc (i := 2) (own := [("pair", 9)]) rfl sc_look_mentions.nd rfl rfl (sw_true rfl rfl rfl (by decide +kernel)) (gi_seq (ge_ix (gv 0) (ge_glb (by rfl) T.v_PAIRS))) (blkOk_by (N := N_look_mentions) (sc := defScope s_look_mentions) (by decide +kernel)) (fun _ _ _ _ _ => (gg_name (i := 9) sc_look_mentions.nd rfl (.inl rfl))) (fun _ _ _ _ _ => gts_nil) (fun _ _ _ _ _ => (ge_ix (gv 9) ge_int)) (by decide)))
 (gss_cons (gs_expr (ge_callX G__look_name tk (hr.mono (by omega)) (by rfl) T.g__look_name T.F__look_name.kp T.b__look_name (ga_cons (ge_ix (gv 0) (ge_glb (by rfl) T.v_START)) (ga_cons (ge_frz (gv 1)) ga_nil))))
 (gss_one (gs_for (passes_of rfl) rfl (gi_seq (ge_call G_all_ways (hr.mono (by omega)) (by rfl) T.g_all_ways T.F_all_ways.kp T.b_all_ways (ga_cons (gv 0) ga_nil))) (gg_tup (n := 3) rfl (ggs_cons (gg_name (i := 3) sc_look_mentions.nd rfl (.inl rfl)) (ggs_cons (gg_name (i := 4) sc_look_mentions.nd rfl (.inl rfl)) (ggs_cons (gg_name (i := 5) sc_look_mentions.nd rfl (.inl rfl)) ggs_nil))))
 (gss_cons (gs_for (passes_of rfl) rfl (gi_seq (gv 4)) (gg_name (i := 6) sc_look_mentions.nd rfl (.inl rfl))
 (gss_one (gs_if (gt_cmpR (op_eqS hr.units) lr_eq (ge_ix (gv 6) ge_int) ge_str (nomark _))
 (gss_one (gs_expr (ge_callX G__look_name tk (hr.mono (by omega)) (by rfl) T.g__look_name T.F__look_name.kp T.b__look_name (ga_cons (ge_ix (gv 6) ge_int) (ga_cons (ge_frz (gv 1)) ga_nil)))))
 gss_nil)))
 (gss_one (gs_for (passes_of rfl) rfl (gi_seq (gv 5)) (gg_name (i := 7) sc_look_mentions.nd rfl (.inl rfl))
 (gss_one (gs_expr (ge_callX G__look_name tk (hr.mono (by omega)) (by rfl) T.g__look_name T.F__look_name.kp T.b__look_name (ga_cons (ge_ix (gv 7) ge_int) (ga_cons (ge_frz (gv 2)) ga_nil)))))))))))))) (fun ds m Q Ed h _ => ?_)
  obtain ⟨p, rfl, g, h⟩ := h
  rw [show startD N_look_mentions [p.d] = [some (p.d), none, none, none, none, none, none, none, none, none] from rfl]
  unfold Prog.d
  walk_at "pd"
  intro q1 hq1
  refine names_comp (nm := fun x : Str × List Way => x.1) (by have := g.lt; omega) (fun u hu m' R k => by unfold lotD; walk_at "pd"; exact k) ?_
  refine ⟨q1, _, rfl, mset_same, ?_⟩
  have S1 := PD.Sub.del (PD.Sub.new (o := .lst (List.map D.str (List.map (fun x : Str × List Way => x.1) p.lots))) hq1) hq1
  generalize mdel (mset m q1 (.lst (List.map D.str (List.map (fun x : Str × List Way => x.1) p.lots)))) q1 = m1 at *
  intro q2 hq2
  refine names_comp (nm := fun x : Str × List (List Nat) => x.1) (by have := g.pr; omega) (fun u hu m' R k => by unfold Bk.pairD; walk_at "pd"; exact k) ?_
  refine ⟨q2, _, rfl, mset_same, ?_⟩
  have S2 := PD.Sub.del (PD.Sub.new' (o := .lst (List.map D.str (List.map (fun x : Str × List (List Nat) => x.1) p.pairs))) S1 (PD.Sub.free S1 hq2)) (PD.Sub.free S1 hq2)
  generalize mdel (mset m1 q2 (.lst (List.map D.str (List.map (fun x : Str × List (List Nat) => x.1) p.pairs)))) q2 = m2 at *
  refine ⟨_, _, rfl, g.st, ?_⟩
  refine ⟨p, rfl, g.toSizes, ?_⟩
  walk_at "pd"
  have eD : D.tup [.str "program", .str (tx p.sg), .int (p.rows : Int), .tup (p.pairs.map Bk.pairD), .tup p.nums, .str p.start, .tup (p.lots.map lotD), .tup p.js, .tup p.as] = p.d := rfl
  rw [eD]
  refine loop_chk (m := m2) (fun s' => ∃ a b c x y z u, s' = [some p.d, some (.rol (List.map D.str (List.map (fun x : Str × List Way => x.1) p.lots))), some (.rol (List.map D.str (List.map (fun x : Str × List (List Nat) => x.1) p.pairs))), a, b, c, x, y, z, u]) Way.d trivial ?_ ?_ ⟨_, _, _, _, _, _, _, rfl⟩
  · rintro y hy s' R ⟨a, b, c, x, z, u, v, rfl⟩ hR
    unfold Way.d
    walk_at "pd"
    refine loop_chk (m := m2) (fun s' => ∃ a1 c1 x1 z1 u1, s' = [some p.d, some (.rol (List.map D.str (List.map (fun x : Str × List Way => x.1) p.lots))), some (.rol (List.map D.str (List.map (fun x : Str × List (List Nat) => x.1) p.pairs))), a1, some (.tup (List.map Piece.d y.ps)), some (.tup (List.map Test.d y.ts)), c1, x1, z1, u1]) Piece.d trivial ?_ ?_ ⟨_, _, _, _, _, rfl⟩
    · rintro a ha s2 R2 ⟨a', c', x', z', u', rfl⟩ hR2
      have hp := g.pc y hy a ha
      cases a with
      | lot n =>
        unfold Piece.d
        walk_at "pd"
        exact ⟨_, _, rfl, hp, hR2 _ ⟨_, _, _, _, _, rfl⟩⟩
      | plain ms =>
        unfold Piece.d
        walk_at "pd"
        exact hR2 _ ⟨_, _, _, _, _, rfl⟩
    · rintro s2 ⟨a', c', x', z', u', rfl⟩
      walk_at "pd"
      refine loop_chk (m := m2) (fun s' => ∃ a b c x y z u, s' = [some p.d, some (.rol (List.map D.str (List.map (fun x : Str × List Way => x.1) p.lots))), some (.rol (List.map D.str (List.map (fun x : Str × List (List Nat) => x.1) p.pairs))), a, b, c, x, y, z, u]) Test.d trivial ?_ ?_ ⟨_, _, _, _, _, _, _, rfl⟩
      · rintro t ht s3 R3 ⟨a3, b3, c3, x3, y3, z3, u3, rfl⟩ hR3
        unfold Test.d
        walk_at "pd"
        exact ⟨_, _, rfl, (g.ts y hy t ht).1, hR3 _ ⟨_, _, _, _, _, _, _, rfl⟩⟩
      · rintro s3 ⟨a3, b3, c3, x3, y3, z3, u3, rfl⟩
        exact hR _ ⟨_, _, _, _, _, _, _, rfl⟩
  · rintro s' ⟨a, b, c, x, y, z, u, rfl⟩
    exact ⟨m, S2, h⟩
theorem mw_inj : ∀ {a b : MW}, a.s = b.s → a = b := by
  intro a b h
  cases a <;> cases b <;> first | rfl | exact absurd h (by decide)
theorem kindD_inj {a b : Knd} (h : kindD a = kindD b) : a = b := by
  cases a with
  | none => cases b with
    | none => rfl
    | some b => cases h
  | some a => cases b with
    | none => cases h
    | some b =>
      unfold kindD at h
      injection h with h
      congr 1
      induction a generalizing b with
      | nil => cases b with
        | nil => rfl
        | cons => cases h
      | cons x a ih => cases b with
        | nil => cases h
        | cons y b =>
          simp only [List.map_cons, List.cons.injEq, D.str.injEq] at h
          rw [mw_inj h.1, ih b h.2]
theorem kinds_pln (ks : List Knd) : pln (kindsD ks) = true ∧ sok (kindsD ks) = true ∧ dep (kindsD ks) ≤ 2 := by
  have h1 : ∀ k : Knd, pln (kindD k) = true ∧ sok (kindD k) = true ∧ dep (kindD k) ≤ 1 := by
    intro k
    cases k with
    | none => exact ⟨rfl, by decide +kernel, by decide⟩
    | some ws =>
      refine ⟨?_, ?_, ?_⟩
      · show plns (ws.map fun w => D.str w.s) = true
        rw [plns_iff]
        intro d hd
        obtain ⟨a, _, rfl⟩ := List.mem_map.mp hd
        rfl
      · show soks (ws.map fun w => D.str w.s) = true
        rw [soks_iff]
        intro d hd
        obtain ⟨a, _, rfl⟩ := List.mem_map.mp hd
        cases a <;> decide +kernel
      · show deps (ws.map fun w => D.str w.s) + 1 ≤ 1
        have : deps (ws.map fun w => D.str w.s) ≤ 0 := by
          rw [deps_le]
          intro d hd
          obtain ⟨a, _, rfl⟩ := List.mem_map.mp hd
          exact Nat.le_refl _
        omega
  refine ⟨?_, ?_, ?_⟩
  · show plns (ks.map kindD) = true
    rw [plns_iff]
    intro d hd
    obtain ⟨a, _, rfl⟩ := List.mem_map.mp hd
    exact (h1 a).1
  · show soks (ks.map kindD) = true
    rw [soks_iff]
    intro d hd
    obtain ⟨a, _, rfl⟩ := List.mem_map.mp hd
    exact (h1 a).2.1
  · show deps (ks.map kindD) + 1 ≤ 2
    have : deps (ks.map kindD) ≤ 1 := by
      rw [deps_le]
      intro d hd
      obtain ⟨a, _, rfl⟩ := List.mem_map.mp hd
      exact (h1 a).2.2
    omega
theorem way_ok {p : Prog} (g : Good p) {y : Way} (hy : y ∈ p.ways) : y.ps.length ≤ 100 ∧ ∀ ms, Piece.plain ms ∈ y.ps → ms.length ≤ 10 := ⟨(g.wy y hy).1, fun ms hm => (g.pc y hy _ hm).1⟩
def sp_look_makers : SpX := fun ds m Q Ed => ∃ p : Prog, ds = [p.d] ∧ Good p ∧ Q .non m
theorem ok_look_makers  (T : Txt K mg) (G_kinds_of : FnOk P w K mg base CX0 (2) T.f_kinds_of T.fd_kinds_of ["way"] (spL K 1 sp_kinds_of)) (G_kinds_by_maker : FnOk P w K mg base CX0 (3) T.f_kinds_by_maker T.fd_kinds_by_maker ["ways"] (spL K 1 sp_kinds_by_maker)) (G_all_ways : FnOk P w K mg base CX0 (1) T.f_all_ways T.fd_all_ways ["program"] (spL K 1 sp_all_ways)) : FnOk P w K mg base (L2.CX P w) (4) T.f_look_makers T.fd_look_makers ["program"] (spX K 1 sp_look_makers) := by
  refine fn_okX T.F_look_makers sc_look_makers (fun cdv A outer s H E Ed hr tk =>
(gss_cons (gs_set (i := 1) sc_look_makers.nd rfl (.inl rfl) (ge_call G_all_ways (hr.mono (by omega)) (by rfl) T.g_all_ways T.F_all_ways.kp T.b_all_ways (ga_cons (gv 0) ga_nil)))
 (gss_cons (gs_set (i := 2) sc_look_makers.nd rfl (.inl rfl) (ge_call G_kinds_by_maker (hr.mono (by omega)) (by rfl) T.g_kinds_by_maker T.F_kinds_by_maker.kp T.b_kinds_by_maker (ga_cons (gv 1) ga_nil)))
 (gss_one (gs_for (passes_of rfl) rfl (gi_seq (gv 1)) (gg_name (i := 3) sc_look_makers.nd rfl (.inl rfl))
 (gss_one (gs_if (gt_cmpR (op_neS hr.units) lr_ne (ge_call G_kinds_of (hr.mono (by omega)) (by rfl) T.g_kinds_of T.F_kinds_of.kp T.b_kinds_of (ga_cons (gv 3) ga_nil)) (ge_dgetU (lt1 hr.units) (gv 2) (ge_ix (gv 3) ge_int) (fun _ _ => rfl)) (nomark _))
 (gss_one (gs_raise rfl tk T.oe_BadMaker T.no_BadMaker T.ic_BadMaker T.ti_BadMaker (T.ini_BadMaker) (hr.mono (by omega)) T.bi_BadMaker (by rfl) T.gc_BadMaker (ga_cons (ge_ix (gv 3) ge_int) ga_nil) (by decide)))
 gss_nil))))))) (fun ds m Q Ed h _ => ?_)
  obtain ⟨p, rfl, g, h⟩ := h
  rw [show startD N_look_makers [p.d] = [some (p.d), none, none, none] from rfl]
  walk_at "pd"
  refine ⟨p, rfl, g.toSizes, ?_⟩
  walk_at "pd"
  refine ⟨p.ways, rfl, g.ways, fun y hy => way_ok g hy, ?_⟩
  walk_at "pd"
  refine loop_chk (m := m) (fun s' => ∃ x, s' = [some p.d, some (.rol (p.ways.map Way.d)), some (dicOf (sDic kindsD (kbm p.ways))), x]) Way.d trivial ?_ ?_ ⟨_, rfl⟩
  · rintro y hy s' R ⟨x, rfl⟩ hR
    obtain ⟨v, hv, e1, e2⟩ := kbm_fnd hy
    have ek : v.k = y.k := g.mkk v hv y hy e1
    walk_at "pd"
    refine ⟨y, rfl, (way_ok g hy).1, (way_ok g hy).2, ?_⟩
    unfold Way.d
    walk_at "pd"
    refine ⟨_, dct_dic, _, rfl, _, by rw [valD_s, e2]; rfl, ?_⟩
    rw [ek]
    obtain ⟨k1, k2, k3⟩ := kinds_pln y.k
    refine ⟨_, eqK_yes m k1 k2 (by omega), ?_⟩
    walk_at "pd"
    exact hR _ ⟨_, rfl⟩
  · rintro s' ⟨x, rfl⟩
    exact sub_refl_fin h
theorem refD_inj {a b : Ref} (h : refD a = refD b) : a = b := by
  unfold refD at h
  injection h with h
  injection h with h1 h2
  injection h2 with h2 _
  injection h1 with h1
  injection h2 with h2
  exact Prod.ext (by omega) (by omega)
theorem ref_pln (a : Ref) : pln (refD a) = true := rfl
theorem ref_dep (a : Ref) : dep (refD a) ≤ 60 := by simp [refD, dep, deps]
theorem refs_pln (l : List Ref) : plns (l.map refD) = true := by
  rw [plns_iff]
  intro d hd
  obtain ⟨a, _, rfl⟩ := List.mem_map.mp hd
  rfl
theorem inP_ref {a : Ref} {l : List Ref} : inP (refD a) (l.map refD) = decide (a ∈ l) := by
  rw [Bool.eq_iff_iff, inP_iff (ref_pln a) (refs_pln l), decide_eq_true_eq, List.mem_map]
  exact ⟨fun ⟨b, hb, e⟩ => refD_inj e ▸ hb, fun h => ⟨a, h, rfl⟩⟩
def sp_look_tests : SpX := fun ds m Q Ed => ∃ p : Prog, ds = [p.d] ∧ Good p ∧ Q .non m
theorem ok_look_tests  (T : Txt K mg) (G_all_ways : FnOk P w K mg base CX0 (1) T.f_all_ways T.fd_all_ways ["program"] (spL K 1 sp_all_ways)) (G_sign_places : FnOk P w K mg base CX0 (2) T.f_sign_places T.fd_sign_places ["kinds"] (spL K 1 sp_sign_places)) (G_kinds_of : FnOk P w K mg base CX0 (2) T.f_kinds_of T.fd_kinds_of ["way"] (spL K 1 sp_kinds_of)) : FnOk P w K mg base (L2.CX P w) (4) T.f_look_tests T.fd_look_tests ["program"] (spX K 1 sp_look_tests) := by
  refine fn_okX T.F_look_tests sc_look_tests (fun cdv A outer s H E Ed hr tk =>
(gss_one (gs_for (passes_of rfl) rfl (gi_seq (ge_call G_all_ways (hr.mono (by omega)) (by rfl) T.g_all_ways T.F_all_ways.kp T.b_all_ways (ga_cons (gv 0) ga_nil))) (gg_name (i := 1) sc_look_tests.nd rfl (.inl rfl))
 (gss_cons (gs_set (i := 2) sc_look_tests.nd rfl (.inl rfl) (ge_call G_sign_places (hr.mono (by omega)) (by rfl) T.g_sign_places T.F_sign_places.kp T.b_sign_places (ga_cons (ge_call G_kinds_of (hr.mono (by omega)) (by rfl) T.g_kinds_of T.F_kinds_of.kp T.b_kinds_of (ga_cons (gv 1) ga_nil)) ga_nil)))
 (gss_one (gs_for (passes_of rfl) rfl (gi_seq (ge_ix (gv 1) ge_int)) (gg_tup (n := 3) rfl (ggs_cons (gg_name (i := 3) sc_look_tests.nd rfl (.inl rfl)) (ggs_cons (gg_name (i := 4) sc_look_tests.nd rfl (.inl rfl)) (ggs_cons (gg_name (i := 5) sc_look_tests.nd rfl (.inl rfl)) ggs_nil))))
 (gss_one (gs_if (gw_or (gt_cmpR (op_notInP hr.units) lr_notInPP (gv 4) (gv 2) (by rfl)) (gw_or1 (gt_cmpR (op_notInP hr.units) lr_notInPP (gv 5) (gv 2) (by rfl)))).gt
 (gss_one (gs_raise rfl tk T.oe_BadRef T.no_BadRef T.ic_BadRef T.ti_BadRef (T.ini_BadRef) (hr.mono (by omega)) T.bi_BadRef (by rfl) T.gc_BadRef (ga_cons (ge_ix (gv 1) ge_int) ga_nil) (by decide)))
 gss_nil)))))))) (fun ds m Q Ed h _ => ?_)
  obtain ⟨p, rfl, g, h⟩ := h
  rw [show startD N_look_tests [p.d] = [some (p.d), none, none, none, none, none] from rfl]
  walk_at "pd"
  refine ⟨p, rfl, g.toSizes, ?_⟩
  walk_at "pd"
  refine loop_chk (m := m) (fun s' => ∃ x y z u v, s' = [some p.d, x, y, z, u, v]) Way.d trivial ?_ ?_ ⟨_, _, _, _, _, rfl⟩
  · rintro y hy s' R ⟨x, y1, z, u, v, rfl⟩ hR
    walk_at "pd"
    refine ⟨y, rfl, (way_ok g hy).1, (way_ok g hy).2, ?_⟩
    walk_at "pd"
    refine ⟨y.k, rfl, by unfold Way.k; rw [List.length_map]; exact (way_ok g hy).1, ?_, ?_⟩
    · intro k hk
      unfold Way.k at hk
      obtain ⟨a, ha, e⟩ := List.mem_map.mp hk
      cases a with
      | lot n => cases e
      | plain ms =>
        injection e with e
        rw [← e, List.length_map]
        exact (way_ok g hy).2 ms ha
    · unfold Way.d
      walk_at "pd"
      refine loop_chk (m := m) (fun s' => ∃ x1 y1 z1, s' = [some p.d, some (.tup [.str y.mr, .tup (List.map Piece.d y.ps), .tup (List.map Test.d y.ts)]), some (.tup ((refsTo isSg y.k).map refD)), x1, y1, z1]) Test.d trivial ?_ ?_ ⟨_, _, _, rfl⟩
      · rintro t ht s2 R2 ⟨x1, y1, z1, rfl⟩ hR2
        obtain ⟨_, t1, t2⟩ := g.ts y hy t ht
        rw [Test.d.eq_1]
        walk_at "pd"
        refine ⟨_, rfl, ref_pln _, refs_pln _, ref_dep _, ?_⟩
        rw [inP_ref, decide_eq_true t1]
        walk_at "pd"
        refine ⟨_, rfl, ref_pln _, refs_pln _, ref_dep _, ?_⟩
        rw [inP_ref, decide_eq_true t2]
        walk_at "pd"
        exact hR2 _ ⟨_, _, _, rfl⟩
      · rintro s2 ⟨x1, y1, z1, rfl⟩
        exact hR _ ⟨_, _, _, _, _, rfl⟩
  · rintro s' ⟨x, y, z, u, v, rfl⟩
    exact sub_refl_fin h
end
end K29

set_option Elab.async false
set_option linter.all false
set_option maxRecDepth 100000
set_option maxHeartbeats 4000000
namespace K29
open PySem PySem.Spec PyProof.Rows L2 PD Bk
local macro_rules | `(tactic| walk_at "pd") => `(tactic| simp (config := { decide := true, maxSteps := 400000 }) only [dIZipL, dFzT, dDGetTU, dDInTU, dDGet2TU, dDcT, dDCompT, dFzT, dIsB_b, dStrI_i, dRevT, revT_tx, Bk.pd_sg, Bk.pd_rows, Bk.pd_pairs, Bk.pd_nums, Bk.pd_start, Bk.pd_lots, Bk.pd_js, Bk.pd_as, dFldO, dFldV_o, dMethO, dMethV_o, dDGetU, dDInU, dDGet2U, dDc, dDComp, dIKeys, dFrzD_v, dFrzT_v, dFrzO, dFz, dFzD, dSetF, dMakeX, dMake, dSet0, dSAdd, Bk.dMethV_bk, Bk.dFldV_bk, Bk.bk_program, Bk.bk_signs, Bk.bk_rows, Bk.bk_start, Bk.bk_ways, Bk.bk_kinds, Bk.bk_pairs, Bk.bk_numbers, Bk.bk_sorts, Bk.bk_formulas, Bk.bk_asks, Bk.bk_m1, Bk.bk_m2, Bk.bk_m3, Bk.bk_m4, Bk.bk_m5, Bk.bk_m6, Bk.bk_m7, Bk.bk_m8, Bk.bk_m9, Bk.bk_ma, Bk.bk_mb, Bk.bk_mc, Bk.atI_5, Bk.atI_6, Bk.atI_7, Bk.atI_8, dAbs_i, tx_app, tx_len, tx_emp, dIx_tx, sgn_tx, cutS_to, cutS_fr, cutS_fr1, dPar, dIRng2, dIEnumS, dIStr, dInSg, dJoin, dSlS, dUpper, dChain, dDNewT, dDGetT, dDPutT, dMin3_i, dMax3_i, dCallX, dRaise, dSeq, dSet, dAsg, dgN, dRet, dRetN, dIfS, dFor, dLoop, dDrop, dNext, dVar, dC, dNil, dCons, dOp, dUn, dTest, dTru, dAnd, dOr, dNot, dAndV, dOrV, dNotV, dIfE, dTup, dLst, dCB, dCall, dCallP, dBM, dBML, dBM0, dLc, dComp, dYes, dgTup, dgCons, dgNil, dgSub, dPart, dNoPart, dAug, dIsi, dEq, dNe, wipeD, endsOf,
  dFrz, dFrzV_i, dFrzV_s, dFrzV_b, dFrzV_n, dFrzV_t, dFrzV_l, dFrzV_r, dAddL_i, dAddL_s, dAddL_t, dAddL_rr, dAddL_rl, dAddL_lr, dAddL_ll, dMulL_i, dMulL_s, dMulL_r, dSlL_v, dSlLV_t, dSlLV_l, dSlLV_r, dMinU_1, dMinU_2, dSumL_1, dSetTx_1, dIx_l, dLen_l, dInG_l, truD_rol, tyD_rol, dInt1_b, dISeqV_l, dLtS_i, dLtS_s, ltP_i, ltP_s, lsq_rol, dDNew, dDGet, dDGet2, dDSetd, dDPut, dSub_i, dInt2_i, dNeg_i, dCmp_i, dIsN_n, dNotN_n, dInG_t, dInG_r, dIx_t, dIx_r, dLen_s, dLen_t, dLen_r, dTuple_1, dList_1, dInt1_i, dRev_v, dRevV_t, dRevV_r, dISeq_v, dISeqV_t, dISeqV_r, dIEnum_v, dIEnumV_t, dIEnumV_r, dPop_0, dPop_i, dAppend_1, dExtend_1, dSub3_i, dIRng1_v, dRng1V_i,
  seqOf_tup, seqOf_rol, seqW_tup, eqK_ss, eqK_ii, eqK_bb, eqK_nn, eqK_ts, eqK_st, eqK_ti, eqK_is, eqK_ns, flatD_str, flatD_int, flatD_bl, flatD_non, isT_NoneType_bool, isT_NoneType_int, isT_NoneType_str, isT_NoneType_tuple, isT_NoneType_list, isT_bool_bool, isT_bool_int, isT_bool_str, isT_bool_tuple, isT_bool_list, isT_int_bool, isT_int_int, isT_int_str, isT_int_tuple, isT_int_list, isT_str_bool, isT_str_int, isT_str_str, isT_str_tuple, isT_str_list, isT_tuple_bool, isT_tuple_int, isT_tuple_str, isT_tuple_tuple, isT_tuple_list, isT_list_bool, isT_list_int, isT_list_str, isT_list_tuple, isT_list_list, isNon_non, isNon_bl, isNon_int, isNon_str, isNon_tup, tyD_non, tyD_bl, tyD_int, tyD_str, tyD_tup, truD_bl, truD_int, truD_tup,
  atI_0, atI_1, atI_2, atI_3, atI_4, atI_m1, atI_m2, atI_m3, Option.some.injEq, exists_eq_left', exists_eq_left, beq_self_eq_true, Bool.not_true, Bool.not_false, if_true, if_false, true_and, and_true, Bool.false_eq_true, ↓reduceIte,
  List.getElem?_cons_zero, List.getElem?_cons_succ, List.set_cons_zero, List.set_cons_succ, List.map_cons, List.map_nil, List.length_cons, List.length_nil, mset_same, mset_mset, List.isEmpty_nil, List.isEmpty_cons, decide_eq_true_eq, beq_iff_eq, seqI_0, List.eraseIdx_cons_zero, List.eraseIdx_cons_succ, ixN_40, ixN_41, ixN_42, ixN_43, Nat.reduceAdd])
local macro_rules | `(tactic| walk_at "ne") => `(tactic| first | assumption | exact Ne.symm (by assumption))
local macro_rules | `(tactic| walk_at "mu") => `(tactic| first | exact mset_same | assumption | exact mset_skip (by walk_at "ne") (by walk_at "mu"))
local macro_rules | `(tactic| walk_at "go") => `(tactic| repeat (first | walk_at "pd" | refine ⟨_, seqOf_ref (by walk_at "mu"), ?_⟩ | refine ⟨⟨_, _, lstOf_ref (by walk_at "mu")⟩, ?_⟩ | refine ⟨_, _, lstOf_ref (by walk_at "mu"), ?_⟩ | refine ⟨(show CMul _ _ from Or.inr ⟨by decide, by decide⟩), ?_⟩ | refine ⟨(show CDiv _ _ from ⟨by decide, by decide⟩), ?_⟩))
local macro_rules | `(tactic| walk_at "w") => `(tactic| try walk_at "pd")
section
variable {P : Program} {w : World} {K : PySem.W.Frag} {mg : Str → Option Value} {base : Heap}
theorem ok__look_makers_of (T : Txt K mg) : FnOk P w K mg base (L2.CX P w) (2) T.f__look_makers_of T.fd__look_makers_of ["formulas", "sort", "first_kinds", "widths"] (spX K 4 sp_nevX) := fn_nevX (k := 2 - 1) T.F__look_makers_of sc__look_makers_of
theorem ok_judges_of (T : Txt K mg) : FnOk P w K mg base CX0 (1) T.f_judges_of T.fd_judges_of ["ask"] (spL K 1 sp_nev) := fn_nev (k := 1 - 1) T.F_judges_of sc_judges_of
theorem ok_has_first (T : Txt K mg) : FnOk P w K mg base CX0 (1) T.f_has_first T.fd_has_first ["ask"] (spL K 1 sp_nev) := fn_nev (k := 1 - 1) T.F_has_first sc_has_first
theorem ok__is_let (T : Txt K mg) : FnOk P w K mg base CX0 (1) T.f__is_let T.fd__is_let ["ask", "sorts"] (spL K 2 sp_nev) := fn_nev (k := 1 - 1) T.F__is_let sc__is_let
theorem ok_all_asks (T : Txt K mg) : FnOk P w K mg base CX0 (1) T.f_all_asks T.fd_all_asks ["ask"] (spL K 1 sp_nev) := fn_nev (k := 1 - 1) T.F_all_asks sc_all_asks
theorem ok__told_by (T : Txt K mg) : FnOk P w K mg base CX0 (1) T.f__told_by T.fd__told_by ["numbers"] (spL K 1 sp_nev) := fn_nev (k := 1 - 1) T.F__told_by sc__told_by
def sp__first_told : SpD := fun ds m Q => ∃ l : List (Str × D), ds = [.rol (l.map fun p => .tup [.str p.1, p.2])] ∧ (l.map (·.1)).Nodup ∧ l.length ≤ 1000 ∧ Q (dicOf (sDic id l)) m
theorem ok__first_told  (T : Txt K mg)  : FnOk P w K mg base CX0 (1) T.f__first_told T.fd__first_told ["pairs"] (spL K 1 sp__first_told) := by
  refine fn_ok T.F__first_told sc__first_told (fun cdv A outer s H E hr =>
(gss_cons (gs_set (i := 1) sc__first_told.nd rfl (.inl rfl) ge_dnew)
 (gss_cons (gs_for PassesOwn.never rfl (gi_seq (gv 0)) (gg_tup (n := 2) rfl (ggs_cons (gg_name (i := 2) sc__first_told.nd rfl (.inl rfl)) (ggs_cons (gg_name (i := 3) sc__first_told.nd rfl (.inl rfl)) ggs_nil)))
 (gss_one (gs_if (gt_dnotinU (lt1 hr.units) (gv 2) (gv 1))
 (gss_one (gs_dput (lt1 hr.units) (gv 1) (gv 2) (gv 3)))
 gss_nil)))
 (gss_one (gs_ret (ge_frzD (gv 1))))))) (fun ds m Q h => ?_)
  obtain ⟨l, rfl, nd, hl, h⟩ := h
  rw [show startD N__first_told [.rol (l.map fun p => .tup [.str p.1, p.2])] = [some (.rol (l.map fun p => .tup [.str p.1, p.2])), none, none, none] from rfl]
  walk_at "pd"
  intro q hq
  refine loop_pre (fun pre s' m' => (∃ x y, s' = [some (.rol (l.map fun p => .tup [.str p.1, p.2])), some (.ref q), x, y]) ∧ m' = mset m q (.dct (sDic id pre))) (fun p : Str × D => .tup [.str p.1, p.2]) (fun _ _ _ _ => trivial) ?_ ?_ ⟨⟨_, _, rfl⟩, rfl⟩
  · rintro pre x post e s' m' R ⟨⟨y, z, rfl⟩, rfl⟩ hR
    have hn : x.1 ∉ pre.map (·.1) := by
      rw [e, List.map_append, List.nodup_append] at nd
      exact fun hc => nd.2.2 _ hc _ (List.mem_cons_self ..) rfl
    have hpl : pre.length < l.length := by rw [e]; simp
    walk_at "pd"
    refine ⟨_, dct_ref mset_same, _, rfl, ?_⟩
    rw [valD_s, fnd_none.mpr hn]
    walk_at "pd"
    refine ⟨q, _, _, rfl, mset_same, rfl, by rw [sDic_len]; exact Nat.lt_of_lt_of_le (by omega : pre.length < 1000) (by decide), hR _ _ ⟨⟨_, _, rfl⟩, ?_⟩⟩
    rw [mset_mset]
    congr 2
    exact put_new (f := id) (a := x.2) hn
  · rintro s' m' ⟨⟨x, y, rfl⟩, rfl⟩
    walk_at "pd"
    exact ⟨q, _, rfl, mset_same, m, (PD.Sub.new hq).del hq, h⟩
def sp_look_formulas : SpX := fun ds m Q Ed => ∃ p : Prog, ds = [p.d] ∧ Good0 p ∧ Q .non m
theorem ok_look_formulas  (T : Txt K mg) (G__look_makers_of : FnOk P w K mg base (L2.CX P w) (2) T.f__look_makers_of T.fd__look_makers_of ["formulas", "sort", "first_kinds", "widths"] (spX K 4 sp_nevX)) (G__first_told : FnOk P w K mg base CX0 (1) T.f__first_told T.fd__first_told ["pairs"] (spL K 1 sp__first_told)) (G_kinds_by_maker : FnOk P w K mg base CX0 (3) T.f_kinds_by_maker T.fd_kinds_by_maker ["ways"] (spL K 1 sp_kinds_by_maker)) (G_all_ways : FnOk P w K mg base CX0 (1) T.f_all_ways T.fd_all_ways ["program"] (spL K 1 sp_all_ways)) : FnOk P w K mg base (L2.CX P w) (4) T.f_look_formulas T.fd_look_formulas ["program"] (spX K 1 sp_look_formulas) := by
  refine fn_okX T.F_look_formulas sc_look_formulas (fun cdv A outer s H E Ed hr tk =>
(gss_cons (gs_set (i := 1) sc_look_formulas.nd rfl (.inl rfl) (ge_call G_kinds_by_maker (hr.mono (by omega)) (by rfl) T.g_kinds_by_maker T.F_kinds_by_maker.kp T.b_kinds_by_maker (ga_cons (ge_call G_all_ways (hr.mono (by omega)) (by rfl) T.g_all_ways T.F_all_ways.kp T.b_all_ways (ga_cons (gv 0) ga_nil)) ga_nil)))
 (gss_cons (gs_set (i := 2) sc_look_formulas.nd rfl (.inl rfl) (ge_call G__first_told (hr.mono (by omega)) (by rfl) T.g__first_told T.F__first_told.kp T.b__first_told (ga_cons (ge_frz (ge_lc (own := [("entry", 8)]) rfl sc_look_formulas.nd (gi_seq (ge_ix (gv 0) (ge_glb (by rfl) T.v_NUMBERS))) (blkOk_by (N := N_look_formulas) (sc := defScope s_look_formulas) (by decide +kernel)) (fun _ _ _ _ _ => (gg_name (i := 8) sc_look_formulas.nd rfl (.inl rfl))) (fun _ _ _ _ _ => gts_nil) (fun _ _ _ _ _ => (ge_tup (ga_cons (ge_ix (gv 8) ge_int) (ga_cons (ge_ix (gv 8) ge_int) ga_nil)))) (by decide))) ga_nil)))
 (gss_one (gs_for (passes_of rfl) rfl (gi_seq (ge_ix (gv 0) (ge_glb (by rfl) T.v_JUDGES))) (gg_tup (n := 3) rfl (ggs_cons (gg_name (i := 3) sc_look_formulas.nd rfl (.inl rfl)) (ggs_cons (gg_name (i := 4) sc_look_formulas.nd rfl (.inl rfl)) (ggs_cons (gg_name (i := 5) sc_look_formulas.nd rfl (.inl rfl)) ggs_nil))))
 (gss_cons (gs_expr (ge_callX G__look_makers_of tk (hr.mono (by omega)) (by rfl) T.g__look_makers_of T.F__look_makers_of.kp T.b__look_makers_of (ga_cons (gv 5) (ga_cons (gv 4) (ga_cons (gv 1) (ga_cons (gv 2) ga_nil))))))
 (gss_cons (gs_setLc (i := 6) (own := [("maker", 7), ("formula", 9)]) rfl sc_look_formulas.nd rfl rfl (sw_true rfl rfl rfl (by decide +kernel)) (gi_seq (gv 5)) (blkOk_by (N := N_look_formulas) (sc := defScope s_look_formulas) (by decide +kernel)) (fun _ _ _ _ _ => (gg_tup (n := 2) rfl (ggs_cons (gg_name (i := 7) sc_look_formulas.nd rfl (.inl rfl)) (ggs_cons (gg_name (i := 9) sc_look_formulas.nd rfl (.inl rfl)) ggs_nil)))) (fun _ _ _ _ _ => gts_nil) (fun _ _ _ _ _ => (gv 7)) (by decide))
 (gss_one (gs_for (passes_of rfl) rfl (gi_keys (gv 1)) (gg_name (i := 7) sc_look_formulas.nd rfl (.inl rfl))
 (gss_one (gs_if (gt_cmpR op_notInU lr_notIn (gv 7) (gv 6) (by rfl))
 (gss_one (gs_raise rfl tk T.oe_Missing T.no_Missing T.ic_Missing T.ti_Missing (T.ini_Missing) (hr.mono (by omega)) T.bi_Missing (by rfl) T.gc_Missing (ga_cons (gv 3) (ga_cons (gv 7) ga_nil)) (by decide)))
 gss_nil))))))))))) (fun ds m Q Ed h _ => ?_)
  obtain ⟨p, rfl, g, h⟩ := h
  rw [show startD N_look_formulas [p.d] = [some (p.d), none, none, none, none, none, none, none, none, none] from rfl]
  walk_at "pd"
  refine ⟨p, rfl, g.toSizes, ?_⟩
  walk_at "pd"
  refine ⟨p.ways, rfl, g.ways, fun y hy => way_ok g.toGood hy, ?_⟩
  unfold Prog.d
  rw [g.nn, g.nj]
  walk_at "pd"
  intro q hq
  refine ⟨_, rfl, [], rfl, List.nodup_nil, Nat.zero_le _, ?_⟩
  walk_at "pd"
  exact ⟨m, PD.Sub.del (PD.Sub.new hq) hq, h⟩
def sp_look_asks : SpX := fun ds m Q Ed => ∃ p : Prog, ds = [p.d] ∧ Good0 p ∧ Q .non m
theorem ok_look_asks  (T : Txt K mg) (G_all_asks : FnOk P w K mg base CX0 (1) T.f_all_asks T.fd_all_asks ["ask"] (spL K 1 sp_nev)) (G__is_let : FnOk P w K mg base CX0 (1) T.f__is_let T.fd__is_let ["ask", "sorts"] (spL K 2 sp_nev)) (G_has_first : FnOk P w K mg base CX0 (1) T.f_has_first T.fd_has_first ["ask"] (spL K 1 sp_nev)) (G_judges_of : FnOk P w K mg base CX0 (1) T.f_judges_of T.fd_judges_of ["ask"] (spL K 1 sp_nev)) (G__first_told : FnOk P w K mg base CX0 (1) T.f__first_told T.fd__first_told ["pairs"] (spL K 1 sp__first_told)) : FnOk P w K mg base (L2.CX P w) (3) T.f_look_asks T.fd_look_asks ["program"] (spX K 1 sp_look_asks) := by
  refine fn_okX T.F_look_asks sc_look_asks (fun cdv A outer s H E Ed hr tk =>
(gss_cons (gs_set (i := 1) sc_look_asks.nd rfl (.inr rfl) (ge_call G__first_told (hr.mono (by omega)) (by rfl) T.g__first_told T.F__first_told.kp T.b__first_told (ga_cons (ge_frz (ge_lc (own := [("entry", 7)]) rfl sc_look_asks.nd (gi_seq (ge_ix (gv 0) (ge_glb (by rfl) T.v_JUDGES))) (blkOk_by (N := N_look_asks) (sc := defScope s_look_asks) (by decide +kernel)) (fun _ _ _ _ _ => (gg_name (i := 7) sc_look_asks.nd rfl (.inl rfl))) (fun _ _ _ _ _ => gts_nil) (fun _ _ _ _ _ => (ge_tup (ga_cons (ge_ix (gv 7) ge_int) (ga_cons (ge_ix (gv 7) ge_int) ga_nil)))) (by decide))) ga_nil)))
 (gss_one (gs_for (passes_of rfl) rfl (gi_seq (ge_ix (gv 0) (ge_glb (by rfl) T.v_ASKS))) (gg_tup (n := 2) rfl (ggs_cons (gg_name (i := 2) sc_look_asks.nd rfl (.inl rfl)) (ggs_cons (gg_name (i := 3) sc_look_asks.nd rfl (.inl rfl)) ggs_nil)))
 (gss_cons (gs_set (i := 4) sc_look_asks.nd rfl (.inl rfl) (ge_call G_judges_of (hr.mono (by omega)) (by rfl) T.g_judges_of T.F_judges_of.kp T.b_judges_of (ga_cons (gv 3) ga_nil)))
 (gss_cons (gs_for (passes_of rfl) rfl (gi_seq (gv 4)) (gg_name (i := 5) sc_look_asks.nd rfl (.inl rfl))
 (gss_one (gs_if (gt_dnotinU (lt1 hr.units) (gv 5) (gv 1))
 (gss_one (gs_raise rfl tk T.oe_NoName T.no_NoName T.ic_NoName T.ti_NoName (T.ini_NoName) (hr.mono (by omega)) T.bi_NoName (by rfl) T.gc_NoName (ga_cons (gv 5) ga_nil) (by decide)))
 gss_nil)))
 (gss_cons (gs_set (i := 6) sc_look_asks.nd rfl (.inl rfl) (ge_or (ge_cmpR (op_ltS hr.units) lr_ltP (ge_callB call_lenU lc_len (by rfl) T.z_len PySem.boot_len (ga_cons (ge_callTy (cr_setTx rfl) lc_setTx (by rfl) T.z_set (by decide +kernel) (ga_cons (gv 4) ga_nil)) ga_nil)) (ge_callB call_lenU lc_len (by rfl) T.z_len PySem.boot_len (ga_cons (gv 4) ga_nil)) (nomark _)) (ge_one (ge_cmpR (op_gtS hr.units) lr_gtP (ge_call G_has_first (hr.mono (by omega)) (by rfl) T.g_has_first T.F_has_first.kp T.b_has_first (ga_cons (gv 3) ga_nil)) ge_int (nomark _)))))
 (gss_one (gs_if (gw_or (gt_tru (gv 6)) (gw_or1 (gt_not (gt_val (ge_callB (cr_all rfl) lc_all (by rfl) T.z_all (by decide +kernel) (ga_cons (ge_lc (own := [("one", 8)]) rfl sc_look_asks.nd (gi_seq (ge_call G_all_asks (hr.mono (by omega)) (by rfl) T.g_all_asks T.F_all_asks.kp T.b_all_asks (ga_cons (gv 3) ga_nil))) (blkOk_by (N := N_look_asks) (sc := defScope s_look_asks) (by decide +kernel)) (fun _ _ _ _ _ => (gg_name (i := 8) sc_look_asks.nd rfl (.inl rfl))) (fun _ _ _ _ _ => gts_nil) (fun _ _ _ _ _ => (ge_call G__is_let (hr.mono (by omega)) (by rfl) T.g__is_let T.F__is_let.kp T.b__is_let (ga_cons (gv 8) (ga_cons (gv 1) ga_nil)))) (by decide)) ga_nil)))))).gt
 (gss_one (gs_raise rfl tk T.oe_BadAsk T.no_BadAsk T.ic_BadAsk T.ti_BadAsk (T.ini_BadAsk) (hr.mono (by omega)) T.bi_BadAsk (by rfl) T.gc_BadAsk (ga_cons (gv 2) ga_nil) (by decide)))
 gss_nil))))))))) (fun ds m Q Ed h _ => ?_)
  obtain ⟨p, rfl, g, h⟩ := h
  rw [show startD N_look_asks [p.d] = [some (p.d), none, none, none, none, none, none, none, none] from rfl]
  unfold Prog.d
  rw [g.na, g.nj]
  walk_at "pd"
  intro q hq
  refine ⟨_, rfl, [], rfl, List.nodup_nil, Nat.zero_le _, ?_⟩
  walk_at "pd"
  exact ⟨m, PD.Sub.del (PD.Sub.new hq) hq, h⟩
def sp__look_all : SpX := fun ds m Q Ed => ∃ p : Prog, ds = [p.d] ∧ Good0 p ∧ Q .non m
theorem ok__look_all  (T : Txt K mg) (G_look_asks : FnOk P w K mg base (L2.CX P w) (3) T.f_look_asks T.fd_look_asks ["program"] (spX K 1 sp_look_asks)) (G_look_formulas : FnOk P w K mg base (L2.CX P w) (4) T.f_look_formulas T.fd_look_formulas ["program"] (spX K 1 sp_look_formulas)) (G_look_tests : FnOk P w K mg base (L2.CX P w) (4) T.f_look_tests T.fd_look_tests ["program"] (spX K 1 sp_look_tests)) (G_look_makers : FnOk P w K mg base (L2.CX P w) (4) T.f_look_makers T.fd_look_makers ["program"] (spX K 1 sp_look_makers)) (G_look_mentions : FnOk P w K mg base (L2.CX P w) (4) T.f_look_mentions T.fd_look_mentions ["program"] (spX K 1 sp_look_mentions)) (G_look_signs : FnOk P w K mg base (L2.CX P w) (3) T.f_look_signs T.fd_look_signs ["program"] (spX K 1 sp_look_signs)) (G_look_names : FnOk P w K mg base (L2.CX P w) (4) T.f_look_names T.fd_look_names ["program"] (spX K 1 sp_look_names)) : FnOk P w K mg base (L2.CX P w) (5) T.f__look_all T.fd__look_all ["program"] (spX K 1 sp__look_all) := by
  refine fn_okX T.F__look_all sc__look_all (fun cdv A outer s H E Ed hr tk =>
(gss_cons (gs_expr (ge_callX G_look_names tk (hr.mono (by omega)) (by rfl) T.g_look_names T.F_look_names.kp T.b_look_names (ga_cons (gv 0) ga_nil)))
 (gss_cons (gs_expr (ge_callX G_look_signs tk (hr.mono (by omega)) (by rfl) T.g_look_signs T.F_look_signs.kp T.b_look_signs (ga_cons (gv 0) ga_nil)))
 (gss_cons (gs_expr (ge_callX G_look_mentions tk (hr.mono (by omega)) (by rfl) T.g_look_mentions T.F_look_mentions.kp T.b_look_mentions (ga_cons (gv 0) ga_nil)))
 (gss_cons (gs_expr (ge_callX G_look_makers tk (hr.mono (by omega)) (by rfl) T.g_look_makers T.F_look_makers.kp T.b_look_makers (ga_cons (gv 0) ga_nil)))
 (gss_cons (gs_expr (ge_callX G_look_tests tk (hr.mono (by omega)) (by rfl) T.g_look_tests T.F_look_tests.kp T.b_look_tests (ga_cons (gv 0) ga_nil)))
 (gss_cons (gs_expr (ge_callX G_look_formulas tk (hr.mono (by omega)) (by rfl) T.g_look_formulas T.F_look_formulas.kp T.b_look_formulas (ga_cons (gv 0) ga_nil)))
 (gss_one (gs_expr (ge_callX G_look_asks tk (hr.mono (by omega)) (by rfl) T.g_look_asks T.F_look_asks.kp T.b_look_asks (ga_cons (gv 0) ga_nil))))))))))) (fun ds m Q Ed h _ => ?_)
  obtain ⟨p, rfl, g, h⟩ := h
  rw [show startD N__look_all [p.d] = [some (p.d)] from rfl]
  walk_at "pd"
  refine ⟨p, rfl, g, ?_⟩
  refine ⟨p, rfl, g, ?_⟩
  refine ⟨p, rfl, g.toGood, ?_⟩
  refine ⟨p, rfl, g.toGood, ?_⟩
  refine ⟨p, rfl, g.toGood, ?_⟩
  refine ⟨p, rfl, g, ?_⟩
  refine ⟨p, rfl, g, ?_⟩
  exact sub_refl_fin h
def sp__formulas_of : SpD := fun ds m Q => ∃ p : Prog, ds = [p.d] ∧ p.js = [] ∧ Q (dicTOf []) m
theorem ok__formulas_of  (T : Txt K mg)  : FnOk P w K mg base CX0 (1) T.f__formulas_of T.fd__formulas_of ["program"] (spL K 1 sp__formulas_of) := by
  refine fn_ok T.F__formulas_of sc__formulas_of (fun cdv A outer s H E hr =>
(gss_cons (gs_set (i := 1) sc__formulas_of.nd rfl (.inl rfl) ge_dnewT)
 (gss_cons (gs_for PassesOwn.never rfl (gi_seq (ge_ix (gv 0) (ge_glb (by rfl) T.v_JUDGES))) (gg_tup (n := 3) rfl (ggs_cons (gg_name (i := 2) sc__formulas_of.nd rfl (.inl rfl)) (ggs_cons (gg_name (i := 3) sc__formulas_of.nd rfl (.inl rfl)) (ggs_cons (gg_name (i := 4) sc__formulas_of.nd rfl (.inl rfl)) ggs_nil))))
 (gss_one (gs_for PassesOwn.never rfl (gi_seq (gv 4)) (gg_tup (n := 2) rfl (ggs_cons (gg_name (i := 5) sc__formulas_of.nd rfl (.inl rfl)) (ggs_cons (gg_name (i := 6) sc__formulas_of.nd rfl (.inl rfl)) ggs_nil)))
 (gss_one (gs_dputT (lt1 hr.units) (gv 1) (ga_cons (gv 2) (ga_cons (gv 5) ga_nil)) (gv 6))))))
 (gss_one (gs_ret (ge_frzT (gv 1))))))) (fun ds m Q h => ?_)
  obtain ⟨p, rfl, g, h⟩ := h
  rw [show startD N__formulas_of [p.d] = [some (p.d), none, none, none, none, none, none] from rfl]
  unfold Prog.d
  rw [g]
  walk_at "pd"
  intro q hq
  exact ⟨q, _, rfl, mset_same, m, PD.Sub.del (PD.Sub.new hq) hq, h⟩
theorem sub_put {m M : Mu} {x : Addr} {o o' : MO} (S : PD.Sub (mset m x o) M) : PD.Sub (mset m x o') (mset M x o') := fun a u e => by
  by_cases h : a = x
  · subst h; rw [mset_same] at e ⊢; exact e
  · rw [mset_ne h] at e ⊢; exact S a u (by rw [mset_ne h]; exact e)
theorem sub_at {m M : Mu} {x : Addr} {o : MO} (S : PD.Sub (mset m x o) M) : M x = some o := S x o mset_same
def bkFl (p : Prog) : List (Str × D) := bkFs.zip (bkVs p (dicOf []) (dicOf []) (dicTOf []) (dicOf []))
theorem fl_len (p : Prog) (k : Nat) : ((bkFl p).take k).length < 1000 := by
  rw [List.length_take]
  have : (bkFl p).length = 11 := rfl
  omega
theorem nd_inr {l : List Str} (h : l.Nodup) : (l.map (Sum.inr : Str → Key)).Nodup := by
  unfold List.Nodup at *
  rw [List.pairwise_map]
  exact h.imp fun hne e => hne (Sum.inr.inj e)
def sp_Book___init__ (T : Txt K mg) : SpX := fun ds m Q Ed => ∃ (p : Prog) (x : Addr), ds = [.ref x, p.d] ∧ m x = some (.ins T.c_Book []) ∧ Good0 p ∧ Q .non (mset m x (.ins T.c_Book (bkFl p)))
set_option maxHeartbeats 8000000 in
theorem ok_Book___init__  (T : Txt K mg) (G__formulas_of : FnOk P w K mg base CX0 (1) T.f__formulas_of T.fd__formulas_of ["program"] (spL K 1 sp__formulas_of)) (G__told_by : FnOk P w K mg base CX0 (1) T.f__told_by T.fd__told_by ["numbers"] (spL K 1 sp_nev)) (G_kinds_by_maker : FnOk P w K mg base CX0 (3) T.f_kinds_by_maker T.fd_kinds_by_maker ["ways"] (spL K 1 sp_kinds_by_maker)) (G_all_ways : FnOk P w K mg base CX0 (1) T.f_all_ways T.fd_all_ways ["program"] (spL K 1 sp_all_ways)) (G__look_all : FnOk P w K mg base (L2.CX P w) (5) T.f__look_all T.fd__look_all ["program"] (spX K 1 sp__look_all)) : FnOk P w K mg base (L2.CX P w) (6) T.f_Book___init__ T.fd_Book___init__ ["self", "program"] (spX K 2 (sp_Book___init__ T)) := by
  refine fn_okX T.F_Book___init__ sc_Book___init__ (fun cdv A outer s H E Ed hr tk =>
(gss_cons (gs_expr (ge_callX G__look_all (no_tk) (hr.mono (by omega)) (by rfl) T.g__look_all T.F__look_all.kp T.b__look_all (ga_cons (gv 1) ga_nil)))
 (gss_cons (gs_fld T.cls_Book T.na_Book_program (gv 0) (gv 1))
 (gss_cons (gs_fld T.cls_Book T.na_Book_signs (gv 0) (ge_ix (gv 1) (ge_glb (by rfl) T.v_SIGNS)))
 (gss_cons (gs_fld T.cls_Book T.na_Book_rows (gv 0) (ge_ix (gv 1) (ge_glb (by rfl) T.v_ROWS)))
 (gss_cons (gs_fld T.cls_Book T.na_Book_start (gv 0) (ge_ix (gv 1) (ge_glb (by rfl) T.v_START)))
 (gss_cons (gs_fld T.cls_Book T.na_Book__ways (gv 0) (ge_frzD (ge_dc (own := [("name", 3), ("ways", 4)]) rfl sc_Book___init__.nd (gi_seq (ge_ix (gv 1) (ge_glb (by rfl) T.v_LOTS))) (blkOk_by (N := N_Book___init__) (sc := defScope s_Book___init__) (by decide +kernel)) (fun _ _ _ _ _ => (gg_tup (n := 2) rfl (ggs_cons (gg_name (i := 3) sc_Book___init__.nd rfl (.inl rfl)) (ggs_cons (gg_name (i := 4) sc_Book___init__.nd rfl (.inl rfl)) ggs_nil)))) (fun _ _ _ _ _ => gts_nil) (fun _ _ _ _ _ => (gv 3)) (fun _ _ _ _ _ => (gv 4)) (by decide))))
 (gss_cons (gs_fld T.cls_Book T.na_Book__kinds (gv 0) (ge_call G_kinds_by_maker (hr.mono (by omega)) (by rfl) T.g_kinds_by_maker T.F_kinds_by_maker.kp T.b_kinds_by_maker (ga_cons (ge_call G_all_ways (hr.mono (by omega)) (by rfl) T.g_all_ways T.F_all_ways.kp T.b_all_ways (ga_cons (gv 1) ga_nil)) ga_nil)))
 (gss_cons (gs_fld T.cls_Book T.na_Book__pairs (gv 0) (ge_frzD (ge_dc (own := [("name", 3), ("words", 5)]) rfl sc_Book___init__.nd (gi_seq (ge_ix (gv 1) (ge_glb (by rfl) T.v_PAIRS))) (blkOk_by (N := N_Book___init__) (sc := defScope s_Book___init__) (by decide +kernel)) (fun _ _ _ _ _ => (gg_tup (n := 2) rfl (ggs_cons (gg_name (i := 3) sc_Book___init__.nd rfl (.inl rfl)) (ggs_cons (gg_name (i := 5) sc_Book___init__.nd rfl (.inl rfl)) ggs_nil)))) (fun _ _ _ _ _ => gts_nil) (fun _ _ _ _ _ => (gv 3)) (fun _ _ _ _ _ => (gv 5)) (by decide))))
 (gss_cons (gs_fld T.cls_Book T.na_Book__numbers (gv 0) (ge_frzD (ge_dc (own := [("entry", 2)]) rfl sc_Book___init__.nd (gi_seq (ge_ix (gv 1) (ge_glb (by rfl) T.v_NUMBERS))) (blkOk_by (N := N_Book___init__) (sc := defScope s_Book___init__) (by decide +kernel)) (fun _ _ _ _ _ => (gg_name (i := 2) sc_Book___init__.nd rfl (.inl rfl))) (fun _ _ _ _ _ => gts_nil) (fun _ _ _ _ _ => (ge_ix (gv 2) ge_int)) (fun _ _ _ _ _ => (ge_call G__told_by (hr.mono (by omega)) (by rfl) T.g__told_by T.F__told_by.kp T.b__told_by (ga_cons (gv 2) ga_nil))) (by decide))))
 (gss_cons (gs_fld T.cls_Book T.na_Book__sorts (gv 0) (ge_frzD (ge_dc (own := [("entry", 2)]) rfl sc_Book___init__.nd (gi_seq (ge_ix (gv 1) (ge_glb (by rfl) T.v_JUDGES))) (blkOk_by (N := N_Book___init__) (sc := defScope s_Book___init__) (by decide +kernel)) (fun _ _ _ _ _ => (gg_name (i := 2) sc_Book___init__.nd rfl (.inl rfl))) (fun _ _ _ _ _ => gts_nil) (fun _ _ _ _ _ => (ge_ix (gv 2) ge_int)) (fun _ _ _ _ _ => (ge_ix (gv 2) ge_int)) (by decide))))
 (gss_cons (gs_fld T.cls_Book T.na_Book__formulas (gv 0) (ge_call G__formulas_of (hr.mono (by omega)) (by rfl) T.g__formulas_of T.F__formulas_of.kp T.b__formulas_of (ga_cons (gv 1) ga_nil)))
 (gss_one (gs_fld T.cls_Book T.na_Book__asks (gv 0) (ge_frzD (ge_dc (own := [("name", 3), ("ask", 6)]) rfl sc_Book___init__.nd (gi_seq (ge_ix (gv 1) (ge_glb (by rfl) T.v_ASKS))) (blkOk_by (N := N_Book___init__) (sc := defScope s_Book___init__) (by decide +kernel)) (fun _ _ _ _ _ => (gg_tup (n := 2) rfl (ggs_cons (gg_name (i := 3) sc_Book___init__.nd rfl (.inl rfl)) (ggs_cons (gg_name (i := 6) sc_Book___init__.nd rfl (.inl rfl)) ggs_nil)))) (fun _ _ _ _ _ => gts_nil) (fun _ _ _ _ _ => (gv 3)) (fun _ _ _ _ _ => (gv 6)) (by decide))))))))))))))))) (fun ds m Q Ed h _ => ?_)
  obtain ⟨p, x, rfl, hx, g, h⟩ := h
  rw [show startD N_Book___init__ [.ref x, p.d] = [some (.ref x), some (p.d), none, none, none, none, none] from rfl]
  walk_at "pd"
  refine ⟨p, rfl, g, ?_⟩
  have S0 : PD.Sub (mset m x (.ins T.c_Book ((bkFl p).take 0))) m := fun a u e => by
    by_cases h : a = x
    · subst h; rw [mset_same] at e; rw [← e]; exact hx
    · rw [mset_ne h] at e; exact e
  refine ⟨x, _, rfl, hx, by decide, ?_⟩
  rw [show putD "program" p.d ([] : List (Str × D)) = (bkFl p).take 1 from rfl]
  generalize eM : mset m x (.ins T.c_Book ((bkFl p).take 1)) = M1
  have S1 : PD.Sub (mset m x (.ins T.c_Book ((bkFl p).take 1))) M1 := eM ▸ PD.Sub.refl _
  refine ⟨x, _, rfl, sub_at S1, fl_len p _, ?_⟩
  rw [show putD "signs" (.str (tx p.sg)) ((bkFl p).take 1) = (bkFl p).take 2 from rfl]
  have S2 := sub_put (o' := .ins T.c_Book ((bkFl p).take 2)) S1
  generalize mset M1 x (.ins T.c_Book ((bkFl p).take 2)) = M2 at *
  refine ⟨x, _, rfl, sub_at S2, fl_len p _, ?_⟩
  rw [show putD "rows" (.int (p.rows : Int)) ((bkFl p).take 2) = (bkFl p).take 3 from rfl]
  have S3 := sub_put (o' := .ins T.c_Book ((bkFl p).take 3)) S2
  generalize mset M2 x (.ins T.c_Book ((bkFl p).take 3)) = M3 at *
  refine ⟨x, _, rfl, sub_at S3, fl_len p _, ?_⟩
  rw [show putD "start" (.str p.start) ((bkFl p).take 3) = (bkFl p).take 4 from rfl]
  have S4 := sub_put (o' := .ins T.c_Book ((bkFl p).take 4)) S3
  generalize mset M3 x (.ins T.c_Book ((bkFl p).take 4)) = M4 at *
  intro q4 hq4
  refine dcomp_pure lotD (fun l => ((.inr l.1 : Key), waysD l.2)) (fun _ => trivial) (by have := g.lt; omega) ?_ (fun l hl a R k => ?_) ?_
  · have e : (p.lots.map fun l => (Sum.inr l.1 : Key)) = (p.lots.map (·.1)).map Sum.inr := by rw [List.map_map]; rfl
    rw [e]
    exact nd_inr g.ndL
  · rw [lotD.eq_1]
    walk_at "pd"
    exact k _ rfl
  refine ⟨q4, _, rfl, mset_same, ?_⟩
  rw [show (p.lots.map fun l => ((Sum.inr l.1 : Key), waysD l.2)) = sDic waysD p.lots from rfl]
  have F4 := PD.Sub.free S4 hq4
  have n4 : x ≠ q4 := fun e => by have z := sub_at S4; rw [e, hq4] at z; cases z
  have S4' := PD.Sub.del (PD.Sub.new' (o := .dct (sDic waysD p.lots)) S4 F4) F4
  generalize mdel (mset M4 q4 (.dct (sDic waysD p.lots))) q4 = M4' at *
  refine ⟨x, _, rfl, sub_at S4', fl_len p _, ?_⟩
  rw [show putD "_ways" (dicOf (sDic waysD p.lots)) ((bkFl p).take 4) = (bkFl p).take 5 from rfl]
  have S5 := sub_put (o' := .ins T.c_Book ((bkFl p).take 5)) S4'
  generalize mset M4' x (.ins T.c_Book ((bkFl p).take 5)) = M5 at *
  refine ⟨p, rfl, g.toSizes, ?_⟩
  walk_at "pd"
  refine ⟨p.ways, rfl, g.ways, fun y hy => way_ok g.toGood hy, ?_⟩
  refine ⟨x, _, rfl, sub_at S5, fl_len p _, ?_⟩
  rw [show putD "_kinds" (dicOf (sDic kindsD (kbm p.ways))) ((bkFl p).take 5) = (bkFl p).take 6 from rfl]
  have S6 := sub_put (o' := .ins T.c_Book ((bkFl p).take 6)) S5
  generalize mset M5 x (.ins T.c_Book ((bkFl p).take 6)) = M6 at *
  intro q6 hq6
  refine dcomp_pure Bk.pairD (fun l => ((.inr l.1 : Key), wordsD l.2)) (fun _ => trivial) (by have := g.pr; omega) ?_ (fun l hl a R k => ?_) ?_
  · have e : (p.pairs.map fun l => (Sum.inr l.1 : Key)) = (p.pairs.map (·.1)).map Sum.inr := by rw [List.map_map]; rfl
    rw [e]
    exact nd_inr g.ndP
  · rw [Bk.pairD.eq_1]
    walk_at "pd"
    exact k _ rfl
  refine ⟨q6, _, rfl, mset_same, ?_⟩
  rw [show (p.pairs.map fun l => ((Sum.inr l.1 : Key), wordsD l.2)) = sDic wordsD p.pairs from rfl]
  have F6 := PD.Sub.free S6 hq6
  have n6 : x ≠ q6 := fun e => by have z := sub_at S6; rw [e, hq6] at z; cases z
  have S6' := PD.Sub.del (PD.Sub.new' (o := .dct (sDic wordsD p.pairs)) S6 F6) F6
  generalize mdel (mset M6 q6 (.dct (sDic wordsD p.pairs))) q6 = M6' at *
  refine ⟨x, _, rfl, sub_at S6', fl_len p _, ?_⟩
  rw [show putD "_pairs" (dicOf (sDic wordsD p.pairs)) ((bkFl p).take 6) = (bkFl p).take 7 from rfl]
  have S7 := sub_put (o' := .ins T.c_Book ((bkFl p).take 7)) S6'
  generalize mset M6' x (.ins T.c_Book ((bkFl p).take 7)) = M7 at *
  rw [g.nn]
  walk_at "pd"
  intro q7 hq7
  refine ⟨q7, _, rfl, mset_same, ?_⟩
  have F7 := PD.Sub.free S7 hq7
  have n7 : x ≠ q7 := fun e => by have z := sub_at S7; rw [e, hq7] at z; cases z
  have S7' := PD.Sub.del (PD.Sub.new' (o := .dct []) S7 F7) F7
  generalize mdel (mset M7 q7 (.dct [])) q7 = M7' at *
  refine ⟨x, _, rfl, sub_at S7', fl_len p _, ?_⟩
  rw [show putD "_numbers" (dicOf []) ((bkFl p).take 7) = (bkFl p).take 8 from rfl]
  have S8 := sub_put (o' := .ins T.c_Book ((bkFl p).take 8)) S7'
  generalize mset M7' x (.ins T.c_Book ((bkFl p).take 8)) = M8 at *
  rw [g.nj]
  walk_at "pd"
  intro q8 hq8
  refine ⟨q8, _, rfl, mset_same, ?_⟩
  have F8 := PD.Sub.free S8 hq8
  have n8 : x ≠ q8 := fun e => by have z := sub_at S8; rw [e, hq8] at z; cases z
  have S8' := PD.Sub.del (PD.Sub.new' (o := .dct []) S8 F8) F8
  generalize mdel (mset M8 q8 (.dct [])) q8 = M8' at *
  refine ⟨x, _, rfl, sub_at S8', fl_len p _, ?_⟩
  rw [show putD "_sorts" (dicOf []) ((bkFl p).take 8) = (bkFl p).take 9 from rfl]
  have S9 := sub_put (o' := .ins T.c_Book ((bkFl p).take 9)) S8'
  generalize mset M8' x (.ins T.c_Book ((bkFl p).take 9)) = M9 at *
  refine ⟨p, rfl, g.nj, ?_⟩
  refine ⟨x, _, rfl, sub_at S9, fl_len p _, ?_⟩
  rw [show putD "_formulas" (dicTOf []) ((bkFl p).take 9) = (bkFl p).take 10 from rfl]
  have S10 := sub_put (o' := .ins T.c_Book ((bkFl p).take 10)) S9
  generalize mset M9 x (.ins T.c_Book ((bkFl p).take 10)) = M10 at *
  rw [g.na]
  walk_at "pd"
  intro q10 hq10
  refine ⟨q10, _, rfl, mset_same, ?_⟩
  have F10 := PD.Sub.free S10 hq10
  have n10 : x ≠ q10 := fun e => by have z := sub_at S10; rw [e, hq10] at z; cases z
  have S10' := PD.Sub.del (PD.Sub.new' (o := .dct []) S10 F10) F10
  generalize mdel (mset M10 q10 (.dct [])) q10 = M10' at *
  refine ⟨x, _, rfl, sub_at S10', fl_len p _, ?_⟩
  rw [show putD "_asks" (dicOf []) ((bkFl p).take 10) = (bkFl p).take 11 from rfl]
  have S11 := sub_put (o' := .ins T.c_Book ((bkFl p).take 11)) S10'
  generalize mset M10' x (.ins T.c_Book ((bkFl p).take 11)) = M11 at *
  exact ⟨_, S11, h⟩
end
end K29

set_option Elab.async false
set_option linter.all false
set_option maxRecDepth 100000
set_option maxHeartbeats 4000000
/-! Signings: what the search finds. -/
namespace Bk
open PySem PySem.Spec PyProof.Rows L2 PD
def lettersAt (sg : List Nat) (ps : List Piece) (r : Ref) : List Nat := match ps[r.1]? with
  | some (.plain ms) => match ms[r.2]? with
    | some (.sign l) => if l = [] then sg else l
    | _ => []
  | _ => []
def insR (acc : List Ref) (r : Ref) : List Ref := if r ∈ acc then acc else acc ++ [r]
def tested (ts : List Test) : List Ref := ts.foldl (fun acc t => insR (insR acc t.a) t.b) []
def wordsOf (pairs : List (Str × List (List Nat))) (n : Str) : List (List Nat) := (fnd pairs n).getD []
def toldAt (refs : List Ref) (c : List Nat) (r : Ref) : Option Nat := c[refs.idxOf r]?
def mayHold (pairs : List (Str × List (List Nat))) (ts : List Test) (refs : List Ref) (c : List Nat) : Bool :=
  ts.all fun t => match toldAt refs c t.a, toldAt refs c t.b with
    | some x, some z => decide ([x, z] ∈ wordsOf pairs t.nm)
    | _, _ => true
/-- the search, the last letters first -/
def srch (L : Nat → List Nat) (ok : List Nat → Bool) : Nat → List Nat → Option (List Nat)
  | 0, c => some c
  | n + 1, c => ((((L c.length).map fun x => c ++ [x]).filter ok).reverse).findSome? (srch L ok n)
/-- what there is to find -/
def canF (L : Nat → List Nat) (fin : List Nat → Bool) : Nat → List Nat → Bool
  | 0, c => fin c
  | n + 1, c => (L c.length).any fun x => canF L fin n (c ++ [x])
theorem srch_some {L : Nat → List Nat} {ok : List Nat → Bool} : ∀ (n : Nat) (c d : List Nat), srch L ok n c = some d → ∃ e, d = c ++ e ∧ e.length = n ∧ (∀ i x, e[i]? = some x → x ∈ L (c.length + i)) ∧ (0 < n → ok d = true)
  | 0, c, d, h => by
    unfold srch at h; cases h
    exact ⟨[], by simp, rfl, fun i x h => by simp at h, fun h => absurd h (Nat.lt_irrefl _)⟩
  | n + 1, c, d, h => by
    unfold srch at h
    obtain ⟨c', h1, h2⟩ := List.exists_of_findSome?_eq_some h
    rw [List.mem_reverse, List.mem_filter, List.mem_map] at h1
    obtain ⟨⟨x, hx, rfl⟩, hok⟩ := h1
    obtain ⟨e, e1, e2, e3, e4⟩ := srch_some n _ d h2
    refine ⟨x :: e, by rw [e1]; simp, by simp [e2], fun i z hz => ?_, fun _ => ?_⟩
    · cases i with
      | zero => simp at hz; subst hz; simpa using hx
      | succ i =>
        have := e3 i z (by simpa using hz)
        rw [List.length_append, List.length_singleton] at this
        rw [show c.length + (i + 1) = c.length + 1 + i by omega]; exact this
    · cases n with
      | zero =>
        have : e = [] := List.length_eq_zero_iff.mp e2
        rw [e1, this, List.append_nil]; exact hok
      | succ n => exact e4 (Nat.succ_pos _)
theorem srch_none {L : Nat → List Nat} {ok : List Nat → Bool} (mono : ∀ c e, ok (c ++ e) = true → ok c = true) : ∀ (n : Nat) (c : List Nat), srch L ok n c = none → ∀ e, e.length = n → (∀ i x, e[i]? = some x → x ∈ L (c.length + i)) → ok (c ++ e) = false
  | 0, c, h => by unfold srch at h; cases h
  | n + 1, c, h => fun e e2 e3 => by
    cases e with
    | nil => cases e2
    | cons x e =>
      unfold srch at h
      rw [List.findSome?_eq_none_iff] at h
      cases c2 : ok (c ++ x :: e) with
      | false => rfl
      | true =>
        have e4 : c ++ x :: e = (c ++ [x]) ++ e := by simp
        have hx : x ∈ L c.length := by simpa using e3 0 x rfl
        have h1 := h (c ++ [x]) (by
          rw [List.mem_reverse, List.mem_filter, List.mem_map]
          exact ⟨⟨x, hx, rfl⟩, mono _ e (by rw [← e4]; exact c2)⟩)
        have h2 := srch_none mono n (c ++ [x]) h1 e (by simpa using e2) fun i z hz => by
          have := e3 (i + 1) z (by simpa using hz)
          rw [List.length_append, List.length_singleton, show c.length + 1 + i = c.length + (i + 1) by omega]; exact this
        rw [e4, h2] at c2; cases c2
theorem canF_iff {L : Nat → List Nat} {fin : List Nat → Bool} : ∀ (n : Nat) (c : List Nat), canF L fin n c = true ↔ ∃ e, e.length = n ∧ (∀ i x, e[i]? = some x → x ∈ L (c.length + i)) ∧ fin (c ++ e) = true
  | 0, c => by
    unfold canF
    constructor
    · intro h; exact ⟨[], rfl, fun i x h => by simp at h, by simpa using h⟩
    · rintro ⟨e, e1, _, e3⟩
      have : e = [] := List.length_eq_zero_iff.mp e1
      rw [this, List.append_nil] at e3; exact e3
  | n + 1, c => by
    unfold canF
    rw [List.any_eq_true]
    constructor
    · rintro ⟨x, hx, h⟩
      obtain ⟨e, e1, e2, e3⟩ := (canF_iff n _).mp h
      refine ⟨x :: e, by simp [e1], fun i z hz => ?_, by rw [show c ++ x :: e = c ++ [x] ++ e by simp]; exact e3⟩
      cases i with
      | zero => simp at hz; subst hz; simpa using hx
      | succ i =>
        have := e2 i z (by simpa using hz)
        rw [List.length_append, List.length_singleton] at this
        rw [show c.length + (i + 1) = c.length + 1 + i by omega]; exact this
    · rintro ⟨e, e1, e2, e3⟩
      cases e with
      | nil => cases e1
      | cons x e =>
        refine ⟨x, by simpa using e2 0 x rfl, (canF_iff n _).mpr ⟨e, by simpa using e1, fun i z hz => ?_, by rw [show c ++ [x] ++ e = c ++ x :: e by simp]; exact e3⟩⟩
        have := e2 (i + 1) z (by simpa using hz)
        rw [List.length_append, List.length_singleton, show c.length + 1 + i = c.length + (i + 1) by omega]; exact this
theorem hold_mono {pairs : List (Str × List (List Nat))} {ts : List Test} {refs : List Ref} (c e : List Nat) (h : mayHold pairs ts refs (c ++ e) = true) : mayHold pairs ts refs c = true := by
  unfold mayHold at *
  rw [List.all_eq_true] at *
  intro t ht
  have := h t ht
  have up : ∀ (r : Ref) (x : Nat), toldAt refs c r = some x → toldAt refs (c ++ e) r = some x := fun r x h => by
    unfold toldAt at *
    rw [List.getElem?_append_left (List.getElem?_eq_some_iff.mp h).1]; exact h
  cases e1 : toldAt refs c t.a with
  | none => rfl
  | some x =>
    cases e2 : toldAt refs c t.b with
    | none => rfl
    | some z =>
      rw [up _ _ e1, up _ _ e2] at this
      exact this
/-! the refs of the tests -/
theorem insR_mem {acc : List Ref} {r x : Ref} : x ∈ insR acc r ↔ x ∈ acc ∨ x = r := by
  unfold insR
  split
  · rename_i h; exact ⟨.inl, fun z => z.elim id fun e => e ▸ h⟩
  · rw [List.mem_append, List.mem_singleton]
theorem insR_nd {acc : List Ref} {r : Ref} (h : acc.Nodup) : (insR acc r).Nodup := by
  unfold insR
  split
  · exact h
  · rename_i hr
    rw [List.nodup_append]
    exact ⟨h, by simp, fun a ha b hb e => hr (by rw [List.mem_singleton.mp hb] at e; exact e ▸ ha)⟩
theorem insR_len {acc : List Ref} {r : Ref} : (insR acc r).length ≤ acc.length + 1 := by
  unfold insR; split
  · omega
  · rw [List.length_append, List.length_singleton]; omega
theorem test_fold : ∀ (ts : List Test) (acc : List Ref), acc.Nodup → (ts.foldl (fun acc t => insR (insR acc t.a) t.b) acc).Nodup ∧ (ts.foldl (fun acc t => insR (insR acc t.a) t.b) acc).length ≤ acc.length + 2 * ts.length ∧
    ∀ x, x ∈ ts.foldl (fun acc t => insR (insR acc t.a) t.b) acc ↔ x ∈ acc ∨ ∃ t ∈ ts, x = t.a ∨ x = t.b
  | [], acc, h => ⟨h, by simp, fun x => by simp⟩
  | t :: ts, acc, h => by
    rw [List.foldl_cons]
    obtain ⟨h1, h2, h3⟩ := test_fold ts _ (insR_nd (r := t.b) (insR_nd (r := t.a) h))
    have l1 := insR_len (acc := acc) (r := t.a)
    have l2 := insR_len (acc := insR acc t.a) (r := t.b)
    refine ⟨h1, by rw [List.length_cons]; omega, fun x => ?_⟩
    rw [h3, insR_mem, insR_mem]
    constructor
    · rintro (((h | h) | h) | ⟨u, hu, h⟩)
      · exact .inl h
      · exact .inr ⟨t, List.mem_cons_self .., .inl h⟩
      · exact .inr ⟨t, List.mem_cons_self .., .inr h⟩
      · exact .inr ⟨u, List.mem_cons_of_mem _ hu, h⟩
    · rintro (h | ⟨u, hu, h⟩)
      · exact .inl (.inl (.inl h))
      · rcases List.mem_cons.mp hu with rfl | hu
        · rcases h with h | h
          · exact .inl (.inl (.inr h))
          · exact .inl (.inr h)
        · exact .inr ⟨u, hu, h⟩
theorem tested_nd (ts : List Test) : (tested ts).Nodup := (test_fold ts [] List.nodup_nil).1
theorem tested_len (ts : List Test) : (tested ts).length ≤ 2 * ts.length := by have := (test_fold ts [] List.nodup_nil).2.1; simpa [tested] using this
theorem tested_mem {ts : List Test} {x : Ref} : x ∈ tested ts ↔ ∃ t ∈ ts, x = t.a ∨ x = t.b := by have := (test_fold ts [] List.nodup_nil).2.2 x; simpa [tested] using this
theorem told_full {refs : List Ref} {c : List Nat} {r : Ref} (h : r ∈ refs) (hl : c.length = refs.length) : ∃ x, toldAt refs c r = some x := by
  have : refs.idxOf r < c.length := by rw [hl]; exact List.idxOf_lt_length_of_mem h
  exact ⟨_, List.getElem?_eq_getElem this⟩
/-- all tests hold -/
def allHold (pairs : List (Str × List (List Nat))) (ts : List Test) (f : Ref → Nat) : Prop := ∀ t ∈ ts, [f t.a, f t.b] ∈ wordsOf pairs t.nm
theorem hold_full {pairs : List (Str × List (List Nat))} {ts : List Test} {c : List Nat} (hl : c.length = (tested ts).length) : mayHold pairs ts (tested ts) c = true ↔ allHold pairs ts fun r => (toldAt (tested ts) c r).getD 0 := by
  unfold mayHold allHold
  rw [List.all_eq_true]
  refine forall_congr' fun t => forall_congr' fun ht => ?_
  obtain ⟨x, ex⟩ := told_full (tested_mem.mpr ⟨t, ht, .inl rfl⟩) hl
  obtain ⟨z, ez⟩ := told_full (tested_mem.mpr ⟨t, ht, .inr rfl⟩) hl
  rw [ex, ez]
  simp [ex, ez]
/-- the signing that is told: the letters of the tested refs -/
def signF (pairs : List (Str × List (List Nat))) (sg : List Nat) (y : Way) : Option (List Nat) :=
  srch (fun i => lettersAt sg y.ps ((tested y.ts)[i]?.getD (0, 0))) (mayHold pairs y.ts (tested y.ts)) (tested y.ts).length []
def sgnAt (sg : List Nat) (y : Way) (c : List Nat) (r : Ref) : Nat := (toldAt (tested y.ts) c r).getD ((lettersAt sg y.ps r).headD 0)
theorem sign_some {pairs : List (Str × List (List Nat))} {sg : List Nat} {y : Way} {c : List Nat} (h : signF pairs sg y = some c) :
    c.length = (tested y.ts).length ∧ (∀ r ∈ tested y.ts, ∃ x, toldAt (tested y.ts) c r = some x ∧ x ∈ lettersAt sg y.ps r) ∧ mayHold pairs y.ts (tested y.ts) c = true := by
  obtain ⟨e, e1, e2, e3, e4⟩ := srch_some _ _ _ h
  rw [List.nil_append] at e1
  subst e1
  refine ⟨e2, fun r hr => ?_, ?_⟩
  · obtain ⟨x, hx⟩ := told_full hr e2
    refine ⟨x, hx, ?_⟩
    have := e3 _ _ hx
    rw [List.length_nil, Nat.zero_add, List.getElem?_eq_getElem (List.idxOf_lt_length_of_mem hr), List.getElem_idxOf, Option.getD_some] at this
    exact this
  · cases hn : y.ts with
    | nil => rfl
    | cons t ts =>
      rw [← hn]
      refine e4 (List.length_pos_of_mem (tested_mem.mpr ⟨t, by rw [hn]; exact List.mem_cons_self .., .inl rfl⟩))
theorem sign_iff {pairs : List (Str × List (List Nat))} {sg : List Nat} {y : Way} :
    (signF pairs sg y).isSome = canF (fun i => lettersAt sg y.ps ((tested y.ts)[i]?.getD (0, 0))) (mayHold pairs y.ts (tested y.ts)) (tested y.ts).length [] := by
  rw [Bool.eq_iff_iff, canF_iff]
  constructor
  · intro h
    obtain ⟨c, hc⟩ := Option.isSome_iff_exists.mp h
    obtain ⟨e, e1, e2, e3, e4⟩ := srch_some _ _ _ hc
    rw [List.nil_append] at e1
    subst e1
    exact ⟨c, e2, e3, by rw [List.nil_append]; exact (sign_some hc).2.2⟩
  · rintro ⟨e, e1, e2, e3⟩
    cases h : signF pairs sg y with
    | some c => rfl
    | none =>
      have := srch_none hold_mono _ _ h e e1 e2
      rw [this] at e3; cases e3
end Bk

set_option Elab.async false
set_option linter.all false
set_option maxRecDepth 100000
set_option maxHeartbeats 4000000
namespace K29
open PySem PySem.Spec PyProof.Rows L2 PD Bk
local macro_rules | `(tactic| walk_at "pd") => `(tactic| simp (config := { decide := true, maxSteps := 400000 }) only [dIZipL, dFzT, dDGetTU, dDInTU, dDGet2TU, dDcT, dDCompT, dFzT, dIsB_b, dStrI_i, dRevT, revT_tx, Bk.pd_sg, Bk.pd_rows, Bk.pd_pairs, Bk.pd_nums, Bk.pd_start, Bk.pd_lots, Bk.pd_js, Bk.pd_as, dFldO, dFldV_o, dMethO, dMethV_o, dDGetU, dDInU, dDGet2U, dDc, dDComp, dIKeys, dFrzD_v, dFrzT_v, dFrzO, dFz, dFzD, dSetF, dMakeX, dMake, dSet0, dSAdd, Bk.dMethV_bk, Bk.dFldV_bk, Bk.bk_program, Bk.bk_signs, Bk.bk_rows, Bk.bk_start, Bk.bk_ways, Bk.bk_kinds, Bk.bk_pairs, Bk.bk_numbers, Bk.bk_sorts, Bk.bk_formulas, Bk.bk_asks, Bk.bk_m1, Bk.bk_m2, Bk.bk_m3, Bk.bk_m4, Bk.bk_m5, Bk.bk_m6, Bk.bk_m7, Bk.bk_m8, Bk.bk_m9, Bk.bk_ma, Bk.bk_mb, Bk.bk_mc, Bk.atI_5, Bk.atI_6, Bk.atI_7, Bk.atI_8, dAbs_i, tx_app, tx_len, tx_emp, dIx_tx, sgn_tx, cutS_to, cutS_fr, cutS_fr1, dPar, dIRng2, dIEnumS, dIStr, dInSg, dJoin, dSlS, dUpper, dChain, dDNewT, dDGetT, dDPutT, dMin3_i, dMax3_i, dCallX, dRaise, dSeq, dSet, dAsg, dgN, dRet, dRetN, dIfS, dFor, dLoop, dDrop, dNext, dVar, dC, dNil, dCons, dOp, dUn, dTest, dTru, dAnd, dOr, dNot, dAndV, dOrV, dNotV, dIfE, dTup, dLst, dCB, dCall, dCallP, dBM, dBML, dBM0, dLc, dComp, dYes, dgTup, dgCons, dgNil, dgSub, dPart, dNoPart, dAug, dIsi, dEq, dNe, wipeD, endsOf,
  dFrz, dFrzV_i, dFrzV_s, dFrzV_b, dFrzV_n, dFrzV_t, dFrzV_l, dFrzV_r, dAddL_i, dAddL_s, dAddL_t, dAddL_rr, dAddL_rl, dAddL_lr, dAddL_ll, dMulL_i, dMulL_s, dMulL_r, dSlL_v, dSlLV_t, dSlLV_l, dSlLV_r, dMinU_1, dMinU_2, dSumL_1, dSetTx_1, dIx_l, dLen_l, dInG_l, truD_rol, tyD_rol, dInt1_b, dISeqV_l, dLtS_i, dLtS_s, ltP_i, ltP_s, lsq_rol, dDNew, dDGet, dDGet2, dDSetd, dDPut, dSub_i, dInt2_i, dNeg_i, dCmp_i, dIsN_n, dNotN_n, dInG_t, dInG_r, dIx_t, dIx_r, dLen_s, dLen_t, dLen_r, dTuple_1, dList_1, dInt1_i, dRev_v, dRevV_t, dRevV_r, dISeq_v, dISeqV_t, dISeqV_r, dIEnum_v, dIEnumV_t, dIEnumV_r, dPop_0, dPop_i, dAppend_1, dExtend_1, dSub3_i, dIRng1_v, dRng1V_i,
  seqOf_tup, seqOf_rol, seqW_tup, eqK_ss, eqK_ii, eqK_bb, eqK_nn, eqK_ts, eqK_st, eqK_ti, eqK_is, eqK_ns, flatD_str, flatD_int, flatD_bl, flatD_non, isT_NoneType_bool, isT_NoneType_int, isT_NoneType_str, isT_NoneType_tuple, isT_NoneType_list, isT_bool_bool, isT_bool_int, isT_bool_str, isT_bool_tuple, isT_bool_list, isT_int_bool, isT_int_int, isT_int_str, isT_int_tuple, isT_int_list, isT_str_bool, isT_str_int, isT_str_str, isT_str_tuple, isT_str_list, isT_tuple_bool, isT_tuple_int, isT_tuple_str, isT_tuple_tuple, isT_tuple_list, isT_list_bool, isT_list_int, isT_list_str, isT_list_tuple, isT_list_list, isNon_non, isNon_bl, isNon_int, isNon_str, isNon_tup, tyD_non, tyD_bl, tyD_int, tyD_str, tyD_tup, truD_bl, truD_int, truD_tup,
  atI_0, atI_1, atI_2, atI_3, atI_4, atI_m1, atI_m2, atI_m3, Option.some.injEq, exists_eq_left', exists_eq_left, beq_self_eq_true, Bool.not_true, Bool.not_false, if_true, if_false, true_and, and_true, Bool.false_eq_true, ↓reduceIte,
  List.getElem?_cons_zero, List.getElem?_cons_succ, List.set_cons_zero, List.set_cons_succ, List.map_cons, List.map_nil, List.length_cons, List.length_nil, mset_same, mset_mset, List.isEmpty_nil, List.isEmpty_cons, decide_eq_true_eq, beq_iff_eq, seqI_0, List.eraseIdx_cons_zero, List.eraseIdx_cons_succ, ixN_40, ixN_41, ixN_42, ixN_43, Nat.reduceAdd])
local macro_rules | `(tactic| walk_at "ne") => `(tactic| first | assumption | exact Ne.symm (by assumption))
local macro_rules | `(tactic| walk_at "mu") => `(tactic| first | exact mset_same | assumption | exact mset_skip (by walk_at "ne") (by walk_at "mu"))
local macro_rules | `(tactic| walk_at "go") => `(tactic| repeat (first | walk_at "pd" | refine ⟨_, seqOf_ref (by walk_at "mu"), ?_⟩ | refine ⟨⟨_, _, lstOf_ref (by walk_at "mu")⟩, ?_⟩ | refine ⟨_, _, lstOf_ref (by walk_at "mu"), ?_⟩ | refine ⟨(show CMul _ _ from Or.inr ⟨by decide, by decide⟩), ?_⟩ | refine ⟨(show CDiv _ _ from ⟨by decide, by decide⟩), ?_⟩))
local macro_rules | `(tactic| walk_at "w") => `(tactic| try walk_at "pd")
section
variable {P : Program} {w : World} {K : PySem.W.Frag} {mg : Str → Option Value} {base : Heap}
def sp_letters_of (C : Addr) : SpD := fun ds m Q => ∃ (p : Prog) (nv sv fv av : D) (l : List Nat), ds = [bookD C p nv sv fv av, (Mark.sign l).d] ∧ Q (.str (tx (if l = [] then p.sg else l))) m
theorem ok_letters_of  (T : Txt K mg)  : FnOk P w K mg base CX0 (1) T.f_letters_of T.fd_letters_of ["book", "mark"] (spL K 2 (sp_letters_of T.c_Book)) := by
  refine fn_ok T.F_letters_of sc_letters_of (fun cdv A outer s H E hr =>
(gss_one (gs_ret (ge_ifE (gt_cmpR (op_eqS hr.units) lr_eq (ge_ix (gv 1) ge_int) ge_str (nomark _)) (ge_fldO T.cls_Book T.na_Book_signs (gv 0)) (ge_ix (gv 1) ge_int))))) (fun ds m Q h => ?_)
  obtain ⟨p, nv, sv, fv, av, l, rfl, h⟩ := h
  unfold bookD Mark.d
  rw [show startD N_letters_of [.obj T.c_Book bkFs (bkVs p nv sv fv av), .tup [.str "sign", .str (tx l)]] = [some (.obj T.c_Book bkFs (bkVs p nv sv fv av)), some (.tup [.str "sign", .str (tx l)])] from rfl]
  walk_at "pd"
  by_cases c : l = []
  · rw [if_pos c] at h
    rw [if_pos (by rw [c])]
    exact sub_refl_fin h
  · rw [if_neg c] at h
    rw [if_neg (fun e => c (tx_inj e))]
    exact sub_refl_fin h
theorem inF_tx {l : List Nat} {ls : List (List Nat)} : inF (.str (tx l)) (ls.map fun l => D.str (tx l)) = decide (l ∈ ls) := by
  have : (ls.map fun l => D.str (tx l)) = (ls.map tx).map D.str := by rw [List.map_map]; rfl
  rw [this, inF_s]
  congr 1
  rw [List.mem_map]
  exact propext ⟨fun ⟨a, ha, e⟩ => tx_inj e ▸ ha, fun h => ⟨l, h, rfl⟩⟩
theorem flat_tx {ls : List (List Nat)} : (ls.map fun l => D.str (tx l)).all flatD = true := by rw [List.all_map]; exact List.all_eq_true.mpr fun _ _ => rfl
def sp_Book_in_pairs (C : Addr) : SpD := fun ds m Q => ∃ (p : Prog) (nv sv fv av : D) (n : Str) (l : List Nat), ds = [bookD C p nv sv fv av, .str n, .str (tx l)] ∧ n ∈ p.pairs.map (·.1) ∧ Q (.bl (decide (l ∈ Bk.wordsOf p.pairs n))) m
theorem ok_Book_in_pairs  (T : Txt K mg)  : FnOk P w K mg base CX0 (1) T.f_Book_in_pairs T.fd_Book_in_pairs ["self", "name", "word"] (spL K 3 (sp_Book_in_pairs T.c_Book)) := by
  refine fn_ok T.F_Book_in_pairs sc_Book_in_pairs (fun cdv A outer s H E hr =>
(gss_one (gs_ret (ge_cmpR op_inU lr_in (gv 2) (ge_dgetU (lt1 hr.units) (ge_fldO T.cls_Book T.na_Book__pairs (gv 0)) (gv 1) (fun _ _ => rfl)) (by rfl))))) (fun ds m Q h => ?_)
  obtain ⟨p, nv, sv, fv, av, n, l, rfl, hn, h⟩ := h
  unfold bookD
  rw [show startD N_Book_in_pairs [.obj T.c_Book bkFs (bkVs p nv sv fv av), .str n, .str (tx l)] = [some (.obj T.c_Book bkFs (bkVs p nv sv fv av)), some (.str n), some (.str (tx l))] from rfl]
  obtain ⟨ls, e⟩ := fnd_some hn
  walk_at "pd"
  refine ⟨_, dct_dic, _, rfl, _, by rw [valD_s, e]; rfl, ?_⟩
  unfold wordsD
  walk_at "pd"
  refine ⟨flat_tx, ?_⟩
  rw [inF_tx]
  unfold Bk.wordsOf at h
  rw [e] at h
  exact sub_refl_fin h
theorem refs_sign {ps : List Piece} {r : Ref} (h : r ∈ refsTo isSg (ps.map Piece.k)) : ∃ ms l, ps[r.1]? = some (.plain ms) ∧ ms[r.2]? = some (.sign l) := by
  obtain ⟨ws, w, h1, h2, h3⟩ := mem_refsTo.mp h
  rw [List.getElem?_map, Option.map_eq_some_iff] at h1
  obtain ⟨q, e1, e2⟩ := h1
  cases q with
  | lot n => cases e2
  | plain ms =>
    cases e2
    rw [List.getElem?_map, Option.map_eq_some_iff] at h2
    obtain ⟨mk, e3, e4⟩ := h2
    cases mk with
    | sign l => exact ⟨ms, l, e1, e3⟩
    | none => subst e4; simp [isSg, Mark.w] at h3
    | run lo hi => subst e4; simp [isSg, Mark.w] at h3
theorem atI_map {α : Type} {f : α → D} {l : List α} {i : Nat} {a : α} (h : l[i]? = some a) : atI (l.map f) (i : Int) = some (f a) := atI_nat (by rw [List.getElem?_map, h]; rfl)
def sp__letters_at (C : Addr) : SpD := fun ds m Q => ∃ (p : Prog) (nv sv fv av : D) (y : Way) (r : Ref), ds = [bookD C p nv sv fv av, y.d, refD r] ∧ r ∈ refsTo isSg y.k ∧ Q (.str (tx (lettersAt p.sg y.ps r))) m
theorem ok__letters_at  (T : Txt K mg) (G_letters_of : FnOk P w K mg base CX0 (1) T.f_letters_of T.fd_letters_of ["book", "mark"] (spL K 2 (sp_letters_of T.c_Book))) : FnOk P w K mg base CX0 (2) T.f__letters_at T.fd__letters_at ["book", "way", "ref"] (spL K 3 (sp__letters_at T.c_Book)) := by
  refine fn_ok T.F__letters_at sc__letters_at (fun cdv A outer s H E hr =>
(gss_cons (gs_asg (gv 2) (gg_tup (n := 2) rfl (ggs_cons (gg_name (i := 3) sc__letters_at.nd rfl (.inl rfl)) (ggs_cons (gg_name (i := 4) sc__letters_at.nd rfl (.inl rfl)) ggs_nil))))
 (gss_one (gs_ret (ge_call G_letters_of (hr.mono (by omega)) (by rfl) T.g_letters_of T.F_letters_of.kp T.b_letters_of (ga_cons (gv 0) (ga_cons (ge_ix (ge_ix (ge_ix (ge_ix (gv 1) ge_int) (gv 3)) ge_int) (gv 4)) ga_nil))))))) (fun ds m Q h => ?_)
  obtain ⟨p, nv, sv, fv, av, y, r, rfl, hr, h⟩ := h
  obtain ⟨ms, l, e1, e2⟩ := refs_sign (ps := y.ps) hr
  unfold lettersAt at h
  rw [e1] at h
  simp only [e2] at h
  unfold Way.d refD
  rw [show startD N__letters_at [bookD T.c_Book p nv sv fv av, .tup [.str y.mr, .tup (y.ps.map Piece.d), .tup (y.ts.map Test.d)], .tup [.int (r.1 : Int), .int (r.2 : Int)]] = [some (bookD T.c_Book p nv sv fv av), some (.tup [.str y.mr, .tup (y.ps.map Piece.d), .tup (y.ts.map Test.d)]), some (.tup [.int (r.1 : Int), .int (r.2 : Int)]), none, none] from rfl]
  walk_at "pd"
  refine ⟨_, atI_map e1, ?_⟩
  unfold Piece.d
  walk_at "pd"
  refine ⟨_, atI_map e2, p, nv, sv, fv, av, l, rfl, sub_refl_fin h⟩
end
end K29

set_option Elab.async false
set_option linter.all false
set_option maxRecDepth 100000
set_option maxHeartbeats 4000000
namespace K29
open PySem PySem.Spec PyProof.Rows L2 PD Bk
local macro_rules | `(tactic| walk_at "pd") => `(tactic| simp (config := { decide := true, maxSteps := 400000 }) only [dIZipL, dFzT, dDGetTU, dDInTU, dDGet2TU, dDcT, dDCompT, dFzT, dIsB_b, dStrI_i, dRevT, revT_tx, Bk.pd_sg, Bk.pd_rows, Bk.pd_pairs, Bk.pd_nums, Bk.pd_start, Bk.pd_lots, Bk.pd_js, Bk.pd_as, dFldO, dFldV_o, dMethO, dMethV_o, dDGetU, dDInU, dDGet2U, dDc, dDComp, dIKeys, dFrzD_v, dFrzT_v, dFrzO, dFz, dFzD, dSetF, dMakeX, dMake, dSet0, dSAdd, Bk.dMethV_bk, Bk.dFldV_bk, Bk.bk_program, Bk.bk_signs, Bk.bk_rows, Bk.bk_start, Bk.bk_ways, Bk.bk_kinds, Bk.bk_pairs, Bk.bk_numbers, Bk.bk_sorts, Bk.bk_formulas, Bk.bk_asks, Bk.bk_m1, Bk.bk_m2, Bk.bk_m3, Bk.bk_m4, Bk.bk_m5, Bk.bk_m6, Bk.bk_m7, Bk.bk_m8, Bk.bk_m9, Bk.bk_ma, Bk.bk_mb, Bk.bk_mc, Bk.atI_5, Bk.atI_6, Bk.atI_7, Bk.atI_8, dAbs_i, tx_app, tx_len, tx_emp, dIx_tx, sgn_tx, cutS_to, cutS_fr, cutS_fr1, dPar, dIRng2, dIEnumS, dIStr, dInSg, dJoin, dSlS, dUpper, dChain, dDNewT, dDGetT, dDPutT, dMin3_i, dMax3_i, dCallX, dRaise, dSeq, dSet, dAsg, dgN, dRet, dRetN, dIfS, dFor, dLoop, dDrop, dNext, dVar, dC, dNil, dCons, dOp, dUn, dTest, dTru, dAnd, dOr, dNot, dAndV, dOrV, dNotV, dIfE, dTup, dLst, dCB, dCall, dCallP, dBM, dBML, dBM0, dLc, dComp, dYes, dgTup, dgCons, dgNil, dgSub, dPart, dNoPart, dAug, dIsi, dEq, dNe, wipeD, endsOf,
  dFrz, dFrzV_i, dFrzV_s, dFrzV_b, dFrzV_n, dFrzV_t, dFrzV_l, dFrzV_r, dAddL_i, dAddL_s, dAddL_t, dAddL_rr, dAddL_rl, dAddL_lr, dAddL_ll, dMulL_i, dMulL_s, dMulL_r, dSlL_v, dSlLV_t, dSlLV_l, dSlLV_r, dMinU_1, dMinU_2, dSumL_1, dSetTx_1, dIx_l, dLen_l, dInG_l, truD_rol, tyD_rol, dInt1_b, dISeqV_l, dLtS_i, dLtS_s, ltP_i, ltP_s, lsq_rol, dDNew, dDGet, dDGet2, dDSetd, dDPut, dSub_i, dInt2_i, dNeg_i, dCmp_i, dIsN_n, dNotN_n, dInG_t, dInG_r, dIx_t, dIx_r, dLen_s, dLen_t, dLen_r, dTuple_1, dList_1, dInt1_i, dRev_v, dRevV_t, dRevV_r, dISeq_v, dISeqV_t, dISeqV_r, dIEnum_v, dIEnumV_t, dIEnumV_r, dPop_0, dPop_i, dAppend_1, dExtend_1, dSub3_i, dIRng1_v, dRng1V_i,
  seqOf_tup, seqOf_rol, seqW_tup, eqK_ss, eqK_ii, eqK_bb, eqK_nn, eqK_ts, eqK_st, eqK_ti, eqK_is, eqK_ns, flatD_str, flatD_int, flatD_bl, flatD_non, isT_NoneType_bool, isT_NoneType_int, isT_NoneType_str, isT_NoneType_tuple, isT_NoneType_list, isT_bool_bool, isT_bool_int, isT_bool_str, isT_bool_tuple, isT_bool_list, isT_int_bool, isT_int_int, isT_int_str, isT_int_tuple, isT_int_list, isT_str_bool, isT_str_int, isT_str_str, isT_str_tuple, isT_str_list, isT_tuple_bool, isT_tuple_int, isT_tuple_str, isT_tuple_tuple, isT_tuple_list, isT_list_bool, isT_list_int, isT_list_str, isT_list_tuple, isT_list_list, isNon_non, isNon_bl, isNon_int, isNon_str, isNon_tup, tyD_non, tyD_bl, tyD_int, tyD_str, tyD_tup, truD_bl, truD_int, truD_tup,
  atI_0, atI_1, atI_2, atI_3, atI_4, atI_m1, atI_m2, atI_m3, Option.some.injEq, exists_eq_left', exists_eq_left, beq_self_eq_true, Bool.not_true, Bool.not_false, if_true, if_false, true_and, and_true, Bool.false_eq_true, ↓reduceIte,
  List.getElem?_cons_zero, List.getElem?_cons_succ, List.set_cons_zero, List.set_cons_succ, List.map_cons, List.map_nil, List.length_cons, List.length_nil, mset_same, mset_mset, List.isEmpty_nil, List.isEmpty_cons, decide_eq_true_eq, beq_iff_eq, seqI_0, List.eraseIdx_cons_zero, List.eraseIdx_cons_succ, ixN_40, ixN_41, ixN_42, ixN_43, Nat.reduceAdd])
local macro_rules | `(tactic| walk_at "ne") => `(tactic| first | assumption | exact Ne.symm (by assumption))
local macro_rules | `(tactic| walk_at "mu") => `(tactic| first | exact mset_same | assumption | exact mset_skip (by walk_at "ne") (by walk_at "mu"))
local macro_rules | `(tactic| walk_at "go") => `(tactic| repeat (first | walk_at "pd" | refine ⟨_, seqOf_ref (by walk_at "mu"), ?_⟩ | refine ⟨⟨_, _, lstOf_ref (by walk_at "mu")⟩, ?_⟩ | refine ⟨_, _, lstOf_ref (by walk_at "mu"), ?_⟩ | refine ⟨(show CMul _ _ from Or.inr ⟨by decide, by decide⟩), ?_⟩ | refine ⟨(show CDiv _ _ from ⟨by decide, by decide⟩), ?_⟩))
local macro_rules | `(tactic| walk_at "w") => `(tactic| try walk_at "pd")
section
variable {P : Program} {w : World} {K : PySem.W.Frag} {mg : Str → Option Value} {base : Heap}
def sgD (x : Nat) : D := .str (tx [x])
def rk (r : Ref) : List Key := [.inl (r.1 : Int), .inl (r.2 : Int)]
theorem rk_inj {a b : Ref} (h : rk a = rk b) : a = b := by
  unfold rk at h
  injection h with h1 h2
  injection h2 with h2 _
  injection h1 with h1
  injection h2 with h2
  exact Prod.ext (by omega) (by omega)
theorem rk_key {r : Ref} : toKeyT (refD r) = some (rk r) := rfl
def toldK (refs : List Ref) (c : List Nat) : List (List Key × D) := (refs.zip c).map fun p => (rk p.1, sgD p.2)
theorem told_val {r : Ref} : ∀ {refs : List Ref} {c : List Nat}, c.length ≤ refs.length → valD (toldK refs c) (rk r) = (toldAt refs c r).map sgD
  | [], [], _ => by simp [toldK, valD, toldAt]
  | [], _ :: _, h => by simp at h
  | a :: refs, [], _ => by simp [toldK, valD, toldAt]
  | a :: refs, x :: c, h => by
    have ih := told_val (r := r) (refs := refs) (c := c) (by simpa using h)
    unfold toldK toldAt at *
    rw [List.zip_cons_cons, List.map_cons, List.idxOf_cons]
    by_cases h : a = r
    · subst h
      simp [valD]
    · have h1 : ¬ rk a = rk r := fun e => h (rk_inj e)
      have h2 : (a == r) = false := by simpa using h
      rw [h2]
      simp only [cond_false, List.getElem?_cons_succ]
      rw [← ih]
      simp [valD, h1]
theorem zip_refs {refs : List Ref} {c : List Nat} : zipD (refs.map refD) (c.map sgD) = (refs.zip c).map fun p => .tup [refD p.1, sgD p.2] := by
  unfold zipD
  rw [List.zip_map, List.map_map]
  rfl
theorem told_nd {refs : List Ref} {c : List Nat} (h : refs.Nodup) : ((refs.zip c).map fun p => rk p.1).Nodup := by
  have h1 : ((refs.zip c).map (·.1)).Nodup := by
    have : ((refs.zip c).map (·.1)) = refs.take c.length := by
      induction refs generalizing c with
      | nil => simp
      | cons a refs ih => cases c with
        | nil => simp
        | cons x c => simp [ih (List.nodup_cons.mp h).2]
    rw [this]
    exact h.sublist (List.take_sublist _ _)
  unfold List.Nodup at *
  rw [List.pairwise_map] at *
  exact h1.imp fun hn e => hn (rk_inj e)
def holdT (pairs : List (Str × List (List Nat))) (refs : List Ref) (c : List Nat) (t : Test) : Bool := match toldAt refs c t.a, toldAt refs c t.b with
  | some x, some z => decide ([x, z] ∈ Bk.wordsOf pairs t.nm)
  | _, _ => true
theorem hold_all {pairs : List (Str × List (List Nat))} {ts : List Test} {refs : List Ref} {c : List Nat} : mayHold pairs ts refs c = ts.all (holdT pairs refs c) := rfl
def sp__may_hold (C : Addr) : SpD := fun ds m Q => ∃ (p : Prog) (nv sv fv av : D) (y : Way) (refs : List Ref) (c : List Nat), ds = [bookD C p nv sv fv av, y.d, .rol (refs.map refD), .tup (c.map sgD)] ∧ refs.Nodup ∧ c.length ≤ refs.length ∧ refs.length ≤ 1000 ∧ (∀ t ∈ y.ts, t.nm ∈ p.pairs.map (·.1)) ∧ Q (.bl (mayHold p.pairs y.ts refs c)) m
theorem ok__may_hold  (T : Txt K mg) (G_Book_in_pairs : FnOk P w K mg base CX0 (1) T.f_Book_in_pairs T.fd_Book_in_pairs ["self", "name", "word"] (spL K 3 (sp_Book_in_pairs T.c_Book))) : FnOk P w K mg base CX0 (2) T.f__may_hold T.fd__may_hold ["book", "way", "refs", "signs"] (spL K 4 (sp__may_hold T.c_Book)) := by
  refine fn_ok T.F__may_hold sc__may_hold (fun cdv A outer s H E hr =>
(gss_cons (gs_fzT 4 (gs_setDcT (i := 4) (lt1 hr.units) (own := [("ref", 8), ("sign", 9)]) rfl sc__may_hold.nd rfl rfl (sw_trueD rfl rfl rfl (by decide +kernel)) (gi_zipW (by rfl) T.z_zip (ga_cons (gv 2) (ga_cons (gv 3) ga_nil))) (blkOk_by (N := N__may_hold) (sc := defScope s__may_hold) (by decide +kernel)) (fun _ _ _ _ _ => (gg_tup (n := 2) rfl (ggs_cons (gg_name (i := 8) sc__may_hold.nd rfl (.inl rfl)) (ggs_cons (gg_name (i := 9) sc__may_hold.nd rfl (.inl rfl)) ggs_nil)))) (fun _ _ _ _ _ => gts_nil) (fun _ _ _ _ _ => (gv 8)) (fun _ _ _ _ _ => (gv 9)) (by decide)))
 (gss_cons (gs_for PassesOwn.never rfl (gi_seq (ge_ix (gv 1) ge_int)) (gg_tup (n := 3) rfl (ggs_cons (gg_name (i := 5) sc__may_hold.nd rfl (.inl rfl)) (ggs_cons (gg_name (i := 6) sc__may_hold.nd rfl (.inl rfl)) (ggs_cons (gg_name (i := 7) sc__may_hold.nd rfl (.inl rfl)) ggs_nil))))
 (gss_one (gs_if (gw_and (gt_dinTU (lt1 hr.units) (gv 6) (gv 4)) (gw_and (gt_dinTU (lt1 hr.units) (gv 7) (gv 4)) (gw_and1 (gt_not (gt_val (ge_methO T.cls_Book T.m_Book_in_pairs G_Book_in_pairs (hr.mono (by omega)) T.b_Book_in_pairs (gv 0) (ga_cons (gv 5) (ga_cons (ge_frz (ge_op op_addL lr_addL (ge_dgetTU (lt1 hr.units) (gv 4) (gv 6) (fun _ _ => rfl)) (ge_dgetTU (lt1 hr.units) (gv 4) (gv 7) (fun _ _ => rfl)))) ga_nil)))))))).gt
 (gss_one (gs_ret ge_bl))
 gss_nil)))
 (gss_one (gs_ret ge_bl))))) (fun ds m Q h => ?_)
  obtain ⟨p, nv, sv, fv, av, y, refs, c, rfl, nd, hcl, hl, hn, h⟩ := h
  rw [show startD N__may_hold [bookD T.c_Book p nv sv fv av, y.d, .rol (refs.map refD), .tup (c.map sgD)] = [some (bookD T.c_Book p nv sv fv av), some (y.d), some (.rol (refs.map refD)), some (.tup (c.map sgD)), none, none, none, none, none, none] from rfl]
  walk_at "pd"
  refine ⟨_, _, _, rfl, lsq_rol, fun q hq => ?_⟩
  rw [zip_refs]
  refine dcompT_pure (fun p : Ref × Nat => D.tup [refD p.1, sgD p.2]) (fun p => (rk p.1, sgD p.2)) (fun _ => rfl) (by rw [List.length_zip]; omega) (told_nd nd) (fun u hu a R k => ?_) ?_
  · walk_at "pd"
    exact k _ rk_key
  refine ⟨q, _, rfl, mset_same, ?_⟩
  rw [show ((refs.zip c).map fun p : Ref × Nat => (rk p.1, sgD p.2)) = toldK refs c from rfl]
  have S := PD.Sub.del (PD.Sub.new (o := .dcT (toldK refs c)) hq) hq
  generalize mdel (mset m q (.dcT (toldK refs c))) q = m1 at *
  rw [Way.d.eq_1]
  walk_at "pd"
  refine loop_inv (fun rem s' m' => ∃ (pre post : List Test) (a b e x z : Option D), y.ts = pre ++ post ∧ rem = post.map Test.d ∧ (∀ t ∈ pre, holdT p.pairs refs c t = true) ∧ m' = m1 ∧
    s' = [some (bookD T.c_Book p nv sv fv av), some (.tup [.str y.mr, .tup (List.map Piece.d y.ps), .tup (List.map Test.d y.ts)]), some (.rol (List.map refD refs)), some (.tup (List.map sgD c)), some (dicTOf (toldK refs c)), a, b, e, x, z]) ?_ ?_ ⟨[], y.ts, _, _, _, _, _, rfl, rfl, fun _ h => (List.not_mem_nil h).elim, rfl, rfl⟩
  · rintro d rem s' m' R hR ⟨pre, post, a, b, e, x, z, e1, e2, hp, rfl, rfl⟩
    refine ⟨trivial, ?_⟩
    cases post with
    | nil => cases e2
    | cons t post =>
      rw [List.map_cons] at e2
      injection e2 with e2 e3
      subst e2
      have ht : t ∈ y.ts := by rw [e1]; simp
      have go : holdT p.pairs refs c t = true → ∀ a b e x z : Option D, R [some (bookD T.c_Book p nv sv fv av), some (.tup [.str y.mr, .tup (List.map Piece.d y.ps), .tup (List.map Test.d y.ts)]), some (.rol (List.map refD refs)), some (.tup (List.map sgD c)), some (dicTOf (toldK refs c)), a, b, e, x, z] m' := fun hh a b e x z =>
        hR _ _ ⟨pre ++ [t], post, a, b, e, x, z, by rw [e1]; simp, e3, fun u hu => (List.mem_append.mp hu).elim (hp u) fun hu => by rw [List.mem_singleton.mp hu]; exact hh, rfl, rfl⟩
      rw [Test.d.eq_1]
      walk_at "pd"
      refine ⟨_, dctT_dic, _, rk_key, ?_⟩
      rw [told_val hcl]
      cases ea : toldAt refs c t.a with
      | none =>
        walk_at "pd"
        exact go (by unfold holdT; rw [ea]) _ _ _ _ _
      | some xa =>
        walk_at "pd"
        refine ⟨_, dctT_dic, _, rk_key, ?_⟩
        rw [told_val hcl]
        cases eb : toldAt refs c t.b with
        | none =>
          walk_at "pd"
          exact go (by unfold holdT; rw [ea, eb]) _ _ _ _ _
        | some xb =>
          walk_at "pd"
          refine ⟨_, dctT_dic, _, rk_key, _, by rw [told_val hcl, ea]; rfl, _, dctT_dic, _, rk_key, _, by rw [told_val hcl, eb]; rfl, ?_⟩
          unfold sgD
          walk_at "pd"
          refine ⟨p, nv, sv, fv, av, t.nm, [xa, xb], rfl, hn t ht, ?_⟩
          cases eh : decide ([xa, xb] ∈ Bk.wordsOf p.pairs t.nm) with
          | true =>
            walk_at "pd"
            exact go (by unfold holdT; rw [ea, eb]; exact eh) _ _ _ _ _
          | false =>
            walk_at "pd"
            refine ⟨m, S, ?_⟩
            have : mayHold p.pairs y.ts refs c = false := by
              rw [hold_all, List.all_eq_false]
              exact ⟨t, ht, by unfold holdT; rw [ea, eb]; simp [eh]⟩
            rw [this] at h
            exact h
  · rintro s' m' ⟨pre, post, a, b, e, x, z, e1, e2, hp, rfl, rfl⟩
    refine ⟨trivial, m, S, ?_⟩
    cases post with
    | cons t post => cases e2
    | nil =>
      rw [List.append_nil] at e1
      have : mayHold p.pairs y.ts refs c = true := by
        rw [hold_all, List.all_eq_true, e1]
        exact hp
      rw [this] at h
      exact h
end
end K29

set_option Elab.async false
set_option linter.all false
set_option maxRecDepth 100000
set_option maxHeartbeats 4000000
namespace K29
open PySem PySem.Spec PyProof.Rows L2 PD Bk
local macro_rules | `(tactic| walk_at "pd") => `(tactic| simp (config := { decide := true, maxSteps := 400000 }) only [dIZipL, dFzT, dDGetTU, dDInTU, dDGet2TU, dDcT, dDCompT, dFzT, dIsB_b, dStrI_i, dRevT, revT_tx, Bk.pd_sg, Bk.pd_rows, Bk.pd_pairs, Bk.pd_nums, Bk.pd_start, Bk.pd_lots, Bk.pd_js, Bk.pd_as, dFldO, dFldV_o, dMethO, dMethV_o, dDGetU, dDInU, dDGet2U, dDc, dDComp, dIKeys, dFrzD_v, dFrzT_v, dFrzO, dFz, dFzD, dSetF, dMakeX, dMake, dSet0, dSAdd, Bk.dMethV_bk, Bk.dFldV_bk, Bk.bk_program, Bk.bk_signs, Bk.bk_rows, Bk.bk_start, Bk.bk_ways, Bk.bk_kinds, Bk.bk_pairs, Bk.bk_numbers, Bk.bk_sorts, Bk.bk_formulas, Bk.bk_asks, Bk.bk_m1, Bk.bk_m2, Bk.bk_m3, Bk.bk_m4, Bk.bk_m5, Bk.bk_m6, Bk.bk_m7, Bk.bk_m8, Bk.bk_m9, Bk.bk_ma, Bk.bk_mb, Bk.bk_mc, Bk.atI_5, Bk.atI_6, Bk.atI_7, Bk.atI_8, dAbs_i, tx_app, tx_len, tx_emp, dIx_tx, sgn_tx, cutS_to, cutS_fr, cutS_fr1, dPar, dIRng2, dIEnumS, dIStr, dInSg, dJoin, dSlS, dUpper, dChain, dDNewT, dDGetT, dDPutT, dMin3_i, dMax3_i, dCallX, dRaise, dSeq, dSet, dAsg, dgN, dRet, dRetN, dIfS, dFor, dLoop, dDrop, dNext, dVar, dC, dNil, dCons, dOp, dUn, dTest, dTru, dAnd, dOr, dNot, dAndV, dOrV, dNotV, dIfE, dTup, dLst, dCB, dCall, dCallP, dBM, dBML, dBM0, dLc, dComp, dYes, dgTup, dgCons, dgNil, dgSub, dPart, dNoPart, dAug, dIsi, dEq, dNe, wipeD, endsOf,
  dFrz, dFrzV_i, dFrzV_s, dFrzV_b, dFrzV_n, dFrzV_t, dFrzV_l, dFrzV_r, dAddL_i, dAddL_s, dAddL_t, dAddL_rr, dAddL_rl, dAddL_lr, dAddL_ll, dMulL_i, dMulL_s, dMulL_r, dSlL_v, dSlLV_t, dSlLV_l, dSlLV_r, dMinU_1, dMinU_2, dSumL_1, dSetTx_1, dIx_l, dLen_l, dInG_l, truD_rol, tyD_rol, dInt1_b, dISeqV_l, dLtS_i, dLtS_s, ltP_i, ltP_s, lsq_rol, dDNew, dDGet, dDGet2, dDSetd, dDPut, dSub_i, dInt2_i, dNeg_i, dCmp_i, dIsN_n, dNotN_n, dInG_t, dInG_r, dIx_t, dIx_r, dLen_s, dLen_t, dLen_r, dTuple_1, dList_1, dInt1_i, dRev_v, dRevV_t, dRevV_r, dISeq_v, dISeqV_t, dISeqV_r, dIEnum_v, dIEnumV_t, dIEnumV_r, dPop_0, dPop_i, dAppend_1, dExtend_1, dSub3_i, dIRng1_v, dRng1V_i,
  seqOf_tup, seqOf_rol, seqW_tup, eqK_ss, eqK_ii, eqK_bb, eqK_nn, eqK_ts, eqK_st, eqK_ti, eqK_is, eqK_ns, flatD_str, flatD_int, flatD_bl, flatD_non, isT_NoneType_bool, isT_NoneType_int, isT_NoneType_str, isT_NoneType_tuple, isT_NoneType_list, isT_bool_bool, isT_bool_int, isT_bool_str, isT_bool_tuple, isT_bool_list, isT_int_bool, isT_int_int, isT_int_str, isT_int_tuple, isT_int_list, isT_str_bool, isT_str_int, isT_str_str, isT_str_tuple, isT_str_list, isT_tuple_bool, isT_tuple_int, isT_tuple_str, isT_tuple_tuple, isT_tuple_list, isT_list_bool, isT_list_int, isT_list_str, isT_list_tuple, isT_list_list, isNon_non, isNon_bl, isNon_int, isNon_str, isNon_tup, tyD_non, tyD_bl, tyD_int, tyD_str, tyD_tup, truD_bl, truD_int, truD_tup,
  atI_0, atI_1, atI_2, atI_3, atI_4, atI_m1, atI_m2, atI_m3, Option.some.injEq, exists_eq_left', exists_eq_left, beq_self_eq_true, Bool.not_true, Bool.not_false, if_true, if_false, true_and, and_true, Bool.false_eq_true, ↓reduceIte,
  List.getElem?_cons_zero, List.getElem?_cons_succ, List.set_cons_zero, List.set_cons_succ, List.map_cons, List.map_nil, List.length_cons, List.length_nil, mset_same, mset_mset, List.isEmpty_nil, List.isEmpty_cons, decide_eq_true_eq, beq_iff_eq, seqI_0, List.eraseIdx_cons_zero, List.eraseIdx_cons_succ, ixN_40, ixN_41, ixN_42, ixN_43, Nat.reduceAdd])
local macro_rules | `(tactic| walk_at "ne") => `(tactic| first | assumption | exact Ne.symm (by assumption))
local macro_rules | `(tactic| walk_at "mu") => `(tactic| first | exact mset_same | assumption | exact mset_skip (by walk_at "ne") (by walk_at "mu"))
local macro_rules | `(tactic| walk_at "go") => `(tactic| repeat (first | walk_at "pd" | refine ⟨_, seqOf_ref (by walk_at "mu"), ?_⟩ | refine ⟨⟨_, _, lstOf_ref (by walk_at "mu")⟩, ?_⟩ | refine ⟨_, _, lstOf_ref (by walk_at "mu"), ?_⟩ | refine ⟨(show CMul _ _ from Or.inr ⟨by decide, by decide⟩), ?_⟩ | refine ⟨(show CDiv _ _ from ⟨by decide, by decide⟩), ?_⟩))
local macro_rules | `(tactic| walk_at "w") => `(tactic| try walk_at "pd")
section
variable {P : Program} {w : World} {K : PySem.W.Frag} {mg : Str → Option Value} {base : Heap}
theorem cut_tail {α : Type} (x : α) (xs : List α) : PD.cutD (x :: xs) (some 1) none = xs := by
  unfold PD.cutD
  rw [HT.sIx_none, show (1 : Int) = ((1 : Nat) : Int) from rfl, HT.sIx_nat, List.length_cons, Nat.min_eq_left (by omega), List.drop_one, List.tail_cons, List.take_of_length_le (by omega)]
def sp__tested_refs : SpD := fun ds m Q => ∃ (y : Way), ds = [y.d] ∧ y.ts.length ≤ 100 ∧ Q (.rol ((tested y.ts).map refD)) m
theorem ins_step {m1 : Mu} {q : Addr} {acc : List Ref} {r : Ref} {R : Mu → Prop} (hl : acc.length ≤ 1000) (e : m1 q = some (.lst (acc.map refD))) (h : ∀ m2, (∀ x o, x ≠ q → m1 x = some o → m2 x = some o) → m2 q = some (.lst ((insR acc r).map refD)) → R m2) :
    dInPP not (refD r) (.ref q) m1 fun x m3 => match x with
      | .bl b => if b = true then (∃ a ds, lstOf m3 (.ref q) = some (a, ds)) ∧ ∃ a es, lstOf m3 (.ref q) = some (a, es) ∧ es.length < sizeLine ∧ R (mset m3 a (.lst (es ++ [refD r]))) else R m3
      | _ => False := by
  refine ⟨_, seqOf_ref e, ref_pln _, refs_pln _, ref_dep _, ?_⟩
  rw [inP_ref]
  unfold insR at h
  by_cases c : r ∈ acc
  · rw [decide_eq_true c]
    rw [if_pos c] at h
    exact h m1 (fun _ _ _ e => e) e
  · rw [decide_eq_false c]
    rw [if_neg c] at h
    refine ⟨⟨_, _, lstOf_ref e⟩, _, _, lstOf_ref e, by rw [List.length_map]; exact Nat.lt_of_le_of_lt hl (by decide), h _ (fun x o n e => by rw [mset_ne n]; exact e) ?_⟩
    rw [mset_same, List.map_append]
    rfl
theorem ok__tested_refs  (T : Txt K mg)  : FnOk P w K mg base CX0 (1) T.f__tested_refs T.fd__tested_refs ["way"] (spL K 1 sp__tested_refs) := by
  refine fn_ok T.F__tested_refs sc__tested_refs (fun cdv A outer s H E hr =>
(gss_cons (gs_set (i := 1) sc__tested_refs.nd rfl (.inl rfl) (ge_lst ga_nil))
 (gss_cons (gs_for PassesOwn.never rfl (gi_seq (ge_ix (gv 0) ge_int)) (gg_name (i := 2) sc__tested_refs.nd rfl (.inl rfl))
 (gss_one (gs_for PassesOwn.never rfl (gi_seq (ge_sliceL (gv 2) (go_some ge_int) go_none)) (gg_name (i := 3) sc__tested_refs.nd rfl (.inl rfl))
 (gss_one (gs_if (gt_cmpR (op_notInP hr.units) lr_notInPP (gv 3) (gv 1) (by rfl))
 (gss_one (gs_expr (ge_bm PySem.F.slot_list_append PySem.F.type_list_append mt_append lm_append (gv 1) (ga_cons (gv 3) ga_nil))))
 gss_nil)))))
 (gss_one (gs_ret (ge_frz (gv 1))))))) (fun ds m Q h => ?_)
  obtain ⟨y, rfl, hl, h⟩ := h
  rw [Way.d.eq_1]
  rw [show startD N__tested_refs [.tup [.str y.mr, .tup (y.ps.map Piece.d), .tup (y.ts.map Test.d)]] = [some (.tup [.str y.mr, .tup (y.ps.map Piece.d), .tup (y.ts.map Test.d)]), none, none, none] from rfl]
  walk_at "pd"
  intro q hq
  refine loop_pre (fun pre s' m' => (∃ a b, s' = [some (.tup [.str y.mr, .tup (y.ps.map Piece.d), .tup (y.ts.map Test.d)]), some (.ref q), a, b]) ∧ PD.Sub m m' ∧ m' q = some (.lst ((tested pre).map refD))) Test.d (fun _ _ _ _ => trivial) ?_ ?_ ⟨⟨_, _, rfl⟩, PD.Sub.new hq, mset_same⟩
  · rintro pre t post e s' m' R ⟨⟨a, b, rfl⟩, S, hm⟩ hR
    have hpl : pre.length ≤ 100 := by rw [e, List.length_append] at hl; omega
    have l1 := tested_len pre
    have et : tested (pre ++ [t]) = insR (insR (tested pre) t.a) t.b := by unfold tested; rw [List.foldl_append]; rfl
    rw [Test.d.eq_1]
    walk_at "pd"
    rw [cut_tail]
    walk_at "pd"
    refine ins_step (by omega) hm fun m2 k2 e2 => ?_
    refine ins_step (by have := insR_len (acc := tested pre) (r := t.a); omega) e2 fun m3 k3 e3 => ?_
    refine hR _ _ ⟨⟨_, _, rfl⟩, fun x o ex => ?_, by rw [et]; exact e3⟩
    have nx : x ≠ q := fun z => by rw [z, hq] at ex; cases ex
    exact k3 x o nx (k2 x o nx (S x o ex))
  · rintro s' m' ⟨⟨a, b, rfl⟩, S, hm⟩
    walk_at "pd"
    exact ⟨_, hm, m, PD.Sub.del S hq, h⟩
def ctD (c : List Nat) : D := .tup (c.map sgD)
def letF (sg : List Nat) (y : Way) (i : Nat) : List Nat := lettersAt sg y.ps ((tested y.ts)[i]?.getD (0, 0))
def wt (B R : Nat) (c : List Nat) : Nat := (B + 1) ^ (R - c.length)
def WayOk (p : Prog) (y : Way) : Prop := y.ps.length ≤ 100 ∧ y.ts.length ≤ 2 ∧ (∀ ms, Piece.plain ms ∈ y.ps → ms.length ≤ 10 ∧ ∀ l, Mark.sign l ∈ ms → l.length ≤ 26) ∧ p.sg.length ≤ 26 ∧ (∀ t ∈ y.ts, t.nm ∈ p.pairs.map (·.1) ∧ t.a ∈ refsTo isSg y.k ∧ t.b ∈ refsTo isSg y.k)
theorem letters_le {p : Prog} {y : Way} (o : WayOk p y) (r : Ref) : (lettersAt p.sg y.ps r).length ≤ 26 := by
  unfold lettersAt
  split
  · rename_i ms e1
    split
    · rename_i l e2
      split
      · exact o.2.2.2.1
      · exact (o.2.2.1 ms (List.mem_of_getElem? e1)).2 l (List.mem_of_getElem? e2)
    · exact Nat.zero_le _
  · exact Nat.zero_le _
def sp__signs_for (C : Addr) : SpD := fun ds m Q => ∃ (p : Prog) (nv sv fv av : D) (y : Way), ds = [bookD C p nv sv fv av, y.d, .rol ((tested y.ts).map refD)] ∧ WayOk p y ∧ Q (match signF p.pairs p.sg y with | some c => ctD c | none => .non) m
theorem wt_pos {R : Nat} {c : List Nat} : 0 < wt 26 R c := Nat.pow_pos (by decide)
theorem len_wt {R : Nat} : ∀ cs : List (List Nat), cs.length ≤ (cs.map (wt 26 R)).sum
  | [] => Nat.zero_le _
  | c :: cs => by
    rw [List.length_cons, List.map_cons, List.sum_cons]
    have := len_wt (R := R) cs
    have := wt_pos (R := R) (c := c)
    omega
theorem wt_kids {R : Nat} {c : List Nat} (hc : c.length < R) : ∀ ls : List (List Nat), (∀ d ∈ ls, d.length = c.length + 1) → (ls.map (wt 26 R)).sum = ls.length * 27 ^ (R - (c.length + 1))
  | [], _ => by simp
  | d :: ls, h => by
    rw [List.map_cons, List.sum_cons, List.length_cons, wt_kids hc ls fun d hd => h d (List.mem_cons_of_mem _ hd), Nat.succ_mul]
    unfold wt
    rw [h d (List.mem_cons_self ..)]
    show 27 ^ (R - (c.length + 1)) + _ = _
    omega
theorem rev_find {α β : Type} {f : α → Option β} {xs : List α} {x : α} : (xs ++ [x]).reverse.findSome? f = (f x).or (xs.reverse.findSome? f) := by
  rw [List.reverse_append, List.reverse_singleton, List.singleton_append, List.findSome?_cons]
  cases f x <;> rfl
theorem find_app {α β : Type} {f : α → Option β} {xs zs : List α} : (xs ++ zs).reverse.findSome? f = (zs.reverse.findSome? f).or (xs.reverse.findSome? f) := by
  rw [List.reverse_append, List.findSome?_append]
theorem find_congr {α β : Type} {f g : α → Option β} : ∀ l : List α, (∀ x ∈ l, f x = g x) → l.findSome? f = l.findSome? g
  | [], _ => rfl
  | x :: l, h => by rw [List.findSome?_cons, List.findSome?_cons, h x (List.mem_cons_self ..), find_congr l fun y hy => h y (List.mem_cons_of_mem _ hy)]
theorem ct_app {c : List Nat} {x : Nat} : ctD (c ++ [x]) = .tup (c.map sgD ++ [sgD x]) := by unfold ctD; rw [List.map_append]; rfl
set_option maxHeartbeats 8000000 in
theorem ok__signs_for  (T : Txt K mg) (G__may_hold : FnOk P w K mg base CX0 (2) T.f__may_hold T.fd__may_hold ["book", "way", "refs", "signs"] (spL K 4 (sp__may_hold T.c_Book))) (G__letters_at : FnOk P w K mg base CX0 (2) T.f__letters_at T.fd__letters_at ["book", "way", "ref"] (spL K 3 (sp__letters_at T.c_Book))) : FnOk P w K mg base CX0 (3) T.f__signs_for T.fd__signs_for ["book", "way", "refs"] (spL K 3 (sp__signs_for T.c_Book)) := by
  refine fn_ok T.F__signs_for sc__signs_for (fun cdv A outer s H E hr =>
(gss_cons (gs_set (i := 3) sc__signs_for.nd rfl (.inl rfl) (ge_lst (ga_cons (ge_tup ga_nil) ga_nil)))
 (gss_cons (gs_while PassesOwn.never (gt_tru (gv 3))
 (gss_cons (gs_set (i := 4) sc__signs_for.nd rfl (.inr rfl) (ge_bm0 PySem.F.slot_list_pop PySem.F.type_list_pop mt_popU lm_pop (gv 3)))
 (gss_cons (gs_if (gt_cmpR (op_eqS hr.units) lr_eq (ge_callB call_lenU lc_len (by rfl) T.z_len PySem.boot_len (ga_cons (gv 4) ga_nil)) (ge_callB call_lenU lc_len (by rfl) T.z_len PySem.boot_len (ga_cons (gv 2) ga_nil)) (nomark _))
 (gss_one (gs_ret (gv 4)))
 gss_nil)
 (gss_cons (gs_set (i := 5) sc__signs_for.nd rfl (.inl rfl) (ge_call G__letters_at (hr.mono (by omega)) (by rfl) T.g__letters_at T.F__letters_at.kp T.b__letters_at (ga_cons (gv 0) (ga_cons (gv 1) (ga_cons (ge_ix (gv 2) (ge_callB call_lenU lc_len (by rfl) T.z_len PySem.boot_len (ga_cons (gv 4) ga_nil))) ga_nil)))))
 (gss_cons (gs_setLc (i := 6) (own := [("sign", 7)]) rfl sc__signs_for.nd rfl rfl (sw_true rfl rfl rfl (by decide +kernel)) (gi_str (gv 5)) (blkOk_by (N := N__signs_for) (sc := defScope s__signs_for) (by decide +kernel)) (fun _ _ _ _ _ => (gg_name (i := 7) sc__signs_for.nd rfl (.inl rfl))) (fun _ _ _ _ _ => gts_nil) (fun _ _ _ _ _ => (ge_op op_addL lr_addL (gv 4) (ge_tup (ga_cons (gv 7) ga_nil)))) (by decide))
 (gss_one (gs_expr (ge_bm PySem.F.slot_list_extend PySem.F.type_list_extend mt_extendU lm_extend (gv 3) (ga_cons (ge_lc (own := [("signs", 8)]) rfl sc__signs_for.nd (gi_seq (gv 6)) (blkOk_by (N := N__signs_for) (sc := defScope s__signs_for) (by decide +kernel)) (fun _ _ _ _ _ => (gg_name (i := 8) sc__signs_for.nd rfl (.inl rfl))) (fun _ _ _ _ _ => (gts_one (gt_val (ge_call G__may_hold (hr.mono (by omega)) (by rfl) T.g__may_hold T.F__may_hold.kp T.b__may_hold (ga_cons (gv 0) (ga_cons (gv 1) (ga_cons (gv 2) (ga_cons (gv 8) ga_nil)))))))) (fun _ _ _ _ _ => (gv 8)) (by decide)) ga_nil)))))))))
 (gss_one (gs_ret ge_non))))) (fun ds m Q h => ?_)
  obtain ⟨p, nv, sv, fv, av, y, rfl, o, h⟩ := h
  rw [show startD N__signs_for [bookD T.c_Book p nv sv fv av, y.d, .rol ((tested y.ts).map refD)] = [some (bookD T.c_Book p nv sv fv av), some (y.d), some (.rol ((tested y.ts).map refD)), none, none, none, none, none, none] from rfl]
  have lR := tested_len y.ts
  have lT := o.2.1
  have hmem : ∀ i, i < (tested y.ts).length → (tested y.ts)[i]?.getD (0, 0) ∈ refsTo isSg y.k := fun i hi => by
    rw [List.getElem?_eq_getElem hi, Option.getD_some]
    obtain ⟨t, ht, e⟩ := tested_mem.mp (List.getElem_mem hi)
    have := o.2.2.2.2 t ht
    rcases e with e | e <;> rw [e]
    · exact this.2.1
    · exact this.2.2
  have eF : signF p.pairs p.sg y = srch (letF p.sg y) (mayHold p.pairs y.ts (tested y.ts)) (tested y.ts).length [] := rfl
  have nd := tested_nd y.ts
  have hnm : ∀ t ∈ y.ts, t.nm ∈ p.pairs.map (·.1) := fun t ht => (o.2.2.2.2 t ht).1
  have hw : ∀ R, R ≤ 4 → 27 ^ R ≤ 531441 := fun R h => Nat.pow_le_pow_right (by decide : 0 < 27) h
  generalize hR : (tested y.ts).length = R at *
  have hR4 : R ≤ 4 := by omega
  let F : List Nat → Option (List Nat) := fun c => srch (letF p.sg y) (mayHold p.pairs y.ts (tested y.ts)) (R - c.length) c
  walk_at "pd"
  intro q hq
  refine ⟨fun n s' m' => ∃ (cs : List (List Nat)) (a b c d e : Option D), s' = [some (bookD T.c_Book p nv sv fv av), some y.d, some (.rol ((tested y.ts).map refD)), some (.ref q), a, b, c, d, e] ∧ PD.Sub m m' ∧ m' q = some (.lst (cs.map ctD)) ∧
      (∀ c ∈ cs, c.length ≤ R) ∧ (cs.map (wt 26 R)).sum = n ∧ n ≤ 531441 ∧ cs.reverse.findSome? F = signF p.pairs p.sg y, ⟨_, [[]], _, _, _, _, _, rfl, PD.Sub.new hq, mset_same, fun c hc => ?_, rfl, ?_, ?_⟩, ?_⟩
  · rw [List.mem_singleton.mp hc]; exact Nat.zero_le _
  · have := hw R hR4
    simp only [List.map_cons, List.map_nil, List.sum_cons, List.sum_nil, wt, List.length_nil, Nat.sub_zero]
    omega
  · rw [eF]
    rw [List.reverse_singleton, List.findSome?_cons]
    have : F [] = srch (letF p.sg y) (mayHold p.pairs y.ts (tested y.ts)) R [] := rfl
    rw [this]
    cases srch (letF p.sg y) (mayHold p.pairs y.ts (tested y.ts)) R [] <;> rfl
  · rintro n s' m' ⟨cs, a, b, c, d, e, rfl, S, hm, hc, hn, hn2, hf⟩
    rcases List.eq_nil_or_concat cs with rfl | ⟨cs, c0, rfl⟩
    · walk_at "pd"
      rw [show signF p.pairs p.sg y = none from hf.symm] at h
      exact ⟨_, truD_ref hm, m, S, h⟩
    · simp only [List.concat_eq_append] at hm hc hn hf
      rw [rev_find] at hf
      have c0R := hc c0 (List.mem_append_right _ (List.mem_singleton_self _))
      rw [List.map_append, List.sum_append, List.map_singleton, List.sum_singleton] at hn
      have w0 : 0 < wt 26 R c0 := wt_pos
      have lw := len_wt (R := R) cs
      walk_at "pd"
      refine ⟨true, by rw [truD_ref hm, List.map_append]; simp, ?_⟩
      rw [if_pos rfl]
      refine ⟨⟨_, _, lstOf_ref hm⟩, q, _, ctD c0, lstOf_ref hm, by rw [List.map_append, List.map_singleton, List.length_append, List.length_singleton, Nat.add_sub_cancel, List.getElem?_append_right (Nat.le_refl _), Nat.sub_self]; rfl, ?_⟩
      rw [List.map_append, List.map_singleton, List.dropLast_concat]
      rw [show ctD c0 = .tup (c0.map sgD) from rfl]
      walk_at "pd"
      rw [List.length_map, List.length_map, hR]
      by_cases e : c0.length = R
      · rw [if_pos (by rw [e])]
        have : F c0 = some c0 := by
          show srch _ _ (R - c0.length) c0 = _
          rw [e, Nat.sub_self]; rfl
        rw [this] at hf
        rw [← show some c0 = signF p.pairs p.sg y from hf] at h
        refine ⟨m, fun x o ex => ?_, h⟩
        have nx : x ≠ q := fun z => by rw [z, hq] at ex; cases ex
        rw [mset_ne nx]; exact S x o ex
      · rw [if_neg (by omega)]
        have hlt : c0.length < R := by omega
        have hr := hmem c0.length hlt
        have er : (tested y.ts)[c0.length]? = some ((tested y.ts)[c0.length]?.getD (0, 0)) := by
          rw [List.getElem?_eq_getElem (by omega)]; rfl
        refine ⟨_, atI_map er, p, nv, sv, fv, av, y, _, rfl, hr, ?_⟩
        have hll := letters_le o ((tested y.ts)[c0.length]?.getD (0, 0))
        have eL : lettersAt p.sg y.ps ((tested y.ts)[c0.length]?.getD (0, 0)) = letF p.sg y c0.length := rfl
        rw [eL] at hll ⊢
        generalize hL : letF p.sg y c0.length = L at *
        walk_at "pd"
        intro q2 hq2
        have nq : q ≠ q2 := fun z => by rw [← z, mset_same] at hq2; cases hq2
        refine comp_all (us := L) (fun c => .str (tx [c])) (fun x => ctD (c0 ++ [x])) (fun _ => trivial) (by omega) (fun u hu a R k => ?_) ?_
        · walk_at "pd"
          rw [ct_app] at k
          have : sizeLine = 16777216 := rfl
          exact ⟨by rw [List.length_map]; omega, k⟩
        refine ⟨⟨_, _, lstOf_ref (by rw [mset_ne nq, mset_same])⟩, ?_⟩
        rw [dISeqV_r]
        refine ⟨_, seqOf_ref mset_same, fun q3 hq3 => ?_⟩
        have n2 : q2 ≠ q3 := fun z => by rw [← z, mset_same] at hq3; cases hq3
        have n3 : q ≠ q3 := fun z => by rw [← z, mset_ne nq, mset_same] at hq3; cases hq3
        refine comp_pT (us := L) (fun x => ctD (c0 ++ [x])) (fun x => ctD (c0 ++ [x])) (fun x => mayHold p.pairs y.ts (tested y.ts) (c0 ++ [x])) (fun a => by rw [seqOf_ref (mset_skip n2 mset_same)]) (by omega) (fun u hu a R1 R2 k1 k2 => ?_) ?_
        · walk_at "pd"
          refine ⟨p, nv, sv, fv, av, y, tested y.ts, c0 ++ [u], rfl, nd, by rw [List.length_append, List.length_singleton]; omega, by omega, hnm, ?_⟩
          cases eh : mayHold p.pairs y.ts (tested y.ts) (c0 ++ [u]) with
          | true => walk_at "pd"; exact k1 eh
          | false => walk_at "pd"; exact k2 eh
        generalize hk : L.filter (fun x => mayHold p.pairs y.ts (tested y.ts) (c0 ++ [x])) = kids
        have kl : kids.length ≤ 26 := by rw [← hk]; exact Nat.le_trans (List.length_filter_le _ _) hll
        have e1 : (cs.map ctD ++ kids.map fun x => ctD (c0 ++ [x])) = (cs ++ kids.map fun x => c0 ++ [x]).map ctD := by rw [List.map_append, List.map_map]; rfl
        have e2 : ((kids.map fun x => c0 ++ [x]).map (wt 26 R)).sum = kids.length * 27 ^ (R - (c0.length + 1)) := by
          rw [wt_kids hlt _ fun d hd => ?_, List.length_map]
          obtain ⟨x, _, rfl⟩ := List.mem_map.mp hd
          rw [List.length_append, List.length_singleton]
        have e3 : wt 26 R c0 = 27 * 27 ^ (R - (c0.length + 1)) := by
          unfold wt
          rw [show R - c0.length = R - (c0.length + 1) + 1 by omega, Nat.pow_succ]
          exact Nat.mul_comm _ _
        have e4 : 0 < 27 ^ (R - (c0.length + 1)) := Nat.pow_pos (by decide)
        have e5 : kids.length * 27 ^ (R - (c0.length + 1)) ≤ 26 * 27 ^ (R - (c0.length + 1)) := Nat.mul_le_mul_right _ kl
        have e6 : (cs.map (wt 26 R)).sum + kids.length * 27 ^ (R - (c0.length + 1)) < n := by
          rw [← hn, e3]; omega
        refine ⟨q, cs.map ctD, kids.map fun x => ctD (c0 ++ [x]), lstOf_ref (by rw [mset_ne n3, mset_ne nq, mset_same]), seqW_ref mset_same, ?_, _, e6, cs ++ kids.map fun x => c0 ++ [x], _, _, _, _, _, rfl, fun x o ex => ?_, ?_, fun c hcm => ?_, ?_, by omega, ?_⟩
        · rw [List.length_map, List.length_map]
          have : sizeLine = 16777216 := rfl
          omega
        · have nx : x ≠ q := fun z => by rw [z, hq] at ex; cases ex
          have m1x := S x o ex
          have nx2 : x ≠ q2 := fun z => by rw [← z, mset_ne nx, m1x] at hq2; cases hq2
          have nx3 : x ≠ q3 := fun z => by rw [← z, mset_ne nx2, mset_ne nx, m1x] at hq3; cases hq3
          rw [mset_ne nx, mset_ne nx3, mset_ne nx2, mset_ne nx]; exact m1x
        · rw [mset_same, e1]
        · rcases List.mem_append.mp hcm with h1 | h1
          · exact hc c (List.mem_append_left _ h1)
          · obtain ⟨x, _, rfl⟩ := List.mem_map.mp h1
            rw [List.length_append, List.length_singleton]; omega
        · rw [List.map_append, List.sum_append, e2]
        · rw [find_app, ← hf]
          congr 1
          show _ = srch _ _ (R - c0.length) c0
          rw [show R - c0.length = R - (c0.length + 1) + 1 by omega]
          unfold srch
          rw [hL, List.filter_map, ← hk]
          refine find_congr _ fun d hd => ?_
          obtain ⟨x, _, rfl⟩ := List.mem_map.mp (List.mem_reverse.mp hd)
          show srch _ _ (R - (c0 ++ [x]).length) _ = _
          rw [List.length_append, List.length_singleton]
end
end K29

set_option Elab.async false
set_option linter.all false
set_option maxRecDepth 100000
set_option maxHeartbeats 4000000
namespace K29
open PySem PySem.Spec PyProof.Rows L2 PD Bk
local macro_rules | `(tactic| walk_at "pd") => `(tactic| simp (config := { decide := true, maxSteps := 400000 }) only [dIZipL, dFzT, dDGetTU, dDInTU, dDGet2TU, dDcT, dDCompT, dFzT, dIsB_b, dStrI_i, dRevT, revT_tx, Bk.pd_sg, Bk.pd_rows, Bk.pd_pairs, Bk.pd_nums, Bk.pd_start, Bk.pd_lots, Bk.pd_js, Bk.pd_as, dFldO, dFldV_o, dMethO, dMethV_o, dDGetU, dDInU, dDGet2U, dDc, dDComp, dIKeys, dFrzD_v, dFrzT_v, dFrzO, dFz, dFzD, dSetF, dMakeX, dMake, dSet0, dSAdd, Bk.dMethV_bk, Bk.dFldV_bk, Bk.bk_program, Bk.bk_signs, Bk.bk_rows, Bk.bk_start, Bk.bk_ways, Bk.bk_kinds, Bk.bk_pairs, Bk.bk_numbers, Bk.bk_sorts, Bk.bk_formulas, Bk.bk_asks, Bk.bk_m1, Bk.bk_m2, Bk.bk_m3, Bk.bk_m4, Bk.bk_m5, Bk.bk_m6, Bk.bk_m7, Bk.bk_m8, Bk.bk_m9, Bk.bk_ma, Bk.bk_mb, Bk.bk_mc, Bk.atI_5, Bk.atI_6, Bk.atI_7, Bk.atI_8, dAbs_i, tx_app, tx_len, tx_emp, dIx_tx, sgn_tx, cutS_to, cutS_fr, cutS_fr1, dPar, dIRng2, dIEnumS, dIStr, dInSg, dJoin, dSlS, dUpper, dChain, dDNewT, dDGetT, dDPutT, dMin3_i, dMax3_i, dCallX, dRaise, dSeq, dSet, dAsg, dgN, dRet, dRetN, dIfS, dFor, dLoop, dDrop, dNext, dVar, dC, dNil, dCons, dOp, dUn, dTest, dTru, dAnd, dOr, dNot, dAndV, dOrV, dNotV, dIfE, dTup, dLst, dCB, dCall, dCallP, dBM, dBML, dBM0, dLc, dComp, dYes, dgTup, dgCons, dgNil, dgSub, dPart, dNoPart, dAug, dIsi, dEq, dNe, wipeD, endsOf,
  dFrz, dFrzV_i, dFrzV_s, dFrzV_b, dFrzV_n, dFrzV_t, dFrzV_l, dFrzV_r, dAddL_i, dAddL_s, dAddL_t, dAddL_rr, dAddL_rl, dAddL_lr, dAddL_ll, dMulL_i, dMulL_s, dMulL_r, dSlL_v, dSlLV_t, dSlLV_l, dSlLV_r, dMinU_1, dMinU_2, dSumL_1, dSetTx_1, dIx_l, dLen_l, dInG_l, truD_rol, tyD_rol, dInt1_b, dISeqV_l, dLtS_i, dLtS_s, ltP_i, ltP_s, lsq_rol, dDNew, dDGet, dDGet2, dDSetd, dDPut, dSub_i, dInt2_i, dNeg_i, dCmp_i, dIsN_n, dNotN_n, dInG_t, dInG_r, dIx_t, dIx_r, dLen_s, dLen_t, dLen_r, dTuple_1, dList_1, dInt1_i, dRev_v, dRevV_t, dRevV_r, dISeq_v, dISeqV_t, dISeqV_r, dIEnum_v, dIEnumV_t, dIEnumV_r, dPop_0, dPop_i, dAppend_1, dExtend_1, dSub3_i, dIRng1_v, dRng1V_i,
  seqOf_tup, seqOf_rol, seqW_tup, eqK_ss, eqK_ii, eqK_bb, eqK_nn, eqK_ts, eqK_st, eqK_ti, eqK_is, eqK_ns, flatD_str, flatD_int, flatD_bl, flatD_non, isT_NoneType_bool, isT_NoneType_int, isT_NoneType_str, isT_NoneType_tuple, isT_NoneType_list, isT_bool_bool, isT_bool_int, isT_bool_str, isT_bool_tuple, isT_bool_list, isT_int_bool, isT_int_int, isT_int_str, isT_int_tuple, isT_int_list, isT_str_bool, isT_str_int, isT_str_str, isT_str_tuple, isT_str_list, isT_tuple_bool, isT_tuple_int, isT_tuple_str, isT_tuple_tuple, isT_tuple_list, isT_list_bool, isT_list_int, isT_list_str, isT_list_tuple, isT_list_list, isNon_non, isNon_bl, isNon_int, isNon_str, isNon_tup, tyD_non, tyD_bl, tyD_int, tyD_str, tyD_tup, truD_bl, truD_int, truD_tup,
  atI_0, atI_1, atI_2, atI_3, atI_4, atI_m1, atI_m2, atI_m3, Option.some.injEq, exists_eq_left', exists_eq_left, beq_self_eq_true, Bool.not_true, Bool.not_false, if_true, if_false, true_and, and_true, Bool.false_eq_true, ↓reduceIte,
  List.getElem?_cons_zero, List.getElem?_cons_succ, List.set_cons_zero, List.set_cons_succ, List.map_cons, List.map_nil, List.length_cons, List.length_nil, mset_same, mset_mset, List.isEmpty_nil, List.isEmpty_cons, decide_eq_true_eq, beq_iff_eq, seqI_0, List.eraseIdx_cons_zero, List.eraseIdx_cons_succ, ixN_40, ixN_41, ixN_42, ixN_43, Nat.reduceAdd])
local macro_rules | `(tactic| walk_at "ne") => `(tactic| first | assumption | exact Ne.symm (by assumption))
local macro_rules | `(tactic| walk_at "mu") => `(tactic| first | exact mset_same | assumption | exact mset_skip (by walk_at "ne") (by walk_at "mu"))
local macro_rules | `(tactic| walk_at "go") => `(tactic| repeat (first | walk_at "pd" | refine ⟨_, seqOf_ref (by walk_at "mu"), ?_⟩ | refine ⟨⟨_, _, lstOf_ref (by walk_at "mu")⟩, ?_⟩ | refine ⟨_, _, lstOf_ref (by walk_at "mu"), ?_⟩ | refine ⟨(show CMul _ _ from Or.inr ⟨by decide, by decide⟩), ?_⟩ | refine ⟨(show CDiv _ _ from ⟨by decide, by decide⟩), ?_⟩))
local macro_rules | `(tactic| walk_at "w") => `(tactic| try walk_at "pd")
section
variable {P : Program} {w : World} {K : PySem.W.Frag} {mg : Str → Option Value} {base : Heap}
def signsD (p : Prog) (y : Way) : D := match signF p.pairs p.sg y with
  | some c => .tup ((refsTo isSg y.k).map fun r => .tup [refD r, sgD (sgnAt p.sg y c r)])
  | none => .non
theorem letters_ne {p : Prog} {y : Way} (hs : p.sg ≠ []) {r : Ref} (hr : r ∈ refsTo isSg y.k) : lettersAt p.sg y.ps r ≠ [] := by
  obtain ⟨ms, l, e1, e2⟩ := refs_sign (ps := y.ps) hr
  unfold lettersAt
  rw [e1]
  simp only [e2]
  split
  · exact hs
  · assumption
theorem kinds_ok {p : Prog} {y : Way} (o : WayOk p y) : y.k.length ≤ 100 ∧ ∀ k, some k ∈ y.k → k.length ≤ 10 := by
  unfold Way.k
  refine ⟨by rw [List.length_map]; exact o.1, fun k hk => ?_⟩
  obtain ⟨q, hq, e⟩ := List.mem_map.mp hk
  cases q with
  | lot n => cases e
  | plain ms => cases e; rw [List.length_map]; exact (o.2.2.1 ms hq).1
def sp_signing_of (C : Addr) : SpD := fun ds m Q => ∃ (p : Prog) (nv sv fv av : D) (y : Way), ds = [bookD C p nv sv fv av, y.d] ∧ WayOk p y ∧ p.sg ≠ [] ∧ Q (signsD p y) m
theorem ok_signing_of  (T : Txt K mg) (G__letters_at : FnOk P w K mg base CX0 (2) T.f__letters_at T.fd__letters_at ["book", "way", "ref"] (spL K 3 (sp__letters_at T.c_Book))) (G_sign_places : FnOk P w K mg base CX0 (2) T.f_sign_places T.fd_sign_places ["kinds"] (spL K 1 sp_sign_places)) (G_kinds_of : FnOk P w K mg base CX0 (2) T.f_kinds_of T.fd_kinds_of ["way"] (spL K 1 sp_kinds_of)) (G__signs_for : FnOk P w K mg base CX0 (3) T.f__signs_for T.fd__signs_for ["book", "way", "refs"] (spL K 3 (sp__signs_for T.c_Book))) (G__tested_refs : FnOk P w K mg base CX0 (1) T.f__tested_refs T.fd__tested_refs ["way"] (spL K 1 sp__tested_refs)) : FnOk P w K mg base CX0 (4) T.f_signing_of T.fd_signing_of ["book", "way"] (spL K 2 (sp_signing_of T.c_Book)) := by
  refine fn_ok T.F_signing_of sc_signing_of (fun cdv A outer s H E hr =>
(gss_cons (gs_set (i := 2) sc_signing_of.nd rfl (.inl rfl) (ge_call G__tested_refs (hr.mono (by omega)) (by rfl) T.g__tested_refs T.F__tested_refs.kp T.b__tested_refs (ga_cons (gv 1) ga_nil)))
 (gss_cons (gs_set (i := 3) sc_signing_of.nd rfl (.inl rfl) (ge_call G__signs_for (hr.mono (by omega)) (by rfl) T.g__signs_for T.F__signs_for.kp T.b__signs_for (ga_cons (gv 0) (ga_cons (gv 1) (ga_cons (gv 2) ga_nil)))))
 (gss_cons (gs_if (gt_cmpR op_isN lr_isN (gv 3) ge_non (nomark _))
 (gss_one (gs_ret ge_non))
 gss_nil)
 (gss_cons (gs_fzT 4 (gs_set (i := 4) sc_signing_of.nd rfl (.inr rfl) (ge_dcT (lt1 hr.units) (own := [("ref", 6), ("sign", 7)]) rfl sc_signing_of.nd (gi_zipW (by rfl) T.z_zip (ga_cons (gv 2) (ga_cons (gv 3) ga_nil))) (blkOk_by (N := N_signing_of) (sc := defScope s_signing_of) (by decide +kernel)) (fun _ _ _ _ _ => (gg_tup (n := 2) rfl (ggs_cons (gg_name (i := 6) sc_signing_of.nd rfl (.inl rfl)) (ggs_cons (gg_name (i := 7) sc_signing_of.nd rfl (.inl rfl)) ggs_nil)))) (fun _ _ _ _ _ => gts_nil) (fun _ _ _ _ _ => (gv 6)) (fun _ _ _ _ _ => (gv 7)) (by decide))))
 (gss_cons (gs_set (i := 5) sc_signing_of.nd rfl (.inl rfl) (ge_call G_sign_places (hr.mono (by omega)) (by rfl) T.g_sign_places T.F_sign_places.kp T.b_sign_places (ga_cons (ge_call G_kinds_of (hr.mono (by omega)) (by rfl) T.g_kinds_of T.F_kinds_of.kp T.b_kinds_of (ga_cons (gv 1) ga_nil)) ga_nil)))
 (gss_one (gs_ret (ge_callTy call_tuple_of lc_tuple (by rfl) T.z_tuple (by decide +kernel) (ga_cons (ge_lc (own := [("ref", 6)]) rfl sc_signing_of.nd (gi_seq (gv 5)) (blkOk_by (N := N_signing_of) (sc := defScope s_signing_of) (by decide +kernel)) (fun _ _ _ _ _ => (gg_name (i := 6) sc_signing_of.nd rfl (.inl rfl))) (fun _ _ _ _ _ => gts_nil) (fun _ _ _ _ _ => (ge_tup (ga_cons (gv 6) (ga_cons (ge_dget2TU (lt1 hr.units) (gv 4) (gv 6) (ge_ix (ge_call G__letters_at (hr.mono (by omega)) (by rfl) T.g__letters_at T.F__letters_at.kp T.b__letters_at (ga_cons (gv 0) (ga_cons (gv 1) (ga_cons (gv 6) ga_nil)))) ge_int) ⟨by rfl, by rfl, by rfl, by rfl⟩) ga_nil)))) (by decide)) ga_nil)))))))))) (fun ds m Q h => ?_)
  obtain ⟨p, nv, sv, fv, av, y, rfl, o, hs, h⟩ := h
  rw [show startD N_signing_of [bookD T.c_Book p nv sv fv av, y.d] = [some (bookD T.c_Book p nv sv fv av), some (y.d), none, none, none, none, none, none] from rfl]
  walk_at "pd"
  refine ⟨y, rfl, by have := o.2.1; omega, ?_⟩
  refine ⟨p, nv, sv, fv, av, y, rfl, o, ?_⟩
  unfold signsD at h
  cases ec : signF p.pairs p.sg y with
  | none =>
    rw [ec] at h
    dsimp only at h ⊢
    walk_at "pd"
    exact sub_refl_fin h
  | some c =>
  rw [ec] at h
  dsimp only at h ⊢
  have sc := sign_some ec
  have lT := tested_len y.ts
  have l2 := o.2.1
  have ko := kinds_ok o
  unfold ctD
  walk_at "pd"
  refine ⟨_, _, _, rfl, lsq_rol, fun q hq => ?_⟩
  rw [zip_refs]
  refine dcompT_pure (fun p : Ref × Nat => D.tup [refD p.1, sgD p.2]) (fun p => (rk p.1, sgD p.2)) (fun _ => rfl) (by rw [List.length_zip]; omega) (told_nd (tested_nd _)) (fun u hu a R k => ?_) ?_
  · walk_at "pd"
    exact k _ rk_key
  refine ⟨q, _, rfl, mset_same, ?_⟩
  rw [show (((tested y.ts).zip c).map fun p : Ref × Nat => (rk p.1, sgD p.2)) = toldK (tested y.ts) c from rfl]
  have S := PD.Sub.del (PD.Sub.new (o := .dcT (toldK (tested y.ts) c)) hq) hq
  generalize mdel (mset m q (.dcT (toldK (tested y.ts) c))) q = m1 at *
  refine ⟨y, rfl, o.1, fun ms hm => (o.2.2.1 ms hm).1, _, rfl, ko.1, ko.2, ?_⟩
  dsimp only
  rw [dISeqV_t]
  have lS : (refsTo isSg y.k).length ≤ 100000 := by
    unfold refsTo
    refine Nat.le_trans (flat_le (n := 10) ?_) (by rw [List.length_zipIdx]; omega)
    rintro ⟨k', i'⟩ hk'
    cases k' with
    | none => exact Nat.zero_le _
    | some k' => exact Nat.le_trans refsOf_len (ko.2 k' (List.mem_of_getElem? (List.mem_zipIdx_iff_getElem?.mp hk')))
  refine fun q2 hq2 => comp_all (us := refsTo isSg y.k) refD (fun r => .tup [refD r, sgD (sgnAt p.sg y c r)]) (fun _ => trivial) lS (fun r hr a R k => ?_) ?_
  · have ne := letters_ne hs hr
    obtain ⟨x0, l0, el⟩ := List.exists_cons_of_ne_nil ne
    walk_at "pd"
    refine ⟨by rw [dctT_dic]; rfl, p, nv, sv, fv, av, y, r, rfl, hr, ?_⟩
    have hll := letters_le o r
    rw [el] at hll ⊢
    have : sizeLine = 16777216 := rfl
    walk_at "pd"
    rw [List.length_cons] at hll
    refine ⟨by omega, _, dctT_dic, _, rk_key, ?_⟩
    rw [told_val (by omega)]
    unfold sgnAt at k
    rw [el, List.headD_cons] at k
    cases et : toldAt (tested y.ts) c r with
    | none => rw [et] at k; exact k
    | some z => rw [et] at k; exact k
  · exact ⟨_, seqOf_ref mset_same, m, S.trans (PD.Sub.new hq2), h⟩
def sp_is_signed (C : Addr) : SpD := fun ds m Q => ∃ (p : Prog) (nv sv fv av : D) (y : Way), ds = [bookD C p nv sv fv av, y.d] ∧ WayOk p y ∧ p.sg ≠ [] ∧ Q (.bl (signF p.pairs p.sg y).isSome) m
theorem ok_is_signed  (T : Txt K mg) (G_signing_of : FnOk P w K mg base CX0 (4) T.f_signing_of T.fd_signing_of ["book", "way"] (spL K 2 (sp_signing_of T.c_Book))) : FnOk P w K mg base CX0 (5) T.f_is_signed T.fd_is_signed ["book", "way"] (spL K 2 (sp_is_signed T.c_Book)) := by
  refine fn_ok T.F_is_signed sc_is_signed (fun cdv A outer s H E hr =>
(gss_one (gs_ret (ge_cmpR op_notN lr_notN (ge_call G_signing_of (hr.mono (by omega)) (by rfl) T.g_signing_of T.F_signing_of.kp T.b_signing_of (ga_cons (gv 0) (ga_cons (gv 1) ga_nil))) ge_non (nomark _))))) (fun ds m Q h => ?_)
  obtain ⟨p, nv, sv, fv, av, y, rfl, o, hs, h⟩ := h
  rw [show startD N_is_signed [bookD T.c_Book p nv sv fv av, y.d] = [some (bookD T.c_Book p nv sv fv av), some (y.d)] from rfl]
  walk_at "pd"
  refine ⟨p, nv, sv, fv, av, y, rfl, o, hs, m, .refl _, ?_⟩
  unfold signsD
  cases ec : signF p.pairs p.sg y with
  | none => rw [ec] at h; exact h
  | some c => rw [ec] at h; exact h
end
end K29

set_option Elab.async false
set_option linter.all false
set_option maxRecDepth 100000
set_option maxHeartbeats 4000000
set_option exponentiation.threshold 20000
namespace K29
open PySem PySem.Spec PyProof.Rows L2 PD Bk
local macro_rules | `(tactic| walk_at "pd") => `(tactic| simp (config := { decide := true, maxSteps := 400000 }) only [dIZipL, dFzT, dDGetTU, dDInTU, dDGet2TU, dDcT, dDCompT, dFzT, dIsB_b, dStrI_i, dRevT, revT_tx, Bk.pd_sg, Bk.pd_rows, Bk.pd_pairs, Bk.pd_nums, Bk.pd_start, Bk.pd_lots, Bk.pd_js, Bk.pd_as, dFldO, dFldV_o, dMethO, dMethV_o, dDGetU, dDInU, dDGet2U, dDc, dDComp, dIKeys, dFrzD_v, dFrzT_v, dFrzO, dFz, dFzD, dSetF, dMakeX, dMake, dSet0, dSAdd, Bk.dMethV_bk, Bk.dFldV_bk, Bk.bk_program, Bk.bk_signs, Bk.bk_rows, Bk.bk_start, Bk.bk_ways, Bk.bk_kinds, Bk.bk_pairs, Bk.bk_numbers, Bk.bk_sorts, Bk.bk_formulas, Bk.bk_asks, Bk.bk_m1, Bk.bk_m2, Bk.bk_m3, Bk.bk_m4, Bk.bk_m5, Bk.bk_m6, Bk.bk_m7, Bk.bk_m8, Bk.bk_m9, Bk.bk_ma, Bk.bk_mb, Bk.bk_mc, Bk.atI_5, Bk.atI_6, Bk.atI_7, Bk.atI_8, dAbs_i, tx_app, tx_len, tx_emp, dIx_tx, sgn_tx, cutS_to, cutS_fr, cutS_fr1, dPar, dIRng2, dIEnumS, dIStr, dInSg, dJoin, dSlS, dUpper, dChain, dDNewT, dDGetT, dDPutT, dMin3_i, dMax3_i, dCallX, dRaise, dSeq, dSet, dAsg, dgN, dRet, dRetN, dIfS, dFor, dLoop, dDrop, dNext, dVar, dC, dNil, dCons, dOp, dUn, dTest, dTru, dAnd, dOr, dNot, dAndV, dOrV, dNotV, dIfE, dTup, dLst, dCB, dCall, dCallP, dBM, dBML, dBM0, dLc, dComp, dYes, dgTup, dgCons, dgNil, dgSub, dPart, dNoPart, dAug, dIsi, dEq, dNe, wipeD, endsOf,
  dFrz, dFrzV_i, dFrzV_s, dFrzV_b, dFrzV_n, dFrzV_t, dFrzV_l, dFrzV_r, dAddL_i, dAddL_s, dAddL_t, dAddL_rr, dAddL_rl, dAddL_lr, dAddL_ll, dMulL_i, dMulL_s, dMulL_r, dSlL_v, dSlLV_t, dSlLV_l, dSlLV_r, dMinU_1, dMinU_2, dSumL_1, dSetTx_1, dIx_l, dLen_l, dInG_l, truD_rol, tyD_rol, dInt1_b, dISeqV_l, dLtS_i, dLtS_s, ltP_i, ltP_s, lsq_rol, dDNew, dDGet, dDGet2, dDSetd, dDPut, dSub_i, dInt2_i, dNeg_i, dCmp_i, dIsN_n, dNotN_n, dInG_t, dInG_r, dIx_t, dIx_r, dLen_s, dLen_t, dLen_r, dTuple_1, dList_1, dInt1_i, dRev_v, dRevV_t, dRevV_r, dISeq_v, dISeqV_t, dISeqV_r, dIEnum_v, dIEnumV_t, dIEnumV_r, dPop_0, dPop_i, dAppend_1, dExtend_1, dSub3_i, dIRng1_v, dRng1V_i,
  seqOf_tup, seqOf_rol, seqW_tup, eqK_ss, eqK_ii, eqK_bb, eqK_nn, eqK_ts, eqK_st, eqK_ti, eqK_is, eqK_ns, flatD_str, flatD_int, flatD_bl, flatD_non, isT_NoneType_bool, isT_NoneType_int, isT_NoneType_str, isT_NoneType_tuple, isT_NoneType_list, isT_bool_bool, isT_bool_int, isT_bool_str, isT_bool_tuple, isT_bool_list, isT_int_bool, isT_int_int, isT_int_str, isT_int_tuple, isT_int_list, isT_str_bool, isT_str_int, isT_str_str, isT_str_tuple, isT_str_list, isT_tuple_bool, isT_tuple_int, isT_tuple_str, isT_tuple_tuple, isT_tuple_list, isT_list_bool, isT_list_int, isT_list_str, isT_list_tuple, isT_list_list, isNon_non, isNon_bl, isNon_int, isNon_str, isNon_tup, tyD_non, tyD_bl, tyD_int, tyD_str, tyD_tup, truD_bl, truD_int, truD_tup,
  atI_0, atI_1, atI_2, atI_3, atI_4, atI_m1, atI_m2, atI_m3, Option.some.injEq, exists_eq_left', exists_eq_left, beq_self_eq_true, Bool.not_true, Bool.not_false, if_true, if_false, true_and, and_true, Bool.false_eq_true, ↓reduceIte,
  List.getElem?_cons_zero, List.getElem?_cons_succ, List.set_cons_zero, List.set_cons_succ, List.map_cons, List.map_nil, List.length_cons, List.length_nil, mset_same, mset_mset, List.isEmpty_nil, List.isEmpty_cons, decide_eq_true_eq, beq_iff_eq, seqI_0, List.eraseIdx_cons_zero, List.eraseIdx_cons_succ, ixN_40, ixN_41, ixN_42, ixN_43, Nat.reduceAdd])
local macro_rules | `(tactic| walk_at "ne") => `(tactic| first | assumption | exact Ne.symm (by assumption))
local macro_rules | `(tactic| walk_at "mu") => `(tactic| first | exact mset_same | assumption | exact mset_skip (by walk_at "ne") (by walk_at "mu"))
local macro_rules | `(tactic| walk_at "go") => `(tactic| repeat (first | walk_at "pd" | refine ⟨_, seqOf_ref (by walk_at "mu"), ?_⟩ | refine ⟨⟨_, _, lstOf_ref (by walk_at "mu")⟩, ?_⟩ | refine ⟨_, _, lstOf_ref (by walk_at "mu"), ?_⟩ | refine ⟨(show CMul _ _ from Or.inr ⟨by decide, by decide⟩), ?_⟩ | refine ⟨(show CDiv _ _ from ⟨by decide, by decide⟩), ?_⟩))
local macro_rules | `(tactic| walk_at "w") => `(tactic| try walk_at "pd")
/-! ### the tape: one list, its last the state -/
def Tp (m : Mu) (a : Addr) : Prop := ∃ (xs : List Int) (z : Int), m a = some (.lst ((xs ++ [z]).map .int)) ∧ xs.length ≤ 63 ∧ 0 ≤ z ∧ z < 2305843009213693990
theorem Tp.keep {m m' : Mu} {a : Addr} (h : Tp m a) (ka : ∀ o, m a = some o → m' a = some o) : Tp m' a :=
  let ⟨xs, z, e, r⟩ := h; ⟨xs, z, ka _ e, r⟩
theorem Tp.new {m : Mu} {a p : Addr} {o : MO} (h : Tp m a) (hp : m p = none) : Tp (mset m p o) a := h.keep (fun _ e => mset_new hp e)
theorem Tp.ne {m : Mu} {a p : Addr} (h : Tp m a) (hp : m p = none) : p ≠ a := by
  obtain ⟨_, _, e, _⟩ := h
  intro z
  rw [← z, hp] at e; cases e
theorem Tp.del {m : Mu} {a p : Addr} (h : Tp m a) (h1 : p ≠ a) : Tp (mdel m p) a := h.keep (fun _ e => by rw [mdel_ne (Ne.symm h1)]; exact e)
theorem Tp.setp {m : Mu} {a p : Addr} {o : MO} (h : Tp m a) (h1 : p ≠ a) : Tp (mset m p o) a := h.keep (fun _ e => by rw [mset_ne (Ne.symm h1)]; exact e)
theorem cdw {x n : Int} (h : 0 < n) (h2 : n ≤ 1000000000000) : CDivW x n := by
  refine ⟨h, (Nat.log2_lt (by omega)).mpr (Nat.lt_of_lt_of_le (by omega : n.natAbs < 1000000000001) (Nat.le_trans (by decide : _ ≤ 2 ^ 40) (Nat.pow_le_pow_right (by decide) (by decide))))⟩
theorem ixN_s0 (k : Nat) : ixN (k + 1) 0 = some 0 := by unfold ixN; rw [if_pos (by decide)]; rw [if_pos (by omega)]; rfl
theorem seqIx0 (k : Nat) : seqIndex? 0 (k + 1) = some 0 := by unfold seqIndex?; simp
section
variable {P : Program} {w : World} {K : PySem.W.Frag} {mg : Str → Option Value} {base : Heap}
def sp__law_tape : SpD := fun ds m Q => ∃ ns : List Int, ds = [.rol (ns.map .int)] ∧ ns.length ≤ 63 ∧ ∀ a m', m a = none → PD.Sub m m' → Tp m' a → Q (.ref a) m'
theorem ok__law_tape  (T : Txt K mg)  : FnOk P w K mg base CX0 (1) T.f__law_tape T.fd__law_tape ["_law_script"] (spL K 1 sp__law_tape) := by
  refine fn_ok T.F__law_tape sc__law_tape (fun cdv A outer s H E hr =>
(gss_cons (gs_set (i := 1) sc__law_tape.nd rfl (.inl rfl) (ge_op op_addL lr_addL ge_int (ge_callB call_lenU lc_len (by rfl) T.z_len PySem.boot_len (ga_cons (gv 0) ga_nil))))
 (gss_cons (gs_set (i := 2) sc__law_tape.nd rfl (.inl rfl) (ge_lst ga_nil))
 (gss_cons (gs_for PassesOwn.never rfl (gi_seq (gv 0)) (gg_name (i := 3) sc__law_tape.nd rfl (.inl rfl))
 (gss_cons (gs_set (i := 1) sc__law_tape.nd rfl (.inl rfl) (ge_op op_mod lr_int2 (ge_callTy call_int1 lc_int (by rfl) T.z_int (by decide +kernel) (ga_cons (ge_op op_addL lr_addL (ge_op op_mulL lr_mulL (gv 1) ge_int) (gv 3)) ga_nil)) ge_int))
 (gss_one (gs_if (gt_cmpR (op_gtS hr.units) lr_gtP (gv 3) (ge_op op_pow lr_int2 ge_int ge_int) (nomark _))
 (gss_one (gs_expr (ge_bm PySem.F.slot_list_append PySem.F.type_list_append mt_append lm_append (gv 2) (ga_cons (gv 3) ga_nil))))
 gss_nil))))
 (gss_cons (gs_expr (ge_bm PySem.F.slot_list_append PySem.F.type_list_append mt_append lm_append (gv 2) (ga_cons (ge_op op_addL lr_addL (gv 1) ge_int) ga_nil)))
 (gss_one (gs_ret (gv 2)))))))) (fun ds m Q h => ?_)
  obtain ⟨ns, rfl, hl, h⟩ := h
  rw [show startD N__law_tape [.rol (ns.map .int)] = [some (.rol (ns.map .int)), none, none, none] from rfl]
  walk_at "pd"
  intro p hp
  refine loop_inv (fun rem s' m' => ∃ (post big : List Int) (z : Int) (c : Option D), rem = post.map .int ∧ s' = [some (.rol (ns.map .int)), some (.int z), some (.ref p), c] ∧ 0 ≤ z ∧ z < 2305843009213693951 ∧ m' = mset m p (.lst (big.map .int)) ∧ big.length + post.length ≤ 63) ?_ ?_ ⟨ns, [], _, none, rfl, rfl, by rw [List.length_map]; omega, by rw [List.length_map]; omega, rfl, by simpa using hl⟩
  · rintro d rem s' m' R hR ⟨post, big, z, c, e1, rfl, z0, z1, rfl, hb⟩
    cases post with
    | nil => cases e1
    | cons n post =>
      rw [List.map_cons] at e1
      injection e1 with e1 e2
      subst e1
      have hlb : (big.map D.int).length < sizeLine := by rw [List.length_map]; rw [List.length_cons] at hb; exact Nat.lt_of_lt_of_le (by omega : _ < 64) (by decide)
      refine ⟨trivial, ?_⟩
      walk_at "pd"
      refine ⟨.inl ⟨by omega, by omega⟩, ⟨by decide, by decide, by decide⟩, ?_⟩
      rw [List.length_cons] at hb
      by_cases hc : (10 : Int) ^ Int.toNat 18 < n
      · rw [if_pos hc]
        refine ⟨⟨_, _, lstOf_ref mset_same⟩, _, _, lstOf_ref mset_same, hlb, hR _ _ ⟨post, big ++ [n], _, _, e2, rfl, Int.emod_nonneg _ (by decide), Int.lt_of_lt_of_le (Int.emod_lt_of_pos _ (by decide)) (by decide), ?_, ?_⟩⟩
        · rw [mset_mset, List.map_append]; rfl
        · rw [List.length_append, List.length_singleton]; omega
      · rw [if_neg hc]
        exact hR _ _ ⟨post, big, _, _, e2, rfl, Int.emod_nonneg _ (by decide), Int.lt_of_lt_of_le (Int.emod_lt_of_pos _ (by decide)) (by decide), rfl, by omega⟩
  · rintro s' m' ⟨post, big, z, c, e1, rfl, z0, z1, rfl, hb⟩
    refine ⟨trivial, ?_⟩
    walk_at "pd"
    refine ⟨⟨_, _, lstOf_ref mset_same⟩, _, _, lstOf_ref mset_same, by rw [List.length_map]; exact Nat.lt_of_le_of_lt (by omega : _ ≤ 63) (by decide), ?_⟩
    refine sub_refl_fin (h p _ hp (PD.Sub.new' (PD.Sub.new hp) hp) ⟨big, z + 29, ?_, by omega, by omega, by omega⟩)
    rw [mset_same, List.map_append]; rfl
def sp__law_pick : SpD := fun ds m Q => ∃ (a : Addr) (n : Int), ds = [.ref a, .int n] ∧ 0 < n ∧ n ≤ 1000000000000 ∧ Tp m a ∧ ∀ (r : Int) m', 0 ≤ r → r < n → Off1 a m m' → Tp m' a → Q (.int r) m'
theorem ok__law_pick  (T : Txt K mg)  : FnOk P w K mg base CX0 (1) T.f__law_pick T.fd__law_pick ["_law_tape_here", "_law_limit"] (spL K 2 sp__law_pick) := by
  refine fn_ok T.F__law_pick sc__law_pick (fun cdv A outer s H E hr =>
(gss_cons (gs_for PassesOwn.never rfl (gi_rng1 (by rfl) T.z_range (ga_cons (ge_op op_sub lr_sub (ge_callB call_lenU lc_len (by rfl) T.z_len PySem.boot_len (ga_cons (gv 0) ga_nil)) ge_int) ga_nil)) (gg_name (i := 2) sc__law_pick.nd rfl (.inl rfl))
 (gss_one (gs_if (gt_cmpR (op_ltS hr.units) lr_ltP (ge_ix (gv 0) ge_int) (gv 1) (nomark _))
 (gss_one (gs_expr (ge_bm PySem.F.slot_list_pop PySem.F.type_list_pop mt_popU lm_pop (gv 0) (ga_cons ge_int ga_nil))))
 gss_nil)))
 (gss_cons (gs_if (gt_cmpR (op_gtS hr.units) lr_gtP (ge_callB call_lenU lc_len (by rfl) T.z_len PySem.boot_len (ga_cons (gv 0) ga_nil)) ge_int (nomark _))
 (gss_cons (gs_set (i := 3) sc__law_pick.nd rfl (.inl rfl) (ge_op op_mod lr_int2 (ge_callTy call_int1 lc_int (by rfl) T.z_int (by decide +kernel) (ga_cons (ge_ix (gv 0) ge_int) ga_nil)) (gv 1)))
 (gss_cons (gs_asg (ge_op op_fdivW lr_int2 (ge_callTy call_int1 lc_int (by rfl) T.z_int (by decide +kernel) (ga_cons (ge_ix (gv 0) ge_int) ga_nil)) (gv 1)) (gg_sub (gv 0) ge_int))
 (gss_one (gs_ret (ge_frz (gv 3))))))
 gss_nil)
 (gss_cons (gs_asg (ge_op op_mod lr_int2 (ge_callTy call_int1 lc_int (by rfl) T.z_int (by decide +kernel) (ga_cons (ge_op op_addL lr_addL (ge_op op_mulL lr_mulL (ge_ix (gv 0) ge_int) ge_int) ge_int) ga_nil)) ge_int) (gg_sub (gv 0) ge_int))
 (gss_one (gs_ret (ge_frz (ge_op op_mod lr_int2 (ge_callTy call_int1 lc_int (by rfl) T.z_int (by decide +kernel) (ga_cons (ge_op op_fdivW lr_int2 (ge_ix (gv 0) ge_int) ge_int) ga_nil)) (gv 1))))))))) (fun ds m Q h => ?_)
  obtain ⟨a, n, rfl, hn, hn2, ⟨xs, z, ea, hxl, z0, z1⟩, h⟩ := h
  rw [show startD N__law_pick [.ref a, .int n] = [some (.ref a), some (.int n), none, none] from rfl]
  walk_at "pd"
  have le : ∀ (xs : List Int) (z : Int), ((xs ++ [z]).map D.int).length = xs.length + 1 := fun xs z => by rw [List.length_map, List.length_append, List.length_singleton]
  refine ⟨_, seqOf_ref ea, by omega, by rw [le]; omega, ?_⟩
  refine loop_inv (fun rem s' m' => ∃ (xs : List Int) (z : Int) (c : Option D), rem.length ≤ xs.length ∧ s' = [some (.ref a), some (.int n), c, none] ∧ m' a = some (.lst ((xs ++ [z]).map .int)) ∧ xs.length ≤ 63 ∧ 0 ≤ z ∧ z < 2305843009213693990 ∧ Off1 a m m') ?_ ?_ ⟨xs, z, _, ?_, rfl, ea, hxl, z0, z1, .refl _ _⟩
  · rintro d rem s' m' R hR ⟨xs, z, c, hr, rfl, ea, hxl, z0, z1, O⟩
    refine ⟨trivial, ?_⟩
    walk_at "pd"
    cases xs with
    | nil => rw [List.length_cons] at hr; exact absurd hr (by simp)
    | cons x xs =>
      rw [List.length_cons, List.length_cons] at hr
      rw [List.length_cons] at hxl
      refine ⟨_, seqOf_ref ea, _, atI_nat (j := 0) rfl, ?_⟩
      walk_at "pd"
      by_cases c : x < n
      · rw [if_pos c]
        exact ⟨⟨_, _, lstOf_ref ea⟩, _, _, lstOf_ref ea, 0, by rw [le]; exact seqIx0 _, _, rfl, hR _ _ ⟨xs, z, _, by omega, rfl, mset_same, by omega, z0, z1, O.set⟩⟩
      · rw [if_neg c]
        exact hR _ _ ⟨x :: xs, z, _, by rw [List.length_cons]; omega, rfl, ea, by rw [List.length_cons]; omega, z0, z1, O⟩
  · rintro s' m' ⟨xs, z, c, hr, rfl, ea, hxl, z0, z1, O⟩
    refine ⟨trivial, ?_⟩
    walk_at "pd"
    refine ⟨_, seqOf_ref ea, ?_⟩
    cases xs with
    | nil =>
      rw [if_neg (by rw [le]; decide)]
      refine ⟨_, seqOf_ref ea, _, atI_nat (j := 0) rfl, ?_⟩
      walk_at "pd"
      refine ⟨.inl ⟨by omega, by omega⟩, a, _, lstOf_ref ea, 0, rfl, _, seqOf_ref mset_same, _, atI_nat (j := 0) rfl, ?_⟩
      walk_at "pd"
      refine ⟨cdw (by decide) (by decide), hn, ?_⟩
      refine sub_refl_fin (h _ _ (Int.emod_nonneg _ (by omega)) (Int.emod_lt_of_pos _ hn) O.set ⟨[], _, mset_same, by decide, Int.emod_nonneg _ (by decide), Int.lt_of_lt_of_le (Int.emod_lt_of_pos _ (by decide)) (by decide)⟩)
    | cons x xs =>
      rw [if_pos (by rw [le, List.length_cons]; omega)]
      refine ⟨_, seqOf_ref ea, _, atI_nat (j := 0) rfl, ?_⟩
      walk_at "pd"
      refine ⟨hn, _, seqOf_ref ea, _, atI_nat (j := 0) rfl, ?_⟩
      walk_at "pd"
      refine ⟨cdw hn hn2, a, _, lstOf_ref ea, 0, ixN_s0 _, ?_⟩
      refine sub_refl_fin (h _ _ (Int.emod_nonneg _ (by omega)) (Int.emod_lt_of_pos _ hn) O.set ⟨(x / n) :: xs, z, mset_same, hxl, z0, z1⟩)
  · rw [rangeD_len, le]; omega
end
end K29
set_option Elab.async false
set_option linter.all false
set_option maxRecDepth 100000
set_option maxHeartbeats 4000000
namespace K29
open PySem PySem.Spec PyProof.Rows L2 PD Bk
local macro_rules | `(tactic| walk_at "pd") => `(tactic| simp (config := { decide := true, maxSteps := 400000 }) only [dIZipL, dFzT, dDGetTU, dDInTU, dDGet2TU, dDcT, dDCompT, dFzT, dIsB_b, dStrI_i, dRevT, revT_tx, Bk.pd_sg, Bk.pd_rows, Bk.pd_pairs, Bk.pd_nums, Bk.pd_start, Bk.pd_lots, Bk.pd_js, Bk.pd_as, dFldO, dFldV_o, dMethO, dMethV_o, dDGetU, dDInU, dDGet2U, dDc, dDComp, dIKeys, dFrzD_v, dFrzT_v, dFrzO, dFz, dFzD, dSetF, dMakeX, dMake, dSet0, dSAdd, Bk.dMethV_bk, Bk.dFldV_bk, Bk.bk_program, Bk.bk_signs, Bk.bk_rows, Bk.bk_start, Bk.bk_ways, Bk.bk_kinds, Bk.bk_pairs, Bk.bk_numbers, Bk.bk_sorts, Bk.bk_formulas, Bk.bk_asks, Bk.bk_m1, Bk.bk_m2, Bk.bk_m3, Bk.bk_m4, Bk.bk_m5, Bk.bk_m6, Bk.bk_m7, Bk.bk_m8, Bk.bk_m9, Bk.bk_ma, Bk.bk_mb, Bk.bk_mc, Bk.atI_5, Bk.atI_6, Bk.atI_7, Bk.atI_8, dAbs_i, tx_app, tx_len, tx_emp, dIx_tx, sgn_tx, cutS_to, cutS_fr, cutS_fr1, dPar, dIRng2, dIEnumS, dIStr, dInSg, dJoin, dSlS, dUpper, dChain, dDNewT, dDGetT, dDPutT, dMin3_i, dMax3_i, dCallX, dRaise, dSeq, dSet, dAsg, dgN, dRet, dRetN, dIfS, dFor, dLoop, dDrop, dNext, dVar, dC, dNil, dCons, dOp, dUn, dTest, dTru, dAnd, dOr, dNot, dAndV, dOrV, dNotV, dIfE, dTup, dLst, dCB, dCall, dCallP, dBM, dBML, dBM0, dLc, dComp, dYes, dgTup, dgCons, dgNil, dgSub, dPart, dNoPart, dAug, dIsi, dEq, dNe, wipeD, endsOf,
  dFrz, dFrzV_i, dFrzV_s, dFrzV_b, dFrzV_n, dFrzV_t, dFrzV_l, dFrzV_r, dAddL_i, dAddL_s, dAddL_t, dAddL_rr, dAddL_rl, dAddL_lr, dAddL_ll, dMulL_i, dMulL_s, dMulL_r, dSlL_v, dSlLV_t, dSlLV_l, dSlLV_r, dMinU_1, dMinU_2, dSumL_1, dSetTx_1, dIx_l, dLen_l, dInG_l, truD_rol, tyD_rol, dInt1_b, dISeqV_l, dLtS_i, dLtS_s, ltP_i, ltP_s, lsq_rol, dDNew, dDGet, dDGet2, dDSetd, dDPut, dSub_i, dInt2_i, dNeg_i, dCmp_i, dIsN_n, dNotN_n, dInG_t, dInG_r, dIx_t, dIx_r, dLen_s, dLen_t, dLen_r, dTuple_1, dList_1, dInt1_i, dRev_v, dRevV_t, dRevV_r, dISeq_v, dISeqV_t, dISeqV_r, dIEnum_v, dIEnumV_t, dIEnumV_r, dPop_0, dPop_i, dAppend_1, dExtend_1, dSub3_i, dIRng1_v, dRng1V_i,
  seqOf_tup, seqOf_rol, seqW_tup, eqK_ss, eqK_ii, eqK_bb, eqK_nn, eqK_ts, eqK_st, eqK_ti, eqK_is, eqK_ns, flatD_str, flatD_int, flatD_bl, flatD_non, isT_NoneType_bool, isT_NoneType_int, isT_NoneType_str, isT_NoneType_tuple, isT_NoneType_list, isT_bool_bool, isT_bool_int, isT_bool_str, isT_bool_tuple, isT_bool_list, isT_int_bool, isT_int_int, isT_int_str, isT_int_tuple, isT_int_list, isT_str_bool, isT_str_int, isT_str_str, isT_str_tuple, isT_str_list, isT_tuple_bool, isT_tuple_int, isT_tuple_str, isT_tuple_tuple, isT_tuple_list, isT_list_bool, isT_list_int, isT_list_str, isT_list_tuple, isT_list_list, isNon_non, isNon_bl, isNon_int, isNon_str, isNon_tup, tyD_non, tyD_bl, tyD_int, tyD_str, tyD_tup, truD_bl, truD_int, truD_tup,
  atI_0, atI_1, atI_2, atI_3, atI_4, atI_m1, atI_m2, atI_m3, Option.some.injEq, exists_eq_left', exists_eq_left, beq_self_eq_true, Bool.not_true, Bool.not_false, if_true, if_false, true_and, and_true, Bool.false_eq_true, ↓reduceIte,
  List.getElem?_cons_zero, List.getElem?_cons_succ, List.set_cons_zero, List.set_cons_succ, List.map_cons, List.map_nil, List.length_cons, List.length_nil, mset_same, mset_mset, List.isEmpty_nil, List.isEmpty_cons, decide_eq_true_eq, beq_iff_eq, seqI_0, List.eraseIdx_cons_zero, List.eraseIdx_cons_succ, ixN_40, ixN_41, ixN_42, ixN_43, Nat.reduceAdd])
local macro_rules | `(tactic| walk_at "ne") => `(tactic| first | assumption | exact Ne.symm (by assumption))
local macro_rules | `(tactic| walk_at "mu") => `(tactic| first | exact mset_same | assumption | exact mset_skip (by walk_at "ne") (by walk_at "mu"))
local macro_rules | `(tactic| walk_at "go") => `(tactic| repeat (first | walk_at "pd" | refine ⟨_, seqOf_ref (by walk_at "mu"), ?_⟩ | refine ⟨⟨_, _, lstOf_ref (by walk_at "mu")⟩, ?_⟩ | refine ⟨_, _, lstOf_ref (by walk_at "mu"), ?_⟩ | refine ⟨(show CMul _ _ from Or.inr ⟨by decide, by decide⟩), ?_⟩ | refine ⟨(show CDiv _ _ from ⟨by decide, by decide⟩), ?_⟩))
local macro_rules | `(tactic| walk_at "w") => `(tactic| try walk_at "pd")
def MarkOk (S : List Nat) (k : Mark) : Prop := ∀ l, k = .sign l → (∀ c ∈ l, c ∈ S) ∧ l.length ≤ 7
def PcOk (S : List Nat) (rows : Nat) (names : List Str) : Piece → Prop
  | .lot n => n ∈ names
  | .plain ms => ms.length ≤ rows ∧ ∀ k ∈ ms, MarkOk S k
theorem atI_exN {α : Type} {xs : List α} {r : Int} (h0 : 0 ≤ r) (h1 : r < xs.length) : ∃ x ∈ xs, ∃ j : Nat, (j : Int) = r ∧ xs[j]? = some x := by
  have : r.toNat < xs.length := by omega
  exact ⟨xs[r.toNat], List.getElem_mem this, r.toNat, by omega, List.getElem?_eq_getElem this⟩
theorem off_put {a p : Addr} {m m' : Mu} {o : MO} (h : Off1 a m m') (hp : m p = none) : Off1 a m (mset m' p o) := fun x u n e => by
  have : x ≠ p := fun z => by rw [z, hp] at e; cases e
  rw [mset_ne this]; exact h x u n e
section
variable {P : Program} {w : World} {K : PySem.W.Frag} {mg : Str → Option Value} {base : Heap}
def sp__law_letters : SpD := fun ds m Q => ∃ (a : Addr) (S : List Nat), ds = [.ref a, .str (tx S)] ∧ S ≠ [] ∧ S.length ≤ 6 ∧ Tp m a ∧ ∀ l m', (∀ c ∈ l, c ∈ S) → l.length ≤ 7 → Off1 a m m' → Tp m' a → Q (.str (tx l)) m'
theorem ok__law_letters  (T : Txt K mg) (G__law_pick : FnOk P w K mg base CX0 (1) T.f__law_pick T.fd__law_pick ["_law_tape_here", "_law_limit"] (spL K 2 sp__law_pick)) : FnOk P w K mg base CX0 (2) T.f__law_letters T.fd__law_letters ["_law_tape_here", "_law_signs"] (spL K 2 sp__law_letters) := by
  refine fn_ok T.F__law_letters sc__law_letters (fun cdv A outer s H E hr =>
(gss_cons (gs_if (gt_cmpR (op_eqS hr.units) lr_eq (ge_call G__law_pick (hr.mono (by omega)) (by rfl) T.g__law_pick T.F__law_pick.kp T.b__law_pick (ga_cons (gv 0) (ga_cons ge_int ga_nil))) ge_int (nomark _))
 (gss_one (gs_ret ge_str))
 gss_nil)
 (gss_cons (gs_set (i := 2) sc__law_letters.nd rfl (.inl rfl) (ge_ix (gv 1) (ge_call G__law_pick (hr.mono (by omega)) (by rfl) T.g__law_pick T.F__law_pick.kp T.b__law_pick (ga_cons (gv 0) (ga_cons (ge_callB call_lenU lc_len (by rfl) T.z_len PySem.boot_len (ga_cons (gv 1) ga_nil)) ga_nil)))))
 (gss_cons (gs_for PassesOwn.never rfl (gi_str (gv 1)) (gg_name (i := 3) sc__law_letters.nd rfl (.inl rfl))
 (gss_one (gs_if (gw_and (gt_cmpR op_notIn_sign lr_notInSg (gv 3) (gv 2) (by rfl)) (gw_and1 (gt_cmpR (op_eqS hr.units) lr_eq (ge_call G__law_pick (hr.mono (by omega)) (by rfl) T.g__law_pick T.F__law_pick.kp T.b__law_pick (ga_cons (gv 0) (ga_cons ge_int ga_nil))) ge_int (nomark _)))).gt
 (gss_one (gs_set (i := 2) sc__law_letters.nd rfl (.inl rfl) (ge_op op_addL lr_addL (gv 3) (gv 2))))
 gss_nil)))
 (gss_one (gs_ret (ge_frz (gv 2)))))))) (fun ds m Q h => ?_)
  obtain ⟨a, S, rfl, hS, hl, hT, h⟩ := h
  rw [show startD N__law_letters [.ref a, .str (tx S)] = [some (.ref a), some (.str (tx S)), none, none] from rfl]
  walk_at "pd"
  refine ⟨a, 3, rfl, by omega, by omega, hT, fun r m1 r0 r1 O1 S1 => ?_⟩
  walk_at "pd"
  have hs : 0 < S.length := List.length_pos_iff.mpr hS
  split
  · exact sub_refl_fin (h [] _ (fun _ h => (List.not_mem_nil h).elim) (Nat.zero_le _) O1 S1)
  · refine ⟨Nat.le_trans hl (by decide), a, _, rfl, by omega, by omega, S1, fun r2 m2 r20 r21 O2 S2 => ?_⟩
    obtain ⟨v, hv, hm⟩ := atI_ex r20 r21
    rw [dIx_tx]
    refine ⟨Nat.le_trans hl (by decide), v, hv, ?_⟩
    refine loop_inv (fun rem s' m' => ∃ (post l : List Nat) (c : Option D), rem = post.map (fun c => D.str (tx [c])) ∧ s' = [some (.ref a), some (.str (tx S)), some (.str (tx l)), c] ∧ (∀ c ∈ post, c ∈ S) ∧ (∀ c ∈ l, c ∈ S) ∧ l.length + post.length ≤ 7 ∧ Off1 a m m' ∧ Tp m' a) ?_ ?_ ⟨S, [v], _, rfl, rfl, fun _ h => h, fun c hc => by rw [List.mem_singleton.mp hc]; exact hm, by rw [List.length_singleton]; omega, O1.trans O2, S2⟩
    · rintro d rem s' m' R hR ⟨post, l, c, e1, rfl, hp, hll, hlen, O, S3⟩
      cases post with
      | nil => cases e1
      | cons x post =>
        rw [List.map_cons] at e1
        injection e1 with e1 e2
        subst e1
        rw [List.length_cons] at hlen
        refine ⟨trivial, ?_⟩
        walk_at "pd"
        have stay : ∀ m2, Off1 a m m2 → Tp m2 a → R [some (.ref a), some (.str (tx S)), some (.str (tx l)), some (.str (tx [x]))] m2 := fun m2 O2 S2 => hR _ _ ⟨post, l, _, e2, rfl, fun c hc => hp c (List.mem_cons_of_mem _ hc), hll, by omega, O2, S2⟩
        refine ⟨x, _, rfl, rfl, ?_⟩
        split
        · refine ⟨a, 4, rfl, by omega, by omega, S3, fun r3 m3 r30 r31 O3 S4 => ⟨_, eqK_ii, ?_⟩⟩
          split
          · refine ⟨Nat.le_trans (by omega : _ ≤ 8) (by decide), hR _ _ ⟨post, [x] ++ l, _, e2, rfl, fun c hc => hp c (List.mem_cons_of_mem _ hc), fun c hc => ?_, ?_, O.trans O3, S4⟩⟩
            · rcases List.mem_append.mp hc with h | h
              · rw [List.mem_singleton.mp h]; exact hp x (List.mem_cons_self ..)
              · exact hll c h
            · rw [List.length_append, List.length_singleton]; omega
          · exact stay _ (O.trans O3) S4
        · exact stay _ O S3
    · rintro s' m' ⟨post, l, c, e1, rfl, hp, hll, hlen, O, S3⟩
      refine ⟨trivial, ?_⟩
      walk_at "pd"
      exact sub_refl_fin (h l _ hll (by omega) O S3)
def sp__law_mark : SpD := fun ds m Q => ∃ (a : Addr) (S : List Nat), ds = [.ref a, .str (tx S)] ∧ S ≠ [] ∧ S.length ≤ 6 ∧ Tp m a ∧ ∀ (k : Mark) m', MarkOk S k → Off1 a m m' → Tp m' a → Q k.d m'
theorem ok__law_mark  (T : Txt K mg) (G__law_pick : FnOk P w K mg base CX0 (1) T.f__law_pick T.fd__law_pick ["_law_tape_here", "_law_limit"] (spL K 2 sp__law_pick)) (G__law_letters : FnOk P w K mg base CX0 (2) T.f__law_letters T.fd__law_letters ["_law_tape_here", "_law_signs"] (spL K 2 sp__law_letters)) : FnOk P w K mg base CX0 (3) T.f__law_mark T.fd__law_mark ["_law_tape_here", "_law_signs"] (spL K 2 sp__law_mark) := by
  refine fn_ok T.F__law_mark sc__law_mark (fun cdv A outer s H E hr =>
(gss_cons (gs_set (i := 2) sc__law_mark.nd rfl (.inl rfl) (ge_call G__law_pick (hr.mono (by omega)) (by rfl) T.g__law_pick T.F__law_pick.kp T.b__law_pick (ga_cons (gv 0) (ga_cons ge_int ga_nil))))
 (gss_cons (gs_if (gt_cmpR (op_ltS hr.units) lr_ltP (gv 2) ge_int (nomark _))
 (gss_one (gs_ret (ge_tup (ga_cons ge_str (ga_cons (ge_call G__law_letters (hr.mono (by omega)) (by rfl) T.g__law_letters T.F__law_letters.kp T.b__law_letters (ga_cons (gv 0) (ga_cons (gv 1) ga_nil))) ga_nil)))))
 gss_nil)
 (gss_cons (gs_if (gt_cmpR (op_ltS hr.units) lr_ltP (gv 2) ge_int (nomark _))
 (gss_one (gs_ret (ge_tup (ga_cons ge_str ga_nil))))
 gss_nil)
 (gss_cons (gs_set (i := 3) sc__law_mark.nd rfl (.inl rfl) (ge_call G__law_pick (hr.mono (by omega)) (by rfl) T.g__law_pick T.F__law_pick.kp T.b__law_pick (ga_cons (gv 0) (ga_cons ge_int ga_nil))))
 (gss_cons (gs_if (gt_cmpR (op_ltS hr.units) lr_ltP (gv 2) ge_int (nomark _))
 (gss_one (gs_ret (ge_tup (ga_cons ge_str (ga_cons (gv 3) (ga_cons ge_non ga_nil))))))
 gss_nil)
 (gss_one (gs_ret (ge_tup (ga_cons ge_str (ga_cons (gv 3) (ga_cons (ge_op op_addL lr_addL (gv 3) (ge_call G__law_pick (hr.mono (by omega)) (by rfl) T.g__law_pick T.F__law_pick.kp T.b__law_pick (ga_cons (gv 0) (ga_cons ge_int ga_nil)))) ga_nil)))))))))))) (fun ds m Q h => ?_)
  obtain ⟨a, S, rfl, hS, hl, hT, h⟩ := h
  rw [show startD N__law_mark [.ref a, .str (tx S)] = [some (.ref a), some (.str (tx S)), none, none] from rfl]
  walk_at "pd"
  refine ⟨a, 8, rfl, by omega, by omega, hT, fun r m1 r0 r1 O1 S1 => ?_⟩
  walk_at "pd"
  split
  · refine ⟨a, S, rfl, hS, hl, S1, fun l m2 h1 h2 O2 S2 => ?_⟩
    exact sub_refl_fin (h (.sign l) _ (fun l' e => by cases e; exact ⟨h1, h2⟩) (O1.trans O2) S2)
  split
  · exact sub_refl_fin (h .none _ (fun l' e => by cases e) O1 S1)
  refine ⟨a, 4, rfl, by omega, by omega, S1, fun r2 m2 r20 r21 O2 S2 => ?_⟩
  split
  · exact sub_refl_fin (h (.run r2 none) _ (fun l' e => by cases e) (O1.trans O2) S2)
  refine ⟨a, 3, rfl, by omega, by omega, S2, fun r3 m3 r30 r31 O3 S3 => ?_⟩
  walk_at "pd"
  exact sub_refl_fin (h (.run r2 (some (r2 + r3))) _ (fun l' e => by cases e) ((O1.trans O2).trans O3) S3)
def sp__law_piece : SpD := fun ds m Q => ∃ (a : Addr) (S : List Nat) (rows : Nat) (names : List Str), ds = [.ref a, .str (tx S), .int (rows : Int), .tup (names.map .str)] ∧ S ≠ [] ∧ S.length ≤ 6 ∧ rows ≤ 2 ∧ names ≠ [] ∧ names.length ≤ 10 ∧ Tp m a ∧ ∀ (q : Piece) m', PcOk S rows names q → Off1 a m m' → Tp m' a → Q q.d m'
theorem ok__law_piece  (T : Txt K mg) (G__law_mark : FnOk P w K mg base CX0 (3) T.f__law_mark T.fd__law_mark ["_law_tape_here", "_law_signs"] (spL K 2 sp__law_mark)) (G__law_pick : FnOk P w K mg base CX0 (1) T.f__law_pick T.fd__law_pick ["_law_tape_here", "_law_limit"] (spL K 2 sp__law_pick)) : FnOk P w K mg base CX0 (4) T.f__law_piece T.fd__law_piece ["_law_tape_here", "_law_signs", "_law_rows", "_law_names"] (spL K 4 sp__law_piece) := by
  refine fn_ok T.F__law_piece sc__law_piece (fun cdv A outer s H E hr =>
(gss_cons (gs_if (gt_cmpR (op_eqS hr.units) lr_eq (ge_call G__law_pick (hr.mono (by omega)) (by rfl) T.g__law_pick T.F__law_pick.kp T.b__law_pick (ga_cons (gv 0) (ga_cons ge_int ga_nil))) ge_int (nomark _))
 (gss_one (gs_ret (ge_tup (ga_cons ge_str (ga_cons (ge_ix (gv 3) (ge_call G__law_pick (hr.mono (by omega)) (by rfl) T.g__law_pick T.F__law_pick.kp T.b__law_pick (ga_cons (gv 0) (ga_cons (ge_callB call_lenU lc_len (by rfl) T.z_len PySem.boot_len (ga_cons (gv 3) ga_nil)) ga_nil)))) ga_nil)))))
 gss_nil)
 (gss_cons (gs_set (i := 4) sc__law_piece.nd rfl (.inl rfl) (ge_lst ga_nil))
 (gss_cons (gs_for PassesOwn.never rfl (gi_rng1 (by rfl) T.z_range (ga_cons (gv 2) ga_nil)) (gg_name (i := 5) sc__law_piece.nd rfl (.inl rfl))
 (gss_one (gs_expr (ge_bm PySem.F.slot_list_append PySem.F.type_list_append mt_append lm_append (gv 4) (ga_cons (ge_call G__law_mark (hr.mono (by omega)) (by rfl) T.g__law_mark T.F__law_mark.kp T.b__law_mark (ga_cons (gv 0) (ga_cons (gv 1) ga_nil))) ga_nil)))))
 (gss_one (gs_ret (ge_tup (ga_cons ge_str (ga_cons (ge_callTy call_tuple_of lc_tuple (by rfl) T.z_tuple (by decide +kernel) (ga_cons (gv 4) ga_nil)) ga_nil))))))))) (fun ds m Q h => ?_)
  obtain ⟨a, S, rows, names, rfl, hS, hl, hr, hn, hnl, hT, h⟩ := h
  rw [show startD N__law_piece [.ref a, .str (tx S), .int (rows : Int), .tup (names.map .str)] = [some (.ref a), some (.str (tx S)), some (.int (rows : Int)), some (.tup (names.map .str)), none, none] from rfl]
  walk_at "pd"
  refine ⟨a, 6, rfl, by omega, by omega, hT, fun r m1 r0 r1 O1 S1 => ?_⟩
  walk_at "pd"
  have hs : 0 < names.length := List.length_pos_iff.mpr hn
  split
  · rw [List.length_map]
    refine ⟨a, _, rfl, by omega, by omega, S1, fun r2 m2 r20 r21 O2 S2 => ?_⟩
    obtain ⟨n, hm, j, e, hj⟩ := atI_exN r20 r21
    rw [← e]
    walk_at "pd"
    exact ⟨_, atI_map hj, sub_refl_fin (h (.lot n) _ hm (O1.trans O2) S2)⟩
  · intro p hp
    have pa := S1.ne hp
    have hpm := O1.free pa hp
    refine ⟨by omega, by omega, ?_⟩
    refine loop_inv (fun rem s' m' => ∃ (ms : List Mark) (c : Option D), ms.length + rem.length ≤ rows ∧ s' = [some (.ref a), some (.str (tx S)), some (.int (rows : Int)), some (.tup (names.map .str)), some (.ref p), c] ∧ (∀ k ∈ ms, MarkOk S k) ∧ Off1 a m m' ∧ Tp m' a ∧ m' p = some (.lst (ms.map Mark.d))) ?_ ?_ ⟨[], _, by rw [rangeD_len, List.length_nil]; omega, rfl, fun _ h => (List.not_mem_nil h).elim, O1.new hp, S1.new hp, mset_same⟩
    · rintro d rem s' m' R hR ⟨ms, c, hlen, rfl, hk, O, S3, hm⟩
      rw [List.length_cons] at hlen
      refine ⟨trivial, ?_⟩
      walk_at "pd"
      refine ⟨⟨_, _, lstOf_ref hm⟩, a, S, rfl, hS, hl, S3, fun k m2 hk2 O2 S2 => ⟨p, _, lstOf_ref (O2 _ _ pa hm), by rw [List.length_map]; exact Nat.lt_of_le_of_lt (by omega : _ ≤ 2) (by decide), hR _ _ ⟨ms ++ [k], _, ?_, rfl, fun k' hk' => ?_, off_put (O.trans O2) hpm, S2.setp pa, ?_⟩⟩⟩
      · rw [List.length_append, List.length_singleton]; omega
      · rcases List.mem_append.mp hk' with h | h
        · exact hk k' h
        · rw [List.mem_singleton.mp h]; exact hk2
      · rw [mset_same, List.map_append]; rfl
    · rintro s' m' ⟨ms, c, hlen, rfl, hk, O, S3, hm⟩
      refine ⟨trivial, ?_⟩
      walk_at "pd"
      rw [List.length_nil] at hlen
      exact ⟨_, seqOf_ref hm, sub_refl_fin (h (.plain ms) _ ⟨by omega, hk⟩ O S3)⟩
end
end K29

set_option Elab.async false
set_option linter.all false
set_option maxRecDepth 100000
set_option maxHeartbeats 4000000
namespace K29
open PySem PySem.Spec PyProof.Rows L2 PD Bk
local macro_rules | `(tactic| walk_at "pd") => `(tactic| simp (config := { decide := true, maxSteps := 400000 }) only [dIZipL, dFzT, dDGetTU, dDInTU, dDGet2TU, dDcT, dDCompT, dFzT, dIsB_b, dStrI_i, dRevT, revT_tx, Bk.pd_sg, Bk.pd_rows, Bk.pd_pairs, Bk.pd_nums, Bk.pd_start, Bk.pd_lots, Bk.pd_js, Bk.pd_as, dFldO, dFldV_o, dMethO, dMethV_o, dDGetU, dDInU, dDGet2U, dDc, dDComp, dIKeys, dFrzD_v, dFrzT_v, dFrzO, dFz, dFzD, dSetF, dMakeX, dMake, dSet0, dSAdd, Bk.dMethV_bk, Bk.dFldV_bk, Bk.bk_program, Bk.bk_signs, Bk.bk_rows, Bk.bk_start, Bk.bk_ways, Bk.bk_kinds, Bk.bk_pairs, Bk.bk_numbers, Bk.bk_sorts, Bk.bk_formulas, Bk.bk_asks, Bk.bk_m1, Bk.bk_m2, Bk.bk_m3, Bk.bk_m4, Bk.bk_m5, Bk.bk_m6, Bk.bk_m7, Bk.bk_m8, Bk.bk_m9, Bk.bk_ma, Bk.bk_mb, Bk.bk_mc, Bk.atI_5, Bk.atI_6, Bk.atI_7, Bk.atI_8, dAbs_i, tx_app, tx_len, tx_emp, dIx_tx, sgn_tx, cutS_to, cutS_fr, cutS_fr1, dPar, dIRng2, dIEnumS, dIStr, dInSg, dJoin, dSlS, dUpper, dChain, dDNewT, dDGetT, dDPutT, dMin3_i, dMax3_i, dCallX, dRaise, dSeq, dSet, dAsg, dgN, dRet, dRetN, dIfS, dFor, dLoop, dDrop, dNext, dVar, dC, dNil, dCons, dOp, dUn, dTest, dTru, dAnd, dOr, dNot, dAndV, dOrV, dNotV, dIfE, dTup, dLst, dCB, dCall, dCallP, dBM, dBML, dBM0, dLc, dComp, dYes, dgTup, dgCons, dgNil, dgSub, dPart, dNoPart, dAug, dIsi, dEq, dNe, wipeD, endsOf,
  dFrz, dFrzV_i, dFrzV_s, dFrzV_b, dFrzV_n, dFrzV_t, dFrzV_l, dFrzV_r, dAddL_i, dAddL_s, dAddL_t, dAddL_rr, dAddL_rl, dAddL_lr, dAddL_ll, dMulL_i, dMulL_s, dMulL_r, dSlL_v, dSlLV_t, dSlLV_l, dSlLV_r, dMinU_1, dMinU_2, dSumL_1, dSetTx_1, dIx_l, dLen_l, dInG_l, truD_rol, tyD_rol, dInt1_b, dISeqV_l, dLtS_i, dLtS_s, ltP_i, ltP_s, lsq_rol, dDNew, dDGet, dDGet2, dDSetd, dDPut, dSub_i, dInt2_i, dNeg_i, dCmp_i, dIsN_n, dNotN_n, dInG_t, dInG_r, dIx_t, dIx_r, dLen_s, dLen_t, dLen_r, dTuple_1, dList_1, dInt1_i, dRev_v, dRevV_t, dRevV_r, dISeq_v, dISeqV_t, dISeqV_r, dIEnum_v, dIEnumV_t, dIEnumV_r, dPop_0, dPop_i, dAppend_1, dExtend_1, dSub3_i, dIRng1_v, dRng1V_i,
  seqOf_tup, seqOf_rol, seqW_tup, eqK_ss, eqK_ii, eqK_bb, eqK_nn, eqK_ts, eqK_st, eqK_ti, eqK_is, eqK_ns, flatD_str, flatD_int, flatD_bl, flatD_non, isT_NoneType_bool, isT_NoneType_int, isT_NoneType_str, isT_NoneType_tuple, isT_NoneType_list, isT_bool_bool, isT_bool_int, isT_bool_str, isT_bool_tuple, isT_bool_list, isT_int_bool, isT_int_int, isT_int_str, isT_int_tuple, isT_int_list, isT_str_bool, isT_str_int, isT_str_str, isT_str_tuple, isT_str_list, isT_tuple_bool, isT_tuple_int, isT_tuple_str, isT_tuple_tuple, isT_tuple_list, isT_list_bool, isT_list_int, isT_list_str, isT_list_tuple, isT_list_list, isNon_non, isNon_bl, isNon_int, isNon_str, isNon_tup, tyD_non, tyD_bl, tyD_int, tyD_str, tyD_tup, truD_bl, truD_int, truD_tup,
  atI_0, atI_1, atI_2, atI_3, atI_4, atI_m1, atI_m2, atI_m3, Option.some.injEq, exists_eq_left', exists_eq_left, beq_self_eq_true, Bool.not_true, Bool.not_false, if_true, if_false, true_and, and_true, Bool.false_eq_true, ↓reduceIte,
  List.getElem?_cons_zero, List.getElem?_cons_succ, List.set_cons_zero, List.set_cons_succ, List.map_cons, List.map_nil, List.length_cons, List.length_nil, mset_same, mset_mset, List.isEmpty_nil, List.isEmpty_cons, decide_eq_true_eq, beq_iff_eq, seqI_0, List.eraseIdx_cons_zero, List.eraseIdx_cons_succ, ixN_40, ixN_41, ixN_42, ixN_43, Nat.reduceAdd])
local macro_rules | `(tactic| walk_at "ne") => `(tactic| first | assumption | exact Ne.symm (by assumption))
local macro_rules | `(tactic| walk_at "mu") => `(tactic| first | exact mset_same | assumption | exact mset_skip (by walk_at "ne") (by walk_at "mu"))
local macro_rules | `(tactic| walk_at "go") => `(tactic| repeat (first | walk_at "pd" | refine ⟨_, seqOf_ref (by walk_at "mu"), ?_⟩ | refine ⟨⟨_, _, lstOf_ref (by walk_at "mu")⟩, ?_⟩ | refine ⟨_, _, lstOf_ref (by walk_at "mu"), ?_⟩ | refine ⟨(show CMul _ _ from Or.inr ⟨by decide, by decide⟩), ?_⟩ | refine ⟨(show CDiv _ _ from ⟨by decide, by decide⟩), ?_⟩))
local macro_rules | `(tactic| walk_at "w") => `(tactic| try walk_at "pd")
theorem seqOf_sub {m m' : Mu} {x : D} {es : List D} (h : PD.Sub m m') (e : seqOf m x = some es) : seqOf m' x = some es := by
  cases x with
  | tup _ => exact e
  | rol _ => exact e
  | ref a =>
    unfold seqOf at e ⊢
    dsimp only at e ⊢
    cases q : m a with
    | none => simp only [q] at e; cases e
    | some o => rw [q] at e; rw [h _ _ q]; exact e
  | _ => cases e
theorem dLen_seq {m : Mu} {x : D} {es : List D} {Q : DK} (e : seqOf m x = some es) (h : Q (.int es.length) m) : dLen [x] m Q := by
  cases x with
  | str _ => cases e
  | _ => exact ⟨es, e, h⟩
theorem dIx_seq {m : Mu} {x d : D} {i : Int} {es : List D} {Q : DK} (e : seqOf m x = some es) (h : atI es i = some d) (hQ : Q d m) : dIx x (.int i) m Q := by
  cases x with
  | str _ => cases e
  | _ => exact ⟨es, e, d, h, hQ⟩
theorem dISeqV_seq {m : Mu} {x : D} {es : List D} {R : List D → (Mu → Prop) → Mu → Prop} (e : seqOf m x = some es) (h : ∀ st : Mu → Prop, (∀ m', seqOf m' x = some es → st m') → R es st m) : dISeqV x m R := by
  cases x with
  | tup _ => cases e; exact h _ fun _ _ => trivial
  | rol _ => cases e; exact h _ fun _ _ => trivial
  | ref a => exact ⟨_, e, h _ fun m' S => S⟩
  | _ => cases e
theorem refsTo_app {S : MW → Bool} {ks : List Knd} {k : Knd} : refsTo S (ks ++ [k]) = refsTo S ks ++ (match k with | none => [] | some ws => refsOf ks.length S ws) := by
  unfold refsTo
  rw [List.zipIdx_append, List.flatMap_append]
  congr 1
  simp only [List.zipIdx_cons, List.zipIdx_nil, List.flatMap_cons, List.flatMap_nil, List.append_nil, Nat.zero_add]
  all_goals (cases k <;> rfl)
theorem refsOf_app {i : Nat} {S : MW → Bool} {ws : List MW} {w : MW} : refsOf i S (ws ++ [w]) = refsOf i S ws ++ (if S w = true then [(i, ws.length)] else []) := by
  unfold refsOf
  rw [List.zipIdx_append, List.filter_append, List.map_append]
  congr 1
  simp only [List.zipIdx_cons, List.zipIdx_nil, List.filter_cons, List.filter_nil, Nat.zero_add]
  cases S w <;> rfl
theorem refsTo_len {S : MW → Bool} {ks : List Knd} (h1 : ks.length ≤ 100) (h2 : ∀ k, some k ∈ ks → k.length ≤ 10) : (refsTo S ks).length ≤ 1000 := by
  unfold refsTo
  refine Nat.le_trans (flat_le (n := 10) ?_) (by rw [List.length_zipIdx]; omega)
  rintro ⟨k', i'⟩ hk'
  cases k' with
  | none => exact Nat.zero_le _
  | some k' => exact Nat.le_trans refsOf_len (h2 k' (List.mem_of_getElem? (List.mem_zipIdx_iff_getElem?.mp hk')))
theorem knd_le {ps : List Piece} (h : ∀ ms, Piece.plain ms ∈ ps → ms.length ≤ 10) : ∀ k, some k ∈ ps.map Piece.k → k.length ≤ 10 := fun k hk => by
  obtain ⟨q, hq, e⟩ := List.mem_map.mp hk
  cases q with
  | lot n => cases e
  | plain ms => cases e; rw [List.length_map]; exact h ms hq
theorem take_succ' {α : Type} {l : List α} {i : Nat} {a : α} (h : l[i]? = some a) : l.take (i + 1) = l.take i ++ [a] := by
  rw [List.take_succ, h]; rfl
section
variable {P : Program} {w : World} {K : PySem.W.Frag} {mg : Str → Option Value} {base : Heap}
def sp__law_places : SpD := fun ds m Q => ∃ (x : D) (ps : List Piece), ds = [x] ∧ seqOf m x = some (ps.map Piece.d) ∧ ps.length ≤ 100 ∧ (∀ ms, Piece.plain ms ∈ ps → ms.length ≤ 10) ∧ Q (.rol ((refsTo isSg (ps.map Piece.k)).map refD)) m
theorem ok__law_places  (T : Txt K mg)  : FnOk P w K mg base CX0 (1) T.f__law_places T.fd__law_places ["_law_pieces"] (spL K 1 sp__law_places) := by
  refine fn_ok T.F__law_places sc__law_places (fun cdv A outer s H E hr =>
(gss_cons (gs_set (i := 1) sc__law_places.nd rfl (.inl rfl) (ge_lst ga_nil))
 (gss_cons (gs_for PassesOwn.never rfl (gi_rng1 (by rfl) T.z_range (ga_cons (ge_callB call_lenU lc_len (by rfl) T.z_len PySem.boot_len (ga_cons (gv 0) ga_nil)) ga_nil)) (gg_name (i := 2) sc__law_places.nd rfl (.inl rfl))
 (gss_one (gs_if (gt_cmpR (op_eqS hr.units) lr_eq (ge_ix (ge_ix (gv 0) (gv 2)) ge_int) ge_str (nomark _))
 (gss_one (gs_for PassesOwn.never rfl (gi_rng1 (by rfl) T.z_range (ga_cons (ge_callB call_lenU lc_len (by rfl) T.z_len PySem.boot_len (ga_cons (ge_ix (ge_ix (gv 0) (gv 2)) ge_int) ga_nil)) ga_nil)) (gg_name (i := 3) sc__law_places.nd rfl (.inl rfl))
 (gss_one (gs_if (gt_cmpR (op_eqS hr.units) lr_eq (ge_ix (ge_ix (ge_ix (ge_ix (gv 0) (gv 2)) ge_int) (gv 3)) ge_int) ge_str (nomark _))
 (gss_one (gs_expr (ge_bm PySem.F.slot_list_append PySem.F.type_list_append mt_append lm_append (gv 1) (ga_cons (ge_tup (ga_cons (gv 2) (ga_cons (gv 3) ga_nil))) ga_nil))))
 gss_nil))))
 gss_nil)))
 (gss_one (gs_ret (ge_frz (gv 1))))))) (fun ds m Q h => ?_)
  obtain ⟨x, ps, rfl, e, h1, h2, h⟩ := h
  rw [show startD N__law_places [x] = [some (x), none, none, none] from rfl]
  walk_at "pd"
  intro p hp
  have kl := knd_le h2
  have e1 : ∀ m', PD.Sub m m' → seqOf m' x = some (ps.map Piece.d) := fun m' S => seqOf_sub S e
  refine dLen_seq (e1 _ (.new hp)) ?_
  rw [List.length_map]
  refine ⟨by omega, by omega, ?_⟩
  refine loop_range (fun i s' m' => (∃ c d, s' = [some x, some (.ref p), c, d]) ∧ PD.Sub m m' ∧ m' p = some (.lst ((refsTo isSg ((ps.take i).map Piece.k)).map refD))) ?_ ?_ ⟨⟨_, _, rfl⟩, .new hp, mset_same⟩
  · rintro i s' m' R hi hR ⟨⟨c, d, rfl⟩, S, hm⟩
    have hi2 : i < ps.length := by simpa using hi
    have eq : ps[i]? = some ps[i] := List.getElem?_eq_getElem hi2
    generalize ps[i] = q at eq
    have et : (ps.take (i + 1)).map Piece.k = (ps.take i).map Piece.k ++ [q.k] := by rw [take_succ' eq, List.map_append]; rfl
    rw [et, refsTo_app] at hR
    have hmem := List.mem_of_getElem? eq
    refine ⟨trivial, ?_⟩
    walk_at "pd"
    refine dIx_seq (e1 _ S) (atI_map eq) ?_
    have lk : ((ps.take i).map Piece.k).length = i := by rw [List.length_map, List.length_take]; omega
    cases q with
    | lot n =>
      unfold Piece.d
      walk_at "pd"
      exact hR _ _ ⟨⟨_, _, rfl⟩, S, by rw [hm]; congr 3; exact (List.append_nil _).symm⟩
    | plain ms =>
      have ml := h2 ms hmem
      unfold Piece.d
      walk_at "pd"
      refine dIx_seq (e1 _ S) (atI_map eq) ?_
      unfold Piece.d
      walk_at "pd"
      rw [List.length_map]
      refine ⟨by omega, by omega, ?_⟩
      rw [lk] at hR
      dsimp only [Piece.k] at hR
      refine loop_range (fun j s' m' => (∃ d, s' = [some x, some (.ref p), some (.int (i : Int)), d]) ∧ PD.Sub m m' ∧ m' p = some (.lst ((refsTo isSg ((ps.take i).map Piece.k) ++ refsOf i isSg ((ms.take j).map Mark.w)).map refD))) ?_ ?_ ⟨⟨_, rfl⟩, S, by rw [hm]; congr 3; exact (List.append_nil _).symm⟩
      · rintro j s' m' R2 hj hR2 ⟨⟨d, rfl⟩, S, hm⟩
        have hj2 : j < ms.length := by simpa using hj
        have ej : ms[j]? = some ms[j] := List.getElem?_eq_getElem hj2
        generalize ms[j] = k at ej
        have et2 : (ms.take (j + 1)).map Mark.w = (ms.take j).map Mark.w ++ [k.w] := by rw [take_succ' ej, List.map_append]; rfl
        rw [et2, refsOf_app] at hR2
        have lj : ((ms.take j).map Mark.w).length = j := by rw [List.length_map, List.length_take]; omega
        rw [lj] at hR2
        refine ⟨trivial, ?_⟩
        walk_at "pd"
        refine dIx_seq (e1 _ S) (atI_map eq) ?_
        unfold Piece.d
        walk_at "pd"
        refine ⟨_, atI_map ej, ?_⟩
        have l1 : (refsTo isSg ((ps.take i).map Piece.k)).length ≤ 1000 := refsTo_len (by omega) fun k hk => kl k (by
          obtain ⟨q, hq, e⟩ := List.mem_map.mp hk
          exact List.mem_map.mpr ⟨q, List.mem_of_mem_take hq, e⟩)
        have l2 : (refsOf i isSg ((ms.take j).map Mark.w)).length ≤ 10 := Nat.le_trans refsOf_len (by omega)
        cases k with
        | sign l =>
          unfold Mark.d
          walk_at "pd"
          refine ⟨⟨_, _, lstOf_ref hm⟩, p, _, lstOf_ref hm, by rw [List.length_map, List.length_append]; exact Nat.lt_of_le_of_lt (by omega : _ ≤ 1010) (by decide), hR2 _ _ ⟨⟨_, rfl⟩, S.new' hp, ?_⟩⟩
          rw [mset_same, List.map_append, List.map_append, List.map_append]
          simp [Mark.w, refD]
        | none =>
          unfold Mark.d
          walk_at "pd"
          exact hR2 _ _ ⟨⟨_, rfl⟩, S, by rw [hm]; simp [Mark.w]⟩
        | run lo hi =>
          unfold Mark.d
          walk_at "pd"
          exact hR2 _ _ ⟨⟨_, rfl⟩, S, by rw [hm]; simp [Mark.w]⟩
      · rintro s' m' ⟨⟨d, rfl⟩, S, hm⟩
        refine ⟨trivial, hR _ _ ⟨⟨_, _, rfl⟩, S, ?_⟩⟩
        rw [show ((ms.length : Int)).toNat = ms.length by omega, List.take_length] at hm
        exact hm
  · rintro s' m' ⟨⟨c, d, rfl⟩, S, hm⟩
    refine ⟨trivial, ?_⟩
    walk_at "pd"
    rw [List.take_of_length_le (by simp)] at hm
    exact ⟨_, hm, m, S.del hp, h⟩
def sp__law_kinds : SpD := fun ds m Q => ∃ (x : D) (ps : List Piece), ds = [x] ∧ seqOf m x = some (ps.map Piece.d) ∧ ps.length ≤ 100 ∧ (∀ ms, Piece.plain ms ∈ ps → ms.length ≤ 10) ∧ Q (kindsD (ps.map Piece.k)) m
theorem ok__law_kinds  (T : Txt K mg)  : FnOk P w K mg base CX0 (1) T.f__law_kinds T.fd__law_kinds ["_law_pieces"] (spL K 1 sp__law_kinds) := by
  refine fn_ok T.F__law_kinds sc__law_kinds (fun cdv A outer s H E hr =>
(gss_cons (gs_set (i := 1) sc__law_kinds.nd rfl (.inl rfl) (ge_lst ga_nil))
 (gss_cons (gs_for PassesOwn.never rfl (gi_seq (gv 0)) (gg_name (i := 2) sc__law_kinds.nd rfl (.inl rfl))
 (gss_one (gs_if (gt_cmpR (op_eqS hr.units) lr_eq (ge_ix (gv 2) ge_int) ge_str (nomark _))
 (gss_one (gs_expr (ge_bm PySem.F.slot_list_append PySem.F.type_list_append mt_append lm_append (gv 1) (ga_cons ge_str ga_nil))))
 (gss_one (gs_expr (ge_bm PySem.F.slot_list_append PySem.F.type_list_append mt_append lm_append (gv 1) (ga_cons (ge_callTy call_tuple_of lc_tuple (by rfl) T.z_tuple (by decide +kernel) (ga_cons (ge_lc (own := [("_law_mark_here", 3)]) rfl sc__law_kinds.nd (gi_seq (ge_ix (gv 2) ge_int)) (blkOk_by (N := N__law_kinds) (sc := defScope s__law_kinds) (by decide +kernel)) (fun _ _ _ _ _ => (gg_name (i := 3) sc__law_kinds.nd rfl (.inl rfl))) (fun _ _ _ _ _ => gts_nil) (fun _ _ _ _ _ => (ge_ix (gv 3) ge_int)) (by decide)) ga_nil)) ga_nil)))))))
 (gss_one (gs_ret (ge_callTy call_tuple_of lc_tuple (by rfl) T.z_tuple (by decide +kernel) (ga_cons (gv 1) ga_nil))))))) (fun ds m Q h => ?_)
  obtain ⟨x, ps, rfl, e, h1, h2, h⟩ := h
  rw [show startD N__law_kinds [x] = [some (x), none, none, none] from rfl]
  walk_at "pd"
  intro p hp
  have e1 : seqOf (mset m p (.lst [])) x = some (ps.map Piece.d) := seqOf_sub (.new hp) e
  refine dISeqV_seq e1 fun st hst => ?_
  refine loop_pre (fun pre s' m' => (∃ c d, s' = [some x, some (.ref p), c, d]) ∧ PD.Sub m m' ∧ m' p = some (.lst (pre.map fun q => kindD q.k))) Piece.d (fun pre s' m' h => hst _ (seqOf_sub h.2.1 e)) ?_ ?_ ⟨⟨_, _, rfl⟩, .new hp, mset_same⟩
  · rintro pre q post eq s' m' R ⟨⟨c, d, rfl⟩, S, hm⟩ hR
    have lp : pre.length ≤ 100 := by rw [eq, List.length_append] at h1; omega
    have hq : q ∈ ps := by rw [eq]; simp
    cases q with
    | lot n =>
      unfold Piece.d
      walk_at "pd"
      refine ⟨⟨_, _, lstOf_ref hm⟩, p, _, lstOf_ref hm, by rw [List.length_map]; exact Nat.lt_of_le_of_lt lp (by decide), hR _ _ ⟨⟨_, _, rfl⟩, S.new' hp, ?_⟩⟩
      rw [mset_same, List.map_append]; rfl
    | plain ms =>
      have ml := h2 ms hq
      unfold Piece.d
      walk_at "pd"
      refine ⟨⟨_, _, lstOf_ref hm⟩, fun p2 hp2 => ?_⟩
      have n2 : p ≠ p2 := fun z => by rw [← z, hm] at hp2; cases hp2
      refine comp_all (us := ms) Mark.d (fun k => .str k.w.s) (fun _ => trivial) (by omega) (fun k hk a R k1 => ?_) ?_
      · cases k <;> (unfold Mark.d; walk_at "pd"; exact k1)
      refine ⟨_, seqOf_ref mset_same, p, _, lstOf_ref (by rw [mset_ne n2]; exact hm), by rw [List.length_map]; exact Nat.lt_of_le_of_lt lp (by decide), hR _ _ ⟨⟨_, _, rfl⟩, (S.trans (.new hp2)).new' hp, ?_⟩⟩
      have e9 : D.tup (ms.map fun k => .str k.w.s) = kindD (Piece.plain ms).k := by
        show _ = D.tup ((ms.map Mark.w).map _)
        rw [List.map_map]; rfl
      rw [mset_same, List.map_append, e9]; rfl
  · rintro s' m' ⟨⟨c, d, rfl⟩, S, hm⟩
    walk_at "pd"
    refine ⟨_, seqOf_ref hm, m, S, ?_⟩
    unfold kindsD at h
    rw [List.map_map] at h
    exact h
end
end K29

set_option Elab.async false
set_option linter.all false
set_option maxRecDepth 100000
set_option maxHeartbeats 4000000
namespace K29
open PySem PySem.Spec PyProof.Rows L2 PD Bk
local macro_rules | `(tactic| walk_at "pd") => `(tactic| simp (config := { decide := true, maxSteps := 400000 }) only [dIZipL, dFzT, dDGetTU, dDInTU, dDGet2TU, dDcT, dDCompT, dFzT, dIsB_b, dStrI_i, dRevT, revT_tx, Bk.pd_sg, Bk.pd_rows, Bk.pd_pairs, Bk.pd_nums, Bk.pd_start, Bk.pd_lots, Bk.pd_js, Bk.pd_as, dFldO, dFldV_o, dMethO, dMethV_o, dDGetU, dDInU, dDGet2U, dDc, dDComp, dIKeys, dFrzD_v, dFrzT_v, dFrzO, dFz, dFzD, dSetF, dMakeX, dMake, dSet0, dSAdd, Bk.dMethV_bk, Bk.dFldV_bk, Bk.bk_program, Bk.bk_signs, Bk.bk_rows, Bk.bk_start, Bk.bk_ways, Bk.bk_kinds, Bk.bk_pairs, Bk.bk_numbers, Bk.bk_sorts, Bk.bk_formulas, Bk.bk_asks, Bk.bk_m1, Bk.bk_m2, Bk.bk_m3, Bk.bk_m4, Bk.bk_m5, Bk.bk_m6, Bk.bk_m7, Bk.bk_m8, Bk.bk_m9, Bk.bk_ma, Bk.bk_mb, Bk.bk_mc, Bk.atI_5, Bk.atI_6, Bk.atI_7, Bk.atI_8, dAbs_i, tx_app, tx_len, tx_emp, dIx_tx, sgn_tx, cutS_to, cutS_fr, cutS_fr1, dPar, dIRng2, dIEnumS, dIStr, dInSg, dJoin, dSlS, dUpper, dChain, dDNewT, dDGetT, dDPutT, dMin3_i, dMax3_i, dCallX, dRaise, dSeq, dSet, dAsg, dgN, dRet, dRetN, dIfS, dFor, dLoop, dDrop, dNext, dVar, dC, dNil, dCons, dOp, dUn, dTest, dTru, dAnd, dOr, dNot, dAndV, dOrV, dNotV, dIfE, dTup, dLst, dCB, dCall, dCallP, dBM, dBML, dBM0, dLc, dComp, dYes, dgTup, dgCons, dgNil, dgSub, dPart, dNoPart, dAug, dIsi, dEq, dNe, wipeD, endsOf,
  dFrz, dFrzV_i, dFrzV_s, dFrzV_b, dFrzV_n, dFrzV_t, dFrzV_l, dFrzV_r, dAddL_i, dAddL_s, dAddL_t, dAddL_rr, dAddL_rl, dAddL_lr, dAddL_ll, dMulL_i, dMulL_s, dMulL_r, dSlL_v, dSlLV_t, dSlLV_l, dSlLV_r, dMinU_1, dMinU_2, dSumL_1, dSetTx_1, dIx_l, dLen_l, dInG_l, truD_rol, tyD_rol, dInt1_b, dISeqV_l, dLtS_i, dLtS_s, ltP_i, ltP_s, lsq_rol, dDNew, dDGet, dDGet2, dDSetd, dDPut, dSub_i, dInt2_i, dNeg_i, dCmp_i, dIsN_n, dNotN_n, dInG_t, dInG_r, dIx_t, dIx_r, dLen_s, dLen_t, dLen_r, dTuple_1, dList_1, dInt1_i, dRev_v, dRevV_t, dRevV_r, dISeq_v, dISeqV_t, dISeqV_r, dIEnum_v, dIEnumV_t, dIEnumV_r, dPop_0, dPop_i, dAppend_1, dExtend_1, dSub3_i, dIRng1_v, dRng1V_i,
  seqOf_tup, seqOf_rol, seqW_tup, eqK_ss, eqK_ii, eqK_bb, eqK_nn, eqK_ts, eqK_st, eqK_ti, eqK_is, eqK_ns, flatD_str, flatD_int, flatD_bl, flatD_non, isT_NoneType_bool, isT_NoneType_int, isT_NoneType_str, isT_NoneType_tuple, isT_NoneType_list, isT_bool_bool, isT_bool_int, isT_bool_str, isT_bool_tuple, isT_bool_list, isT_int_bool, isT_int_int, isT_int_str, isT_int_tuple, isT_int_list, isT_str_bool, isT_str_int, isT_str_str, isT_str_tuple, isT_str_list, isT_tuple_bool, isT_tuple_int, isT_tuple_str, isT_tuple_tuple, isT_tuple_list, isT_list_bool, isT_list_int, isT_list_str, isT_list_tuple, isT_list_list, isNon_non, isNon_bl, isNon_int, isNon_str, isNon_tup, tyD_non, tyD_bl, tyD_int, tyD_str, tyD_tup, truD_bl, truD_int, truD_tup,
  atI_0, atI_1, atI_2, atI_3, atI_4, atI_m1, atI_m2, atI_m3, Option.some.injEq, exists_eq_left', exists_eq_left, beq_self_eq_true, Bool.not_true, Bool.not_false, if_true, if_false, true_and, and_true, Bool.false_eq_true, ↓reduceIte,
  List.getElem?_cons_zero, List.getElem?_cons_succ, List.set_cons_zero, List.set_cons_succ, List.map_cons, List.map_nil, List.length_cons, List.length_nil, mset_same, mset_mset, List.isEmpty_nil, List.isEmpty_cons, decide_eq_true_eq, beq_iff_eq, seqI_0, List.eraseIdx_cons_zero, List.eraseIdx_cons_succ, ixN_40, ixN_41, ixN_42, ixN_43, Nat.reduceAdd])
local macro_rules | `(tactic| walk_at "ne") => `(tactic| first | assumption | exact Ne.symm (by assumption))
local macro_rules | `(tactic| walk_at "mu") => `(tactic| first | exact mset_same | assumption | exact mset_skip (by walk_at "ne") (by walk_at "mu"))
local macro_rules | `(tactic| walk_at "go") => `(tactic| repeat (first | walk_at "pd" | refine ⟨_, seqOf_ref (by walk_at "mu"), ?_⟩ | refine ⟨⟨_, _, lstOf_ref (by walk_at "mu")⟩, ?_⟩ | refine ⟨_, _, lstOf_ref (by walk_at "mu"), ?_⟩ | refine ⟨(show CMul _ _ from Or.inr ⟨by decide, by decide⟩), ?_⟩ | refine ⟨(show CDiv _ _ from ⟨by decide, by decide⟩), ?_⟩))
local macro_rules | `(tactic| walk_at "w") => `(tactic| try walk_at "pd")
def mkD (e : List Knd × Str) : D := .tup [kindsD e.1, .str e.2]
def NM : List Str := ["make0", "make1", "f2", "f3", "to4", "to5"]
def MkOk (L : List (List Knd × Str)) : Prop := L.length ≤ 6 ∧ L.map (·.2) = NM.take L.length
theorem mk_nd {L : List (List Knd × Str)} (h : MkOk L) : (L.map (·.2)).Nodup := by
  rw [h.2]
  exact List.Nodup.sublist (List.take_sublist _ _) (by decide)
theorem map_inj' {α β : Type} {f : α → β} (hf : ∀ a b, f a = f b → a = b) : ∀ {l l' : List α}, l.map f = l'.map f → l = l'
  | [], [], _ => rfl
  | [], _ :: _, h => by cases h
  | _ :: _, [], h => by cases h
  | a :: l, b :: l', h => by
    rw [List.map_cons, List.map_cons] at h
    injection h with h1 h2
    rw [hf a b h1, map_inj' hf h2]
theorem kindsD_inj {a b : List Knd} (h : kindsD a = kindsD b) : a = b := by
  unfold kindsD at h
  injection h with h
  exact map_inj' (fun _ _ => kindD_inj) h
section
variable {P : Program} {w : World} {K : PySem.W.Frag} {mg : Str → Option Value} {base : Heap}
def sp__law_maker : SpD := fun ds m Q => ∃ (a : Addr) (x : D) (b : Addr) (ps : List Piece) (L : List (List Knd × Str)), ds = [.ref a, x, .ref b] ∧ b ≠ a ∧ seqOf m x = some (ps.map Piece.d) ∧ ps.length ≤ 100 ∧ (∀ ms, Piece.plain ms ∈ ps → ms.length ≤ 10) ∧
    Tp m a ∧ m b = some (.lst (L.map mkD)) ∧ MkOk L ∧ L.length < 6 ∧ ∀ (n : Str) (L' : List (List Knd × Str)) m', MkOk L' → L'.length ≤ L.length + 1 → (∀ e ∈ L, e ∈ L') → (ps.map Piece.k, n) ∈ L' → m' b = some (.lst (L'.map mkD)) → OffS a b m m' → Tp m' a → Q (.str n) m'
theorem ok__law_maker  (T : Txt K mg) (G__law_pick : FnOk P w K mg base CX0 (1) T.f__law_pick T.fd__law_pick ["_law_tape_here", "_law_limit"] (spL K 2 sp__law_pick)) (G__law_kinds : FnOk P w K mg base CX0 (1) T.f__law_kinds T.fd__law_kinds ["_law_pieces"] (spL K 1 sp__law_kinds)) : FnOk P w K mg base CX0 (2) T.f__law_maker T.fd__law_maker ["_law_tape_here", "_law_pieces", "_law_makers"] (spL K 3 sp__law_maker) := by
  refine fn_ok T.F__law_maker sc__law_maker (fun cdv A outer s H E hr =>
(gss_cons (gs_set (i := 3) sc__law_maker.nd rfl (.inl rfl) (ge_call G__law_kinds (hr.mono (by omega)) (by rfl) T.g__law_kinds T.F__law_kinds.kp T.b__law_kinds (ga_cons (gv 1) ga_nil)))
 (gss_cons (gs_for PassesOwn.never rfl (gi_seq (gv 2)) (gg_name (i := 4) sc__law_maker.nd rfl (.inl rfl))
 (gss_one (gs_if (gw_and (gt_cmpR (op_eqS hr.units) lr_eq (ge_ix (gv 4) ge_int) (gv 3) (nomark _)) (gw_and1 (gt_cmpR (op_gtS hr.units) lr_gtP (ge_call G__law_pick (hr.mono (by omega)) (by rfl) T.g__law_pick T.F__law_pick.kp T.b__law_pick (ga_cons (gv 0) (ga_cons ge_int ga_nil))) ge_int (nomark _)))).gt
 (gss_one (gs_ret (ge_ix (gv 4) ge_int)))
 gss_nil)))
 (gss_cons (gs_set (i := 5) sc__law_maker.nd rfl (.inl rfl) (ge_op op_addL lr_addL (ge_ix (ge_tup (ga_cons ge_str (ga_cons ge_str (ga_cons ge_str ga_nil)))) (ge_op op_mod lr_int2 (ge_op op_fdivW lr_int2 (ge_callB call_lenU lc_len (by rfl) T.z_len PySem.boot_len (ga_cons (gv 2) ga_nil)) ge_int) ge_int)) (ge_callTy call_str_int lc_strI (by rfl) T.z_str (by decide +kernel) (ga_cons (ge_callB call_lenU lc_len (by rfl) T.z_len PySem.boot_len (ga_cons (gv 2) ga_nil)) ga_nil))))
 (gss_cons (gs_expr (ge_bm PySem.F.slot_list_append PySem.F.type_list_append mt_append lm_append (gv 2) (ga_cons (ge_tup (ga_cons (gv 3) (ga_cons (gv 5) ga_nil))) ga_nil)))
 (gss_one (gs_ret (ge_frz (gv 5))))))))) (fun ds m Q h => ?_)
  obtain ⟨a, x, b, ps, L, rfl, nb, e, h1, h2, hT, hb, hL, hL6, h⟩ := h
  rw [show startD N__law_maker [.ref a, x, .ref b] = [some (.ref a), some (x), some (.ref b), none, none, none] from rfl]
  walk_at "pd"
  refine ⟨x, ps, rfl, e, h1, h2, _, seqOf_ref hb, ?_⟩
  refine loop_pre (fun pre s' m' => (∃ c d, s' = [some (.ref a), some x, some (.ref b), some (kindsD (ps.map Piece.k)), c, d]) ∧ Off1 a m m' ∧ Tp m' a) mkD (fun pre s' m' h => seqOf_ref (h.2.1 _ _ nb hb)) ?_ ?_ ⟨⟨_, _, rfl⟩, .refl _ _, hT⟩
  · rintro pre q post eq s' m' R ⟨⟨c, d, rfl⟩, O, S1⟩ hR
    have hq : q ∈ L := by rw [eq]; simp
    obtain ⟨k1, k2, k3⟩ := kinds_pln q.1
    obtain ⟨k4, k5, k6⟩ := kinds_pln (ps.map Piece.k)
    unfold mkD
    walk_at "pd"
    obtain ⟨t, et, ht⟩ := eqK_iff m' k1 k4 k2 k5 (by omega) (by omega)
    refine ⟨t, et, ?_⟩
    have stay : ∀ m2, Off1 a m m2 → Tp m2 a → R [some (.ref a), some x, some (.ref b), some (kindsD (ps.map Piece.k)), some (mkD q), d] m2 := fun m2 O2 S2 => hR _ _ ⟨⟨_, _, rfl⟩, O2, S2⟩
    split
    · refine ⟨a, 3, rfl, by omega, by omega, S1, fun r m2 r0 r1 O2 S2 => ?_⟩
      walk_at "pd"
      have e1 : q.1 = ps.map Piece.k := kindsD_inj (ht.mp (by assumption))
      split
      · refine sub_refl_fin (h q.2 L _ hL (by omega) (fun _ h => h) (by rw [← e1]; exact hq) ((O.trans O2) _ _ nb hb) (fun y o u v e => (O.trans O2) _ _ u e) S2)
      · exact stay _ (O.trans O2) S2
    · exact stay _ O S1
  · rintro s' m' ⟨⟨c, d, rfl⟩, O, S1⟩
    walk_at "pd"
    have hb' := O _ _ nb hb
    refine ⟨_, seqOf_ref hb', cdw (by decide) (by decide), ?_⟩
    rw [List.length_map]
    have key : ∃ dd, atI [D.str "make", D.str "f", D.str "to"] ((L.length : Int) / 2 % 3) = some (.str dd) ∧ dd ++ Str.ofString (toString (L.length : Int)) = NM.getD L.length "" ∧ dd.length ≤ 4 ∧ (Str.ofString (toString (L.length : Int))).length ≤ 1 := by
      have : ∀ n : Nat, n < 6 → ∃ dd, atI [D.str "make", D.str "f", D.str "to"] ((n : Int) / 2 % 3) = some (.str dd) ∧ dd ++ Str.ofString (toString (n : Int)) = NM.getD n "" ∧ dd.length ≤ 4 ∧ (Str.ofString (toString (n : Int))).length ≤ 1 := by
        intro n hn
        match n, hn with
        | 0, _ => exact ⟨"make", rfl, by decide, by decide, by decide⟩
        | 1, _ => exact ⟨"make", rfl, by decide, by decide, by decide⟩
        | 2, _ => exact ⟨"f", rfl, by decide, by decide, by decide⟩
        | 3, _ => exact ⟨"f", rfl, by decide, by decide, by decide⟩
        | 4, _ => exact ⟨"to", rfl, by decide, by decide, by decide⟩
        | 5, _ => exact ⟨"to", rfl, by decide, by decide, by decide⟩
      exact this _ hL6
    obtain ⟨dd, e1, e2, e3, e4⟩ := key
    refine ⟨_, e1, _, seqOf_ref hb', ?_, ?_⟩
    · rw [List.length_map]
      exact Nat.lt_of_le_of_lt (Nat.log2_le_self _) (by omega)
    rw [List.length_map]
    walk_at "pd"
    rw [e2] at *
    refine ⟨Nat.le_trans (by omega : _ ≤ 5) (by decide), ⟨_, _, lstOf_ref hb'⟩, b, _, lstOf_ref hb', by rw [List.length_map]; exact Nat.lt_of_lt_of_le hL6 (by decide), ?_⟩
    refine sub_refl_fin (h (NM.getD L.length "") (L ++ [(ps.map Piece.k, NM.getD L.length "")]) _ ⟨?_, ?_⟩ ?_ (fun e he => List.mem_append_left _ he) (List.mem_append_right _ (List.mem_singleton_self _)) ?_ ?_ (S1.setp nb))
    · rw [List.length_append, List.length_singleton]; omega
    · have h6 : L.length < NM.length := hL6
      have h7 : NM[L.length]? = some (NM.getD L.length "") := by rw [List.getD_eq_getElem?_getD, List.getElem?_eq_getElem h6]; rfl
      rw [List.map_append, hL.2, List.length_append, List.length_singleton]
      exact (take_succ' h7).symm
    · rw [List.length_append, List.length_singleton]; omega
    · rw [mset_same, List.map_append]; rfl
    · exact fun y o u v e => by rw [mset_ne v]; exact O _ _ u e
def sp__law_words : SpD := fun ds m Q => ∃ (a : Addr) (S : List Nat), ds = [.ref a, .str (tx S)] ∧ S ≠ [] ∧ S.length ≤ 6 ∧ Tp m a ∧ ∀ (ls : List (List Nat)) m', ls.length ≤ 10 → (∀ l ∈ ls, (∀ c ∈ l, c ∈ S) ∧ l.length ≤ 2) → Off1 a m m' → Tp m' a → Q (wordsD ls) m'
theorem ok__law_words  (T : Txt K mg) (G__law_pick : FnOk P w K mg base CX0 (1) T.f__law_pick T.fd__law_pick ["_law_tape_here", "_law_limit"] (spL K 2 sp__law_pick)) : FnOk P w K mg base CX0 (2) T.f__law_words T.fd__law_words ["_law_tape_here", "_law_signs"] (spL K 2 sp__law_words) := by
  refine fn_ok T.F__law_words sc__law_words (fun cdv A outer s H E hr =>
(gss_cons (gs_set (i := 2) sc__law_words.nd rfl (.inl rfl) (ge_lst ga_nil))
 (gss_cons (gs_if (gw_and (gt_cmpR (op_gtS hr.units) lr_gtP (ge_callB call_lenU lc_len (by rfl) T.z_len PySem.boot_len (ga_cons (gv 1) ga_nil)) ge_int (nomark _)) (gw_and1 (gt_cmpR (op_gtS hr.units) lr_gtP (ge_call G__law_pick (hr.mono (by omega)) (by rfl) T.g__law_pick T.F__law_pick.kp T.b__law_pick (ga_cons (gv 0) (ga_cons ge_int ga_nil))) ge_int (nomark _)))).gt
 (gss_one (gs_ret (ge_tup (ga_cons (ge_op op_mulL lr_mulL (ge_ix (gv 1) (ge_op op_sub lr_sub (ge_callB call_lenU lc_len (by rfl) T.z_len PySem.boot_len (ga_cons (gv 1) ga_nil)) ge_int)) ge_int) ga_nil))))
 gss_nil)
 (gss_cons (gs_for PassesOwn.never rfl (gi_rng1 (by rfl) T.z_range (ga_cons (ge_op op_addL lr_addL ge_int (ge_call G__law_pick (hr.mono (by omega)) (by rfl) T.g__law_pick T.F__law_pick.kp T.b__law_pick (ga_cons (gv 0) (ga_cons ge_int ga_nil)))) ga_nil)) (gg_name (i := 3) sc__law_words.nd rfl (.inl rfl))
 (gss_cons (gs_set (i := 4) sc__law_words.nd rfl (.inl rfl) (ge_op op_addL lr_addL (ge_ix (gv 1) (ge_call G__law_pick (hr.mono (by omega)) (by rfl) T.g__law_pick T.F__law_pick.kp T.b__law_pick (ga_cons (gv 0) (ga_cons (ge_callB call_lenU lc_len (by rfl) T.z_len PySem.boot_len (ga_cons (gv 1) ga_nil)) ga_nil)))) (ge_ix (gv 1) (ge_call G__law_pick (hr.mono (by omega)) (by rfl) T.g__law_pick T.F__law_pick.kp T.b__law_pick (ga_cons (gv 0) (ga_cons (ge_callB call_lenU lc_len (by rfl) T.z_len PySem.boot_len (ga_cons (gv 1) ga_nil)) ga_nil))))))
 (gss_one (gs_if (gt_cmpR op_notInU lr_notIn (gv 4) (gv 2) (by rfl))
 (gss_one (gs_expr (ge_bm PySem.F.slot_list_append PySem.F.type_list_append mt_append lm_append (gv 2) (ga_cons (gv 4) ga_nil))))
 gss_nil))))
 (gss_one (gs_ret (ge_callTy call_tuple_of lc_tuple (by rfl) T.z_tuple (by decide +kernel) (ga_cons (gv 2) ga_nil)))))))) (fun ds m Q h => ?_)
  obtain ⟨a, S, rfl, hS, hl, hT, h⟩ := h
  rw [show startD N__law_words [.ref a, .str (tx S)] = [some (.ref a), some (.str (tx S)), none, none, none] from rfl]
  walk_at "pd"
  intro p hp
  have hs : 0 < S.length := List.length_pos_iff.mpr hS
  have pa : p ≠ a := hT.ne hp
  have S0 : Tp (mset m p (.lst [])) a := hT.new hp
  have O0 : Off1 a m (mset m p (.lst [])) := (Off1.refl a m).new hp
  refine ⟨Nat.le_trans hl (by decide), ?_⟩
  split
  · refine ⟨a, 4, rfl, by omega, by omega, S0, fun r m1 r0 r1 O1 S1 => ?_⟩
    walk_at "pd"
    split
    · obtain ⟨c, hc, hm⟩ := atI_ex (xs := S) (i := (S.length : Int) - 1) (by omega) (by omega)
      refine ⟨Nat.le_trans hl (by decide), Nat.le_trans hl (by decide), c, hc, ?_⟩
      exact sub_refl_fin (h [[c, c]] _ (by rw [List.length_singleton]; decide) (fun l hl => by rw [List.mem_singleton.mp hl]; exact ⟨fun x hx => by simp at hx; rw [hx]; exact hm, Nat.le_refl _⟩) (O0.trans O1) S1)
    · have hp1 := O1 _ _ pa mset_same
      refine ⟨a, 4, rfl, by omega, by omega, S1, fun r3 m3 r30 r31 O3 S3 => ?_⟩
      walk_at "pd"
      refine ⟨by omega, by omega, ?_⟩
      have hp3 : m3 p = some (.lst (([] : List (List Nat)).map fun l => D.str (tx l))) := O3 _ _ pa hp1
      refine loop_range (fun i s' m' => (∃ c d, s' = [some (.ref a), some (.str (tx S)), some (.ref p), c, d]) ∧ Off1 a m m' ∧ Tp m' a ∧ ∃ ls : List (List Nat), ls.length ≤ i ∧ (∀ l ∈ ls, (∀ c ∈ l, c ∈ S) ∧ l.length ≤ 2) ∧ m' p = some (.lst (ls.map fun l => D.str (tx l)))) ?_ ?_ ⟨⟨_, _, rfl⟩, (O0.trans O1).trans O3, S3, [], Nat.le_refl _, fun _ h => (List.not_mem_nil h).elim, hp3⟩
      · rintro i s' m' R hi hR ⟨⟨c, d, rfl⟩, O, S4, ls, hls, hw, hm⟩
        refine ⟨trivial, ?_⟩
        walk_at "pd"
        refine ⟨Nat.le_trans hl (by decide), a, _, rfl, by omega, by omega, S4, fun r5 m5 r50 r51 O5 S5 => ?_⟩
        obtain ⟨v5, hv5, hm5⟩ := atI_ex r50 r51
        rw [dIx_tx]
        refine ⟨Nat.le_trans hl (by decide), v5, hv5, ?_⟩
        refine ⟨Nat.le_trans hl (by decide), a, _, rfl, by omega, by omega, S5, fun r6 m6 r60 r61 O6 S6 => ?_⟩
        obtain ⟨v6, hv6, hm6⟩ := atI_ex r60 r61
        rw [dIx_tx]
        refine ⟨Nat.le_trans hl (by decide), v6, hv6, ?_⟩
        walk_at "pd"
        have hm6' := (O5.trans O6) _ _ pa hm
        refine ⟨_, seqOf_ref hm6', flat_tx, ?_⟩
        split
        · refine ⟨⟨_, _, lstOf_ref hm6'⟩, p, _, lstOf_ref hm6', by rw [List.length_map]; exact Nat.lt_of_le_of_lt (by omega : _ ≤ 6) (by decide), hR _ _ ⟨⟨_, _, rfl⟩, off_put ((O.trans O5).trans O6) hp, S6.setp pa, ls ++ [[v5] ++ [v6]], by rw [List.length_append, List.length_singleton]; omega, fun l hl => ?_, by rw [mset_same, List.map_append]; rfl⟩⟩
          rcases List.mem_append.mp hl with h | h
          · exact hw l h
          · rw [List.mem_singleton.mp h]
            exact ⟨fun x hx => by rcases List.mem_append.mp hx with h | h <;> (rw [List.mem_singleton.mp h]; assumption), Nat.le_refl _⟩
        · exact hR _ _ ⟨⟨_, _, rfl⟩, (O.trans O5).trans O6, S6, ls, by omega, hw, hm6'⟩
      · rintro s' m' ⟨⟨c, d, rfl⟩, O, S4, ls, hls, hw, hm⟩
        refine ⟨trivial, ?_⟩
        walk_at "pd"
        exact ⟨_, seqOf_ref hm, sub_refl_fin (h ls _ (by omega) hw O S4)⟩
  · have hp1 : mset m p (.lst []) p = some (.lst []) := mset_same
    refine ⟨a, 4, rfl, by omega, by omega, S0, fun r3 m3 r30 r31 O3 S3 => ?_⟩
    walk_at "pd"
    refine ⟨by omega, by omega, ?_⟩
    have hp3 : m3 p = some (.lst (([] : List (List Nat)).map fun l => D.str (tx l))) := O3 _ _ pa hp1
    refine loop_range (fun i s' m' => (∃ c d, s' = [some (.ref a), some (.str (tx S)), some (.ref p), c, d]) ∧ Off1 a m m' ∧ Tp m' a ∧ ∃ ls : List (List Nat), ls.length ≤ i ∧ (∀ l ∈ ls, (∀ c ∈ l, c ∈ S) ∧ l.length ≤ 2) ∧ m' p = some (.lst (ls.map fun l => D.str (tx l)))) ?_ ?_ ⟨⟨_, _, rfl⟩, O0.trans O3, S3, [], Nat.le_refl _, fun _ h => (List.not_mem_nil h).elim, hp3⟩
    · rintro i s' m' R hi hR ⟨⟨c, d, rfl⟩, O, S4, ls, hls, hw, hm⟩
      refine ⟨trivial, ?_⟩
      walk_at "pd"
      refine ⟨Nat.le_trans hl (by decide), a, _, rfl, by omega, by omega, S4, fun r5 m5 r50 r51 O5 S5 => ?_⟩
      obtain ⟨v5, hv5, hm5⟩ := atI_ex r50 r51
      rw [dIx_tx]
      refine ⟨Nat.le_trans hl (by decide), v5, hv5, ?_⟩
      refine ⟨Nat.le_trans hl (by decide), a, _, rfl, by omega, by omega, S5, fun r6 m6 r60 r61 O6 S6 => ?_⟩
      obtain ⟨v6, hv6, hm6⟩ := atI_ex r60 r61
      rw [dIx_tx]
      refine ⟨Nat.le_trans hl (by decide), v6, hv6, ?_⟩
      walk_at "pd"
      have hm6' := (O5.trans O6) _ _ pa hm
      refine ⟨_, seqOf_ref hm6', flat_tx, ?_⟩
      split
      · refine ⟨⟨_, _, lstOf_ref hm6'⟩, p, _, lstOf_ref hm6', by rw [List.length_map]; exact Nat.lt_of_le_of_lt (by omega : _ ≤ 6) (by decide), hR _ _ ⟨⟨_, _, rfl⟩, off_put ((O.trans O5).trans O6) hp, S6.setp pa, ls ++ [[v5] ++ [v6]], by rw [List.length_append, List.length_singleton]; omega, fun l hl => ?_, by rw [mset_same, List.map_append]; rfl⟩⟩
        rcases List.mem_append.mp hl with h | h
        · exact hw l h
        · rw [List.mem_singleton.mp h]
          exact ⟨fun x hx => by rcases List.mem_append.mp hx with h | h <;> (rw [List.mem_singleton.mp h]; assumption), Nat.le_refl _⟩
      · exact hR _ _ ⟨⟨_, _, rfl⟩, (O.trans O5).trans O6, S6, ls, by omega, hw, hm6'⟩
    · rintro s' m' ⟨⟨c, d, rfl⟩, O, S4, ls, hls, hw, hm⟩
      refine ⟨trivial, ?_⟩
      walk_at "pd"
      exact ⟨_, seqOf_ref hm, sub_refl_fin (h ls _ (by omega) hw O S4)⟩
end
end K29

set_option Elab.async false
set_option linter.all false
set_option maxRecDepth 100000
set_option maxHeartbeats 4000000
namespace K29
open PySem PySem.Spec PyProof.Rows L2 PD Bk
local macro_rules | `(tactic| walk_at "pd") => `(tactic| simp (config := { decide := true, maxSteps := 400000 }) only [dIZipL, dFzT, dDGetTU, dDInTU, dDGet2TU, dDcT, dDCompT, dFzT, dIsB_b, dStrI_i, dRevT, revT_tx, Bk.pd_sg, Bk.pd_rows, Bk.pd_pairs, Bk.pd_nums, Bk.pd_start, Bk.pd_lots, Bk.pd_js, Bk.pd_as, dFldO, dFldV_o, dMethO, dMethV_o, dDGetU, dDInU, dDGet2U, dDc, dDComp, dIKeys, dFrzD_v, dFrzT_v, dFrzO, dFz, dFzD, dSetF, dMakeX, dMake, dSet0, dSAdd, Bk.dMethV_bk, Bk.dFldV_bk, Bk.bk_program, Bk.bk_signs, Bk.bk_rows, Bk.bk_start, Bk.bk_ways, Bk.bk_kinds, Bk.bk_pairs, Bk.bk_numbers, Bk.bk_sorts, Bk.bk_formulas, Bk.bk_asks, Bk.bk_m1, Bk.bk_m2, Bk.bk_m3, Bk.bk_m4, Bk.bk_m5, Bk.bk_m6, Bk.bk_m7, Bk.bk_m8, Bk.bk_m9, Bk.bk_ma, Bk.bk_mb, Bk.bk_mc, Bk.atI_5, Bk.atI_6, Bk.atI_7, Bk.atI_8, dAbs_i, tx_app, tx_len, tx_emp, dIx_tx, sgn_tx, cutS_to, cutS_fr, cutS_fr1, dPar, dIRng2, dIEnumS, dIStr, dInSg, dJoin, dSlS, dUpper, dChain, dDNewT, dDGetT, dDPutT, dMin3_i, dMax3_i, dCallX, dRaise, dSeq, dSet, dAsg, dgN, dRet, dRetN, dIfS, dFor, dLoop, dDrop, dNext, dVar, dC, dNil, dCons, dOp, dUn, dTest, dTru, dAnd, dOr, dNot, dAndV, dOrV, dNotV, dIfE, dTup, dLst, dCB, dCall, dCallP, dBM, dBML, dBM0, dLc, dComp, dYes, dgTup, dgCons, dgNil, dgSub, dPart, dNoPart, dAug, dIsi, dEq, dNe, wipeD, endsOf,
  dFrz, dFrzV_i, dFrzV_s, dFrzV_b, dFrzV_n, dFrzV_t, dFrzV_l, dFrzV_r, dAddL_i, dAddL_s, dAddL_t, dAddL_rr, dAddL_rl, dAddL_lr, dAddL_ll, dMulL_i, dMulL_s, dMulL_r, dSlL_v, dSlLV_t, dSlLV_l, dSlLV_r, dMinU_1, dMinU_2, dSumL_1, dSetTx_1, dIx_l, dLen_l, dInG_l, truD_rol, tyD_rol, dInt1_b, dISeqV_l, dLtS_i, dLtS_s, ltP_i, ltP_s, lsq_rol, dDNew, dDGet, dDGet2, dDSetd, dDPut, dSub_i, dInt2_i, dNeg_i, dCmp_i, dIsN_n, dNotN_n, dInG_t, dInG_r, dIx_t, dIx_r, dLen_s, dLen_t, dLen_r, dTuple_1, dList_1, dInt1_i, dRev_v, dRevV_t, dRevV_r, dISeq_v, dISeqV_t, dISeqV_r, dIEnum_v, dIEnumV_t, dIEnumV_r, dPop_0, dPop_i, dAppend_1, dExtend_1, dSub3_i, dIRng1_v, dRng1V_i,
  seqOf_tup, seqOf_rol, seqW_tup, eqK_ss, eqK_ii, eqK_bb, eqK_nn, eqK_ts, eqK_st, eqK_ti, eqK_is, eqK_ns, flatD_str, flatD_int, flatD_bl, flatD_non, isT_NoneType_bool, isT_NoneType_int, isT_NoneType_str, isT_NoneType_tuple, isT_NoneType_list, isT_bool_bool, isT_bool_int, isT_bool_str, isT_bool_tuple, isT_bool_list, isT_int_bool, isT_int_int, isT_int_str, isT_int_tuple, isT_int_list, isT_str_bool, isT_str_int, isT_str_str, isT_str_tuple, isT_str_list, isT_tuple_bool, isT_tuple_int, isT_tuple_str, isT_tuple_tuple, isT_tuple_list, isT_list_bool, isT_list_int, isT_list_str, isT_list_tuple, isT_list_list, isNon_non, isNon_bl, isNon_int, isNon_str, isNon_tup, tyD_non, tyD_bl, tyD_int, tyD_str, tyD_tup, truD_bl, truD_int, truD_tup,
  atI_0, atI_1, atI_2, atI_3, atI_4, atI_m1, atI_m2, atI_m3, Option.some.injEq, exists_eq_left', exists_eq_left, beq_self_eq_true, Bool.not_true, Bool.not_false, if_true, if_false, true_and, and_true, Bool.false_eq_true, ↓reduceIte,
  List.getElem?_cons_zero, List.getElem?_cons_succ, List.set_cons_zero, List.set_cons_succ, List.map_cons, List.map_nil, List.length_cons, List.length_nil, mset_same, mset_mset, List.isEmpty_nil, List.isEmpty_cons, decide_eq_true_eq, beq_iff_eq, seqI_0, List.eraseIdx_cons_zero, List.eraseIdx_cons_succ, ixN_40, ixN_41, ixN_42, ixN_43, Nat.reduceAdd])
local macro_rules | `(tactic| walk_at "ne") => `(tactic| first | assumption | exact Ne.symm (by assumption))
local macro_rules | `(tactic| walk_at "mu") => `(tactic| first | exact mset_same | assumption | exact mset_skip (by walk_at "ne") (by walk_at "mu"))
local macro_rules | `(tactic| walk_at "go") => `(tactic| repeat (first | walk_at "pd" | refine ⟨_, seqOf_ref (by walk_at "mu"), ?_⟩ | refine ⟨⟨_, _, lstOf_ref (by walk_at "mu")⟩, ?_⟩ | refine ⟨_, _, lstOf_ref (by walk_at "mu"), ?_⟩ | refine ⟨(show CMul _ _ from Or.inr ⟨by decide, by decide⟩), ?_⟩ | refine ⟨(show CDiv _ _ from ⟨by decide, by decide⟩), ?_⟩))
local macro_rules | `(tactic| walk_at "w") => `(tactic| try walk_at "pd")
def PNM : List Str := ["mate", "p", "alike2"]
def PrOk (S : List Nat) (n : Nat) (ps : List (Str × List (List Nat))) : Prop := ps.length = n ∧ ps.map (·.1) = PNM.take n ∧ ∀ q ∈ ps, q.2.length ≤ 10 ∧ ∀ l ∈ q.2, (∀ c ∈ l, c ∈ S) ∧ l.length ≤ 2
structure YOk (S : List Nat) (rows : Nat) (names : List Str) (prs : List (Str × List (List Nat))) (y : Way) : Prop where
  pl : y.ps.length ≤ 5
  pc : ∀ q ∈ y.ps, PcOk S rows names q
  tl : y.ts.length ≤ 2
  ts : ∀ t ∈ y.ts, t.nm ∈ prs.map (·.1) ∧ t.a ∈ refsTo isSg y.k ∧ t.b ∈ refsTo isSg y.k
section
variable {P : Program} {w : World} {K : PySem.W.Frag} {mg : Str → Option Value} {base : Heap}
def sp__law_pairs : SpD := fun ds m Q => ∃ (a : Addr) (S : List Nat) (n : Nat), ds = [.ref a, .str (tx S), .int (n : Int)] ∧ S ≠ [] ∧ S.length ≤ 6 ∧ n ≤ 3 ∧ Tp m a ∧ ∀ ps m', PrOk S n ps → Off1 a m m' → Tp m' a → Q (.tup (ps.map Bk.pairD)) m'
theorem ok__law_pairs  (T : Txt K mg) (G__law_words : FnOk P w K mg base CX0 (2) T.f__law_words T.fd__law_words ["_law_tape_here", "_law_signs"] (spL K 2 sp__law_words)) : FnOk P w K mg base CX0 (3) T.f__law_pairs T.fd__law_pairs ["_law_tape_here", "_law_signs", "_law_size"] (spL K 3 sp__law_pairs) := by
  refine fn_ok T.F__law_pairs sc__law_pairs (fun cdv A outer s H E hr =>
(gss_cons (gs_set (i := 3) sc__law_pairs.nd rfl (.inl rfl) (ge_lst ga_nil))
 (gss_cons (gs_for PassesOwn.never rfl (gi_rng1 (by rfl) T.z_range (ga_cons (gv 2) ga_nil)) (gg_name (i := 4) sc__law_pairs.nd rfl (.inl rfl))
 (gss_one (gs_expr (ge_bm PySem.F.slot_list_append PySem.F.type_list_append mt_append lm_append (gv 3) (ga_cons (ge_tup (ga_cons (ge_ix (ge_tup (ga_cons ge_str (ga_cons ge_str (ga_cons ge_str ga_nil)))) (gv 4)) (ga_cons (ge_call G__law_words (hr.mono (by omega)) (by rfl) T.g__law_words T.F__law_words.kp T.b__law_words (ga_cons (gv 0) (ga_cons (gv 1) ga_nil))) ga_nil))) ga_nil)))))
 (gss_one (gs_ret (ge_callTy call_tuple_of lc_tuple (by rfl) T.z_tuple (by decide +kernel) (ga_cons (gv 3) ga_nil))))))) (fun ds m Q h => ?_)
  obtain ⟨a, S, n, rfl, hS, hl, hn, hT, h⟩ := h
  rw [show startD N__law_pairs [.ref a, .str (tx S), .int (n : Int)] = [some (.ref a), some (.str (tx S)), some (.int (n : Int)), none, none] from rfl]
  walk_at "pd"
  intro p hp
  have pa : p ≠ a := hT.ne hp
  refine ⟨by omega, by omega, ?_⟩
  refine loop_range (fun i s' m' => (∃ c, s' = [some (.ref a), some (.str (tx S)), some (.int (n : Int)), some (.ref p), c]) ∧ Off1 a m m' ∧ Tp m' a ∧ ∃ ps, PrOk S i ps ∧ m' p = some (.lst (ps.map Bk.pairD))) ?_ ?_ ⟨⟨_, rfl⟩, (Off1.refl a m).new hp, hT.new hp, [], ⟨rfl, rfl, fun _ h => (List.not_mem_nil h).elim⟩, mset_same⟩
  · rintro i s' m' R hi hR ⟨⟨c, rfl⟩, O, S1, ps, hps, hm⟩
    refine ⟨trivial, ?_⟩
    walk_at "pd"
    have hi2 : i < 3 := by omega
    have hpm : m p = none := hp
    have h8 : ∃ nm, PNM[i]? = some nm ∧ atI [D.str "mate", D.str "p", D.str "alike2"] (i : Int) = some (.str nm) := by
      match i, hi2 with
      | 0, _ => exact ⟨_, rfl, rfl⟩
      | 1, _ => exact ⟨_, rfl, rfl⟩
      | 2, _ => exact ⟨_, rfl, rfl⟩
    obtain ⟨nm, e1, e2⟩ := h8
    refine ⟨⟨_, _, lstOf_ref hm⟩, _, e2, a, S, rfl, hS, hl, S1, fun ls m2 l1 l2 O2 S2 => ?_⟩
    refine ⟨p, _, lstOf_ref (O2 _ _ pa hm), by rw [List.length_map, hps.1]; exact Nat.lt_of_lt_of_le hi2 (by decide), hR _ _ ⟨⟨_, rfl⟩, off_put (O.trans O2) hp, S2.setp pa, ps ++ [(nm, ls)], ⟨?_, ?_, ?_⟩, ?_⟩⟩
    · rw [List.length_append, List.length_singleton, hps.1]
    · rw [List.map_append, hps.2.1, take_succ' e1]; rfl
    · intro q hq
      rcases List.mem_append.mp hq with h | h
      · exact hps.2.2 q h
      · rw [List.mem_singleton.mp h]; exact ⟨l1, l2⟩
    · rw [mset_same, List.map_append]; rfl
  · rintro s' m' ⟨⟨c, rfl⟩, O, S1, ps, hps, hm⟩
    refine ⟨trivial, ?_⟩
    walk_at "pd"
    rw [show ((n : Int)).toNat = n by omega] at hps
    exact ⟨_, seqOf_ref hm, sub_refl_fin (h ps _ hps O S1)⟩
def sp__law_way : SpD := fun ds m Q => ∃ (a b : Addr) (S : List Nat) (rows : Nat) (names : List Str) (n : Nat) (prs : List (Str × List (List Nat))) (L : List (List Knd × Str)), ds = [.ref a, .str (tx S), .int (rows : Int), .tup (names.map .str), .tup (prs.map Bk.pairD), .ref b] ∧
    S ≠ [] ∧ S.length ≤ 6 ∧ 1 ≤ rows ∧ rows ≤ 2 ∧ names ≠ [] ∧ names.length ≤ 10 ∧ PrOk S n prs ∧ 0 < n ∧ n ≤ 3 ∧ b ≠ a ∧ Tp m a ∧ m b = some (.lst (L.map mkD)) ∧ MkOk L ∧ L.length < 6 ∧
    ∀ (y : Way) (L' : List (List Knd × Str)) m', YOk S rows names prs y → MkOk L' → L'.length ≤ L.length + 1 → (∀ e ∈ L, e ∈ L') → (y.k, y.mr) ∈ L' → m' b = some (.lst (L'.map mkD)) → OffS a b m m' → Tp m' a → Q y.d m'
theorem ok__law_way  (T : Txt K mg) (G__law_maker : FnOk P w K mg base CX0 (2) T.f__law_maker T.fd__law_maker ["_law_tape_here", "_law_pieces", "_law_makers"] (spL K 3 sp__law_maker)) (G__law_pick : FnOk P w K mg base CX0 (1) T.f__law_pick T.fd__law_pick ["_law_tape_here", "_law_limit"] (spL K 2 sp__law_pick)) (G__law_places : FnOk P w K mg base CX0 (1) T.f__law_places T.fd__law_places ["_law_pieces"] (spL K 1 sp__law_places)) (G__law_piece : FnOk P w K mg base CX0 (4) T.f__law_piece T.fd__law_piece ["_law_tape_here", "_law_signs", "_law_rows", "_law_names"] (spL K 4 sp__law_piece)) : FnOk P w K mg base CX0 (5) T.f__law_way T.fd__law_way ["_law_tape_here", "_law_signs", "_law_rows", "_law_names", "_law_pairs_here", "_law_makers"] (spL K 6 sp__law_way) := by
  refine fn_ok T.F__law_way sc__law_way (fun cdv A outer s H E hr =>
(gss_cons (gs_set (i := 6) sc__law_way.nd rfl (.inl rfl) (ge_op op_addL lr_addL ge_int (ge_call G__law_pick (hr.mono (by omega)) (by rfl) T.g__law_pick T.F__law_pick.kp T.b__law_pick (ga_cons (gv 0) (ga_cons ge_int ga_nil)))))
 (gss_cons (gs_if (gw_and (gt_cmpR (op_ltS hr.units) lr_ltP (ge_op op_mulL lr_mulL (ge_callB call_lenU lc_len (by rfl) T.z_len PySem.boot_len (ga_cons (gv 1) ga_nil)) (gv 2)) ge_int (nomark _)) (gw_and1 (gt_cmpR (op_eqS hr.units) lr_eq (ge_call G__law_pick (hr.mono (by omega)) (by rfl) T.g__law_pick T.F__law_pick.kp T.b__law_pick (ga_cons (gv 0) (ga_cons ge_int ga_nil))) ge_int (nomark _)))).gt
 (gss_one (gs_set (i := 6) sc__law_way.nd rfl (.inl rfl) (ge_op op_addL lr_addL (gv 6) ge_int)))
 gss_nil)
 (gss_cons (gs_set (i := 7) sc__law_way.nd rfl (.inl rfl) (ge_lst ga_nil))
 (gss_cons (gs_for PassesOwn.never rfl (gi_rng1 (by rfl) T.z_range (ga_cons (gv 6) ga_nil)) (gg_name (i := 8) sc__law_way.nd rfl (.inl rfl))
 (gss_one (gs_expr (ge_bm PySem.F.slot_list_append PySem.F.type_list_append mt_append lm_append (gv 7) (ga_cons (ge_call G__law_piece (hr.mono (by omega)) (by rfl) T.g__law_piece T.F__law_piece.kp T.b__law_piece (ga_cons (gv 0) (ga_cons (gv 1) (ga_cons (gv 2) (ga_cons (gv 3) ga_nil))))) ga_nil)))))
 (gss_cons (gs_set (i := 9) sc__law_way.nd rfl (.inl rfl) (ge_call G__law_places (hr.mono (by omega)) (by rfl) T.g__law_places T.F__law_places.kp T.b__law_places (ga_cons (gv 7) ga_nil)))
 (gss_cons (gs_set (i := 10) sc__law_way.nd rfl (.inl rfl) (ge_lst ga_nil))
 (gss_cons (gs_if (gt_cmpR (op_gtS hr.units) lr_gtP (ge_callB call_lenU lc_len (by rfl) T.z_len PySem.boot_len (ga_cons (gv 9) ga_nil)) ge_int (nomark _))
 (gss_one (gs_for PassesOwn.never rfl (gi_rng1 (by rfl) T.z_range (ga_cons (ge_callB (cr_minU rfl hr.units) lc_minU (by rfl) T.z_min (by decide +kernel) (ga_cons ge_int (ga_cons (ge_call G__law_pick (hr.mono (by omega)) (by rfl) T.g__law_pick T.F__law_pick.kp T.b__law_pick (ga_cons (gv 0) (ga_cons ge_int ga_nil))) ga_nil))) ga_nil)) (gg_name (i := 8) sc__law_way.nd rfl (.inl rfl))
 (gss_cons (gs_set (i := 11) sc__law_way.nd rfl (.inl rfl) (ge_ix (ge_ix (gv 4) (ge_call G__law_pick (hr.mono (by omega)) (by rfl) T.g__law_pick T.F__law_pick.kp T.b__law_pick (ga_cons (gv 0) (ga_cons (ge_callB call_lenU lc_len (by rfl) T.z_len PySem.boot_len (ga_cons (gv 4) ga_nil)) ga_nil)))) ge_int))
 (gss_cons (gs_set (i := 12) sc__law_way.nd rfl (.inl rfl) (ge_ix (gv 9) (ge_call G__law_pick (hr.mono (by omega)) (by rfl) T.g__law_pick T.F__law_pick.kp T.b__law_pick (ga_cons (gv 0) (ga_cons (ge_callB call_lenU lc_len (by rfl) T.z_len PySem.boot_len (ga_cons (gv 9) ga_nil)) ga_nil)))))
 (gss_one (gs_expr (ge_bm PySem.F.slot_list_append PySem.F.type_list_append mt_append lm_append (gv 10) (ga_cons (ge_tup (ga_cons (gv 11) (ga_cons (gv 12) (ga_cons (ge_ix (gv 9) (ge_call G__law_pick (hr.mono (by omega)) (by rfl) T.g__law_pick T.F__law_pick.kp T.b__law_pick (ga_cons (gv 0) (ga_cons (ge_callB call_lenU lc_len (by rfl) T.z_len PySem.boot_len (ga_cons (gv 9) ga_nil)) ga_nil)))) ga_nil)))) ga_nil))))))))
 gss_nil)
 (gss_one (gs_ret (ge_tup (ga_cons (ge_call G__law_maker (hr.mono (by omega)) (by rfl) T.g__law_maker T.F__law_maker.kp T.b__law_maker (ga_cons (gv 0) (ga_cons (gv 7) (ga_cons (gv 5) ga_nil)))) (ga_cons (ge_callTy call_tuple_of lc_tuple (by rfl) T.z_tuple (by decide +kernel) (ga_cons (gv 7) ga_nil)) (ga_cons (ge_callTy call_tuple_of lc_tuple (by rfl) T.z_tuple (by decide +kernel) (ga_cons (gv 10) ga_nil)) ga_nil)))))))))))))) (fun ds m Q h => ?_)
  obtain ⟨a, b, S, rows, names, n, prs, L, rfl, hS, hl, hr1, hr2, hn, hnl, hpr, hn1, hn2, nb, hT, hb, hL, hL6, h⟩ := h
  rw [show startD N__law_way [.ref a, .str (tx S), .int (rows : Int), .tup (names.map .str), .tup (prs.map Bk.pairD), .ref b] = [some (.ref a), some (.str (tx S)), some (.int (rows : Int)), some (.tup (names.map .str)), some (.tup (prs.map Bk.pairD)), some (.ref b), none, none, none, none, none, none, none] from rfl]
  refine seq_cut (fun s' m' => ∃ z : Int, 1 ≤ z ∧ z ≤ 3 ∧ s' = [some (.ref a), some (.str (tx S)), some (.int (rows : Int)), some (.tup (names.map .str)), some (.tup (prs.map Bk.pairD)), some (.ref b), some (.int z), none, none, none, none, none, none] ∧ Off1 a m m' ∧ Tp m' a) (fun R hR => ?_) ?_
  · walk_at "pd"
    refine ⟨a, 3, rfl, by omega, by omega, hT, fun r m1 r0 r1 O1 S1 => ?_⟩
    walk_at "pd"
    exact hR _ _ ⟨_, by omega, by omega, rfl, O1, S1⟩
  · rintro s' m1 ⟨z, z1, z3, rfl, O1, S1⟩
    refine seq_cut (fun s' m' => ∃ z : Int, 1 ≤ z ∧ z ≤ 5 ∧ s' = [some (.ref a), some (.str (tx S)), some (.int (rows : Int)), some (.tup (names.map .str)), some (.tup (prs.map Bk.pairD)), some (.ref b), some (.int z), none, none, none, none, none, none] ∧ Off1 a m m' ∧ Tp m' a) (fun R hR => ?_) ?_
    · walk_at "pd"
      refine ⟨Nat.le_trans hl (by decide), .inl ⟨by omega, by omega⟩, ?_⟩
      split
      · refine ⟨a, 6, rfl, by omega, by omega, S1, fun r m2 r0 r1 O2 S2 => ⟨_, eqK_ii, ?_⟩⟩
        split
        · exact hR _ _ ⟨_, by omega, by omega, rfl, O1.trans O2, S2⟩
        · exact hR _ _ ⟨_, by omega, by omega, rfl, O1.trans O2, S2⟩
      · exact hR _ _ ⟨_, by omega, by omega, rfl, O1, S1⟩
    · rintro s' m1 ⟨z, z1, z3, rfl, O1, S1⟩
      walk_at "pd"
      intro p hp
      have pa : p ≠ a := S1.ne hp
      have hpm := O1.free pa hp
      have pb : p ≠ b := fun z => by rw [z, hb] at hpm; cases hpm
      refine ⟨by omega, by omega, ?_⟩
      refine loop_inv (fun rem s' m' => ∃ (ps : List Piece) (c : Option D), ps.length + rem.length ≤ 5 ∧ s' = [some (.ref a), some (.str (tx S)), some (.int (rows : Int)), some (.tup (names.map .str)), some (.tup (prs.map Bk.pairD)), some (.ref b), some (.int z), some (.ref p), c, none, none, none, none] ∧ (∀ q ∈ ps, PcOk S rows names q) ∧ Off1 a m m' ∧ Tp m' a ∧ m' p = some (.lst (ps.map Piece.d))) ?_ ?_ ⟨[], _, by rw [rangeD_len, List.length_nil]; omega, rfl, fun _ h => (List.not_mem_nil h).elim, O1.new hp, S1.new hp, mset_same⟩
      · rintro d rem s' m' R hR ⟨ps, c, hlen, rfl, hk, O, S3, hm⟩
        rw [List.length_cons] at hlen
        refine ⟨trivial, ?_⟩
        walk_at "pd"
        refine ⟨⟨_, _, lstOf_ref hm⟩, a, S, rows, names, rfl, hS, hl, hr2, hn, hnl, S3, fun k m2 hk2 O2 S2 => ⟨p, _, lstOf_ref (O2 _ _ pa hm), by rw [List.length_map]; exact Nat.lt_of_le_of_lt (by omega : _ ≤ 5) (by decide), hR _ _ ⟨ps ++ [k], _, ?_, rfl, fun k' hk' => ?_, off_put (O.trans O2) hpm, S2.setp pa, ?_⟩⟩⟩
        · rw [List.length_append, List.length_singleton]; omega
        · rcases List.mem_append.mp hk' with h | h
          · exact hk k' h
          · rw [List.mem_singleton.mp h]; exact hk2
        · rw [mset_same, List.map_append]; rfl
      · rintro s' m' ⟨ps, c, hlen, rfl, hk, O, S3, hm⟩
        rw [List.length_nil] at hlen
        have hms : ∀ ms, Piece.plain ms ∈ ps → ms.length ≤ 10 := fun ms h => by have := (hk _ h).1; omega
        refine ⟨trivial, ?_⟩
        dsimp only
        refine seq_cut (fun s' m2 => s' = [some (.ref a), some (.str (tx S)), some (.int (rows : Int)), some (.tup (names.map .str)), some (.tup (prs.map Bk.pairD)), some (.ref b), some (.int z), some (.ref p), c, some (.rol ((refsTo isSg (ps.map Piece.k)).map refD)), none, none, none] ∧ m2 = m') (fun R hR => ?_) ?_
        · walk_at "pd"
          exact ⟨.ref p, ps, rfl, seqOf_ref hm, by omega, hms, hR _ _ ⟨rfl, rfl⟩⟩
        rintro s' m2 ⟨rfl, rfl⟩
        have hrl : (refsTo isSg (ps.map Piece.k)).length ≤ 1000 := refsTo_len (by rw [List.length_map]; omega) (knd_le hms)
        generalize hpl : refsTo isSg (ps.map Piece.k) = pl at hrl ⊢
        refine seq_cut (fun s' m3 => ∃ p2, s' = [some (.ref a), some (.str (tx S)), some (.int (rows : Int)), some (.tup (names.map .str)), some (.tup (prs.map Bk.pairD)), some (.ref b), some (.int z), some (.ref p), c, some (.rol (pl.map refD)), some (.ref p2), none, none] ∧ m2 p2 = none ∧ m3 = mset m2 p2 (.lst [])) (fun R hR => ?_) ?_
        · walk_at "pd"
          intro p2 hp2
          exact hR _ _ ⟨_, rfl, hp2, rfl⟩
        rintro s' m3 ⟨p2, rfl, hp2, rfl⟩
        have p2a : p2 ≠ a := S3.ne hp2
        have hp2m := O.free p2a hp2
        have p2b : p2 ≠ b := fun z => by rw [z, hb] at hp2m; cases hp2m
        have p2p : p2 ≠ p := fun z => by rw [z, hm] at hp2; cases hp2
        refine seq_cut (fun s' m3 => ∃ (c c1 c2 : Option D) (ts : List Test), s' = [some (.ref a), some (.str (tx S)), some (.int (rows : Int)), some (.tup (names.map .str)), some (.tup (prs.map Bk.pairD)), some (.ref b), some (.int z), some (.ref p), c, some (.rol (pl.map refD)), some (.ref p2), c1, c2] ∧ Off1 a m m3 ∧ Tp m3 a ∧ m3 p = some (.lst (ps.map Piece.d)) ∧ m3 p2 = some (.lst (ts.map Test.d)) ∧ ts.length ≤ 2 ∧ (∀ t ∈ ts, t.nm ∈ prs.map (·.1) ∧ t.a ∈ pl ∧ t.b ∈ pl)) (fun R hR => ?_) ?_
        · walk_at "pd"
          rw [List.length_map]
          by_cases hc : (0 : Int) < (pl.length : Int)
          · rw [if_pos hc]
            refine ⟨a, 4, rfl, by omega, by omega, S3.new hp2, fun r m4 r0 r1 O4 S4 => ?_⟩
            walk_at "pd"
            obtain ⟨j, hj⟩ : ∃ j : Int, (if r < 2 then r else 2) = j := ⟨_, rfl⟩
            have j0 : 0 ≤ j ∧ j ≤ 2 := by rw [← hj]; split <;> omega
            rw [hj]
            have hprl := hpr.1
            refine ⟨by omega, by omega, ?_⟩
            refine loop_inv (fun rem s' m' => ∃ (c c1 c2 : Option D) (ts : List Test), ts.length + rem.length ≤ 2 ∧ s' = [some (.ref a), some (.str (tx S)), some (.int (rows : Int)), some (.tup (names.map .str)), some (.tup (prs.map Bk.pairD)), some (.ref b), some (.int z), some (.ref p), c, some (.rol (pl.map refD)), some (.ref p2), c1, c2] ∧ Off1 a m m' ∧ Tp m' a ∧ m' p = some (.lst (ps.map Piece.d)) ∧ m' p2 = some (.lst (ts.map Test.d)) ∧ (∀ t ∈ ts, t.nm ∈ prs.map (·.1) ∧ t.a ∈ pl ∧ t.b ∈ pl)) ?_ ?_ ⟨_, _, _, [], by rw [rangeD_len, List.length_nil]; omega, rfl, (O.new hp2).trans O4, S4, O4 _ _ pa (mset_new hp2 hm), O4 _ _ p2a mset_same, fun _ h => (List.not_mem_nil h).elim⟩
            · rintro d rem s' m' R2 hR2 ⟨c, c1, c2, ts, hlen, rfl, O5, S5, hm5, hm6, hts⟩
              rw [List.length_cons] at hlen
              refine ⟨trivial, ?_⟩
              walk_at "pd"
              rw [List.length_map]
              refine ⟨a, _, rfl, by omega, by omega, S5, fun r6 m6 r60 r61 O6 S6 => ?_⟩
              obtain ⟨q, hq, j6, e6, ej6⟩ := atI_exN r60 r61
              rw [← e6]
              walk_at "pd"
              refine ⟨_, atI_map ej6, ?_⟩
              unfold Bk.pairD
              walk_at "pd"
              rw [List.length_map]
              refine ⟨a, _, rfl, by omega, by omega, S6, fun r7 m7 r70 r71 O7 S7 => ?_⟩
              obtain ⟨q7, hq7, j7, e7, ej7⟩ := atI_exN r70 r71
              rw [← e7]
              walk_at "pd"
              have h7 := O7 _ _ p2a (O6 _ _ p2a hm6)
              refine ⟨_, atI_map ej7, ⟨_, _, lstOf_ref h7⟩, ?_⟩
              refine ⟨a, _, rfl, by omega, by omega, S7, fun r8 m8 r80 r81 O8 S8 => ?_⟩
              obtain ⟨q8, hq8, j8, e8, ej8⟩ := atI_exN r80 r81
              rw [← e8]
              walk_at "pd"
              have h8 := O8 _ _ p2a h7
              refine ⟨_, atI_map ej8, p2, _, lstOf_ref h8, by rw [List.length_map]; exact Nat.lt_of_le_of_lt (by omega : _ ≤ 2) (by decide), hR2 _ _ ⟨_, _, _, ts ++ [⟨q.1, q7, q8⟩], ?_, rfl, ?_, S8.setp p2a, ?_, ?_, ?_⟩⟩
              · rw [List.length_append, List.length_singleton]; omega
              · exact off_put (((O5.trans O6).trans O7).trans O8) hp2m
              · rw [mset_ne (Ne.symm p2p)]; exact O8 _ _ pa (O7 _ _ pa (O6 _ _ pa hm5))
              · rw [mset_same, List.map_append]; rfl
              · intro t ht
                rcases List.mem_append.mp ht with h | h
                · exact hts t h
                · rw [List.mem_singleton.mp h]
                  exact ⟨List.mem_map.mpr ⟨q, hq, rfl⟩, hq7, hq8⟩
            · rintro s' m' ⟨c, c1, c2, ts, hlen, rfl, O5, S5, hm5, hm6, hts⟩
              rw [List.length_nil] at hlen
              exact ⟨trivial, hR _ _ ⟨_, _, _, ts, rfl, O5, S5, hm5, hm6, by omega, hts⟩⟩
          · rw [if_neg hc]
            exact hR _ _ ⟨_, _, _, [], rfl, O.new hp2, S3.new hp2, mset_new hp2 hm, mset_same, Nat.zero_le _, fun _ h => (List.not_mem_nil h).elim⟩
        rintro s' m3 ⟨c, c1, c2, ts, rfl, O3, S3, hm3, hm4, htl, hts⟩
        walk_at "pd"
        refine ⟨a, .ref p, b, ps, L, rfl, nb, seqOf_ref hm3, by omega, hms, S3, O3 _ _ nb hb, hL, hL6, fun nm L' m5 l1 l2 l3 l4 l5 O5 S5 => ?_⟩
        walk_at "pd"
        refine ⟨_, seqOf_ref (O5 _ _ pa pb hm3), _, seqOf_ref (O5 _ _ p2a p2b hm4), ?_⟩
        refine sub_refl_fin (h ⟨nm, ps, ts⟩ L' _ ⟨by omega, hk, htl, fun t ht => ?_⟩ l1 l2 l3 l4 l5 (fun x o u v e => O5 _ _ u v (O3 _ _ u e)) S5)
        rw [show (Way.k ⟨nm, ps, ts⟩) = ps.map Piece.k from rfl, hpl]
        exact hts t ht
end
end K29

set_option Elab.async false
set_option linter.all false
set_option maxRecDepth 100000
set_option maxHeartbeats 4000000
namespace K29
open PySem PySem.Spec PyProof.Rows L2 PD Bk
local macro_rules | `(tactic| walk_at "pd") => `(tactic| simp (config := { decide := true, maxSteps := 400000 }) only [dIZipL, dFzT, dDGetTU, dDInTU, dDGet2TU, dDcT, dDCompT, dFzT, dIsB_b, dStrI_i, dRevT, revT_tx, Bk.pd_sg, Bk.pd_rows, Bk.pd_pairs, Bk.pd_nums, Bk.pd_start, Bk.pd_lots, Bk.pd_js, Bk.pd_as, dFldO, dFldV_o, dMethO, dMethV_o, dDGetU, dDInU, dDGet2U, dDc, dDComp, dIKeys, dFrzD_v, dFrzT_v, dFrzO, dFz, dFzD, dSetF, dMakeX, dMake, dSet0, dSAdd, Bk.dMethV_bk, Bk.dFldV_bk, Bk.bk_program, Bk.bk_signs, Bk.bk_rows, Bk.bk_start, Bk.bk_ways, Bk.bk_kinds, Bk.bk_pairs, Bk.bk_numbers, Bk.bk_sorts, Bk.bk_formulas, Bk.bk_asks, Bk.bk_m1, Bk.bk_m2, Bk.bk_m3, Bk.bk_m4, Bk.bk_m5, Bk.bk_m6, Bk.bk_m7, Bk.bk_m8, Bk.bk_m9, Bk.bk_ma, Bk.bk_mb, Bk.bk_mc, Bk.atI_5, Bk.atI_6, Bk.atI_7, Bk.atI_8, dAbs_i, tx_app, tx_len, tx_emp, dIx_tx, sgn_tx, cutS_to, cutS_fr, cutS_fr1, dPar, dIRng2, dIEnumS, dIStr, dInSg, dJoin, dSlS, dUpper, dChain, dDNewT, dDGetT, dDPutT, dMin3_i, dMax3_i, dCallX, dRaise, dSeq, dSet, dAsg, dgN, dRet, dRetN, dIfS, dFor, dLoop, dDrop, dNext, dVar, dC, dNil, dCons, dOp, dUn, dTest, dTru, dAnd, dOr, dNot, dAndV, dOrV, dNotV, dIfE, dTup, dLst, dCB, dCall, dCallP, dBM, dBML, dBM0, dLc, dComp, dYes, dgTup, dgCons, dgNil, dgSub, dPart, dNoPart, dAug, dIsi, dEq, dNe, wipeD, endsOf,
  dFrz, dFrzV_i, dFrzV_s, dFrzV_b, dFrzV_n, dFrzV_t, dFrzV_l, dFrzV_r, dAddL_i, dAddL_s, dAddL_t, dAddL_rr, dAddL_rl, dAddL_lr, dAddL_ll, dMulL_i, dMulL_s, dMulL_r, dSlL_v, dSlLV_t, dSlLV_l, dSlLV_r, dMinU_1, dMinU_2, dSumL_1, dSetTx_1, dIx_l, dLen_l, dInG_l, truD_rol, tyD_rol, dInt1_b, dISeqV_l, dLtS_i, dLtS_s, ltP_i, ltP_s, lsq_rol, dDNew, dDGet, dDGet2, dDSetd, dDPut, dSub_i, dInt2_i, dNeg_i, dCmp_i, dIsN_n, dNotN_n, dInG_t, dInG_r, dIx_t, dIx_r, dLen_s, dLen_t, dLen_r, dTuple_1, dList_1, dInt1_i, dRev_v, dRevV_t, dRevV_r, dISeq_v, dISeqV_t, dISeqV_r, dIEnum_v, dIEnumV_t, dIEnumV_r, dPop_0, dPop_i, dAppend_1, dExtend_1, dSub3_i, dIRng1_v, dRng1V_i,
  seqOf_tup, seqOf_rol, seqW_tup, eqK_ss, eqK_ii, eqK_bb, eqK_nn, eqK_ts, eqK_st, eqK_ti, eqK_is, eqK_ns, flatD_str, flatD_int, flatD_bl, flatD_non, isT_NoneType_bool, isT_NoneType_int, isT_NoneType_str, isT_NoneType_tuple, isT_NoneType_list, isT_bool_bool, isT_bool_int, isT_bool_str, isT_bool_tuple, isT_bool_list, isT_int_bool, isT_int_int, isT_int_str, isT_int_tuple, isT_int_list, isT_str_bool, isT_str_int, isT_str_str, isT_str_tuple, isT_str_list, isT_tuple_bool, isT_tuple_int, isT_tuple_str, isT_tuple_tuple, isT_tuple_list, isT_list_bool, isT_list_int, isT_list_str, isT_list_tuple, isT_list_list, isNon_non, isNon_bl, isNon_int, isNon_str, isNon_tup, tyD_non, tyD_bl, tyD_int, tyD_str, tyD_tup, truD_bl, truD_int, truD_tup,
  atI_0, atI_1, atI_2, atI_3, atI_4, atI_m1, atI_m2, atI_m3, Option.some.injEq, exists_eq_left', exists_eq_left, beq_self_eq_true, Bool.not_true, Bool.not_false, if_true, if_false, true_and, and_true, Bool.false_eq_true, ↓reduceIte,
  List.getElem?_cons_zero, List.getElem?_cons_succ, List.set_cons_zero, List.set_cons_succ, List.map_cons, List.map_nil, List.length_cons, List.length_nil, mset_same, mset_mset, List.isEmpty_nil, List.isEmpty_cons, decide_eq_true_eq, beq_iff_eq, seqI_0, List.eraseIdx_cons_zero, List.eraseIdx_cons_succ, ixN_40, ixN_41, ixN_42, ixN_43, Nat.reduceAdd])
local macro_rules | `(tactic| walk_at "ne") => `(tactic| first | assumption | exact Ne.symm (by assumption))
local macro_rules | `(tactic| walk_at "mu") => `(tactic| first | exact mset_same | assumption | exact mset_skip (by walk_at "ne") (by walk_at "mu"))
local macro_rules | `(tactic| walk_at "go") => `(tactic| repeat (first | walk_at "pd" | refine ⟨_, seqOf_ref (by walk_at "mu"), ?_⟩ | refine ⟨⟨_, _, lstOf_ref (by walk_at "mu")⟩, ?_⟩ | refine ⟨_, _, lstOf_ref (by walk_at "mu"), ?_⟩ | refine ⟨(show CMul _ _ from Or.inr ⟨by decide, by decide⟩), ?_⟩ | refine ⟨(show CDiv _ _ from ⟨by decide, by decide⟩), ?_⟩))
local macro_rules | `(tactic| walk_at "w") => `(tactic| try walk_at "pd")
theorem refs_soks : ∀ l : List Ref, soks (l.map refD) = true
  | [] => rfl
  | a :: l => by
    rw [List.map_cons]
    show (sok (refD a) && soks (l.map refD)) = true
    rw [refs_soks l]; rfl
theorem refs_deps : ∀ l : List Ref, deps (l.map refD) ≤ 1
  | [] => Nat.zero_le _
  | a :: l => by
    rw [List.map_cons]
    show max (dep (refD a)) (deps (l.map refD)) ≤ 1
    have := refs_deps l
    have e : dep (refD a) = 1 := by simp [refD, dep, deps]
    omega
theorem lsq_sub {m m' : Mu} {x : D} {es : List D} (h : PD.Sub m m') (e : lsq m x = some es) : lsq m' x = some es := by
  cases x with
  | rol _ => exact e
  | ref a =>
    unfold lsq at e ⊢
    dsimp only at e ⊢
    cases q : m a with
    | none => simp only [q] at e; cases e
    | some o => rw [q] at e; rw [h _ _ q]; exact e
  | _ => cases e
theorem seq_lsq {m : Mu} {x : D} {es : List D} (e : lsq m x = some es) : seqOf m x = some es := by
  cases x with
  | rol _ => exact e
  | ref a =>
    unfold lsq at e
    unfold seqOf
    dsimp only at e ⊢
    exact e
  | _ => cases e
theorem ix_refs {x : D} {refs : List Ref} {r : Ref} {m : Mu} {Q : DK} (hx : lsq m x = some (refs.map refD)) (nd : refs.Nodup) (hr : r ∈ refs) (h : Q (.int ((refs.idxOf r : Nat) : Int)) m) : dIndexP x [refD r] m Q := by
  have hl := List.idxOf_lt_length_of_mem hr
  refine ⟨refs.map refD, refD r, refs.idxOf r, rfl, hx, refs_pln _, ref_pln _, refs_soks _, rfl, Nat.le_trans (refs_deps _) (by decide), Nat.le_trans (by simp [refD, dep, deps] : dep (refD r) ≤ 1) (by decide), ?_, fun i hi e => ?_, h⟩
  · rw [List.getElem?_map, List.getElem?_eq_getElem hl, List.getElem_idxOf]; rfl
  · rw [List.getElem?_map, Option.map_eq_some_iff] at e
    obtain ⟨x, e1, e2⟩ := e
    cases refD_inj e2
    have hi2 : i < refs.length := by omega
    rw [List.getElem?_eq_getElem hi2] at e1
    injection e1 with e1
    have := (List.getElem_inj (h₀ := hi2) (h₁ := hl) nd).mp (by rw [e1, List.getElem_idxOf])
    omega
section
variable {P : Program} {w : World} {K : PySem.W.Frag} {mg : Str → Option Value} {base : Heap}
def sp__law_line : SpD := fun ds m Q => ∃ (prs : List (Str × List (List Nat))) (n : Str), ds = [.tup (prs.map Bk.pairD), .str n] ∧ Q (wordsD (Bk.wordsOf prs n)) m
theorem ok__law_line  (T : Txt K mg)  : FnOk P w K mg base CX0 (1) T.f__law_line T.fd__law_line ["_law_pairs_here", "_law_name"] (spL K 2 sp__law_line) := by
  refine fn_ok T.F__law_line sc__law_line (fun cdv A outer s H E hr =>
(gss_cons (gs_for PassesOwn.never rfl (gi_seq (gv 0)) (gg_name (i := 2) sc__law_line.nd rfl (.inl rfl))
 (gss_one (gs_if (gt_cmpR (op_eqS hr.units) lr_eq (ge_ix (gv 2) ge_int) (gv 1) (nomark _))
 (gss_one (gs_ret (ge_ix (gv 2) ge_int)))
 gss_nil)))
 (gss_one (gs_ret (ge_tup ga_nil))))) (fun ds m Q h => ?_)
  obtain ⟨prs, n, rfl, h⟩ := h
  rw [show startD N__law_line [.tup (prs.map Bk.pairD), .str n] = [some (.tup (prs.map Bk.pairD)), some (.str n), none] from rfl]
  walk_at "pd"
  refine loop_pre (fun pre s' m' => (∃ c, s' = [some (.tup (prs.map Bk.pairD)), some (.str n), c]) ∧ m' = m ∧ fnd pre n = none) Bk.pairD (fun _ _ _ _ => trivial) ?_ ?_ ⟨⟨_, rfl⟩, rfl, rfl⟩
  · rintro pre q post e s' m' R ⟨⟨c, rfl⟩, rfl, hf⟩ hR
    unfold Bk.pairD
    walk_at "pd"
    by_cases hq : q.1 = n
    · rw [if_pos hq]
      have : Bk.wordsOf prs n = q.2 := by
        unfold Bk.wordsOf
        rw [e, fnd_app, hf]
        dsimp only
        rw [fnd_cons, if_pos hq]; rfl
      rw [this] at h
      exact sub_refl_fin h
    · rw [if_neg hq]
      refine hR _ _ ⟨⟨_, rfl⟩, rfl, ?_⟩
      rw [fnd_app, hf]
      dsimp only
      rw [fnd_cons, if_neg hq]; rfl
  · rintro s' m' ⟨⟨c, rfl⟩, rfl, hf⟩
    walk_at "pd"
    have : Bk.wordsOf prs n = [] := by unfold Bk.wordsOf; rw [hf]; rfl
    rw [this] at h
    exact sub_refl_fin h
def sp__law_allowed : SpD := fun ds m Q => ∃ (y : Way) (r : Ref) (S : List Nat), ds = [y.d, refD r, .str (tx S)] ∧ r ∈ refsTo isSg y.k ∧ Q (.str (tx (lettersAt S y.ps r))) m
theorem ok__law_allowed  (T : Txt K mg)  : FnOk P w K mg base CX0 (1) T.f__law_allowed T.fd__law_allowed ["_law_form", "_law_ref", "_law_signs"] (spL K 3 sp__law_allowed) := by
  refine fn_ok T.F__law_allowed sc__law_allowed (fun cdv A outer s H E hr =>
(gss_cons (gs_set (i := 3) sc__law_allowed.nd rfl (.inl rfl) (ge_ix (ge_ix (ge_ix (ge_ix (ge_ix (gv 0) ge_int) (ge_ix (gv 1) ge_int)) ge_int) (ge_ix (gv 1) ge_int)) ge_int))
 (gss_cons (gs_if (gt_cmpR (op_eqS hr.units) lr_eq (gv 3) ge_str (nomark _))
 (gss_one (gs_ret (gv 2)))
 gss_nil)
 (gss_one (gs_ret (gv 3)))))) (fun ds m Q h => ?_)
  obtain ⟨y, r, S, rfl, hr, h⟩ := h
  rw [show startD N__law_allowed [y.d, refD r, .str (tx S)] = [some (y.d), some (refD r), some (.str (tx S)), none] from rfl]
  obtain ⟨ms, l, e1, e2⟩ := refs_sign (ps := y.ps) hr
  unfold lettersAt at h
  rw [e1] at h
  simp only [e2] at h
  unfold Way.d refD
  walk_at "pd"
  refine ⟨_, atI_map e1, ?_⟩
  unfold Piece.d
  walk_at "pd"
  refine ⟨_, atI_map e2, ?_⟩
  unfold Mark.d
  walk_at "pd"
  by_cases c : l = []
  · rw [if_pos c] at h
    rw [if_pos (by rw [c])]
    exact sub_refl_fin h
  · rw [if_neg c] at h
    rw [if_neg (fun e => c (tx_inj e))]
    exact sub_refl_fin h
def sp__law_can (n : Nat) : SpD := fun ds m Q => ∃ (xr : D) (refs : List Ref) (al : List (List Nat)) (ts : List Test) (prs : List (Str × List (List Nat))) (c : List Nat), ds = [xr, .rol (al.map fun l => .str (tx l)), .tup (ts.map Test.d), .tup (prs.map Bk.pairD), .rol (c.map sgD)] ∧
    lsq m xr = some (refs.map refD) ∧ refs.Nodup ∧ al.length = refs.length ∧ refs.length - c.length < n ∧ c.length ≤ refs.length ∧ refs.length ≤ 10 ∧ (∀ l ∈ al, l.length ≤ 26) ∧ (∀ t ∈ ts, t.a ∈ refs ∧ t.b ∈ refs) ∧ Q (.bl (canF (fun i => al.getD i []) (mayHold prs ts refs) (refs.length - c.length) c)) m
theorem can_turn {k n : Nat} {sq : SpD} (hk : 1 ≤ k) (T : Txt K mg)
    (hs : ∀ ds m Q, (∃ (xr : D) (refs : List Ref) (al : List (List Nat)) (ts : List Test) (prs : List (Str × List (List Nat))) (c : List Nat), ds = [xr, .rol (al.map fun l => .str (tx l)), .tup (ts.map Test.d), .tup (prs.map Bk.pairD), .rol (c.map sgD)] ∧
    lsq m xr = some (refs.map refD) ∧ refs.Nodup ∧ al.length = refs.length ∧ refs.length - c.length < n ∧ c.length ≤ refs.length ∧ refs.length ≤ 10 ∧ (∀ l ∈ al, l.length ≤ 26) ∧ (∀ t ∈ ts, t.a ∈ refs ∧ t.b ∈ refs) ∧ Q (.bl (canF (fun i => al.getD i []) (mayHold prs ts refs) (refs.length - c.length) c)) m) → sq ds m Q)
    (G__law_can : FnOk P w K mg base CX0 k T.f__law_can T.fd__law_can ["_law_refs", "_law_allowed_here", "_law_tests", "_law_pairs_here", "_law_chosen"] (spL K 5 sq))
    (G__law_line : FnOk P w K mg base CX0 1 T.f__law_line T.fd__law_line ["_law_pairs_here", "_law_name"] (spL K 2 sp__law_line)) :
    FnOk P w K mg base CX0 (k + 1) T.f__law_can T.fd__law_can ["_law_refs", "_law_allowed_here", "_law_tests", "_law_pairs_here", "_law_chosen"] (spL K 5 (sp__law_can (n + 1))) := by
  refine fn_ok T.F__law_can sc__law_can (fun cdv A outer s H E hr =>
(gss_cons (gs_if (gt_cmpR (op_ltS hr.units) lr_ltP (ge_callB call_lenU lc_len (by rfl) T.z_len PySem.boot_len (ga_cons (gv 4) ga_nil)) (ge_callB call_lenU lc_len (by rfl) T.z_len PySem.boot_len (ga_cons (gv 0) ga_nil)) (nomark _))
 (gss_cons (gs_for PassesOwn.never rfl (gi_str (ge_ix (gv 1) (ge_callB call_lenU lc_len (by rfl) T.z_len PySem.boot_len (ga_cons (gv 4) ga_nil)))) (gg_name (i := 6) sc__law_can.nd rfl (.inl rfl))
 (gss_one (gs_if (gt_val (ge_call G__law_can (hr.mono (by omega)) (by rfl) T.g__law_can T.F__law_can.kp T.b__law_can (ga_cons (gv 0) (ga_cons (gv 1) (ga_cons (gv 2) (ga_cons (gv 3) (ga_cons (ge_frz (ge_op op_addL lr_addL (gv 4) (ge_lst (ga_cons (gv 6) ga_nil)))) ga_nil)))))))
 (gss_one (gs_ret ge_bl))
 gss_nil)))
 (gss_one (gs_ret ge_bl)))
 gss_nil)
 (gss_cons (gs_for PassesOwn.never rfl (gi_seq (gv 2)) (gg_name (i := 5) sc__law_can.nd rfl (.inl rfl))
 (gss_cons (gs_set (i := 7) sc__law_can.nd rfl (.inl rfl) (ge_op op_addL lr_addL (ge_ix (gv 4) (ge_bmL PySem.F.slot_list_index PySem.F.type_list_index (mt_indexD (units65 hr)) lm_index (gv 0) (ga_cons (ge_ix (gv 5) ge_int) ga_nil))) (ge_ix (gv 4) (ge_bmL PySem.F.slot_list_index PySem.F.type_list_index (mt_indexD (units65 hr)) lm_index (gv 0) (ga_cons (ge_ix (gv 5) ge_int) ga_nil)))))
 (gss_one (gs_if (gt_cmpR op_notInU lr_notIn (gv 7) (ge_call G__law_line (hr.mono (by omega)) (by rfl) T.g__law_line T.F__law_line.kp T.b__law_line (ga_cons (gv 3) (ga_cons (ge_ix (gv 5) ge_int) ga_nil))) (by rfl))
 (gss_one (gs_ret ge_bl))
 gss_nil))))
 (gss_one (gs_ret ge_bl))))) (fun ds m Q h => ?_)
  obtain ⟨xr, refs, al, ts, prs, c, rfl, hx, nd, ha, hc, hcl, hrl, hal, hts, h⟩ := h
  rw [show startD N__law_can [xr, .rol (al.map fun l => .str (tx l)), .tup (ts.map Test.d), .tup (prs.map Bk.pairD), .rol (c.map sgD)] = [some (xr), some (.rol (al.map fun l => .str (tx l))), some (.tup (ts.map Test.d)), some (.tup (prs.map Bk.pairD)), some (.rol (c.map sgD)), none, none, none] from rfl]
  have hsq := seq_lsq hx
  walk_at "pd"
  refine dLen_seq hsq ?_
  walk_at "pd"
  rw [List.length_map, List.length_map]
  by_cases hlt : c.length < refs.length
  · rw [if_pos (by omega)]
    obtain ⟨k0, hk0⟩ : ∃ k0, refs.length - c.length = k0 + 1 := ⟨refs.length - c.length - 1, by omega⟩
    have e1 : al[c.length]? = some (al.getD c.length []) := by rw [List.getD_eq_getElem?_getD, List.getElem?_eq_getElem (by omega)]; rfl
    have l26 := hal _ (List.mem_of_getElem? e1)
    refine ⟨_, atI_map e1, ?_⟩
    rw [hk0] at h
    unfold canF at h
    generalize al.getD c.length [] = L at *
    walk_at "pd"
    refine loop_pre (fun pre s' m' => (∃ a b d, s' = [some xr, some (.rol (al.map fun l => .str (tx l))), some (.tup (ts.map Test.d)), some (.tup (prs.map Bk.pairD)), some (.rol (c.map sgD)), a, b, d]) ∧ PD.Sub m m' ∧ (pre.any fun x => canF (fun i => al.getD i []) (mayHold prs ts refs) k0 (c ++ [x])) = false) (fun c => .str (tx [c])) (fun _ _ _ _ => trivial) ?_ ?_ ⟨⟨_, _, _, rfl⟩, .refl _, rfl⟩
    · rintro pre x post e s' m' R ⟨⟨a, b, d, rfl⟩, S, hf⟩ hR
      walk_at "pd"
      intro p hp
      refine ⟨_, _, rfl, lsq_ref mset_same, Nat.le_trans (by rw [List.length_map, List.length_singleton]; omega : _ ≤ 11) (by decide), fun p1 hp1 => ⟨_, rfl, hs _ _ _ ⟨xr, refs, al, ts, prs, c ++ [x], by rw [List.map_append]; rfl, lsq_sub (S.trans ((PD.Sub.new hp).trans (PD.Sub.del (PD.Sub.new (o := .lst (c.map sgD ++ [.str (tx [x])])) hp1) hp1))) hx, nd, ha, ?_, ?_, hrl, hal, hts, ?_⟩⟩⟩
      · rw [List.length_append, List.length_singleton]; omega
      · rw [List.length_append, List.length_singleton]; omega
      · have S2 := S.trans ((PD.Sub.new hp).trans (PD.Sub.del (PD.Sub.new (o := .lst (c.map sgD ++ [.str (tx [x])])) hp1) hp1))
        rw [show refs.length - (c ++ [x]).length = k0 by rw [List.length_append, List.length_singleton]; omega]
        walk_at "pd"
        cases ev : canF (fun i => al.getD i []) (mayHold prs ts refs) k0 (c ++ [x]) with
        | true =>
          rw [if_pos rfl]
          have : (L.any fun x => canF (fun i => al.getD i []) (mayHold prs ts refs) k0 (c ++ [x])) = true := by
            rw [List.any_eq_true]; exact ⟨x, by rw [e]; simp, ev⟩
          rw [this] at h
          exact ⟨m, S2, h⟩
        | false =>
          rw [if_neg (by decide)]
          refine hR _ _ ⟨⟨_, _, _, rfl⟩, S2, ?_⟩
          rw [List.any_append, hf, List.any_cons, ev]; rfl
    · rintro s' m' ⟨⟨a, b, d, rfl⟩, S, hf⟩
      walk_at "pd"
      rw [hf] at h
      exact ⟨m, S, h⟩
  · rw [if_neg (by omega)]
    have hk0 : refs.length - c.length = 0 := by omega
    rw [hk0] at h
    unfold canF at h
    have hcr : c.length = refs.length := by omega
    rw [hold_all] at h
    refine loop_pre (fun pre s' m' => (∃ a b d, s' = [some xr, some (.rol (al.map fun l => .str (tx l))), some (.tup (ts.map Test.d)), some (.tup (prs.map Bk.pairD)), some (.rol (c.map sgD)), a, b, d]) ∧ m' = m ∧ pre.all (holdT prs refs c) = true) Test.d (fun _ _ _ _ => trivial) ?_ ?_ ⟨⟨_, _, _, rfl⟩, rfl, rfl⟩
    · rintro pre t post e s' m' R ⟨⟨a, b, d, rfl⟩, rfl, hf⟩ hR
      have ht : t ∈ ts := by rw [e]; simp
      obtain ⟨ta, tb⟩ := hts t ht
      obtain ⟨xa, ea⟩ := told_full ta hcr
      obtain ⟨xb, eb⟩ := told_full tb hcr
      have eh : holdT prs refs c t = decide ([xa, xb] ∈ Bk.wordsOf prs t.nm) := by unfold holdT; rw [ea, eb]
      unfold Test.d
      walk_at "pd"
      refine ⟨by rw [hx]; rfl, ix_refs hx nd ta ?_⟩
      refine ⟨_, rfl, _, atI_map ea, ?_⟩
      refine ⟨by rw [hx]; rfl, ix_refs hx nd tb ?_⟩
      refine ⟨_, rfl, _, atI_map eb, ?_⟩
      unfold sgD
      walk_at "pd"
      refine ⟨prs, t.nm, rfl, ?_⟩
      unfold wordsD
      walk_at "pd"
      refine ⟨flat_tx, ?_⟩
      rw [inF_tx, show ([xa] ++ [xb] : List Nat) = [xa, xb] from rfl, ← eh]
      cases ev : holdT prs refs c t with
      | true =>
        rw [if_neg (by decide)]
        exact hR _ _ ⟨⟨_, _, _, rfl⟩, rfl, by rw [List.all_append, hf, List.all_cons, ev]; rfl⟩
      | false =>
        rw [if_pos (by decide)]
        have : ts.all (holdT prs refs c) = false := by rw [List.all_eq_false]; exact ⟨t, ht, by rw [ev]; decide⟩
        rw [this] at h
        exact sub_refl_fin h
    · rintro s' m' ⟨⟨a, b, d, rfl⟩, rfl, hf⟩
      walk_at "pd"
      rw [hf] at h
      exact sub_refl_fin h
theorem can_all (T : Txt K mg) (G__law_line : FnOk P w K mg base CX0 1 T.f__law_line T.fd__law_line ["_law_pairs_here", "_law_name"] (spL K 2 sp__law_line)) :
    ∀ n, FnOk P w K mg base CX0 (n + 2) T.f__law_can T.fd__law_can ["_law_refs", "_law_allowed_here", "_law_tests", "_law_pairs_here", "_law_chosen"] (spL K 5 (sp__law_can (n + 1)))
  | 0 => can_turn (k := 1) (n := 0) (sq := fun _ _ _ => False) (Nat.le_refl _) T (fun ds m Q ⟨_, _, _, _, _, _, _, _, _, _, h, _⟩ => absurd h (Nat.not_lt_zero _)) FnOk_falso G__law_line
  | n + 1 => can_turn (by omega) T (fun ds m Q h => h) (can_all T G__law_line n) G__law_line
theorem canF_congr {L L' : Nat → List Nat} {fin : List Nat → Bool} : ∀ (n : Nat) (c : List Nat), (∀ i, i < c.length + n → L i = L' i) → canF L fin n c = canF L' fin n c
  | 0, c, _ => rfl
  | n + 1, c, h => by
    unfold canF
    rw [h c.length (by omega)]
    congr 1
    funext x
    exact canF_congr n _ fun i hi => h i (by rw [List.length_append, List.length_singleton] at hi; omega)
def sp__law_due : SpD := fun ds m Q => ∃ (y : Way) (p : Prog), ds = [y.d, .str (tx p.sg), .tup (p.pairs.map Bk.pairD)] ∧ WayOk p y ∧ Q (.bl (signF p.pairs p.sg y).isSome) m
theorem ok__law_due (T : Txt K mg) (G__law_can : FnOk P w K mg base CX0 7 T.f__law_can T.fd__law_can ["_law_refs", "_law_allowed_here", "_law_tests", "_law_pairs_here", "_law_chosen"] (spL K 5 (sp__law_can 6))) (G__law_allowed : FnOk P w K mg base CX0 1 T.f__law_allowed T.fd__law_allowed ["_law_form", "_law_ref", "_law_signs"] (spL K 3 sp__law_allowed)) :
    FnOk P w K mg base CX0 8 T.f__law_due T.fd__law_due ["_law_form", "_law_signs", "_law_pairs_here"] (spL K 3 sp__law_due) := by
  refine fn_ok T.F__law_due sc__law_due (fun cdv A outer s H E hr =>
(gss_cons (gs_set (i := 3) sc__law_due.nd rfl (.inl rfl) (ge_lst ga_nil))
 (gss_cons (gs_for PassesOwn.never rfl (gi_seq (ge_ix (gv 0) ge_int)) (gg_name (i := 4) sc__law_due.nd rfl (.inl rfl))
 (gss_one (gs_for PassesOwn.never rfl (gi_seq (ge_tup (ga_cons (ge_ix (gv 4) ge_int) (ga_cons (ge_ix (gv 4) ge_int) ga_nil)))) (gg_name (i := 5) sc__law_due.nd rfl (.inl rfl))
 (gss_one (gs_if (gt_cmpR (op_notInP hr.units) lr_notInPP (gv 5) (gv 3) (by rfl))
 (gss_one (gs_expr (ge_bm PySem.F.slot_list_append PySem.F.type_list_append mt_append lm_append (gv 3) (ga_cons (gv 5) ga_nil))))
 gss_nil)))))
 (gss_one (gs_ret (ge_call G__law_can (hr.mono (by omega)) (by rfl) T.g__law_can T.F__law_can.kp T.b__law_can (ga_cons (gv 3) (ga_cons (ge_frz (ge_lc (own := [("_law_ref", 5)]) rfl sc__law_due.nd (gi_seq (gv 3)) (blkOk_by (N := N__law_due) (sc := defScope s__law_due) (by decide +kernel)) (fun _ _ _ _ _ => (gg_name (i := 5) sc__law_due.nd rfl (.inl rfl))) (fun _ _ _ _ _ => gts_nil) (fun _ _ _ _ _ => (ge_call G__law_allowed (hr.mono (by omega)) (by rfl) T.g__law_allowed T.F__law_allowed.kp T.b__law_allowed (ga_cons (gv 0) (ga_cons (gv 5) (ga_cons (gv 1) ga_nil))))) (by decide))) (ga_cons (ge_ix (gv 0) ge_int) (ga_cons (gv 2) (ga_cons (ge_frz (ge_lst ga_nil)) ga_nil))))))))))) (fun ds m Q h => ?_)
  obtain ⟨y, p, rfl, o, h⟩ := h
  rw [show startD N__law_due [y.d, .str (tx p.sg), .tup (p.pairs.map Bk.pairD)] = [some (y.d), some (.str (tx p.sg)), some (.tup (p.pairs.map Bk.pairD)), none, none, none] from rfl]
  have lR := tested_len y.ts
  have lT := o.2.1
  rw [Way.d.eq_1]
  walk_at "pd"
  intro q hq
  refine loop_pre (fun pre s' m' => (∃ a b, s' = [some (.tup [.str y.mr, .tup (y.ps.map Piece.d), .tup (y.ts.map Test.d)]), some (.str (tx p.sg)), some (.tup (p.pairs.map Bk.pairD)), some (.ref q), a, b]) ∧ PD.Sub m m' ∧ m' q = some (.lst ((tested pre).map refD))) Test.d (fun _ _ _ _ => trivial) ?_ ?_ ⟨⟨_, _, rfl⟩, PD.Sub.new hq, mset_same⟩
  · rintro pre t post e s' m' R ⟨⟨a, b, rfl⟩, S, hm⟩ hR
    have hpl : pre.length ≤ 2 := by rw [e, List.length_append] at lT; omega
    have l1 := tested_len pre
    have et : tested (pre ++ [t]) = insR (insR (tested pre) t.a) t.b := by unfold tested; rw [List.foldl_append]; rfl
    rw [Test.d.eq_1]
    walk_at "pd"
    refine ins_step (by omega) hm fun m2 k2 e2 => ?_
    refine ins_step (by have := insR_len (acc := tested pre) (r := t.a); omega) e2 fun m3 k3 e3 => ?_
    refine hR _ _ ⟨⟨_, _, rfl⟩, fun x o ex => ?_, by rw [et]; exact e3⟩
    have nx : x ≠ q := fun z => by rw [z, hq] at ex; cases ex
    exact k3 x o nx (k2 x o nx (S x o ex))
  · rintro s' m' ⟨⟨a, b, rfl⟩, S, hm⟩
    walk_at "pd"
    have hin : ∀ r ∈ tested y.ts, r ∈ refsTo isSg y.k := fun r hr => by
      obtain ⟨t, ht, e⟩ := tested_mem.mp hr
      have := o.2.2.2.2 t ht
      rcases e with e | e <;> rw [e]
      · exact this.2.1
      · exact this.2.2
    refine ⟨_, seqOf_ref hm, fun p1 hp1 => ?_⟩
    have n1 : q ≠ p1 := fun z => by rw [z, hp1] at hm; cases hm
    refine comp_all (us := tested y.ts) refD (fun r => .str (tx (lettersAt p.sg y.ps r))) (fun _ => seqOf_ref (by rw [mset_ne n1]; exact hm)) (by omega) (fun r hr a R k => ?_) ?_
    · walk_at "pd"
      exact ⟨y, r, p.sg, by rw [Way.d.eq_1], hin r hr, k⟩
    · rw [dFrzV_r]
      refine ⟨_, mset_same, fun p2 hp2 => ⟨_, rfl, ?_⟩⟩
      have S1 := PD.Sub.del (PD.Sub.new (o := .lst ((tested y.ts).map fun r => .str (tx (lettersAt p.sg y.ps r)))) hp1) hp1
      have S2 := S1.trans (PD.Sub.del (PD.Sub.new (o := .lst []) hp2) hp2)
      refine ⟨.ref q, tested y.ts, (tested y.ts).map (lettersAt p.sg y.ps), y.ts, p.pairs, [], by rw [List.map_map]; rfl, lsq_sub S2 (lsq_ref hm), tested_nd _, by rw [List.length_map], by rw [List.length_nil]; omega, by simp, by omega, fun l hl => ?_, fun t ht => ⟨tested_mem.mpr ⟨t, ht, .inl rfl⟩, tested_mem.mpr ⟨t, ht, .inr rfl⟩⟩, m, S.trans S2, ?_⟩
      · obtain ⟨r, _, rfl⟩ := List.mem_map.mp hl
        exact letters_le o r
      · rw [sign_iff] at h
        rw [List.length_nil, Nat.sub_zero]
        rw [canF_congr (L' := fun i => lettersAt p.sg y.ps ((tested y.ts)[i]?.getD (0, 0))) _ _ fun i hi => ?_]
        · exact h
        · have hi2 : i < (tested y.ts).length := by simpa using hi
          rw [List.getD_eq_getElem?_getD, List.getElem?_map, List.getElem?_eq_getElem hi2]; rfl
end
end K29

set_option Elab.async false
set_option linter.all false
set_option maxRecDepth 100000
set_option maxHeartbeats 4000000
namespace K29
open PySem PySem.Spec PyProof.Rows L2 PD Bk
local macro_rules | `(tactic| walk_at "pd") => `(tactic| simp (config := { decide := true, maxSteps := 400000 }) only [dIZipL, dFzT, dDGetTU, dDInTU, dDGet2TU, dDcT, dDCompT, dFzT, dIsB_b, dStrI_i, dRevT, revT_tx, Bk.pd_sg, Bk.pd_rows, Bk.pd_pairs, Bk.pd_nums, Bk.pd_start, Bk.pd_lots, Bk.pd_js, Bk.pd_as, dFldO, dFldV_o, dMethO, dMethV_o, dDGetU, dDInU, dDGet2U, dDc, dDComp, dIKeys, dFrzD_v, dFrzT_v, dFrzO, dFz, dFzD, dSetF, dMakeX, dMake, dSet0, dSAdd, Bk.dMethV_bk, Bk.dFldV_bk, Bk.bk_program, Bk.bk_signs, Bk.bk_rows, Bk.bk_start, Bk.bk_ways, Bk.bk_kinds, Bk.bk_pairs, Bk.bk_numbers, Bk.bk_sorts, Bk.bk_formulas, Bk.bk_asks, Bk.bk_m1, Bk.bk_m2, Bk.bk_m3, Bk.bk_m4, Bk.bk_m5, Bk.bk_m6, Bk.bk_m7, Bk.bk_m8, Bk.bk_m9, Bk.bk_ma, Bk.bk_mb, Bk.bk_mc, Bk.atI_5, Bk.atI_6, Bk.atI_7, Bk.atI_8, dAbs_i, tx_app, tx_len, tx_emp, dIx_tx, sgn_tx, cutS_to, cutS_fr, cutS_fr1, dPar, dIRng2, dIEnumS, dIStr, dInSg, dJoin, dSlS, dUpper, dChain, dDNewT, dDGetT, dDPutT, dMin3_i, dMax3_i, dCallX, dRaise, dSeq, dSet, dAsg, dgN, dRet, dRetN, dIfS, dFor, dLoop, dDrop, dNext, dVar, dC, dNil, dCons, dOp, dUn, dTest, dTru, dAnd, dOr, dNot, dAndV, dOrV, dNotV, dIfE, dTup, dLst, dCB, dCall, dCallP, dBM, dBML, dBM0, dLc, dComp, dYes, dgTup, dgCons, dgNil, dgSub, dPart, dNoPart, dAug, dIsi, dEq, dNe, wipeD, endsOf,
  dFrz, dFrzV_i, dFrzV_s, dFrzV_b, dFrzV_n, dFrzV_t, dFrzV_l, dFrzV_r, dAddL_i, dAddL_s, dAddL_t, dAddL_rr, dAddL_rl, dAddL_lr, dAddL_ll, dMulL_i, dMulL_s, dMulL_r, dSlL_v, dSlLV_t, dSlLV_l, dSlLV_r, dMinU_1, dMinU_2, dSumL_1, dSetTx_1, dIx_l, dLen_l, dInG_l, truD_rol, tyD_rol, dInt1_b, dISeqV_l, dLtS_i, dLtS_s, ltP_i, ltP_s, lsq_rol, dDNew, dDGet, dDGet2, dDSetd, dDPut, dSub_i, dInt2_i, dNeg_i, dCmp_i, dIsN_n, dNotN_n, dInG_t, dInG_r, dIx_t, dIx_r, dLen_s, dLen_t, dLen_r, dTuple_1, dList_1, dInt1_i, dRev_v, dRevV_t, dRevV_r, dISeq_v, dISeqV_t, dISeqV_r, dIEnum_v, dIEnumV_t, dIEnumV_r, dPop_0, dPop_i, dAppend_1, dExtend_1, dSub3_i, dIRng1_v, dRng1V_i,
  seqOf_tup, seqOf_rol, seqW_tup, eqK_ss, eqK_ii, eqK_bb, eqK_nn, eqK_ts, eqK_st, eqK_ti, eqK_is, eqK_ns, flatD_str, flatD_int, flatD_bl, flatD_non, isT_NoneType_bool, isT_NoneType_int, isT_NoneType_str, isT_NoneType_tuple, isT_NoneType_list, isT_bool_bool, isT_bool_int, isT_bool_str, isT_bool_tuple, isT_bool_list, isT_int_bool, isT_int_int, isT_int_str, isT_int_tuple, isT_int_list, isT_str_bool, isT_str_int, isT_str_str, isT_str_tuple, isT_str_list, isT_tuple_bool, isT_tuple_int, isT_tuple_str, isT_tuple_tuple, isT_tuple_list, isT_list_bool, isT_list_int, isT_list_str, isT_list_tuple, isT_list_list, isNon_non, isNon_bl, isNon_int, isNon_str, isNon_tup, tyD_non, tyD_bl, tyD_int, tyD_str, tyD_tup, truD_bl, truD_int, truD_tup,
  atI_0, atI_1, atI_2, atI_3, atI_4, atI_m1, atI_m2, atI_m3, Option.some.injEq, exists_eq_left', exists_eq_left, beq_self_eq_true, Bool.not_true, Bool.not_false, if_true, if_false, true_and, and_true, Bool.false_eq_true, ↓reduceIte,
  List.getElem?_cons_zero, List.getElem?_cons_succ, List.set_cons_zero, List.set_cons_succ, List.map_cons, List.map_nil, List.length_cons, List.length_nil, mset_same, mset_mset, List.isEmpty_nil, List.isEmpty_cons, decide_eq_true_eq, beq_iff_eq, seqI_0, List.eraseIdx_cons_zero, List.eraseIdx_cons_succ, ixN_40, ixN_41, ixN_42, ixN_43, Nat.reduceAdd])
local macro_rules | `(tactic| walk_at "ne") => `(tactic| first | assumption | exact Ne.symm (by assumption))
local macro_rules | `(tactic| walk_at "mu") => `(tactic| first | exact mset_same | assumption | exact mset_skip (by walk_at "ne") (by walk_at "mu"))
local macro_rules | `(tactic| walk_at "go") => `(tactic| repeat (first | walk_at "pd" | refine ⟨_, seqOf_ref (by walk_at "mu"), ?_⟩ | refine ⟨⟨_, _, lstOf_ref (by walk_at "mu")⟩, ?_⟩ | refine ⟨_, _, lstOf_ref (by walk_at "mu"), ?_⟩ | refine ⟨(show CMul _ _ from Or.inr ⟨by decide, by decide⟩), ?_⟩ | refine ⟨(show CDiv _ _ from ⟨by decide, by decide⟩), ?_⟩))
local macro_rules | `(tactic| walk_at "w") => `(tactic| try walk_at "pd")
theorem idx_min {α : Type} [BEq α] [LawfulBEq α] {r : α} : ∀ {refs : List α} {i : Nat}, i < refs.idxOf r → refs[i]? ≠ some r
  | [], i, h => by simp at h
  | a :: l, i, h => by
    rw [List.idxOf_cons] at h
    cases e : a == r with
    | true => rw [e] at h; simp at h
    | false =>
      rw [e, cond_false] at h
      cases i with
      | zero =>
        intro z
        simp at z
        rw [z] at e
        simp at e
      | succ i => rw [List.getElem?_cons_succ]; exact idx_min (by omega)
theorem ix_refs' {x : D} {refs : List Ref} {r : Ref} {m : Mu} {Q : DK} (hx : lsq m x = some (refs.map refD)) (hr : r ∈ refs) (h : Q (.int ((refs.idxOf r : Nat) : Int)) m) : dIndexP x [refD r] m Q := by
  have hl := List.idxOf_lt_length_of_mem hr
  refine ⟨refs.map refD, refD r, refs.idxOf r, rfl, hx, refs_pln _, ref_pln _, refs_soks _, rfl, Nat.le_trans (refs_deps _) (by decide), Nat.le_trans (by simp [refD, dep, deps] : dep (refD r) ≤ 1) (by decide), ?_, fun i hi e => ?_, h⟩
  · rw [List.getElem?_map, List.getElem?_eq_getElem hl, List.getElem_idxOf]; rfl
  · rw [List.getElem?_map, Option.map_eq_some_iff] at e
    obtain ⟨x, e1, e2⟩ := e
    cases refD_inj e2
    exact idx_min hi e1
def pairR (p : Prog) (y : Way) (c : List Nat) (r : Ref) : D := .tup [refD r, sgD (sgnAt p.sg y c r)]
section
variable {P : Program} {w : World} {K : PySem.W.Frag} {mg : Str → Option Value} {base : Heap}
def sp__law_suits : SpD := fun ds m Q => ∃ (y : Way) (p : Prog) (c : List Nat), ds = [.tup ((refsTo isSg y.k).map (pairR p y c)), y.d, .str (tx p.sg), .tup (p.pairs.map Bk.pairD)] ∧ WayOk p y ∧ p.sg ≠ [] ∧ signF p.pairs p.sg y = some c ∧ Q (.bl true) m
theorem ok__law_suits  (T : Txt K mg) (G__law_line : FnOk P w K mg base CX0 (1) T.f__law_line T.fd__law_line ["_law_pairs_here", "_law_name"] (spL K 2 sp__law_line)) (G__law_allowed : FnOk P w K mg base CX0 (1) T.f__law_allowed T.fd__law_allowed ["_law_form", "_law_ref", "_law_signs"] (spL K 3 sp__law_allowed)) (G__law_places : FnOk P w K mg base CX0 (1) T.f__law_places T.fd__law_places ["_law_pieces"] (spL K 1 sp__law_places)) : FnOk P w K mg base CX0 (2) T.f__law_suits T.fd__law_suits ["_law_told", "_law_form", "_law_signs", "_law_pairs_here"] (spL K 4 sp__law_suits) := by
  refine fn_ok T.F__law_suits sc__law_suits (fun cdv A outer s H E hr =>
(gss_cons (gs_set (i := 4) sc__law_suits.nd rfl (.inl rfl) (ge_call G__law_places (hr.mono (by omega)) (by rfl) T.g__law_places T.F__law_places.kp T.b__law_places (ga_cons (ge_ix (gv 1) ge_int) ga_nil)))
 (gss_cons (gs_if (gw_or (gt_not (gt_val (ge_isi (T := "tuple") rfl (by rfl) T.z_isinstance (gv 0) (by rfl) T.z_tuple (by decide +kernel)))) (gw_or1 (gt_cmpR (op_neS hr.units) lr_ne (ge_callB call_lenU lc_len (by rfl) T.z_len PySem.boot_len (ga_cons (gv 0) ga_nil)) (ge_callB call_lenU lc_len (by rfl) T.z_len PySem.boot_len (ga_cons (gv 4) ga_nil)) (nomark _)))).gt
 (gss_one (gs_ret ge_bl))
 gss_nil)
 (gss_cons (gs_set (i := 5) sc__law_suits.nd rfl (.inl rfl) (ge_lst ga_nil))
 (gss_cons (gs_for PassesOwn.never rfl (gi_rng1 (by rfl) T.z_range (ga_cons (ge_callB call_lenU lc_len (by rfl) T.z_len PySem.boot_len (ga_cons (gv 4) ga_nil)) ga_nil)) (gg_name (i := 6) sc__law_suits.nd rfl (.inl rfl))
 (gss_cons (gs_set (i := 8) sc__law_suits.nd rfl (.inl rfl) (ge_ix (gv 0) (gv 6)))
 (gss_cons (gs_if (gw_or (gt_not (gt_val (ge_isi (T := "tuple") rfl (by rfl) T.z_isinstance (gv 8) (by rfl) T.z_tuple (by decide +kernel)))) (gw_or (gt_cmpR (op_neS hr.units) lr_ne (ge_callB call_lenU lc_len (by rfl) T.z_len PySem.boot_len (ga_cons (gv 8) ga_nil)) ge_int (nomark _)) (gw_or (gt_not (gt_val (ge_isi (T := "tuple") rfl (by rfl) T.z_isinstance (ge_ix (gv 8) ge_int) (by rfl) T.z_tuple (by decide +kernel)))) (gw_or1 (gt_cmpR (op_neS hr.units) lr_ne (ge_callB call_lenU lc_len (by rfl) T.z_len PySem.boot_len (ga_cons (ge_ix (gv 8) ge_int) ga_nil)) ge_int (nomark _)))))).gt
 (gss_one (gs_ret ge_bl))
 gss_nil)
 (gss_cons (gs_for PassesOwn.never rfl (gi_rng1 (by rfl) T.z_range (ga_cons ge_int ga_nil)) (gg_name (i := 9) sc__law_suits.nd rfl (.inl rfl))
 (gss_one (gs_if (gw_or (gt_not (gt_val (ge_isi (T := "int") rfl (by rfl) T.z_isinstance (ge_ix (ge_ix (gv 8) ge_int) (gv 9)) (by rfl) T.z_int (by decide +kernel)))) (gw_or (gt_val (ge_isi (T := "bool") rfl (by rfl) T.z_isinstance (ge_ix (ge_ix (gv 8) ge_int) (gv 9)) (by rfl) T.z_bool (by decide +kernel))) (gw_or1 (gt_cmpR (op_neS hr.units) lr_ne (ge_ix (ge_ix (gv 8) ge_int) (gv 9)) (ge_ix (ge_ix (gv 4) (gv 6)) (gv 9)) (nomark _))))).gt
 (gss_one (gs_ret ge_bl))
 gss_nil)))
 (gss_cons (gs_if (gw_or (gt_not (gt_val (ge_isi (T := "str") rfl (by rfl) T.z_isinstance (ge_ix (gv 8) ge_int) (by rfl) T.z_str (by decide +kernel)))) (gw_or (gt_cmpR (op_neS hr.units) lr_ne (ge_callB call_lenU lc_len (by rfl) T.z_len PySem.boot_len (ga_cons (ge_ix (gv 8) ge_int) ga_nil)) ge_int (nomark _)) (gw_or1 (gt_cmpR op_notIn_sign lr_notInSg (ge_ix (gv 8) ge_int) (ge_call G__law_allowed (hr.mono (by omega)) (by rfl) T.g__law_allowed T.F__law_allowed.kp T.b__law_allowed (ga_cons (gv 1) (ga_cons (ge_ix (gv 4) (gv 6)) (ga_cons (gv 2) ga_nil)))) (by rfl))))).gt
 (gss_one (gs_ret ge_bl))
 gss_nil)
 (gss_one (gs_expr (ge_bm PySem.F.slot_list_append PySem.F.type_list_append mt_append lm_append (gv 5) (ga_cons (ge_ix (gv 8) ge_int) ga_nil)))))))))
 (gss_cons (gs_for PassesOwn.never rfl (gi_seq (ge_ix (gv 1) ge_int)) (gg_name (i := 7) sc__law_suits.nd rfl (.inl rfl))
 (gss_cons (gs_set (i := 10) sc__law_suits.nd rfl (.inl rfl) (ge_op op_addL lr_addL (ge_ix (gv 5) (ge_bmL PySem.F.slot_list_index PySem.F.type_list_index (mt_indexD (units65 hr)) lm_index (gv 4) (ga_cons (ge_ix (gv 7) ge_int) ga_nil))) (ge_ix (gv 5) (ge_bmL PySem.F.slot_list_index PySem.F.type_list_index (mt_indexD (units65 hr)) lm_index (gv 4) (ga_cons (ge_ix (gv 7) ge_int) ga_nil)))))
 (gss_one (gs_if (gt_cmpR op_notInU lr_notIn (gv 10) (ge_call G__law_line (hr.mono (by omega)) (by rfl) T.g__law_line T.F__law_line.kp T.b__law_line (ga_cons (gv 3) (ga_cons (ge_ix (gv 7) ge_int) ga_nil))) (by rfl))
 (gss_one (gs_ret ge_bl))
 gss_nil))))
 (gss_one (gs_ret ge_bl)))))))) (fun ds m Q h => ?_)
  obtain ⟨y, p, c, rfl, o, hs, ec, h⟩ := h
  have sc := sign_some ec
  have ko := kinds_ok o
  have lr := refsTo_len (S := isSg) ko.1 ko.2
  rw [show startD N__law_suits [.tup ((refsTo isSg y.k).map (pairR p y c)), y.d, .str (tx p.sg), .tup (p.pairs.map Bk.pairD)] = [some (.tup ((refsTo isSg y.k).map (pairR p y c))), some (y.d), some (.str (tx p.sg)), some (.tup (p.pairs.map Bk.pairD)), none, none, none, none, none, none, none] from rfl]
  rw [Way.d.eq_1]
  walk_at "pd"
  refine ⟨_, y.ps, rfl, rfl, o.1, fun ms hm => (o.2.2.1 ms hm).1, ?_⟩
  rw [show refsTo isSg (y.ps.map Piece.k) = refsTo isSg y.k from rfl]
  have hsig : ∀ r ∈ refsTo isSg y.k, sgnAt p.sg y c r ∈ lettersAt p.sg y.ps r := fun r hr => by
    unfold sgnAt
    by_cases ht : r ∈ tested y.ts
    · obtain ⟨x, e, hx⟩ := sc.2.1 r ht
      rw [e]; exact hx
    · rw [show toldAt (tested y.ts) c r = none by
        unfold toldAt
        rw [List.getElem?_eq_none_iff, List.idxOf_eq_length ht]
        omega]
      obtain ⟨x0, l0, el⟩ := List.exists_cons_of_ne_nil (letters_ne hs hr)
      rw [el]; exact List.mem_cons_self ..
  have hrr : ∀ r ∈ refsTo isSg y.k, r ∈ refsTo isSg y.k := fun _ h => h
  have htt : ∀ t ∈ y.ts, t.a ∈ refsTo isSg y.k ∧ t.b ∈ refsTo isSg y.k := fun t ht => (o.2.2.2.2 t ht).2
  have hpl0 : ∃ pl, refsTo isSg y.k = pl := ⟨_, rfl⟩
  obtain ⟨pl, hpl⟩ := hpl0
  rw [hpl] at lr hsig htt ⊢
  walk_at "pd"
  rw [List.length_map, List.length_map]
  rw [if_neg (by simp)]
  intro q hq
  refine ⟨by omega, by omega, ?_⟩
  refine loop_range (fun i s' m' => (∃ d1 d2 d3 d4 d5, s' = [some (.tup (pl.map (pairR p y c))), some (.tup [.str y.mr, .tup (y.ps.map Piece.d), .tup (y.ts.map Test.d)]), some (.str (tx p.sg)), some (.tup (p.pairs.map Bk.pairD)), some (.rol (pl.map refD)), some (.ref q), d1, d2, d3, d4, d5]) ∧ PD.Sub m m' ∧ m' q = some (.lst ((pl.take i).map fun r => sgD (sgnAt p.sg y c r)))) ?_ ?_ ⟨⟨_, _, _, _, _, rfl⟩, .new hq, mset_same⟩
  · rintro i s' m' R hi hR ⟨⟨d1, d2, d3, d4, d5, rfl⟩, S, hm⟩
    have hi2 : i < pl.length := by simpa using hi
    have er : pl[i]? = some pl[i] := List.getElem?_eq_getElem hi2
    have hrm : pl[i] ∈ pl := List.getElem_mem hi2
    generalize pl[i] = r at er hrm
    rw [take_succ' er] at hR
    refine ⟨trivial, ?_⟩
    walk_at "pd"
    refine ⟨_, atI_map er, ?_⟩
    unfold pairR refD
    walk_at "pd"
    refine loop_range (fun j s'' m'' => (∃ d4, s'' = [some (.tup (pl.map (pairR p y c))), some (.tup [.str y.mr, .tup (y.ps.map Piece.d), .tup (y.ts.map Test.d)]), some (.str (tx p.sg)), some (.tup (p.pairs.map Bk.pairD)), some (.rol (pl.map refD)), some (.ref q), some (.int (i : Int)), d2, some (pairR p y c r), d4, d5]) ∧ m'' = m') ?_ ?_ ⟨⟨_, rfl⟩, rfl⟩
    · rintro j s'' m'' R2 hj hR2 ⟨⟨d4, rfl⟩, rfl⟩
      refine ⟨trivial, ?_⟩
      unfold pairR refD
      match j, hj with
      | 0, _ =>
        walk_at "pd"
        refine ⟨_, rfl, _, rfl, ?_⟩
        rw [if_neg (by decide)]
        refine ⟨_, rfl, _, rfl, ?_⟩
        rw [if_neg (by decide)]
        refine ⟨_, rfl, _, atI_map er, _, rfl, _, rfl, _, eqK_ii, ?_⟩
        rw [if_neg (by simp)]
        exact hR2 _ _ ⟨⟨_, rfl⟩, rfl⟩
      | 1, _ =>
        walk_at "pd"
        refine ⟨_, rfl, _, rfl, ?_⟩
        rw [if_neg (by decide)]
        refine ⟨_, rfl, _, rfl, ?_⟩
        rw [if_neg (by decide)]
        refine ⟨_, rfl, _, atI_map er, _, rfl, _, rfl, _, eqK_ii, ?_⟩
        rw [if_neg (by simp)]
        exact hR2 _ _ ⟨⟨_, rfl⟩, rfl⟩
    · rintro s'' m'' ⟨⟨d4, rfl⟩, rfl⟩
      refine ⟨trivial, ?_⟩
      unfold pairR
      walk_at "pd"
      unfold sgD
      refine ⟨_, rfl, ?_⟩
      rw [if_neg (by decide)]
      walk_at "pd"
      refine ⟨_, atI_map er, ?_⟩
      refine ⟨y, r, p.sg, by rw [Way.d.eq_1], by rw [hpl]; exact hrm, _, _, rfl, rfl, ?_⟩
      rw [cps_tx, decide_eq_true (hsig r hrm), if_neg (by decide)]
      refine ⟨⟨_, _, lstOf_ref hm⟩, q, _, lstOf_ref hm, by rw [List.length_map, List.length_take]; exact Nat.lt_of_le_of_lt (by omega : _ ≤ 1000) (by decide), hR _ _ ⟨⟨_, _, _, _, _, rfl⟩, S.new' hq, ?_⟩⟩
      rw [mset_same, List.map_append]; rfl
  · rintro s' m' ⟨⟨d1, d2, d3, d4, d5, rfl⟩, S, hm⟩
    refine ⟨trivial, ?_⟩
    rw [show ((pl.length : Int)).toNat = pl.length by omega, List.take_length] at hm
    walk_at "pd"
    refine loop_pre (fun pre s' m'' => (∃ d1 d2 d3 d4 d5, s' = [some (.tup (pl.map (pairR p y c))), some (.tup [.str y.mr, .tup (y.ps.map Piece.d), .tup (y.ts.map Test.d)]), some (.str (tx p.sg)), some (.tup (p.pairs.map Bk.pairD)), some (.rol (pl.map refD)), some (.ref q), d1, d2, d3, d4, d5]) ∧ m'' = m') Test.d (fun _ _ _ _ => trivial) ?_ ?_ ⟨⟨_, _, _, _, _, rfl⟩, rfl⟩
    · rintro pre t post e s' m'' R ⟨⟨d1, d2, d3, d4, d5, rfl⟩, rfl⟩ hR
      have ht : t ∈ y.ts := by rw [e]; simp
      obtain ⟨ta, tb⟩ := htt t ht
      unfold Test.d
      walk_at "pd"
      refine ⟨rfl, ix_refs' rfl ta ?_⟩
      refine ⟨_, seqOf_ref hm, _, atI_map (by rw [List.getElem?_eq_getElem (List.idxOf_lt_length_of_mem ta), List.getElem_idxOf]), ?_⟩
      refine ⟨rfl, ix_refs' rfl tb ?_⟩
      refine ⟨_, seqOf_ref hm, _, atI_map (by rw [List.getElem?_eq_getElem (List.idxOf_lt_length_of_mem tb), List.getElem_idxOf]), ?_⟩
      unfold sgD
      walk_at "pd"
      refine ⟨p.pairs, t.nm, rfl, ?_⟩
      unfold wordsD
      walk_at "pd"
      refine ⟨flat_tx, ?_⟩
      rw [inF_tx]
      have hw : [sgnAt p.sg y c t.a] ++ [sgnAt p.sg y c t.b] ∈ Bk.wordsOf p.pairs t.nm := by
        have := (hold_full sc.1).mp sc.2.2 t ht
        obtain ⟨xa, ea⟩ := told_full (tested_mem.mpr ⟨t, ht, .inl rfl⟩) sc.1
        obtain ⟨xb, eb⟩ := told_full (tested_mem.mpr ⟨t, ht, .inr rfl⟩) sc.1
        dsimp only at this
        rw [ea, eb] at this
        unfold sgnAt
        rw [ea, eb]
        exact this
      rw [decide_eq_true hw, if_neg (by decide)]
      exact hR _ _ ⟨⟨_, _, _, _, _, rfl⟩, rfl⟩
    · rintro s' m'' ⟨⟨d1, d2, d3, d4, d5, rfl⟩, rfl⟩
      walk_at "pd"
      exact ⟨m, S, h⟩
def sp__law_right : SpD := fun ds m Q => ∃ (y : Way) (p : Prog), ds = [signsD p y, .bl (signF p.pairs p.sg y).isSome, y.d, .str (tx p.sg), .tup (p.pairs.map Bk.pairD)] ∧ WayOk p y ∧ p.sg ≠ [] ∧ Q (.bl true) m
theorem ok__law_right  (T : Txt K mg) (G__law_due : FnOk P w K mg base CX0 (8) T.f__law_due T.fd__law_due ["_law_form", "_law_signs", "_law_pairs_here"] (spL K 3 sp__law_due)) (G__law_suits : FnOk P w K mg base CX0 (2) T.f__law_suits T.fd__law_suits ["_law_told", "_law_form", "_law_signs", "_law_pairs_here"] (spL K 4 sp__law_suits)) : FnOk P w K mg base CX0 (9) T.f__law_right T.fd__law_right ["_law_told", "_law_said", "_law_form", "_law_signs", "_law_pairs_here"] (spL K 5 sp__law_right) := by
  refine fn_ok T.F__law_right sc__law_right (fun cdv A outer s H E hr =>
(gss_cons (gs_if (gt_val (ge_call G__law_due (hr.mono (by omega)) (by rfl) T.g__law_due T.F__law_due.kp T.b__law_due (ga_cons (gv 2) (ga_cons (gv 3) (ga_cons (gv 4) ga_nil)))))
 (gss_one (gs_ret (ge_and (ge_cmpR op_isBl lr_isB (gv 1) ge_bl (nomark _)) (ge_one (ge_call G__law_suits (hr.mono (by omega)) (by rfl) T.g__law_suits T.F__law_suits.kp T.b__law_suits (ga_cons (gv 0) (ga_cons (gv 2) (ga_cons (gv 3) (ga_cons (gv 4) ga_nil)))))))))
 gss_nil)
 (gss_one (gs_ret (ge_and (ge_cmpR op_isBl lr_isB (gv 1) ge_bl (nomark _)) (ge_one (ge_cmpR op_isN lr_isN (gv 0) ge_non (nomark _)))))))) (fun ds m Q h => ?_)
  obtain ⟨y, p, rfl, o, hs, h⟩ := h
  rw [show startD N__law_right [signsD p y, .bl (signF p.pairs p.sg y).isSome, y.d, .str (tx p.sg), .tup (p.pairs.map Bk.pairD)] = [some (signsD p y), some (.bl (signF p.pairs p.sg y).isSome), some (y.d), some (.str (tx p.sg)), some (.tup (p.pairs.map Bk.pairD))] from rfl]
  walk_at "pd"
  refine ⟨y, p, rfl, o, ?_⟩
  unfold signsD
  cases ec : signF p.pairs p.sg y with
  | none =>
    dsimp only
    walk_at "pd"
    exact sub_refl_fin h
  | some c =>
    dsimp only
    walk_at "pd"
    split
    · split
      · exact ⟨y, p, c, rfl, o, hs, ec, sub_refl_fin h⟩
      · rename_i h2; exact absurd rfl h2
    · rename_i h1; exact absurd rfl h1
end
end K29

set_option Elab.async false
set_option linter.all false
set_option maxRecDepth 100000
set_option maxHeartbeats 4000000
namespace K29
open PySem PySem.Spec PyProof.Rows L2 PD Bk
local macro_rules | `(tactic| walk_at "pd") => `(tactic| simp (config := { decide := true, maxSteps := 400000 }) only [dIZipL, dFzT, dDGetTU, dDInTU, dDGet2TU, dDcT, dDCompT, dFzT, dIsB_b, dStrI_i, dRevT, revT_tx, Bk.pd_sg, Bk.pd_rows, Bk.pd_pairs, Bk.pd_nums, Bk.pd_start, Bk.pd_lots, Bk.pd_js, Bk.pd_as, dFldO, dFldV_o, dMethO, dMethV_o, dDGetU, dDInU, dDGet2U, dDc, dDComp, dIKeys, dFrzD_v, dFrzT_v, dFrzO, dFz, dFzD, dSetF, dMakeX, dMake, dSet0, dSAdd, Bk.dMethV_bk, Bk.dFldV_bk, Bk.bk_program, Bk.bk_signs, Bk.bk_rows, Bk.bk_start, Bk.bk_ways, Bk.bk_kinds, Bk.bk_pairs, Bk.bk_numbers, Bk.bk_sorts, Bk.bk_formulas, Bk.bk_asks, Bk.bk_m1, Bk.bk_m2, Bk.bk_m3, Bk.bk_m4, Bk.bk_m5, Bk.bk_m6, Bk.bk_m7, Bk.bk_m8, Bk.bk_m9, Bk.bk_ma, Bk.bk_mb, Bk.bk_mc, Bk.atI_5, Bk.atI_6, Bk.atI_7, Bk.atI_8, dAbs_i, tx_app, tx_len, tx_emp, dIx_tx, sgn_tx, cutS_to, cutS_fr, cutS_fr1, dPar, dIRng2, dIEnumS, dIStr, dInSg, dJoin, dSlS, dUpper, dChain, dDNewT, dDGetT, dDPutT, dMin3_i, dMax3_i, dCallX, dRaise, dSeq, dSet, dAsg, dgN, dRet, dRetN, dIfS, dFor, dLoop, dDrop, dNext, dVar, dC, dNil, dCons, dOp, dUn, dTest, dTru, dAnd, dOr, dNot, dAndV, dOrV, dNotV, dIfE, dTup, dLst, dCB, dCall, dCallP, dBM, dBML, dBM0, dLc, dComp, dYes, dgTup, dgCons, dgNil, dgSub, dPart, dNoPart, dAug, dIsi, dEq, dNe, wipeD, endsOf,
  dFrz, dFrzV_i, dFrzV_s, dFrzV_b, dFrzV_n, dFrzV_t, dFrzV_l, dFrzV_r, dAddL_i, dAddL_s, dAddL_t, dAddL_rr, dAddL_rl, dAddL_lr, dAddL_ll, dMulL_i, dMulL_s, dMulL_r, dSlL_v, dSlLV_t, dSlLV_l, dSlLV_r, dMinU_1, dMinU_2, dSumL_1, dSetTx_1, dIx_l, dLen_l, dInG_l, truD_rol, tyD_rol, dInt1_b, dISeqV_l, dLtS_i, dLtS_s, ltP_i, ltP_s, lsq_rol, dDNew, dDGet, dDGet2, dDSetd, dDPut, dSub_i, dInt2_i, dNeg_i, dCmp_i, dIsN_n, dNotN_n, dInG_t, dInG_r, dIx_t, dIx_r, dLen_s, dLen_t, dLen_r, dTuple_1, dList_1, dInt1_i, dRev_v, dRevV_t, dRevV_r, dISeq_v, dISeqV_t, dISeqV_r, dIEnum_v, dIEnumV_t, dIEnumV_r, dPop_0, dPop_i, dAppend_1, dExtend_1, dSub3_i, dIRng1_v, dRng1V_i,
  seqOf_tup, seqOf_rol, seqW_tup, eqK_ss, eqK_ii, eqK_bb, eqK_nn, eqK_ts, eqK_st, eqK_ti, eqK_is, eqK_ns, flatD_str, flatD_int, flatD_bl, flatD_non, isT_NoneType_bool, isT_NoneType_int, isT_NoneType_str, isT_NoneType_tuple, isT_NoneType_list, isT_bool_bool, isT_bool_int, isT_bool_str, isT_bool_tuple, isT_bool_list, isT_int_bool, isT_int_int, isT_int_str, isT_int_tuple, isT_int_list, isT_str_bool, isT_str_int, isT_str_str, isT_str_tuple, isT_str_list, isT_tuple_bool, isT_tuple_int, isT_tuple_str, isT_tuple_tuple, isT_tuple_list, isT_list_bool, isT_list_int, isT_list_str, isT_list_tuple, isT_list_list, isNon_non, isNon_bl, isNon_int, isNon_str, isNon_tup, tyD_non, tyD_bl, tyD_int, tyD_str, tyD_tup, truD_bl, truD_int, truD_tup,
  atI_0, atI_1, atI_2, atI_3, atI_4, atI_m1, atI_m2, atI_m3, Option.some.injEq, exists_eq_left', exists_eq_left, beq_self_eq_true, Bool.not_true, Bool.not_false, if_true, if_false, true_and, and_true, Bool.false_eq_true, ↓reduceIte,
  List.getElem?_cons_zero, List.getElem?_cons_succ, List.set_cons_zero, List.set_cons_succ, List.map_cons, List.map_nil, List.length_cons, List.length_nil, mset_same, mset_mset, List.isEmpty_nil, List.isEmpty_cons, decide_eq_true_eq, beq_iff_eq, seqI_0, List.eraseIdx_cons_zero, List.eraseIdx_cons_succ, ixN_40, ixN_41, ixN_42, ixN_43, Nat.reduceAdd])
local macro_rules | `(tactic| walk_at "ne") => `(tactic| first | assumption | exact Ne.symm (by assumption))
local macro_rules | `(tactic| walk_at "mu") => `(tactic| first | exact mset_same | assumption | exact mset_skip (by walk_at "ne") (by walk_at "mu"))
local macro_rules | `(tactic| walk_at "go") => `(tactic| repeat (first | walk_at "pd" | refine ⟨_, seqOf_ref (by walk_at "mu"), ?_⟩ | refine ⟨⟨_, _, lstOf_ref (by walk_at "mu")⟩, ?_⟩ | refine ⟨_, _, lstOf_ref (by walk_at "mu"), ?_⟩ | refine ⟨(show CMul _ _ from Or.inr ⟨by decide, by decide⟩), ?_⟩ | refine ⟨(show CDiv _ _ from ⟨by decide, by decide⟩), ?_⟩))
local macro_rules | `(tactic| walk_at "w") => `(tactic| try walk_at "pd")
def SgOk (S : List Nat) : Prop := S ≠ [] ∧ S.length ≤ 6 ∧ ∀ c ∈ S, c < 128
def LotsOk (S : List Nat) (rows : Nat) (names : List Str) (prs : List (Str × List (List Nat))) (L : List (List Knd × Str)) (lots : List (Str × List Way)) : Prop := ∀ l ∈ lots, l.2.length ≤ 2 ∧ ∀ y ∈ l.2, YOk S rows names prs y ∧ (y.k, y.mr) ∈ L
theorem pr_names {S S' : List Nat} {n : Nat} {ps ps' : List (Str × List (List Nat))} (h : PrOk S n ps) (h' : PrOk S' n ps') : ps.map (·.1) = ps'.map (·.1) := h.2.1.trans h'.2.1.symm
theorem mk_inj {L : List (List Knd × Str)} (h : MkOk L) {k k' : List Knd} {n : Str} (a : (k, n) ∈ L) (b : (k', n) ∈ L) : k = k' := by
  have nd := mk_nd h
  clear h
  induction L with
  | nil => cases a
  | cons e L ih =>
    rw [List.map_cons, List.nodup_cons] at nd
    rcases List.mem_cons.mp a with a | a <;> rcases List.mem_cons.mp b with b | b
    · rw [← a] at b; injection b with b; exact b.symm
    · exact absurd (List.mem_map.mpr ⟨_, b, by rw [← a]⟩) nd.1
    · exact absurd (List.mem_map.mpr ⟨_, a, by rw [← b]⟩) nd.1
    · exact ih a b nd.2
section
variable {S sg : List Nat} {rows n : Nat} {names : List Str} {prs prs0 : List (Str × List (List Nat))} {L : List (List Knd × Str)} {lots : List (Str × List Way)}
def progOf (sg : List Nat) (rows : Nat) (prs : List (Str × List (List Nat))) (st : Str) (lots : List (Str × List Way)) : Prog := ⟨sg, rows, prs, [], st, lots, [], []⟩
theorem lots_way (hl : LotsOk S rows names prs0 L lots) {st : Str} {y : Way} (h : y ∈ (progOf sg rows prs st lots).ways) : YOk S rows names prs0 y ∧ (y.k, y.mr) ∈ L := by
  obtain ⟨l, h1, h2⟩ := List.mem_flatMap.mp h
  exact (hl l h1).2 y h2
theorem good_mk {st : Str} (hsub : ∀ c ∈ S, c ∈ sg) (hsg : sg.length ≤ 10) (hr : rows ≤ 2) (hn3 : n ≤ 3) (hp : PrOk sg n prs) (hp0 : PrOk S n prs0) (hnl : names.length ≤ 3) (hnd : names.Nodup) (hst : st ∈ names) (hL : MkOk L) (hl : LotsOk S rows names prs0 L lots) (hnm : lots.map (·.1) = names) : Good0 (progOf sg rows prs st lots) := by
  have hll : lots.length ≤ 3 := by rw [← hnm, List.length_map] at hnl; exact hnl
  have hw : ∀ y, y ∈ (progOf sg rows prs st lots).ways → YOk S rows names prs0 y ∧ (y.k, y.mr) ∈ L := fun y h => lots_way hl h
  have hwl : (progOf sg rows prs st lots).ways.length ≤ 6 := by
    have := flat_le (f := fun l : Str × List Way => l.2) (n := 2) (l := lots) fun l h => (hl l h).1
    show (lots.flatMap _).length ≤ 6
    omega
  refine { pr := ?_, lt := ?_, wd := ?_, ws := ?_, wy := ?_, ll := ?_, ndP := ?_, ndL := ?_, wp := ?_, pc := ?_, st := ?_, mkk := ?_, ts := ?_, nn := rfl, nj := rfl, na := rfl }
  · show prs.length ≤ 100; have := hp.1; omega
  · show lots.length ≤ 100; omega
  · exact fun q hq => by have := (hp.2.2 q hq).1; omega
  · exact fun l h => by have := (hl l h).1; omega
  · exact fun y h => by have := (hw y h).1.pl; have := (hw y h).1.tl; omega
  · refine Nat.le_trans (flat_le (n := 5 * 2) fun y h => ?_) (by omega)
    unfold wayLetters
    refine Nat.le_trans (flat_le (n := 2) fun q hq => ?_) (Nat.mul_le_mul_right _ (hw y h).1.pl)
    have := (hw y h).1.pc q hq
    cases q with
    | lot _ => exact Nat.zero_le _
    | plain ms => exact Nat.le_trans (List.length_filterMap_le _ _) (Nat.le_trans this.1 hr)
  · show (prs.map (·.1)).Nodup
    rw [hp.2.1]; exact List.Nodup.sublist (List.take_sublist _ _) (by decide)
  · show (lots.map (·.1)).Nodup
    rw [hnm]; exact hnd
  · exact fun q hq l hl => ⟨((hp.2.2 q hq).2 l hl).1, by have := ((hp.2.2 q hq).2 l hl).2; omega⟩
  · intro y h q hq
    have := (hw y h).1.pc q hq
    cases q with
    | lot nm => show nm ∈ lots.map (·.1); rw [hnm]; exact this
    | plain ms => exact ⟨by have := this.1; omega, fun l hl => ⟨fun c hc => hsub c (((this.2 _ hl) l rfl).1 c hc), by have := ((this.2 _ hl) l rfl).2; omega⟩⟩
  · show st ∈ lots.map (·.1); rw [hnm]; exact hst
  · intro y h v h' e
    have a := (hw y h).2
    rw [e] at a
    exact mk_inj hL a (hw v h').2
  · intro y h t ht
    have := (hw y h).1.ts t ht
    exact ⟨by show t.nm ∈ prs.map (·.1); rw [pr_names hp hp0]; exact this.1, this.2⟩
theorem wayOk_of {st : Str} (hsg : sg.length ≤ 10) (hr : rows ≤ 2) (hp : PrOk sg n prs) (hp0 : PrOk S n prs0) {y : Way} (h : YOk S rows names prs0 y) : WayOk (progOf sg rows prs st lots) y := by
  refine ⟨by have := h.pl; omega, h.tl, fun ms hm => ?_, by show sg.length ≤ 26; omega, fun t ht => ?_⟩
  · have := h.pc _ hm
    exact ⟨by have := this.1; omega, fun l hl => by have := ((this.2 _ hl) l rfl).2; omega⟩
  · have := h.ts t ht
    exact ⟨by show t.nm ∈ prs.map (·.1); rw [pr_names hp hp0]; exact this.1, this.2⟩
theorem sgn_mem {p : Prog} {y : Way} {c : List Nat} (hs : p.sg ≠ []) (ec : signF p.pairs p.sg y = some c) : ∀ r ∈ refsTo isSg y.k, sgnAt p.sg y c r ∈ lettersAt p.sg y.ps r := fun r hr => by
  have sc := sign_some ec
  unfold sgnAt
  by_cases ht : r ∈ tested y.ts
  · obtain ⟨x, e, hx⟩ := sc.2.1 r ht
    rw [e]; exact hx
  · rw [show toldAt (tested y.ts) c r = none by
      unfold toldAt
      rw [List.getElem?_eq_none_iff, List.idxOf_eq_length ht]
      omega]
    obtain ⟨x0, l0, el⟩ := List.exists_cons_of_ne_nil (letters_ne hs hr)
    rw [el]; exact List.mem_cons_self ..
theorem lettersAt_lt {sg : List Nat} {ps : List Piece} {r : Ref} (h : ∀ c ∈ sg, c < 128) (h2 : ∀ ms, Piece.plain ms ∈ ps → ∀ l, Mark.sign l ∈ ms → ∀ c ∈ l, c < 128) : ∀ c ∈ lettersAt sg ps r, c < 128 := by
  unfold lettersAt
  split
  · rename_i ms e1
    split
    · rename_i l e2
      split
      · exact h
      · exact h2 ms (List.mem_of_getElem? e1) l (List.mem_of_getElem? e2)
    · exact fun c hc => (List.not_mem_nil hc).elim
  · exact fun c hc => (List.not_mem_nil hc).elim
theorem signs_sok {p : Prog} {y : Way} (hs : p.sg ≠ []) (h : ∀ c ∈ p.sg, c < 128) (h2 : ∀ ms, Piece.plain ms ∈ y.ps → ∀ l, Mark.sign l ∈ ms → ∀ c ∈ l, c < 128) : sok (signsD p y) = true := by
  unfold signsD
  split
  · rename_i c ec
    rw [sok, soks_iff]
    intro d hd
    obtain ⟨r, hr, rfl⟩ := List.mem_map.mp hd
    have := lettersAt_lt h h2 _ (sgn_mem hs ec r hr)
    rw [sok, soks_iff]
    intro d hd
    simp only [List.mem_cons, List.not_mem_nil, or_false] at hd
    rcases hd with rfl | rfl
    · rfl
    · unfold sgD
      rw [sok, PyData.canLay0]
      show (tx [_]).cps.all _ = true
      unfold tx
      simp
      omega
  · rfl
theorem signs_pln (p : Prog) (y : Way) : pln (signsD p y) = true := by
  unfold signsD
  split
  · rw [pln, plns_iff]
    intro d hd
    obtain ⟨r, _, rfl⟩ := List.mem_map.mp hd
    rfl
  · rfl
theorem signs_dep (p : Prog) (y : Way) : dep (signsD p y) ≤ 60 := by
  unfold signsD
  split
  · rw [dep]
    have : deps ((refsTo isSg y.k).map fun r => D.tup [refD r, sgD (sgnAt p.sg y ‹_› r)]) ≤ 10 := by
      rw [deps_le]
      intro d hd
      obtain ⟨r, _, rfl⟩ := List.mem_map.mp hd
      simp [refD, sgD, dep, deps]
    omega
  · simp [dep]
end
section
variable {P : Program} {w : World} {K : PySem.W.Frag} {mg : Str → Option Value} {base : Heap}
def sp_law : SpD := fun ds m Q => ∃ ns : List Int, ds = [.rol (ns.map .int)] ∧ ns.length ≤ 63 ∧ ∀ m', Q (.bl true) m'
theorem ok_law  (T : Txt K mg) (G_signing_of : FnOk P w K mg base CX0 (4) T.f_signing_of T.fd_signing_of ["book", "way"] (spL K 2 (sp_signing_of T.c_Book))) (G__law_right : FnOk P w K mg base CX0 (9) T.f__law_right T.fd__law_right ["_law_told", "_law_said", "_law_form", "_law_signs", "_law_pairs_here"] (spL K 5 sp__law_right)) (G_is_signed : FnOk P w K mg base CX0 (5) T.f_is_signed T.fd_is_signed ["book", "way"] (spL K 2 (sp_is_signed T.c_Book))) (G_Book___init__ : FnOk P w K mg base (L2.CX P w) (6) T.f_Book___init__ T.fd_Book___init__ ["self", "program"] (spX K 2 (sp_Book___init__ T))) (G__law_pairs : FnOk P w K mg base CX0 (3) T.f__law_pairs T.fd__law_pairs ["_law_tape_here", "_law_signs", "_law_size"] (spL K 3 sp__law_pairs)) (G__law_pick : FnOk P w K mg base CX0 (1) T.f__law_pick T.fd__law_pick ["_law_tape_here", "_law_limit"] (spL K 2 sp__law_pick)) (G__law_way : FnOk P w K mg base CX0 (5) T.f__law_way T.fd__law_way ["_law_tape_here", "_law_signs", "_law_rows", "_law_names", "_law_pairs_here", "_law_makers"] (spL K 6 sp__law_way)) (G__law_tape : FnOk P w K mg base CX0 (1) T.f__law_tape T.fd__law_tape ["_law_script"] (spL K 1 sp__law_tape)) : FnOk P w K mg base CX0 (10) T.f_law T.fd_law ["_law_script"] (spL K 1 sp_law) := by
  refine fn_ok T.F_law sc_law (fun cdv A outer s H E hr =>
(gss_cons (gs_set (i := 1) sc_law.nd rfl (.inl rfl) (ge_call G__law_tape (hr.mono (by omega)) (by rfl) T.g__law_tape T.F__law_tape.kp T.b__law_tape (ga_cons (gv 0) ga_nil)))
 (gss_cons (gs_set (i := 2) sc_law.nd rfl (.inl rfl) (ge_ix (ge_tup (ga_cons ge_str (ga_cons ge_str (ga_cons ge_str (ga_cons ge_str (ga_cons ge_str (ga_cons ge_str (ga_cons ge_str (ga_cons ge_str ga_nil))))))))) (ge_call G__law_pick (hr.mono (by omega)) (by rfl) T.g__law_pick T.F__law_pick.kp T.b__law_pick (ga_cons (gv 1) (ga_cons ge_int ga_nil)))))
 (gss_cons (gs_set (i := 3) sc_law.nd rfl (.inl rfl) (ge_op op_addL lr_addL ge_int (ge_op op_fdivW lr_int2 (ge_call G__law_pick (hr.mono (by omega)) (by rfl) T.g__law_pick T.F__law_pick.kp T.b__law_pick (ga_cons (gv 1) (ga_cons ge_int ga_nil))) ge_int)))
 (gss_cons (gs_if (gt_cmpR (op_gtS hr.units) lr_gtP (ge_callB call_lenU lc_len (by rfl) T.z_len PySem.boot_len (ga_cons (gv 2) ga_nil)) ge_int (nomark _))
 (gss_one (gs_set (i := 3) sc_law.nd rfl (.inl rfl) ge_int))
 gss_nil)
 (gss_cons (gs_set (i := 4) sc_law.nd rfl (.inl rfl) (ge_sliceL (ge_tup (ga_cons ge_str (ga_cons ge_str (ga_cons ge_str ga_nil)))) (go_some (ge_call G__law_pick (hr.mono (by omega)) (by rfl) T.g__law_pick T.F__law_pick.kp T.b__law_pick (ga_cons (gv 1) (ga_cons ge_int ga_nil)))) go_none))
 (gss_cons (gs_set (i := 5) sc_law.nd rfl (.inl rfl) (ge_call G__law_pairs (hr.mono (by omega)) (by rfl) T.g__law_pairs T.F__law_pairs.kp T.b__law_pairs (ga_cons (gv 1) (ga_cons (gv 2) (ga_cons (ge_frz (ge_op op_addL lr_addL ge_int (ge_call G__law_pick (hr.mono (by omega)) (by rfl) T.g__law_pick T.F__law_pick.kp T.b__law_pick (ga_cons (gv 1) (ga_cons ge_int ga_nil))))) ga_nil)))))
 (gss_cons (gs_set (i := 6) sc_law.nd rfl (.inl rfl) (ge_lst ga_nil))
 (gss_cons (gs_set (i := 7) sc_law.nd rfl (.inl rfl) (ge_lst ga_nil))
 (gss_cons (gs_for PassesOwn.never rfl (gi_seq (gv 4)) (gg_name (i := 8) sc_law.nd rfl (.inl rfl))
 (gss_cons (gs_set (i := 14) sc_law.nd rfl (.inl rfl) (ge_lst ga_nil))
 (gss_cons (gs_for PassesOwn.never rfl (gi_rng1 (by rfl) T.z_range (ga_cons (ge_op op_addL lr_addL ge_int (ge_call G__law_pick (hr.mono (by omega)) (by rfl) T.g__law_pick T.F__law_pick.kp T.b__law_pick (ga_cons (gv 1) (ga_cons ge_int ga_nil)))) ga_nil)) (gg_name (i := 15) sc_law.nd rfl (.inl rfl))
 (gss_one (gs_expr (ge_bm PySem.F.slot_list_append PySem.F.type_list_append mt_append lm_append (gv 14) (ga_cons (ge_call G__law_way (hr.mono (by omega)) (by rfl) T.g__law_way T.F__law_way.kp T.b__law_way (ga_cons (gv 1) (ga_cons (gv 2) (ga_cons (ge_frz (gv 3)) (ga_cons (ge_frz (gv 4)) (ga_cons (gv 5) (ga_cons (gv 6) ga_nil))))))) ga_nil)))))
 (gss_one (gs_expr (ge_bm PySem.F.slot_list_append PySem.F.type_list_append mt_append lm_append (gv 7) (ga_cons (ge_tup (ga_cons (gv 8) (ga_cons (ge_callTy call_tuple_of lc_tuple (by rfl) T.z_tuple (by decide +kernel) (ga_cons (gv 14) ga_nil)) ga_nil))) ga_nil)))))))
 (gss_cons (gs_set (i := 9) sc_law.nd rfl (.inl rfl) (ge_revT (gv 2)))
 (gss_cons (gs_if (gw_and (gt_cmpR (op_ltS hr.units) lr_ltP (ge_callB call_lenU lc_len (by rfl) T.z_len PySem.boot_len (ga_cons (gv 2) ga_nil)) ge_int (nomark _)) (gw_and1 (gt_cmpR (op_gtS hr.units) lr_gtP (ge_call G__law_pick (hr.mono (by omega)) (by rfl) T.g__law_pick T.F__law_pick.kp T.b__law_pick (ga_cons (gv 1) (ga_cons ge_int ga_nil))) ge_int (nomark _)))).gt
 (gss_one (gs_set (i := 9) sc_law.nd rfl (.inl rfl) (ge_op op_addL lr_addL ge_str (gv 2))))
 gss_nil)
 (gss_cons (gs_set (i := 10) sc_law.nd rfl (.inl rfl) (ge_call G__law_pairs (hr.mono (by omega)) (by rfl) T.g__law_pairs T.F__law_pairs.kp T.b__law_pairs (ga_cons (gv 1) (ga_cons (ge_frz (gv 9)) (ga_cons (ge_callB call_lenU lc_len (by rfl) T.z_len PySem.boot_len (ga_cons (gv 5) ga_nil)) ga_nil)))))
 (gss_cons (gs_set (i := 11) sc_law.nd rfl (.inl rfl) (ge_frzO (C := T.c_Book) (ge_makeX T.mk_Book G_Book___init__ (no_tk) (hr.mono (by omega)) (by rfl) T.gc_Book T.b_Book___init__ (ga_cons (ge_tup (ga_cons ge_str (ga_cons (gv 2) (ga_cons (gv 3) (ga_cons (gv 5) (ga_cons (ge_tup ga_nil) (ga_cons (ge_ix (gv 4) ge_int) (ga_cons (ge_callTy call_tuple_of lc_tuple (by rfl) T.z_tuple (by decide +kernel) (ga_cons (gv 7) ga_nil)) (ga_cons (ge_tup ga_nil) (ga_cons (ge_tup ga_nil) ga_nil)))))))))) ga_nil))))
 (gss_cons (gs_set (i := 12) sc_law.nd rfl (.inl rfl) (ge_frzO (C := T.c_Book) (ge_makeX T.mk_Book G_Book___init__ (no_tk) (hr.mono (by omega)) (by rfl) T.gc_Book T.b_Book___init__ (ga_cons (ge_tup (ga_cons ge_str (ga_cons (gv 9) (ga_cons (gv 3) (ga_cons (gv 10) (ga_cons (ge_tup ga_nil) (ga_cons (ge_ix (gv 4) ge_int) (ga_cons (ge_callTy call_tuple_of lc_tuple (by rfl) T.z_tuple (by decide +kernel) (ga_cons (gv 7) ga_nil)) (ga_cons (ge_tup ga_nil) (ga_cons (ge_tup ga_nil) ga_nil)))))))))) ga_nil))))
 (gss_cons (gs_for PassesOwn.never rfl (gi_seq (gv 7)) (gg_name (i := 13) sc_law.nd rfl (.inl rfl))
 (gss_one (gs_for PassesOwn.never rfl (gi_seq (ge_ix (gv 13) ge_int)) (gg_name (i := 16) sc_law.nd rfl (.inl rfl))
 (gss_cons (gs_set (i := 17) sc_law.nd rfl (.inl rfl) (ge_call G_signing_of (hr.mono (by omega)) (by rfl) T.g_signing_of T.F_signing_of.kp T.b_signing_of (ga_cons (gv 11) (ga_cons (gv 16) ga_nil))))
 (gss_cons (gs_if (gt_not (gt_val (ge_call G__law_right (hr.mono (by omega)) (by rfl) T.g__law_right T.F__law_right.kp T.b__law_right (ga_cons (gv 17) (ga_cons (ge_call G_is_signed (hr.mono (by omega)) (by rfl) T.g_is_signed T.F_is_signed.kp T.b_is_signed (ga_cons (gv 11) (ga_cons (gv 16) ga_nil))) (ga_cons (gv 16) (ga_cons (gv 2) (ga_cons (gv 5) ga_nil))))))))
 (gss_one (gs_ret ge_bl))
 gss_nil)
 (gss_cons (gs_if (gt_not (gt_val (ge_call G__law_right (hr.mono (by omega)) (by rfl) T.g__law_right T.F__law_right.kp T.b__law_right (ga_cons (ge_call G_signing_of (hr.mono (by omega)) (by rfl) T.g_signing_of T.F_signing_of.kp T.b_signing_of (ga_cons (gv 12) (ga_cons (gv 16) ga_nil))) (ga_cons (ge_call G_is_signed (hr.mono (by omega)) (by rfl) T.g_is_signed T.F_is_signed.kp T.b_is_signed (ga_cons (gv 12) (ga_cons (gv 16) ga_nil))) (ga_cons (gv 16) (ga_cons (ge_frz (gv 9)) (ga_cons (gv 10) ga_nil))))))))
 (gss_one (gs_ret ge_bl))
 gss_nil)
 (gss_cons (gs_if (gt_not (gt_val (ge_call G__law_right (hr.mono (by omega)) (by rfl) T.g__law_right T.F__law_right.kp T.b__law_right (ga_cons (ge_callP G_signing_of (hr.mono (by omega)) (by rfl) T.g_signing_of T.F_signing_of.kp T.kp_signing_of_1_0 (gk_cons (gv 16) (gk_cons (gv 11) gk_nil))) (ga_cons (ge_callP G_is_signed (hr.mono (by omega)) (by rfl) T.g_is_signed T.F_is_signed.kp T.kp_is_signed_1_0 (gk_cons (gv 16) (gk_cons (gv 11) gk_nil))) (ga_cons (gv 16) (ga_cons (gv 2) (ga_cons (gv 5) ga_nil))))))))
 (gss_one (gs_ret ge_bl))
 gss_nil)
 (gss_one (gs_if (gt_cmpR (op_neS hr.units) lr_ne (ge_call G_signing_of (hr.mono (by omega)) (by rfl) T.g_signing_of T.F_signing_of.kp T.b_signing_of (ga_cons (gv 11) (ga_cons (gv 16) ga_nil))) (gv 17) (nomark _))
 (gss_one (gs_ret ge_bl))
 gss_nil)))))))))
 (gss_one (gs_ret ge_bl)))))))))))))))))) (fun ds m Q h => ?_)
  obtain ⟨ns, rfl, hl, h⟩ := h
  rw [show startD N_law [.rol (ns.map .int)] = [some (.rol (ns.map .int)), none, none, none, none, none, none, none, none, none, none, none, none, none, none, none, none, none] from rfl]
  -- the tape, the signs, the rows, the names, the pairs
  refine seq_cut (fun s' m' => ∃ a : Addr, s' = [some (.rol (ns.map .int)), some (.ref a), none, none, none, none, none, none, none, none, none, none, none, none, none, none, none, none] ∧ Tp m' a) (fun R hR => ?_) ?_
  · walk_at "pd"
    exact ⟨ns, rfl, hl, fun a m' _ _ hT => hR _ _ ⟨_, rfl, hT⟩⟩
  rintro s' m1 ⟨a, rfl, hT⟩
  refine seq_cut (fun s' m' => ∃ S : List Nat, s' = [some (.rol (ns.map .int)), some (.ref a), some (.str (tx S)), none, none, none, none, none, none, none, none, none, none, none, none, none, none, none] ∧ SgOk S ∧ Tp m' a) (fun R hR => ?_) ?_
  · walk_at "pd"
    refine ⟨a, 8, rfl, by omega, by omega, hT, fun r m2 r0 r1 O2 S2 => ?_⟩
    obtain ⟨v, hv, hm⟩ := atI_ex (xs := [D.str "ab", .str "ba", .str "a", .str "abc", .str "ca", .str "dbca", .str "ecfbda", .str "fadceb"]) r0 (by exact r1)
    walk_at "pd"
    refine ⟨v, hv, ?_⟩
    have : ∃ S, v = .str (tx S) ∧ SgOk S := by
      simp only [List.mem_cons, List.not_mem_nil, or_false] at hm
      rcases hm with e | e | e | e | e | e | e | e <;> (subst e; exact ⟨_, congrArg D.str (tx_is _), by unfold SgOk; decide⟩)
    obtain ⟨S, rfl, hS⟩ := this
    exact hR _ _ ⟨S, rfl, hS, S2⟩
  rintro s' m2 ⟨S, rfl, hS, hT2⟩
  have hS6 := hS.2.1
  refine seq_cut (fun s' m' => ∃ z : Int, 1 ≤ z ∧ z ≤ 2 ∧ s' = [some (.rol (ns.map .int)), some (.ref a), some (.str (tx S)), some (.int z), none, none, none, none, none, none, none, none, none, none, none, none, none, none] ∧ Tp m' a) (fun R hR => ?_) ?_
  · walk_at "pd"
    refine ⟨a, 3, rfl, by omega, by omega, hT2, fun r m3 r0 r1 O3 S3 => ?_⟩
    walk_at "pd"
    exact ⟨cdw (by decide) (by decide), hR _ _ ⟨_, by omega, by omega, rfl, S3⟩⟩
  rintro s' m3 ⟨z, z1, z2, rfl, hT3⟩
  refine seq_cut (fun s' m' => ∃ rows : Nat, 1 ≤ rows ∧ rows ≤ 2 ∧ s' = [some (.rol (ns.map .int)), some (.ref a), some (.str (tx S)), some (.int (rows : Int)), none, none, none, none, none, none, none, none, none, none, none, none, none, none] ∧ Tp m' a) (fun R hR => ?_) ?_
  · walk_at "pd"
    refine ⟨Nat.le_trans hS6 (by decide), ?_⟩
    split
    · exact hR _ _ ⟨1, by omega, by omega, rfl, hT3⟩
    · exact hR _ _ ⟨z.toNat, by omega, by omega, by rw [show ((z.toNat : Nat) : Int) = z by omega], hT3⟩
  rintro s' m4 ⟨rows, hr1, hr2, rfl, hT4⟩
  refine seq_cut (fun s' m' => ∃ names : List Str, names ≠ [] ∧ names.length ≤ 3 ∧ names.Nodup ∧ s' = [some (.rol (ns.map .int)), some (.ref a), some (.str (tx S)), some (.int (rows : Int)), some (.tup (names.map .str)), none, none, none, none, none, none, none, none, none, none, none, none, none] ∧ Tp m' a) (fun R hR => ?_) ?_
  · walk_at "pd"
    refine ⟨a, 2, rfl, by omega, by omega, hT4, fun r m5 r0 r1 O5 S5 => ?_⟩
    have hr : r = 0 ∨ r = 1 := by omega
    rcases hr with rfl | rfl
    · walk_at "pd"
      exact hR _ _ ⟨["whole", "s", "lot2"], by decide, by decide, by decide, rfl, S5⟩
    · walk_at "pd"
      exact hR _ _ ⟨["s", "lot2"], by decide, by decide, by decide, rfl, S5⟩
  rintro s' m5 ⟨names, hn1, hn3, hnd, rfl, hT5⟩
  refine seq_cut (fun s' m' => ∃ (n : Nat) (prs : List (Str × List (List Nat))), 0 < n ∧ n ≤ 3 ∧ PrOk S n prs ∧ s' = [some (.rol (ns.map .int)), some (.ref a), some (.str (tx S)), some (.int (rows : Int)), some (.tup (names.map .str)), some (.tup (prs.map Bk.pairD)), none, none, none, none, none, none, none, none, none, none, none, none] ∧ Tp m' a) (fun R hR => ?_) ?_
  · walk_at "pd"
    refine ⟨a, 3, rfl, by omega, by omega, hT5, fun r m6 r0 r1 O6 S6 => ?_⟩
    walk_at "pd"
    refine ⟨a, S, (1 + r).toNat, by rw [show (((1 + r).toNat : Nat) : Int) = 1 + r by omega], hS.1, hS.2.1, by omega, S6, fun ps m7 h7 O7 S7 => ?_⟩
    exact hR _ _ ⟨_, ps, by omega, by omega, h7, rfl, S7⟩
  rintro s' m6 ⟨n, prs, hn0, hnn, hpr, rfl, hT6⟩
  refine seq_cut (fun s' m' => ∃ b : Addr, s' = [some (.rol (ns.map .int)), some (.ref a), some (.str (tx S)), some (.int (rows : Int)), some (.tup (names.map .str)), some (.tup (prs.map Bk.pairD)), some (.ref b), none, none, none, none, none, none, none, none, none, none, none] ∧ b ≠ a ∧ m' b = some (.lst []) ∧ Tp m' a) (fun R hR => ?_) ?_
  · walk_at "pd"
    exact fun p hp => hR _ _ ⟨p, rfl, hT6.ne hp, mset_same, hT6.new hp⟩
  rintro s' m7 ⟨b, rfl, nb, hb, hT7⟩
  refine seq_cut (fun s' m' => ∃ q : Addr, s' = [some (.rol (ns.map .int)), some (.ref a), some (.str (tx S)), some (.int (rows : Int)), some (.tup (names.map .str)), some (.tup (prs.map Bk.pairD)), some (.ref b), some (.ref q), none, none, none, none, none, none, none, none, none, none] ∧ q ≠ a ∧ q ≠ b ∧ m' b = some (.lst []) ∧ m' q = some (.lst []) ∧ Tp m' a) (fun R hR => ?_) ?_
  · walk_at "pd"
    exact fun p hp => hR _ _ ⟨p, rfl, hT7.ne hp, fun z => (by rw [z, hb] at hp; cases hp), mset_new hp hb, mset_same, hT7.new hp⟩
  rintro s' m8 ⟨q, rfl, qa, qb, hb8, hq8, hT8⟩
  -- the lots
  refine seq_cut (fun s' m' => ∃ (lots : List (Str × List Way)) (L : List (List Knd × Str)) (c8 c14 c15 : Option D), s' = [some (.rol (ns.map .int)), some (.ref a), some (.str (tx S)), some (.int (rows : Int)), some (.tup (names.map .str)), some (.tup (prs.map Bk.pairD)), some (.ref b), some (.ref q), c8, none, none, none, none, none, c14, c15, none, none] ∧ lots.map (·.1) = names ∧ LotsOk S rows names prs L lots ∧ MkOk L ∧ m' q = some (.lst (lots.map lotD)) ∧ Tp m' a) (fun R hR => ?_) ?_
  · walk_at "pd"
    refine loop_pre (fun pre s' m' => ∃ (lots : List (Str × List Way)) (L : List (List Knd × Str)) (c8 c14 c15 : Option D), s' = [some (.rol (ns.map .int)), some (.ref a), some (.str (tx S)), some (.int (rows : Int)), some (.tup (names.map .str)), some (.tup (prs.map Bk.pairD)), some (.ref b), some (.ref q), c8, none, none, none, none, none, c14, c15, none, none] ∧ lots.map (·.1) = pre ∧ LotsOk S rows names prs L lots ∧ MkOk L ∧ L.length ≤ 2 * pre.length ∧ m' b = some (.lst (L.map mkD)) ∧ m' q = some (.lst (lots.map lotD)) ∧ Tp m' a) D.str (fun _ _ _ _ => trivial) ?_ ?_ ⟨[], [], _, _, _, rfl, rfl, fun _ h => (List.not_mem_nil h).elim, ⟨by decide, rfl⟩, Nat.zero_le _, hb8, hq8, hT8⟩
    · rintro pre nm post e s' m' R ⟨lots, L, c8, c14, c15, rfl, hln, hlo, hmk, hLl, hb9, hq9, hT9⟩ hR
      have hpre : pre.length ≤ 2 := by rw [e, List.length_append, List.length_cons] at hn3; omega
      walk_at "pd"
      intro f hf
      have fa := hT9.ne hf
      have fb : f ≠ b := fun z => by rw [z, hb9] at hf; cases hf
      have fq : f ≠ q := fun z => by rw [z, hq9] at hf; cases hf
      refine ⟨a, 2, rfl, by omega, by omega, hT9.new hf, fun r m10 r0 r1 O10 hT10 => ?_⟩
      walk_at "pd"
      refine ⟨by omega, by omega, ?_⟩
      refine loop_inv (fun rem s' m' => ∃ (ys : List Way) (L : List (List Knd × Str)) (c15 : Option D), ys.length + rem.length ≤ 2 ∧ s' = [some (.rol (ns.map .int)), some (.ref a), some (.str (tx S)), some (.int (rows : Int)), some (.tup (names.map .str)), some (.tup (prs.map Bk.pairD)), some (.ref b), some (.ref q), some (.str nm), none, none, none, none, none, some (.ref f), c15, none, none] ∧ LotsOk S rows names prs L lots ∧ (∀ y ∈ ys, YOk S rows names prs y ∧ (y.k, y.mr) ∈ L) ∧ MkOk L ∧ L.length ≤ 2 * pre.length + ys.length ∧ m' b = some (.lst (L.map mkD)) ∧ m' q = some (.lst (lots.map lotD)) ∧ m' f = some (.lst (ys.map Way.d)) ∧ Tp m' a) ?_ ?_ ⟨[], L, _, by rw [rangeD_len, List.length_nil]; omega, rfl, hlo, fun _ h => (List.not_mem_nil h).elim, hmk, by rw [List.length_nil]; omega, O10 _ _ nb (mset_new hf hb9), O10 _ _ qa (mset_new hf hq9), O10 _ _ fa mset_same, hT10⟩
      · rintro d rem s' m' R2 hR2 ⟨ys, L, c15, hlen, rfl, hlo, hys, hmk, hLl, hb11, hq11, hf11, hT11⟩
        rw [List.length_cons] at hlen
        refine ⟨trivial, ?_⟩
        walk_at "pd"
        refine ⟨⟨_, _, lstOf_ref hf11⟩, a, b, S, rows, names, n, prs, L, rfl, hS.1, hS.2.1, hr1, hr2, hn1, by omega, hpr, hn0, hnn, nb, hT11, hb11, hmk, by omega, fun y L' m12 k1 k2 k3 k4 k5 k6 O12 S12 => ?_⟩
        refine ⟨f, _, lstOf_ref (O12 _ _ fa fb hf11), by rw [List.length_map]; exact Nat.lt_of_le_of_lt (by omega : _ ≤ 2) (by decide), hR2 _ _ ⟨ys ++ [y], L', _, ?_, rfl, fun l hl => ⟨(hlo l hl).1, fun y hy => ⟨((hlo l hl).2 y hy).1, k4 _ ((hlo l hl).2 y hy).2⟩⟩, fun y' hy => ?_, k2, ?_, ?_, ?_, ?_, S12.setp fa⟩⟩
        · rw [List.length_append, List.length_singleton]; omega
        · rcases List.mem_append.mp hy with h | h
          · exact ⟨(hys y' h).1, k4 _ (hys y' h).2⟩
          · rw [List.mem_singleton.mp h]; exact ⟨k1, k5⟩
        · rw [List.length_append, List.length_singleton]; omega
        · rw [mset_ne (Ne.symm fb)]; exact k6
        · rw [mset_ne (Ne.symm fq)]; exact O12 _ _ qa qb hq11
        · rw [mset_same, List.map_append]; rfl
      · rintro s' m' ⟨ys, L, c15, hlen, rfl, hlo, hys, hmk, hLl, hb11, hq11, hf11, hT11⟩
        rw [List.length_nil] at hlen
        refine ⟨trivial, ?_⟩
        walk_at "pd"
        have hlots : lots.length = pre.length := by rw [← hln, List.length_map]
        refine ⟨⟨_, _, lstOf_ref hq11⟩, _, seqOf_ref hf11, q, _, lstOf_ref hq11, by rw [List.length_map]; exact Nat.lt_of_le_of_lt (by omega : _ ≤ 2) (by decide), hR _ _ ⟨lots ++ [(nm, ys)], L, _, _, _, rfl, ?_, ?_, hmk, ?_, ?_, ?_, hT11.setp qa⟩⟩
        · rw [List.map_append, hln]; rfl
        · intro l hl
          rcases List.mem_append.mp hl with h | h
          · exact hlo l h
          · rw [List.mem_singleton.mp h]; exact ⟨by show ys.length ≤ 2; omega, hys⟩
        · rw [List.length_append, List.length_singleton]; omega
        · rw [mset_ne (Ne.symm qb)]; exact hb11
        · rw [mset_same, List.map_append]; rfl
    · rintro s' m' ⟨lots, L, c8, c14, c15, rfl, hln, hlo, hmk, hLl, hb9, hq9, hT9⟩
      exact hR _ _ ⟨lots, L, _, _, _, rfl, hln, hlo, hmk, hq9, hT9⟩
  rintro s' m9 ⟨lots, L, c8, c14, c15, rfl, hln, hlo, hmk, hq9, hT9⟩
  -- the other signs, and their pairs
  refine seq_cut (fun s' m' => s' = [some (.rol (ns.map .int)), some (.ref a), some (.str (tx S)), some (.int (rows : Int)), some (.tup (names.map .str)), some (.tup (prs.map Bk.pairD)), some (.ref b), some (.ref q), c8, some (.str (tx S.reverse)), none, none, none, none, c14, c15, none, none] ∧ m' = m9) (fun R hR => ?_) ?_
  · walk_at "pd"
    refine ⟨_, rfl, Nat.le_trans (by rw [tx_len]; exact hS6) (by decide), ?_⟩
    rw [revT_tx]
    exact hR _ _ ⟨rfl, rfl⟩
  rintro s' m' ⟨rfl, rfl⟩
  refine seq_cut (fun s' m' => ∃ sg : List Nat, s' = [some (.rol (ns.map .int)), some (.ref a), some (.str (tx S)), some (.int (rows : Int)), some (.tup (names.map .str)), some (.tup (prs.map Bk.pairD)), some (.ref b), some (.ref q), c8, some (.str (tx sg)), none, none, none, none, c14, c15, none, none] ∧ SgOk sg ∧ (∀ c ∈ S, c ∈ sg) ∧ m' q = some (.lst (lots.map lotD)) ∧ Tp m' a) (fun R hR => ?_) ?_
  · have h0 : ∃ sg : List Nat, S.reverse = sg ∧ SgOk sg ∧ ∀ c ∈ S, c ∈ sg := ⟨S.reverse, rfl, ⟨by simpa using hS.1, by rw [List.length_reverse]; exact hS.2.1, fun c hc => hS.2.2 c (List.mem_reverse.mp hc)⟩, fun c hc => List.mem_reverse.mpr hc⟩
    obtain ⟨sg, e1, h1, h2⟩ := h0
    rw [e1]
    walk_at "pd"
    refine ⟨Nat.le_trans hS6 (by decide), ?_⟩
    split
    · refine ⟨a, 3, rfl, by omega, by omega, hT9, fun r m10 r0 r1 O10 S10 => ?_⟩
      walk_at "pd"
      split
      · rw [show Str.ofString "z" = tx [122] from rfl, tx_app]
        refine ⟨Nat.le_trans (by rw [tx_len, List.length_singleton]; omega : _ ≤ 7) (by decide), hR _ _ ⟨[122] ++ S, rfl, ⟨by simp, by rw [List.length_append, List.length_singleton]; omega, fun c hc => ?_⟩, fun c hc => List.mem_append_right _ hc, O10 _ _ qa hq9, S10⟩⟩
        rcases List.mem_append.mp hc with h | h
        · rw [List.mem_singleton.mp h]; decide
        · exact hS.2.2 c h
      · exact hR _ _ ⟨sg, rfl, h1, h2, O10 _ _ qa hq9, S10⟩
    · exact hR _ _ ⟨sg, rfl, h1, h2, hq9, hT9⟩
  rintro s' m10 ⟨sg, rfl, hsg, hsub, hq10, hT10⟩
  refine seq_cut (fun s' m' => ∃ spare : List (Str × List (List Nat)), s' = [some (.rol (ns.map .int)), some (.ref a), some (.str (tx S)), some (.int (rows : Int)), some (.tup (names.map .str)), some (.tup (prs.map Bk.pairD)), some (.ref b), some (.ref q), c8, some (.str (tx sg)), some (.tup (spare.map Bk.pairD)), none, none, none, c14, c15, none, none] ∧ PrOk sg n spare ∧ m' q = some (.lst (lots.map lotD)) ∧ Tp m' a) (fun R hR => ?_) ?_
  · walk_at "pd"
    rw [List.length_map, hpr.1]
    exact ⟨a, sg, n, rfl, hsg.1, hsg.2.1, hnn, hT10, fun ps m11 h11 O11 S11 => hR _ _ ⟨ps, rfl, h11, O11 _ _ qa hq10, S11⟩⟩
  rintro s' m11 ⟨spare, rfl, hsp, hq11, hT11⟩
  -- the two books
  obtain ⟨st, names', en⟩ := List.exists_cons_of_ne_nil hn1
  have hst : st ∈ names := by rw [en]; exact List.mem_cons_self ..
  have g1 : Good0 (progOf S rows prs st lots) := good_mk (fun _ h => h) (by omega) hr2 hnn hpr hpr hn3 hnd hst hmk hlo hln
  have g2 : Good0 (progOf sg rows spare st lots) := good_mk hsub (by have := hsg.2.1; omega) hr2 hnn hsp hpr hn3 hnd hst hmk hlo hln
  refine seq_cut (fun s' m' => s' = [some (.rol (ns.map .int)), some (.ref a), some (.str (tx S)), some (.int (rows : Int)), some (.tup (names.map .str)), some (.tup (prs.map Bk.pairD)), some (.ref b), some (.ref q), c8, some (.str (tx sg)), some (.tup (spare.map Bk.pairD)), some (book0 T.c_Book (progOf S rows prs st lots)), none, none, c14, c15, none, none] ∧ m' q = some (.lst (lots.map lotD))) (fun R hR => ?_) ?_
  · walk_at "pd"
    refine ⟨_, by rw [en]; exact atI_nat (j := 0) rfl, ?_⟩
    refine ⟨_, seqOf_ref hq11, fun x hx => ?_⟩
    have nq : q ≠ x := fun z => by rw [← z, hq11] at hx; cases hx
    refine ⟨progOf S rows prs st lots, x, rfl, mset_same, g1, rfl, x, _, rfl, mset_same, hR _ _ ⟨rfl, ?_⟩⟩
    rw [mdel_ne nq, mset_ne nq, mset_ne nq]; exact hq11
  rintro s' m12 ⟨rfl, hq12⟩
  refine seq_cut (fun s' m' => s' = [some (.rol (ns.map .int)), some (.ref a), some (.str (tx S)), some (.int (rows : Int)), some (.tup (names.map .str)), some (.tup (prs.map Bk.pairD)), some (.ref b), some (.ref q), c8, some (.str (tx sg)), some (.tup (spare.map Bk.pairD)), some (book0 T.c_Book (progOf S rows prs st lots)), some (book0 T.c_Book (progOf sg rows spare st lots)), none, c14, c15, none, none] ∧ m' q = some (.lst (lots.map lotD))) (fun R hR => ?_) ?_
  · walk_at "pd"
    refine ⟨_, by rw [en]; exact atI_nat (j := 0) rfl, ?_⟩
    refine ⟨_, seqOf_ref hq12, fun x hx => ?_⟩
    have nq : q ≠ x := fun z => by rw [← z, hq12] at hx; cases hx
    refine ⟨progOf sg rows spare st lots, x, rfl, mset_same, g2, rfl, x, _, rfl, mset_same, hR _ _ ⟨rfl, ?_⟩⟩
    rw [mdel_ne nq, mset_ne nq, mset_ne nq]; exact hq12
  rintro s' m13 ⟨rfl, hq13⟩
  -- every way, with both
  unfold book0
  walk_at "pd"
  refine ⟨_, seqOf_ref hq13, ?_⟩
  refine loop_pre (fun pre s' m' => (∃ c13 c16 c17, s' = [some (.rol (ns.map .int)), some (.ref a), some (.str (tx S)), some (.int (rows : Int)), some (.tup (names.map .str)), some (.tup (prs.map Bk.pairD)), some (.ref b), some (.ref q), c8, some (.str (tx sg)), some (.tup (spare.map Bk.pairD)), some (bookD T.c_Book (progOf S rows prs st lots) (dicOf []) (dicOf []) (dicTOf []) (dicOf [])), some (bookD T.c_Book (progOf sg rows spare st lots) (dicOf []) (dicOf []) (dicTOf []) (dicOf [])), c13, c14, c15, c16, c17]) ∧ m' = m13) lotD (fun pre s' m' h => by rw [h.2]; exact seqOf_ref hq13) ?_ ?_ ⟨⟨_, _, _, rfl⟩, rfl⟩
  · rintro pre l post e s' m' R ⟨⟨c13, c16, c17, rfl⟩, rfl⟩ hR
    have hll : l ∈ lots := by rw [e]; simp
    unfold lotD waysD
    walk_at "pd"
    refine loop_pre (fun pre s' m'' => (∃ c16 c17, s' = [some (.rol (ns.map .int)), some (.ref a), some (.str (tx S)), some (.int (rows : Int)), some (.tup (names.map .str)), some (.tup (prs.map Bk.pairD)), some (.ref b), some (.ref q), c8, some (.str (tx sg)), some (.tup (spare.map Bk.pairD)), some (bookD T.c_Book (progOf S rows prs st lots) (dicOf []) (dicOf []) (dicTOf []) (dicOf [])), some (bookD T.c_Book (progOf sg rows spare st lots) (dicOf []) (dicOf []) (dicTOf []) (dicOf [])), some (.tup [.str l.1, .tup (l.2.map Way.d)]), c14, c15, c16, c17]) ∧ m'' = m') Way.d (fun _ _ _ _ => trivial) ?_ ?_ ⟨⟨_, _, rfl⟩, rfl⟩
    · rintro pre y post e s'' m'' R2 ⟨⟨c16, c17, rfl⟩, rfl⟩ hR2
      have hy : y ∈ l.2 := by rw [e]; simp
      obtain ⟨yo, _⟩ := (hlo l hll).2 y hy
      have o1 : WayOk (progOf S rows prs st lots) y := wayOk_of (by omega) hr2 hpr hpr yo
      have o2 : WayOk (progOf sg rows spare st lots) y := wayOk_of (by have := hsg.2.1; omega) hr2 hsp hpr yo
      have n1 : (progOf S rows prs st lots).sg ≠ [] := hS.1
      have n2 : (progOf sg rows spare st lots).sg ≠ [] := hsg.1
      have k1 : sok (signsD (progOf S rows prs st lots) y) = true := signs_sok n1 hS.2.2 fun ms hm l hl c hc => hS.2.2 c ((((yo.pc _ hm).2 _ hl) l rfl).1 c hc)
      walk_at "pd"
      refine ⟨_, _, _, _, _, y, rfl, o1, n1, ?_⟩
      refine ⟨_, _, _, _, _, y, rfl, o1, n1, ?_⟩
      refine ⟨y, _, rfl, o1, n1, ?_⟩
      walk_at "pd"
      refine ⟨_, _, _, _, _, y, rfl, o2, n2, ?_⟩
      refine ⟨_, _, _, _, _, y, rfl, o2, n2, ?_⟩
      refine ⟨y, _, rfl, o2, n2, ?_⟩
      walk_at "pd"
      refine ⟨_, _, _, _, _, y, rfl, o1, n1, ?_⟩
      refine ⟨_, _, _, _, _, y, rfl, o1, n1, ?_⟩
      refine ⟨y, _, rfl, o1, n1, ?_⟩
      walk_at "pd"
      refine ⟨_, _, _, _, _, y, rfl, o1, n1, ?_⟩
      refine ⟨_, eqK_yes _ (signs_pln _ _) k1 (signs_dep _ _), ?_⟩
      rw [if_neg (by decide)]
      exact hR2 _ _ ⟨⟨_, _, rfl⟩, rfl⟩
    · rintro s'' m'' ⟨⟨c16, c17, rfl⟩, rfl⟩
      exact hR _ _ ⟨⟨_, _, _, rfl⟩, rfl⟩
  · rintro s' m' ⟨⟨c13, c16, c17, rfl⟩, rfl⟩
    walk_at "pd"
    exact sub_refl_fin (h _)
end
end K29

set_option Elab.async false
set_option linter.all false
set_option maxRecDepth 100000
set_option maxHeartbeats 4000000
namespace K29
open PySem PySem.Spec PyProof.Rows L2 PD Bk
section
variable {P : Program} {w : World} {K : PySem.W.Frag} {mg : Str → Option Value} {base : Heap}
theorem law_all (T : Txt K mg) : FnOk P w K mg base CX0 10 T.f_law T.fd_law ["_law_script"] (spL K 1 sp_law) := by
  have G_letters_of : FnOk P w K mg base CX0 (1) T.f_letters_of T.fd_letters_of ["book", "mark"] (spL K 2 (sp_letters_of T.c_Book)) := ok_letters_of T
  have G__letters_at : FnOk P w K mg base CX0 (2) T.f__letters_at T.fd__letters_at ["book", "way", "ref"] (spL K 3 (sp__letters_at T.c_Book)) := ok__letters_at T G_letters_of
  have G__refs_to : FnOk P w K mg base CX0 (1) T.f__refs_to T.fd__refs_to ["kinds", "words"] (spL K 2 sp__refs_to) := ok__refs_to T
  have G_sign_places : FnOk P w K mg base CX0 (2) T.f_sign_places T.fd_sign_places ["kinds"] (spL K 1 sp_sign_places) := ok_sign_places T G__refs_to
  have G__kind_of : FnOk P w K mg base CX0 (1) T.f__kind_of T.fd__kind_of ["piece"] (spL K 1 sp__kind_of) := ok__kind_of T
  have G_kinds_of : FnOk P w K mg base CX0 (2) T.f_kinds_of T.fd_kinds_of ["way"] (spL K 1 sp_kinds_of) := ok_kinds_of T G__kind_of
  have G_Book_in_pairs : FnOk P w K mg base CX0 (1) T.f_Book_in_pairs T.fd_Book_in_pairs ["self", "name", "word"] (spL K 3 (sp_Book_in_pairs T.c_Book)) := ok_Book_in_pairs T
  have G__may_hold : FnOk P w K mg base CX0 (2) T.f__may_hold T.fd__may_hold ["book", "way", "refs", "signs"] (spL K 4 (sp__may_hold T.c_Book)) := ok__may_hold T G_Book_in_pairs
  have G__signs_for : FnOk P w K mg base CX0 (3) T.f__signs_for T.fd__signs_for ["book", "way", "refs"] (spL K 3 (sp__signs_for T.c_Book)) := ok__signs_for T G__may_hold G__letters_at
  have G__tested_refs : FnOk P w K mg base CX0 (1) T.f__tested_refs T.fd__tested_refs ["way"] (spL K 1 sp__tested_refs) := ok__tested_refs T
  have G_signing_of : FnOk P w K mg base CX0 (4) T.f_signing_of T.fd_signing_of ["book", "way"] (spL K 2 (sp_signing_of T.c_Book)) := ok_signing_of T G__letters_at G_sign_places G_kinds_of G__signs_for G__tested_refs
  have G__law_line : FnOk P w K mg base CX0 (1) T.f__law_line T.fd__law_line ["_law_pairs_here", "_law_name"] (spL K 2 sp__law_line) := ok__law_line T
  have G__law_can : FnOk P w K mg base CX0 7 T.f__law_can T.fd__law_can ["_law_refs", "_law_allowed_here", "_law_tests", "_law_pairs_here", "_law_chosen"] (spL K 5 (sp__law_can 6)) := can_all T G__law_line 5
  have G__law_allowed : FnOk P w K mg base CX0 (1) T.f__law_allowed T.fd__law_allowed ["_law_form", "_law_ref", "_law_signs"] (spL K 3 sp__law_allowed) := ok__law_allowed T
  have G__law_due : FnOk P w K mg base CX0 8 T.f__law_due T.fd__law_due ["_law_form", "_law_signs", "_law_pairs_here"] (spL K 3 sp__law_due) := ok__law_due T G__law_can G__law_allowed
  have G__law_places : FnOk P w K mg base CX0 (1) T.f__law_places T.fd__law_places ["_law_pieces"] (spL K 1 sp__law_places) := ok__law_places T
  have G__law_suits : FnOk P w K mg base CX0 (2) T.f__law_suits T.fd__law_suits ["_law_told", "_law_form", "_law_signs", "_law_pairs_here"] (spL K 4 sp__law_suits) := ok__law_suits T G__law_line G__law_allowed G__law_places
  have G__law_right : FnOk P w K mg base CX0 (9) T.f__law_right T.fd__law_right ["_law_told", "_law_said", "_law_form", "_law_signs", "_law_pairs_here"] (spL K 5 sp__law_right) := ok__law_right T G__law_due G__law_suits
  have G_is_signed : FnOk P w K mg base CX0 (5) T.f_is_signed T.fd_is_signed ["book", "way"] (spL K 2 (sp_is_signed T.c_Book)) := ok_is_signed T G_signing_of
  have G__formulas_of : FnOk P w K mg base CX0 (1) T.f__formulas_of T.fd__formulas_of ["program"] (spL K 1 sp__formulas_of) := ok__formulas_of T
  have G__told_by : FnOk P w K mg base CX0 (1) T.f__told_by T.fd__told_by ["numbers"] (spL K 1 sp_nev) := ok__told_by T
  have G_kinds_by_maker : FnOk P w K mg base CX0 (3) T.f_kinds_by_maker T.fd_kinds_by_maker ["ways"] (spL K 1 sp_kinds_by_maker) := ok_kinds_by_maker T G_kinds_of
  have G_all_ways : FnOk P w K mg base CX0 (1) T.f_all_ways T.fd_all_ways ["program"] (spL K 1 sp_all_ways) := ok_all_ways T
  have G_all_asks : FnOk P w K mg base CX0 (1) T.f_all_asks T.fd_all_asks ["ask"] (spL K 1 sp_nev) := ok_all_asks T
  have G__is_let : FnOk P w K mg base CX0 (1) T.f__is_let T.fd__is_let ["ask", "sorts"] (spL K 2 sp_nev) := ok__is_let T
  have G_has_first : FnOk P w K mg base CX0 (1) T.f_has_first T.fd_has_first ["ask"] (spL K 1 sp_nev) := ok_has_first T
  have G_judges_of : FnOk P w K mg base CX0 (1) T.f_judges_of T.fd_judges_of ["ask"] (spL K 1 sp_nev) := ok_judges_of T
  have G__first_told : FnOk P w K mg base CX0 (1) T.f__first_told T.fd__first_told ["pairs"] (spL K 1 sp__first_told) := ok__first_told T
  have G_look_asks : FnOk P w K mg base (L2.CX P w) (3) T.f_look_asks T.fd_look_asks ["program"] (spX K 1 sp_look_asks) := ok_look_asks T G_all_asks G__is_let G_has_first G_judges_of G__first_told
  have G__look_makers_of : FnOk P w K mg base (L2.CX P w) (2) T.f__look_makers_of T.fd__look_makers_of ["formulas", "sort", "first_kinds", "widths"] (spX K 4 sp_nevX) := ok__look_makers_of T
  have G_look_formulas : FnOk P w K mg base (L2.CX P w) (4) T.f_look_formulas T.fd_look_formulas ["program"] (spX K 1 sp_look_formulas) := ok_look_formulas T G__look_makers_of G__first_told G_kinds_by_maker G_all_ways
  have G_look_tests : FnOk P w K mg base (L2.CX P w) (4) T.f_look_tests T.fd_look_tests ["program"] (spX K 1 sp_look_tests) := ok_look_tests T G_all_ways G_sign_places G_kinds_of
  have G_look_makers : FnOk P w K mg base (L2.CX P w) (4) T.f_look_makers T.fd_look_makers ["program"] (spX K 1 sp_look_makers) := ok_look_makers T G_kinds_of G_kinds_by_maker G_all_ways
  have G__look_name : FnOk P w K mg base (L2.CX P w) (3) T.f__look_name T.fd__look_name ["name", "names"] (spX K 2 sp__look_name) := ok__look_name T
  have G_look_mentions : FnOk P w K mg base (L2.CX P w) (4) T.f_look_mentions T.fd_look_mentions ["program"] (spX K 1 sp_look_mentions) := ok_look_mentions T G_all_ways G__look_name
  have G__words_of : FnOk P w K mg base CX0 (1) T.f__words_of T.fd__words_of ["program"] (spL K 1 sp__words_of) := ok__words_of T
  have G__letters_of : FnOk P w K mg base CX0 (2) T.f__letters_of T.fd__letters_of ["program"] (spL K 1 sp__letters_of) := ok__letters_of T G_all_ways
  have G_has_only : FnOk P w K mg base CX0 (1) T.f_has_only T.fd_has_only ["word", "characters"] (spL K 2 sp_has_only) := ok_has_only T
  have G_look_signs : FnOk P w K mg base (L2.CX P w) (3) T.f_look_signs T.fd_look_signs ["program"] (spX K 1 sp_look_signs) := ok_look_signs T G__words_of G__letters_of G_has_only
  have G__look_list : FnOk P w K mg base (L2.CX P w) (3) T.f__look_list T.fd__look_list ["names"] (spX K 1 sp__look_list) := ok__look_list T
  have G_look_names : FnOk P w K mg base (L2.CX P w) (4) T.f_look_names T.fd_look_names ["program"] (spX K 1 sp_look_names) := ok_look_names T G__look_list
  have G__look_all : FnOk P w K mg base (L2.CX P w) (5) T.f__look_all T.fd__look_all ["program"] (spX K 1 sp__look_all) := ok__look_all T G_look_asks G_look_formulas G_look_tests G_look_makers G_look_mentions G_look_signs G_look_names
  have G_Book___init__ : FnOk P w K mg base (L2.CX P w) (6) T.f_Book___init__ T.fd_Book___init__ ["self", "program"] (spX K 2 (sp_Book___init__ T)) := ok_Book___init__ T G__formulas_of G__told_by G_kinds_by_maker G_all_ways G__look_all
  have G__law_pick : FnOk P w K mg base CX0 (1) T.f__law_pick T.fd__law_pick ["_law_tape_here", "_law_limit"] (spL K 2 sp__law_pick) := ok__law_pick T
  have G__law_words : FnOk P w K mg base CX0 (2) T.f__law_words T.fd__law_words ["_law_tape_here", "_law_signs"] (spL K 2 sp__law_words) := ok__law_words T G__law_pick
  have G__law_pairs : FnOk P w K mg base CX0 (3) T.f__law_pairs T.fd__law_pairs ["_law_tape_here", "_law_signs", "_law_size"] (spL K 3 sp__law_pairs) := ok__law_pairs T G__law_words
  have G__law_kinds : FnOk P w K mg base CX0 (1) T.f__law_kinds T.fd__law_kinds ["_law_pieces"] (spL K 1 sp__law_kinds) := ok__law_kinds T
  have G__law_maker : FnOk P w K mg base CX0 (2) T.f__law_maker T.fd__law_maker ["_law_tape_here", "_law_pieces", "_law_makers"] (spL K 3 sp__law_maker) := ok__law_maker T G__law_pick G__law_kinds
  have G__law_letters : FnOk P w K mg base CX0 (2) T.f__law_letters T.fd__law_letters ["_law_tape_here", "_law_signs"] (spL K 2 sp__law_letters) := ok__law_letters T G__law_pick
  have G__law_mark : FnOk P w K mg base CX0 (3) T.f__law_mark T.fd__law_mark ["_law_tape_here", "_law_signs"] (spL K 2 sp__law_mark) := ok__law_mark T G__law_pick G__law_letters
  have G__law_piece : FnOk P w K mg base CX0 (4) T.f__law_piece T.fd__law_piece ["_law_tape_here", "_law_signs", "_law_rows", "_law_names"] (spL K 4 sp__law_piece) := ok__law_piece T G__law_mark G__law_pick
  have G__law_way : FnOk P w K mg base CX0 (5) T.f__law_way T.fd__law_way ["_law_tape_here", "_law_signs", "_law_rows", "_law_names", "_law_pairs_here", "_law_makers"] (spL K 6 sp__law_way) := ok__law_way T G__law_maker G__law_pick G__law_places G__law_piece
  have G__law_tape : FnOk P w K mg base CX0 (1) T.f__law_tape T.fd__law_tape ["_law_script"] (spL K 1 sp__law_tape) := ok__law_tape T
  have G_law : FnOk P w K mg base CX0 (10) T.f_law T.fd_law ["_law_script"] (spL K 1 sp_law) := ok_law T G_signing_of G__law_right G_is_signed G_Book___init__ G__law_pairs G__law_pick G__law_way G__law_tape
  exact G_law
end
theorem all_mk {l : PySem.W.OpenLaw} {w : World} {K : PySem.W.Frag} {h : Heap} {mg : Str → Option Value} {fa : Addr} (X : K.In h) (G : h.Ns mainGlobals mg) (hfa : mg "law" = some (.ref fa))
    {ce0 fIe0 Ne0 : Addr} {nme0 qe0 : Str} {bse0 bme0 sube0 : List Value} {sne0 : List Str} {abe0 : Bool} {cole0 : Option Bool} {dde0 odIe0 anIe0 : Option Addr} {m0e0 m1e0 m2e0 m3e0 m5e0 : Option Value} {slIe0 : Array (Option Value)} {ocIe0 kVIe0 dcIe0 pmIe0 cdIe0 ctIe0 : Value}
    (ae0 : PySem.W.nsIn K mainGlobals "TwiceNamed" = some (some (.ref ce0)))
    (xe0 : K.lookup ce0 = some (excClassObj nme0 qe0 ce0 Ne0 bse0 bme0 true sne0 sube0 abe0 cole0 dde0 m0e0 m1e0 m2e0 m3e0 m5e0 "ValueError.__new__"))
    (re0 : HandSPX.refsVE bme0 = true)
    (se0 : PySem.W.findIn K (.ref ce0) "__setattr__" = some (some (.builtin "object.__setattr__")))
    (ne0_name : PySem.W.findIn K (.ref ce0) "name" = some none)
    (ie0 : PySem.W.findIn K (.ref ce0) "__init__" = some (some (.ref fIe0)))
    (te0 : PySem.W.typeIn K (.ref fIe0) = some (.type "function"))
    (le0 : K.lookup fIe0 = some ⟨ocIe0, odIe0, .func (PySem.W.fnOf "__init__" "TwiceNamed.__init__" (defArgs si_TwiceNamed) (defBody si_TwiceNamed) (defScope si_TwiceNamed) .none kVIe0 dcIe0 pmIe0 anIe0 cdIe0 ctIe0), slIe0⟩)
    (de0 : PySem.W.codeIn K cdIe0 "TwiceNamed.__init__" = true)
    (ke0 : PySem.W.keepIn K (.ref fIe0) = true)
    (be0 : PySem.W.subIn K (.ref ce0) (.type "BaseException") = some true)
    (ye0 : PySem.W.typeIn K (.ref ce0) = some (.type "type"))
    (ze0 : PySem.W.keepIn K (.ref ce0) = true)
    {ce1 fIe1 Ne1 : Addr} {nme1 qe1 : Str} {bse1 bme1 sube1 : List Value} {sne1 : List Str} {abe1 : Bool} {cole1 : Option Bool} {dde1 odIe1 anIe1 : Option Addr} {m0e1 m1e1 m2e1 m3e1 m5e1 : Option Value} {slIe1 : Array (Option Value)} {ocIe1 kVIe1 dcIe1 pmIe1 cdIe1 ctIe1 : Value}
    (ae1 : PySem.W.nsIn K mainGlobals "BadSign" = some (some (.ref ce1)))
    (xe1 : K.lookup ce1 = some (excClassObj nme1 qe1 ce1 Ne1 bse1 bme1 true sne1 sube1 abe1 cole1 dde1 m0e1 m1e1 m2e1 m3e1 m5e1 "ValueError.__new__"))
    (re1 : HandSPX.refsVE bme1 = true)
    (se1 : PySem.W.findIn K (.ref ce1) "__setattr__" = some (some (.builtin "object.__setattr__")))
    (ne1_word : PySem.W.findIn K (.ref ce1) "word" = some none)
    (ie1 : PySem.W.findIn K (.ref ce1) "__init__" = some (some (.ref fIe1)))
    (te1 : PySem.W.typeIn K (.ref fIe1) = some (.type "function"))
    (le1 : K.lookup fIe1 = some ⟨ocIe1, odIe1, .func (PySem.W.fnOf "__init__" "BadSign.__init__" (defArgs si_BadSign) (defBody si_BadSign) (defScope si_BadSign) .none kVIe1 dcIe1 pmIe1 anIe1 cdIe1 ctIe1), slIe1⟩)
    (de1 : PySem.W.codeIn K cdIe1 "BadSign.__init__" = true)
    (ke1 : PySem.W.keepIn K (.ref fIe1) = true)
    (be1 : PySem.W.subIn K (.ref ce1) (.type "BaseException") = some true)
    (ye1 : PySem.W.typeIn K (.ref ce1) = some (.type "type"))
    (ze1 : PySem.W.keepIn K (.ref ce1) = true)
    {ce2 fIe2 Ne2 : Addr} {nme2 qe2 : Str} {bse2 bme2 sube2 : List Value} {sne2 : List Str} {abe2 : Bool} {cole2 : Option Bool} {dde2 odIe2 anIe2 : Option Addr} {m0e2 m1e2 m2e2 m3e2 m5e2 : Option Value} {slIe2 : Array (Option Value)} {ocIe2 kVIe2 dcIe2 pmIe2 cdIe2 ctIe2 : Value}
    (ae2 : PySem.W.nsIn K mainGlobals "NoName" = some (some (.ref ce2)))
    (xe2 : K.lookup ce2 = some (excClassObj nme2 qe2 ce2 Ne2 bse2 bme2 true sne2 sube2 abe2 cole2 dde2 m0e2 m1e2 m2e2 m3e2 m5e2 "ValueError.__new__"))
    (re2 : HandSPX.refsVE bme2 = true)
    (se2 : PySem.W.findIn K (.ref ce2) "__setattr__" = some (some (.builtin "object.__setattr__")))
    (ne2_name : PySem.W.findIn K (.ref ce2) "name" = some none)
    (ie2 : PySem.W.findIn K (.ref ce2) "__init__" = some (some (.ref fIe2)))
    (te2 : PySem.W.typeIn K (.ref fIe2) = some (.type "function"))
    (le2 : K.lookup fIe2 = some ⟨ocIe2, odIe2, .func (PySem.W.fnOf "__init__" "NoName.__init__" (defArgs si_NoName) (defBody si_NoName) (defScope si_NoName) .none kVIe2 dcIe2 pmIe2 anIe2 cdIe2 ctIe2), slIe2⟩)
    (de2 : PySem.W.codeIn K cdIe2 "NoName.__init__" = true)
    (ke2 : PySem.W.keepIn K (.ref fIe2) = true)
    (be2 : PySem.W.subIn K (.ref ce2) (.type "BaseException") = some true)
    (ye2 : PySem.W.typeIn K (.ref ce2) = some (.type "type"))
    (ze2 : PySem.W.keepIn K (.ref ce2) = true)
    {ce3 fIe3 Ne3 : Addr} {nme3 qe3 : Str} {bse3 bme3 sube3 : List Value} {sne3 : List Str} {abe3 : Bool} {cole3 : Option Bool} {dde3 odIe3 anIe3 : Option Addr} {m0e3 m1e3 m2e3 m3e3 m5e3 : Option Value} {slIe3 : Array (Option Value)} {ocIe3 kVIe3 dcIe3 pmIe3 cdIe3 ctIe3 : Value}
    (ae3 : PySem.W.nsIn K mainGlobals "BadMaker" = some (some (.ref ce3)))
    (xe3 : K.lookup ce3 = some (excClassObj nme3 qe3 ce3 Ne3 bse3 bme3 true sne3 sube3 abe3 cole3 dde3 m0e3 m1e3 m2e3 m3e3 m5e3 "ValueError.__new__"))
    (re3 : HandSPX.refsVE bme3 = true)
    (se3 : PySem.W.findIn K (.ref ce3) "__setattr__" = some (some (.builtin "object.__setattr__")))
    (ne3_maker : PySem.W.findIn K (.ref ce3) "maker" = some none)
    (ie3 : PySem.W.findIn K (.ref ce3) "__init__" = some (some (.ref fIe3)))
    (te3 : PySem.W.typeIn K (.ref fIe3) = some (.type "function"))
    (le3 : K.lookup fIe3 = some ⟨ocIe3, odIe3, .func (PySem.W.fnOf "__init__" "BadMaker.__init__" (defArgs si_BadMaker) (defBody si_BadMaker) (defScope si_BadMaker) .none kVIe3 dcIe3 pmIe3 anIe3 cdIe3 ctIe3), slIe3⟩)
    (de3 : PySem.W.codeIn K cdIe3 "BadMaker.__init__" = true)
    (ke3 : PySem.W.keepIn K (.ref fIe3) = true)
    (be3 : PySem.W.subIn K (.ref ce3) (.type "BaseException") = some true)
    (ye3 : PySem.W.typeIn K (.ref ce3) = some (.type "type"))
    (ze3 : PySem.W.keepIn K (.ref ce3) = true)
    {ce4 fIe4 Ne4 : Addr} {nme4 qe4 : Str} {bse4 bme4 sube4 : List Value} {sne4 : List Str} {abe4 : Bool} {cole4 : Option Bool} {dde4 odIe4 anIe4 : Option Addr} {m0e4 m1e4 m2e4 m3e4 m5e4 : Option Value} {slIe4 : Array (Option Value)} {ocIe4 kVIe4 dcIe4 pmIe4 cdIe4 ctIe4 : Value}
    (ae4 : PySem.W.nsIn K mainGlobals "BadRef" = some (some (.ref ce4)))
    (xe4 : K.lookup ce4 = some (excClassObj nme4 qe4 ce4 Ne4 bse4 bme4 true sne4 sube4 abe4 cole4 dde4 m0e4 m1e4 m2e4 m3e4 m5e4 "ValueError.__new__"))
    (re4 : HandSPX.refsVE bme4 = true)
    (se4 : PySem.W.findIn K (.ref ce4) "__setattr__" = some (some (.builtin "object.__setattr__")))
    (ne4_maker : PySem.W.findIn K (.ref ce4) "maker" = some none)
    (ie4 : PySem.W.findIn K (.ref ce4) "__init__" = some (some (.ref fIe4)))
    (te4 : PySem.W.typeIn K (.ref fIe4) = some (.type "function"))
    (le4 : K.lookup fIe4 = some ⟨ocIe4, odIe4, .func (PySem.W.fnOf "__init__" "BadRef.__init__" (defArgs si_BadRef) (defBody si_BadRef) (defScope si_BadRef) .none kVIe4 dcIe4 pmIe4 anIe4 cdIe4 ctIe4), slIe4⟩)
    (de4 : PySem.W.codeIn K cdIe4 "BadRef.__init__" = true)
    (ke4 : PySem.W.keepIn K (.ref fIe4) = true)
    (be4 : PySem.W.subIn K (.ref ce4) (.type "BaseException") = some true)
    (ye4 : PySem.W.typeIn K (.ref ce4) = some (.type "type"))
    (ze4 : PySem.W.keepIn K (.ref ce4) = true)
    {ce5 fIe5 Ne5 : Addr} {nme5 qe5 : Str} {bse5 bme5 sube5 : List Value} {sne5 : List Str} {abe5 : Bool} {cole5 : Option Bool} {dde5 odIe5 anIe5 : Option Addr} {m0e5 m1e5 m2e5 m3e5 m5e5 : Option Value} {slIe5 : Array (Option Value)} {ocIe5 kVIe5 dcIe5 pmIe5 cdIe5 ctIe5 : Value}
    (ae5 : PySem.W.nsIn K mainGlobals "Missing" = some (some (.ref ce5)))
    (xe5 : K.lookup ce5 = some (excClassObj nme5 qe5 ce5 Ne5 bse5 bme5 true sne5 sube5 abe5 cole5 dde5 m0e5 m1e5 m2e5 m3e5 m5e5 "ValueError.__new__"))
    (re5 : HandSPX.refsVE bme5 = true)
    (se5 : PySem.W.findIn K (.ref ce5) "__setattr__" = some (some (.builtin "object.__setattr__")))
    (ne5_judge : PySem.W.findIn K (.ref ce5) "judge" = some none)
    (ne5_maker : PySem.W.findIn K (.ref ce5) "maker" = some none)
    (ie5 : PySem.W.findIn K (.ref ce5) "__init__" = some (some (.ref fIe5)))
    (te5 : PySem.W.typeIn K (.ref fIe5) = some (.type "function"))
    (le5 : K.lookup fIe5 = some ⟨ocIe5, odIe5, .func (PySem.W.fnOf "__init__" "Missing.__init__" (defArgs si_Missing) (defBody si_Missing) (defScope si_Missing) .none kVIe5 dcIe5 pmIe5 anIe5 cdIe5 ctIe5), slIe5⟩)
    (de5 : PySem.W.codeIn K cdIe5 "Missing.__init__" = true)
    (ke5 : PySem.W.keepIn K (.ref fIe5) = true)
    (be5 : PySem.W.subIn K (.ref ce5) (.type "BaseException") = some true)
    (ye5 : PySem.W.typeIn K (.ref ce5) = some (.type "type"))
    (ze5 : PySem.W.keepIn K (.ref ce5) = true)
    {ce6 fIe6 Ne6 : Addr} {nme6 qe6 : Str} {bse6 bme6 sube6 : List Value} {sne6 : List Str} {abe6 : Bool} {cole6 : Option Bool} {dde6 odIe6 anIe6 : Option Addr} {m0e6 m1e6 m2e6 m3e6 m5e6 : Option Value} {slIe6 : Array (Option Value)} {ocIe6 kVIe6 dcIe6 pmIe6 cdIe6 ctIe6 : Value}
    (ae6 : PySem.W.nsIn K mainGlobals "BadAsk" = some (some (.ref ce6)))
    (xe6 : K.lookup ce6 = some (excClassObj nme6 qe6 ce6 Ne6 bse6 bme6 true sne6 sube6 abe6 cole6 dde6 m0e6 m1e6 m2e6 m3e6 m5e6 "ValueError.__new__"))
    (re6 : HandSPX.refsVE bme6 = true)
    (se6 : PySem.W.findIn K (.ref ce6) "__setattr__" = some (some (.builtin "object.__setattr__")))
    (ne6_name : PySem.W.findIn K (.ref ce6) "name" = some none)
    (ie6 : PySem.W.findIn K (.ref ce6) "__init__" = some (some (.ref fIe6)))
    (te6 : PySem.W.typeIn K (.ref fIe6) = some (.type "function"))
    (le6 : K.lookup fIe6 = some ⟨ocIe6, odIe6, .func (PySem.W.fnOf "__init__" "BadAsk.__init__" (defArgs si_BadAsk) (defBody si_BadAsk) (defScope si_BadAsk) .none kVIe6 dcIe6 pmIe6 anIe6 cdIe6 ctIe6), slIe6⟩)
    (de6 : PySem.W.codeIn K cdIe6 "BadAsk.__init__" = true)
    (ke6 : PySem.W.keepIn K (.ref fIe6) = true)
    (be6 : PySem.W.subIn K (.ref ce6) (.type "BaseException") = some true)
    (ye6 : PySem.W.typeIn K (.ref ce6) = some (.type "type"))
    (ze6 : PySem.W.keepIn K (.ref ce6) = true)
    {cp_Book : Addr}
    (ap_Book : PySem.W.nsIn K mainGlobals "Book" = some (some (.ref cp_Book)))
    (gp_Book : PySem.W.plainGet K cp_Book Str.empty = true)
    (hp_Book : PySem.W.hasDictIn K cp_Book = true)
    (op_Book : PySem.W.plainOver K cp_Book = true)
    (sp_Book : PySem.W.findIn K (.ref cp_Book) "__setattr__" = some (some (.builtin "object.__setattr__")))
    (na_Book_signs : PySem.W.findIn K (.ref cp_Book) "signs" = some none)
    (na_Book_program : PySem.W.findIn K (.ref cp_Book) "program" = some none)
    (na_Book_rows : PySem.W.findIn K (.ref cp_Book) "rows" = some none)
    (na_Book_start : PySem.W.findIn K (.ref cp_Book) "start" = some none)
    (na_Book__ways : PySem.W.findIn K (.ref cp_Book) "_ways" = some none)
    (na_Book__kinds : PySem.W.findIn K (.ref cp_Book) "_kinds" = some none)
    (na_Book__pairs : PySem.W.findIn K (.ref cp_Book) "_pairs" = some none)
    (na_Book__numbers : PySem.W.findIn K (.ref cp_Book) "_numbers" = some none)
    (na_Book__sorts : PySem.W.findIn K (.ref cp_Book) "_sorts" = some none)
    (na_Book__formulas : PySem.W.findIn K (.ref cp_Book) "_formulas" = some none)
    (na_Book__asks : PySem.W.findIn K (.ref cp_Book) "_asks" = some none)
    {f_letters_of : Addr} {od_letters_of an_letters_of : Option Addr} {sl_letters_of : Array (Option Value)} {oc_letters_of kV_letters_of dc_letters_of pm_letters_of cd_letters_of ct_letters_of : Value}
    (a_letters_of : PySem.W.nsIn K mainGlobals "letters_of" = some (some (.ref f_letters_of)))
    (l_letters_of : K.lookup f_letters_of = some ⟨oc_letters_of, od_letters_of, .func (PySem.W.fnOf "letters_of" "letters_of" (defArgs s_letters_of) (defBody s_letters_of) (defScope s_letters_of) .none kV_letters_of dc_letters_of pm_letters_of an_letters_of cd_letters_of ct_letters_of), sl_letters_of⟩)
    (d_letters_of : PySem.W.codeIn K cd_letters_of "letters_of" = true)
    (k_letters_of : PySem.W.keepIn K (.ref f_letters_of) = true)
    {f_kinds_of : Addr} {od_kinds_of an_kinds_of : Option Addr} {sl_kinds_of : Array (Option Value)} {oc_kinds_of kV_kinds_of dc_kinds_of pm_kinds_of cd_kinds_of ct_kinds_of : Value}
    (a_kinds_of : PySem.W.nsIn K mainGlobals "kinds_of" = some (some (.ref f_kinds_of)))
    (l_kinds_of : K.lookup f_kinds_of = some ⟨oc_kinds_of, od_kinds_of, .func (PySem.W.fnOf "kinds_of" "kinds_of" (defArgs s_kinds_of) (defBody s_kinds_of) (defScope s_kinds_of) .none kV_kinds_of dc_kinds_of pm_kinds_of an_kinds_of cd_kinds_of ct_kinds_of), sl_kinds_of⟩)
    (d_kinds_of : PySem.W.codeIn K cd_kinds_of "kinds_of" = true)
    (k_kinds_of : PySem.W.keepIn K (.ref f_kinds_of) = true)
    {f_sign_places : Addr} {od_sign_places an_sign_places : Option Addr} {sl_sign_places : Array (Option Value)} {oc_sign_places kV_sign_places dc_sign_places pm_sign_places cd_sign_places ct_sign_places : Value}
    (a_sign_places : PySem.W.nsIn K mainGlobals "sign_places" = some (some (.ref f_sign_places)))
    (l_sign_places : K.lookup f_sign_places = some ⟨oc_sign_places, od_sign_places, .func (PySem.W.fnOf "sign_places" "sign_places" (defArgs s_sign_places) (defBody s_sign_places) (defScope s_sign_places) .none kV_sign_places dc_sign_places pm_sign_places an_sign_places cd_sign_places ct_sign_places), sl_sign_places⟩)
    (d_sign_places : PySem.W.codeIn K cd_sign_places "sign_places" = true)
    (k_sign_places : PySem.W.keepIn K (.ref f_sign_places) = true)
    {f_kinds_by_maker : Addr} {od_kinds_by_maker an_kinds_by_maker : Option Addr} {sl_kinds_by_maker : Array (Option Value)} {oc_kinds_by_maker kV_kinds_by_maker dc_kinds_by_maker pm_kinds_by_maker cd_kinds_by_maker ct_kinds_by_maker : Value}
    (a_kinds_by_maker : PySem.W.nsIn K mainGlobals "kinds_by_maker" = some (some (.ref f_kinds_by_maker)))
    (l_kinds_by_maker : K.lookup f_kinds_by_maker = some ⟨oc_kinds_by_maker, od_kinds_by_maker, .func (PySem.W.fnOf "kinds_by_maker" "kinds_by_maker" (defArgs s_kinds_by_maker) (defBody s_kinds_by_maker) (defScope s_kinds_by_maker) .none kV_kinds_by_maker dc_kinds_by_maker pm_kinds_by_maker an_kinds_by_maker cd_kinds_by_maker ct_kinds_by_maker), sl_kinds_by_maker⟩)
    (d_kinds_by_maker : PySem.W.codeIn K cd_kinds_by_maker "kinds_by_maker" = true)
    (k_kinds_by_maker : PySem.W.keepIn K (.ref f_kinds_by_maker) = true)
    {f__kind_of : Addr} {od__kind_of an__kind_of : Option Addr} {sl__kind_of : Array (Option Value)} {oc__kind_of kV__kind_of dc__kind_of pm__kind_of cd__kind_of ct__kind_of : Value}
    (a__kind_of : PySem.W.nsIn K mainGlobals "_kind_of" = some (some (.ref f__kind_of)))
    (l__kind_of : K.lookup f__kind_of = some ⟨oc__kind_of, od__kind_of, .func (PySem.W.fnOf "_kind_of" "_kind_of" (defArgs s__kind_of) (defBody s__kind_of) (defScope s__kind_of) .none kV__kind_of dc__kind_of pm__kind_of an__kind_of cd__kind_of ct__kind_of), sl__kind_of⟩)
    (d__kind_of : PySem.W.codeIn K cd__kind_of "_kind_of" = true)
    (k__kind_of : PySem.W.keepIn K (.ref f__kind_of) = true)
    {f__refs_to : Addr} {od__refs_to an__refs_to : Option Addr} {sl__refs_to : Array (Option Value)} {oc__refs_to kV__refs_to dc__refs_to pm__refs_to cd__refs_to ct__refs_to : Value}
    (a__refs_to : PySem.W.nsIn K mainGlobals "_refs_to" = some (some (.ref f__refs_to)))
    (l__refs_to : K.lookup f__refs_to = some ⟨oc__refs_to, od__refs_to, .func (PySem.W.fnOf "_refs_to" "_refs_to" (defArgs s__refs_to) (defBody s__refs_to) (defScope s__refs_to) .none kV__refs_to dc__refs_to pm__refs_to an__refs_to cd__refs_to ct__refs_to), sl__refs_to⟩)
    (d__refs_to : PySem.W.codeIn K cd__refs_to "_refs_to" = true)
    (k__refs_to : PySem.W.keepIn K (.ref f__refs_to) = true)
    {f_signing_of : Addr} {od_signing_of an_signing_of : Option Addr} {sl_signing_of : Array (Option Value)} {oc_signing_of kV_signing_of dc_signing_of pm_signing_of cd_signing_of ct_signing_of : Value}
    (a_signing_of : PySem.W.nsIn K mainGlobals "signing_of" = some (some (.ref f_signing_of)))
    (l_signing_of : K.lookup f_signing_of = some ⟨oc_signing_of, od_signing_of, .func (PySem.W.fnOf "signing_of" "signing_of" (defArgs s_signing_of) (defBody s_signing_of) (defScope s_signing_of) .none kV_signing_of dc_signing_of pm_signing_of an_signing_of cd_signing_of ct_signing_of), sl_signing_of⟩)
    (d_signing_of : PySem.W.codeIn K cd_signing_of "signing_of" = true)
    (k_signing_of : PySem.W.keepIn K (.ref f_signing_of) = true)
    {f_is_signed : Addr} {od_is_signed an_is_signed : Option Addr} {sl_is_signed : Array (Option Value)} {oc_is_signed kV_is_signed dc_is_signed pm_is_signed cd_is_signed ct_is_signed : Value}
    (a_is_signed : PySem.W.nsIn K mainGlobals "is_signed" = some (some (.ref f_is_signed)))
    (l_is_signed : K.lookup f_is_signed = some ⟨oc_is_signed, od_is_signed, .func (PySem.W.fnOf "is_signed" "is_signed" (defArgs s_is_signed) (defBody s_is_signed) (defScope s_is_signed) .none kV_is_signed dc_is_signed pm_is_signed an_is_signed cd_is_signed ct_is_signed), sl_is_signed⟩)
    (d_is_signed : PySem.W.codeIn K cd_is_signed "is_signed" = true)
    (k_is_signed : PySem.W.keepIn K (.ref f_is_signed) = true)
    {f__tested_refs : Addr} {od__tested_refs an__tested_refs : Option Addr} {sl__tested_refs : Array (Option Value)} {oc__tested_refs kV__tested_refs dc__tested_refs pm__tested_refs cd__tested_refs ct__tested_refs : Value}
    (a__tested_refs : PySem.W.nsIn K mainGlobals "_tested_refs" = some (some (.ref f__tested_refs)))
    (l__tested_refs : K.lookup f__tested_refs = some ⟨oc__tested_refs, od__tested_refs, .func (PySem.W.fnOf "_tested_refs" "_tested_refs" (defArgs s__tested_refs) (defBody s__tested_refs) (defScope s__tested_refs) .none kV__tested_refs dc__tested_refs pm__tested_refs an__tested_refs cd__tested_refs ct__tested_refs), sl__tested_refs⟩)
    (d__tested_refs : PySem.W.codeIn K cd__tested_refs "_tested_refs" = true)
    (k__tested_refs : PySem.W.keepIn K (.ref f__tested_refs) = true)
    {f__signs_for : Addr} {od__signs_for an__signs_for : Option Addr} {sl__signs_for : Array (Option Value)} {oc__signs_for kV__signs_for dc__signs_for pm__signs_for cd__signs_for ct__signs_for : Value}
    (a__signs_for : PySem.W.nsIn K mainGlobals "_signs_for" = some (some (.ref f__signs_for)))
    (l__signs_for : K.lookup f__signs_for = some ⟨oc__signs_for, od__signs_for, .func (PySem.W.fnOf "_signs_for" "_signs_for" (defArgs s__signs_for) (defBody s__signs_for) (defScope s__signs_for) .none kV__signs_for dc__signs_for pm__signs_for an__signs_for cd__signs_for ct__signs_for), sl__signs_for⟩)
    (d__signs_for : PySem.W.codeIn K cd__signs_for "_signs_for" = true)
    (k__signs_for : PySem.W.keepIn K (.ref f__signs_for) = true)
    {f__may_hold : Addr} {od__may_hold an__may_hold : Option Addr} {sl__may_hold : Array (Option Value)} {oc__may_hold kV__may_hold dc__may_hold pm__may_hold cd__may_hold ct__may_hold : Value}
    (a__may_hold : PySem.W.nsIn K mainGlobals "_may_hold" = some (some (.ref f__may_hold)))
    (l__may_hold : K.lookup f__may_hold = some ⟨oc__may_hold, od__may_hold, .func (PySem.W.fnOf "_may_hold" "_may_hold" (defArgs s__may_hold) (defBody s__may_hold) (defScope s__may_hold) .none kV__may_hold dc__may_hold pm__may_hold an__may_hold cd__may_hold ct__may_hold), sl__may_hold⟩)
    (d__may_hold : PySem.W.codeIn K cd__may_hold "_may_hold" = true)
    (k__may_hold : PySem.W.keepIn K (.ref f__may_hold) = true)
    {f__letters_at : Addr} {od__letters_at an__letters_at : Option Addr} {sl__letters_at : Array (Option Value)} {oc__letters_at kV__letters_at dc__letters_at pm__letters_at cd__letters_at ct__letters_at : Value}
    (a__letters_at : PySem.W.nsIn K mainGlobals "_letters_at" = some (some (.ref f__letters_at)))
    (l__letters_at : K.lookup f__letters_at = some ⟨oc__letters_at, od__letters_at, .func (PySem.W.fnOf "_letters_at" "_letters_at" (defArgs s__letters_at) (defBody s__letters_at) (defScope s__letters_at) .none kV__letters_at dc__letters_at pm__letters_at an__letters_at cd__letters_at ct__letters_at), sl__letters_at⟩)
    (d__letters_at : PySem.W.codeIn K cd__letters_at "_letters_at" = true)
    (k__letters_at : PySem.W.keepIn K (.ref f__letters_at) = true)
    {f_judges_of : Addr} {od_judges_of an_judges_of : Option Addr} {sl_judges_of : Array (Option Value)} {oc_judges_of kV_judges_of dc_judges_of pm_judges_of cd_judges_of ct_judges_of : Value}
    (a_judges_of : PySem.W.nsIn K mainGlobals "judges_of" = some (some (.ref f_judges_of)))
    (l_judges_of : K.lookup f_judges_of = some ⟨oc_judges_of, od_judges_of, .func (PySem.W.fnOf "judges_of" "judges_of" (defArgs s_judges_of) (defBody s_judges_of) (defScope s_judges_of) .none kV_judges_of dc_judges_of pm_judges_of an_judges_of cd_judges_of ct_judges_of), sl_judges_of⟩)
    (d_judges_of : PySem.W.codeIn K cd_judges_of "judges_of" = true)
    (k_judges_of : PySem.W.keepIn K (.ref f_judges_of) = true)
    {f_has_first : Addr} {od_has_first an_has_first : Option Addr} {sl_has_first : Array (Option Value)} {oc_has_first kV_has_first dc_has_first pm_has_first cd_has_first ct_has_first : Value}
    (a_has_first : PySem.W.nsIn K mainGlobals "has_first" = some (some (.ref f_has_first)))
    (l_has_first : K.lookup f_has_first = some ⟨oc_has_first, od_has_first, .func (PySem.W.fnOf "has_first" "has_first" (defArgs s_has_first) (defBody s_has_first) (defScope s_has_first) .none kV_has_first dc_has_first pm_has_first an_has_first cd_has_first ct_has_first), sl_has_first⟩)
    (d_has_first : PySem.W.codeIn K cd_has_first "has_first" = true)
    (k_has_first : PySem.W.keepIn K (.ref f_has_first) = true)
    {f_all_asks : Addr} {od_all_asks an_all_asks : Option Addr} {sl_all_asks : Array (Option Value)} {oc_all_asks kV_all_asks dc_all_asks pm_all_asks cd_all_asks ct_all_asks : Value}
    (a_all_asks : PySem.W.nsIn K mainGlobals "all_asks" = some (some (.ref f_all_asks)))
    (l_all_asks : K.lookup f_all_asks = some ⟨oc_all_asks, od_all_asks, .func (PySem.W.fnOf "all_asks" "all_asks" (defArgs s_all_asks) (defBody s_all_asks) (defScope s_all_asks) .none kV_all_asks dc_all_asks pm_all_asks an_all_asks cd_all_asks ct_all_asks), sl_all_asks⟩)
    (d_all_asks : PySem.W.codeIn K cd_all_asks "all_asks" = true)
    (k_all_asks : PySem.W.keepIn K (.ref f_all_asks) = true)
    {f_all_ways : Addr} {od_all_ways an_all_ways : Option Addr} {sl_all_ways : Array (Option Value)} {oc_all_ways kV_all_ways dc_all_ways pm_all_ways cd_all_ways ct_all_ways : Value}
    (a_all_ways : PySem.W.nsIn K mainGlobals "all_ways" = some (some (.ref f_all_ways)))
    (l_all_ways : K.lookup f_all_ways = some ⟨oc_all_ways, od_all_ways, .func (PySem.W.fnOf "all_ways" "all_ways" (defArgs s_all_ways) (defBody s_all_ways) (defScope s_all_ways) .none kV_all_ways dc_all_ways pm_all_ways an_all_ways cd_all_ways ct_all_ways), sl_all_ways⟩)
    (d_all_ways : PySem.W.codeIn K cd_all_ways "all_ways" = true)
    (k_all_ways : PySem.W.keepIn K (.ref f_all_ways) = true)
    {f_look_formulas : Addr} {od_look_formulas an_look_formulas : Option Addr} {sl_look_formulas : Array (Option Value)} {oc_look_formulas kV_look_formulas dc_look_formulas pm_look_formulas cd_look_formulas ct_look_formulas : Value}
    (a_look_formulas : PySem.W.nsIn K mainGlobals "look_formulas" = some (some (.ref f_look_formulas)))
    (l_look_formulas : K.lookup f_look_formulas = some ⟨oc_look_formulas, od_look_formulas, .func (PySem.W.fnOf "look_formulas" "look_formulas" (defArgs s_look_formulas) (defBody s_look_formulas) (defScope s_look_formulas) .none kV_look_formulas dc_look_formulas pm_look_formulas an_look_formulas cd_look_formulas ct_look_formulas), sl_look_formulas⟩)
    (d_look_formulas : PySem.W.codeIn K cd_look_formulas "look_formulas" = true)
    (k_look_formulas : PySem.W.keepIn K (.ref f_look_formulas) = true)
    {f_look_asks : Addr} {od_look_asks an_look_asks : Option Addr} {sl_look_asks : Array (Option Value)} {oc_look_asks kV_look_asks dc_look_asks pm_look_asks cd_look_asks ct_look_asks : Value}
    (a_look_asks : PySem.W.nsIn K mainGlobals "look_asks" = some (some (.ref f_look_asks)))
    (l_look_asks : K.lookup f_look_asks = some ⟨oc_look_asks, od_look_asks, .func (PySem.W.fnOf "look_asks" "look_asks" (defArgs s_look_asks) (defBody s_look_asks) (defScope s_look_asks) .none kV_look_asks dc_look_asks pm_look_asks an_look_asks cd_look_asks ct_look_asks), sl_look_asks⟩)
    (d_look_asks : PySem.W.codeIn K cd_look_asks "look_asks" = true)
    (k_look_asks : PySem.W.keepIn K (.ref f_look_asks) = true)
    {f__first_told : Addr} {od__first_told an__first_told : Option Addr} {sl__first_told : Array (Option Value)} {oc__first_told kV__first_told dc__first_told pm__first_told cd__first_told ct__first_told : Value}
    (a__first_told : PySem.W.nsIn K mainGlobals "_first_told" = some (some (.ref f__first_told)))
    (l__first_told : K.lookup f__first_told = some ⟨oc__first_told, od__first_told, .func (PySem.W.fnOf "_first_told" "_first_told" (defArgs s__first_told) (defBody s__first_told) (defScope s__first_told) .none kV__first_told dc__first_told pm__first_told an__first_told cd__first_told ct__first_told), sl__first_told⟩)
    (d__first_told : PySem.W.codeIn K cd__first_told "_first_told" = true)
    (k__first_told : PySem.W.keepIn K (.ref f__first_told) = true)
    {f__look_makers_of : Addr} {od__look_makers_of an__look_makers_of : Option Addr} {sl__look_makers_of : Array (Option Value)} {oc__look_makers_of kV__look_makers_of dc__look_makers_of pm__look_makers_of cd__look_makers_of ct__look_makers_of : Value}
    (a__look_makers_of : PySem.W.nsIn K mainGlobals "_look_makers_of" = some (some (.ref f__look_makers_of)))
    (l__look_makers_of : K.lookup f__look_makers_of = some ⟨oc__look_makers_of, od__look_makers_of, .func (PySem.W.fnOf "_look_makers_of" "_look_makers_of" (defArgs s__look_makers_of) (defBody s__look_makers_of) (defScope s__look_makers_of) .none kV__look_makers_of dc__look_makers_of pm__look_makers_of an__look_makers_of cd__look_makers_of ct__look_makers_of), sl__look_makers_of⟩)
    (d__look_makers_of : PySem.W.codeIn K cd__look_makers_of "_look_makers_of" = true)
    (k__look_makers_of : PySem.W.keepIn K (.ref f__look_makers_of) = true)
    {f__mentions_in : Addr} {od__mentions_in an__mentions_in : Option Addr} {sl__mentions_in : Array (Option Value)} {oc__mentions_in kV__mentions_in dc__mentions_in pm__mentions_in cd__mentions_in ct__mentions_in : Value}
    (a__mentions_in : PySem.W.nsIn K mainGlobals "_mentions_in" = some (some (.ref f__mentions_in)))
    (l__mentions_in : K.lookup f__mentions_in = some ⟨oc__mentions_in, od__mentions_in, .func (PySem.W.fnOf "_mentions_in" "_mentions_in" (defArgs s__mentions_in) (defBody s__mentions_in) (defScope s__mentions_in) .none kV__mentions_in dc__mentions_in pm__mentions_in an__mentions_in cd__mentions_in ct__mentions_in), sl__mentions_in⟩)
    (d__mentions_in : PySem.W.codeIn K cd__mentions_in "_mentions_in" = true)
    (k__mentions_in : PySem.W.keepIn K (.ref f__mentions_in) = true)
    {f__look_mention : Addr} {od__look_mention an__look_mention : Option Addr} {sl__look_mention : Array (Option Value)} {oc__look_mention kV__look_mention dc__look_mention pm__look_mention cd__look_mention ct__look_mention : Value}
    (a__look_mention : PySem.W.nsIn K mainGlobals "_look_mention" = some (some (.ref f__look_mention)))
    (l__look_mention : K.lookup f__look_mention = some ⟨oc__look_mention, od__look_mention, .func (PySem.W.fnOf "_look_mention" "_look_mention" (defArgs s__look_mention) (defBody s__look_mention) (defScope s__look_mention) .none kV__look_mention dc__look_mention pm__look_mention an__look_mention cd__look_mention ct__look_mention), sl__look_mention⟩)
    (d__look_mention : PySem.W.codeIn K cd__look_mention "_look_mention" = true)
    (k__look_mention : PySem.W.keepIn K (.ref f__look_mention) = true)
    {f__fits : Addr} {od__fits an__fits : Option Addr} {sl__fits : Array (Option Value)} {oc__fits kV__fits dc__fits pm__fits cd__fits ct__fits : Value}
    (a__fits : PySem.W.nsIn K mainGlobals "_fits" = some (some (.ref f__fits)))
    (l__fits : K.lookup f__fits = some ⟨oc__fits, od__fits, .func (PySem.W.fnOf "_fits" "_fits" (defArgs s__fits) (defBody s__fits) (defScope s__fits) .none kV__fits dc__fits pm__fits an__fits cd__fits ct__fits), sl__fits⟩)
    (d__fits : PySem.W.codeIn K cd__fits "_fits" = true)
    (k__fits : PySem.W.keepIn K (.ref f__fits) = true)
    {f__is_let : Addr} {od__is_let an__is_let : Option Addr} {sl__is_let : Array (Option Value)} {oc__is_let kV__is_let dc__is_let pm__is_let cd__is_let ct__is_let : Value}
    (a__is_let : PySem.W.nsIn K mainGlobals "_is_let" = some (some (.ref f__is_let)))
    (l__is_let : K.lookup f__is_let = some ⟨oc__is_let, od__is_let, .func (PySem.W.fnOf "_is_let" "_is_let" (defArgs s__is_let) (defBody s__is_let) (defScope s__is_let) .none kV__is_let dc__is_let pm__is_let an__is_let cd__is_let ct__is_let), sl__is_let⟩)
    (d__is_let : PySem.W.codeIn K cd__is_let "_is_let" = true)
    (k__is_let : PySem.W.keepIn K (.ref f__is_let) = true)
    {f_look_names : Addr} {od_look_names an_look_names : Option Addr} {sl_look_names : Array (Option Value)} {oc_look_names kV_look_names dc_look_names pm_look_names cd_look_names ct_look_names : Value}
    (a_look_names : PySem.W.nsIn K mainGlobals "look_names" = some (some (.ref f_look_names)))
    (l_look_names : K.lookup f_look_names = some ⟨oc_look_names, od_look_names, .func (PySem.W.fnOf "look_names" "look_names" (defArgs s_look_names) (defBody s_look_names) (defScope s_look_names) .none kV_look_names dc_look_names pm_look_names an_look_names cd_look_names ct_look_names), sl_look_names⟩)
    (d_look_names : PySem.W.codeIn K cd_look_names "look_names" = true)
    (k_look_names : PySem.W.keepIn K (.ref f_look_names) = true)
    {f__look_list : Addr} {od__look_list an__look_list : Option Addr} {sl__look_list : Array (Option Value)} {oc__look_list kV__look_list dc__look_list pm__look_list cd__look_list ct__look_list : Value}
    (a__look_list : PySem.W.nsIn K mainGlobals "_look_list" = some (some (.ref f__look_list)))
    (l__look_list : K.lookup f__look_list = some ⟨oc__look_list, od__look_list, .func (PySem.W.fnOf "_look_list" "_look_list" (defArgs s__look_list) (defBody s__look_list) (defScope s__look_list) .none kV__look_list dc__look_list pm__look_list an__look_list cd__look_list ct__look_list), sl__look_list⟩)
    (d__look_list : PySem.W.codeIn K cd__look_list "_look_list" = true)
    (k__look_list : PySem.W.keepIn K (.ref f__look_list) = true)
    {f_look_mentions : Addr} {od_look_mentions an_look_mentions : Option Addr} {sl_look_mentions : Array (Option Value)} {oc_look_mentions kV_look_mentions dc_look_mentions pm_look_mentions cd_look_mentions ct_look_mentions : Value}
    (a_look_mentions : PySem.W.nsIn K mainGlobals "look_mentions" = some (some (.ref f_look_mentions)))
    (l_look_mentions : K.lookup f_look_mentions = some ⟨oc_look_mentions, od_look_mentions, .func (PySem.W.fnOf "look_mentions" "look_mentions" (defArgs s_look_mentions) (defBody s_look_mentions) (defScope s_look_mentions) .none kV_look_mentions dc_look_mentions pm_look_mentions an_look_mentions cd_look_mentions ct_look_mentions), sl_look_mentions⟩)
    (d_look_mentions : PySem.W.codeIn K cd_look_mentions "look_mentions" = true)
    (k_look_mentions : PySem.W.keepIn K (.ref f_look_mentions) = true)
    {f_look_makers : Addr} {od_look_makers an_look_makers : Option Addr} {sl_look_makers : Array (Option Value)} {oc_look_makers kV_look_makers dc_look_makers pm_look_makers cd_look_makers ct_look_makers : Value}
    (a_look_makers : PySem.W.nsIn K mainGlobals "look_makers" = some (some (.ref f_look_makers)))
    (l_look_makers : K.lookup f_look_makers = some ⟨oc_look_makers, od_look_makers, .func (PySem.W.fnOf "look_makers" "look_makers" (defArgs s_look_makers) (defBody s_look_makers) (defScope s_look_makers) .none kV_look_makers dc_look_makers pm_look_makers an_look_makers cd_look_makers ct_look_makers), sl_look_makers⟩)
    (d_look_makers : PySem.W.codeIn K cd_look_makers "look_makers" = true)
    (k_look_makers : PySem.W.keepIn K (.ref f_look_makers) = true)
    {f_look_tests : Addr} {od_look_tests an_look_tests : Option Addr} {sl_look_tests : Array (Option Value)} {oc_look_tests kV_look_tests dc_look_tests pm_look_tests cd_look_tests ct_look_tests : Value}
    (a_look_tests : PySem.W.nsIn K mainGlobals "look_tests" = some (some (.ref f_look_tests)))
    (l_look_tests : K.lookup f_look_tests = some ⟨oc_look_tests, od_look_tests, .func (PySem.W.fnOf "look_tests" "look_tests" (defArgs s_look_tests) (defBody s_look_tests) (defScope s_look_tests) .none kV_look_tests dc_look_tests pm_look_tests an_look_tests cd_look_tests ct_look_tests), sl_look_tests⟩)
    (d_look_tests : PySem.W.codeIn K cd_look_tests "look_tests" = true)
    (k_look_tests : PySem.W.keepIn K (.ref f_look_tests) = true)
    {f__look_name : Addr} {od__look_name an__look_name : Option Addr} {sl__look_name : Array (Option Value)} {oc__look_name kV__look_name dc__look_name pm__look_name cd__look_name ct__look_name : Value}
    (a__look_name : PySem.W.nsIn K mainGlobals "_look_name" = some (some (.ref f__look_name)))
    (l__look_name : K.lookup f__look_name = some ⟨oc__look_name, od__look_name, .func (PySem.W.fnOf "_look_name" "_look_name" (defArgs s__look_name) (defBody s__look_name) (defScope s__look_name) .none kV__look_name dc__look_name pm__look_name an__look_name cd__look_name ct__look_name), sl__look_name⟩)
    (d__look_name : PySem.W.codeIn K cd__look_name "_look_name" = true)
    (k__look_name : PySem.W.keepIn K (.ref f__look_name) = true)
    {f_has_only : Addr} {od_has_only an_has_only : Option Addr} {sl_has_only : Array (Option Value)} {oc_has_only kV_has_only dc_has_only pm_has_only cd_has_only ct_has_only : Value}
    (a_has_only : PySem.W.nsIn K mainGlobals "has_only" = some (some (.ref f_has_only)))
    (l_has_only : K.lookup f_has_only = some ⟨oc_has_only, od_has_only, .func (PySem.W.fnOf "has_only" "has_only" (defArgs s_has_only) (defBody s_has_only) (defScope s_has_only) .none kV_has_only dc_has_only pm_has_only an_has_only cd_has_only ct_has_only), sl_has_only⟩)
    (d_has_only : PySem.W.codeIn K cd_has_only "has_only" = true)
    (k_has_only : PySem.W.keepIn K (.ref f_has_only) = true)
    {f_look_signs : Addr} {od_look_signs an_look_signs : Option Addr} {sl_look_signs : Array (Option Value)} {oc_look_signs kV_look_signs dc_look_signs pm_look_signs cd_look_signs ct_look_signs : Value}
    (a_look_signs : PySem.W.nsIn K mainGlobals "look_signs" = some (some (.ref f_look_signs)))
    (l_look_signs : K.lookup f_look_signs = some ⟨oc_look_signs, od_look_signs, .func (PySem.W.fnOf "look_signs" "look_signs" (defArgs s_look_signs) (defBody s_look_signs) (defScope s_look_signs) .none kV_look_signs dc_look_signs pm_look_signs an_look_signs cd_look_signs ct_look_signs), sl_look_signs⟩)
    (d_look_signs : PySem.W.codeIn K cd_look_signs "look_signs" = true)
    (k_look_signs : PySem.W.keepIn K (.ref f_look_signs) = true)
    {f__words_of : Addr} {od__words_of an__words_of : Option Addr} {sl__words_of : Array (Option Value)} {oc__words_of kV__words_of dc__words_of pm__words_of cd__words_of ct__words_of : Value}
    (a__words_of : PySem.W.nsIn K mainGlobals "_words_of" = some (some (.ref f__words_of)))
    (l__words_of : K.lookup f__words_of = some ⟨oc__words_of, od__words_of, .func (PySem.W.fnOf "_words_of" "_words_of" (defArgs s__words_of) (defBody s__words_of) (defScope s__words_of) .none kV__words_of dc__words_of pm__words_of an__words_of cd__words_of ct__words_of), sl__words_of⟩)
    (d__words_of : PySem.W.codeIn K cd__words_of "_words_of" = true)
    (k__words_of : PySem.W.keepIn K (.ref f__words_of) = true)
    {f__letters_of : Addr} {od__letters_of an__letters_of : Option Addr} {sl__letters_of : Array (Option Value)} {oc__letters_of kV__letters_of dc__letters_of pm__letters_of cd__letters_of ct__letters_of : Value}
    (a__letters_of : PySem.W.nsIn K mainGlobals "_letters_of" = some (some (.ref f__letters_of)))
    (l__letters_of : K.lookup f__letters_of = some ⟨oc__letters_of, od__letters_of, .func (PySem.W.fnOf "_letters_of" "_letters_of" (defArgs s__letters_of) (defBody s__letters_of) (defScope s__letters_of) .none kV__letters_of dc__letters_of pm__letters_of an__letters_of cd__letters_of ct__letters_of), sl__letters_of⟩)
    (d__letters_of : PySem.W.codeIn K cd__letters_of "_letters_of" = true)
    (k__letters_of : PySem.W.keepIn K (.ref f__letters_of) = true)
    {f_Book___init__ : Addr} {od_Book___init__ an_Book___init__ : Option Addr} {sl_Book___init__ : Array (Option Value)} {oc_Book___init__ kV_Book___init__ dc_Book___init__ pm_Book___init__ cd_Book___init__ ct_Book___init__ : Value}
    (a_Book___init__ : PySem.W.findIn K (.ref cp_Book) "__init__" = some (some (.ref f_Book___init__)))
    (l_Book___init__ : K.lookup f_Book___init__ = some ⟨oc_Book___init__, od_Book___init__, .func (PySem.W.fnOf "__init__" "Book.__init__" (defArgs s_Book___init__) (defBody s_Book___init__) (defScope s_Book___init__) .none kV_Book___init__ dc_Book___init__ pm_Book___init__ an_Book___init__ cd_Book___init__ ct_Book___init__), sl_Book___init__⟩)
    (d_Book___init__ : PySem.W.codeIn K cd_Book___init__ "Book.__init__" = true)
    (k_Book___init__ : PySem.W.keepIn K (.ref f_Book___init__) = true)
    (m_Book___init__ : PySem.W.isFn K (.ref f_Book___init__) = true)
    (mm_Book___init__ : PySem.W.makesIn K cp_Book = true)
    (mk_Book___init__ : PySem.W.keepIn K (.ref cp_Book) = true)
    {f_Book_in_pairs : Addr} {od_Book_in_pairs an_Book_in_pairs : Option Addr} {sl_Book_in_pairs : Array (Option Value)} {oc_Book_in_pairs kV_Book_in_pairs dc_Book_in_pairs pm_Book_in_pairs cd_Book_in_pairs ct_Book_in_pairs : Value}
    (a_Book_in_pairs : PySem.W.findIn K (.ref cp_Book) "in_pairs" = some (some (.ref f_Book_in_pairs)))
    (l_Book_in_pairs : K.lookup f_Book_in_pairs = some ⟨oc_Book_in_pairs, od_Book_in_pairs, .func (PySem.W.fnOf "in_pairs" "Book.in_pairs" (defArgs s_Book_in_pairs) (defBody s_Book_in_pairs) (defScope s_Book_in_pairs) .none kV_Book_in_pairs dc_Book_in_pairs pm_Book_in_pairs an_Book_in_pairs cd_Book_in_pairs ct_Book_in_pairs), sl_Book_in_pairs⟩)
    (d_Book_in_pairs : PySem.W.codeIn K cd_Book_in_pairs "Book.in_pairs" = true)
    (k_Book_in_pairs : PySem.W.keepIn K (.ref f_Book_in_pairs) = true)
    (m_Book_in_pairs : PySem.W.isFn K (.ref f_Book_in_pairs) = true)
    {f__look_all : Addr} {od__look_all an__look_all : Option Addr} {sl__look_all : Array (Option Value)} {oc__look_all kV__look_all dc__look_all pm__look_all cd__look_all ct__look_all : Value}
    (a__look_all : PySem.W.nsIn K mainGlobals "_look_all" = some (some (.ref f__look_all)))
    (l__look_all : K.lookup f__look_all = some ⟨oc__look_all, od__look_all, .func (PySem.W.fnOf "_look_all" "_look_all" (defArgs s__look_all) (defBody s__look_all) (defScope s__look_all) .none kV__look_all dc__look_all pm__look_all an__look_all cd__look_all ct__look_all), sl__look_all⟩)
    (d__look_all : PySem.W.codeIn K cd__look_all "_look_all" = true)
    (k__look_all : PySem.W.keepIn K (.ref f__look_all) = true)
    {f__told_by : Addr} {od__told_by an__told_by : Option Addr} {sl__told_by : Array (Option Value)} {oc__told_by kV__told_by dc__told_by pm__told_by cd__told_by ct__told_by : Value}
    (a__told_by : PySem.W.nsIn K mainGlobals "_told_by" = some (some (.ref f__told_by)))
    (l__told_by : K.lookup f__told_by = some ⟨oc__told_by, od__told_by, .func (PySem.W.fnOf "_told_by" "_told_by" (defArgs s__told_by) (defBody s__told_by) (defScope s__told_by) .none kV__told_by dc__told_by pm__told_by an__told_by cd__told_by ct__told_by), sl__told_by⟩)
    (d__told_by : PySem.W.codeIn K cd__told_by "_told_by" = true)
    (k__told_by : PySem.W.keepIn K (.ref f__told_by) = true)
    {f__formulas_of : Addr} {od__formulas_of an__formulas_of : Option Addr} {sl__formulas_of : Array (Option Value)} {oc__formulas_of kV__formulas_of dc__formulas_of pm__formulas_of cd__formulas_of ct__formulas_of : Value}
    (a__formulas_of : PySem.W.nsIn K mainGlobals "_formulas_of" = some (some (.ref f__formulas_of)))
    (l__formulas_of : K.lookup f__formulas_of = some ⟨oc__formulas_of, od__formulas_of, .func (PySem.W.fnOf "_formulas_of" "_formulas_of" (defArgs s__formulas_of) (defBody s__formulas_of) (defScope s__formulas_of) .none kV__formulas_of dc__formulas_of pm__formulas_of an__formulas_of cd__formulas_of ct__formulas_of), sl__formulas_of⟩)
    (d__formulas_of : PySem.W.codeIn K cd__formulas_of "_formulas_of" = true)
    (k__formulas_of : PySem.W.keepIn K (.ref f__formulas_of) = true)
    {f__law_tape : Addr} {od__law_tape an__law_tape : Option Addr} {sl__law_tape : Array (Option Value)} {oc__law_tape kV__law_tape dc__law_tape pm__law_tape cd__law_tape ct__law_tape : Value}
    (a__law_tape : PySem.W.nsIn K mainGlobals "_law_tape" = some (some (.ref f__law_tape)))
    (l__law_tape : K.lookup f__law_tape = some ⟨oc__law_tape, od__law_tape, .func (PySem.W.fnOf "_law_tape" "_law_tape" (defArgs s__law_tape) (defBody s__law_tape) (defScope s__law_tape) .none kV__law_tape dc__law_tape pm__law_tape an__law_tape cd__law_tape ct__law_tape), sl__law_tape⟩)
    (d__law_tape : PySem.W.codeIn K cd__law_tape "_law_tape" = true)
    (k__law_tape : PySem.W.keepIn K (.ref f__law_tape) = true)
    {f__law_pick : Addr} {od__law_pick an__law_pick : Option Addr} {sl__law_pick : Array (Option Value)} {oc__law_pick kV__law_pick dc__law_pick pm__law_pick cd__law_pick ct__law_pick : Value}
    (a__law_pick : PySem.W.nsIn K mainGlobals "_law_pick" = some (some (.ref f__law_pick)))
    (l__law_pick : K.lookup f__law_pick = some ⟨oc__law_pick, od__law_pick, .func (PySem.W.fnOf "_law_pick" "_law_pick" (defArgs s__law_pick) (defBody s__law_pick) (defScope s__law_pick) .none kV__law_pick dc__law_pick pm__law_pick an__law_pick cd__law_pick ct__law_pick), sl__law_pick⟩)
    (d__law_pick : PySem.W.codeIn K cd__law_pick "_law_pick" = true)
    (k__law_pick : PySem.W.keepIn K (.ref f__law_pick) = true)
    {f__law_letters : Addr} {od__law_letters an__law_letters : Option Addr} {sl__law_letters : Array (Option Value)} {oc__law_letters kV__law_letters dc__law_letters pm__law_letters cd__law_letters ct__law_letters : Value}
    (a__law_letters : PySem.W.nsIn K mainGlobals "_law_letters" = some (some (.ref f__law_letters)))
    (l__law_letters : K.lookup f__law_letters = some ⟨oc__law_letters, od__law_letters, .func (PySem.W.fnOf "_law_letters" "_law_letters" (defArgs s__law_letters) (defBody s__law_letters) (defScope s__law_letters) .none kV__law_letters dc__law_letters pm__law_letters an__law_letters cd__law_letters ct__law_letters), sl__law_letters⟩)
    (d__law_letters : PySem.W.codeIn K cd__law_letters "_law_letters" = true)
    (k__law_letters : PySem.W.keepIn K (.ref f__law_letters) = true)
    {f__law_mark : Addr} {od__law_mark an__law_mark : Option Addr} {sl__law_mark : Array (Option Value)} {oc__law_mark kV__law_mark dc__law_mark pm__law_mark cd__law_mark ct__law_mark : Value}
    (a__law_mark : PySem.W.nsIn K mainGlobals "_law_mark" = some (some (.ref f__law_mark)))
    (l__law_mark : K.lookup f__law_mark = some ⟨oc__law_mark, od__law_mark, .func (PySem.W.fnOf "_law_mark" "_law_mark" (defArgs s__law_mark) (defBody s__law_mark) (defScope s__law_mark) .none kV__law_mark dc__law_mark pm__law_mark an__law_mark cd__law_mark ct__law_mark), sl__law_mark⟩)
    (d__law_mark : PySem.W.codeIn K cd__law_mark "_law_mark" = true)
    (k__law_mark : PySem.W.keepIn K (.ref f__law_mark) = true)
    {f__law_piece : Addr} {od__law_piece an__law_piece : Option Addr} {sl__law_piece : Array (Option Value)} {oc__law_piece kV__law_piece dc__law_piece pm__law_piece cd__law_piece ct__law_piece : Value}
    (a__law_piece : PySem.W.nsIn K mainGlobals "_law_piece" = some (some (.ref f__law_piece)))
    (l__law_piece : K.lookup f__law_piece = some ⟨oc__law_piece, od__law_piece, .func (PySem.W.fnOf "_law_piece" "_law_piece" (defArgs s__law_piece) (defBody s__law_piece) (defScope s__law_piece) .none kV__law_piece dc__law_piece pm__law_piece an__law_piece cd__law_piece ct__law_piece), sl__law_piece⟩)
    (d__law_piece : PySem.W.codeIn K cd__law_piece "_law_piece" = true)
    (k__law_piece : PySem.W.keepIn K (.ref f__law_piece) = true)
    {f__law_places : Addr} {od__law_places an__law_places : Option Addr} {sl__law_places : Array (Option Value)} {oc__law_places kV__law_places dc__law_places pm__law_places cd__law_places ct__law_places : Value}
    (a__law_places : PySem.W.nsIn K mainGlobals "_law_places" = some (some (.ref f__law_places)))
    (l__law_places : K.lookup f__law_places = some ⟨oc__law_places, od__law_places, .func (PySem.W.fnOf "_law_places" "_law_places" (defArgs s__law_places) (defBody s__law_places) (defScope s__law_places) .none kV__law_places dc__law_places pm__law_places an__law_places cd__law_places ct__law_places), sl__law_places⟩)
    (d__law_places : PySem.W.codeIn K cd__law_places "_law_places" = true)
    (k__law_places : PySem.W.keepIn K (.ref f__law_places) = true)
    {f__law_kinds : Addr} {od__law_kinds an__law_kinds : Option Addr} {sl__law_kinds : Array (Option Value)} {oc__law_kinds kV__law_kinds dc__law_kinds pm__law_kinds cd__law_kinds ct__law_kinds : Value}
    (a__law_kinds : PySem.W.nsIn K mainGlobals "_law_kinds" = some (some (.ref f__law_kinds)))
    (l__law_kinds : K.lookup f__law_kinds = some ⟨oc__law_kinds, od__law_kinds, .func (PySem.W.fnOf "_law_kinds" "_law_kinds" (defArgs s__law_kinds) (defBody s__law_kinds) (defScope s__law_kinds) .none kV__law_kinds dc__law_kinds pm__law_kinds an__law_kinds cd__law_kinds ct__law_kinds), sl__law_kinds⟩)
    (d__law_kinds : PySem.W.codeIn K cd__law_kinds "_law_kinds" = true)
    (k__law_kinds : PySem.W.keepIn K (.ref f__law_kinds) = true)
    {f__law_maker : Addr} {od__law_maker an__law_maker : Option Addr} {sl__law_maker : Array (Option Value)} {oc__law_maker kV__law_maker dc__law_maker pm__law_maker cd__law_maker ct__law_maker : Value}
    (a__law_maker : PySem.W.nsIn K mainGlobals "_law_maker" = some (some (.ref f__law_maker)))
    (l__law_maker : K.lookup f__law_maker = some ⟨oc__law_maker, od__law_maker, .func (PySem.W.fnOf "_law_maker" "_law_maker" (defArgs s__law_maker) (defBody s__law_maker) (defScope s__law_maker) .none kV__law_maker dc__law_maker pm__law_maker an__law_maker cd__law_maker ct__law_maker), sl__law_maker⟩)
    (d__law_maker : PySem.W.codeIn K cd__law_maker "_law_maker" = true)
    (k__law_maker : PySem.W.keepIn K (.ref f__law_maker) = true)
    {f__law_way : Addr} {od__law_way an__law_way : Option Addr} {sl__law_way : Array (Option Value)} {oc__law_way kV__law_way dc__law_way pm__law_way cd__law_way ct__law_way : Value}
    (a__law_way : PySem.W.nsIn K mainGlobals "_law_way" = some (some (.ref f__law_way)))
    (l__law_way : K.lookup f__law_way = some ⟨oc__law_way, od__law_way, .func (PySem.W.fnOf "_law_way" "_law_way" (defArgs s__law_way) (defBody s__law_way) (defScope s__law_way) .none kV__law_way dc__law_way pm__law_way an__law_way cd__law_way ct__law_way), sl__law_way⟩)
    (d__law_way : PySem.W.codeIn K cd__law_way "_law_way" = true)
    (k__law_way : PySem.W.keepIn K (.ref f__law_way) = true)
    {f__law_words : Addr} {od__law_words an__law_words : Option Addr} {sl__law_words : Array (Option Value)} {oc__law_words kV__law_words dc__law_words pm__law_words cd__law_words ct__law_words : Value}
    (a__law_words : PySem.W.nsIn K mainGlobals "_law_words" = some (some (.ref f__law_words)))
    (l__law_words : K.lookup f__law_words = some ⟨oc__law_words, od__law_words, .func (PySem.W.fnOf "_law_words" "_law_words" (defArgs s__law_words) (defBody s__law_words) (defScope s__law_words) .none kV__law_words dc__law_words pm__law_words an__law_words cd__law_words ct__law_words), sl__law_words⟩)
    (d__law_words : PySem.W.codeIn K cd__law_words "_law_words" = true)
    (k__law_words : PySem.W.keepIn K (.ref f__law_words) = true)
    {f__law_pairs : Addr} {od__law_pairs an__law_pairs : Option Addr} {sl__law_pairs : Array (Option Value)} {oc__law_pairs kV__law_pairs dc__law_pairs pm__law_pairs cd__law_pairs ct__law_pairs : Value}
    (a__law_pairs : PySem.W.nsIn K mainGlobals "_law_pairs" = some (some (.ref f__law_pairs)))
    (l__law_pairs : K.lookup f__law_pairs = some ⟨oc__law_pairs, od__law_pairs, .func (PySem.W.fnOf "_law_pairs" "_law_pairs" (defArgs s__law_pairs) (defBody s__law_pairs) (defScope s__law_pairs) .none kV__law_pairs dc__law_pairs pm__law_pairs an__law_pairs cd__law_pairs ct__law_pairs), sl__law_pairs⟩)
    (d__law_pairs : PySem.W.codeIn K cd__law_pairs "_law_pairs" = true)
    (k__law_pairs : PySem.W.keepIn K (.ref f__law_pairs) = true)
    {f__law_can : Addr} {od__law_can an__law_can : Option Addr} {sl__law_can : Array (Option Value)} {oc__law_can kV__law_can dc__law_can pm__law_can cd__law_can ct__law_can : Value}
    (a__law_can : PySem.W.nsIn K mainGlobals "_law_can" = some (some (.ref f__law_can)))
    (l__law_can : K.lookup f__law_can = some ⟨oc__law_can, od__law_can, .func (PySem.W.fnOf "_law_can" "_law_can" (defArgs s__law_can) (defBody s__law_can) (defScope s__law_can) .none kV__law_can dc__law_can pm__law_can an__law_can cd__law_can ct__law_can), sl__law_can⟩)
    (d__law_can : PySem.W.codeIn K cd__law_can "_law_can" = true)
    (k__law_can : PySem.W.keepIn K (.ref f__law_can) = true)
    {f__law_line : Addr} {od__law_line an__law_line : Option Addr} {sl__law_line : Array (Option Value)} {oc__law_line kV__law_line dc__law_line pm__law_line cd__law_line ct__law_line : Value}
    (a__law_line : PySem.W.nsIn K mainGlobals "_law_line" = some (some (.ref f__law_line)))
    (l__law_line : K.lookup f__law_line = some ⟨oc__law_line, od__law_line, .func (PySem.W.fnOf "_law_line" "_law_line" (defArgs s__law_line) (defBody s__law_line) (defScope s__law_line) .none kV__law_line dc__law_line pm__law_line an__law_line cd__law_line ct__law_line), sl__law_line⟩)
    (d__law_line : PySem.W.codeIn K cd__law_line "_law_line" = true)
    (k__law_line : PySem.W.keepIn K (.ref f__law_line) = true)
    {f__law_allowed : Addr} {od__law_allowed an__law_allowed : Option Addr} {sl__law_allowed : Array (Option Value)} {oc__law_allowed kV__law_allowed dc__law_allowed pm__law_allowed cd__law_allowed ct__law_allowed : Value}
    (a__law_allowed : PySem.W.nsIn K mainGlobals "_law_allowed" = some (some (.ref f__law_allowed)))
    (l__law_allowed : K.lookup f__law_allowed = some ⟨oc__law_allowed, od__law_allowed, .func (PySem.W.fnOf "_law_allowed" "_law_allowed" (defArgs s__law_allowed) (defBody s__law_allowed) (defScope s__law_allowed) .none kV__law_allowed dc__law_allowed pm__law_allowed an__law_allowed cd__law_allowed ct__law_allowed), sl__law_allowed⟩)
    (d__law_allowed : PySem.W.codeIn K cd__law_allowed "_law_allowed" = true)
    (k__law_allowed : PySem.W.keepIn K (.ref f__law_allowed) = true)
    {f__law_due : Addr} {od__law_due an__law_due : Option Addr} {sl__law_due : Array (Option Value)} {oc__law_due kV__law_due dc__law_due pm__law_due cd__law_due ct__law_due : Value}
    (a__law_due : PySem.W.nsIn K mainGlobals "_law_due" = some (some (.ref f__law_due)))
    (l__law_due : K.lookup f__law_due = some ⟨oc__law_due, od__law_due, .func (PySem.W.fnOf "_law_due" "_law_due" (defArgs s__law_due) (defBody s__law_due) (defScope s__law_due) .none kV__law_due dc__law_due pm__law_due an__law_due cd__law_due ct__law_due), sl__law_due⟩)
    (d__law_due : PySem.W.codeIn K cd__law_due "_law_due" = true)
    (k__law_due : PySem.W.keepIn K (.ref f__law_due) = true)
    {f__law_suits : Addr} {od__law_suits an__law_suits : Option Addr} {sl__law_suits : Array (Option Value)} {oc__law_suits kV__law_suits dc__law_suits pm__law_suits cd__law_suits ct__law_suits : Value}
    (a__law_suits : PySem.W.nsIn K mainGlobals "_law_suits" = some (some (.ref f__law_suits)))
    (l__law_suits : K.lookup f__law_suits = some ⟨oc__law_suits, od__law_suits, .func (PySem.W.fnOf "_law_suits" "_law_suits" (defArgs s__law_suits) (defBody s__law_suits) (defScope s__law_suits) .none kV__law_suits dc__law_suits pm__law_suits an__law_suits cd__law_suits ct__law_suits), sl__law_suits⟩)
    (d__law_suits : PySem.W.codeIn K cd__law_suits "_law_suits" = true)
    (k__law_suits : PySem.W.keepIn K (.ref f__law_suits) = true)
    {f__law_right : Addr} {od__law_right an__law_right : Option Addr} {sl__law_right : Array (Option Value)} {oc__law_right kV__law_right dc__law_right pm__law_right cd__law_right ct__law_right : Value}
    (a__law_right : PySem.W.nsIn K mainGlobals "_law_right" = some (some (.ref f__law_right)))
    (l__law_right : K.lookup f__law_right = some ⟨oc__law_right, od__law_right, .func (PySem.W.fnOf "_law_right" "_law_right" (defArgs s__law_right) (defBody s__law_right) (defScope s__law_right) .none kV__law_right dc__law_right pm__law_right an__law_right cd__law_right ct__law_right), sl__law_right⟩)
    (d__law_right : PySem.W.codeIn K cd__law_right "_law_right" = true)
    (k__law_right : PySem.W.keepIn K (.ref f__law_right) = true)
    {f_law : Addr} {od_law an_law : Option Addr} {sl_law : Array (Option Value)} {oc_law kV_law dc_law pm_law cd_law ct_law : Value}
    (a_law : PySem.W.nsIn K mainGlobals "law" = some (some (.ref f_law)))
    (l_law : K.lookup f_law = some ⟨oc_law, od_law, .func (PySem.W.fnOf "law" "law" (defArgs s_law) (defBody s_law) (defScope s_law) .none kV_law dc_law pm_law an_law cd_law ct_law), sl_law⟩)
    (d_law : PySem.W.codeIn K cd_law "law" = true)
    (k_law : PySem.W.keepIn K (.ref f_law) = true)
    (z_tuple : PySem.W.nsIn K mainGlobals "tuple" = some none)
    (z_enumerate : PySem.W.nsIn K mainGlobals "enumerate" = some none)
    (z_zip : PySem.W.nsIn K mainGlobals "zip" = some none)
    (z_len : PySem.W.nsIn K mainGlobals "len" = some none)
    (z_all : PySem.W.nsIn K mainGlobals "all" = some none)
    (z_set : PySem.W.nsIn K mainGlobals "set" = some none)
    (z_int : PySem.W.nsIn K mainGlobals "int" = some none)
    (z_range : PySem.W.nsIn K mainGlobals "range" = some none)
    (z_str : PySem.W.nsIn K mainGlobals "str" = some none)
    (z_min : PySem.W.nsIn K mainGlobals "min" = some none)
    (z_isinstance : PySem.W.nsIn K mainGlobals "isinstance" = some none)
    (z_bool : PySem.W.nsIn K mainGlobals "bool" = some none)
    {t_SIGNS : _}
    (v_SIGNS : PySem.W.nsIn K mainGlobals "SIGNS" = some (some (.int 1 t_SIGNS)))
    {t_ROWS : _}
    (v_ROWS : PySem.W.nsIn K mainGlobals "ROWS" = some (some (.int 2 t_ROWS)))
    {t_PAIRS : _}
    (v_PAIRS : PySem.W.nsIn K mainGlobals "PAIRS" = some (some (.int 3 t_PAIRS)))
    {t_NUMBERS : _}
    (v_NUMBERS : PySem.W.nsIn K mainGlobals "NUMBERS" = some (some (.int 4 t_NUMBERS)))
    {t_START : _}
    (v_START : PySem.W.nsIn K mainGlobals "START" = some (some (.int 5 t_START)))
    {t_LOTS : _}
    (v_LOTS : PySem.W.nsIn K mainGlobals "LOTS" = some (some (.int 6 t_LOTS)))
    {t_JUDGES : _}
    (v_JUDGES : PySem.W.nsIn K mainGlobals "JUDGES" = some (some (.int 7 t_JUDGES)))
    {t_ASKS : _}
    (v_ASKS : PySem.W.nsIn K mainGlobals "ASKS" = some (some (.int 8 t_ASKS)))
    : ∃ fd : FuncData, (∀ (s : Shared) (v : Value), BindsTo s fd ⟨[v], []⟩ [("_law_script", v)]) ∧ ∀ base : Heap, K.In base → base.Ns mainGlobals mg → FnOk l.prog w K mg base CX0 10 fa fd ["_law_script"] (spL K 1 sp_law) := by
  have e := hfa.symm.trans (PySem.W.mg_of X G a_law)
  cases e
  let T : Txt K mg := {
    c_TwiceNamed := ce0, oe_TwiceNamed := ⟨⟨nme0, qe0, Ne0, bse0, bme0, sne0, sube0, abe0, cole0, dde0, m0e0, m1e0, m2e0, m3e0, m5e0, xe0, re0⟩, se0, be0, ye0, ze0⟩, no_TwiceNamed := fun n hn => (by rw [List.mem_singleton.mp hn]; exact ne0_name), fi_TwiceNamed := fIe0, fdi_TwiceNamed := _, ic_TwiceNamed := ie0, ti_TwiceNamed := te0, Fi_TwiceNamed := fun_mk (st := si_TwiceNamed) le0 de0 ke0, gc_TwiceNamed := PySem.W.mg_of X G ae0,
    c_BadSign := ce1, oe_BadSign := ⟨⟨nme1, qe1, Ne1, bse1, bme1, sne1, sube1, abe1, cole1, dde1, m0e1, m1e1, m2e1, m3e1, m5e1, xe1, re1⟩, se1, be1, ye1, ze1⟩, no_BadSign := fun n hn => (by rw [List.mem_singleton.mp hn]; exact ne1_word), fi_BadSign := fIe1, fdi_BadSign := _, ic_BadSign := ie1, ti_BadSign := te1, Fi_BadSign := fun_mk (st := si_BadSign) le1 de1 ke1, gc_BadSign := PySem.W.mg_of X G ae1,
    c_NoName := ce2, oe_NoName := ⟨⟨nme2, qe2, Ne2, bse2, bme2, sne2, sube2, abe2, cole2, dde2, m0e2, m1e2, m2e2, m3e2, m5e2, xe2, re2⟩, se2, be2, ye2, ze2⟩, no_NoName := fun n hn => (by rw [List.mem_singleton.mp hn]; exact ne2_name), fi_NoName := fIe2, fdi_NoName := _, ic_NoName := ie2, ti_NoName := te2, Fi_NoName := fun_mk (st := si_NoName) le2 de2 ke2, gc_NoName := PySem.W.mg_of X G ae2,
    c_BadMaker := ce3, oe_BadMaker := ⟨⟨nme3, qe3, Ne3, bse3, bme3, sne3, sube3, abe3, cole3, dde3, m0e3, m1e3, m2e3, m3e3, m5e3, xe3, re3⟩, se3, be3, ye3, ze3⟩, no_BadMaker := fun n hn => (by rw [List.mem_singleton.mp hn]; exact ne3_maker), fi_BadMaker := fIe3, fdi_BadMaker := _, ic_BadMaker := ie3, ti_BadMaker := te3, Fi_BadMaker := fun_mk (st := si_BadMaker) le3 de3 ke3, gc_BadMaker := PySem.W.mg_of X G ae3,
    c_BadRef := ce4, oe_BadRef := ⟨⟨nme4, qe4, Ne4, bse4, bme4, sne4, sube4, abe4, cole4, dde4, m0e4, m1e4, m2e4, m3e4, m5e4, xe4, re4⟩, se4, be4, ye4, ze4⟩, no_BadRef := fun n hn => (by rw [List.mem_singleton.mp hn]; exact ne4_maker), fi_BadRef := fIe4, fdi_BadRef := _, ic_BadRef := ie4, ti_BadRef := te4, Fi_BadRef := fun_mk (st := si_BadRef) le4 de4 ke4, gc_BadRef := PySem.W.mg_of X G ae4,
    c_Missing := ce5, oe_Missing := ⟨⟨nme5, qe5, Ne5, bse5, bme5, sne5, sube5, abe5, cole5, dde5, m0e5, m1e5, m2e5, m3e5, m5e5, xe5, re5⟩, se5, be5, ye5, ze5⟩, no_Missing := fun n hn => ((List.mem_cons.mp hn).elim (fun e => by rw [e]; exact ne5_judge) fun hn => by rw [List.mem_singleton.mp hn]; exact ne5_maker), fi_Missing := fIe5, fdi_Missing := _, ic_Missing := ie5, ti_Missing := te5, Fi_Missing := fun_mk (st := si_Missing) le5 de5 ke5, gc_Missing := PySem.W.mg_of X G ae5,
    c_BadAsk := ce6, oe_BadAsk := ⟨⟨nme6, qe6, Ne6, bse6, bme6, sne6, sube6, abe6, cole6, dde6, m0e6, m1e6, m2e6, m3e6, m5e6, xe6, re6⟩, se6, be6, ye6, ze6⟩, no_BadAsk := fun n hn => (by rw [List.mem_singleton.mp hn]; exact ne6_name), fi_BadAsk := fIe6, fdi_BadAsk := _, ic_BadAsk := ie6, ti_BadAsk := te6, Fi_BadAsk := fun_mk (st := si_BadAsk) le6 de6 ke6, gc_BadAsk := PySem.W.mg_of X G ae6,
    c_Book := cp_Book, cls_Book := ⟨gp_Book, hp_Book, op_Book, sp_Book⟩, gc_Book := PySem.W.mg_of X G ap_Book,
    na_Book_signs := na_Book_signs,
    na_Book_program := na_Book_program,
    na_Book_rows := na_Book_rows,
    na_Book_start := na_Book_start,
    na_Book__ways := na_Book__ways,
    na_Book__kinds := na_Book__kinds,
    na_Book__pairs := na_Book__pairs,
    na_Book__numbers := na_Book__numbers,
    na_Book__sorts := na_Book__sorts,
    na_Book__formulas := na_Book__formulas,
    na_Book__asks := na_Book__asks,
    f_letters_of := f_letters_of, fd_letters_of := _, F_letters_of := fun_mk (st := s_letters_of) l_letters_of d_letters_of k_letters_of, g_letters_of := PySem.W.mg_of X G a_letters_of,
    f_kinds_of := f_kinds_of, fd_kinds_of := _, F_kinds_of := fun_mk (st := s_kinds_of) l_kinds_of d_kinds_of k_kinds_of, g_kinds_of := PySem.W.mg_of X G a_kinds_of,
    f_sign_places := f_sign_places, fd_sign_places := _, F_sign_places := fun_mk (st := s_sign_places) l_sign_places d_sign_places k_sign_places, g_sign_places := PySem.W.mg_of X G a_sign_places,
    f_kinds_by_maker := f_kinds_by_maker, fd_kinds_by_maker := _, F_kinds_by_maker := fun_mk (st := s_kinds_by_maker) l_kinds_by_maker d_kinds_by_maker k_kinds_by_maker, g_kinds_by_maker := PySem.W.mg_of X G a_kinds_by_maker,
    f__kind_of := f__kind_of, fd__kind_of := _, F__kind_of := fun_mk (st := s__kind_of) l__kind_of d__kind_of k__kind_of, g__kind_of := PySem.W.mg_of X G a__kind_of,
    f__refs_to := f__refs_to, fd__refs_to := _, F__refs_to := fun_mk (st := s__refs_to) l__refs_to d__refs_to k__refs_to, g__refs_to := PySem.W.mg_of X G a__refs_to,
    f_signing_of := f_signing_of, fd_signing_of := _, F_signing_of := fun_mk (st := s_signing_of) l_signing_of d_signing_of k_signing_of, g_signing_of := PySem.W.mg_of X G a_signing_of,
    f_is_signed := f_is_signed, fd_is_signed := _, F_is_signed := fun_mk (st := s_is_signed) l_is_signed d_is_signed k_is_signed, g_is_signed := PySem.W.mg_of X G a_is_signed,
    f__tested_refs := f__tested_refs, fd__tested_refs := _, F__tested_refs := fun_mk (st := s__tested_refs) l__tested_refs d__tested_refs k__tested_refs, g__tested_refs := PySem.W.mg_of X G a__tested_refs,
    f__signs_for := f__signs_for, fd__signs_for := _, F__signs_for := fun_mk (st := s__signs_for) l__signs_for d__signs_for k__signs_for, g__signs_for := PySem.W.mg_of X G a__signs_for,
    f__may_hold := f__may_hold, fd__may_hold := _, F__may_hold := fun_mk (st := s__may_hold) l__may_hold d__may_hold k__may_hold, g__may_hold := PySem.W.mg_of X G a__may_hold,
    f__letters_at := f__letters_at, fd__letters_at := _, F__letters_at := fun_mk (st := s__letters_at) l__letters_at d__letters_at k__letters_at, g__letters_at := PySem.W.mg_of X G a__letters_at,
    f_judges_of := f_judges_of, fd_judges_of := _, F_judges_of := fun_mk (st := s_judges_of) l_judges_of d_judges_of k_judges_of, g_judges_of := PySem.W.mg_of X G a_judges_of,
    f_has_first := f_has_first, fd_has_first := _, F_has_first := fun_mk (st := s_has_first) l_has_first d_has_first k_has_first, g_has_first := PySem.W.mg_of X G a_has_first,
    f_all_asks := f_all_asks, fd_all_asks := _, F_all_asks := fun_mk (st := s_all_asks) l_all_asks d_all_asks k_all_asks, g_all_asks := PySem.W.mg_of X G a_all_asks,
    f_all_ways := f_all_ways, fd_all_ways := _, F_all_ways := fun_mk (st := s_all_ways) l_all_ways d_all_ways k_all_ways, g_all_ways := PySem.W.mg_of X G a_all_ways,
    f_look_formulas := f_look_formulas, fd_look_formulas := _, F_look_formulas := fun_mk (st := s_look_formulas) l_look_formulas d_look_formulas k_look_formulas, g_look_formulas := PySem.W.mg_of X G a_look_formulas,
    f_look_asks := f_look_asks, fd_look_asks := _, F_look_asks := fun_mk (st := s_look_asks) l_look_asks d_look_asks k_look_asks, g_look_asks := PySem.W.mg_of X G a_look_asks,
    f__first_told := f__first_told, fd__first_told := _, F__first_told := fun_mk (st := s__first_told) l__first_told d__first_told k__first_told, g__first_told := PySem.W.mg_of X G a__first_told,
    f__look_makers_of := f__look_makers_of, fd__look_makers_of := _, F__look_makers_of := fun_mk (st := s__look_makers_of) l__look_makers_of d__look_makers_of k__look_makers_of, g__look_makers_of := PySem.W.mg_of X G a__look_makers_of,
    f__mentions_in := f__mentions_in, fd__mentions_in := _, F__mentions_in := fun_mk (st := s__mentions_in) l__mentions_in d__mentions_in k__mentions_in, g__mentions_in := PySem.W.mg_of X G a__mentions_in,
    f__look_mention := f__look_mention, fd__look_mention := _, F__look_mention := fun_mk (st := s__look_mention) l__look_mention d__look_mention k__look_mention, g__look_mention := PySem.W.mg_of X G a__look_mention,
    f__fits := f__fits, fd__fits := _, F__fits := fun_mk (st := s__fits) l__fits d__fits k__fits, g__fits := PySem.W.mg_of X G a__fits,
    f__is_let := f__is_let, fd__is_let := _, F__is_let := fun_mk (st := s__is_let) l__is_let d__is_let k__is_let, g__is_let := PySem.W.mg_of X G a__is_let,
    f_look_names := f_look_names, fd_look_names := _, F_look_names := fun_mk (st := s_look_names) l_look_names d_look_names k_look_names, g_look_names := PySem.W.mg_of X G a_look_names,
    f__look_list := f__look_list, fd__look_list := _, F__look_list := fun_mk (st := s__look_list) l__look_list d__look_list k__look_list, g__look_list := PySem.W.mg_of X G a__look_list,
    f_look_mentions := f_look_mentions, fd_look_mentions := _, F_look_mentions := fun_mk (st := s_look_mentions) l_look_mentions d_look_mentions k_look_mentions, g_look_mentions := PySem.W.mg_of X G a_look_mentions,
    f_look_makers := f_look_makers, fd_look_makers := _, F_look_makers := fun_mk (st := s_look_makers) l_look_makers d_look_makers k_look_makers, g_look_makers := PySem.W.mg_of X G a_look_makers,
    f_look_tests := f_look_tests, fd_look_tests := _, F_look_tests := fun_mk (st := s_look_tests) l_look_tests d_look_tests k_look_tests, g_look_tests := PySem.W.mg_of X G a_look_tests,
    f__look_name := f__look_name, fd__look_name := _, F__look_name := fun_mk (st := s__look_name) l__look_name d__look_name k__look_name, g__look_name := PySem.W.mg_of X G a__look_name,
    f_has_only := f_has_only, fd_has_only := _, F_has_only := fun_mk (st := s_has_only) l_has_only d_has_only k_has_only, g_has_only := PySem.W.mg_of X G a_has_only,
    f_look_signs := f_look_signs, fd_look_signs := _, F_look_signs := fun_mk (st := s_look_signs) l_look_signs d_look_signs k_look_signs, g_look_signs := PySem.W.mg_of X G a_look_signs,
    f__words_of := f__words_of, fd__words_of := _, F__words_of := fun_mk (st := s__words_of) l__words_of d__words_of k__words_of, g__words_of := PySem.W.mg_of X G a__words_of,
    f__letters_of := f__letters_of, fd__letters_of := _, F__letters_of := fun_mk (st := s__letters_of) l__letters_of d__letters_of k__letters_of, g__letters_of := PySem.W.mg_of X G a__letters_of,
    f_Book___init__ := f_Book___init__, fd_Book___init__ := _, F_Book___init__ := fun_mk (st := s_Book___init__) l_Book___init__ d_Book___init__ k_Book___init__, mk_Book := ⟨mm_Book___init__, a_Book___init__, m_Book___init__, mk_Book___init__⟩,
    f_Book_in_pairs := f_Book_in_pairs, fd_Book_in_pairs := _, F_Book_in_pairs := fun_mk (st := s_Book_in_pairs) l_Book_in_pairs d_Book_in_pairs k_Book_in_pairs, m_Book_in_pairs := ⟨a_Book_in_pairs, m_Book_in_pairs, k_Book_in_pairs⟩,
    f__look_all := f__look_all, fd__look_all := _, F__look_all := fun_mk (st := s__look_all) l__look_all d__look_all k__look_all, g__look_all := PySem.W.mg_of X G a__look_all,
    f__told_by := f__told_by, fd__told_by := _, F__told_by := fun_mk (st := s__told_by) l__told_by d__told_by k__told_by, g__told_by := PySem.W.mg_of X G a__told_by,
    f__formulas_of := f__formulas_of, fd__formulas_of := _, F__formulas_of := fun_mk (st := s__formulas_of) l__formulas_of d__formulas_of k__formulas_of, g__formulas_of := PySem.W.mg_of X G a__formulas_of,
    f__law_tape := f__law_tape, fd__law_tape := _, F__law_tape := fun_mk (st := s__law_tape) l__law_tape d__law_tape k__law_tape, g__law_tape := PySem.W.mg_of X G a__law_tape,
    f__law_pick := f__law_pick, fd__law_pick := _, F__law_pick := fun_mk (st := s__law_pick) l__law_pick d__law_pick k__law_pick, g__law_pick := PySem.W.mg_of X G a__law_pick,
    f__law_letters := f__law_letters, fd__law_letters := _, F__law_letters := fun_mk (st := s__law_letters) l__law_letters d__law_letters k__law_letters, g__law_letters := PySem.W.mg_of X G a__law_letters,
    f__law_mark := f__law_mark, fd__law_mark := _, F__law_mark := fun_mk (st := s__law_mark) l__law_mark d__law_mark k__law_mark, g__law_mark := PySem.W.mg_of X G a__law_mark,
    f__law_piece := f__law_piece, fd__law_piece := _, F__law_piece := fun_mk (st := s__law_piece) l__law_piece d__law_piece k__law_piece, g__law_piece := PySem.W.mg_of X G a__law_piece,
    f__law_places := f__law_places, fd__law_places := _, F__law_places := fun_mk (st := s__law_places) l__law_places d__law_places k__law_places, g__law_places := PySem.W.mg_of X G a__law_places,
    f__law_kinds := f__law_kinds, fd__law_kinds := _, F__law_kinds := fun_mk (st := s__law_kinds) l__law_kinds d__law_kinds k__law_kinds, g__law_kinds := PySem.W.mg_of X G a__law_kinds,
    f__law_maker := f__law_maker, fd__law_maker := _, F__law_maker := fun_mk (st := s__law_maker) l__law_maker d__law_maker k__law_maker, g__law_maker := PySem.W.mg_of X G a__law_maker,
    f__law_way := f__law_way, fd__law_way := _, F__law_way := fun_mk (st := s__law_way) l__law_way d__law_way k__law_way, g__law_way := PySem.W.mg_of X G a__law_way,
    f__law_words := f__law_words, fd__law_words := _, F__law_words := fun_mk (st := s__law_words) l__law_words d__law_words k__law_words, g__law_words := PySem.W.mg_of X G a__law_words,
    f__law_pairs := f__law_pairs, fd__law_pairs := _, F__law_pairs := fun_mk (st := s__law_pairs) l__law_pairs d__law_pairs k__law_pairs, g__law_pairs := PySem.W.mg_of X G a__law_pairs,
    f__law_can := f__law_can, fd__law_can := _, F__law_can := fun_mk (st := s__law_can) l__law_can d__law_can k__law_can, g__law_can := PySem.W.mg_of X G a__law_can,
    f__law_line := f__law_line, fd__law_line := _, F__law_line := fun_mk (st := s__law_line) l__law_line d__law_line k__law_line, g__law_line := PySem.W.mg_of X G a__law_line,
    f__law_allowed := f__law_allowed, fd__law_allowed := _, F__law_allowed := fun_mk (st := s__law_allowed) l__law_allowed d__law_allowed k__law_allowed, g__law_allowed := PySem.W.mg_of X G a__law_allowed,
    f__law_due := f__law_due, fd__law_due := _, F__law_due := fun_mk (st := s__law_due) l__law_due d__law_due k__law_due, g__law_due := PySem.W.mg_of X G a__law_due,
    f__law_suits := f__law_suits, fd__law_suits := _, F__law_suits := fun_mk (st := s__law_suits) l__law_suits d__law_suits k__law_suits, g__law_suits := PySem.W.mg_of X G a__law_suits,
    f__law_right := f__law_right, fd__law_right := _, F__law_right := fun_mk (st := s__law_right) l__law_right d__law_right k__law_right, g__law_right := PySem.W.mg_of X G a__law_right,
    f_law := fa, fd_law := _, F_law := fun_mk (st := s_law) l_law d_law k_law, g_law := PySem.W.mg_of X G a_law,
    z_tuple := PySem.W.mg_none_of X G z_tuple,
    z_enumerate := PySem.W.mg_none_of X G z_enumerate,
    z_zip := PySem.W.mg_none_of X G z_zip,
    z_len := PySem.W.mg_none_of X G z_len,
    z_all := PySem.W.mg_none_of X G z_all,
    z_set := PySem.W.mg_none_of X G z_set,
    z_int := PySem.W.mg_none_of X G z_int,
    z_range := PySem.W.mg_none_of X G z_range,
    z_str := PySem.W.mg_none_of X G z_str,
    z_min := PySem.W.mg_none_of X G z_min,
    z_isinstance := PySem.W.mg_none_of X G z_isinstance,
    z_bool := PySem.W.mg_none_of X G z_bool,
    v_SIGNS := ⟨_, PySem.W.mg_of X G v_SIGNS⟩,
    v_ROWS := ⟨_, PySem.W.mg_of X G v_ROWS⟩,
    v_PAIRS := ⟨_, PySem.W.mg_of X G v_PAIRS⟩,
    v_NUMBERS := ⟨_, PySem.W.mg_of X G v_NUMBERS⟩,
    v_START := ⟨_, PySem.W.mg_of X G v_START⟩,
    v_LOTS := ⟨_, PySem.W.mg_of X G v_LOTS⟩,
    v_JUDGES := ⟨_, PySem.W.mg_of X G v_JUDGES⟩,
    v_ASKS := ⟨_, PySem.W.mg_of X G v_ASKS⟩
  }
  exact ⟨T.fd_law, fun s v => .of_eq rfl, fun base _ _ => law_all T⟩
theorem start {K : PySem.W.Frag} {H : Hp} {a : Addr} {ns : List Int} {E : XK} (hl : ns.length ≤ 63) (hO : L2.Only H) (hS : SqL K H a (ns.map V.int)) : spL K 1 sp_law [.ref a] H (fun v _ => v = .bl true) E := by
  have hr : RoL K H a (ns.map V.int) := by
    rcases hS with (h | ⟨u, h⟩) | h
    · rcases hO a with e | ⟨u, xs, e⟩
      · rw [e] at h; cases h
      · rw [e] at h; cases h
    · exact .inl ⟨u, h⟩
    · exact .inr h
  have hL : ∀ l : List Int, RepL K H (l.map D.int) (l.map V.int) := fun l => by
    induction l with
    | nil => exact .nil
    | cons x l ih => exact .cons (.int x) ih
  refine ⟨[.rol (ns.map D.int)], fun _ => none, fun v _ => v = .bl true, .cons (.rol hr (hL ns)) .nil, fun _ _ e => (by cases e), ⟨rfl, ns, rfl, by omega, fun _ => rfl⟩, fun v H' dv m' _ _ hv hq => ?_⟩
  subst hq
  cases hv
  rfl
end K29
open PySem PySem.W PyProof.Rows
set_option maxHeartbeats 0 in
theorem PySem.Challenge.cw_chooseonce_k29_signing_of_a_way_holds : PySem.Challenge.rw_chooseonce_k29_signing_of_a_way.Holds := by
  w_on; o_law; k_head; (case hw => w_witness2)
  k_fill
  refine L2.walk_of (l := PySem.Challenge.rw_chooseonce_k29_signing_of_a_way) (n := 63) (k := 10) (x := "_law_script") (CX := fun _ => L2.CX0) (sp := fun w => PD.spL _ 1 K29.sp_law) rfl (by decide) rfl ⟨rfl, by decide, by decide⟩ (fun w h Y => PySem.W.kIn_of Y) ?F (fun _ _ a ns hl hO hS => K29.start hl hO hS) (fun _ _ _ _ _ h => h)
  case F =>
    intro w mg fa h KX G hmg
    refine' K29.all_mk KX G hmg ?ae0 ?xe0 ?re0 ?se0 ?ne0_name ?ie0 ?te0 ?le0 ?de0 ?ke0 ?be0 ?ye0 ?ze0 ?ae1 ?xe1 ?re1 ?se1 ?ne1_word ?ie1 ?te1 ?le1 ?de1 ?ke1 ?be1 ?ye1 ?ze1 ?ae2 ?xe2 ?re2 ?se2 ?ne2_name ?ie2 ?te2 ?le2 ?de2 ?ke2 ?be2 ?ye2 ?ze2 ?ae3 ?xe3 ?re3 ?se3 ?ne3_maker ?ie3 ?te3 ?le3 ?de3 ?ke3 ?be3 ?ye3 ?ze3 ?ae4 ?xe4 ?re4 ?se4 ?ne4_maker ?ie4 ?te4 ?le4 ?de4 ?ke4 ?be4 ?ye4 ?ze4 ?ae5 ?xe5 ?re5 ?se5 ?ne5_judge ?ne5_maker ?ie5 ?te5 ?le5 ?de5 ?ke5 ?be5 ?ye5 ?ze5 ?ae6 ?xe6 ?re6 ?se6 ?ne6_name ?ie6 ?te6 ?le6 ?de6 ?ke6 ?be6 ?ye6 ?ze6 ?ap_Book ?gp_Book ?hp_Book ?op_Book ?sp_Book ?na_Book_signs ?na_Book_program ?na_Book_rows ?na_Book_start ?na_Book__ways ?na_Book__kinds ?na_Book__pairs ?na_Book__numbers ?na_Book__sorts ?na_Book__formulas ?na_Book__asks ?a_letters_of ?l_letters_of ?d_letters_of ?k_letters_of ?a_kinds_of ?l_kinds_of ?d_kinds_of ?k_kinds_of ?a_sign_places ?l_sign_places ?d_sign_places ?k_sign_places ?a_kinds_by_maker ?l_kinds_by_maker ?d_kinds_by_maker ?k_kinds_by_maker ?a__kind_of ?l__kind_of ?d__kind_of ?k__kind_of ?a__refs_to ?l__refs_to ?d__refs_to ?k__refs_to ?a_signing_of ?l_signing_of ?d_signing_of ?k_signing_of ?a_is_signed ?l_is_signed ?d_is_signed ?k_is_signed ?a__tested_refs ?l__tested_refs ?d__tested_refs ?k__tested_refs ?a__signs_for ?l__signs_for ?d__signs_for ?k__signs_for ?a__may_hold ?l__may_hold ?d__may_hold ?k__may_hold ?a__letters_at ?l__letters_at ?d__letters_at ?k__letters_at ?a_judges_of ?l_judges_of ?d_judges_of ?k_judges_of ?a_has_first ?l_has_first ?d_has_first ?k_has_first ?a_all_asks ?l_all_asks ?d_all_asks ?k_all_asks ?a_all_ways ?l_all_ways ?d_all_ways ?k_all_ways ?a_look_formulas ?l_look_formulas ?d_look_formulas ?k_look_formulas ?a_look_asks ?l_look_asks ?d_look_asks ?k_look_asks ?a__first_told ?l__first_told ?d__first_told ?k__first_told ?a__look_makers_of ?l__look_makers_of ?d__look_makers_of ?k__look_makers_of ?a__mentions_in ?l__mentions_in ?d__mentions_in ?k__mentions_in ?a__look_mention ?l__look_mention ?d__look_mention ?k__look_mention ?a__fits ?l__fits ?d__fits ?k__fits ?a__is_let ?l__is_let ?d__is_let ?k__is_let ?a_look_names ?l_look_names ?d_look_names ?k_look_names ?a__look_list ?l__look_list ?d__look_list ?k__look_list ?a_look_mentions ?l_look_mentions ?d_look_mentions ?k_look_mentions ?a_look_makers ?l_look_makers ?d_look_makers ?k_look_makers ?a_look_tests ?l_look_tests ?d_look_tests ?k_look_tests ?a__look_name ?l__look_name ?d__look_name ?k__look_name ?a_has_only ?l_has_only ?d_has_only ?k_has_only ?a_look_signs ?l_look_signs ?d_look_signs ?k_look_signs ?a__words_of ?l__words_of ?d__words_of ?k__words_of ?a__letters_of ?l__letters_of ?d__letters_of ?k__letters_of ?a_Book___init__ ?l_Book___init__ ?d_Book___init__ ?k_Book___init__ ?m_Book___init__ ?mm_Book___init__ ?mk_Book___init__ ?a_Book_in_pairs ?l_Book_in_pairs ?d_Book_in_pairs ?k_Book_in_pairs ?m_Book_in_pairs ?a__look_all ?l__look_all ?d__look_all ?k__look_all ?a__told_by ?l__told_by ?d__told_by ?k__told_by ?a__formulas_of ?l__formulas_of ?d__formulas_of ?k__formulas_of ?a__law_tape ?l__law_tape ?d__law_tape ?k__law_tape ?a__law_pick ?l__law_pick ?d__law_pick ?k__law_pick ?a__law_letters ?l__law_letters ?d__law_letters ?k__law_letters ?a__law_mark ?l__law_mark ?d__law_mark ?k__law_mark ?a__law_piece ?l__law_piece ?d__law_piece ?k__law_piece ?a__law_places ?l__law_places ?d__law_places ?k__law_places ?a__law_kinds ?l__law_kinds ?d__law_kinds ?k__law_kinds ?a__law_maker ?l__law_maker ?d__law_maker ?k__law_maker ?a__law_way ?l__law_way ?d__law_way ?k__law_way ?a__law_words ?l__law_words ?d__law_words ?k__law_words ?a__law_pairs ?l__law_pairs ?d__law_pairs ?k__law_pairs ?a__law_can ?l__law_can ?d__law_can ?k__law_can ?a__law_line ?l__law_line ?d__law_line ?k__law_line ?a__law_allowed ?l__law_allowed ?d__law_allowed ?k__law_allowed ?a__law_due ?l__law_due ?d__law_due ?k__law_due ?a__law_suits ?l__law_suits ?d__law_suits ?k__law_suits ?a__law_right ?l__law_right ?d__law_right ?k__law_right ?a_law ?l_law ?d_law ?k_law ?z_tuple ?z_enumerate ?z_zip ?z_len ?z_all ?z_set ?z_int ?z_range ?z_str ?z_min ?z_isinstance ?z_bool ?v_SIGNS ?v_ROWS ?v_PAIRS ?v_NUMBERS ?v_START ?v_LOTS ?v_JUDGES ?v_ASKS
    (case ae0 => k_is)
    (case xe0 => k_is)
    (case re0 => rfl)
    (case se0 => k_is)
    (case ne0_name => k_is)
    (case ie0 => k_is)
    (case te0 => k_is)
    (case le0 => k_is)
    (case de0 => k_is)
    (case ke0 => k_is)
    (case be0 => k_is)
    (case ye0 => k_is)
    (case ze0 => k_is)
    (case ae1 => k_is)
    (case xe1 => k_is)
    (case re1 => rfl)
    (case se1 => k_is)
    (case ne1_word => k_is)
    (case ie1 => k_is)
    (case te1 => k_is)
    (case le1 => k_is)
    (case de1 => k_is)
    (case ke1 => k_is)
    (case be1 => k_is)
    (case ye1 => k_is)
    (case ze1 => k_is)
    (case ae2 => k_is)
    (case xe2 => k_is)
    (case re2 => rfl)
    (case se2 => k_is)
    (case ne2_name => k_is)
    (case ie2 => k_is)
    (case te2 => k_is)
    (case le2 => k_is)
    (case de2 => k_is)
    (case ke2 => k_is)
    (case be2 => k_is)
    (case ye2 => k_is)
    (case ze2 => k_is)
    (case ae3 => k_is)
    (case xe3 => k_is)
    (case re3 => rfl)
    (case se3 => k_is)
    (case ne3_maker => k_is)
    (case ie3 => k_is)
    (case te3 => k_is)
    (case le3 => k_is)
    (case de3 => k_is)
    (case ke3 => k_is)
    (case be3 => k_is)
    (case ye3 => k_is)
    (case ze3 => k_is)
    (case ae4 => k_is)
    (case xe4 => k_is)
    (case re4 => rfl)
    (case se4 => k_is)
    (case ne4_maker => k_is)
    (case ie4 => k_is)
    (case te4 => k_is)
    (case le4 => k_is)
    (case de4 => k_is)
    (case ke4 => k_is)
    (case be4 => k_is)
    (case ye4 => k_is)
    (case ze4 => k_is)
    (case ae5 => k_is)
    (case xe5 => k_is)
    (case re5 => rfl)
    (case se5 => k_is)
    (case ne5_judge => k_is)
    (case ne5_maker => k_is)
    (case ie5 => k_is)
    (case te5 => k_is)
    (case le5 => k_is)
    (case de5 => k_is)
    (case ke5 => k_is)
    (case be5 => k_is)
    (case ye5 => k_is)
    (case ze5 => k_is)
    (case ae6 => k_is)
    (case xe6 => k_is)
    (case re6 => rfl)
    (case se6 => k_is)
    (case ne6_name => k_is)
    (case ie6 => k_is)
    (case te6 => k_is)
    (case le6 => k_is)
    (case de6 => k_is)
    (case ke6 => k_is)
    (case be6 => k_is)
    (case ye6 => k_is)
    (case ze6 => k_is)
    (case ap_Book => k_is)
    (case gp_Book => k_is)
    (case hp_Book => k_is)
    (case op_Book => k_is)
    (case sp_Book => k_is)
    (case na_Book_signs => k_is)
    (case na_Book_program => k_is)
    (case na_Book_rows => k_is)
    (case na_Book_start => k_is)
    (case na_Book__ways => k_is)
    (case na_Book__kinds => k_is)
    (case na_Book__pairs => k_is)
    (case na_Book__numbers => k_is)
    (case na_Book__sorts => k_is)
    (case na_Book__formulas => k_is)
    (case na_Book__asks => k_is)
    (case a_letters_of => k_is)
    (case l_letters_of => k_is)
    (case d_letters_of => k_is)
    (case k_letters_of => k_is)
    (case a_kinds_of => k_is)
    (case l_kinds_of => k_is)
    (case d_kinds_of => k_is)
    (case k_kinds_of => k_is)
    (case a_sign_places => k_is)
    (case l_sign_places => k_is)
    (case d_sign_places => k_is)
    (case k_sign_places => k_is)
    (case a_kinds_by_maker => k_is)
    (case l_kinds_by_maker => k_is)
    (case d_kinds_by_maker => k_is)
    (case k_kinds_by_maker => k_is)
    (case a__kind_of => k_is)
    (case l__kind_of => k_is)
    (case d__kind_of => k_is)
    (case k__kind_of => k_is)
    (case a__refs_to => k_is)
    (case l__refs_to => k_is)
    (case d__refs_to => k_is)
    (case k__refs_to => k_is)
    (case a_signing_of => k_is)
    (case l_signing_of => k_is)
    (case d_signing_of => k_is)
    (case k_signing_of => k_is)
    (case a_is_signed => k_is)
    (case l_is_signed => k_is)
    (case d_is_signed => k_is)
    (case k_is_signed => k_is)
    (case a__tested_refs => k_is)
    (case l__tested_refs => k_is)
    (case d__tested_refs => k_is)
    (case k__tested_refs => k_is)
    (case a__signs_for => k_is)
    (case l__signs_for => k_is)
    (case d__signs_for => k_is)
    (case k__signs_for => k_is)
    (case a__may_hold => k_is)
    (case l__may_hold => k_is)
    (case d__may_hold => k_is)
    (case k__may_hold => k_is)
    (case a__letters_at => k_is)
    (case l__letters_at => k_is)
    (case d__letters_at => k_is)
    (case k__letters_at => k_is)
    (case a_judges_of => k_is)
    (case l_judges_of => k_is)
    (case d_judges_of => k_is)
    (case k_judges_of => k_is)
    (case a_has_first => k_is)
    (case l_has_first => k_is)
    (case d_has_first => k_is)
    (case k_has_first => k_is)
    (case a_all_asks => k_is)
    (case l_all_asks => k_is)
    (case d_all_asks => k_is)
    (case k_all_asks => k_is)
    (case a_all_ways => k_is)
    (case l_all_ways => k_is)
    (case d_all_ways => k_is)
    (case k_all_ways => k_is)
    (case a_look_formulas => k_is)
    (case l_look_formulas => k_is)
    (case d_look_formulas => k_is)
    (case k_look_formulas => k_is)
    (case a_look_asks => k_is)
    (case l_look_asks => k_is)
    (case d_look_asks => k_is)
    (case k_look_asks => k_is)
    (case a__first_told => k_is)
    (case l__first_told => k_is)
    (case d__first_told => k_is)
    (case k__first_told => k_is)
    (case a__look_makers_of => k_is)
    (case l__look_makers_of => k_is)
    (case d__look_makers_of => k_is)
    (case k__look_makers_of => k_is)
    (case a__mentions_in => k_is)
    (case l__mentions_in => k_is)
    (case d__mentions_in => k_is)
    (case k__mentions_in => k_is)
    (case a__look_mention => k_is)
    (case l__look_mention => k_is)
    (case d__look_mention => k_is)
    (case k__look_mention => k_is)
    (case a__fits => k_is)
    (case l__fits => k_is)
    (case d__fits => k_is)
    (case k__fits => k_is)
    (case a__is_let => k_is)
    (case l__is_let => k_is)
    (case d__is_let => k_is)
    (case k__is_let => k_is)
    (case a_look_names => k_is)
    (case l_look_names => k_is)
    (case d_look_names => k_is)
    (case k_look_names => k_is)
    (case a__look_list => k_is)
    (case l__look_list => k_is)
    (case d__look_list => k_is)
    (case k__look_list => k_is)
    (case a_look_mentions => k_is)
    (case l_look_mentions => k_is)
    (case d_look_mentions => k_is)
    (case k_look_mentions => k_is)
    (case a_look_makers => k_is)
    (case l_look_makers => k_is)
    (case d_look_makers => k_is)
    (case k_look_makers => k_is)
    (case a_look_tests => k_is)
    (case l_look_tests => k_is)
    (case d_look_tests => k_is)
    (case k_look_tests => k_is)
    (case a__look_name => k_is)
    (case l__look_name => k_is)
    (case d__look_name => k_is)
    (case k__look_name => k_is)
    (case a_has_only => k_is)
    (case l_has_only => k_is)
    (case d_has_only => k_is)
    (case k_has_only => k_is)
    (case a_look_signs => k_is)
    (case l_look_signs => k_is)
    (case d_look_signs => k_is)
    (case k_look_signs => k_is)
    (case a__words_of => k_is)
    (case l__words_of => k_is)
    (case d__words_of => k_is)
    (case k__words_of => k_is)
    (case a__letters_of => k_is)
    (case l__letters_of => k_is)
    (case d__letters_of => k_is)
    (case k__letters_of => k_is)
    (case a_Book___init__ => k_is)
    (case l_Book___init__ => k_is)
    (case d_Book___init__ => k_is)
    (case k_Book___init__ => k_is)
    (case m_Book___init__ => k_is)
    (case mm_Book___init__ => k_is)
    (case mk_Book___init__ => k_is)
    (case a_Book_in_pairs => k_is)
    (case l_Book_in_pairs => k_is)
    (case d_Book_in_pairs => k_is)
    (case k_Book_in_pairs => k_is)
    (case m_Book_in_pairs => k_is)
    (case a__look_all => k_is)
    (case l__look_all => k_is)
    (case d__look_all => k_is)
    (case k__look_all => k_is)
    (case a__told_by => k_is)
    (case l__told_by => k_is)
    (case d__told_by => k_is)
    (case k__told_by => k_is)
    (case a__formulas_of => k_is)
    (case l__formulas_of => k_is)
    (case d__formulas_of => k_is)
    (case k__formulas_of => k_is)
    (case a__law_tape => k_is)
    (case l__law_tape => k_is)
    (case d__law_tape => k_is)
    (case k__law_tape => k_is)
    (case a__law_pick => k_is)
    (case l__law_pick => k_is)
    (case d__law_pick => k_is)
    (case k__law_pick => k_is)
    (case a__law_letters => k_is)
    (case l__law_letters => k_is)
    (case d__law_letters => k_is)
    (case k__law_letters => k_is)
    (case a__law_mark => k_is)
    (case l__law_mark => k_is)
    (case d__law_mark => k_is)
    (case k__law_mark => k_is)
    (case a__law_piece => k_is)
    (case l__law_piece => k_is)
    (case d__law_piece => k_is)
    (case k__law_piece => k_is)
    (case a__law_places => k_is)
    (case l__law_places => k_is)
    (case d__law_places => k_is)
    (case k__law_places => k_is)
    (case a__law_kinds => k_is)
    (case l__law_kinds => k_is)
    (case d__law_kinds => k_is)
    (case k__law_kinds => k_is)
    (case a__law_maker => k_is)
    (case l__law_maker => k_is)
    (case d__law_maker => k_is)
    (case k__law_maker => k_is)
    (case a__law_way => k_is)
    (case l__law_way => k_is)
    (case d__law_way => k_is)
    (case k__law_way => k_is)
    (case a__law_words => k_is)
    (case l__law_words => k_is)
    (case d__law_words => k_is)
    (case k__law_words => k_is)
    (case a__law_pairs => k_is)
    (case l__law_pairs => k_is)
    (case d__law_pairs => k_is)
    (case k__law_pairs => k_is)
    (case a__law_can => k_is)
    (case l__law_can => k_is)
    (case d__law_can => k_is)
    (case k__law_can => k_is)
    (case a__law_line => k_is)
    (case l__law_line => k_is)
    (case d__law_line => k_is)
    (case k__law_line => k_is)
    (case a__law_allowed => k_is)
    (case l__law_allowed => k_is)
    (case d__law_allowed => k_is)
    (case k__law_allowed => k_is)
    (case a__law_due => k_is)
    (case l__law_due => k_is)
    (case d__law_due => k_is)
    (case k__law_due => k_is)
    (case a__law_suits => k_is)
    (case l__law_suits => k_is)
    (case d__law_suits => k_is)
    (case k__law_suits => k_is)
    (case a__law_right => k_is)
    (case l__law_right => k_is)
    (case d__law_right => k_is)
    (case k__law_right => k_is)
    (case a_law => k_is)
    (case l_law => k_is)
    (case d_law => k_is)
    (case k_law => k_is)
    (case z_tuple => k_is)
    (case z_enumerate => k_is)
    (case z_zip => k_is)
    (case z_len => k_is)
    (case z_all => k_is)
    (case z_set => k_is)
    (case z_int => k_is)
    (case z_range => k_is)
    (case z_str => k_is)
    (case z_min => k_is)
    (case z_isinstance => k_is)
    (case z_bool => k_is)
    (case v_SIGNS => k_is)
    (case v_ROWS => k_is)
    (case v_PAIRS => k_is)
    (case v_NUMBERS => k_is)
    (case v_START => k_is)
    (case v_LOTS => k_is)
    (case v_JUDGES => k_is)
    (case v_ASKS => k_is)

