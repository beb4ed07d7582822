import PyProof.Rows.All
import Wide.All
import OpenK.AllK
import Wide.FinOn
import HandS.ForMost
import HandS.Gcd
import HandS.Wide
import HandS.WideMore
import HandS.WideBits
import HandS.IsInst
import HandS.SortInts
import HandS.Style
import HandS.Flow
import HandS.Conv
import HandS.ForExc
import HandS.Zip
import HandS.RaiseMore
import HandS.Rev
import HandS.TupAny
import HandS.Deep
import PySem.Challenge.RW_levelroads_k16_whole_groups_and_keepers
set_option Elab.async false
set_option linter.all false
set_option maxRecDepth 100000
set_option maxHeartbeats 4000000
/-! A layer of our own: data in frozen slots, lists that a def owns. -/
namespace Lv
open PySem PySem.Spec PyProof.Rows L2

/-! ### heaps -/
def Ext (H H' : Hp) : Prop := ∀ a o, H a = some o → H' a = some o
theorem Ext.rfl' (H : Hp) : Ext H H := fun _ _ h => h
theorem Ext.tr {H H1 H2 : Hp} (a : Ext H H1) (b : Ext H1 H2) : Ext H H2 := fun x o h => b x o (a x o h)
theorem Ext.none {H H' : Hp} {a : Addr} (e : Ext H H') (h : H' a = none) : H a = none := by
  cases q : H a with
  | none => rfl
  | some o => rw [e a o q] at h; cases h
theorem Ext.sql {K : PySem.W.Frag} {H H' : Hp} {a : Addr} {xs : List V} (e : Ext H H') (h : SqL K H a xs) : SqL K H' a xs := by
  rcases h with (h | ⟨o, h⟩) | h
  · exact .inl (.inl (e _ _ h))
  · exact .inl (.inr ⟨o, e _ _ h⟩)
  · exact .inr h
theorem Ext.sqt {K : PySem.W.Frag} {H H' : Hp} {a : Addr} {xs : List V} (e : Ext H H') (h : SqT K H a xs) : SqT K H' a xs := by
  rcases h with (h | ⟨o, h⟩) | h
  · exact .inl (.inl (e _ _ h))
  · exact .inl (.inr ⟨o, e _ _ h⟩)
  · exact .inr h
theorem Ext.rd {H H' : Hp} {a : Addr} {o : HO} (e : Ext H H') (h : Rd H a o) : Rd H' a o := h.imp (e _ _) fun ⟨od, h⟩ => ⟨od, e _ _ h⟩
/-! ### data -/
inductive Dt where
  | none
  | bool (b : Bool)
  | int (i : Int)
  | str (x : Str)
  | list (l : List Dt)
  | tuple (l : List Dt)
  | dK (ks : List Key) (l : List Dt)
  | dT (ks : List (List Key)) (l : List Dt)
  | obj (C : Addr) (fs : List Str) (l : List Dt)
  | scr (l : List Dt)
mutual
inductive Dq (K : PySem.W.Frag) (H : Hp) : V → Dt → Prop
  | non : Dq K H .non .none
  | bl (b : Bool) : Dq K H (.bl b) (.bool b)
  | int (i : Int) : Dq K H (.int i) (.int i)
  | str (x : Str) : Dq K H (.str x) (.str x)
  | lst {a : Addr} {xs : List V} {ds : List Dt} : H a = some (.lst xs) → DqAll K H xs ds → Dq K H (.ref a) (.list ds)
  | scr {a : Addr} {xs : List V} {ds : List Dt} : SqL K H a xs → DqAll K H xs ds → Dq K H (.ref a) (.scr ds)
  | tup {a : Addr} {xs : List V} {ds : List Dt} : SqT K H a xs → DqAll K H xs ds → Dq K H (.ref a) (.tuple ds)
  | dK {a : Addr} {od : Obj} {ks : List Key} {xs : List V} {ds : List Dt} : ks.length = xs.length → H a = some (.frz od (.dK (ks.zip xs))) → DqAll K H xs ds → Dq K H (.ref a) (.dK ks ds)
  | dT {a : Addr} {od : Obj} {ks : List (List Key)} {xs : List V} {ds : List Dt} : ks.length = xs.length → H a = some (.frz od (.dT (ks.zip xs))) → DqAll K H xs ds → Dq K H (.ref a) (.dT ks ds)
  | obj {a C dx : Addr} {fs : List Str} {xs : List V} {ds : List Dt} : fs.length = xs.length → H a = some (.ins C dx (fs.zip xs)) → DqAll K H xs ds → Dq K H (.ref a) (.obj C fs ds)
inductive DqAll (K : PySem.W.Frag) (H : Hp) : List V → List Dt → Prop
  | nil : DqAll K H [] []
  | cons {v : V} {vs : List V} {d : Dt} {ds : List Dt} : Dq K H v d → DqAll K H vs ds → DqAll K H (v :: vs) (d :: ds)
end
mutual
theorem Ext.dp {K : PySem.W.Frag} {H H' : Hp} (e : Ext H H') : ∀ (d : Dt) (v : V), Dq K H v d → Dq K H' v d
  | .none, _, h => by cases h; exact .non
  | .bool b, _, h => by cases h; exact .bl b
  | .int i, _, h => by cases h; exact .int i
  | .str x, _, h => by cases h; exact .str x
  | .list ds, _, h => by
    cases h with
    | lst hs ha => exact .lst (e _ _ hs) (Ext.dpa e ds _ ha)
  | .tuple ds, _, h => by
    cases h with
    | tup hs ha => exact .tup (e.sqt hs) (Ext.dpa e ds _ ha)
  | .dK _ ds, _, h => by
    cases h with
    | dK hl hs ha => exact .dK hl (e _ _ hs) (Ext.dpa e ds _ ha)
  | .dT _ ds, _, h => by
    cases h with
    | dT hl hs ha => exact .dT hl (e _ _ hs) (Ext.dpa e ds _ ha)
  | .obj _ _ ds, _, h => by
    cases h with
    | obj hl hs ha => exact .obj hl (e _ _ hs) (Ext.dpa e ds _ ha)
  | .scr ds, _, h => by
    cases h with
    | scr hs ha => exact .scr (e.sql hs) (Ext.dpa e ds _ ha)
theorem Ext.dpa {K : PySem.W.Frag} {H H' : Hp} (e : Ext H H') : ∀ (ds : List Dt) (vs : List V), DqAll K H vs ds → DqAll K H' vs ds
  | [], _, h => by cases h; exact .nil
  | d :: ds, _, h => by
    cases h with
    | cons h1 h2 => exact .cons (Ext.dp e d _ h1) (Ext.dpa e ds _ h2)
end
mutual
/-- as the library's data, where == tells it apart -/
def toPy : Dt → PyData
  | .none => .none
  | .bool b => .bool b
  | .int i => .int i
  | .str x => .str x
  | .list l => .list (toPys l)
  | .tuple l => .tuple (toPys l)
  | .dK _ _ => .dict []
  | .dT _ _ => .dict []
  | .obj _ _ _ => .dict []
  | .scr _ => .dict []
def toPys : List Dt → List PyData
  | [] => []
  | d :: r => toPy d :: toPys r
end
mutual
def plain : Dt → Bool
  | .list l => plains l
  | .tuple l => plains l
  | .dK _ _ => false
  | .dT _ _ => false
  | .obj _ _ _ => false
  | .scr _ => false
  | _ => true
def plains : List Dt → Bool
  | [] => true
  | d :: r => plain d && plains r
end
mutual
theorem dq_dp {K : PySem.W.Frag} {H : Hp} : ∀ (d : Dt) (v : V), plain d = true → Dq K H v d → Dp K H v (toPy d)
  | .none, _, _, h => by cases h; exact .non
  | .bool b, _, _, h => by cases h; exact .bl b
  | .int i, _, _, h => by cases h; exact .int i
  | .str x, _, _, h => by cases h; exact .str x
  | .list ds, _, p, h => by
    cases h with
    | lst hs ha => exact .lst (.inl (.inl hs)) (dqa_dpa ds _ p ha)
  | .tuple ds, _, p, h => by
    cases h with
    | tup hs ha => exact .tup hs (dqa_dpa ds _ p ha)
  | .dK _ ds, _, p, h => by cases p
  | .dT _ ds, _, p, h => by cases p
  | .obj _ _ ds, _, p, h => by cases p
  | .scr _, _, p, h => by cases p
theorem dqa_dpa {K : PySem.W.Frag} {H : Hp} : ∀ (ds : List Dt) (vs : List V), plains ds = true → DqAll K H vs ds → DpAll K H vs (toPys ds)
  | [], _, _, h => by cases h; exact .nil
  | d :: ds, _, p, h => by
    have p' : (plain d && plains ds) = true := p
    rw [Bool.and_eq_true] at p'
    cases h with
    | cons h1 h2 => exact .cons (dq_dp d _ p'.1 h1) (dqa_dpa ds _ p'.2 h2)
end
/-- == of data -/
def eqD (d e : Dt) : Bool := PyData.eqv (toPy d) (toPy e)
/-- what == may be asked of -/
def shD (d : Dt) : Prop := plain d = true ∧ SeqAt.shaped (toPy d) = true
section
variable {K : PySem.W.Frag} {H : Hp}
theorem dpa_len : ∀ {vs : List V} {ds : List Dt}, DqAll K H vs ds → vs.length = ds.length
  | _, _, .nil => rfl
  | _, _, .cons _ t => congrArg (· + 1) (dpa_len t)
theorem dpa_get : ∀ {vs : List V} {ds : List Dt} {i : Nat} {d : Dt}, DqAll K H vs ds → ds[i]? = some d → ∃ v, vs[i]? = some v ∧ Dq K H v d
  | _, _, _, _, .nil, h => by simp at h
  | _, _, 0, _, .cons r _, h => by simp at h; subst h; exact ⟨_, rfl, r⟩
  | _, _, i + 1, _, .cons _ t, h => by
    obtain ⟨v, h1, h2⟩ := dpa_get (i := i) t (by simpa using h)
    exact ⟨v, by simpa using h1, h2⟩
theorem dpa_getv : ∀ {vs : List V} {ds : List Dt} {i : Nat} {v : V}, DqAll K H vs ds → vs[i]? = some v → ∃ d, ds[i]? = some d ∧ Dq K H v d
  | _, _, _, _, .nil, h => by simp at h
  | _, _, 0, _, .cons r _, h => by simp at h; subst h; exact ⟨_, rfl, r⟩
  | _, _, i + 1, _, .cons _ t, h => by
    obtain ⟨v, h1, h2⟩ := dpa_getv (i := i) t (by simpa using h)
    exact ⟨v, by simpa using h1, h2⟩
theorem dpa_app : ∀ {vs us : List V} {ds es : List Dt}, DqAll K H vs ds → DqAll K H us es → DqAll K H (vs ++ us) (ds ++ es)
  | _, _, _, _, .nil, s => s
  | _, _, _, _, .cons r t, s => .cons r (dpa_app t s)
theorem dpa_ints : ∀ {vs : List V} {ns : List Int}, DqAll K H vs (ns.map Dt.int) → vs = ns.map V.int
  | _, [], .nil => rfl
  | _, n :: ns, .cons r t => by
    cases r
    rw [dpa_ints t]; rfl
theorem dpa_of_ints : ∀ (ns : List Int), DqAll K H (ns.map V.int) (ns.map Dt.int)
  | [] => .nil
  | n :: ns => .cons (.int n) (dpa_of_ints ns)
theorem dpa_bools : ∀ {vs : List V} {ns : List Bool}, DqAll K H vs (ns.map Dt.bool) → vs = ns.map V.bl
  | _, [], .nil => rfl
  | _, n :: ns, .cons r t => by
    cases r
    rw [dpa_bools t]; rfl
end

/-! ### slots: nothing known, frozen data, a thing that the def owns -/
/-- what a def may own: a list, a dict with plain keys, with tuple keys, an instance -/
inductive Ow where
  | l (ds : List Dt)
  | dK (ks : List Key) (ds : List Dt)
  | dT (ks : List (List Key)) (ds : List Dt)
  | obj (C : Addr) (fs : List Str) (ds : List Dt)
inductive Sl where
  | no
  | fz (d : Dt)
  | own (b : Bool) (c : Ow)
theorem Sl.ow.injEq (b c : Bool) (ds es : List Dt) : (Sl.own b (.l ds) = Sl.own c (.l es)) = (b = c ∧ ds = es) := by
  rw [Sl.own.injEq, Ow.l.injEq]
/-- the object of what is owned -/
inductive OwR (K : PySem.W.Frag) (B : Hp) : HO → Ow → Prop
  | l {xs : List V} {ds : List Dt} : DqAll K B xs ds → OwR K B (.lst xs) (.l ds)
  | dK {ks : List Key} {xs : List V} {ds : List Dt} : ks.length = xs.length → DqAll K B xs ds → OwR K B (.dK (ks.zip xs)) (.dK ks ds)
  | dT {ks : List (List Key)} {xs : List V} {ds : List Dt} : ks.length = xs.length → DqAll K B xs ds → OwR K B (.dT (ks.zip xs)) (.dT ks ds)
  | obj {C dx : Addr} {fs : List Str} {xs : List V} {ds : List Dt} : fs.length = xs.length → DqAll K B xs ds → OwR K B (.ins C dx (fs.zip xs)) (.obj C fs ds)
theorem OwR.up {K : PySem.W.Frag} {B B' : Hp} {o : HO} {c : Ow} (e : Ext B B') (h : OwR K B o c) : OwR K B' o c := by
  cases h with
  | l a => exact .l (e.dpa _ _ a)
  | dK l a => exact .dK l (e.dpa _ _ a)
  | dT l a => exact .dT l (e.dpa _ _ a)
  | obj l a => exact .obj l (e.dpa _ _ a)
/-- as data -/
def Ow.dt : Ow → Dt
  | .l ds => .list ds
  | .dK ks ds => .dK ks ds
  | .dT ks ds => .dT ks ds
  | .obj C fs ds => .obj C fs ds
/-- a frame's entry: what was frozen, what was there, which things were handed over -/
structure Fm where
  B : Hp
  H : Hp
  S : List Addr
structure En0 (K : PySem.W.Frag) (F : Fm) (B H : Hp) (σ : L2.St) (es : List Sl) : Prop where
  bh : Ext B H
  fb : Ext F.B B
  fh : ∀ a o, F.H a = some o → a ∉ F.S → H a = some o
  fr : ∀ a, F.H a ≠ none → B a = F.B a
  st : ∀ a ∈ F.S, H a ≠ none
  len : σ.length = es.length
  fz : ∀ (i : Nat) (d : Dt), es[i]? = some (.fz d) → ∃ v, σ[i]? = some (some v) ∧ Dq K B v d
  own : ∃ ad : Nat → Addr, (∀ (i : Nat) (b : Bool) (c : Ow), es[i]? = some (.own b c) → σ[i]? = some (some (.ref (ad i))) ∧ B (ad i) = none ∧ ((b = true → F.H (ad i) = none) ∧ (b = false → ad i ∈ F.S)) ∧ ∃ o, H (ad i) = some o ∧ OwR K B o c) ∧
    ∀ (i j : Nat) (b c : Bool) (d d' : Ow), es[i]? = some (.own b d) → es[j]? = some (.own c d') → ad i = ad j → i = j
section
variable {K : PySem.W.Frag} {F : Fm} {B H : Hp} {σ : L2.St} {es : List Sl}
/-- the lists among them -/
theorem En0.ow (I : En0 K F B H σ es) : ∃ ad : Nat → Addr, (∀ (i : Nat) (b : Bool) (ds : List Dt), es[i]? = some (.own b (.l ds)) → σ[i]? = some (some (.ref (ad i))) ∧ B (ad i) = none ∧ ((b = true → F.H (ad i) = none) ∧ (b = false → ad i ∈ F.S)) ∧ ∃ xs, H (ad i) = some (.lst xs) ∧ DqAll K B xs ds) ∧
    ∀ (i j : Nat) (b c : Bool) (ds es' : List Dt), es[i]? = some (.own b (.l ds)) → es[j]? = some (.own c (.l es')) → ad i = ad j → i = j := by
  obtain ⟨ad, h1, h2⟩ := I.own
  refine ⟨ad, fun i b ds h => ?_, fun i j b c d e => h2 i j b c _ _⟩
  obtain ⟨a1, a2, a3, o, a4, a5⟩ := h1 i b _ h
  cases a5 with
  | l a => exact ⟨a1, a2, a3, _, a4, a⟩
theorem En0.bnone (I : En0 K F B H σ es) {p : Addr} (h : H p = none) : B p = none := I.bh.none h
theorem En0.fnone (I : En0 K F B H σ es) {p : Addr} (h : H p = none) : F.H p = none := by
  cases q : F.H p with
  | none => rfl
  | some o =>
    by_cases hp : p ∈ F.S
    · exact absurd h (I.st p hp)
    · rw [I.fh p o q hp] at h; cases h
/-- the heaps grow: what is new is frozen or nobody's -/
theorem En0.grow (I : En0 K F B H σ es) {B' H' : Hp} (eb : Ext B B') (eh : Ext H H') (bh : Ext B' H') (n : ∀ a, H a ≠ none → B' a = B a) : En0 K F B' H' σ es where
  bh := bh
  fb := I.fb.tr eb
  fh := fun a o h hs => eh a o (I.fh a o h hs)
  fr := fun a h => by
    have : H a ≠ none := fun z => h (I.fnone z)
    rw [n a this, I.fr a h]
  st := fun a h z => I.st a h (eh.none z)
  len := I.len
  fz := fun i d h => by
    obtain ⟨v, h1, h2⟩ := I.fz i d h
    exact ⟨v, h1, eb.dp d v h2⟩
  own := by
    obtain ⟨ad, h1, h2⟩ := I.own
    refine ⟨ad, fun i b c h => ?_, h2⟩
    obtain ⟨a1, a2, a3, o, a4, a5⟩ := h1 i b c h
    exact ⟨a1, by rw [n _ (by rw [a4]; simp)]; exact a2, a3, o, eh _ _ a4, a5.up eb⟩
/-- a new frozen object -/
theorem En0.new (I : En0 K F B H σ es) {p : Addr} {o : HO} (h : H p = none) : En0 K F (upd B p o) (upd H p o) σ es := by
  have hb := I.bnone h
  refine I.grow (fun a u e => ?_) (fun a u e => ?_) (fun a u e => ?_) (fun a e => ?_)
  · rw [upd_ne (ne_of_none e hb)]; exact e
  · rw [upd_ne (ne_of_none e h)]; exact e
  · by_cases ha : a = p
    · subst ha; rw [upd_same] at e ⊢; exact e
    · rw [upd_ne ha] at e ⊢; exact I.bh a u e
  · rw [upd_ne (fun z => e (by rw [z]; exact h))]
theorem En0.newB (I : En0 K F B H σ es) {p : Addr} {o : HO} (h : H p = none) : Ext B (upd B p o) := fun a u e => by
  rw [upd_ne (ne_of_none e (I.bnone h))]; exact e
/-- a new object that stays nobody's: the ghost does not know it -/
theorem En0.newO (I : En0 K F B H σ es) {p : Addr} {o : HO} (h : H p = none) : En0 K F B (upd H p o) σ es := by
  refine I.grow (Ext.rfl' B) (fun a u e => ?_) (fun a u e => ?_) (fun a e => rfl)
  · rw [upd_ne (ne_of_none e h)]; exact e
  · rw [upd_ne (ne_of_none (I.bh a u e) h)]; exact I.bh a u e
theorem set_get {α : Type} {l : List α} {i j : Nat} {x y : α} (h : (l.set i x)[j]? = some y) : (i = j ∧ y = x) ∨ (i ≠ j ∧ l[j]? = some y) := by
  by_cases e : i = j
  · subst e
    by_cases hi : i < l.length
    · rw [List.getElem?_set_self hi] at h; exact .inl ⟨rfl, (Option.some.inj h).symm⟩
    · rw [List.getElem?_eq_none (by simpa using hi)] at h; cases h
  · rw [List.getElem?_set_ne e] at h; exact .inr ⟨e, h⟩
/-- a slot takes frozen data -/
theorem En0.put (I : En0 K F B H σ es) {i : Nat} {v : V} {d : Dt} (h : Dq K B v d) : En0 K F B H (σ.set i (some v)) (es.set i (.fz d)) where
  bh := I.bh
  fb := I.fb
  fh := I.fh
  fr := I.fr
  st := I.st
  len := by rw [List.length_set, List.length_set]; exact I.len
  fz := fun j d' hj => by
    rcases set_get hj with ⟨e, e2⟩ | ⟨e, e2⟩
    · subst e; cases e2
      have hi : i < es.length := by
        have := (List.getElem?_eq_some_iff.mp hj).1
        simpa using this
      exact ⟨v, List.getElem?_set_self (by rw [I.len]; exact hi), h⟩
    · obtain ⟨u, h1, h2⟩ := I.fz j d' e2
      exact ⟨u, by rw [List.getElem?_set_ne e]; exact h1, h2⟩
  own := by
    obtain ⟨ad, h1, h2⟩ := I.own
    refine ⟨ad, fun j b ds hj => ?_, fun j k b c ds ds' hj hk => ?_⟩
    · rcases set_get hj with ⟨e, e2⟩ | ⟨e, e2⟩
      · cases e2
      · obtain ⟨a1, a2⟩ := h1 j b ds e2
        exact ⟨by rw [List.getElem?_set_ne e]; exact a1, a2⟩
    · rcases set_get hj with ⟨_, e2⟩ | ⟨_, e2⟩
      · cases e2
      · rcases set_get hk with ⟨_, e3⟩ | ⟨_, e3⟩
        · cases e3
        · exact h2 j k b c ds ds' e2 e3
/-- a slot is forgotten -/
theorem En0.drop (I : En0 K F B H σ es) {i : Nat} {x : Option V} : En0 K F B H (σ.set i x) (es.set i .no) where
  bh := I.bh
  fb := I.fb
  fh := I.fh
  fr := I.fr
  st := I.st
  len := by rw [List.length_set, List.length_set]; exact I.len
  fz := fun j d' hj => by
    rcases set_get hj with ⟨e, e2⟩ | ⟨e, e2⟩
    · cases e2
    · obtain ⟨u, h1, h2⟩ := I.fz j d' e2
      exact ⟨u, by rw [List.getElem?_set_ne e]; exact h1, h2⟩
  own := by
    obtain ⟨ad, h1, h2⟩ := I.own
    refine ⟨ad, fun j b ds hj => ?_, fun j k b c ds ds' hj hk => ?_⟩
    · rcases set_get hj with ⟨e, e2⟩ | ⟨e, e2⟩
      · cases e2
      · obtain ⟨a1, a2⟩ := h1 j b ds e2
        exact ⟨by rw [List.getElem?_set_ne e]; exact a1, a2⟩
    · rcases set_get hj with ⟨_, e2⟩ | ⟨_, e2⟩
      · cases e2
      · rcases set_get hk with ⟨_, e3⟩ | ⟨_, e3⟩
        · cases e3
        · exact h2 j k b c ds ds' e2 e3
/-- the place of what a slot owns is none of the others' -/
def NotOwn (σ : L2.St) (es : List Sl) (a : Addr) : Prop := ∀ (i : Nat) (b : Bool) (c : Ow), es[i]? = some (.own b c) → σ[i]? ≠ some (some (V.ref a))
/-- a slot takes a thing that nobody else holds -/
theorem En0.putC (I : En0 K F B H σ es) {i : Nat} {p : Addr} {o : HO} {c : Ow} (hF : F.H p = none) (hB : B p = none) (hp : H p = some o) (hno : NotOwn σ es p) (h : OwR K B o c) : En0 K F B H (σ.set i (some (.ref p))) (es.set i (.own true c)) := by
  refine ⟨I.bh, I.fb, I.fh, I.fr, I.st, by rw [List.length_set, List.length_set]; exact I.len, fun j d' hj => ?_, ?_⟩
  · rcases set_get hj with ⟨e, e2⟩ | ⟨e, e2⟩
    · cases e2
    · obtain ⟨u, h1, h2⟩ := I.fz j d' e2
      exact ⟨u, by rw [List.getElem?_set_ne e]; exact h1, h2⟩
  · obtain ⟨ad, h1, h2⟩ := I.own
    have key : ∀ (j : Nat) (b : Bool) (ds : Ow), es[j]? = some (.own b ds) → ad j ≠ p := fun j b ds hj z => by
      refine hno j b ds hj ?_
      rw [← z]; exact (h1 j b ds hj).1
    refine ⟨fun j => if j = i then p else ad j, fun j b ds' hj => ?_, fun j k b c ds' ds'' hj hk => ?_⟩
    · rcases set_get hj with ⟨e, e2⟩ | ⟨e, e2⟩
      · subst e; cases e2
        have hi : i < es.length := by
          have := (List.getElem?_eq_some_iff.mp hj).1
          simpa using this
        refine ⟨?_, ?_, ?_, o, ?_, h⟩ <;> simp only [if_true]
        · exact List.getElem?_set_self (by rw [I.len]; exact hi)
        · exact hB
        · exact ⟨fun _ => hF, fun z => by cases z⟩
        · exact hp
      · obtain ⟨a1, a2, a3, ys, a4, a5⟩ := h1 j b ds' e2
        have ej : j ≠ i := fun z => e z.symm
        refine ⟨?_, ?_, ?_, ys, ?_, a5⟩ <;> simp only [if_neg ej]
        · rw [List.getElem?_set_ne e]; exact a1
        · exact a2
        · exact a3
        · exact a4
    · rcases set_get hj with ⟨e, e2⟩ | ⟨e, e2⟩ <;> rcases set_get hk with ⟨f, f2⟩ | ⟨f, f2⟩
      · intro _; rw [← e, ← f]
      · subst e
        have fk : k ≠ i := fun z => f z.symm
        simp only [if_true, if_neg fk]
        intro z; exact absurd z.symm (key k c ds'' f2)
      · subst f
        have ej : j ≠ i := fun z => e z.symm
        simp only [if_true, if_neg ej]
        intro z; exact absurd z (key j b ds' e2)
      · have ej : j ≠ i := fun z => e z.symm
        have fk : k ≠ i := fun z => f z.symm
        simp only [if_neg ej, if_neg fk]
        exact h2 j k b c ds' ds'' e2 f2
theorem notOwn_none (I : En0 K F B H σ es) {p : Addr} (hp : H p = none) : NotOwn σ es p := fun i b ds hi hs => by
  obtain ⟨ad, h1, _⟩ := I.own
  obtain ⟨a1, _, _, ys, a4, _⟩ := h1 i b ds hi
  rw [a1] at hs
  have : ad i = p := by injection hs with hs; injection hs with hs; injection hs
  rw [this, hp] at a4; cases a4
/-- a slot takes a new thing that the def owns -/
theorem En0.putN (I : En0 K F B H σ es) {i : Nat} {p : Addr} {o : HO} {c : Ow} (hp : H p = none) (h : OwR K B o c) : En0 K F B (upd H p o) (σ.set i (some (.ref p))) (es.set i (.own true c)) :=
  (I.newO (o := o) hp).putC (I.fnone hp) (I.bnone hp) upd_same (notOwn_none I hp) h
theorem En0.putO (I : En0 K F B H σ es) {i : Nat} {p : Addr} {xs : List V} {ds : List Dt} (hp : H p = none) (h : DqAll K B xs ds) : En0 K F B (upd H p (.lst xs)) (σ.set i (some (.ref p))) (es.set i (.own true (.l ds))) := I.putN hp (.l h)
theorem En0.putP (I : En0 K F B H σ es) {i : Nat} {p : Addr} {xs : List V} {ds : List Dt} (hF : F.H p = none) (hB : B p = none) (hp : H p = some (.lst xs)) (hno : NotOwn σ es p) (h : DqAll K B xs ds) : En0 K F B H (σ.set i (some (.ref p))) (es.set i (.own true (.l ds))) := I.putC hF hB hp hno (.l h)
/-- an owned thing changes -/
theorem En0.mutC (I : En0 K F B H σ es) {i : Nat} {p : Addr} {b : Bool} {c : Ow} (he : es[i]? = some (.own b c)) (hs : σ[i]? = some (some (.ref p))) {o' : HO} {c' : Ow} (h : OwR K B o' c') :
    En0 K F B (upd H p o') σ (es.set i (.own b c')) := by
  obtain ⟨ad, h1, h2⟩ := I.own
  obtain ⟨a1, a2, a3, xs, a4, a5⟩ := h1 i b c he
  have ep : ad i = p := by rw [a1] at hs; injection hs with hs; injection hs with hs; injection hs
  have hB : B p = none := by rw [← ep]; exact a2
  have hi : i < es.length := (List.getElem?_eq_some_iff.mp he).1
  refine ⟨fun a u e => ?_, I.fb, fun a o hf hS => ?_, I.fr, fun a hf z => ?_, by rw [List.length_set]; exact I.len, fun j d' hj => ?_, ad, fun j b' ds'' hj => ?_, fun j k b1 b2 d1 d2 hj hk => ?_⟩
  · rw [upd_ne (ne_of_none e hB)]; exact I.bh a u e
  · have : a ≠ p := fun z => by
      subst z
      cases b with
      | true =>
        have z := a3.1 rfl
        rw [ep, hf] at z; cases z
      | false =>
        have z := a3.2 rfl
        rw [ep] at z; exact hS z
    rw [upd_ne this]; exact I.fh a o hf hS
  · by_cases ha : a = p
    · subst ha; rw [upd_same] at z; cases z
    · rw [upd_ne ha] at z; exact I.st a hf z
  · rcases set_get hj with ⟨e, e2⟩ | ⟨e, e2⟩
    · cases e2
    · exact I.fz j d' e2
  · rcases set_get hj with ⟨e, e2⟩ | ⟨e, e2⟩
    · subst e; cases e2
      exact ⟨a1, a2, a3, o', by rw [ep]; exact upd_same, h⟩
    · obtain ⟨b1, b2, b3, ys, b4, b5⟩ := h1 j b' ds'' e2
      have ne : ad j ≠ p := fun z => e (h2 i j b b' c ds'' he e2 (ep.trans z.symm))
      exact ⟨b1, b2, b3, ys, by rw [upd_ne ne]; exact b4, b5⟩
  · have old : ∀ (m : Nat) (bm : Bool) (dm : Ow), (es.set i (.own b c'))[m]? = some (.own bm dm) → ∃ bm' dm', es[m]? = some (.own bm' dm') := fun m bm dm hm => by
      rcases set_get hm with ⟨e, e2⟩ | ⟨e, e2⟩
      · exact ⟨b, c, by rw [← e]; exact he⟩
      · exact ⟨bm, dm, e2⟩
    obtain ⟨_, d1', q1⟩ := old j b1 d1 hj
    obtain ⟨_, d2', q2⟩ := old k b2 d2 hk
    exact h2 j k _ _ d1' d2' q1 q2
theorem En0.mut (I : En0 K F B H σ es) {i : Nat} {p : Addr} {b : Bool} {ds : List Dt} (he : es[i]? = some (.own b (.l ds))) (hs : σ[i]? = some (some (.ref p))) {xs' : List V} {ds' : List Dt} (h : DqAll K B xs' ds') :
    En0 K F B (upd H p (.lst xs')) σ (es.set i (.own b (.l ds'))) := I.mutC he hs (.l h)
/-- what a slot owns: where it lies -/
theorem En0.at (I : En0 K F B H σ es) {i : Nat} {b : Bool} {c : Ow} (he : es[i]? = some (.own b c)) : ∃ (p : Addr) (o : HO), σ[i]? = some (some (.ref p)) ∧ B p = none ∧ ((b = true → F.H p = none) ∧ (b = false → p ∈ F.S)) ∧ H p = some o ∧ OwR K B o c := by
  obtain ⟨ad, h1, _⟩ := I.own
  obtain ⟨a1, a2, a3, o, a4, a5⟩ := h1 i b c he
  exact ⟨_, o, a1, a2, a3, a4, a5⟩
/-- an owned thing is frozen, as the object o', if it was made in this frame -/
theorem En0.freezeC (I : En0 K F B H σ es) {i : Nat} {p : Addr} {c : Ow} {o' : HO} {d : Dt} (he : es[i]? = some (.own true c)) (hs : σ[i]? = some (some (.ref p))) (hd : ∀ B', Ext B B' → B' p = some o' → Dq K B' (.ref p) d) : ∃ B', Ext B B' ∧ En0 K F B' (upd H p o') σ (es.set i (.fz d)) := by
  obtain ⟨ad, h1, h2⟩ := I.own
  obtain ⟨a1, a2, a3, xs, a4, a5⟩ := h1 i true c he
  have ep : ad i = p := by rw [a1] at hs; injection hs with hs; injection hs with hs; injection hs
  subst ep
  have eB : Ext B (upd B (ad i) o') := fun a u e => by rw [upd_ne (ne_of_none e a2)]; exact e
  have hF : F.H (ad i) = none := a3.1 rfl
  refine ⟨upd B (ad i) o', eB, fun a u e => ?_, I.fb.tr eB, fun a o hf hS => ?_, fun a h => ?_, fun a ha z => ?_, by rw [List.length_set]; exact I.len, fun j d' hj => ?_, ad, fun j b' ds'' hj => ?_, fun j k b1 b2 d1 d2 hj hk => ?_⟩
  · by_cases ha : a = ad i
    · subst ha; rw [upd_same] at e ⊢; exact e
    · rw [upd_ne ha] at e ⊢; exact I.bh a u e
  · rw [upd_ne (fun z => by rw [z, hF] at hf; cases hf)]; exact I.fh a o hf hS
  · rw [upd_ne (fun z => h (by rw [z]; exact hF))]; exact I.fr a h
  · by_cases e : a = ad i
    · subst e; rw [upd_same] at z; cases z
    · rw [upd_ne e] at z; exact I.st a ha z
  · rcases set_get hj with ⟨e, e2⟩ | ⟨e, e2⟩
    · subst e; cases e2
      exact ⟨_, a1, hd _ eB upd_same⟩
    · obtain ⟨u, q1, q2⟩ := I.fz j d' e2
      exact ⟨u, q1, eB.dp d' u q2⟩
  · rcases set_get hj with ⟨e, e2⟩ | ⟨e, e2⟩
    · cases e2
    · obtain ⟨b1, b2, b3, ys, b4, b5⟩ := h1 j b' ds'' e2
      have ne : ad j ≠ ad i := fun z => e (h2 i j true b' c ds'' he e2 z.symm)
      exact ⟨b1, by rw [upd_ne ne]; exact b2, b3, ys, by rw [upd_ne ne]; exact b4, b5.up eB⟩
  · rcases set_get hj with ⟨_, e2⟩ | ⟨_, e2⟩
    · cases e2
    · rcases set_get hk with ⟨_, e3⟩ | ⟨_, e3⟩
      · cases e3
      · exact h2 j k b1 b2 d1 d2 e2 e3
theorem upd_self {H : Hp} {a : Addr} {o : HO} (h : H a = some o) : upd H a o = H := by
  funext b
  by_cases e : b = a
  · subst e; rw [upd_same, h]
  · rw [upd_ne e]
theorem En0.freeze (I : En0 K F B H σ es) {i : Nat} {ds : List Dt} (he : es[i]? = some (.own true (.l ds))) : ∃ B', Ext B B' ∧ En0 K F B' H σ (es.set i (.fz (.list ds))) := by
  obtain ⟨p, o, a1, a2, a3, a4, a5⟩ := I.at he
  cases a5 with
  | l a =>
    obtain ⟨B', e, J⟩ := I.freezeC (d := .list ds) he a1 fun B' eB h => .lst h (eB.dpa _ _ a)
    rw [upd_self a4] at J
    exact ⟨B', e, J⟩
end
/-! ### exceptions that leave a def: the class by its name, what it keeps -/
structure Xn where
  cls : Str
  kept : Option (Str × Dt)
/-- an exception in the air: its class, its own dict -/
def Xc (K : PySem.W.Frag) (mg : Str → Option Value) (B H : Hp) (cls : Value) (d : Option Addr) (x : Xn) : Prop :=
  (∃ C, cls = .ref C ∧ mg x.cls = some (.ref C)) ∧ match x.kept with
    | none => True
    | some (f, t) => ∃ (dd : Addr) (fs : List (Str × V)) (v : V), d = some dd ∧ H dd = some (.xd fs) ∧ B dd = none ∧ fs.lookup f = some v ∧ Dq K B v t
/-- a context with what is wanted of exceptions, by the slots -/
structure Cy extends Cx where
  κ : Xn → List Sl → Prop
instance : Coe Cy Cx := ⟨Cy.toCx⟩
def Cy.W (X : Cy) (F : Fm) : L2.WX := fun cls d σ H => ∃ (x : Xn) (B : Hp) (es : List Sl), X.κ x es ∧ En0 X.K F B H σ es ∧ Xc X.K X.mg B H cls d x ∧ ∀ dd, d = some dd → F.H dd = none
/-- .. as the context takes it -/
structure En (X : Cy) (F : Fm) (B H : Hp) (σ : L2.St) (es : List Sl) : Prop extends En0 X.K F B H σ es where
  tk : Takes X.toCx (X.W F)
section
variable {X : Cy} {F : Fm} {B H : Hp} {σ : L2.St} {es : List Sl}
theorem En.e (I : En X F B H σ es) : En0 X.K F B H σ es := I.toEn0
theorem En.bnone (I : En X F B H σ es) {p : Addr} (h : H p = none) : B p = none := I.e.bnone h
theorem En.fnone (I : En X F B H σ es) {p : Addr} (h : H p = none) : F.H p = none := I.e.fnone h
theorem En.grow (I : En X F B H σ es) {B' H' : Hp} (eb : Ext B B') (eh : Ext H H') (bh : Ext B' H') (n : ∀ a, H a ≠ none → B' a = B a) : En X F B' H' σ es := ⟨I.e.grow eb eh bh n, I.tk⟩
theorem En.new (I : En X F B H σ es) {p : Addr} {o : HO} (h : H p = none) : En X F (upd B p o) (upd H p o) σ es := ⟨I.e.new h, I.tk⟩
theorem En.newB (I : En X F B H σ es) {p : Addr} {o : HO} (h : H p = none) : Ext B (upd B p o) := I.e.newB h
theorem En.newO (I : En X F B H σ es) {p : Addr} {o : HO} (h : H p = none) : En X F B (upd H p o) σ es := ⟨I.e.newO h, I.tk⟩
theorem En.put (I : En X F B H σ es) {i : Nat} {v : V} {d : Dt} (h : Dq X.K B v d) : En X F B H (σ.set i (some v)) (es.set i (.fz d)) := ⟨I.e.put h, I.tk⟩
theorem En.drop (I : En X F B H σ es) {i : Nat} {x : Option V} : En X F B H (σ.set i x) (es.set i .no) := ⟨I.e.drop, I.tk⟩
theorem En.putC (I : En X F B H σ es) {i : Nat} {p : Addr} {o : HO} {c : Ow} (hF : F.H p = none) (hB : B p = none) (hp : H p = some o) (hno : NotOwn σ es p) (h : OwR X.K B o c) : En X F B H (σ.set i (some (.ref p))) (es.set i (.own true c)) := ⟨I.e.putC hF hB hp hno h, I.tk⟩
theorem En.putN (I : En X F B H σ es) {i : Nat} {p : Addr} {o : HO} {c : Ow} (hp : H p = none) (h : OwR X.K B o c) : En X F B (upd H p o) (σ.set i (some (.ref p))) (es.set i (.own true c)) := ⟨I.e.putN hp h, I.tk⟩
theorem En.putO (I : En X F B H σ es) {i : Nat} {p : Addr} {xs : List V} {ds : List Dt} (hp : H p = none) (h : DqAll X.K B xs ds) : En X F B (upd H p (.lst xs)) (σ.set i (some (.ref p))) (es.set i (.own true (.l ds))) := ⟨I.e.putO hp h, I.tk⟩
theorem En.putP (I : En X F B H σ es) {i : Nat} {p : Addr} {xs : List V} {ds : List Dt} (hF : F.H p = none) (hB : B p = none) (hp : H p = some (.lst xs)) (hno : NotOwn σ es p) (h : DqAll X.K B xs ds) : En X F B H (σ.set i (some (.ref p))) (es.set i (.own true (.l ds))) := ⟨I.e.putP hF hB hp hno h, I.tk⟩
theorem En.mutC (I : En X F B H σ es) {i : Nat} {p : Addr} {b : Bool} {c : Ow} (he : es[i]? = some (.own b c)) (hs : σ[i]? = some (some (.ref p))) {o' : HO} {c' : Ow} (h : OwR X.K B o' c') : En X F B (upd H p o') σ (es.set i (.own b c')) := ⟨I.e.mutC he hs h, I.tk⟩
theorem En.mut (I : En X F B H σ es) {i : Nat} {p : Addr} {b : Bool} {ds : List Dt} (he : es[i]? = some (.own b (.l ds))) (hs : σ[i]? = some (some (.ref p))) {xs' : List V} {ds' : List Dt} (h : DqAll X.K B xs' ds') : En X F B (upd H p (.lst xs')) σ (es.set i (.own b (.l ds'))) := ⟨I.e.mut he hs h, I.tk⟩
theorem En.freezeC (I : En X F B H σ es) {i : Nat} {p : Addr} {c : Ow} {o' : HO} {d : Dt} (he : es[i]? = some (.own true c)) (hs : σ[i]? = some (some (.ref p))) (hd : ∀ B', Ext B B' → B' p = some o' → Dq X.K B' (.ref p) d) : ∃ B', Ext B B' ∧ En X F B' (upd H p o') σ (es.set i (.fz d)) :=
  let ⟨B', e, J⟩ := I.e.freezeC he hs hd
  ⟨B', e, J, I.tk⟩
theorem En.freeze (I : En X F B H σ es) {i : Nat} {ds : List Dt} (he : es[i]? = some (.own true (.l ds))) : ∃ B', Ext B B' ∧ En X F B' H σ (es.set i (.fz (.list ds))) :=
  let ⟨B', e, J⟩ := I.e.freeze he
  ⟨B', e, J, I.tk⟩
theorem En.ow (I : En X F B H σ es) : ∃ ad : Nat → Addr, (∀ (i : Nat) (b : Bool) (ds : List Dt), es[i]? = some (.own b (.l ds)) → σ[i]? = some (some (.ref (ad i))) ∧ B (ad i) = none ∧ ((b = true → F.H (ad i) = none) ∧ (b = false → ad i ∈ F.S)) ∧ ∃ xs, H (ad i) = some (.lst xs) ∧ DqAll X.K B xs ds) ∧
    ∀ (i j : Nat) (b c : Bool) (ds es' : List Dt), es[i]? = some (.own b (.l ds)) → es[j]? = some (.own c (.l es')) → ad i = ad j → i = j := I.e.ow
end
end Lv

set_option Elab.async false
set_option linter.all false
set_option maxRecDepth 100000
set_option maxHeartbeats 4000000
namespace Lv
open PySem PySem.Spec PyProof.Rows L2

/-! ### a step of an expression -/
structure Stp (σ : L2.St) (B H : Hp) (es : List Sl) (B' H' : Hp) (es' : List Sl) : Prop where
  shp : ∀ (i : Nat) (b : Bool), (∃ c, es'[i]? = some (.own b c)) ↔ ∃ c, es[i]? = some (.own b c)
  eb : Ext B B'
  keep : ∀ a o, H a = some o → NotOwn σ es a → H' a = some o
  som : ∀ a, H a ≠ none → H' a ≠ none
  fr : ∀ a, H a ≠ none → B' a = B a
section
variable {σ : L2.St} {B H B1 H1 B2 H2 : Hp} {es es1 es2 : List Sl}
theorem NotOwn.to (h : NotOwn σ es a) (s : ∀ (i : Nat) (b : Bool), (∃ c, es1[i]? = some (.own b c)) ↔ ∃ c, es[i]? = some (.own b c)) : NotOwn σ es1 a := fun i b ds e => by
  obtain ⟨ds', e'⟩ := (s i b).mp ⟨ds, e⟩
  exact h i b ds' e'
theorem Stp.rfl' : Stp σ B H es B H es := ⟨fun _ _ => Iff.rfl, Ext.rfl' B, fun _ _ h _ => h, fun _ h => h, fun _ _ => rfl⟩
theorem Stp.tr (s : Stp σ B H es B1 H1 es1) (t : Stp σ B1 H1 es1 B2 H2 es2) : Stp σ B H es B2 H2 es2 where
  shp := fun i b => (t.shp i b).trans (s.shp i b)
  eb := s.eb.tr t.eb
  keep := fun a o h n => t.keep a o (s.keep a o h n) (n.to s.shp)
  som := fun a h => t.som a (s.som a h)
  fr := fun a h => (t.fr a (s.som a h)).trans (s.fr a h)
theorem Stp.new {X : Cy} {F : Fm} (I : En X F B H σ es) {p : Addr} {o : HO} (h : H p = none) : Stp σ B H es (upd B p o) (upd H p o) es :=
  ⟨fun _ _ => Iff.rfl, I.newB h, fun a u e _ => by rw [upd_ne (ne_of_none e h)]; exact e, fun a e => by rw [upd_ne (fun z => e (by rw [z]; exact h))]; exact e,
    fun a e => by rw [upd_ne (fun z => e (by rw [z]; exact h))]⟩
end

/-! ### the judgements -/
def EX (X : Cx) (e : Expr) : TE := fun σ H Q => ∀ (pins : List (Addr × Obj)) (s : Shared), Inv X pins σ H s → wpAny (model X.prog X.w) X.A (eval e X.env) (EP X pins σ Q) X.xe s
def TX (X : Cx) (e : Expr) : TT := fun σ H Q => ∀ (pins : List (Addr × Obj)) (s : Shared), Inv X pins σ H s → wpAny (model X.prog X.w) X.A (isTrue e X.env (eval e X.env)) (L2.TP X pins σ Q) X.xe s
def WX (X : Cx) (e : Expr) : TT := fun σ H Q => ∀ (whole : Sem Value) (pins : List (Addr × Obj)) (s : Shared), Inv X pins σ H s → wpAny (model X.prog X.w) X.A (isTrue e X.env whole) (L2.TP X pins σ Q) X.xe s
def AX (X : Cx) (es : List Expr) : TA := fun σ H Q => ∀ (pos : Pos) (pins : List (Addr × Obj)) (s : Shared), Inv X pins σ H s → wpAny (model X.prog X.w) X.A (spliced (backTo pos (starEach es X.env))) (AP X pins σ Q) X.xe s
def SX (X : Cx) (st : Stmt) : TS := fun D σ H => ∀ (pins : List (Addr × Obj)) (s : Shared), Inv X pins σ H s → wpAny (model X.prog X.w) X.A (exec st X.env) (SP X pins D) X.xe s
def SSX (X : Cx) (st : List Stmt) : TS := fun D σ H => ∀ (pins : List (Addr × Obj)) (s : Shared), Inv X pins σ H s → wpAny (model X.prog X.w) X.A (execs st X.env) (SP X pins D) X.xe s
section
variable {X : Cx}
theorem pe_self {e : Expr} : PE X e (EX X e) := ⟨fun pins s _ _ _ I h => h pins s I⟩
theorem pt_self {e : Expr} : PT X e (TX X e) := ⟨fun pins s _ _ _ I h => h pins s I⟩
theorem pw_self {e : Expr} : PW X e (WX X e) := ⟨fun w pins s _ _ _ I h => h w pins s I⟩
theorem pa_self {es : List Expr} : PA X es (AX X es) := ⟨fun pos pins s _ _ _ I h => h pos pins s I⟩
theorem ps_self {st : Stmt} : PS X st (SX X st) := ⟨fun pins s _ _ _ I h => h pins s I⟩
theorem pss_self {st : List Stmt} : PSs X st (SSX X st) := ⟨fun pins s _ _ _ I h => h pins s I⟩
theorem EX.of {e : Expr} {t : TE} {σ : L2.St} {H : Hp} {Q : VK} (h : PE X e t) (q : t σ H Q) : EX X e σ H Q := fun pins s I => h.run pins s σ H Q I q
theorem TX.of {e : Expr} {t : TT} {σ : L2.St} {H : Hp} {Q : Bool → Hp → Prop} (h : PT X e t) (q : t σ H Q) : TX X e σ H Q := fun pins s I => h.run pins s σ H Q I q
theorem WX.of {e : Expr} {t : TT} {σ : L2.St} {H : Hp} {Q : Bool → Hp → Prop} (h : PW X e t) (q : t σ H Q) : WX X e σ H Q := fun w pins s I => h.run w pins s σ H Q I q
theorem AX.of {es : List Expr} {t : TA} {σ : L2.St} {H : Hp} {Q : List V → Hp → Prop} (h : PA X es t) (q : t σ H Q) : AX X es σ H Q := fun pos pins s I => h.run pos pins s σ H Q I q
theorem SX.of {st : Stmt} {t : TS} {D : Ends} {σ : L2.St} {H : Hp} (h : PS X st t) (q : t D σ H) : SX X st D σ H := fun pins s I => h.run pins s σ H D I q
theorem SSX.of {st : List Stmt} {t : TS} {D : Ends} {σ : L2.St} {H : Hp} (h : PSs X st t) (q : t D σ H) : SSX X st D σ H := fun pins s I => h.run pins s σ H D I q

end
section
variable {X : Cy}
/-- an expression, from slots that hold es: it comes to data d and slots es' with Ψ d es' -/
def VP (X : Cy) (es : List Sl) (e : Expr) (Ψ : Dt → List Sl → Prop) : Prop :=
  ∀ (F : Fm) (B H : Hp) (σ : L2.St), En X F B H σ es → ∀ Q : VK, (∀ (v : V) (d : Dt) (B' H' : Hp) (es' : List Sl), Ψ d es' → En X F B' H' σ es' → Stp σ B H es B' H' es' → Dq X.K B' v d → Q v H') → EX X e σ H Q
def VT (X : Cy) (es : List Sl) (e : Expr) (Ψ : Bool → List Sl → Prop) : Prop :=
  ∀ (F : Fm) (B H : Hp) (σ : L2.St), En X F B H σ es → ∀ Q : Bool → Hp → Prop, (∀ (b : Bool) (B' H' : Hp) (es' : List Sl), Ψ b es' → En X F B' H' σ es' → Stp σ B H es B' H' es' → Q b H') → TX X e σ H Q
def VW (X : Cy) (es : List Sl) (e : Expr) (Ψ : Bool → List Sl → Prop) : Prop :=
  ∀ (F : Fm) (B H : Hp) (σ : L2.St), En X F B H σ es → ∀ Q : Bool → Hp → Prop, (∀ (b : Bool) (B' H' : Hp) (es' : List Sl), Ψ b es' → En X F B' H' σ es' → Stp σ B H es B' H' es' → Q b H') → WX X e σ H Q
def VA (X : Cy) (es : List Sl) (as : List Expr) (Ψ : List Dt → List Sl → Prop) : Prop :=
  ∀ (F : Fm) (B H : Hp) (σ : L2.St), En X F B H σ es → ∀ Q : List V → Hp → Prop, (∀ (vs : List V) (ds : List Dt) (B' H' : Hp) (es' : List Sl), Ψ ds es' → En X F B' H' σ es' → Stp σ B H es B' H' es' → DqAll X.K B' vs ds → Q vs H') → AX X as σ H Q

variable {es : List Sl} {Ψ Φ : Dt → List Sl → Prop} {a b c e : Expr} {pos : Pos}
theorem VP.imp (h : VP X es e Ψ) (k : ∀ d es', Ψ d es' → Φ d es') : VP X es e Φ := fun F B H σ I Q q => h F B H σ I Q fun v d B' H' es' p => q v d B' H' es' (k d es' p)
theorem VT.imp {Ψ Φ : Bool → List Sl → Prop} (h : VT X es e Ψ) (k : ∀ d es', Ψ d es' → Φ d es') : VT X es e Φ := fun F B H σ I Q q => h F B H σ I Q fun d B' H' es' p => q d B' H' es' (k d es' p)

/-! ### leaves -/
theorem vp_var {x : Str} (i : Nat) {d : Dt} (hN : X.N[i]? = some x) (hv : Vis X.env.scope x) (he : es[i]? = some (.fz d)) (h : Ψ d es)
    (hd : (x == ("__debug__" : Str)) = false := by decide) (hcd : (x == ("__classdict__" : Str)) = false := by decide) : VP X es (.Name x pos) Ψ := fun F B H σ I Q q => by
  refine EX.of (pe_var hN hv hd hcd) ?_
  obtain ⟨v, h1, h2⟩ := I.fz i d he
  exact ⟨v, h1, q v d B H es h I Stp.rfl' h2⟩
theorem vp_int {i j} (h : Ψ (.int i) es) : VP X es (.Constant (.int i) j pos) Ψ := fun F B H σ I Q q => EX.of pe_int (q _ _ B H es h I Stp.rfl' (.int i))
theorem vp_bool {i j} (h : Ψ (.bool i) es) : VP X es (.Constant (.bool i) j pos) Ψ := fun F B H σ I Q q => EX.of pe_bl (q _ _ B H es h I Stp.rfl' (.bl i))
theorem vp_none {j} (h : Ψ .none es) : VP X es (.Constant .none j pos) Ψ := fun F B H σ I Q q => EX.of pe_non (q _ _ B H es h I Stp.rfl' .non)
theorem vp_str {x j} (h : Ψ (.str x) es) : VP X es (.Constant (.str x) j pos) Ψ := fun F B H σ I Q q => EX.of pe_str (q _ _ B H es h I Stp.rfl' (.str x))
/-- a module's int -/
theorem vp_globI {x : Str} {n : Int} {t : Tok} (hg : Gl X x) (hm : X.mg x = some (.int n t)) (h : Ψ (.int n) es) (hd : (x == ("__debug__" : Str)) = false := by decide) : VP X es (.Name x pos) Ψ := fun F B H σ I Q q =>
  EX.of (pe_glob (v := .int n) hg hm ⟨t, rfl⟩ hd) (q _ _ B H es h I Stp.rfl' (.int n))

/-! ### ints -/
theorem vp_ii {op : Operator} {C : Int → Int → Prop} {g : Int → Int → Int} (ho : OpR X (binaryOp op) (rI C fun i j => .int (g i j)))
    (h : VP X es a fun d es1 => ∃ i, d = .int i ∧ VP X es1 b fun d2 es2 => ∃ j, d2 = .int j ∧ C i j ∧ Ψ (.int (g i j)) es2) : VP X es (.BinOp a op b pos) Ψ := fun F B H σ I Q q => by
  refine EX.of (pe_op ho pe_self pe_self) ?_
  refine h F B H σ I _ fun v d B1 H1 es1 ⟨i, hd, hb⟩ I1 S1 D1 => ?_
  subst hd; cases D1
  refine hb F B1 H1 σ I1 _ fun v2 d2 B2 H2 es2 ⟨j, hd2, hc, hq⟩ I2 S2 D2 => ?_
  subst hd2; cases D2
  exact ⟨i, j, rfl, rfl, hc, q _ _ B2 H2 es2 hq I2 (S1.tr S2) (.int _)⟩
theorem vp_i0 {op : Operator} {g : Int → Int → Int} (ho : OpR X (binaryOp op) (rI0 fun i j => .int (g i j)))
    (h : VP X es a fun d es1 => ∃ i, d = .int i ∧ VP X es1 b fun d2 es2 => ∃ j, d2 = .int j ∧ Ψ (.int (g i j)) es2) : VP X es (.BinOp a op b pos) Ψ := fun F B H σ I Q q => by
  refine EX.of (pe_op ho pe_self pe_self) ?_
  refine h F B H σ I _ fun v d B1 H1 es1 ⟨i, hd, hb⟩ I1 S1 D1 => ?_
  subst hd; cases D1
  refine hb F B1 H1 σ I1 _ fun v2 d2 B2 H2 es2 ⟨j, hd2, hq⟩ I2 S2 D2 => ?_
  subst hd2; cases D2
  exact ⟨i, j, rfl, rfl, q _ _ B2 H2 es2 hq I2 (S1.tr S2) (.int _)⟩
theorem vp_add (h : VP X es a fun d es1 => ∃ i, d = .int i ∧ VP X es1 b fun d2 es2 => ∃ j, d2 = .int j ∧ Ψ (.int (i + j)) es2) : VP X es (.BinOp a .Add b pos) Ψ := vp_i0 (g := fun i j => i + j) op_add h
theorem vp_sub (h : VP X es a fun d es1 => ∃ i, d = .int i ∧ VP X es1 b fun d2 es2 => ∃ j, d2 = .int j ∧ Ψ (.int (i - j)) es2) : VP X es (.BinOp a .Sub b pos) Ψ := vp_i0 (g := fun i j => i - j) op_sub h
theorem vp_mul (h : VP X es a fun d es1 => ∃ i, d = .int i ∧ VP X es1 b fun d2 es2 => ∃ j, d2 = .int j ∧ CMulX i j ∧ Ψ (.int (i * j)) es2) : VP X es (.BinOp a .Mult b pos) Ψ := vp_ii (C := CMulX) (g := fun i j => i * j) op_mulX h
theorem vp_mod (h : VP X es a fun d es1 => ∃ i, d = .int i ∧ VP X es1 b fun d2 es2 => ∃ j, d2 = .int j ∧ 0 < j ∧ Ψ (.int (i % j)) es2) : VP X es (.BinOp a .Mod b pos) Ψ := vp_ii (C := fun _ j => 0 < j) (g := fun i j => i % j) op_mod h
theorem vp_fdiv (h : VP X es a fun d es1 => ∃ i, d = .int i ∧ VP X es1 b fun d2 es2 => ∃ j, d2 = .int j ∧ CDivW i j ∧ Ψ (.int (i / j)) es2) : VP X es (.BinOp a .FloorDiv b pos) Ψ := vp_ii (C := CDivW) (g := fun i j => i / j) op_fdivW h
theorem vp_pow (h : VP X es a fun d es1 => ∃ i, d = .int i ∧ VP X es1 b fun d2 es2 => ∃ j, d2 = .int j ∧ CPow i j ∧ Ψ (.int (i ^ j.toNat)) es2) : VP X es (.BinOp a .Pow b pos) Ψ := vp_ii (C := CPow) (g := fun i j => i ^ j.toNat) op_pow h
theorem vp_neg (h : VP X es a fun d es1 => ∃ i, d = .int i ∧ Ψ (.int (-i)) es1) : VP X es (.UnaryOp .USub a pos) Ψ := fun F B H σ I Q q => by
  refine EX.of (pe_un un_neg pe_self) ?_
  refine h F B H σ I _ fun v d B1 H1 es1 ⟨i, hd, hq⟩ I1 S1 D1 => ?_
  subst hd; cases D1
  exact ⟨i, rfl, q _ _ B1 H1 es1 hq I1 S1 (.int _)⟩

/-! ### comparisons of ints -/
theorem vp_cmp {op : CmpOp} {g : Int → Int → Bool} (ho : OpR X (compareOp op) (rI0 fun i j => .bl (g i j))) (hm : behindInMarks op b = false)
    (h : VP X es a fun d es1 => ∃ i, d = .int i ∧ VP X es1 b fun d2 es2 => ∃ j, d2 = .int j ∧ Ψ (.bool (g i j)) es2) : VP X es (.Compare a [op] [b] pos) Ψ := fun F B H σ I Q q => by
  refine EX.of (pe_cmpR ho pe_self pe_self hm) ?_
  refine h F B H σ I _ fun v d B1 H1 es1 ⟨i, hd, hb⟩ I1 S1 D1 => ?_
  subst hd; cases D1
  refine hb F B1 H1 σ I1 _ fun v2 d2 B2 H2 es2 ⟨j, hd2, hq⟩ I2 S2 D2 => ?_
  subst hd2; cases D2
  exact ⟨i, j, rfl, rfl, q _ _ B2 H2 es2 hq I2 (S1.tr S2) (.bl _)⟩
theorem vp_lt (h : VP X es a fun d es1 => ∃ i, d = .int i ∧ VP X es1 b fun d2 es2 => ∃ j, d2 = .int j ∧ Ψ (.bool (decide (i < j))) es2) : VP X es (.Compare a [.Lt] [b] pos) Ψ := vp_cmp (g := fun i j => decide (i < j)) op_lt (nomark b) h
theorem vp_le (h : VP X es a fun d es1 => ∃ i, d = .int i ∧ VP X es1 b fun d2 es2 => ∃ j, d2 = .int j ∧ Ψ (.bool (decide (i ≤ j))) es2) : VP X es (.Compare a [.LtE] [b] pos) Ψ := vp_cmp (g := fun i j => decide (i ≤ j)) op_le (nomark b) h
theorem vp_gt (h : VP X es a fun d es1 => ∃ i, d = .int i ∧ VP X es1 b fun d2 es2 => ∃ j, d2 = .int j ∧ Ψ (.bool (decide (j < i))) es2) : VP X es (.Compare a [.Gt] [b] pos) Ψ := vp_cmp (g := fun i j => decide (j < i)) op_gt (nomark b) h
theorem vp_ge (h : VP X es a fun d es1 => ∃ i, d = .int i ∧ VP X es1 b fun d2 es2 => ∃ j, d2 = .int j ∧ Ψ (.bool (decide (j ≤ i))) es2) : VP X es (.Compare a [.GtE] [b] pos) Ψ := vp_cmp (g := fun i j => decide (j ≤ i)) op_ge (nomark b) h
/-- == and != of data -/
theorem vp_eqD (hu : X.A.units + 64 < cLine) (h : VP X es a fun d es1 => VP X es1 b fun d2 es2 => shD d ∧ shD d2 ∧ Ψ (.bool (eqD d d2)) es2) : VP X es (.Compare a [.Eq] [b] pos) Ψ := fun F B H σ I Q q => by
  refine EX.of (pe_cmpR (op_eqD hu) pe_self pe_self (nomark b)) ?_
  refine h F B H σ I _ fun v d B1 H1 es1 hb I1 S1 D1 => ?_
  refine hb F B1 H1 σ I1 _ fun v2 d2 B2 H2 es2 ⟨s1, s2, hq⟩ I2 S2 D2 => ?_
  exact ⟨toPy d, toPy d2, dq_dp _ _ s1.1 (I2.bh.dp _ _ (S2.eb.dp _ _ D1)), dq_dp _ _ s2.1 (I2.bh.dp _ _ D2), s1.2, s2.2, q _ _ B2 H2 es2 hq I2 (S1.tr S2) (.bl _)⟩
theorem vp_neD (hu : X.A.units + 64 < cLine) (h : VP X es a fun d es1 => VP X es1 b fun d2 es2 => shD d ∧ shD d2 ∧ Ψ (.bool (!eqD d d2)) es2) : VP X es (.Compare a [.NotEq] [b] pos) Ψ := fun F B H σ I Q q => by
  refine EX.of (pe_cmpR (op_neD hu) pe_self pe_self (nomark b)) ?_
  refine h F B H σ I _ fun v d B1 H1 es1 hb I1 S1 D1 => ?_
  refine hb F B1 H1 σ I1 _ fun v2 d2 B2 H2 es2 ⟨s1, s2, hq⟩ I2 S2 D2 => ?_
  exact ⟨toPy d, toPy d2, dq_dp _ _ s1.1 (I2.bh.dp _ _ (S2.eb.dp _ _ D1)), dq_dp _ _ s2.1 (I2.bh.dp _ _ D2), s1.2, s2.2, q _ _ B2 H2 es2 hq I2 (S1.tr S2) (.bl _)⟩
def isN : Dt → Bool
  | .none => true
  | _ => false
theorem dp_isN {K : PySem.W.Frag} {B : Hp} {v : V} {d : Dt} (h : Dq K B v d) : decide (v = V.non) = isN d := by
  cases h <;> first | rfl | (simp [isN])
theorem vp_is {j p'} (h : VP X es a fun d es1 => Ψ (.bool (isN d)) es1) : VP X es (.Compare a [.Is] [.Constant .none j p'] pos) Ψ := fun F B H σ I Q q => by
  refine EX.of (pe_cmp (pc_isN pe_self)) ?_
  refine h F B H σ I _ fun v d B1 H1 es1 hb I1 S1 D1 => ?_
  show Q (.bl (decide (v = V.non))) H1
  rw [dp_isN D1]
  exact q _ _ B1 H1 es1 hb I1 S1 (.bl _)
theorem vp_isnot {j p'} (h : VP X es a fun d es1 => Ψ (.bool (!isN d)) es1) : VP X es (.Compare a [.IsNot] [.Constant .none j p'] pos) Ψ := fun F B H σ I Q q => by
  refine EX.of (pe_cmp (pc_notN pe_self)) ?_
  refine h F B H σ I _ fun v d B1 H1 es1 hb I1 S1 D1 => ?_
  show Q (.bl (!decide (v = V.non))) H1
  rw [dp_isN D1]
  exact q _ _ B1 H1 es1 hb I1 S1 (.bl _)
/-- a chain of two comparisons of ints -/
theorem vp_chain {op op' : CmpOp} {g g' : Int → Int → Bool} (ho : OpR X (compareOp op) (rI0 fun i j => .bl (g i j))) (ho' : OpR X (compareOp op') (rI0 fun i j => .bl (g' i j)))
    (h : VP X es a fun d es1 => ∃ i, d = .int i ∧ VP X es1 b fun d2 es2 => ∃ j, d2 = .int j ∧ (g i j = true → VP X es2 c fun d3 es3 => ∃ k, d3 = .int k ∧ Ψ (.bool (g' j k)) es3) ∧ (g i j = false → Ψ (.bool false) es2))
    (hm : lastMarks [op, op'] [b, c] = false := by with_unfolding_all rfl) : VP X es (.Compare a [op, op'] [b, c] pos) Ψ := fun F B H σ I Q q => by
  refine EX.of (pe_chain ho ho' pe_self pe_self pe_self hm) ?_
  refine h F B H σ I _ fun v d B1 H1 es1 ⟨i, hd, hb⟩ I1 S1 D1 => ?_
  subst hd; cases D1
  refine hb F B1 H1 σ I1 _ fun v2 d2 B2 H2 es2 ⟨j, hd2, ht, hf⟩ I2 S2 D2 => ?_
  subst hd2; cases D2
  refine ⟨i, j, rfl, rfl, g i j, rfl, ?_⟩
  cases eg : g i j with
  | true =>
    refine iteT ?_
    refine ht eg F B2 H2 σ I2 _ fun v3 d3 B3 H3 es3 ⟨k, hd3, hq⟩ I3 S3 D3 => ?_
    subst hd3; cases D3
    exact ⟨j, k, rfl, rfl, q _ _ B3 H3 es3 hq I3 ((S1.tr S2).tr S3) (.bl _)⟩
  | false =>
    refine iteF ?_
    exact q _ _ B2 H2 es2 (hf eg) I2 (S1.tr S2) (.bl _)

/-! ### and, or, not, if as values -/
theorem vp_one {op} (h : VP X es a Ψ) : VP X es (.BoolOp op [a] pos) Ψ := fun F B H σ I Q q => EX.of (pe_one pe_self) (h F B H σ I Q q)
theorem vp_and {rest : List Expr} (h : VP X es a fun d es1 => ∃ p, d = .bool p ∧ (p = true → VP X es1 (.BoolOp .And (b :: rest) pos) Ψ) ∧ (p = false → Ψ (.bool false) es1)) : VP X es (.BoolOp .And (a :: b :: rest) pos) Ψ := fun F B H σ I Q q => by
  refine EX.of (pe_and pe_self pe_self) ?_
  refine h F B H σ I _ fun v d B1 H1 es1 ⟨p, hd, ht, hf⟩ I1 S1 D1 => ?_
  subst hd; cases D1
  refine ⟨p, rfl, ?_⟩
  cases p with
  | true => exact iteT (ht rfl F B1 H1 σ I1 _ fun v2 d2 B2 H2 es2 hq I2 S2 D2 => q _ _ B2 H2 es2 hq I2 (S1.tr S2) D2)
  | false => exact iteF (q _ _ B1 H1 es1 (hf rfl) I1 S1 (.bl _))
theorem vp_or {rest : List Expr} (h : VP X es a fun d es1 => ∃ p, d = .bool p ∧ (p = true → Ψ (.bool true) es1) ∧ (p = false → VP X es1 (.BoolOp .Or (b :: rest) pos) Ψ)) : VP X es (.BoolOp .Or (a :: b :: rest) pos) Ψ := fun F B H σ I Q q => by
  refine EX.of (pe_or pe_self pe_self) ?_
  refine h F B H σ I _ fun v d B1 H1 es1 ⟨p, hd, ht, hf⟩ I1 S1 D1 => ?_
  subst hd; cases D1
  refine ⟨p, rfl, ?_⟩
  cases p with
  | true => exact iteT (q _ _ B1 H1 es1 (ht rfl) I1 S1 (.bl _))
  | false => exact iteF (hf rfl F B1 H1 σ I1 _ fun v2 d2 B2 H2 es2 hq I2 S2 D2 => q _ _ B2 H2 es2 hq I2 (S1.tr S2) D2)
theorem vp_not (h : VP X es a fun d es1 => ∃ p, d = .bool p ∧ Ψ (.bool (!p)) es1) : VP X es (.UnaryOp .Not a pos) Ψ := fun F B H σ I Q q => by
  refine EX.of (pe_not pe_self) ?_
  refine h F B H σ I _ fun v d B1 H1 es1 ⟨p, hd, hq⟩ I1 S1 D1 => ?_
  subst hd; cases D1
  exact ⟨p, rfl, q _ _ B1 H1 es1 hq I1 S1 (.bl _)⟩
theorem vp_ife (h : VT X es c fun p es1 => (p = true → VP X es1 a Ψ) ∧ (p = false → VP X es1 b Ψ)) : VP X es (.IfExp c a b pos) Ψ := fun F B H σ I Q q => by
  refine EX.of (pe_ifExp pt_self pe_self pe_self) ?_
  refine h F B H σ I _ fun p B1 H1 es1 ⟨ht, hf⟩ I1 S1 => ?_
  cases p with
  | true => exact iteT (ht rfl F B1 H1 σ I1 _ fun v2 d2 B2 H2 es2 hq I2 S2 D2 => q _ _ B2 H2 es2 hq I2 (S1.tr S2) D2)
  | false => exact iteF (hf rfl F B1 H1 σ I1 _ fun v2 d2 B2 H2 es2 hq I2 S2 D2 => q _ _ B2 H2 es2 hq I2 (S1.tr S2) D2)

/-! ### tests -/
variable {Θ : Bool → List Sl → Prop}
theorem vt_val (h : VP X es e fun d es1 => ∃ p, d = .bool p ∧ Θ p es1) (he : ∀ whole, isTrue e X.env whole = (do let v ← whole; standAt e.pos; holding [v] (truthy v)) := by intro _; rfl) : VT X es e Θ := fun F B H σ I Q q => by
  refine TX.of (pt_val pe_self he) ?_
  refine h F B H σ I _ fun v d B1 H1 es1 ⟨p, hd, hq⟩ I1 S1 D1 => ?_
  subst hd; cases D1
  exact ⟨p, rfl, q _ B1 H1 es1 hq I1 S1⟩
/-- an int as a test -/
theorem vt_int (h : VP X es e fun d es1 => ∃ i, d = .int i ∧ Θ (i != 0) es1) (he : ∀ whole, isTrue e X.env whole = (do let v ← whole; standAt e.pos; holding [v] (truthy v)) := by intro _; rfl) : VT X es e Θ := fun F B H σ I Q q => by
  refine TX.of (pt_truth pe_self he) ?_
  refine h F B H σ I _ fun v d B1 H1 es1 ⟨i, hd, hq⟩ I1 S1 D1 => ?_
  subst hd; cases D1
  exact ⟨i != 0, rfl, q _ B1 H1 es1 hq I1 S1⟩
theorem vt_cmp {op : CmpOp} {g : Int → Int → Bool} (ho : OpR X (compareOp op) (rI0 fun i j => .bl (g i j))) (hm : behindInMarks op b = false)
    (h : VP X es a fun d es1 => ∃ i, d = .int i ∧ VP X es1 b fun d2 es2 => ∃ j, d2 = .int j ∧ Θ (g i j) es2) : VT X es (.Compare a [op] [b] pos) Θ := fun F B H σ I Q q => by
  refine TX.of (pt_cmpR ho pe_self pe_self hm) ?_
  refine h F B H σ I _ fun v d B1 H1 es1 ⟨i, hd, hb⟩ I1 S1 D1 => ?_
  subst hd; cases D1
  refine hb F B1 H1 σ I1 _ fun v2 d2 B2 H2 es2 ⟨j, hd2, hq⟩ I2 S2 D2 => ?_
  subst hd2; cases D2
  exact ⟨i, j, rfl, rfl, _, rfl, q _ B2 H2 es2 hq I2 (S1.tr S2)⟩
theorem vt_lt (h : VP X es a fun d es1 => ∃ i, d = .int i ∧ VP X es1 b fun d2 es2 => ∃ j, d2 = .int j ∧ Θ (decide (i < j)) es2) : VT X es (.Compare a [.Lt] [b] pos) Θ := vt_cmp (g := fun i j => decide (i < j)) op_lt (nomark b) h
theorem vt_le (h : VP X es a fun d es1 => ∃ i, d = .int i ∧ VP X es1 b fun d2 es2 => ∃ j, d2 = .int j ∧ Θ (decide (i ≤ j)) es2) : VT X es (.Compare a [.LtE] [b] pos) Θ := vt_cmp (g := fun i j => decide (i ≤ j)) op_le (nomark b) h
theorem vt_gt (h : VP X es a fun d es1 => ∃ i, d = .int i ∧ VP X es1 b fun d2 es2 => ∃ j, d2 = .int j ∧ Θ (decide (j < i)) es2) : VT X es (.Compare a [.Gt] [b] pos) Θ := vt_cmp (g := fun i j => decide (j < i)) op_gt (nomark b) h
theorem vt_ge (h : VP X es a fun d es1 => ∃ i, d = .int i ∧ VP X es1 b fun d2 es2 => ∃ j, d2 = .int j ∧ Θ (decide (j ≤ i)) es2) : VT X es (.Compare a [.GtE] [b] pos) Θ := vt_cmp (g := fun i j => decide (j ≤ i)) op_ge (nomark b) h
theorem vt_eqD (hu : X.A.units + 64 < cLine) (h : VP X es a fun d es1 => VP X es1 b fun d2 es2 => shD d ∧ shD d2 ∧ Θ (eqD d d2) es2) : VT X es (.Compare a [.Eq] [b] pos) Θ := fun F B H σ I Q q => by
  refine TX.of (pt_cmpR (op_eqD hu) pe_self pe_self (nomark b)) ?_
  refine h F B H σ I _ fun v d B1 H1 es1 hb I1 S1 D1 => ?_
  refine hb F B1 H1 σ I1 _ fun v2 d2 B2 H2 es2 ⟨s1, s2, hq⟩ I2 S2 D2 => ?_
  exact ⟨toPy d, toPy d2, dq_dp _ _ s1.1 (I2.bh.dp _ _ (S2.eb.dp _ _ D1)), dq_dp _ _ s2.1 (I2.bh.dp _ _ D2), s1.2, s2.2, _, rfl, q _ B2 H2 es2 hq I2 (S1.tr S2)⟩
theorem vt_neD (hu : X.A.units + 64 < cLine) (h : VP X es a fun d es1 => VP X es1 b fun d2 es2 => shD d ∧ shD d2 ∧ Θ (!eqD d d2) es2) : VT X es (.Compare a [.NotEq] [b] pos) Θ := fun F B H σ I Q q => by
  refine TX.of (pt_cmpR (op_neD hu) pe_self pe_self (nomark b)) ?_
  refine h F B H σ I _ fun v d B1 H1 es1 hb I1 S1 D1 => ?_
  refine hb F B1 H1 σ I1 _ fun v2 d2 B2 H2 es2 ⟨s1, s2, hq⟩ I2 S2 D2 => ?_
  exact ⟨toPy d, toPy d2, dq_dp _ _ s1.1 (I2.bh.dp _ _ (S2.eb.dp _ _ D1)), dq_dp _ _ s2.1 (I2.bh.dp _ _ D2), s1.2, s2.2, _, rfl, q _ B2 H2 es2 hq I2 (S1.tr S2)⟩
theorem vt_is {j p'} (h : VP X es a fun d es1 => Θ (isN d) es1) : VT X es (.Compare a [.Is] [.Constant .none j p'] pos) Θ := fun F B H σ I Q q => by
  refine TX.of (pt_cmp (pc_isN pe_self)) ?_
  refine h F B H σ I _ fun v d B1 H1 es1 hb I1 S1 D1 => ?_
  exact ⟨_, rfl, by rw [dp_isN D1]; exact q _ B1 H1 es1 hb I1 S1⟩
theorem vt_isnot {j p'} (h : VP X es a fun d es1 => Θ (!isN d) es1) : VT X es (.Compare a [.IsNot] [.Constant .none j p'] pos) Θ := fun F B H σ I Q q => by
  refine TX.of (pt_cmp (pc_notN pe_self)) ?_
  refine h F B H σ I _ fun v d B1 H1 es1 hb I1 S1 D1 => ?_
  exact ⟨_, rfl, by rw [dp_isN D1]; exact q _ B1 H1 es1 hb I1 S1⟩
theorem vt_chain {op op' : CmpOp} {g g' : Int → Int → Bool} (ho : OpR X (compareOp op) (rI0 fun i j => .bl (g i j))) (ho' : OpR X (compareOp op') (rI0 fun i j => .bl (g' i j)))
    (h : VP X es a fun d es1 => ∃ i, d = .int i ∧ VP X es1 b fun d2 es2 => ∃ j, d2 = .int j ∧ (g i j = true → VP X es2 c fun d3 es3 => ∃ k, d3 = .int k ∧ Θ (g' j k) es3) ∧ (g i j = false → Θ false es2))
    (hm : lastMarks [op, op'] [b, c] = false := by with_unfolding_all rfl) : VT X es (.Compare a [op, op'] [b, c] pos) Θ := fun F B H σ I Q q => by
  refine TX.of (pt_chain ho ho' pe_self pe_self pe_self hm) ?_
  refine h F B H σ I _ fun v d B1 H1 es1 ⟨i, hd, hb⟩ I1 S1 D1 => ?_
  subst hd; cases D1
  refine hb F B1 H1 σ I1 _ fun v2 d2 B2 H2 es2 ⟨j, hd2, ht, hf⟩ I2 S2 D2 => ?_
  subst hd2; cases D2
  refine ⟨i, j, rfl, rfl, g i j, rfl, ?_⟩
  cases eg : g i j with
  | true =>
    refine iteT ?_
    refine ht eg F B2 H2 σ I2 _ fun v3 d3 B3 H3 es3 ⟨k, hd3, hq⟩ I3 S3 D3 => ?_
    subst hd3; cases D3
    exact ⟨j, k, rfl, rfl, _, rfl, q _ B3 H3 es3 hq I3 ((S1.tr S2).tr S3)⟩
  | false =>
    refine iteF ?_
    exact ⟨_, rfl, q _ B2 H2 es2 (hf eg) I2 (S1.tr S2)⟩
theorem vt_not (h : VT X es a fun p es1 => Θ (!p) es1) : VT X es (.UnaryOp .Not a pos) Θ := fun F B H σ I Q q => by
  refine TX.of (pt_not pt_self) ?_
  exact h F B H σ I _ fun p B1 H1 es1 hq I1 S1 => q _ B1 H1 es1 hq I1 S1
theorem vt_w (h : VW X es e Θ) : VT X es e Θ := fun F B H σ I Q q => TX.of (pw_self.pt) (h F B H σ I Q q)
theorem vw_and1 (h : VT X es a Θ) : VW X es (.BoolOp .And [a] pos) Θ := fun F B H σ I Q q => WX.of (pw_and1 pt_self) (h F B H σ I Q q)
theorem vw_or1 (h : VT X es a Θ) : VW X es (.BoolOp .Or [a] pos) Θ := fun F B H σ I Q q => WX.of (pw_or1 pt_self) (h F B H σ I Q q)
theorem vw_and {rest : List Expr} (h : VT X es a fun p es1 => (p = true → VW X es1 (.BoolOp .And (b :: rest) pos) Θ) ∧ (p = false → Θ false es1)) : VW X es (.BoolOp .And (a :: b :: rest) pos) Θ := fun F B H σ I Q q => by
  refine WX.of (pw_and pt_self pw_self) ?_
  refine h F B H σ I _ fun p B1 H1 es1 ⟨ht, hf⟩ I1 S1 => ?_
  cases p with
  | true => exact iteT (ht rfl F B1 H1 σ I1 _ fun p2 B2 H2 es2 hq I2 S2 => q _ B2 H2 es2 hq I2 (S1.tr S2))
  | false => exact iteF (q _ B1 H1 es1 (hf rfl) I1 S1)
theorem vw_or {rest : List Expr} (h : VT X es a fun p es1 => (p = true → Θ true es1) ∧ (p = false → VW X es1 (.BoolOp .Or (b :: rest) pos) Θ)) : VW X es (.BoolOp .Or (a :: b :: rest) pos) Θ := fun F B H σ I Q q => by
  refine WX.of (pw_or pt_self pw_self) ?_
  refine h F B H σ I _ fun p B1 H1 es1 ⟨ht, hf⟩ I1 S1 => ?_
  cases p with
  | true => exact iteT (q _ B1 H1 es1 (ht rfl) I1 S1)
  | false => exact iteF (hf rfl F B1 H1 σ I1 _ fun p2 B2 H2 es2 hq I2 S2 => q _ B2 H2 es2 hq I2 (S1.tr S2))

/-! ### arguments, tuples, lists, items -/
theorem va_nil {Λ : List Dt → List Sl → Prop} (h : Λ [] es) : VA X es [] Λ := fun F B H σ I Q q => AX.of pa_nil (q [] [] B H es h I Stp.rfl' .nil)
theorem va_cons {Λ : List Dt → List Sl → Prop} {as : List Expr} (h : VP X es a fun d es1 => VA X es1 as fun ds es2 => Λ (d :: ds) es2)
    (hs : starEach (a :: as) X.env = (false, eval a X.env) :: starEach as X.env := by rfl) : VA X es (a :: as) Λ := fun F B H σ I Q q => by
  refine AX.of (pa_cons pe_self pa_self hs) ?_
  refine h F B H σ I _ fun v d B1 H1 es1 hr I1 S1 D1 => ?_
  refine hr F B1 H1 σ I1 _ fun vs ds B2 H2 es2 hq I2 S2 D2 => ?_
  exact q _ _ B2 H2 es2 hq I2 (S1.tr S2) (.cons (S2.eb.dp _ _ D1) D2)
theorem vp_tup {as : List Expr} {x1} (h : VA X es as fun ds es1 => ds.length ≤ 100000 ∧ Ψ (.tuple ds) es1) : VP X es (.Tuple as x1 pos) Ψ := fun F B H σ I Q q => by
  refine EX.of (pe_tup pa_self) ?_
  refine h F B H σ I _ fun vs ds B1 H1 es1 ⟨hl, hq⟩ I1 S1 D1 => ⟨by rw [dpa_len D1]; exact Nat.le_trans hl (by decide), fun p hp => ?_⟩
  exact q _ _ (upd B1 p (.tup vs)) _ es1 hq (I1.new hp) (S1.tr (Stp.new I1 hp)) (.tup (.inl (.inl upd_same)) ((I1.newB hp).dpa ds vs D1))
theorem vp_list {as : List Expr} (h : VA X es as fun ds es1 => ds.length ≤ 100000 ∧ Ψ (.list ds) es1) : VP X es (.List as pos) Ψ := fun F B H σ I Q q => by
  refine EX.of (pe_lst pa_self) ?_
  refine h F B H σ I _ fun vs ds B1 H1 es1 ⟨hl, hq⟩ I1 S1 D1 => ⟨by rw [dpa_len D1]; exact Nat.le_trans hl (by decide), fun p hp => ?_⟩
  exact q _ _ (upd B1 p (.lst vs)) _ es1 hq (I1.new hp) (S1.tr (Stp.new I1 hp)) (.lst upd_same ((I1.newB hp).dpa ds vs D1))
theorem ixN_lt {n k : Nat} {i : Int} (h : ixN n i = some k) : k < n := by
  unfold ixN at h
  split at h
  · split at h
    · injection h with h; omega
    · cases h
  · split at h
    · injection h with h; omega
    · cases h
theorem dpa_atI {K : PySem.W.Frag} {B : Hp} {vs : List V} {ds : List Dt} {i : Int} {d : Dt} (h : DqAll K B vs ds) (e : atI ds i = some d) : ∃ v, atI vs i = some v ∧ Dq K B v d := by
  unfold atI at e ⊢
  rw [dpa_len h]
  cases z : ixN ds.length i with
  | none => rw [z] at e; cases e
  | some k =>
    rw [z] at e
    exact dpa_get h e
/-- what is read as a sequence -/
def SeqD (d : Dt) (xs : List Dt) : Prop := d = .list xs ∨ d = .tuple xs ∨ d = .scr xs
theorem SeqD.l {xs : List Dt} : SeqD (.list xs) xs := .inl rfl
theorem SeqD.t {xs : List Dt} : SeqD (.tuple xs) xs := .inr (.inl rfl)
theorem SeqD.s {xs : List Dt} : SeqD (.scr xs) xs := .inr (.inr rfl)
theorem seq_of {K : PySem.W.Frag} {H : Hp} {v : V} {d : Dt} {xs : List Dt} (h : Dq K H v d) (s : SeqD d xs) : ∃ a ys, v = .ref a ∧ (SqL K H a ys ∨ SqT K H a ys) ∧ DqAll K H ys xs := by
  rcases s with s | s | s <;> subst s
  · cases h with
    | lst h1 h2 => exact ⟨_, _, rfl, .inl (.inl (.inl h1)), h2⟩
  · cases h with
    | tup h1 h2 => exact ⟨_, _, rfl, .inr h1, h2⟩
  · cases h with
    | scr h1 h2 => exact ⟨_, _, rfl, .inl h1, h2⟩
/-- xs[i], t[i] -/
theorem vp_ix (h : VP X es a fun d es1 => VP X es1 b fun d2 es2 => ∃ xs i x, SeqD d xs ∧ d2 = .int i ∧ atI xs i = some x ∧ Ψ x es2) (hs : PlainIx b := by intro _ _; rfl) : VP X es (.Subscript a b pos) Ψ := fun F B H σ I Q q => by
  refine EX.of (pe_ix ix_seq pe_self pe_self hs) ?_
  refine h F B H σ I _ fun v d B1 H1 es1 hb I1 S1 D1 => ?_
  refine hb F B1 H1 σ I1 _ fun v2 d2 B2 H2 es2 ⟨xs, i, x, hd, hd2, hx, hq⟩ I2 S2 D2 => ?_
  subst hd2; cases D2
  obtain ⟨a, ys, rfl, hsq, D⟩ := seq_of (S2.eb.dp _ _ D1) hd
  obtain ⟨u, h3, h4⟩ := dpa_atI D hx
  rcases hsq with hsq | hsq
  · exact .inl ⟨_, _, _, u, rfl, rfl, I2.bh.sql hsq, h3, q _ _ B2 H2 es2 hq I2 (S1.tr S2) h4⟩
  · exact .inr (.inl ⟨_, _, _, u, rfl, rfl, I2.bh.sqt hsq, h3, q _ _ B2 H2 es2 hq I2 (S1.tr S2) h4⟩)
end
end Lv

set_option Elab.async false
set_option linter.all false
set_option maxRecDepth 100000
set_option maxHeartbeats 4000000
namespace Lv
open PySem PySem.Spec PyProof.Rows L2

/-! ### promises -/
/-- the heaps behind a call that changes nothing -/
structure Bk (B H B' H' : Hp) : Prop where
  eb : Ext B B'
  eh : Ext H H'
  bh : Ext B' H'
  fr : ∀ a, H a ≠ none → B' a = B a
/-- .. that changes what lies at p -/
structure BkO (p : Addr) (B H B' H' : Hp) : Prop where
  eb : Ext B B'
  kp : ∀ a o, H a = some o → a ≠ p → H' a = some o
  bh : Ext B' H'
  fr : ∀ a, H a ≠ none → B' a = B a
/-- what is told of a def: of its result; of what it raises -/
abbrev RR := List Dt → (Dt → Prop) → (Xn → Prop) → Prop
abbrev RO := List Dt → List Dt → (Dt → List Dt → Prop) → (Xn → List Dt → Prop) → Prop
abbrev RL := List Dt → (List Dt → Prop) → (Xn → Prop) → Prop
/-- data in, data out, nothing changed: R tells for the arguments what is told of the result -/
def spR (K : PySem.W.Frag) (mg : Str → Option Value) (R : RR) : Sp := fun vs H Q E => ∃ (B : Hp) (ds : List Dt) (G : Dt → Prop) (Gx : Xn → Prop), Ext B H ∧ DqAll K B vs ds ∧ R ds G Gx ∧
  (∀ (v : V) (d : Dt) (B' H' : Hp), G d → Bk B H B' H' → Dq K B' v d → Q v H') ∧
  ∀ (cls : Value) (d : Option Addr) (x : Xn) (B' H' : Hp), Gx x → Bk B H B' H' → Xc K mg B' H' cls d x → (∀ dd, d = some dd → H dd = none) → E cls d H'
/-- the first argument a list that the def changes -/
def spO (K : PySem.W.Frag) (mg : Str → Option Value) (R : RO) : Sp := fun vs H Q E => ∃ (B : Hp) (p : Addr) (rest xs : List V) (ds as : List Dt) (G : Dt → List Dt → Prop) (Gx : Xn → List Dt → Prop),
  vs = .ref p :: rest ∧ Ext B H ∧ B p = none ∧ H p = some (.lst xs) ∧ DqAll K B xs ds ∧ DqAll K B rest as ∧ R ds as G Gx ∧
  (∀ (v : V) (d : Dt) (ds' : List Dt) (xs' : List V) (B' H' : Hp), G d ds' → BkO p B H B' H' → H' p = some (.lst xs') → DqAll K B' xs' ds' → Dq K B' v d → Q v H') ∧
  ∀ (cls : Value) (d : Option Addr) (x : Xn) (ds' : List Dt) (xs' : List V) (B' H' : Hp), Gx x ds' → BkO p B H B' H' → H' p = some (.lst xs') → DqAll K B' xs' ds' → Xc K mg B' H' cls d x → (∀ dd, d = some dd → H dd = none) → E cls d H'
structure Fn (P : Program) (w : World) (K : PySem.W.Frag) (mg : Str → Option Value) (base : Heap) (x : Str) (k : Nat) (sp : Sp) : Prop where
  ex : ∃ (f : Addr) (fd : FuncData) (ps : List Str), FnOk P w K mg base (L2.CX P w) k f fd ps sp ∧ mg x = some (.ref f) ∧ PySem.W.keepIn K (.ref f) = true ∧ Binds K fd ps []
theorem En0.growC {K : PySem.W.Frag} {F : Fm} {B H B2 H2 : Hp} {σ : L2.St} {es : List Sl} (I : En0 K F B H σ es) {i : Nat} {p : Addr} {b : Bool} {c c' : Ow} {o' : HO} (he : es[i]? = some (.own b c)) (hs : σ[i]? = some (some (.ref p)))
    (K2 : BkO p B H B2 H2) (hp : H2 p = some o') (h : OwR K B2 o' c') : En0 K F B2 H2 σ (es.set i (.own b c')) ∧ Stp σ B H es B2 H2 (es.set i (.own b c')) := by
  obtain ⟨ad, a1, a2⟩ := I.own
  obtain ⟨s1, b1, f1, o, g1, dx⟩ := a1 i b c he
  have ep : ad i = p := by rw [s1] at hs; injection hs with hs; injection hs with hs; injection hs
  obtain ⟨eb, kp, bh, n⟩ := K2
  have som : ∀ a, H a ≠ none → H2 a ≠ none := fun a h z => by
    by_cases ha : a = p
    · rw [ha, hp] at z; cases z
    · cases q : H a with
      | none => exact h q
      | some o => rw [kp a o q ha] at z; cases z
  refine ⟨⟨bh, I.fb.tr eb, fun a o hf hS => ?_, fun a hf => ?_, fun a ha => som a (I.st a ha), by rw [List.length_set]; exact I.len, fun m d' hm => ?_, ad, fun m b' ds'' hm => ?_, fun m l c1 c2 d1 d2 hm hl => ?_⟩,
    fun m b' => ?_, eb, fun a o h no => kp a o h fun z => no i b c he (by rw [z]; exact hs), som, n⟩
  · refine kp a o (I.fh a o hf hS) fun z => ?_
    cases b with
    | true => have z2 := f1.1 rfl; rw [ep, ← z, hf] at z2; cases z2
    | false => have z2 := f1.2 rfl; rw [ep, ← z] at z2; exact hS z2
  · have : H a ≠ none := fun z => hf (I.fnone z)
    rw [n a this, I.fr a hf]
  · rcases set_get hm with ⟨e, e2⟩ | ⟨e, e2⟩
    · cases e2
    · obtain ⟨u, q1, q2⟩ := I.fz m d' e2
      exact ⟨u, q1, eb.dp d' u q2⟩
  · rcases set_get hm with ⟨e, e2⟩ | ⟨e, e2⟩
    · subst e; cases e2
      exact ⟨s1, by rw [n _ (by rw [g1]; simp)]; exact b1, f1, o', by rw [ep]; exact hp, h⟩
    · obtain ⟨c1, c2, c3, ys, c4, c5⟩ := a1 m b' ds'' e2
      have ne : ad m ≠ p := fun z => e (a2 i m b b' c ds'' he e2 (ep.trans z.symm))
      exact ⟨c1, by rw [n _ (by rw [c4]; simp)]; exact c2, c3, ys, kp _ _ c4 ne, c5.up eb⟩
  · have old : ∀ (m : Nat) (bm : Bool) (dm : Ow), (es.set i (.own b c'))[m]? = some (.own bm dm) → ∃ bm' dm', es[m]? = some (.own bm' dm') := fun m bm dm hm => by
      rcases set_get hm with ⟨e, e2⟩ | ⟨e, e2⟩
      · exact ⟨b, c, by rw [← e]; exact he⟩
      · exact ⟨bm, dm, e2⟩
    obtain ⟨_, d1', q1⟩ := old m c1 d1 hm
    obtain ⟨_, d2', q2⟩ := old l c2 d2 hl
    exact a2 m l _ _ d1' d2' q1 q2
  · constructor
    · rintro ⟨d2, hm⟩
      rcases set_get hm with ⟨e, e2⟩ | ⟨e, e2⟩
      · subst e; cases e2; exact ⟨c, he⟩
      · exact ⟨d2, e2⟩
    · rintro ⟨d2, hm⟩
      by_cases e : i = m
      · subst e
        rw [he] at hm; cases hm
        exact ⟨c', List.getElem?_set_self (List.getElem?_eq_some_iff.mp he).1⟩
      · exact ⟨d2, by rw [List.getElem?_set_ne e]; exact hm⟩
theorem Stp.bk {σ : L2.St} {B H B' H' : Hp} {es : List Sl} (k : Bk B H B' H') : Stp σ B H es B' H' es := ⟨fun _ _ => Iff.rfl, k.eb, fun a o h _ => k.eh a o h, fun a h z => h (k.eh.none z), k.fr⟩
section
variable {X : Cy} {es : List Sl} {Ψ : Dt → List Sl → Prop} {a b c e : Expr} {as : List Expr} {pos p : Pos} {x : Str} {k j : Nat}
theorem vp_call {R : RR} (F : Fn X.prog X.w X.K X.mg X.base x k (spR X.K X.mg R)) (hr : Room j X.A) (hk : k ≤ j) (hg : Gl X x)
    (h : VA X es (e :: as) fun ds es1 => R ds (fun d => Ψ d es1) fun z => X.κ z es1) (hdb : (x == ("__debug__" : Str)) = false := by decide)
    (he : starEach (e :: as) X.env = (false, eval e X.env) :: starEach as X.env := by rfl) (hpl : (backTo pos (starEach as X.env)).any (·.1) = false := by rfl) :
    VP X es (.Call (.Name x p) (e :: as) [] pos) Ψ := fun Fm B H σ I Q q => by
  obtain ⟨f, fd, ps, FO, hm, hkp, hb⟩ := F.ex
  refine EX.of (pe_callS (E := WE (X.W Fm)) FO (hr.mono hk) hg hm hkp hb (passAt I.tk) pa_self hdb he hpl) ?_
  refine h Fm B H σ I _ fun vs ds B1 H1 es1 hR I1 S1 D1 => ?_
  refine ⟨B1, ds, _, _, I1.bh, D1, hR, fun v d B2 H2 hd k Dv => ?_, fun cls d z B2 H2 hz k hx hn => ?_⟩
  · exact q v d B2 H2 es1 hd (I1.grow k.eb k.eh k.bh k.fr) (S1.tr (.bk k)) Dv
  · exact ⟨z, B2, es1, hz, (I1.grow k.eb k.eh k.bh k.fr).e, hx, fun dd e => I1.fnone (hn dd e)⟩
/-- f(xs, ..), xs a list that we own and f changes -/
theorem vp_callO {R : RO} {y : Str} {py : Pos} (i : Nat) (F : Fn X.prog X.w X.K X.mg X.base x k (spO X.K X.mg R)) (hr : Room j X.A) (hk : k ≤ j) (hg : Gl X x)
    (hN : X.N[i]? = some y) (hv : Vis X.env.scope y)
    (h : VA X es as fun rest es1 => ∃ b ds, es1[i]? = some (.own b (.l ds)) ∧ R ds rest (fun d ds' => Ψ d (es1.set i (.own b (.l ds')))) fun z ds' => X.κ z (es1.set i (.own b (.l ds')))) (hi : ∃ b ds, es[i]? = some (.own b (.l ds))) (hdb : (x == ("__debug__" : Str)) = false := by decide)
    (he : starEach (.Name y py :: as) X.env = (false, eval (.Name y py) X.env) :: starEach as X.env := by rfl) (hpl : (backTo pos (starEach as X.env)).any (·.1) = false := by rfl)
    (hd : (y == ("__debug__" : Str)) = false := by decide) (hcd : (y == ("__classdict__" : Str)) = false := by decide) :
    VP X es (.Call (.Name x p) (.Name y py :: as) [] pos) Ψ := fun Fm B H σ I Q q => by
  obtain ⟨f, fd, ps, FO, hm, hkp, hb⟩ := F.ex
  refine EX.of (pe_callS (E := WE (X.W Fm)) FO (hr.mono hk) hg hm hkp hb (passAt I.tk) (pa_cons (pe_var hN hv hd hcd) pa_self he) hdb he hpl) ?_
  obtain ⟨b0, ds0, h0⟩ := hi
  obtain ⟨ad0, a0, _⟩ := I.ow
  obtain ⟨s0, _⟩ := a0 i b0 ds0 h0
  refine ⟨_, s0, ?_⟩
  refine h Fm B H σ I _ fun vs rest B1 H1 es1 ⟨b, ds, h1, hR⟩ I1 S1 D1 => ?_
  obtain ⟨ad, a1, a2⟩ := I1.ow
  obtain ⟨s1, b1, f1, xs, g1, dx⟩ := a1 i b ds h1
  have ep : ad0 i = ad i := by rw [s0] at s1; injection s1 with s1; injection s1 with s1; injection s1
  rw [ep]
  refine ⟨B1, ad i, vs, xs, ds, rest, _, _, rfl, I1.bh, b1, g1, dx, D1, hR, fun v d ds' xs' B2 H2 hd k gp dx' Dv => ?_, fun cls d z ds' xs' B2 H2 hz k gp dx' hx hn => ?_⟩
  · obtain ⟨J, S2⟩ := I1.e.growC (c' := .l ds') h1 s1 k gp (.l dx')
    exact q v d B2 H2 _ hd ⟨J, I1.tk⟩ (S1.tr S2) Dv
  · obtain ⟨J, S2⟩ := I1.e.growC (c' := .l ds') h1 s1 k gp (.l dx')
    exact ⟨z, B2, _, hz, J, hx, fun dd e => I1.fnone (hn dd e)⟩

/-! ### built-in functions -/
theorem vals_dp1 {K : PySem.W.Frag} {B : Hp} {vs : List V} {d : Dt} (h : DqAll K B vs [d]) : ∃ v, vs = [v] ∧ Dq K B v d := by
  cases h with
  | cons h1 h2 => cases h2; exact ⟨_, rfl, h1⟩
theorem vals_dp2 {K : PySem.W.Frag} {B : Hp} {vs : List V} {d d2 : Dt} (h : DqAll K B vs [d, d2]) : ∃ v u, vs = [v, u] ∧ Dq K B v d ∧ Dq K B u d2 := by
  cases h with
  | cons h1 h2 =>
    obtain ⟨u, rfl, hu⟩ := vals_dp1 h2
    exact ⟨_, u, rfl, h1, hu⟩
/-- a built-in by its call rule, told on data -/
theorem vp_cb {id : String} {r : List V → Hp → VK → Prop} (hc : CallR X (.builtin id) r) (hg : Gl X x) (hm : X.mg x = none) (hv : bootBuiltins x = some (.builtin id)) (hn : x ≠ "__name__") (hdb : (x == ("__debug__" : Str)) = false)
    (h : VA X es (e :: as) fun ds es1 => ∀ (F : Fm) (σ : L2.St) (B H : Hp) (vs : List V), En X F B H σ es1 → DqAll X.K B vs ds → ∀ Q : VK, (∀ (v : V) (d : Dt) (B' H' : Hp), Ψ d es1 → En X F B' H' σ es1 → Stp σ B H es1 B' H' es1 → Dq X.K B' v d → Q v H') → r vs H Q)
    (he : starEach (e :: as) X.env = (false, eval e X.env) :: starEach as X.env := by rfl) (hpl : (backTo pos (starEach as X.env)).any (·.1) = false := by rfl) :
    VP X es (.Call (.Name x p) (e :: as) [] pos) Ψ := fun F B H σ I Q q => by
  refine EX.of (pe_callB hc hg hm hv pa_self hn hdb he hpl) ?_
  refine h F B H σ I _ fun vs ds B1 H1 es1 hr I1 S1 D1 => ?_
  exact hr F σ B1 H1 vs I1 D1 Q fun v d B2 H2 hd I2 S2 D2 => q v d B2 H2 es1 hd I2 (S1.tr S2) D2
theorem vp_ct {T : String} {r : List V → Hp → VK → Prop} (hc : CallR X (.type T) r) (hg : Gl X x) (hm : X.mg x = none) (hv : bootBuiltins x = some (.type T)) (hn : x ≠ "__name__") (hdb : (x == ("__debug__" : Str)) = false)
    (h : VA X es (e :: as) fun ds es1 => ∀ (F : Fm) (σ : L2.St) (B H : Hp) (vs : List V), En X F B H σ es1 → DqAll X.K B vs ds → ∀ Q : VK, (∀ (v : V) (d : Dt) (B' H' : Hp), Ψ d es1 → En X F B' H' σ es1 → Stp σ B H es1 B' H' es1 → Dq X.K B' v d → Q v H') → r vs H Q)
    (he : starEach (e :: as) X.env = (false, eval e X.env) :: starEach as X.env := by rfl) (hpl : (backTo pos (starEach as X.env)).any (·.1) = false := by rfl) :
    VP X es (.Call (.Name x p) (e :: as) [] pos) Ψ := fun F B H σ I Q q => by
  refine EX.of (pe_callTy hc hg hm hv pa_self hn hdb he hpl) ?_
  refine h F B H σ I _ fun vs ds B1 H1 es1 hr I1 S1 D1 => ?_
  exact hr F σ B1 H1 vs I1 D1 Q fun v d B2 H2 hd I2 S2 D2 => q v d B2 H2 es1 hd I2 (S1.tr S2) D2
theorem vp_abs (hm : X.mg "abs" = none) (hg : Gl X "abs") (h : VP X es e fun d es1 => ∃ i, d = .int i ∧ Ψ (.int (if i < 0 then -i else i)) es1)
    (he : starEach (e :: []) X.env = (false, eval e X.env) :: starEach [] X.env := by rfl) (hpl : (backTo pos (starEach [] X.env)).any (·.1) = false := by rfl) : VP X es (.Call (.Name "abs" p) [e] [] pos) Ψ :=
  vp_cb call_abs hg hm (by decide +kernel) (by decide) (by decide) (va_cons (h.imp fun d es1 ⟨i, hd, hq⟩ => va_nil fun F σ B H vs I D Q q => by
    obtain ⟨v, rfl, D1⟩ := vals_dp1 D
    subst hd; cases D1
    exact ⟨i, rfl, q _ _ B H hq I Stp.rfl' (.int _)⟩) he) he hpl
theorem vp_int1 (hm : X.mg "int" = none) (hg : Gl X "int") (h : VP X es e fun d es1 => (∃ i, d = .int i ∧ Ψ (.int i) es1) ∨ (∃ b, d = .bool b ∧ Ψ (.int (if b then 1 else 0)) es1))
    (he : starEach (e :: []) X.env = (false, eval e X.env) :: starEach [] X.env := by rfl) (hpl : (backTo pos (starEach [] X.env)).any (·.1) = false := by rfl) : VP X es (.Call (.Name "int" p) [e] [] pos) Ψ :=
  vp_ct call_int1 hg hm (by decide +kernel) (by decide) (by decide) (va_cons (h.imp fun d es1 hh => va_nil fun F σ B H vs I D Q q => by
    obtain ⟨v, rfl, D1⟩ := vals_dp1 D
    rcases hh with ⟨i, hd, hq⟩ | ⟨i, hd, hq⟩
    · subst hd; cases D1
      exact .inl ⟨i, rfl, q _ _ B H hq I Stp.rfl' (.int _)⟩
    · subst hd; cases D1
      exact .inr ⟨i, rfl, q _ _ B H hq I Stp.rfl' (.int _)⟩) he) he hpl
theorem vp_max2 (hm : X.mg "max" = none) (hg : Gl X "max") (hc : X.calm = true) (h : VP X es a fun d es1 => ∃ i, d = .int i ∧ VP X es1 b fun d2 es2 => ∃ j, d2 = .int j ∧ Ψ (.int (if j > i then j else i)) es2)
    (he : starEach (a :: [b]) X.env = (false, eval a X.env) :: starEach [b] X.env := by rfl) (he2 : starEach (b :: []) X.env = (false, eval b X.env) :: starEach [] X.env := by rfl) (hpl : (backTo pos (starEach [b] X.env)).any (·.1) = false := by rfl) : VP X es (.Call (.Name "max" p) [a, b] [] pos) Ψ :=
  vp_cb (call_max2 hc) hg hm (by decide +kernel) (by decide) (by decide) (va_cons (h.imp fun d es1 ⟨i, hd, hb⟩ => va_cons (hb.imp fun d2 es2 ⟨j, hd2, hq⟩ => va_nil fun F σ B H vs I D Q q => by
    obtain ⟨v, u, rfl, D1, D2⟩ := vals_dp2 D
    subst hd; cases D1
    subst hd2; cases D2
    exact ⟨i, j, rfl, q _ _ B H hq I Stp.rfl' (.int _)⟩) he2) he) he hpl
theorem vp_min2 (hm : X.mg "min" = none) (hg : Gl X "min") (hc : X.calm = true) (h : VP X es a fun d es1 => ∃ i, d = .int i ∧ VP X es1 b fun d2 es2 => ∃ j, d2 = .int j ∧ Ψ (.int (if j < i then j else i)) es2)
    (he : starEach (a :: [b]) X.env = (false, eval a X.env) :: starEach [b] X.env := by rfl) (he2 : starEach (b :: []) X.env = (false, eval b X.env) :: starEach [] X.env := by rfl) (hpl : (backTo pos (starEach [b] X.env)).any (·.1) = false := by rfl) : VP X es (.Call (.Name "min" p) [a, b] [] pos) Ψ :=
  vp_cb (call_min2 hc) hg hm (by decide +kernel) (by decide) (by decide) (va_cons (h.imp fun d es1 ⟨i, hd, hb⟩ => va_cons (hb.imp fun d2 es2 ⟨j, hd2, hq⟩ => va_nil fun F σ B H vs I D Q q => by
    obtain ⟨v, u, rfl, D1, D2⟩ := vals_dp2 D
    subst hd; cases D1
    subst hd2; cases D2
    exact ⟨i, j, rfl, q _ _ B H hq I Stp.rfl' (.int _)⟩) he2) he) he hpl
theorem vp_len (hm : X.mg "len" = none) (hg : Gl X "len") (h : VP X es e fun d es1 => ∃ xs, SeqD d xs ∧ Ψ (.int xs.length) es1)
    (he : starEach (e :: []) X.env = (false, eval e X.env) :: starEach [] X.env := by rfl) (hpl : (backTo pos (starEach [] X.env)).any (·.1) = false := by rfl) : VP X es (.Call (.Name "len" p) [e] [] pos) Ψ :=
  vp_cb call_len_seq hg hm (by decide +kernel) (by decide) (by decide) (va_cons (h.imp fun d es1 ⟨xs, hd, hq⟩ => va_nil fun F σ B H vs I D Q q => by
    obtain ⟨v, rfl, D1⟩ := vals_dp1 D
    obtain ⟨a, ys, rfl, hsq, D2⟩ := seq_of D1 hd
    exact ⟨_, _, rfl, hsq.imp I.bh.sql I.bh.sqt, by rw [dpa_len D2]; exact q _ _ B H hq I Stp.rfl' (.int _)⟩) he) he hpl
theorem vp_gcd (hm : X.mg "gcd" = some (.builtin "math.gcd")) (hg : Gl X "gcd") (h : VP X es a fun d es1 => ∃ i, d = .int i ∧ VP X es1 b fun d2 es2 => ∃ j, d2 = .int j ∧ Ψ (.int (Int.gcd i j : Nat)) es2)
    (he : starEach (a :: [b]) X.env = (false, eval a X.env) :: starEach [b] X.env := by rfl) (he2 : starEach (b :: []) X.env = (false, eval b X.env) :: starEach [] X.env := by rfl) (hpl : (backTo pos (starEach [b] X.env)).any (·.1) = false := by rfl) : VP X es (.Call (.Name "gcd" p) [a, b] [] pos) Ψ := fun F B H σ I Q q => by
  refine EX.of (pe_callBfun cr_gcd hg hm pa_self (by decide) he hpl) ?_
  have H0 : VA X es [a, b] (fun ds es2 => ∃ i j, ds = [.int i, .int j] ∧ Ψ (.int (Int.gcd i j : Nat)) es2) :=
    va_cons (h.imp fun d es1 ⟨i, hd, hb⟩ => va_cons (hb.imp fun d2 es2 ⟨j, hd2, hq⟩ => va_nil ⟨i, j, by rw [hd, hd2], hq⟩) he2) he
  refine H0 F B H σ I _ fun vs ds B1 H1 es1 ⟨i, j, hds, hq⟩ I1 S1 D1 => ?_
  subst hds
  obtain ⟨v, u, rfl, D1, D2⟩ := vals_dp2 D1
  cases D1; cases D2
  exact ⟨i, j, rfl, q _ _ B1 H1 es1 hq I1 S1 (.int _)⟩
theorem vp_sum (hm : X.mg "sum" = none) (hg : Gl X "sum") (hc : X.calm = true) (h : VP X es e fun d es1 => ∃ ns : List Int, d = .list (ns.map Dt.int) ∧ Ψ (.int ns.sum) es1)
    (he : starEach (e :: []) X.env = (false, eval e X.env) :: starEach [] X.env := by rfl) (hpl : (backTo pos (starEach [] X.env)).any (·.1) = false := by rfl) : VP X es (.Call (.Name "sum" p) [e] [] pos) Ψ :=
  vp_cb (cr_sum hc) hg hm (by decide +kernel) (by decide) (by decide) (va_cons (h.imp fun d es1 ⟨ns, hd, hq⟩ => va_nil fun F σ B H vs I D Q q => by
    obtain ⟨v, rfl, D1⟩ := vals_dp1 D
    subst hd
    cases D1 with
    | lst h1 h2 =>
      have := dpa_ints h2
      subst this
      exact ⟨_, ns, rfl, .inl (.inl (I.bh _ _ h1)), q _ _ B H hq I Stp.rfl' (.int _)⟩) he) he hpl
theorem vp_all (hm : X.mg "all" = none) (hg : Gl X "all") (hc : X.calm = true) (h : VP X es e fun d es1 => ∃ ns : List Bool, d = .list (ns.map Dt.bool) ∧ Ψ (.bool (ns.all id)) es1)
    (he : starEach (e :: []) X.env = (false, eval e X.env) :: starEach [] X.env := by rfl) (hpl : (backTo pos (starEach [] X.env)).any (·.1) = false := by rfl) : VP X es (.Call (.Name "all" p) [e] [] pos) Ψ :=
  vp_cb (cr_all hc) hg hm (by decide +kernel) (by decide) (by decide) (va_cons (h.imp fun d es1 ⟨ns, hd, hq⟩ => va_nil fun F σ B H vs I D Q q => by
    obtain ⟨v, rfl, D1⟩ := vals_dp1 D
    subst hd
    cases D1 with
    | lst h1 h2 =>
      have := dpa_bools h2
      subst this
      exact ⟨_, ns, rfl, .inl (.inl (I.bh _ _ h1)), q _ _ B H hq I Stp.rfl' (.bl _)⟩) he) he hpl
theorem vp_tuple (hm : X.mg "tuple" = none) (hg : Gl X "tuple") (h : VP X es e fun d es1 => ∃ xs, SeqD d xs ∧ Ψ (.tuple xs) es1)
    (he : starEach (e :: []) X.env = (false, eval e X.env) :: starEach [] X.env := by rfl) (hpl : (backTo pos (starEach [] X.env)).any (·.1) = false := by rfl) : VP X es (.Call (.Name "tuple" p) [e] [] pos) Ψ :=
  vp_ct call_tuple_of hg hm (by decide +kernel) (by decide) (by decide) (va_cons (h.imp fun d es1 ⟨xs, hd, hq⟩ => va_nil fun F σ B H vs I D Q q => by
    obtain ⟨v, rfl, D1⟩ := vals_dp1 D
    obtain ⟨a, ys, rfl, hsq, D2⟩ := seq_of D1 hd
    rcases hsq with h1 | h1
    · exact ⟨_, _, rfl, .inl ⟨I.bh.sql h1, fun l hl => q _ _ _ _ hq (I.new hl) (Stp.new I hl) (.tup (.inl (.inl upd_same)) ((I.newB hl).dpa _ _ D2))⟩⟩
    · exact ⟨_, _, rfl, .inr ⟨I.bh.sqt h1, q _ _ B H hq I Stp.rfl' (.tup h1 D2)⟩⟩) he) he hpl
theorem vp_listOf (hm : X.mg "list" = none) (hg : Gl X "list") (h : VP X es e fun d es1 => ∃ xs, SeqD d xs ∧ Ψ (.list xs) es1)
    (he : starEach (e :: []) X.env = (false, eval e X.env) :: starEach [] X.env := by rfl) (hpl : (backTo pos (starEach [] X.env)).any (·.1) = false := by rfl) : VP X es (.Call (.Name "list" p) [e] [] pos) Ψ :=
  vp_ct call_list_of hg hm (by decide +kernel) (by decide) (by decide) (va_cons (h.imp fun d es1 ⟨xs, hd, hq⟩ => va_nil fun F σ B H vs I D Q q => by
    obtain ⟨v, rfl, D1⟩ := vals_dp1 D
    obtain ⟨a, ys, rfl, hsq, D2⟩ := seq_of D1 hd
    exact ⟨_, _, rfl, hsq.imp I.bh.sql I.bh.sqt, fun l hl => q _ _ _ _ hq (I.new hl) (Stp.new I hl) (.lst upd_same ((I.newB hl).dpa _ _ D2))⟩) he) he hpl

/-! ### isinstance with a built-in class -/
def tyN : Dt → Option String
  | .none => some "NoneType"
  | .bool _ => some "bool"
  | .int _ => some "int"
  | .str _ => some "str"
  | .list _ => some "list"
  | .tuple _ => some "tuple"
  | .dK _ _ => some "dict"
  | .dT _ _ => Option.none
  | .obj _ _ _ => Option.none
  | .scr _ => some "list"
theorem dp_ty {K : PySem.W.Frag} {H : Hp} {v : V} {d : Dt} {n : String} (h : Dq K H v d) (hn : tyN d = some n) : TyX K H v (.type n) := by
  cases h with
  | non => cases hn; exact .base .non
  | bl b => cases hn; exact .base (.bl b)
  | int i => cases hn; exact .base (.int i)
  | str x => cases hn; exact .base (.str x)
  | lst h1 _ =>
    cases hn
    exact .base (.lst h1)
  | scr h1 _ =>
    cases hn
    rcases h1 with (h | ⟨o, h⟩) | ⟨o, its, n, h, hc, _⟩
    · exact .base (.lst h)
    · exact .base (.frz h)
    · exact .kList h hc
  | tup h1 _ =>
    cases hn
    rcases h1 with (h | ⟨o, h⟩) | ⟨o, its, n, h, hc, _⟩
    · exact .base (.tup h)
    · exact .fTuple h
    · exact .kTuple h hc
  | dK _ h _ =>
    cases hn
    exact .fDict h
  | dT _ h _ => cases hn
  | obj _ h _ => cases hn
/-- isinstance(e, T), T a built-in class -/
theorem vp_isi {T : Str} {Tn : String} {p2 : Pos} (hm : X.mg "isinstance" = none) (hg : Gl X "isinstance") (hmT : X.mg T = none) (hgT : Gl X T) (hvT : bootBuiltins T = some (.type Tn)) (hnT : T ≠ "__name__") (hdT : (T == ("__debug__" : Str)) = false)
    (h : VP X es e fun d es1 => ∃ n k, tyN d = some n ∧ kitB n Tn = some k ∧ Ψ (.bool k) es1)
    (he : starEach (e :: [.Name T p2]) X.env = (false, eval e X.env) :: starEach [.Name T p2] X.env := by rfl) (he2 : starEach (.Name T p2 :: []) X.env = (false, eval (.Name T p2) X.env) :: starEach [] X.env := by rfl)
    (hpl : (backTo pos (starEach [.Name T p2] X.env)).any (·.1) = false := by rfl) : VP X es (.Call (.Name "isinstance" p) [e, .Name T p2] [] pos) Ψ := fun F B H σ I Q q => by
  refine EX.of (pe_callB call_isi hg hm (by decide +kernel) (pa_cons pe_self (pa_cons (pe_bltn (v := .ty Tn) hgT hmT hvT rfl hnT hdT) pa_nil he2) he) (by decide) (by decide) he hpl) ?_
  refine h F B H σ I _ fun v d B1 H1 es1 ⟨n, k, hn, hk, hq⟩ I1 S1 D1 => ?_
  exact ⟨v, .ty Tn, .type n, .type Tn, k, rfl, .ty Tn, dp_ty (I1.bh.dp _ _ D1) hn, kit_ty hk, q _ _ B1 H1 es1 hq I1 S1 (.bl _)⟩
end

/-! ### statements -/
structure Po where
  nx : List Sl → Prop
  rt : Dt → List Sl → Prop
  bk : List Sl → Prop := fun _ => False
  ct : List Sl → Prop := fun _ => False
  rl : List Dt → List Sl → Prop := fun _ _ => False
section
variable {X : Cy}
structure DoneAs (X : Cy) (F : Fm) (B : Hp) (P : Po) (D : Ends) : Prop where
  nx : ∀ (es' : List Sl) (B' H' : Hp) (σ' : L2.St), P.nx es' → En X F B' H' σ' es' → Ext B B' → D.nx σ' H'
  rt : ∀ (v : V) (d : Dt) (es' : List Sl) (B' H' : Hp) (σ' : L2.St), P.rt d es' → En X F B' H' σ' es' → Dq X.K B' v d → D.rt v H'
  bk : ∀ (es' : List Sl) (B' H' : Hp) (σ' : L2.St), P.bk es' → En X F B' H' σ' es' → Ext B B' → D.bk σ' H'
  ct : ∀ (es' : List Sl) (B' H' : Hp) (σ' : L2.St), P.ct es' → En X F B' H' σ' es' → Ext B B' → D.ct σ' H'
  rl : ∀ (p : Addr) (xs : List V) (ds : List Dt) (es' : List Sl) (B' H' : Hp) (σ' : L2.St), P.rl ds es' → En X F B' H' σ' es' → F.H p = none → B' p = none → H' p = some (.lst xs) → DqAll X.K B' xs ds → D.rt (.ref p) H'
theorem DoneAs.up {F : Fm} {B B1 : Hp} {P : Po} {D : Ends} (d : DoneAs X F B P D) (e : Ext B B1) : DoneAs X F B1 P D :=
  ⟨fun a b c f g h k => d.nx a b c f g h (e.tr k), d.rt, fun a b c f g h k => d.bk a b c f g h (e.tr k), fun a b c f g h k => d.ct a b c f g h (e.tr k), d.rl⟩
/-- a statement; a block -/
def WS (X : Cy) (es : List Sl) (st : Stmt) (P : Po) : Prop := ∀ (F : Fm) (B H : Hp) (σ : L2.St), En X F B H σ es → ∀ D : Ends, DoneAs X F B P D → SX X st D σ H
def WB (X : Cy) (es : List Sl) (sts : List Stmt) (P : Po) : Prop := ∀ (F : Fm) (B H : Hp) (σ : L2.St), En X F B H σ es → ∀ D : Ends, DoneAs X F B P D → SSX X sts D σ H
variable {es : List Sl} {P : Po} {st : Stmt} {rest body orelse : List Stmt} {e a b c : Expr} {pos p : Pos} {x : Str}
theorem wb_nil (h : P.nx es) : WB X es [] P := fun F B H σ I D d => SSX.of pss_nil (d.nx es B H σ h I (Ext.rfl' B))
theorem wb_cons (h : WS X es st { P with nx := fun es1 => WB X es1 rest P }) : WB X es (st :: rest) P := fun F B H σ I D d => by
  refine SSX.of (pss_cons ps_self pss_self) ?_
  exact h F B H σ I _ ⟨fun es' B' H' σ' w I' e' => w F B' H' σ' I' D (d.up e'), d.rt, d.bk, d.ct, d.rl⟩
theorem ws_pass (h : P.nx es) : WS X es (.Pass pos) P := fun F B H σ I D d => SX.of ps_pass (d.nx es B H σ h I (Ext.rfl' B))
theorem ws_break (h : P.bk es) : WS X es (.Break pos) P := fun F B H σ I D d => SX.of ps_break (d.bk es B H σ h I (Ext.rfl' B))
theorem ws_continue (h : P.ct es) : WS X es (.Continue pos) P := fun F B H σ I D d => SX.of ps_continue (d.ct es B H σ h I (Ext.rfl' B))
theorem ws_ret (h : VP X es e P.rt) : WS X es (.Return (some e) pos) P := fun F B H σ I D d => by
  refine SX.of (ps_ret pe_self) ?_
  exact h F B H σ I _ fun v dd B1 H1 es1 hq I1 S1 D1 => d.rt v dd es1 B1 H1 σ hq I1 D1
theorem ws_if (h : VT X es c fun p es1 => (p = true → WB X es1 body P) ∧ (p = false → WB X es1 orelse P)) : WS X es (.If c body orelse pos) P := fun F B H σ I D d => by
  refine SX.of (ps_if pt_self pss_self pss_self) ?_
  refine h F B H σ I _ fun p B1 H1 es1 ⟨ht, hf⟩ I1 S1 => ?_
  cases p with
  | true => exact iteT (ht rfl F B1 H1 σ I1 D (d.up S1.eb))
  | false => exact iteF (hf rfl F B1 H1 σ I1 D (d.up S1.eb))
/-- x = e -/
theorem ws_set (i : Nat) {p' : Pos} (hN : X.N.Nodup) (hi : X.N[i]? = some x) (hx : Loc X.env.scope x) (h : VP X es e fun d es1 => P.nx (es1.set i (.fz d))) (hs : swapsWith e (some (.Name x p')) pos.line X.env = pure false := by rfl)
    (hf : X.fn x = true ∨ X.env.scope.names.lookup x = some .local := by first | exact .inl rfl | exact .inr rfl) : WS X es (.Assign [.Name x p'] e pos) P := fun F B H σ I D d => by
  refine SX.of (ps_set hN hi hx pe_self hs hf) ?_
  exact h F B H σ I _ fun v dd B1 H1 es1 hq I1 S1 D1 => d.nx _ B1 H1 _ hq (I1.put D1) S1.eb
/-- x = [a, ..], the list the def's own -/
theorem ws_setO (i : Nat) {p' : Pos} {as : List Expr} {p2 : Pos} (hN : X.N.Nodup) (hi : X.N[i]? = some x) (hx : Loc X.env.scope x) (h : VA X es as fun ds es1 => ds.length ≤ 100000 ∧ P.nx (es1.set i (.own true (.l ds)))) (hs : swapsWith (.List as p2) (some (.Name x p')) pos.line X.env = pure false := by rfl)
    (hf : X.fn x = true ∨ X.env.scope.names.lookup x = some .local := by first | exact .inl rfl | exact .inr rfl) : WS X es (.Assign [.Name x p'] (.List as p2) pos) P := fun F B H σ I D d => by
  refine SX.of (ps_set hN hi hx (pe_lst pa_self) hs hf) ?_
  refine h F B H σ I _ fun vs ds B1 H1 es1 ⟨hl, hq⟩ I1 S1 D1 => ⟨by rw [dpa_len D1]; exact Nat.le_trans hl (by decide), fun l hp => ?_⟩
  exact d.nx _ B1 _ _ hq (I1.putO hp D1) S1.eb
/-- a list of the def's own is from now on data -/
theorem ws_freeze (i : Nat) {ds : List Dt} (he : es[i]? = some (.own true (.l ds))) (h : WS X (es.set i (.fz (.list ds))) st P) : WS X es st P := fun F B H σ I D d => by
  obtain ⟨B', eB, I'⟩ := I.freeze he
  exact h F B' H σ I' D (d.up eB)
theorem wb_freeze (i : Nat) {ds : List Dt} (he : es[i]? = some (.own true (.l ds))) (h : WB X (es.set i (.fz (.list ds))) rest P) : WB X es rest P := fun F B H σ I D d => by
  obtain ⟨B', eB, I'⟩ := I.freeze he
  exact h F B' H σ I' D (d.up eB)
/-- a, b = x, y -/
theorem ws_par (i j : Nat) {y : Str} {px py pt : Pos} {kt k2 : Nat} {pt2 : Pos} (hc : X.calm = true) (hN : X.N.Nodup) (hi : X.N[i]? = some x) (hj : X.N[j]? = some y) (hij : i ≠ j)
    (hx : X.env.scope.names.lookup x = some .local) (hy : X.env.scope.names.lookup y = some .local) (h : VA X es [a, b] fun ds es1 => ∃ d1 d2, ds = [d1, d2] ∧ P.nx ((es1.set i (.fz d1)).set j (.fz d2)))
    (hw : swappedStores [.Tuple [.Name x px, .Name y py] kt pt] (.Tuple [a, b] k2 pt2) X.env = pure (some [x, y]))
    (hs : swapsWithSole [.Tuple [.Name x px, .Name y py] kt pt] (.Tuple [a, b] k2 pt2) pos.line X.env = pure false := by rfl) :
    WS X es (.Assign [.Tuple [.Name x px, .Name y py] kt pt] (.Tuple [a, b] k2 pt2) pos) P := fun F B H σ I D d => by
  refine SX.of (ps_par hc hN hi hj hij hx hy pa_self hw hs) ?_
  refine h F B H σ I _ fun vs ds B1 H1 es1 ⟨d1, d2, hd, hq⟩ I1 S1 D1 => ?_
  subst hd
  obtain ⟨v, u, rfl, Da, Db⟩ := vals_dp2 D1
  exact ⟨v, u, rfl, d.nx _ B1 H1 _ hq ((I1.put Da).put Db) S1.eb⟩

/-! ### targets: a name, names in a tuple -/
/-- the slots behind names that take items from the left -/
def putAll (es : List Sl) : List (Nat × Dt) → List Sl
  | [] => es
  | (i, d) :: r => putAll (es.set i (.fz d)) r
def GT (X : Cy) (tg : Expr) (f : Dt → List Sl → (List Sl → Prop) → Prop) : Prop :=
  ∃ t : TG, PG X tg t ∧ ∀ (F : Fm) (B H : Hp) (σ : L2.St) (es : List Sl) (v : V) (d : Dt), En X F B H σ es → Dq X.K B v d → ∀ (Q : L2.St → Hp → Prop) (N : List Sl → Prop), f d es N → (∀ (es' : List Sl) (σ' : L2.St), N es' → En X F B H σ' es' → Q σ' H) → t v σ H Q
theorem gt_name (i : Nat) {p' : Pos} (hN : X.N.Nodup) (hi : X.N[i]? = some x) (hx : Loc X.env.scope x) (hf : X.fn x = true ∨ X.env.scope.names.lookup x = some .local := by first | exact .inl rfl | exact .inr rfl) :
    GT X (.Name x p') fun d es N => N (es.set i (.fz d)) :=
  ⟨gName i, pg_name hN hi hx hf, fun F B H σ es v d I D Q N h k => k _ _ h (I.put D)⟩
def GTs (X : Cy) (ts : List Expr) (f : List Dt → List Sl → (List Sl → Prop) → Prop) : Prop :=
  ∃ t : TGs, PGs X ts t ∧ ∀ (F : Fm) (B H : Hp) (σ : L2.St) (es : List Sl) (vs : List V) (ds : List Dt), En X F B H σ es → DqAll X.K B vs ds → ∀ (Q : L2.St → Hp → Prop) (N : List Sl → Prop), f ds es N → (∀ (es' : List Sl) (σ' : L2.St), N es' → En X F B H σ' es' → Q σ' H) → t vs σ H Q
theorem gts_nil : GTs X [] fun ds es N => ds = [] ∧ N es :=
  ⟨gNil, pgs_nil, fun F B H σ es vs ds I D Q N h k => by
    obtain ⟨rfl, h⟩ := h
    cases D
    exact ⟨rfl, k _ _ h I⟩⟩
theorem gts_cons {t : Expr} {ts : List Expr} {f : Dt → List Sl → (List Sl → Prop) → Prop} {g : List Dt → List Sl → (List Sl → Prop) → Prop} (h1 : GT X t f) (h2 : GTs X ts g)
    (hs : (assignEach (t :: ts) X.env).map (·.2) = assign t X.env :: (assignEach ts X.env).map (·.2) := by rfl) : GTs X (t :: ts) fun ds es N => ∃ d r, ds = d :: r ∧ f d es fun es1 => g r es1 N := by
  obtain ⟨t1, p1, q1⟩ := h1
  obtain ⟨t2, p2, q2⟩ := h2
  refine ⟨gCons t1 t2, pgs_cons p1 p2 hs, fun F B H σ es vs ds I D Q N h k => ?_⟩
  obtain ⟨d, r, rfl, h⟩ := h
  cases D with
  | cons D1 D2 =>
    refine ⟨_, _, rfl, ?_⟩
    exact q1 F B H σ es _ d I D1 _ _ h fun es1 σ1 h1 I1 => q2 F B H σ1 es1 _ r I1 D2 Q N h1 k
theorem gt_tup {ts : List Expr} {n k : Nat} {p' : Pos} {g : List Dt → List Sl → (List Sl → Prop) → Prop} (hc : X.calm = true) (h : GTs X ts g) (hn : (assignEach ts X.env).length = n := by rfl) (hst : (assignEach ts X.env).findIdx? (·.1) = none := by rfl) :
    GT X (.Tuple ts k p') fun d es N => ∃ ds, d = .tuple ds ∧ ds.length = n ∧ g ds es N := by
  obtain ⟨t, p1, q1⟩ := h
  refine ⟨gTup X.K n t, pg_tup hc p1 hn hst, fun F B H σ es v d I D Q N h k => ?_⟩
  obtain ⟨ds, rfl, hl, h⟩ := h
  cases D with
  | tup h1 h2 => exact ⟨_, _, rfl, I.bh.sqt h1, by rw [dpa_len h2]; exact hl, q1 F B H σ es _ ds I h2 Q N h k⟩
/-- target = e -/
theorem ws_asg {tg : Expr} {f : Dt → List Sl → (List Sl → Prop) → Prop} (g : GT X tg f) (h : VP X es e fun d es1 => f d es1 P.nx) (hs : swapsWithSole [tg] e pos.line X.env = pure false := by rfl) (hw : swappedStores [tg] e X.env = pure none := by rfl)
    (h1 : (assignEach [tg] X.env).map (·.2) = [assign tg X.env] := by rfl) : WS X es (.Assign [tg] e pos) P := fun F B H σ I D d => by
  obtain ⟨t, p1, q1⟩ := g
  refine SX.of (ps_asg pe_self p1 hs hw h1) ?_
  exact h F B H σ I _ fun v dd B1 H1 es1 hq I1 S1 D1 => q1 F B1 H1 σ es1 v dd I1 D1 _ _ hq fun es' σ' hn I' => d.nx es' B1 H1 σ' hn I' S1.eb

/-! ### loops -/
theorem ws_while (Iv : Nat → List Sl → Prop) (m0 : Nat) (h0 : Iv m0 es) (hp : PassesOwn (model X.prog X.w) X.A X.env X.xe)
    (hs : ∀ m es1, Iv m es1 → VT X es1 c fun p es2 => (p = true → WB X es2 body { P with nx := fun es3 => ∃ m', m' < m ∧ Iv m' es3, ct := fun es3 => ∃ m', m' < m ∧ Iv m' es3, bk := P.nx }) ∧ (p = false → P.nx es2)) :
    WS X es (.While c body [] pos) P := fun F B H σ I D d => by
  refine SX.of (ps_while hp pt_self pss_self) ?_
  refine ⟨fun m σ1 H1 => ∃ B1 es1, Iv m es1 ∧ En X F B1 H1 σ1 es1 ∧ Ext B B1, ⟨m0, B, es, h0, I, Ext.rfl' B⟩, fun m σ1 H1 ⟨B1, es1, hi, I1, e1⟩ => ?_⟩
  refine hs m es1 hi F B1 H1 σ1 I1 _ fun p B2 H2 es2 ⟨ht, hf⟩ I2 S2 => ?_
  cases p with
  | true =>
    refine iteT ⟨fun σ3 H3 => ∃ B3 es3, (∃ m', m' < m ∧ Iv m' es3) ∧ En X F B3 H3 σ3 es3 ∧ Ext B B3, fun σ3 H3 ⟨B3, es3, ⟨m', hm, hi3⟩, I3, e3⟩ => ⟨m', hm, B3, es3, hi3, I3, e3⟩, ?_⟩
    exact ht rfl F B2 H2 σ1 I2 _ ⟨fun es3 B3 H3 σ3 h3 I3 e3 => ⟨B3, es3, h3, I3, (e1.tr S2.eb).tr e3⟩, d.rt, fun es3 B3 H3 σ3 h3 I3 e3 => d.nx es3 B3 H3 σ3 h3 I3 ((e1.tr S2.eb).tr e3), fun es3 B3 H3 σ3 h3 I3 e3 => ⟨B3, es3, h3, I3, (e1.tr S2.eb).tr e3⟩, d.rl⟩
  | false => exact iteF (d.nx es2 B2 H2 σ1 (hf rfl) I2 (e1.tr S2.eb))
/-- what a loop asks, over items xs -/
def LoopAsk (X : Cy) (body : List Stmt) (P : Po) (f : Dt → List Sl → (List Sl → Prop) → Prop) (xs : List Dt) (es1 : List Sl) : Prop :=
  ∃ Iv : Nat → List Sl → Prop, Iv 0 es1 ∧ (∀ (i : Nat) (x : Dt) (es2 : List Sl), xs[i]? = some x → Iv i es2 → f x es2 fun es3 => WB X es3 body { P with nx := Iv (i + 1), ct := Iv (i + 1), bk := P.nx }) ∧ (∀ es2, Iv xs.length es2 → P.nx es2)
/-- for target in a list -/
theorem ws_forL {tg : Expr} {f : Dt → List Sl → (List Sl → Prop) → Prop} (hp : PassesOwn (model X.prog X.w) X.A X.env X.xe) (hc : X.calm = true) (g : GT X tg f)
    (h : VP X es e fun d es1 => ∃ xs, d = .list xs ∧ LoopAsk X body P f xs es1)
    (hs : ∀ x, foldedSetIterable e X.env x = pure x := by intro _; rfl) : WS X es (.For tg e body [] pos) P := fun F B H σ I D d => by
  obtain ⟨t, p1, q1⟩ := g
  refine SX.of (ps_for hp hc (pi_list pe_self) p1 pss_self hs) ?_
  refine h F B H σ I _ fun v dd B1 H1 es1 ⟨xs, hd, Iv, h0, ht, hn⟩ I1 S1 D1 => ?_
  subst hd
  cases D1 with
  | lst l1 l2 =>
    rename_i la lv
    refine ⟨la, rfl, ⟨lv, .inl (.inl (I1.bh _ _ l1))⟩, for_list (K := X.K) (a := la) (xs := lv) (fun i σ2 H2 => ∃ B2 es2, Iv i es2 ∧ En X F B2 H2 σ2 es2 ∧ Ext B1 B2) ⟨B1, es1, h0, I1, Ext.rfl' B1⟩ (fun i σ2 H2 _ ⟨B2, es2, _, I2, e2⟩ => .inl (.inl (I2.bh _ _ (e2 _ _ l1)))) (fun i y σ2 H2 hy ⟨B2, es2, hi, I2, e2⟩ => ?_) (fun σ2 H2 ⟨B2, es2, hi, I2, e2⟩ => ?_)⟩
    · obtain ⟨dx, hx, Dx⟩ := dpa_getv l2 hy
      refine q1 F B2 H2 σ2 es2 y dx I2 (e2.dp _ _ Dx) _ _ (ht i dx es2 hx hi) fun es3 σ3 h3 I3 => ?_
      exact h3 F B2 H2 σ3 I3 _ ⟨fun es4 B4 H4 σ4 h4 I4 e4 => ⟨B4, es4, h4, I4, e2.tr e4⟩, d.rt, fun es4 B4 H4 σ4 h4 I4 e4 => d.nx es4 B4 H4 σ4 h4 I4 (S1.eb.tr (e2.tr e4)), fun es4 B4 H4 σ4 h4 I4 e4 => ⟨B4, es4, h4, I4, e2.tr e4⟩, d.rl⟩
    · rw [dpa_len l2] at hi
      exact d.nx es2 B2 H2 σ2 (hn es2 hi) I2 (S1.eb.tr e2)
/-- for target in a tuple -/
theorem ws_forT {tg : Expr} {f : Dt → List Sl → (List Sl → Prop) → Prop} (hp : PassesOwn (model X.prog X.w) X.A X.env X.xe) (hc : X.calm = true) (g : GT X tg f)
    (h : VP X es e fun d es1 => ∃ xs, d = .tuple xs ∧ LoopAsk X body P f xs es1)
    (hs : ∀ x, foldedSetIterable e X.env x = pure x := by intro _; rfl) : WS X es (.For tg e body [] pos) P := fun F B H σ I D d => by
  obtain ⟨t, p1, q1⟩ := g
  refine SX.of (ps_for hp hc (pi_tup pe_self) p1 pss_self hs) ?_
  refine h F B H σ I _ fun v dd B1 H1 es1 ⟨xs, hd, Iv, h0, ht, hn⟩ I1 S1 D1 => ?_
  subst hd
  cases D1 with
  | tup l1 l2 =>
    rename_i la lv
    refine ⟨la, rfl, ⟨lv, I1.bh.sqt l1⟩, for_tup (K := X.K) (a := la) (xs := lv) (fun i σ2 H2 => ∃ B2 es2, Iv i es2 ∧ En X F B2 H2 σ2 es2 ∧ Ext B1 B2) ⟨B1, es1, h0, I1, Ext.rfl' B1⟩ (fun i σ2 H2 _ ⟨B2, es2, _, I2, e2⟩ => I2.bh.sqt (e2.sqt l1)) (fun i y σ2 H2 hy ⟨B2, es2, hi, I2, e2⟩ => ?_) (fun σ2 H2 ⟨B2, es2, hi, I2, e2⟩ => ?_)⟩
    · obtain ⟨dx, hx, Dx⟩ := dpa_getv l2 hy
      refine q1 F B2 H2 σ2 es2 y dx I2 (e2.dp _ _ Dx) _ _ (ht i dx es2 hx hi) fun es3 σ3 h3 I3 => ?_
      exact h3 F B2 H2 σ3 I3 _ ⟨fun es4 B4 H4 σ4 h4 I4 e4 => ⟨B4, es4, h4, I4, e2.tr e4⟩, d.rt, fun es4 B4 H4 σ4 h4 I4 e4 => d.nx es4 B4 H4 σ4 h4 I4 (S1.eb.tr (e2.tr e4)), fun es4 B4 H4 σ4 h4 I4 e4 => ⟨B4, es4, h4, I4, e2.tr e4⟩, d.rl⟩
    · rw [dpa_len l2] at hi
      exact d.nx es2 B2 H2 σ2 (hn es2 hi) I2 (S1.eb.tr e2)
/-- for target in range(n), range(lo, hi): the turns by a number -/
def RangeAsk (X : Cy) (body : List Stmt) (P : Po) (f : Dt → List Sl → (List Sl → Prop) → Prop) (lo : Int) (n : Nat) (es1 : List Sl) : Prop :=
  ∃ Iv : Nat → List Sl → Prop, Iv 0 es1 ∧ (∀ (i : Nat) (es2 : List Sl), i < n → Iv i es2 → f (.int (lo + i)) es2 fun es3 => WB X es3 body { P with nx := Iv (i + 1), ct := Iv (i + 1), bk := P.nx }) ∧ (∀ es2, Iv n es2 → P.nx es2)
theorem range_go {F : Fm} {t : TG} {tg : Expr} {f : Dt → List Sl → (List Sl → Prop) → Prop} {B B1 H1 : Hp} {σ : L2.St} {D : Ends} {es1 : List Sl} {lo : Int} {n : Nat} (d : DoneAs X F B P D) (eB : Ext B B1)
    (q1 : ∀ (F : Fm) (B H : Hp) (σ : L2.St) (es : List Sl) (v : V) (d : Dt), En X F B H σ es → Dq X.K B v d → ∀ (Q : L2.St → Hp → Prop) (N : List Sl → Prop), f d es N → (∀ (es' : List Sl) (σ' : L2.St), N es' → En X F B H σ' es' → Q σ' H) → t v σ H Q)
    (I1 : En X F B1 H1 σ es1) (h : RangeAsk X body P f lo n es1) :
    ∃ W : Nat → Nat → L2.St → Hp → Prop, (∃ m, W 0 m σ H1) ∧ ∀ i m σ H, W i m σ H →
      ((Itr lo n).stop i H ∧ D.nx σ H) ∨ ((Itr lo n).go i H ∧ ∃ N : L2.St → Hp → Prop, (∀ σ' H', N σ' H' → ∃ m', m' < m ∧ W (i + 1) m' σ' H') ∧ ∀ x H', (Itr lo n).yld i H x H' → t x σ H' fun σ2 H2 => SSX X body { D with nx := N, ct := N, bk := D.nx } σ2 H2) := by
  obtain ⟨Iv, h0, ht, hn⟩ := h
  refine for_range (g := t) (tb := SSX X body) (fun i σ2 H2 => ∃ B2 es2, Iv i es2 ∧ En X F B2 H2 σ2 es2 ∧ Ext B1 B2) ⟨B1, es1, h0, I1, Ext.rfl' B1⟩ (fun i σ2 H2 hi2 ⟨B2, es2, hi, I2, e2⟩ => ?_) (fun σ2 H2 ⟨B2, es2, hi, I2, e2⟩ => ?_)
  · refine q1 F B2 H2 σ2 es2 _ _ I2 (.int _) _ _ (ht i es2 hi2 hi) fun es3 σ3 h3 I3 => ?_
    exact h3 F B2 H2 σ3 I3 _ ⟨fun es4 B4 H4 σ4 h4 I4 e4 => ⟨B4, es4, h4, I4, e2.tr e4⟩, d.rt, fun es4 B4 H4 σ4 h4 I4 e4 => d.nx es4 B4 H4 σ4 h4 I4 (eB.tr (e2.tr e4)), fun es4 B4 H4 σ4 h4 I4 e4 => ⟨B4, es4, h4, I4, e2.tr e4⟩, d.rl⟩
  · exact d.nx es2 B2 H2 σ2 (hn es2 hi) I2 (eB.tr e2)
theorem ws_forR1 {tg : Expr} {pr : Pos} {f : Dt → List Sl → (List Sl → Prop) → Prop} (hp : PassesOwn (model X.prog X.w) X.A X.env X.xe) (hc : X.calm = true) (hm : X.mg "range" = none) (hg : Gl X "range") (g : GT X tg f)
    (h : VP X es a fun d es1 => ∃ n, d = .int n ∧ n < 2 ^ 62 ∧ -(2 ^ 62) ≤ n ∧ RangeAsk X body P f 0 n.toNat es1)
    (he : starEach [a] X.env = [(false, eval a X.env)] := by rfl)
    (hs : ∀ x, foldedSetIterable (.Call (.Name "range" pr) [a] [] p) X.env x = pure x := by intro _; rfl) : WS X es (.For tg (.Call (.Name "range" pr) [a] [] p) body [] pos) P := fun F B H σ I D d => by
  obtain ⟨t, p1, q1⟩ := g
  refine SX.of (ps_for hp hc (pi_range1 hg hm (pa_cons pe_self pa_nil he) he) p1 pss_self hs) ?_
  refine h F B H σ I _ fun v dd B1 H1 es1 ⟨n, hd, n1, n2, hR⟩ I1 S1 D1 => ?_
  subst hd; cases D1
  exact ⟨n, rfl, n2, n1, range_go (tg := tg) d S1.eb q1 I1 hR⟩
theorem ws_forR2 {tg : Expr} {pr : Pos} {f : Dt → List Sl → (List Sl → Prop) → Prop} (hp : PassesOwn (model X.prog X.w) X.A X.env X.xe) (hc : X.calm = true) (hm : X.mg "range" = none) (hg : Gl X "range") (g : GT X tg f)
    (h : VP X es a fun d es1 => ∃ lo, d = .int lo ∧ VP X es1 b fun d2 es2 => ∃ n, d2 = .int n ∧ (-(2 ^ 62) ≤ lo ∧ lo < 2 ^ 62 ∧ -(2 ^ 62) ≤ n ∧ n < 2 ^ 62) ∧ RangeAsk X body P f lo (n - lo).toNat es2)
    (he : starEach [a, b] X.env = [(false, eval a X.env), (false, eval b X.env)] := by rfl) (he2 : starEach [b] X.env = [(false, eval b X.env)] := by rfl)
    (hs : ∀ x, foldedSetIterable (.Call (.Name "range" pr) [a, b] [] p) X.env x = pure x := by intro _; rfl) : WS X es (.For tg (.Call (.Name "range" pr) [a, b] [] p) body [] pos) P := fun F B H σ I D d => by
  obtain ⟨t, p1, q1⟩ := g
  refine SX.of (ps_for hp hc (pi_range2 hg hm (pa_cons pe_self (pa_cons pe_self pa_nil he2) (by rw [he, he2])) he he2) p1 pss_self hs) ?_
  refine h F B H σ I _ fun v dd B1 H1 es1 ⟨lo, hd, hb⟩ I1 S1 D1 => ?_
  subst hd; cases D1
  refine hb F B1 H1 σ I1 _ fun v2 d2 B2 H2 es2 ⟨n, hd2, hn, hR⟩ I2 S2 D2 => ?_
  subst hd2; cases D2
  exact ⟨lo, n, rfl, hn, range_go (tg := tg) d (S1.eb.tr S2.eb) q1 I2 hR⟩
/-- xs.append(e), xs a list of the def's own -/
theorem ws_app (i : Nat) {p2 p3 : Pos} {b : Bool} {ds : List Dt} (hN : X.N[i]? = some x) (hv : Vis X.env.scope x) (he : es[i]? = some (.own b (.l ds)))
    (h : VP X es e fun d es1 => ∃ b ds, es1[i]? = some (.own b (.l ds)) ∧ ds.length < 100000 ∧ P.nx (es1.set i (.own b (.l (ds ++ [d])))))
    (hpe : ∀ {t : TE}, PE X e t → PE X (.Call (.Attribute (.Name x p) "append" p2) [e] [] p3) (tBM X.K "list" rAppend (tVar i) (tCons t tNil)))
    (hs : swapsWith (.Call (.Attribute (.Name x p) "append" p2) [e] [] p3) none pos.line X.env = pure false := by rfl) : WS X es (.Expr (.Call (.Attribute (.Name x p) "append" p2) [e] [] p3) pos) P := fun F B H σ I D d => by
  refine SX.of (ps_expr (hpe pe_self) hs) ?_
  obtain ⟨ad, h1, _⟩ := I.ow
  obtain ⟨s1, _, _, xs, g1, _⟩ := h1 i b ds he
  refine ⟨_, s1, .inl ⟨rfl, xs, .inl (.inl g1)⟩, ?_⟩
  refine h F B H σ I _ fun v dd B1 H1 es1 ⟨b1, ds1, he1, hl, hq⟩ I1 S1 D1 => ?_
  obtain ⟨ad', h1', _⟩ := I1.ow
  obtain ⟨s1', _, _, xs', g1', dx⟩ := h1' i b1 ds1 he1
  have ea : ad i = ad' i := by rw [s1] at s1'; injection s1' with z; injection z with z; injection z
  refine ⟨ad i, xs', v, rfl, rfl, by rw [ea]; exact g1', by rw [dpa_len dx]; exact Nat.lt_of_lt_of_le hl (by decide), ?_⟩
  exact d.nx _ B1 _ σ hq (I1.mut he1 s1 (dpa_app dx (.cons D1 .nil))) S1.eb
end
end Lv

set_option Elab.async false
set_option linter.all false
set_option maxRecDepth 100000
set_option maxHeartbeats 4000000
namespace Lv
open PySem PySem.Spec PyProof.Rows L2

/-! ### slots of a comprehension's own names -/
def wipeE (es : List Sl) : List Nat → List Sl
  | [] => es
  | v :: vs => (wipeE es vs).set v .no
theorem wipeE_get (es : List Sl) : ∀ (vs : List Nat) (i : Nat), (wipeE es vs)[i]? = if i ∈ vs then (es[i]?).map (fun _ => Sl.no) else es[i]?
  | [], i => by simp [wipeE]
  | v :: vs, i => by
    unfold wipeE
    by_cases e : v = i
    · subst e
      rw [List.getElem?_set_self', wipeE_get es vs v]
      simp only [List.mem_cons, true_or, if_true]
      split <;> cases es[v]? <;> rfl
    · rw [List.getElem?_set_ne e, wipeE_get es vs i]
      have : (i ∈ v :: vs) = (i ∈ vs) := by
        rw [List.mem_cons]
        exact propext ⟨fun z => z.resolve_left fun q => e q.symm, .inr⟩
      simp only [this]
theorem wipe_get (σ : L2.St) : ∀ (vs : List Nat) (i : Nat), (wipe σ vs)[i]? = if i ∈ vs then (σ[i]?).map (fun _ => (none : Option V)) else σ[i]?
  | [], i => by simp [wipe]
  | v :: vs, i => by
    unfold wipe
    by_cases e : v = i
    · subst e
      rw [List.getElem?_set_self', wipe_get σ vs v]
      simp only [List.mem_cons, true_or, if_true]
      split <;> cases σ[v]? <;> rfl
    · rw [List.getElem?_set_ne e, wipe_get σ vs i]
      have : (i ∈ v :: vs) = (i ∈ vs) := by
        rw [List.mem_cons]
        exact propext ⟨fun z => z.resolve_left fun q => e q.symm, .inr⟩
      simp only [this]
theorem wipe_set {σ : L2.St} {vs : List Nat} {j : Nat} {x : Option V} (h : j ∈ vs) : wipe (σ.set j x) vs = wipe σ vs := by
  apply List.ext_getElem?
  intro i
  rw [wipe_get, wipe_get]
  by_cases e : j = i
  · subst e
    rw [if_pos h, if_pos h, List.getElem?_set_self']
    cases σ[j]? <;> rfl
  · rw [List.getElem?_set_ne e]
theorem wipe_wipe {σ : L2.St} {vs : List Nat} : wipe (wipe σ vs) vs = wipe σ vs := by
  apply List.ext_getElem?
  intro i
  rw [wipe_get, wipe_get]
  split
  · cases σ[i]? <;> rfl
  · rfl
theorem wipeE_len (es : List Sl) : ∀ vs : List Nat, (wipeE es vs).length = es.length
  | [] => rfl
  | v :: vs => by unfold wipeE; rw [List.length_set, wipeE_len es vs]
def fzOnly : Sl → Sl
  | .fz d => .fz d
  | _ => .no
/-- behind a comprehension: its own names' slots as they were -/
def mrg (vs : List Nat) (k : Nat) : List Sl → List Sl → List Sl
  | a :: as, b :: bs => (if vs.contains k then fzOnly b else a) :: mrg vs (k + 1) as bs
  | as, _ => as
theorem mrg_get (vs : List Nat) : ∀ (as bs : List Sl) (k i : Nat), as.length = bs.length → (mrg vs k as bs)[i]? = if (k + i) ∈ vs then (bs[i]?).map fzOnly else as[i]?
  | [], [], k, i, _ => by simp [mrg]
  | a :: as, b :: bs, k, 0, h => by
    unfold mrg
    simp only [List.getElem?_cons_zero, Nat.add_zero, List.contains_iff_mem, Option.map_some]
    split <;> rfl
  | a :: as, b :: bs, k, i + 1, h => by
    unfold mrg
    simp only [List.getElem?_cons_succ]
    rw [mrg_get vs as bs (k + 1) i (by simpa using h)]
    have e : k + 1 + i = k + (i + 1) := by omega
    rw [e]
  | [], b :: bs, k, i, h => by simp at h
  | a :: as, [], k, i, h => by simp at h
theorem mrg_len (vs : List Nat) : ∀ (as bs : List Sl) (k : Nat), as.length = bs.length → (mrg vs k as bs).length = as.length
  | [], [], k, _ => by simp [mrg]
  | a :: as, b :: bs, k, h => by
    unfold mrg
    simp only [List.length_cons]
    rw [mrg_len vs as bs (k + 1) (by simpa using h)]
  | [], b :: bs, k, h => by simp at h
  | a :: as, [], k, h => by simp at h
def noOw (es : List Sl) (vs : List Nat) : Prop := ∀ v ∈ vs, ∀ (b : Bool) (ds : Ow), es[v]? ≠ some (.own b ds)
def Shp (es es' : List Sl) : Prop := ∀ (i : Nat) (b : Bool), (∃ ds, es'[i]? = some (.own b ds)) ↔ ∃ ds, es[i]? = some (.own b ds)
section
variable {K : PySem.W.Frag} {F : Fm} {B H : Hp} {σ : L2.St} {es : List Sl}
theorem En0.wipe' (I : En0 K F B H σ es) (vs : List Nat) : En0 K F B H (wipe σ vs) (wipeE es vs) := by
  induction vs with
  | nil => exact I
  | cons v vs ih => exact ih.drop
theorem En0.side (I : En0 K F B H σ es) {p : Addr} {o : HO} (hB : B p = none) (hF : F.H p = none) (hS : H p ≠ none) (hn : NotOwn σ es p) : En0 K F B (upd H p o) σ es where
  bh := fun a u e => by rw [upd_ne (ne_of_none e hB)]; exact I.bh a u e
  fb := I.fb
  fh := fun a u e hs => by rw [upd_ne (ne_of_none e hF)]; exact I.fh a u e hs
  fr := I.fr
  st := fun a ha z => by
    by_cases e : a = p
    · subst e; rw [upd_same] at z; cases z
    · rw [upd_ne e] at z; exact I.st a ha z
  len := I.len
  fz := I.fz
  own := by
    obtain ⟨ad, h1, h2⟩ := I.own
    refine ⟨ad, fun i b ds h => ?_, h2⟩
    obtain ⟨a1, a2, a3, xs, a4, a5⟩ := h1 i b ds h
    refine ⟨a1, a2, a3, xs, ?_, a5⟩
    rw [upd_ne (fun z => hn i b ds h (by rw [a1, z]))]
    exact a4
theorem En0.adopt (I : En0 K F B H σ es) {p : Addr} {o : HO} (hB : B p = none) (hF : F.H p = none) (hH : H p = some o) (hn : NotOwn σ es p) : En0 K F (upd B p o) H σ es ∧ Ext B (upd B p o) := by
  have eB : Ext B (upd B p o) := fun a u e => by rw [upd_ne (ne_of_none e hB)]; exact e
  refine ⟨⟨fun a u e => ?_, I.fb.tr eB, I.fh, fun a e => ?_, I.st, I.len, fun i d h => ?_, ?_⟩, eB⟩
  · by_cases ha : a = p
    · subst ha; rw [upd_same] at e; rw [hH]; exact e
    · rw [upd_ne ha] at e; exact I.bh a u e
  · rw [upd_ne (fun z => e (by rw [z]; exact hF))]; exact I.fr a e
  · obtain ⟨v, h1, h2⟩ := I.fz i d h
    exact ⟨v, h1, eB.dp d v h2⟩
  · obtain ⟨ad, h1, h2⟩ := I.own
    refine ⟨ad, fun i b ds h => ?_, h2⟩
    obtain ⟨a1, a2, a3, xs, a4, a5⟩ := h1 i b ds h
    exact ⟨a1, by rw [upd_ne (fun z => hn i b ds h (by rw [a1, z]))]; exact a2, a3, xs, a4, a5.up eB⟩
end

section
variable {X : Cy} {F : Fm} {B H : Hp} {σ : L2.St} {es : List Sl}
theorem En.wipe' (I : En X F B H σ es) (vs : List Nat) : En X F B H (wipe σ vs) (wipeE es vs) := ⟨I.e.wipe' vs, I.tk⟩
theorem En.side (I : En X F B H σ es) {p : Addr} {o : HO} (hB : B p = none) (hF : F.H p = none) (hS : H p ≠ none) (hn : NotOwn σ es p) : En X F B (upd H p o) σ es := ⟨I.e.side hB hF hS hn, I.tk⟩
theorem En.adopt (I : En X F B H σ es) {p : Addr} {o : HO} (hB : B p = none) (hF : F.H p = none) (hH : H p = some o) (hn : NotOwn σ es p) : En X F (upd B p o) H σ es ∧ Ext B (upd B p o) :=
  ⟨⟨(I.e.adopt hB hF hH hn).1, I.tk⟩, (I.e.adopt hB hF hH hn).2⟩
end

/-! ### a comprehension's target, its parts in the block's context -/
section
variable {X : Cy}
/-- a comprehension's block: nothing that is raised leaves it -/
abbrev Cy.blk (X : Cy) (s : Shared) (H : Hp) (scope : Scope) (cenv : Env) (fp : List Addr) : Cy := ⟨X.toCx.blk s H scope cenv fp, fun _ _ => False⟩
theorem takes_no {X : Cy} {F : Fm} (h : ∀ x es, ¬ X.κ x es) : Takes X.toCx (X.W F) := fun _ _ ⟨_, _, _, _, _, _, _, _, _, _, _, _, _, _, _, _, x, _, es, hx, _⟩ => (h x es hx).elim
theorem En.inB {X : Cy} {F : Fm} {B H : Hp} {σ : L2.St} {es : List Sl} (I : En X F B H σ es) {s : Shared} {H0 : Hp} {scope : Scope} {cenv : Env} {fp : List Addr} : En (X.blk s H0 scope cenv fp) F B H σ es := ⟨I.e, takes_no fun _ _ h => h⟩
theorem En.outB {X : Cy} {F : Fm} {B0 H1 B H : Hp} {σ0 σ : L2.St} {es0 es : List Sl} (I0 : En X F B0 H1 σ0 es0) {s : Shared} {H0 : Hp} {scope : Scope} {cenv : Env} {fp : List Addr} (I : En (X.blk s H0 scope cenv fp) F B H σ es) : En X F B H σ es := ⟨I.e, I0.tk⟩
def KX (X : Cy) (scope : Scope) (T : Cy → Prop) : Prop := ∀ (s : Shared) (H : Hp) (C : Addr) (cl : List (Str × Addr)) (fp : List Addr), T (X.blk s H scope (compEnvC scope cl C X.env) fp)
def GTk (X : Cy) (scope : Scope) (vs : List Nat) (tg : Expr) (f : Dt → List Sl → (List Sl → Prop) → Prop) : Prop :=
  ∃ t : TG, (KX X scope fun X' => PG X'.toCx tg t) ∧ ∀ (F : Fm) (B H : Hp) (σ : L2.St) (es : List Sl) (v : V) (d : Dt), En X F B H σ es → Dq X.K B v d → noOw es vs → ∀ (Q : L2.St → Hp → Prop) (N : List Sl → Prop), f d es N →
    (∀ (es' : List Sl) (σ' : L2.St), N es' → En X F B H σ' es' → wipe σ' vs = wipe σ vs → (∀ a, NotOwn σ es a → NotOwn σ' es' a) → Shp es es' → Q σ' H) → t v σ H Q
def GTks (X : Cy) (scope : Scope) (vs : List Nat) (ts : List Expr) (f : List Dt → List Sl → (List Sl → Prop) → Prop) : Prop :=
  ∃ t : TGs, (KX X scope fun X' => PGs X'.toCx ts t) ∧ ∀ (F : Fm) (B H : Hp) (σ : L2.St) (es : List Sl) (us : List V) (ds : List Dt), En X F B H σ es → DqAll X.K B us ds → noOw es vs → ∀ (Q : L2.St → Hp → Prop) (N : List Sl → Prop), f ds es N →
    (∀ (es' : List Sl) (σ' : L2.St), N es' → En X F B H σ' es' → wipe σ' vs = wipe σ vs → (∀ a, NotOwn σ es a → NotOwn σ' es' a) → Shp es es' → Q σ' H) → t us σ H Q
theorem notOwn_put {σ : L2.St} {es : List Sl} {a : Addr} {i : Nat} {x : Option V} {d : Dt} (h : NotOwn σ es a) : NotOwn (σ.set i x) (es.set i (.fz d)) a := fun m b ds hm => by
  rcases set_get hm with ⟨e, e2⟩ | ⟨e, e2⟩
  · cases e2
  · rw [List.getElem?_set_ne e]; exact h m b ds e2
theorem shp_put {es : List Sl} {i : Nat} {d : Dt} (h : ∀ (b : Bool) (ds : Ow), es[i]? ≠ some (.own b ds)) : Shp es (es.set i (.fz d)) := fun m b => by
  constructor
  · rintro ⟨ds, hm⟩
    rcases set_get hm with ⟨e, e2⟩ | ⟨e, e2⟩
    · cases e2
    · exact ⟨ds, e2⟩
  · rintro ⟨ds, hm⟩
    by_cases e : i = m
    · subst e; exact absurd hm (h b ds)
    · exact ⟨ds, by rw [List.getElem?_set_ne e]; exact hm⟩
theorem noOw.shp {es es' : List Sl} {vs : List Nat} (h : noOw es vs) (s : Shp es es') : noOw es' vs := fun v hv b ds e => by
  obtain ⟨ds', e'⟩ := (s v b).mp ⟨ds, e⟩
  exact h v hv b ds' e'
theorem gtk_name {scope : Scope} {vs : List Nat} {x : Str} (i : Nat) {p' : Pos} (hi : i ∈ vs) (h : KX X scope fun X' => PG X'.toCx (.Name x p') (gName i)) : GTk X scope vs (.Name x p') fun d es N => N (es.set i (.fz d)) :=
  ⟨gName i, h, fun F B H σ es v d I D nw Q N hN k => k _ _ hN (I.put D) (wipe_set hi) (fun a => notOwn_put) (shp_put (nw i hi))⟩
theorem gtks_nil {scope : Scope} {vs : List Nat} : GTks X scope vs [] fun ds es N => ds = [] ∧ N es :=
  ⟨gNil, fun _ _ _ _ _ => pgs_nil, fun F B H σ es us ds I D nw Q N h k => by
    obtain ⟨rfl, h⟩ := h
    cases D
    exact ⟨rfl, k _ _ h I rfl (fun _ z => z) (fun _ _ => Iff.rfl)⟩⟩
theorem gtks_cons {scope : Scope} {vs : List Nat} {t : Expr} {ts : List Expr} {f : Dt → List Sl → (List Sl → Prop) → Prop} {g : List Dt → List Sl → (List Sl → Prop) → Prop} (h1 : GTk X scope vs t f) (h2 : GTks X scope vs ts g)
    (hs : KX X scope fun X' => (assignEach (t :: ts) X'.env).map (·.2) = assign t X'.env :: (assignEach ts X'.env).map (·.2) := by intro _ _ _ _ _; rfl) : GTks X scope vs (t :: ts) fun ds es N => ∃ d r, ds = d :: r ∧ f d es fun es1 => g r es1 N := by
  obtain ⟨t1, p1, q1⟩ := h1
  obtain ⟨t2, p2, q2⟩ := h2
  refine ⟨gCons t1 t2, fun s H C cl fp => pgs_cons (p1 s H C cl fp) (p2 s H C cl fp) (hs s H C cl fp), fun F B H σ es us ds I D nw Q N h k => ?_⟩
  obtain ⟨d, r, rfl, h⟩ := h
  cases D with
  | cons D1 D2 =>
    refine ⟨_, _, rfl, ?_⟩
    refine q1 F B H σ es _ d I D1 nw _ _ h fun es1 σ1 h1 I1 w1 n1 s1 => ?_
    refine q2 F B H σ1 es1 _ r I1 D2 (nw.shp s1) Q N h1 fun es2 σ2 h2 I2 w2 n2 s2 => ?_
    exact k es2 σ2 h2 I2 (w2.trans w1) (fun a z => n2 a (n1 a z)) (fun i b => (s2 i b).trans (s1 i b))
theorem gtk_tup {scope : Scope} {vs : List Nat} {ts : List Expr} {n k : Nat} {p' : Pos} {g : List Dt → List Sl → (List Sl → Prop) → Prop} (hc : X.calm = true) (h : GTks X scope vs ts g)
    (hn : KX X scope fun X' => (assignEach ts X'.env).length = n := by intro _ _ _ _ _; rfl) (hst : KX X scope fun X' => (assignEach ts X'.env).findIdx? (·.1) = none := by intro _ _ _ _ _; rfl) :
    GTk X scope vs (.Tuple ts k p') fun d es N => ∃ ds, d = .tuple ds ∧ ds.length = n ∧ g ds es N := by
  obtain ⟨t, p1, q1⟩ := h
  refine ⟨gTup X.K n t, fun s H C cl fp => pg_tup hc (p1 s H C cl fp) (hn s H C cl fp) (hst s H C cl fp), fun F B H σ es v d I D nw Q N h k => ?_⟩
  obtain ⟨ds, rfl, hl, h⟩ := h
  cases D with
  | tup h1 h2 => exact ⟨_, _, rfl, I.bh.sqt h1, by rw [dpa_len h2]; exact hl, q1 F B H σ es _ ds I h2 nw Q N h k⟩
/-- the tests of a clause -/
def PTX (X : Cx) (ifs : List Expr) : TT := fun σ H Q => ∀ (pins : List (Addr × Obj)) (s : Shared), Inv X pins σ H s →
  wpAny (model X.prog X.w) X.A (forIn ifs true fun c r => if r = true then do let ok ← isTrue c X.env (eval c X.env); pure (ForInStep.yield ok) else pure (ForInStep.yield r)) (L2.TP X pins σ Q) X.xe s
def VTs (X : Cy) (es : List Sl) (ifs : List Expr) (Ψ : Bool → List Sl → Prop) : Prop :=
  ∀ (F : Fm) (B H : Hp) (σ : L2.St), En X F B H σ es → ∀ Q : Bool → Hp → Prop, (∀ (b : Bool) (B' H' : Hp) (es' : List Sl), Ψ b es' → En X F B' H' σ es' → Stp σ B H es B' H' es' → Q b H') → PTX X ifs σ H Q
theorem vts_nil {es : List Sl} {Ψ : Bool → List Sl → Prop} (h : Ψ true es) : VTs X es [] Ψ := fun F B H σ I Q q pins s J => pts_nil.run pins s σ H Q J (q true B H es h I Stp.rfl')
theorem vts_one {es : List Sl} {c : Expr} {Ψ : Bool → List Sl → Prop} (h : VT X es c Ψ) : VTs X es [c] Ψ := fun F B H σ I Q q pins s J => (pts_one pt_self).run pins s σ H Q J (h F B H σ I Q q)

def TEk (X : Cy) (scope : Scope) (elt : Expr) : TE := fun σ H Q => KX X scope fun X' => EX X'.toCx elt σ H Q
def TTk (X : Cy) (scope : Scope) (ifs : List Expr) : TT := fun σ H Q => KX X scope fun X' => PTX X'.toCx ifs σ H Q
/-- what a comprehension asks -/
def CompAsk (X : Cy) (scope : Scope) (vs : List Nat) (ifs : List Expr) (elt : Expr) (f : Dt → List Sl → (List Sl → Prop) → Prop) (xs : List Dt) (es1 : List Sl) (Ψ : Dt → List Sl → Prop) : Prop :=
  noOw es1 vs ∧ xs.length ≤ 100000 ∧ ∃ Iv : Nat → List Dt → List Sl → Prop, Iv 0 [] (wipeE es1 vs) ∧
  (∀ (i : Nat) (x : Dt) (acc : List Dt) (es2 : List Sl), xs[i]? = some x → Iv i acc es2 → f x es2 fun es3 => KX X scope fun X' => VTs X' es3 ifs fun b es4 =>
    (b = true → KX X scope fun X' => VP X' es4 elt fun y es5 => Iv (i + 1) (acc ++ [y]) (wipeE es5 vs)) ∧ (b = false → Iv (i + 1) acc (wipeE es4 vs))) ∧
  (∀ (acc : List Dt) (es2 : List Sl), Iv xs.length acc es2 → Ψ (.list acc) (mrg vs 0 es2 es1))
/-- the state of a comprehension: D the new list -/
structure CSB (X : Cy) (F : Fm) (vs : List Nat) (σ : L2.St) (B1 H1 : Hp) (es1 : List Sl) (D : Addr) (i : Nat) (H2 : Hp) (Iv : Nat → List Dt → List Sl → Prop) (B2 : Hp) : Prop where
  ex : ∃ (es2 : List Sl) (vsA : List V) (acc : List Dt), Iv i acc es2 ∧ En X F B2 H2 (wipe σ vs) es2 ∧ Ext B1 B2 ∧ H2 D = some (.lst vsA) ∧ DqAll X.K B2 vsA acc ∧ acc.length ≤ i ∧ Shp (wipeE es1 vs) es2 ∧
    (∀ a o, H1 a = some o → NotOwn σ es1 a → H2 a = some o) ∧ (∀ a, H1 a ≠ none → H2 a ≠ none) ∧ (∀ a, H1 a ≠ none → B2 a = B1 a) ∧ B2 D = none
structure CS (X : Cy) (F : Fm) (vs : List Nat) (σ : L2.St) (B1 H1 : Hp) (es1 : List Sl) (D : Addr) (i : Nat) (H2 : Hp) (Iv : Nat → List Dt → List Sl → Prop) : Prop where
  ex : ∃ B2 : Hp, CSB X F vs σ B1 H1 es1 D i H2 Iv B2
theorem CSB.ext {F : Fm} {vs : List Nat} {σ : L2.St} {B1 H1 : Hp} {es1 : List Sl} {D : Addr} {i : Nat} {H2 : Hp} {Iv : Nat → List Dt → List Sl → Prop} {B2 : Hp} (c : CSB X F vs σ B1 H1 es1 D i H2 Iv B2) : Ext B1 B2 ∧ Ext B2 H2 := by
  obtain ⟨es2, vsA, acc, hI, I2, e2, _⟩ := c.ex
  exact ⟨e2, I2.bh⟩
/-- something new and frozen in between -/
theorem CSB.new {F : Fm} {vs : List Nat} {σ : L2.St} {B1 H1 : Hp} {es1 : List Sl} {D : Addr} {i : Nat} {H2 : Hp} {Iv : Nat → List Dt → List Sl → Prop} {B2 : Hp} (c : CSB X F vs σ B1 H1 es1 D i H2 Iv B2) {p : Addr} {o : HO} (h : H2 p = none) :
    CSB X F vs σ B1 H1 es1 D i (upd H2 p o) Iv (upd B2 p o) ∧ Ext B2 (upd B2 p o) := by
  obtain ⟨es2, vsA, acc, hI, I2, e2, hd, Da, hl, sh, kp, sm, fr, bd⟩ := c.ex
  have eB := I2.newB (o := o) h
  have ne : D ≠ p := ne_of_none hd h
  refine ⟨⟨es2, vsA, acc, hI, I2.new h, e2.tr eB, by rw [upd_ne ne]; exact hd, eB.dpa _ _ Da, hl, sh, fun a u e n => ?_, fun a e z => ?_, fun a e => ?_, by rw [upd_ne ne]; exact bd⟩, eB⟩
  · have := kp a u e n
    rw [upd_ne (ne_of_none this h)]; exact this
  · by_cases ha : a = p
    · subst ha; rw [upd_same] at z; cases z
    · rw [upd_ne ha] at z; exact sm a e z
  · rw [upd_ne (fun z => sm a e (by rw [z]; exact h))]; exact fr a e
theorem notOwn_wipe {σ : L2.St} {es : List Sl} {vs : List Nat} {a : Addr} (h : NotOwn σ es a) : NotOwn (wipe σ vs) (wipeE es vs) a := fun i b ds e => by
  rw [wipeE_get] at e
  rw [wipe_get]
  split at e
  · cases z : es[i]? with
    | none => rw [z] at e; cases e
    | some x => rw [z] at e; cases e
  · rename_i ni
    rw [if_neg ni]
    exact h i b ds e
theorem noOw_wipe {es : List Sl} {vs : List Nat} : noOw (wipeE es vs) vs := fun v hv b ds e => by
  rw [wipeE_get, if_pos hv] at e
  cases z : es[v]? with
  | none => rw [z] at e; cases e
  | some x => rw [z] at e; cases e
theorem shp_wipe {es es' : List Sl} {vs : List Nat} (h : Shp es es') : Shp (wipeE es vs) (wipeE es' vs) := fun i b => by
  constructor
  · rintro ⟨ds, e⟩
    rw [wipeE_get] at e
    split at e
    · cases z : es'[i]? with
      | none => rw [z] at e; cases e
      | some x => rw [z] at e; cases e
    · rename_i ni
      obtain ⟨d2, e2⟩ := (h i b).mp ⟨ds, e⟩
      exact ⟨d2, by rw [wipeE_get, if_neg ni]; exact e2⟩
  · rintro ⟨ds, e⟩
    rw [wipeE_get] at e
    split at e
    · cases z : es[i]? with
      | none => rw [z] at e; cases e
      | some x => rw [z] at e; cases e
    · rename_i ni
      obtain ⟨d2, e2⟩ := (h i b).mpr ⟨ds, e⟩
      exact ⟨d2, by rw [wipeE_get, if_neg ni]; exact e2⟩
theorem wipeE_wipeE {es : List Sl} {vs : List Nat} : wipeE (wipeE es vs) vs = wipeE es vs := by
  apply List.ext_getElem?
  intro i
  rw [wipeE_get, wipeE_get]
  split
  · cases es[i]? <;> rfl
  · rfl
section
variable {scope : Scope} {vs : List Nat} {ifs : List Expr} {elt : Expr} {f : Dt → List Sl → (List Sl → Prop) → Prop} {xs : List Dt} {es1 : List Sl} {F : Fm} {B1 H1 : Hp} {σ : L2.St} {D : Addr} {Iv : Nat → List Dt → List Sl → Prop}
theorem cs_start (I : En X F B1 H1 σ es1) (hD : H1 D = none) (h0 : Iv 0 [] (wipeE es1 vs)) : CS X F vs σ B1 H1 es1 D 0 (upd H1 D (.lst [])) Iv := by
  refine ⟨B1,  wipeE es1 vs, [], [], h0, (I.newO hD).wipe' vs, Ext.rfl' B1, upd_same, .nil, Nat.le_refl _, fun _ _ => Iff.rfl, fun a o e _ => ?_, fun a e => ?_, fun _ _ => rfl, I.bnone hD⟩
  · rw [upd_ne (ne_of_none e hD)]; exact e
  · rw [upd_ne (fun z => e (by rw [z]; exact hD))]; exact e
/-- the new list is none of the def's own -/
theorem cs_notOwn (I : En X F B1 H1 σ es1) (hD : H1 D = none) : NotOwn σ es1 D := notOwn_none I.e hD
/-- one turn -/
theorem cs_turnB {t : TG} (I : En X F B1 H1 σ es1) (hD : H1 D = none) (nw : noOw es1 vs)
    (q1 : ∀ (F : Fm) (B H : Hp) (σ : L2.St) (es : List Sl) (v : V) (d : Dt), En X F B H σ es → Dq X.K B v d → noOw es vs → ∀ (Q : L2.St → Hp → Prop) (N : List Sl → Prop), f d es N →
      (∀ (es' : List Sl) (σ' : L2.St), N es' → En X F B H σ' es' → wipe σ' vs = wipe σ vs → (∀ a, NotOwn σ es a → NotOwn σ' es' a) → Shp es es' → Q σ' H) → t v σ H Q)
    {i : Nat} {H2 B2 : Hp} (cs : CSB X F vs σ B1 H1 es1 D i H2 Iv B2) (hi : i < 100000) {x : Dt} {v : V} (hv : Dq X.K B2 v x)
    (ht : ∀ (acc : List Dt) (es2 : List Sl), Iv i acc es2 → f x es2 fun es3 => KX X scope fun X' => VTs X' es3 ifs fun b es4 =>
      (b = true → KX X scope fun X' => VP X' es4 elt fun y es5 => Iv (i + 1) (acc ++ [y]) (wipeE es5 vs)) ∧ (b = false → Iv (i + 1) acc (wipeE es4 vs))) :
    t v (wipe σ vs) H2 fun σ2 H2 => wipe σ2 vs = wipe σ vs ∧ TTk X scope ifs σ2 H2 fun b H3 => if b = true then TEk X scope elt σ2 H3 fun y H4 => ∃ acc, H4 D = some (.lst acc) ∧ acc.length < sizeLine ∧ CS X F vs σ B1 H1 es1 D (i + 1) (upd H4 D (.lst (acc ++ [y]))) Iv else CS X F vs σ B1 H1 es1 D (i + 1) H3 Iv := by
  obtain ⟨es2, vsA, acc, hI, I2, e2, hd, Da, hl, sh, kp, sm, fr, bd⟩ := cs.ex
  have hno : NotOwn σ es1 D := cs_notOwn I hD
  have hnw : NotOwn (wipe σ vs) es2 D := NotOwn.to (notOwn_wipe (vs := vs) hno) sh
  have fD : F.H D = none := I.fnone hD
  refine q1 F B2 H2 (wipe σ vs) es2 v x I2 hv (noOw.shp noOw_wipe sh) _ _ (ht acc es2 hI) fun es3 σ3 h3 I3 w3 n3 s3 => ?_
  have w3' : wipe σ3 vs = wipe σ vs := w3.trans wipe_wipe
  refine ⟨w3', fun s0 H0 C cl fp => ?_⟩
  refine h3 s0 H0 C cl fp F B2 H2 σ3 I3.inB _ fun b B3 H3 es4 ⟨hT, hF⟩ I4 S4 => ?_
  replace I4 := I.outB I4
  have hd3 : H3 D = some (.lst vsA) := S4.keep D _ hd (n3 D hnw)
  have bd3 : B3 D = none := by rw [S4.fr D (by rw [hd]; simp)]; exact bd
  have kp3 : ∀ a o, H1 a = some o → NotOwn σ es1 a → H3 a = some o := fun a o e n => S4.keep a o (kp a o e n) (n3 a (NotOwn.to (notOwn_wipe (vs := vs) n) sh))
  have sm3 : ∀ a, H1 a ≠ none → H3 a ≠ none := fun a e => S4.som a (sm a e)
  have fr3 : ∀ a, H1 a ≠ none → B3 a = B1 a := fun a e => (S4.fr a (sm a e)).trans (fr a e)
  have sh4 : Shp es2 es4 := fun i b => (S4.shp i b).trans (s3 i b)
  have sh4w : Shp (wipeE es1 vs) (wipeE es4 vs) := by
    have := shp_wipe (vs := vs) (fun i b => (sh4 i b).trans (sh i b) : Shp (wipeE es1 vs) es4)
    rw [wipeE_wipeE] at this
    exact this
  cases b with
  | false =>
    rw [if_neg Bool.false_ne_true]
    have J := I4.wipe' vs
    rw [w3'] at J
    exact ⟨B3,  wipeE es4 vs, vsA, acc, hF rfl, J, e2.tr S4.eb, hd3, S4.eb.dpa _ _ Da, Nat.le_succ_of_le hl, sh4w, kp3, sm3, fr3, bd3⟩
  | true =>
    rw [if_pos rfl]
    intro s0 H0 C cl fp
    refine hT rfl s0 H0 C cl fp F B3 H3 σ3 I4.inB _ fun y d B4 H4 es5 hy I5 S5 Dy => ?_
    replace I5 := I.outB I5
    have hn4 : NotOwn σ3 es4 D := NotOwn.to (n3 D hnw) S4.shp
    have hd4 : H4 D = some (.lst vsA) := S5.keep D _ hd3 hn4
    have bd4 : B4 D = none := by rw [S5.fr D (by rw [hd3]; simp)]; exact bd3
    refine ⟨vsA, hd4, ?_, ?_⟩
    · rw [dpa_len Da]
      exact Nat.lt_of_le_of_lt hl (Nat.lt_trans hi (by decide))
    · have J := I5.wipe' vs
      rw [w3'] at J
      have sh5w : Shp (wipeE es1 vs) (wipeE es5 vs) := by
        have := shp_wipe (vs := vs) (fun i b => (S5.shp i b).trans ((sh4 i b).trans (sh i b)) : Shp (wipeE es1 vs) es5)
        rw [wipeE_wipeE] at this
        exact this
      have hn5 : NotOwn (wipe σ vs) (wipeE es5 vs) D := NotOwn.to (notOwn_wipe (vs := vs) hno) sh5w
      refine ⟨B4, wipeE es5 vs, vsA ++ [y], acc ++ [d], hy, J.side bd4 fD (by rw [hd4]; simp) hn5, (e2.tr S4.eb).tr S5.eb, upd_same, dpa_app (S5.eb.dpa _ _ (S4.eb.dpa _ _ Da)) (.cons Dy .nil), by rw [List.length_append]; exact Nat.succ_le_succ hl, sh5w,
        fun a o e n => ?_, fun a e => ?_, fun a e => (S5.fr a (sm3 a e)).trans (fr3 a e), bd4⟩
      · rw [upd_ne (ne_of_none e hD)]
        exact S5.keep a o (kp3 a o e n) (NotOwn.to (n3 a (NotOwn.to (notOwn_wipe (vs := vs) n) sh)) S4.shp)
      · rw [upd_ne (fun z => e (by rw [z]; exact hD))]
        exact S5.som a (sm3 a e)
theorem cs_turn {t : TG} (I : En X F B1 H1 σ es1) (hD : H1 D = none) (nw : noOw es1 vs)
    (q1 : ∀ (F : Fm) (B H : Hp) (σ : L2.St) (es : List Sl) (v : V) (d : Dt), En X F B H σ es → Dq X.K B v d → noOw es vs → ∀ (Q : L2.St → Hp → Prop) (N : List Sl → Prop), f d es N →
      (∀ (es' : List Sl) (σ' : L2.St), N es' → En X F B H σ' es' → wipe σ' vs = wipe σ vs → (∀ a, NotOwn σ es a → NotOwn σ' es' a) → Shp es es' → Q σ' H) → t v σ H Q)
    {i : Nat} {H2 : Hp} (cs : CS X F vs σ B1 H1 es1 D i H2 Iv) (hi : i < 100000) {x : Dt} {v : V} (hv : ∀ B2, Ext B1 B2 → Dq X.K B2 v x)
    (ht : ∀ (acc : List Dt) (es2 : List Sl), Iv i acc es2 → f x es2 fun es3 => KX X scope fun X' => VTs X' es3 ifs fun b es4 =>
      (b = true → KX X scope fun X' => VP X' es4 elt fun y es5 => Iv (i + 1) (acc ++ [y]) (wipeE es5 vs)) ∧ (b = false → Iv (i + 1) acc (wipeE es4 vs))) :
    t v (wipe σ vs) H2 fun σ2 H2 => wipe σ2 vs = wipe σ vs ∧ TTk X scope ifs σ2 H2 fun b H3 => if b = true then TEk X scope elt σ2 H3 fun y H4 => ∃ acc, H4 D = some (.lst acc) ∧ acc.length < sizeLine ∧ CS X F vs σ B1 H1 es1 D (i + 1) (upd H4 D (.lst (acc ++ [y]))) Iv else CS X F vs σ B1 H1 es1 D (i + 1) H3 Iv := by
  obtain ⟨B2, c⟩ := cs.ex
  exact cs_turnB I hD nw q1 c hi (hv B2 c.ext.1) ht
/-- the end -/
theorem cs_end {B H : Hp} {es : List Sl} {Ψ : Dt → List Sl → Prop} {Q : VK} {n : Nat} (I : En X F B1 H1 σ es1) (hD : H1 D = none) (nw : noOw es1 vs) {H2 : Hp} (cs : CS X F vs σ B1 H1 es1 D n H2 Iv)
    (hn : ∀ (acc : List Dt) (es2 : List Sl), Iv n acc es2 → Ψ (.list acc) (mrg vs 0 es2 es1))
    (q : ∀ (v : V) (d : Dt) (B' H' : Hp) (es' : List Sl), Ψ d es' → En X F B' H' σ es' → Stp σ B H es B' H' es' → Dq X.K B' v d → Q v H') (S1 : Stp σ B H es B1 H1 es1) : Q (.ref D) H2 := by
  obtain ⟨B2, c⟩ := cs.ex
  obtain ⟨es2, vsA, acc, hI, I2, e2, hd, Da, hl, sh, kp, sm, fr, bd⟩ := c.ex
  have hlen : es2.length = es1.length := by
    have a := I2.len
    rw [wipe_length] at a
    rw [← a]; exact I.len
  have gt : ∀ i, (mrg vs 0 es2 es1)[i]? = if i ∈ vs then (es1[i]?).map fzOnly else es2[i]? := fun i => by
    have := mrg_get vs es2 es1 0 i hlen
    rw [Nat.zero_add] at this
    exact this
  have owm : ∀ {i b} {ds : Ow}, (mrg vs 0 es2 es1)[i]? = some (.own b ds) → i ∉ vs ∧ es2[i]? = some (.own b ds) := fun {i b ds} e => by
    rw [gt] at e
    split at e
    · cases z : es1[i]? with
      | none => rw [z] at e; cases e
      | some x => rw [z] at e; cases x <;> cases e
    · rename_i ni
      exact ⟨ni, e⟩
  have J : En X F B2 H2 σ (mrg vs 0 es2 es1) := by
    refine ⟨?_, I.tk⟩
    refine ⟨I2.bh, I2.fb, I2.fh, I2.fr, I2.st, by rw [mrg_len vs es2 es1 0 hlen, hlen]; exact I.len, fun i d e => ?_, ?_⟩
    · rw [gt] at e
      split at e
      · cases z : es1[i]? with
        | none => rw [z] at e; cases e
        | some x =>
          rw [z] at e
          cases x with
          | fz d' =>
            cases e
            obtain ⟨v, h1, h2⟩ := I.fz i d z
            exact ⟨v, h1, e2.dp _ _ h2⟩
          | no => cases e
          | own _ _ => cases e
      · rename_i ni
        obtain ⟨v, h1, h2⟩ := I2.fz i d e
        rw [wipe_get, if_neg ni] at h1
        exact ⟨v, h1, h2⟩
    · obtain ⟨ad, h1, h2⟩ := I2.own
      refine ⟨ad, fun i b ds e => ?_, fun i j b c d1 d2 e1 e2 => ?_⟩
      · obtain ⟨ni, e'⟩ := owm e
        obtain ⟨a1, a2⟩ := h1 i b ds e'
        rw [wipe_get, if_neg ni] at a1
        exact ⟨a1, a2⟩
      · exact h2 i j b c d1 d2 (owm e1).2 (owm e2).2
  have shE : Shp es1 (mrg vs 0 es2 es1) := fun i b => by
    constructor
    · rintro ⟨ds, e⟩
      obtain ⟨ni, e'⟩ := owm e
      obtain ⟨d2, z⟩ := (sh i b).mp ⟨ds, e'⟩
      rw [wipeE_get, if_neg ni] at z
      exact ⟨d2, z⟩
    · rintro ⟨ds, e⟩
      have ni : i ∉ vs := fun z => nw i z b ds e
      obtain ⟨d2, z⟩ := (sh i b).mpr ⟨ds, by rw [wipeE_get, if_neg ni]; exact e⟩
      exact ⟨d2, by rw [gt, if_neg ni]; exact z⟩
  have hno : NotOwn σ es1 D := cs_notOwn I hD
  obtain ⟨J2, eA⟩ := J.adopt bd (I.fnone hD) hd (NotOwn.to hno shE)
  have S2 : Stp σ B1 H1 es1 (upd B2 D (.lst vsA)) H2 (mrg vs 0 es2 es1) := ⟨shE, e2.tr eA, kp, sm, fun a e => by rw [upd_ne (fun z => e (by rw [z]; exact hD))]; exact fr a e⟩
  exact q _ _ _ H2 _ (hn acc es2 hI) J2 (S1.tr S2) (.lst upd_same (eA.dpa _ _ Da))
end
variable {es : List Sl} {Ψ : Dt → List Sl → Prop} {elt tg iter a b : Expr} {ifs : List Expr} {scope : Scope} {own : List (Str × Nat)} {pos p pr : Pos} {f : Dt → List Sl → (List Sl → Prop) → Prop}
theorem vp_lcL (own : List (Str × Nat)) (hc : X.calm = true) (hN : X.N.Nodup) (ok : BlkOk X.N X.env.scope scope own) (g : GTk X scope (own.map (·.2)) tg f)
    (h : VP X es iter fun d es1 => ∃ xs, d = .list xs ∧ CompAsk X scope (own.map (·.2)) ifs elt f xs es1 Ψ) (hs : ∀ x, foldedSetIterable iter X.env x = pure x := by intro _; rfl) :
    VP X es (.ListComp elt [⟨tg, iter, ifs, 0⟩] scope pos) Ψ := fun F B H σ I Q q => by
  obtain ⟨t, p1, q1⟩ := g
  refine EX.of (pe_lc (te := TEk X scope elt) (tt := TTk X scope ifs) hc hN (pi_list pe_self) ok p1 (fun s0 H0 C cl fp => ⟨fun pins s σ H Q I h => h s0 H0 C cl fp pins s I⟩) (fun s0 H0 C cl fp => ⟨fun pins s σ H Q I h => h s0 H0 C cl fp pins s I⟩) hs) ?_
  refine h F B H σ I _ fun v d B1 H1 es1 ⟨xs, hd, nw, hxs, Iv, h0, ht, hn⟩ I1 S1 D1 => ?_
  subst hd
  cases D1 with
  | lst l1 l2 =>
    rename_i la lv
    refine ⟨la, rfl, ⟨lv, .inl (.inl (I1.bh _ _ l1))⟩, fun D hD => lc_list (K := X.K) (a := la) (xs := lv) (g := t) (tt := TTk X scope ifs) (te := TEk X scope elt) (vs := own.map (·.2)) (σ := σ) (D := D) (Qd := fun H => Q (.ref D) H) (fun i H2 => CS X F (own.map (·.2)) σ B1 H1 es1 D i H2 Iv) (cs_start I1 hD h0) (fun i H2 _ cs => ?_) (fun i y H2 hy cs => ?_) (fun H2 cs => ?_)⟩
    · obtain ⟨B2, c⟩ := cs.ex
      exact .inl (.inl (c.ext.2 _ _ (c.ext.1 _ _ l1)))
    · obtain ⟨dx, hx, Dx⟩ := dpa_getv l2 hy
      have hi : i < 100000 := by
        have := (List.getElem?_eq_some_iff.mp hx).1
        omega
      exact cs_turn I1 hD nw q1 cs hi (fun B2 e2 => e2.dp _ _ Dx) (fun acc es2 hI => ht i dx acc es2 hx hI)
    · rw [dpa_len l2] at cs
      exact cs_end I1 hD nw cs hn q S1
theorem vp_lcT (own : List (Str × Nat)) (hc : X.calm = true) (hN : X.N.Nodup) (ok : BlkOk X.N X.env.scope scope own) (g : GTk X scope (own.map (·.2)) tg f)
    (h : VP X es iter fun d es1 => ∃ xs, d = .tuple xs ∧ CompAsk X scope (own.map (·.2)) ifs elt f xs es1 Ψ) (hs : ∀ x, foldedSetIterable iter X.env x = pure x := by intro _; rfl) :
    VP X es (.ListComp elt [⟨tg, iter, ifs, 0⟩] scope pos) Ψ := fun F B H σ I Q q => by
  obtain ⟨t, p1, q1⟩ := g
  refine EX.of (pe_lc (te := TEk X scope elt) (tt := TTk X scope ifs) hc hN (pi_tup pe_self) ok p1 (fun s0 H0 C cl fp => ⟨fun pins s σ H Q I h => h s0 H0 C cl fp pins s I⟩) (fun s0 H0 C cl fp => ⟨fun pins s σ H Q I h => h s0 H0 C cl fp pins s I⟩) hs) ?_
  refine h F B H σ I _ fun v d B1 H1 es1 ⟨xs, hd, nw, hxs, Iv, h0, ht, hn⟩ I1 S1 D1 => ?_
  subst hd
  cases D1 with
  | tup l1 l2 =>
    rename_i la lv
    refine ⟨la, rfl, ⟨lv, I1.bh.sqt l1⟩, fun D hD => lc_tup (K := X.K) (a := la) (xs := lv) (g := t) (tt := TTk X scope ifs) (te := TEk X scope elt) (vs := own.map (·.2)) (σ := σ) (D := D) (Qd := fun H => Q (.ref D) H) (fun i H2 => CS X F (own.map (·.2)) σ B1 H1 es1 D i H2 Iv) (cs_start I1 hD h0) (fun i H2 _ cs => ?_) (fun i y H2 hy cs => ?_) (fun H2 cs => ?_)⟩
    · obtain ⟨B2, c⟩ := cs.ex
      exact c.ext.2.sqt (c.ext.1.sqt l1)
    · obtain ⟨dx, hx, Dx⟩ := dpa_getv l2 hy
      have hi : i < 100000 := by
        have := (List.getElem?_eq_some_iff.mp hx).1
        omega
      exact cs_turn I1 hD nw q1 cs hi (fun B2 e2 => e2.dp _ _ Dx) (fun acc es2 hI => ht i dx acc es2 hx hI)
    · rw [dpa_len l2] at cs
      exact cs_end I1 hD nw cs hn q S1
/-- the ints of a range as data -/
def rng (lo : Int) (n : Nat) : List Dt := (List.range n).map fun (i : Nat) => .int (lo + (i : Int))
theorem rng_len (lo : Int) (n : Nat) : (rng lo n).length = n := by simp [rng]
theorem rng_get {lo : Int} {n i : Nat} (h : i < n) : (rng lo n)[i]? = some (.int (lo + i)) := by
  unfold rng
  rw [List.getElem?_map, List.getElem?_range h]; rfl
theorem vp_lcR1 (own : List (Str × Nat)) (hc : X.calm = true) (hN : X.N.Nodup) (hm : X.mg "range" = none) (hg : Gl X "range") (ok : BlkOk X.N X.env.scope scope own) (g : GTk X scope (own.map (·.2)) tg f)
    (h : VP X es a fun d es1 => ∃ n, d = .int n ∧ n < 2 ^ 62 ∧ -(2 ^ 62) ≤ n ∧ CompAsk X scope (own.map (·.2)) ifs elt f (rng 0 n.toNat) es1 Ψ)
    (he : starEach [a] X.env = [(false, eval a X.env)] := by rfl) (hs : ∀ x, foldedSetIterable (.Call (.Name "range" pr) [a] [] p) X.env x = pure x := by intro _; rfl) :
    VP X es (.ListComp elt [⟨tg, .Call (.Name "range" pr) [a] [] p, ifs, 0⟩] scope pos) Ψ := fun F B H σ I Q q => by
  obtain ⟨t, p1, q1⟩ := g
  refine EX.of (pe_lc (te := TEk X scope elt) (tt := TTk X scope ifs) hc hN (pi_range1 hg hm (pa_cons pe_self pa_nil he) he) ok p1 (fun s0 H0 C cl fp => ⟨fun pins s σ H Q I h => h s0 H0 C cl fp pins s I⟩) (fun s0 H0 C cl fp => ⟨fun pins s σ H Q I h => h s0 H0 C cl fp pins s I⟩) hs) ?_
  refine h F B H σ I _ fun v d B1 H1 es1 ⟨n, hd, b1, b2, nw, hxs, Iv, h0, ht, hn⟩ I1 S1 D1 => ?_
  subst hd; cases D1
  rw [rng_len] at hxs hn
  exact ⟨n, rfl, b2, b1, fun D hD => lc_range (lo := 0) (n := n.toNat) (g := t) (tt := TTk X scope ifs) (te := TEk X scope elt) (vs := own.map (·.2)) (σ := σ) (D := D) (Qd := fun H => Q (.ref D) H) (fun i H2 => CS X F (own.map (·.2)) σ B1 H1 es1 D i H2 Iv) (cs_start I1 hD h0)
    (fun i H2 hi cs => cs_turn I1 hD nw q1 cs (by omega) (fun B2 e2 => .int _) (fun acc es2 hI => ht i _ acc es2 (rng_get hi) hI)) (fun H2 cs => cs_end I1 hD nw cs hn q S1)⟩
theorem vp_lcR2 (own : List (Str × Nat)) (hc : X.calm = true) (hN : X.N.Nodup) (hm : X.mg "range" = none) (hg : Gl X "range") (ok : BlkOk X.N X.env.scope scope own) (g : GTk X scope (own.map (·.2)) tg f)
    (h : VP X es a fun d es1 => ∃ lo, d = .int lo ∧ VP X es1 b fun d2 es2 => ∃ n, d2 = .int n ∧ (-(2 ^ 62) ≤ lo ∧ lo < 2 ^ 62 ∧ -(2 ^ 62) ≤ n ∧ n < 2 ^ 62) ∧ CompAsk X scope (own.map (·.2)) ifs elt f (rng lo (n - lo).toNat) es2 Ψ)
    (he : starEach [a, b] X.env = [(false, eval a X.env), (false, eval b X.env)] := by rfl) (he2 : starEach [b] X.env = [(false, eval b X.env)] := by rfl) (hs : ∀ x, foldedSetIterable (.Call (.Name "range" pr) [a, b] [] p) X.env x = pure x := by intro _; rfl) :
    VP X es (.ListComp elt [⟨tg, .Call (.Name "range" pr) [a, b] [] p, ifs, 0⟩] scope pos) Ψ := fun F B H σ I Q q => by
  obtain ⟨t, p1, q1⟩ := g
  refine EX.of (pe_lc (te := TEk X scope elt) (tt := TTk X scope ifs) hc hN (pi_range2 hg hm (pa_cons pe_self (pa_cons pe_self pa_nil he2) (by rw [he, he2])) he he2) ok p1 (fun s0 H0 C cl fp => ⟨fun pins s σ H Q I h => h s0 H0 C cl fp pins s I⟩) (fun s0 H0 C cl fp => ⟨fun pins s σ H Q I h => h s0 H0 C cl fp pins s I⟩) hs) ?_
  refine h F B H σ I _ fun v d B1 H1 es1 ⟨lo, hd, hb⟩ I1 S1 D1 => ?_
  subst hd; cases D1
  refine hb F B1 H1 σ I1 _ fun v2 d2 B2 H2 es2 ⟨n, hd2, hbd, nw, hxs, Iv, h0, ht, hn⟩ I2 S2 D2 => ?_
  subst hd2; cases D2
  rw [rng_len] at hxs hn
  exact ⟨lo, n, rfl, hbd, fun D hD => lc_range (lo := lo) (n := (n - lo).toNat) (g := t) (tt := TTk X scope ifs) (te := TEk X scope elt) (vs := own.map (·.2)) (σ := σ) (D := D) (Qd := fun H => Q (.ref D) H) (fun i H3 => CS X F (own.map (·.2)) σ B2 H2 es2 D i H3 Iv) (cs_start I2 hD h0)
    (fun i H3 hi cs => cs_turn I2 hD nw q1 cs (by omega) (fun B2 e2 => .int _) (fun acc es2 hI => ht i _ acc es2 (rng_get hi) hI)) (fun H3 cs => cs_end I2 hD nw cs hn q (S1.tr S2))⟩

/-- where each item gives at most one datum, told by the item alone, and the slots stay -/
theorem comp_map {vs : List Nat} {xs : List Dt} {es1 : List Sl} (pt : Dt → Bool) (gv : Dt → Dt) (nw : noOw es1 vs) (hl : xs.length ≤ 100000)
    (ht : ∀ x ∈ xs, f x (wipeE es1 vs) fun es3 => KX X scope fun X' => VTs X' es3 ifs fun b es4 => b = pt x ∧ wipeE es4 vs = wipeE es1 vs ∧ (b = true → KX X scope fun X' => VP X' es4 elt fun y es5 => y = gv x ∧ wipeE es5 vs = wipeE es1 vs))
    (hmono : ∀ (x : Dt) (es : List Sl) (N N' : List Sl → Prop), f x es N → (∀ e, N e → N' e) → f x es N')
    (h : Ψ (.list ((xs.filter pt).map gv)) (mrg vs 0 (wipeE es1 vs) es1)) : CompAsk X scope vs ifs elt f xs es1 Ψ := by
  refine ⟨nw, hl, fun i acc es2 => es2 = wipeE es1 vs ∧ acc = ((xs.take i).filter pt).map gv, ⟨rfl, rfl⟩, fun i x acc es2 hx ⟨h1, h2⟩ => ?_, fun acc es2 ⟨h1, h2⟩ => ?_⟩
  · subst h1 h2
    have hm : x ∈ xs := List.mem_of_getElem? hx
    have tk : xs.take (i + 1) = xs.take i ++ [x] := by
      rw [List.take_add_one, hx]; rfl
    refine hmono _ _ _ _ (ht x hm) fun es3 h3 s0 H0 C cl fp F B H σ I Q q => ?_
    refine h3 s0 H0 C cl fp F B H σ I Q fun b B' H' es4 ⟨hb, hw, hy⟩ I' S' => q b B' H' es4 ⟨fun hb1 s1 H1 C1 cl1 fp1 => ?_, fun hb1 => ⟨hw, ?_⟩⟩ I' S'
    · refine (hy hb1 s1 H1 C1 cl1 fp1).imp fun y es5 ⟨h5, w5⟩ => ⟨w5, ?_⟩
      rw [tk, List.filter_append, List.map_append]
      have : ([x].filter pt) = [x] := by simp [← hb, hb1]
      rw [this, h5]; rfl
    · rw [tk, List.filter_append, List.map_append]
      have : ([x].filter pt) = [] := by simp [← hb, hb1]
      rw [this]; simp
  · subst h1 h2
    rw [List.take_length]
    exact h
end
end Lv

set_option Elab.async false
set_option linter.all false
set_option maxRecDepth 100000
set_option maxHeartbeats 4000000
namespace Lv
open PySem PySem.Spec PyProof.Rows L2
/-! ### a def's promise from its body -/
def ini (N : List Str) (ds : List Dt) : List Sl := ds.map Sl.fz ++ List.replicate (N.length - ds.length) Sl.no
def iniO (N : List Str) (ds : List Dt) (as : List Dt) : List Sl := Sl.own false (.l ds) :: (as.map Sl.fz ++ List.replicate (N.length - (as.length + 1)) Sl.no)
section
variable {P : Program} {w : World} {K : PySem.W.Frag} {mg : Str → Option Value} {base : Heap}
theorem ini_fz {N : List Str} {ds : List Dt} {i : Nat} {d : Dt} (h : (ini N ds)[i]? = some (.fz d)) : ds[i]? = some d := by
  unfold ini at h
  by_cases hi : i < ds.length
  · rw [List.getElem?_append_left (by simpa using hi), List.getElem?_map] at h
    cases e : ds[i]? with
    | none => rw [e] at h; cases h
    | some x => rw [e] at h; cases h; rfl
  · rw [List.getElem?_append_right (by simpa using hi), List.getElem?_replicate] at h
    split at h <;> cases h
theorem ini_ow {N : List Str} {ds : List Dt} {i : Nat} {b : Bool} {d : Ow} (h : (ini N ds)[i]? = some (.own b d)) : False := by
  unfold ini at h
  by_cases hi : i < ds.length
  · rw [List.getElem?_append_left (by simpa using hi), List.getElem?_map] at h
    cases e : ds[i]? with
    | none => rw [e] at h; cases h
    | some x => rw [e] at h; cases h
  · rw [List.getElem?_append_right (by simpa using hi), List.getElem?_replicate] at h
    split at h <;> cases h
theorem start_get {N : List Str} {vs : List V} {i : Nat} {v : V} (h : vs[i]? = some v) : (L2.start N vs)[i]? = some (some v) := by
  unfold L2.start
  have hi := (List.getElem?_eq_some_iff.mp h).1
  rw [List.getElem?_append_left (by simpa using hi), List.getElem?_map, h]; rfl
/-- the body's context with what is wanted of exceptions -/
abbrev cyOf (P : Program) (w : World) (K : PySem.W.Frag) (mg : Str → Option Value) (base : Heap) (N : List Str) (qual : Str) (scope : Scope) (f : Addr) (cd : Value) (A : Around) (outer : List Env) (s : Shared) (H : Hp) (E : XK) (κ : Xn → List Sl → Prop) : Cy :=
  ⟨cxOf (L2.CX P w) P w K mg base N qual scope f cd A outer s H E, κ⟩
theorem cyOf_takes {P : Program} {w : World} {K : PySem.W.Frag} {mg : Str → Option Value} {base : Heap} {N : List Str} {qual : Str} {scope : Scope} {f : Addr} {cd : Value} {A : Around} {outer : List Env} {s : Shared} {H : Hp} {E : XK} {κ : Xn → List Sl → Prop} {F : Fm}
    (h : ∀ c d σ H', (cyOf P w K mg base N qual scope f cd A outer s H E κ).W F c d σ H' → E c d H') : Takes (cyOf P w K mg base N qual scope f cd A outer s H E κ).toCx ((cyOf P w K mg base N qual scope f cd A outer s H E κ).W F) :=
  (L2.takes_of (X := cxOf (L2.CX P w) P w K mg base N qual scope f cd A outer s H E) (E := E) rfl rfl rfl rfl).imp h
theorem ini_en {K : PySem.W.Frag} {B H : Hp} {N : List Str} {vs : List V} {ds : List Dt} (eb : Ext B H) (D : DqAll K B vs ds) : En0 K ⟨B, H, []⟩ B H (L2.start N vs) (ini N ds) := by
  refine ⟨eb, Ext.rfl' B, fun a o e _ => e, fun _ _ => rfl, fun a ha => (by cases ha), ?_, fun i d h => ?_, fun _ => 0, fun i b d h => (ini_ow h).elim, fun i j b c d1 d2 h _ _ => (ini_ow h).elim⟩
  · unfold L2.start ini
    rw [List.length_append, List.length_append, List.length_map, List.length_map, List.length_replicate, List.length_replicate, dpa_len D]
  · obtain ⟨v, h1, h2⟩ := dpa_get D (ini_fz h)
    exact ⟨v, start_get h1, h2⟩
theorem En0.bk {K : PySem.W.Frag} {B H B' H' : Hp} {σ : L2.St} {es : List Sl} (I : En0 K ⟨B, H, []⟩ B' H' σ es) : Bk B H B' H' := ⟨I.fb, fun a o e => I.fh a o e (by simp), I.bh, I.fr⟩
theorem ok_R {x qual : Str} {st : Stmt} {f : Addr} {fd : FuncData} {N ps : List Str} {k : Nat} {R : RR} (F : Fun K x qual st f fd) (S : FnScope N ps (defScope st)) (hN : ps.length ≤ N.length)
    (hR : ∀ ds G Gx, R ds G Gx → ds.length = ps.length)
    (body : ∀ (cdv : Value) (A : Around) (outer : List Env) (s : Shared) (H : Hp) (E : XK) (ds : List Dt) (G : Dt → Prop) (Gx : Xn → Prop), Room k (cyOf P w K mg base N qual (defScope st) f cdv A outer s H E fun x _ => Gx x).A → R ds G Gx →
      WB (cyOf P w K mg base N qual (defScope st) f cdv A outer s H E fun x _ => Gx x) (ini N ds) (defBody st) { nx := fun _ => G .none, rt := fun d _ => G d }) :
    FnOk P w K mg base (L2.CX P w) (k + 1) f fd ps (spR K mg R) := by
  refine F.okX S (fun vs H Q E h => ?_) (fun cdv A outer s H vs Q E hr h => ?_)
  · obtain ⟨B, ds, G, Gx, _, D, hR1, _⟩ := h
    rw [dpa_len D]; exact hR ds G Gx hR1
  · obtain ⟨B, ds, G, Gx, eb, D, hR1, q, qx⟩ := h
    refine ⟨_, pss_self, ?_⟩
    have I := ini_en (N := N) eb D
    refine body cdv A outer s H E ds G Gx hr hR1 ⟨B, H, []⟩ B H _ ⟨I, cyOf_takes fun c d σ H' ⟨x, B', es', hx, J, xc, hn⟩ => qx c d x B' H' hx J.bk xc hn⟩ _ ⟨fun es' B' H' σ' hg I' e' => ?_, fun v d es' B' H' σ' hg I' D' => ?_, fun _ _ _ _ h => h.elim, fun _ _ _ _ h => h.elim, fun _ _ _ _ _ _ _ h => h.elim⟩
    · exact q .non .none B' H' hg I'.e.bk .non
    · exact q v d B' H' hg I'.e.bk D'
theorem iniO_own {N : List Str} {ds as : List Dt} {i : Nat} {b : Bool} {c : Ow} (h : (iniO N ds as)[i]? = some (.own b c)) : i = 0 ∧ b = false ∧ c = .l ds := by
  have hi : ∀ {i : Nat}, (iniO N ds as)[i + 1]? = (as.map Sl.fz ++ List.replicate (N.length - (as.length + 1)) Sl.no)[i]? := rfl
  cases i with
  | zero => cases h; exact ⟨rfl, rfl, rfl⟩
  | succ i =>
    rw [hi] at h
    by_cases hh : i < as.length
    · rw [List.getElem?_append_left (by simpa using hh), List.getElem?_map] at h
      cases e : as[i]? with
      | none => rw [e] at h; cases h
      | some x => rw [e] at h; cases h
    · rw [List.getElem?_append_right (by simpa using hh), List.getElem?_replicate] at h
      split at h <;> cases h
theorem iniO_en {K : PySem.W.Frag} {B H : Hp} {N : List Str} {p : Addr} {rest xs : List V} {ds as : List Dt} (eb : Ext B H) (hB : B p = none) (hp : H p = some (.lst xs)) (Dx : DqAll K B xs ds) (D : DqAll K B rest as) : En0 K ⟨B, H, [p]⟩ B H (L2.start N (.ref p :: rest)) (iniO N ds as) := by
  have hi : ∀ {i : Nat}, (iniO N ds as)[i + 1]? = (as.map Sl.fz ++ List.replicate (N.length - (as.length + 1)) Sl.no)[i]? := rfl
  refine ⟨eb, Ext.rfl' B, fun a o e _ => e, fun _ _ => rfl, fun a ha => ?_, ?_, fun i d h => ?_, ⟨fun _ => p, fun i b d h => ?_, fun i j b c d1 d2 h1 h2 _ => ?_⟩⟩
  · simp only [List.mem_singleton] at ha
    rw [ha, hp]; simp
  · unfold L2.start iniO
    simp only [List.length_append, List.length_map, List.length_replicate, List.length_cons, dpa_len D]
    have := dpa_len D
    omega
  · cases i with
    | zero => cases h
    | succ i =>
      rw [hi] at h
      by_cases hh : i < as.length
      · rw [List.getElem?_append_left (by simpa using hh), List.getElem?_map] at h
        cases e : as[i]? with
        | none => rw [e] at h; cases h
        | some x =>
          rw [e] at h; cases h
          obtain ⟨v, h1, h2⟩ := dpa_get D e
          exact ⟨v, start_get (i := i + 1) (by simpa using h1), h2⟩
      · rw [List.getElem?_append_right (by simpa using hh), List.getElem?_replicate] at h
        split at h <;> cases h
  · obtain ⟨rfl, rfl, rfl⟩ := iniO_own h
    exact ⟨start_get (i := 0) rfl, hB, ⟨fun z => (by cases z), fun _ => (by simp)⟩, _, hp, .l Dx⟩
  · obtain ⟨rfl, _, _⟩ := iniO_own h1
    obtain ⟨rfl, _, _⟩ := iniO_own h2
    rfl
/-- at the end: the list that was handed over -/
theorem En0.bkO {K : PySem.W.Frag} {B H B' H' : Hp} {p : Addr} {σ : L2.St} {es : List Sl} {ds' : List Dt} (I : En0 K ⟨B, H, [p]⟩ B' H' σ es) (h0 : es[0]? = some (.own false (.l ds'))) : BkO p B H B' H' ∧ ∃ xs', H' p = some (.lst xs') ∧ DqAll K B' xs' ds' := by
  obtain ⟨ad, h1, _⟩ := I.ow
  obtain ⟨a1, a2, a3, xs', a4, a5⟩ := h1 0 false ds' h0
  have ep : ad 0 = p := by
    have := a3.2 rfl
    simpa using this
  rw [ep] at a4
  exact ⟨⟨I.fb, fun a o e n => I.fh a o e (by simpa using n), I.bh, I.fr⟩, xs', a4, a5⟩
theorem ok_O {x qual : Str} {st : Stmt} {f : Addr} {fd : FuncData} {N ps : List Str} {k : Nat} {R : RO} (F : Fun K x qual st f fd) (S : FnScope N ps (defScope st)) (hN : ps.length ≤ N.length)
    (hR : ∀ ds as G Gx, R ds as G Gx → as.length + 1 = ps.length)
    (body : ∀ (cdv : Value) (A : Around) (outer : List Env) (s : Shared) (H : Hp) (E : XK) (ds as : List Dt) (G : Dt → List Dt → Prop) (Gx : Xn → List Dt → Prop), Room k (cyOf P w K mg base N qual (defScope st) f cdv A outer s H E fun x es => ∃ ds', es[0]? = some (.own false (.l ds')) ∧ Gx x ds').A → R ds as G Gx →
      WB (cyOf P w K mg base N qual (defScope st) f cdv A outer s H E fun x es => ∃ ds', es[0]? = some (.own false (.l ds')) ∧ Gx x ds') (iniO N ds as) (defBody st) { nx := fun es => ∃ ds', es[0]? = some (.own false (.l ds')) ∧ G .none ds', rt := fun d es => ∃ ds', es[0]? = some (.own false (.l ds')) ∧ G d ds' }) :
    FnOk P w K mg base (L2.CX P w) (k + 1) f fd ps (spO K mg R) := by
  refine F.okX S (fun vs H Q E h => ?_) (fun cdv A outer s H vs Q E hr h => ?_)
  · obtain ⟨B, p, rest, xs, ds, as, G, Gx, rfl, _, _, _, _, D, hR1, _⟩ := h
    show rest.length + 1 = _
    rw [dpa_len D]; exact hR ds as G Gx hR1
  · obtain ⟨B, p, rest, xs, ds, as, G, Gx, rfl, eb, hB, hp, Dx, D, hR1, q, qx⟩ := h
    refine ⟨_, pss_self, ?_⟩
    have I := iniO_en (N := N) eb hB hp Dx D
    refine body cdv A outer s H E ds as G Gx hr hR1 ⟨B, H, [p]⟩ B H _ ⟨I, cyOf_takes fun c d σ H' ⟨x, B', es', ⟨ds', h0, hx⟩, J, xc, hn⟩ => ?_⟩ _ ⟨fun es' B' H' σ' hg I' e' => ?_, fun v d es' B' H' σ' hg I' D' => ?_, fun _ _ _ _ h => h.elim, fun _ _ _ _ h => h.elim, fun _ _ _ _ _ _ _ h => h.elim⟩
    · obtain ⟨kk, xs', g1, g2⟩ := J.bkO h0
      exact qx c d x ds' xs' B' H' hx kk g1 g2 xc hn
    · obtain ⟨ds', h0, hg⟩ := hg
      obtain ⟨kk, xs', g1, g2⟩ := I'.e.bkO h0
      exact q .non .none ds' xs' B' H' hg kk g1 g2 .non
    · obtain ⟨ds', h0, hg⟩ := hg
      obtain ⟨kk, xs', g1, g2⟩ := I'.e.bkO h0
      exact q v d ds' xs' B' H' hg kk g1 g2 D'
end
/-! ### the law -/
def spLaw (K : PySem.W.Frag) : Sp := fun vs H Q _ => ∃ (a : Addr) (ns : List Int), vs = [.ref a] ∧ SqL K H a (ns.map V.int) ∧ ns.length ≤ 63 ∧ ∀ H', Q (.bl true) H'
def RLaw0 : List Dt → (Dt → Prop) → Prop := fun ds G => ∃ ns : List Int, ds = [.scr (ns.map Dt.int)] ∧ ns.length ≤ 63 ∧ G (.bool true)
def RLaw : RR := fun ds G _ => RLaw0 ds G
theorem dqa_of_ints {K : PySem.W.Frag} {H : Hp} : ∀ (ns : List Int), DqAll K H (ns.map V.int) (ns.map Dt.int)
  | [] => .nil
  | n :: ns => .cons (.int n) (dqa_of_ints ns)
/-- no exception leaves where none is wanted -/
theorem cx_none {P : Program} {w : World} {outer : List Env} {H : Hp} {s : Shared} {e : Value} {s' : Shared} (h : L2.CX P w outer H s (fun _ _ _ => False) e s') : False := by
  obtain ⟨_, _, _, _, _, _, _, _, _, _, _, _, h⟩ := h
  exact h
theorem law_of {P : Program} {w : World} {K : PySem.W.Frag} {mg : Str → Option Value} {base : Heap} {k : Nat} {f : Addr} {fd : FuncData} {ps : List Str} (F : FnOk P w K mg base (L2.CX P w) k f fd ps (spR K mg RLaw)) : FnOk P w K mg base CX0 k f fd ps (spLaw K) := by
  have key : ∀ vs H Q, spLaw K vs H Q (fun _ _ _ => False) → spR K mg RLaw vs H Q (fun _ _ _ => False) := fun vs H Q h => by
    obtain ⟨a, ns, rfl, hS, hl, q⟩ := h
    refine ⟨H, [.scr (ns.map Dt.int)], fun d => d = .bool true, fun _ => False, Ext.rfl' H, .cons (.scr hS (dqa_of_ints ns)) .nil, ⟨ns, rfl, hl, rfl⟩, fun v d B' H' hd _ Dv => ?_, fun _ _ _ _ _ h => h.elim⟩
    subst hd
    cases Dv
    exact q H'
  refine ⟨fun vs H Q E h => F.len vs H Q _ (key vs H Q h), fun A outer s H args us vs Q E hr he hb hv hs => ?_⟩
  refine codeAny_mono (F.run A outer s H args us vs Q (fun _ _ _ => False) hr he hb hv (key vs H Q hs)) fun r s' h => ?_
  cases r with
  | error e => exact (cx_none h).elim
  | ok fl =>
    cases fl with
    | ret u => exact h
    | next => exact h.elim
    | brk => exact h.elim
    | cont => exact h.elim
end Lv

set_option Elab.async false
set_option linter.all false
set_option maxRecDepth 100000
set_option maxHeartbeats 4000000
namespace Lv
open PySem PySem.Spec PyProof.Rows L2
section
variable {X : Cy} {es : List Sl} {Ψ : Dt → List Sl → Prop} {a b c e elt : Expr} {as ifs : List Expr} {pos p pr : Pos} {x : Str} {scope : Scope} {f : Dt → List Sl → (List Sl → Prop) → Prop}
/-! ### short forms: the slot's number alone -/
theorem vp_v (i : Nat) {d : Dt} (h : Ψ d es) (hN : X.N[i]? = some x := by rfl) (hv : Vis X.env.scope x := by first | exact Or.inl rfl | exact Or.inr (Or.inl rfl) | exact Or.inr (Or.inr rfl)) (he : es[i]? = some (.fz d) := by rfl)
    (hd : (x == ("__debug__" : Str)) = false := by decide) (hcd : (x == ("__classdict__" : Str)) = false := by decide) : VP X es (.Name x pos) Ψ := vp_var i hN hv he h hd hcd
/-! ### lists and tuples put together -/
theorem vp_cat (h : VP X es a fun d es1 => VP X es1 b fun d2 es2 => ∃ xs ys, d = .list xs ∧ d2 = .list ys ∧ xs.length + ys.length ≤ 100000 ∧ Ψ (.list (xs ++ ys)) es2) : VP X es (.BinOp a .Add b pos) Ψ := fun F B H σ I Q q => by
  refine EX.of (pe_op op_cat pe_self pe_self) ?_
  refine h F B H σ I _ fun v d B1 H1 es1 hb I1 S1 D1 => ?_
  refine hb F B1 H1 σ I1 _ fun v2 d2 B2 H2 es2 ⟨xs, ys, hd, hd2, hl, hq⟩ I2 S2 D2 => ?_
  subst hd hd2
  cases D1 with
  | lst h1 h2 =>
    cases D2 with
    | lst g1 g2 =>
      refine ⟨_, _, _, _, rfl, rfl, I2.bh _ _ (S2.eb _ _ h1), I2.bh _ _ g1, by rw [dpa_len h2, dpa_len g2]; exact Nat.le_trans hl (by decide), fun p hp => ?_⟩
      exact q _ _ _ _ es2 hq (I2.new hp) ((S1.tr S2).tr (Stp.new I2 hp)) (.lst upd_same ((I2.newB hp).dpa _ _ (dpa_app (S2.eb.dpa _ _ h2) g2)))
theorem dqa_rep {K : PySem.W.Frag} {B : Hp} {xs : List V} {ds : List Dt} (h : DqAll K B xs ds) : ∀ n : Nat, DqAll K B (List.replicate n xs).flatten (List.replicate n ds).flatten
  | 0 => .nil
  | n + 1 => by
    rw [List.replicate_succ, List.replicate_succ, List.flatten_cons, List.flatten_cons]
    exact dpa_app h (dqa_rep h n)
theorem vp_rep (h : VP X es a fun d es1 => VP X es1 b fun d2 es2 => ∃ xs k, d = .list xs ∧ d2 = .int k ∧ -(2 ^ 63) ≤ k ∧ k < 2 ^ 63 ∧ xs.length * k.toNat ≤ 100000 ∧ Ψ (.list (List.replicate k.toNat xs).flatten) es2) : VP X es (.BinOp a .Mult b pos) Ψ := fun F B H σ I Q q => by
  refine EX.of (pe_op op_rep pe_self pe_self) ?_
  refine h F B H σ I _ fun v d B1 H1 es1 hb I1 S1 D1 => ?_
  refine hb F B1 H1 σ I1 _ fun v2 d2 B2 H2 es2 ⟨xs, k, hd, hd2, k1, k2, hl, hq⟩ I2 S2 D2 => ?_
  subst hd hd2
  cases D2
  cases D1 with
  | lst h1 h2 =>
    refine ⟨_, _, _, rfl, rfl, I2.bh _ _ (S2.eb _ _ h1), k1, k2, by rw [dpa_len h2]; exact Nat.le_trans hl (by decide), fun p hp => ?_⟩
    exact q _ _ _ _ es2 hq (I2.new hp) ((S1.tr S2).tr (Stp.new I2 hp)) (.lst upd_same ((I2.newB hp).dpa _ _ (dqa_rep (S2.eb.dpa _ _ h2) _)))
theorem vp_catT (h : VP X es a fun d es1 => VP X es1 b fun d2 es2 => ∃ xs ys, d = .tuple xs ∧ d2 = .tuple ys ∧ xs ≠ [] ∧ ys ≠ [] ∧ xs.length + ys.length ≤ 100000 ∧ Ψ (.tuple (xs ++ ys)) es2) : VP X es (.BinOp a .Add b pos) Ψ := fun F B H σ I Q q => by
  refine EX.of (pe_op op_catT pe_self pe_self) ?_
  refine h F B H σ I _ fun v d B1 H1 es1 hb I1 S1 D1 => ?_
  refine hb F B1 H1 σ I1 _ fun v2 d2 B2 H2 es2 ⟨xs, ys, hd, hd2, hx, hy, hl, hq⟩ I2 S2 D2 => ?_
  subst hd hd2
  cases D1 with
  | tup h1 h2 =>
    cases D2 with
    | tup g1 g2 =>
      have n1 := dpa_len h2
      have n2 := dpa_len g2
      refine ⟨_, _, _, _, rfl, rfl, I2.bh.sqt (S2.eb.sqt h1), I2.bh.sqt g1, fun z => hx (List.eq_nil_of_length_eq_zero (by rw [← n1, z]; rfl)), by rw [n1, n2]; exact Nat.le_trans hl (by decide), fun z => absurd (List.eq_nil_of_length_eq_zero (by rw [← n2, z]; rfl)) hy, fun _ p hp => ?_⟩
      exact q _ _ _ _ es2 hq (I2.new hp) ((S1.tr S2).tr (Stp.new I2 hp)) (.tup (.inl (.inl upd_same)) ((I2.newB hp).dpa _ _ (dpa_app (S2.eb.dpa _ _ h2) g2)))
theorem upd_upd {H : Hp} {p : Addr} {o o' : HO} : upd (upd H p o) p o' = upd H p o' := by
  funext b
  by_cases e : b = p
  · subst e; rw [upd_same, upd_same]
  · rw [upd_ne e, upd_ne e, upd_ne e]
/-- a new dict that is never written -/
theorem pe_dnewL {X : Cx} {p : Pos} : PE X (.Dict [] [] p) (fun _ H Q => ∀ a od, H a = none → Q (.ref a) (upd H a (.frz od (.dK [])))) := ⟨fun pins s σ H Q I h => by
  refine thn (pe_dnewK.run pins s σ H (fun v H1 => ∃ a, v = .ref a ∧ H a = none ∧ H1 = upd H a (.dK [])) I fun a ha => ⟨a, rfl, ha, rfl⟩) fun u s1 ⟨v, H1, I1, r, a, ev, ha, eh⟩ => ?_
  subst ev eh
  obtain ⟨od, I2⟩ := I1.lock (d := a) upd_same trivial
  rw [upd_upd] at I2
  exact ⟨_, _, I2, r, h a od ha⟩⟩
/-- {} -/
theorem vp_dnew {p : Pos} (h : Ψ (.dK [] []) es) : VP X es (.Dict [] [] p) Ψ := fun F B H σ I Q q => by
  refine EX.of pe_dnewL ?_
  exact fun l od hl => q _ _ _ _ es h (I.new hl) (Stp.new I hl) (.dK rfl upd_same .nil)
/-- an int in a written tuple of ints -/
theorem inV_ints (i : Int) : ∀ ns : List Int, inV (.int i) (ns.map V.int) = ns.any (fun n => n == i)
  | [] => rfl
  | n :: ns => by
    show (eqV (.int n) (.int i) || inV (.int i) (ns.map V.int)) = _
    rw [inV_ints i ns]
    rfl
theorem vp_inI (h : VP X es a fun d es1 => VP X es1 b fun d2 es2 => ∃ (i : Int) (ns : List Int), d = .int i ∧ SeqD d2 (ns.map Dt.int) ∧ Ψ (.bool (ns.any fun n => n == i)) es2) (hm : behindInMarks .In b = false := by rfl) : VP X es (.Compare a [.In] [b] pos) Ψ := fun F B H σ I Q q => by
  refine EX.of (pe_cmpR op_in_seq pe_self pe_self hm) ?_
  refine h F B H σ I _ fun v d B1 H1 es1 hb I1 S1 D1 => ?_
  refine hb F B1 H1 σ I1 _ fun v2 d2 B2 H2 es2 ⟨i, ns, hd, hd2, hq⟩ I2 S2 D2 => ?_
  subst hd
  cases D1
  obtain ⟨l, ys, rfl, hsq, D⟩ := seq_of D2 hd2
  have := dpa_ints D
  subst this
  refine ⟨l, _, rfl, hsq.imp I2.bh.sql I2.bh.sqt, rfl, ?_, ?_⟩
  · rw [List.all_eq_true]
    intro z hz
    obtain ⟨n, _, rfl⟩ := List.mem_map.mp hz
    rfl
  · rw [if_neg Bool.false_ne_true, inV_ints]
    exact q _ _ B2 H2 es2 hq I2 (S1.tr S2) (.bl _)
theorem vt_inI {Θ : Bool → List Sl → Prop} (h : VP X es a fun d es1 => VP X es1 b fun d2 es2 => ∃ (i : Int) (ns : List Int), d = .int i ∧ SeqD d2 (ns.map Dt.int) ∧ Θ (ns.any fun n => n == i) es2) (hm : behindInMarks .In b = false := by rfl) : VT X es (.Compare a [.In] [b] pos) Θ := fun F B H σ I Q q => by
  refine TX.of (pt_cmpR op_in_seq pe_self pe_self hm) ?_
  refine h F B H σ I _ fun v d B1 H1 es1 hb I1 S1 D1 => ?_
  refine hb F B1 H1 σ I1 _ fun v2 d2 B2 H2 es2 ⟨i, ns, hd, hd2, hq⟩ I2 S2 D2 => ?_
  subst hd
  cases D1
  obtain ⟨l, ys, rfl, hsq, D⟩ := seq_of D2 hd2
  have := dpa_ints D
  subst this
  refine ⟨l, _, rfl, hsq.imp I2.bh.sql I2.bh.sqt, rfl, ?_, ?_⟩
  · rw [List.all_eq_true]
    intro z hz
    obtain ⟨n, _, rfl⟩ := List.mem_map.mp hz
    rfl
  · rw [if_neg Bool.false_ne_true, inV_ints]
    exact ⟨_, rfl, q _ B2 H2 es2 hq I2 (S1.tr S2)⟩
/-! ### texts of values -/
theorem vp_strI (hm : X.mg "str" = none) (hg : Gl X "str") (h : VP X es e fun d es1 => ∃ i, d = .int i ∧ i.natAbs.log2 < 1920 ∧ Ψ (.str (toString i)) es1)
    (he : starEach (e :: []) X.env = (false, eval e X.env) :: starEach [] X.env := by rfl) (hpl : (backTo pos (starEach [] X.env)).any (·.1) = false := by rfl) : VP X es (.Call (.Name "str" p) [e] [] pos) Ψ :=
  vp_ct call_str_int hg hm (by decide +kernel) (by decide) (by decide) (va_cons (h.imp fun d es1 ⟨i, hd, hl, hq⟩ => va_nil fun F σ B H vs I D Q q => by
    obtain ⟨v, rfl, D1⟩ := vals_dp1 D
    subst hd; cases D1
    exact ⟨i, rfl, hl, q _ _ B H hq I Stp.rfl' (.str _)⟩) he) he hpl
theorem cr_reprB : CallR X (.builtin "repr") (fun xs H Q => ∃ k : Bool, xs = [.bl k] ∧ Q (.str (if k then "True" else "False")) H) := by
  intro pins s σ H xs us Q I r h
  obtain ⟨k, rfl, q⟩ := h
  cases r with
  | cons r1 r2 =>
    cases r2
    cases r1
    exact PySem.P.repr_of_bool ⟨.str _, H, I.tok _, ⟨_, rfl⟩, q⟩
theorem vp_reprB (hm : X.mg "repr" = none) (hg : Gl X "repr") (h : VP X es e fun d es1 => ∃ k : Bool, d = .bool k ∧ Ψ (.str (if k then "True" else "False")) es1)
    (he : starEach (e :: []) X.env = (false, eval e X.env) :: starEach [] X.env := by rfl) (hpl : (backTo pos (starEach [] X.env)).any (·.1) = false := by rfl) : VP X es (.Call (.Name "repr" p) [e] [] pos) Ψ :=
  vp_cb cr_reprB hg hm (by decide +kernel) (by decide) (by decide) (va_cons (h.imp fun d es1 ⟨i, hd, hq⟩ => va_nil fun F σ B H vs I D Q q => by
    obtain ⟨v, rfl, D1⟩ := vals_dp1 D
    subst hd; cases D1
    exact ⟨i, rfl, q _ _ B H hq I Stp.rfl' (.str _)⟩) he) he hpl
/-! ### a comprehension over zip of two tuples of one length -/
theorem lc_zipT {K : PySem.W.Frag} {a b : Addr} {xs ys : List V} {g : TG} {tt : TT} {te : TE} {vs : List Nat} {σ : L2.St} {H1 : Hp} {D : Addr} {Qd : Hp → Prop} (hl : xs.length = ys.length) (Pv : Nat → Hp → Prop) (h0 : Pv 0 (upd H1 D (.lst [])))
    (hq : ∀ i H, Pv i H → SqT K H a xs ∧ SqT K H b ys)
    (hs : ∀ (i : Nat) (x y : V) (T : Addr) (H : Hp), xs[i]? = some x → ys[i]? = some y → Pv i H → H T = none → g (.ref T) (wipe σ vs) (upd H T (.tup [x, y])) fun σ2 H2 => wipe σ2 vs = wipe σ vs ∧ tt σ2 H2 fun b H3 =>
      if b = true then te σ2 H3 fun y H4 => ∃ acc, H4 D = some (.lst acc) ∧ acc.length < sizeLine ∧ Pv (i + 1) (upd H4 D (.lst (acc ++ [y]))) else Pv (i + 1) H3) (hd : ∀ H, Pv xs.length H → Qd H) :
    ∃ W : Nat → Nat → Hp → Prop, (∃ m, W 0 m (upd H1 D (.lst []))) ∧ ∀ i m H, W i m H →
      ((RZ.ItzT K a b).stop i H ∧ Qd H) ∨ ((RZ.ItzT K a b).go i H ∧ ∃ Nx : Hp → Prop, (∀ H', Nx H' → ∃ m', m' < m ∧ W (i + 1) m' H') ∧ ∀ x H', (RZ.ItzT K a b).yld i H x H' → g x (wipe σ vs) H' fun σ2 H2 => wipe σ2 vs = wipe σ vs ∧ tt σ2 H2 fun b H3 =>
        if b = true then te σ2 H3 fun y H4 => ∃ acc, H4 D = some (.lst acc) ∧ acc.length < sizeLine ∧ Nx (upd H4 D (.lst (acc ++ [y]))) else Nx H3) := by
  refine ⟨fun i m H => m = xs.length - i ∧ i ≤ xs.length ∧ Pv i H, ⟨xs.length, by simp, Nat.zero_le _, h0⟩, ?_⟩
  rintro i m H ⟨rfl, hi, p⟩
  obtain ⟨q1, q2⟩ := hq i H p
  by_cases hlt : i < xs.length
  · have hly : i < ys.length := by omega
    refine .inr ⟨⟨xs, ys, xs[i], ys[i], q1, q2, by simp [hlt], by simp [hly]⟩, Pv (i + 1), fun H' p' => ⟨xs.length - (i + 1), by omega, rfl, hlt, p'⟩, fun x H' y => ?_⟩
    obtain ⟨T, u, v, rfl, hT, rfl, e1, e2⟩ := y
    exact hs i u v T H (e1 xs q1) (e2 ys q2) p hT
  · have e : i = xs.length := by omega
    subst e
    exact .inl ⟨⟨xs, ys, q1, q2, .inl (Nat.le_refl _)⟩, hd H p⟩
theorem vp_lcZ (own : List (Str × Nat)) {ts : List Expr} {kk : Nat} {tpos : Pos} (hc : X.calm = true) (hN : X.N.Nodup) (hm : X.mg "zip" = none) (hg : Gl X "zip") (ok : BlkOk X.N X.env.scope scope own) (g : GTk X scope (own.map (·.2)) (.Tuple ts kk tpos) f)
    (h : VP X es a fun d es1 => VP X es1 b fun d2 es2 => ∃ xs ys, d = .tuple xs ∧ d2 = .tuple ys ∧ xs.length = ys.length ∧ CompAsk X scope (own.map (·.2)) ifs elt f ((xs.zip ys).map fun q => .tuple [q.1, q.2]) es2 Ψ)
    (he : starEach [a, b] X.env = (false, eval a X.env) :: starEach [b] X.env := by rfl) (he2 : starEach [b] X.env = (false, eval b X.env) :: starEach [] X.env := by rfl) (hpl : (backTo p (starEach [b] X.env)).any (·.1) = false := by rfl)
    (hs : ∀ x, foldedSetIterable (.Call (.Name "zip" pr) [a, b] [] p) X.env x = pure x := by intro _; rfl) :
    VP X es (.ListComp elt [⟨.Tuple ts kk tpos, .Call (.Name "zip" pr) [a, b] [] p, ifs, 0⟩] scope pos) Ψ := fun F B H σ I Q q => by
  obtain ⟨t, p1, q1⟩ := g
  refine EX.of (pe_lc (te := TEk X scope elt) (tt := TTk X scope ifs) hc hN (RZ.pi_zipA hg hm (pa_cons pe_self (pa_cons pe_self pa_nil he2) he) he hpl) ok p1 (fun s0 H0 C cl fp => ⟨fun pins s σ H Q I h => h s0 H0 C cl fp pins s I⟩) (fun s0 H0 C cl fp => ⟨fun pins s σ H Q I h => h s0 H0 C cl fp pins s I⟩) hs) ?_
  refine h F B H σ I _ fun v d B1 H1 es1 hb I1 S1 D1 => ?_
  refine hb F B1 H1 σ I1 _ fun v2 d2 B2 H2 es2 ⟨xs, ys, hd, hd2, hlen, nw, hxs, Iv, h0, ht, hn⟩ I2 S2 D2 => ?_
  subst hd hd2
  have D1' := S2.eb.dp _ _ D1
  cases D1' with
  | tup l1 l2 =>
    cases D2 with
    | tup m1 m2 =>
      rename_i la lv lb lw
      have n1 := dpa_len l2
      have n2 := dpa_len m2
      have zl : ((xs.zip ys).map fun q => Dt.tuple [q.1, q.2]).length = xs.length := by rw [List.length_map, List.length_zip]; omega
      rw [zl] at hxs hn
      refine ⟨la, lb, lv, lw, rfl, .inr ⟨I2.bh.sqt l1, I2.bh.sqt m1, fun D hD => lc_zipT (K := X.K) (a := la) (b := lb) (xs := lv) (ys := lw) (g := t) (tt := TTk X scope ifs) (te := TEk X scope elt) (vs := own.map (·.2)) (σ := σ) (D := D) (Qd := fun H => Q (.ref D) H) (by omega)
        (fun i H3 => CS X F (own.map (·.2)) σ B2 H2 es2 D i H3 Iv) (cs_start I2 hD h0) (fun i H3 cs => ?_) (fun i x y T H3 hx hy cs hT => ?_) (fun H3 cs => ?_)⟩⟩
      · obtain ⟨B3, c⟩ := cs.ex
        exact ⟨c.ext.2.sqt (c.ext.1.sqt l1), c.ext.2.sqt (c.ext.1.sqt m1)⟩
      · obtain ⟨B3, c⟩ := cs.ex
        obtain ⟨dx, hx2, Dx⟩ := dpa_getv l2 hx
        obtain ⟨dy, hy2, Dy⟩ := dpa_getv m2 hy
        obtain ⟨c2, e3⟩ := c.new (o := .tup [x, y]) hT
        have hi : i < xs.length := (List.getElem?_eq_some_iff.mp hx2).1
        have hz : ((xs.zip ys).map fun q => Dt.tuple [q.1, q.2])[i]? = some (.tuple [dx, dy]) := by
          rw [List.getElem?_map, (List.getElem?_zip_eq_some (z := (dx, dy))).mpr ⟨hx2, hy2⟩]; rfl
        have ee := c.ext.1.tr e3
        exact cs_turnB I2 hD nw q1 c2 (by omega) (.tup (.inl (.inl upd_same)) (.cons (ee.dp _ _ Dx) (.cons (ee.dp _ _ Dy) .nil))) (fun acc es3 hI => ht i _ acc es3 hz hI)
      · rw [n1] at cs
        exact cs_end I2 hD nw cs hn q (S1.tr S2)
end
end Lv

set_option Elab.async false
set_option linter.all false
set_option maxRecDepth 100000
set_option maxHeartbeats 4000000
namespace Lv
open PySem PySem.Spec PyProof.Rows L2
section
variable {X : Cy} {es : List Sl} {Ψ : Dt → List Sl → Prop} {Θ : Bool → List Sl → Prop} {P : Po} {a b c e : Expr} {rest body orelse : List Stmt} {pos p : Pos} {x : Str}
/-! ### where the second part is pure: one way on -/
theorem vp_andP {es2 : List Expr} (h : VP X es a fun d es1 => ∃ p, d = .bool p ∧ ∃ q, (p = true → VP X es1 (.BoolOp .And (b :: es2) pos) fun d e => d = .bool q ∧ e = es1) ∧ Ψ (.bool (p && q)) es1) : VP X es (.BoolOp .And (a :: b :: es2) pos) Ψ :=
  vp_and (h.imp fun d es1 ⟨p, hd, q, hb, hq⟩ => ⟨p, hd, fun hp => (hb hp).imp fun d2 e2 ⟨h1, h2⟩ => by subst h1 h2 hp; exact hq, fun hp => by subst hp; exact hq⟩)
theorem vp_orP {es2 : List Expr} (h : VP X es a fun d es1 => ∃ p, d = .bool p ∧ ∃ q, (p = false → VP X es1 (.BoolOp .Or (b :: es2) pos) fun d e => d = .bool q ∧ e = es1) ∧ Ψ (.bool (p || q)) es1) : VP X es (.BoolOp .Or (a :: b :: es2) pos) Ψ :=
  vp_or (h.imp fun d es1 ⟨p, hd, q, hb, hq⟩ => ⟨p, hd, fun hp => by subst hp; exact hq, fun hp => (hb hp).imp fun d2 e2 ⟨h1, h2⟩ => by subst h1 h2 hp; exact hq⟩)
theorem vw_andP {es2 : List Expr} (h : VT X es a fun p es1 => ∃ q, (p = true → VW X es1 (.BoolOp .And (b :: es2) pos) fun d e => d = q ∧ e = es1) ∧ Θ (p && q) es1) : VW X es (.BoolOp .And (a :: b :: es2) pos) Θ :=
  vw_and (h.imp fun p es1 ⟨q, hb, hq⟩ => ⟨fun hp => fun F B H σ I Q k => hb hp F B H σ I Q fun b' B' H' es' ⟨h1, h2⟩ => k b' B' H' es' (by subst h1 h2 hp; exact hq), fun hp => by subst hp; exact hq⟩)
theorem vw_orP {es2 : List Expr} (h : VT X es a fun p es1 => ∃ q, (p = false → VW X es1 (.BoolOp .Or (b :: es2) pos) fun d e => d = q ∧ e = es1) ∧ Θ (p || q) es1) : VW X es (.BoolOp .Or (a :: b :: es2) pos) Θ :=
  vw_or (h.imp fun p es1 ⟨q, hb, hq⟩ => ⟨fun hp => by subst hp; exact hq, fun hp => fun F B H σ I Q k => hb hp F B H σ I Q fun b' B' H' es' ⟨h1, h2⟩ => k b' B' H' es' (by subst h1 h2 hp; exact hq)⟩)
/-- chains of comparisons of ints whose third part is pure -/
theorem vp_chainP {op op' : CmpOp} {g g' : Int → Int → Bool} (ho : OpR X (compareOp op) (rI0 fun i j => .bl (g i j))) (ho' : OpR X (compareOp op') (rI0 fun i j => .bl (g' i j)))
    (h : VP X es a fun d es1 => ∃ i, d = .int i ∧ VP X es1 b fun d2 es2 => ∃ j, d2 = .int j ∧ ∃ k, (VP X es2 c fun d3 es3 => d3 = .int k ∧ es3 = es2) ∧ Ψ (.bool (g i j && g' j k)) es2)
    (hm : lastMarks [op, op'] [b, c] = false := by with_unfolding_all rfl) : VP X es (.Compare a [op, op'] [b, c] pos) Ψ :=
  vp_chain ho ho' (h.imp fun d es1 ⟨i, hd, hb⟩ => ⟨i, hd, hb.imp fun d2 es2 ⟨j, hd2, k, hc, hq⟩ => ⟨j, hd2, fun hg => hc.imp fun d3 es3 ⟨h1, h2⟩ => by subst h1 h2; exact ⟨k, rfl, by rw [hg] at hq; exact hq⟩, fun hg => by rw [hg] at hq; exact hq⟩⟩) hm
theorem vt_chainP {op op' : CmpOp} {g g' : Int → Int → Bool} (ho : OpR X (compareOp op) (rI0 fun i j => .bl (g i j))) (ho' : OpR X (compareOp op') (rI0 fun i j => .bl (g' i j)))
    (h : VP X es a fun d es1 => ∃ i, d = .int i ∧ VP X es1 b fun d2 es2 => ∃ j, d2 = .int j ∧ ∃ k, (VP X es2 c fun d3 es3 => d3 = .int k ∧ es3 = es2) ∧ Θ (g i j && g' j k) es2)
    (hm : lastMarks [op, op'] [b, c] = false := by with_unfolding_all rfl) : VT X es (.Compare a [op, op'] [b, c] pos) Θ :=
  vt_chain ho ho' (h.imp fun d es1 ⟨i, hd, hb⟩ => ⟨i, hd, hb.imp fun d2 es2 ⟨j, hd2, k, hc, hq⟩ => ⟨j, hd2, fun hg => hc.imp fun d3 es3 ⟨h1, h2⟩ => by subst h1 h2; exact ⟨k, rfl, by rw [hg] at hq; exact hq⟩, fun hg => by rw [hg] at hq; exact hq⟩⟩) hm
/-- an int of a power of written numbers -/
theorem vp_powN (h : VP X es a fun d es1 => ∃ i, d = .int i ∧ VP X es1 b fun d2 es2 => ∃ j, d2 = .int j ∧ CPow i j ∧ ∃ n, i ^ j.toNat = n ∧ Ψ (.int n) es2) : VP X es (.BinOp a .Pow b pos) Ψ :=
  vp_pow (h.imp fun d es1 ⟨i, hd, hb⟩ => ⟨i, hd, hb.imp fun d2 es2 ⟨j, hd2, hc, n, e, hq⟩ => ⟨j, hd2, hc, by rw [e]; exact hq⟩⟩)
/-- a value once for all that follows -/
theorem vp_det {d : Dt} {es' : List Sl} (h : VP X es e fun d' e' => d' = d ∧ e' = es') (k : Ψ d es') : VP X es e Ψ := h.imp fun d' e' ⟨h1, h2⟩ => by subst h1 h2; exact k
theorem vt_det {d : Bool} {es' : List Sl} (h : VT X es e fun d' e' => d' = d ∧ e' = es') (k : Θ d es') : VT X es e Θ := h.imp fun d' e' ⟨h1, h2⟩ => by subst h1 h2; exact k
/-- a if t else b, both pure ints -/
theorem vp_ifI {i j : Int} (h : VT X es c fun p es1 => (p = true → VP X es1 a fun d e => d = .int i ∧ e = es1) ∧ (p = false → VP X es1 b fun d e => d = .int j ∧ e = es1) ∧ Ψ (.int (if p = true then i else j)) es1) : VP X es (.IfExp c a b pos) Ψ :=
  vp_ife (h.imp fun p es1 ⟨h1, h2, hq⟩ => ⟨fun hp => (h1 hp).imp fun d e ⟨q1, q2⟩ => by subst q1 q2; rw [if_pos hp] at hq; exact hq, fun hp => (h2 hp).imp fun d e ⟨q1, q2⟩ => by subst q1 q2; rw [if_neg (by rw [hp]; decide)] at hq; exact hq⟩)
/-! ### statements with what follows: the slots written out -/
theorem wb_set (i : Nat) {p' : Pos} (h : VP X es e fun d es1 => ∃ es2, es1.set i (.fz d) = es2 ∧ WB X es2 rest P) (hN : X.N.Nodup := by assumption) (hi : X.N[i]? = some x := by rfl) (hx : Loc X.env.scope x := by first | exact Or.inl rfl | exact Or.inr rfl) (hs : swapsWith e (some (.Name x p')) pos.line X.env = pure false := by rfl)
    (hf : X.fn x = true ∨ X.env.scope.names.lookup x = some .local := by first | exact .inl rfl | exact .inr rfl) : WB X es (.Assign [.Name x p'] e pos :: rest) P :=
  wb_cons (ws_set i hN hi hx (h.imp fun d es1 ⟨es2, h1, h2⟩ => by subst h1; exact h2) hs hf)
theorem wb_setO (i : Nat) {p' p2 : Pos} {as : List Expr} (h : VA X es as fun ds es1 => ds.length ≤ 100000 ∧ ∃ es2, es1.set i (.own true (.l ds)) = es2 ∧ WB X es2 rest P) (hN : X.N.Nodup := by assumption) (hi : X.N[i]? = some x := by rfl) (hx : Loc X.env.scope x := by first | exact Or.inl rfl | exact Or.inr rfl) (hs : swapsWith (.List as p2) (some (.Name x p')) pos.line X.env = pure false := by rfl)
    (hf : X.fn x = true ∨ X.env.scope.names.lookup x = some .local := by first | exact .inl rfl | exact .inr rfl) : WB X es (.Assign [.Name x p'] (.List as p2) pos :: rest) P :=
  wb_cons (ws_setO i hN hi hx (fun F B H σ I Q q => h F B H σ I Q fun vs ds B' H' es' ⟨hl, es2, h1, h2⟩ => q vs ds B' H' es' ⟨hl, by subst h1; exact h2⟩) hs hf)
theorem wb_if (h : VT X es c fun p es1 => (p = true → WB X es1 body { P with nx := fun es1 => WB X es1 rest P }) ∧ (p = false → WB X es1 orelse { P with nx := fun es1 => WB X es1 rest P })) : WB X es (.If c body orelse pos :: rest) P := wb_cons (ws_if h)
/-- if without else whose body leaves -/
theorem wb_ifR (h : VT X es c fun p es1 => (p = true → WB X es1 body { P with nx := fun es1 => WB X es1 rest P }) ∧ (p = false → WB X es1 rest P)) : WB X es (.If c body [] pos :: rest) P := wb_cons (ws_if (h.imp fun p es1 ⟨h1, h2⟩ => ⟨h1, fun hp => wb_nil (h2 hp)⟩))
theorem wb_ret (h : VP X es e P.rt) : WB X es (.Return (some e) pos :: rest) P := wb_cons (ws_ret h)
theorem wb_par (i j : Nat) {y : Str} {px py pt : Pos} {kt k2 : Nat} {pt2 : Pos} (h : VA X es [a, b] fun ds es1 => ∃ d1 d2, ds = [d1, d2] ∧ ∃ es2, (es1.set i (.fz d1)).set j (.fz d2) = es2 ∧ WB X es2 rest P)
    (hc : X.calm = true := by rfl) (hN : X.N.Nodup := by assumption) (hi : X.N[i]? = some x := by rfl) (hj : X.N[j]? = some y := by rfl) (hij : i ≠ j := by decide)
    (hx : X.env.scope.names.lookup x = some .local := by rfl) (hy : X.env.scope.names.lookup y = some .local := by rfl)
    (hw : swappedStores [.Tuple [.Name x px, .Name y py] kt pt] (.Tuple [a, b] k2 pt2) X.env = pure (some [x, y]) := by rfl)
    (hs : swapsWithSole [.Tuple [.Name x px, .Name y py] kt pt] (.Tuple [a, b] k2 pt2) pos.line X.env = pure false := by rfl) :
    WB X es (.Assign [.Tuple [.Name x px, .Name y py] kt pt] (.Tuple [a, b] k2 pt2) pos :: rest) P :=
  wb_cons (ws_par i j hc hN hi hj hij hx hy (fun F B H σ I Q q => h F B H σ I Q fun vs ds B' H' es' ⟨d1, d2, hd, es2, h1, h2⟩ => q vs ds B' H' es' ⟨d1, d2, hd, by subst h1; exact h2⟩) hw hs)
theorem wb_asg {tg : Expr} {f : Dt → List Sl → (List Sl → Prop) → Prop} (g : GT X tg f) (h : VP X es e fun d es1 => f d es1 fun es2 => WB X es2 rest P) (hs : swapsWithSole [tg] e pos.line X.env = pure false := by rfl) (hw : swappedStores [tg] e X.env = pure none := by rfl)
    (h1 : (assignEach [tg] X.env).map (·.2) = [assign tg X.env] := by rfl) : WB X es (.Assign [tg] e pos :: rest) P := wb_cons (ws_asg g h hs hw h1)
theorem gt_n (i : Nat) {p' : Pos} (hN : X.N.Nodup := by assumption) (hi : X.N[i]? = some x := by rfl) (hx : Loc X.env.scope x := by first | exact Or.inl rfl | exact Or.inr rfl) (hf : X.fn x = true ∨ X.env.scope.names.lookup x = some .local := by first | exact .inl rfl | exact .inr rfl) :
    GT X (.Name x p') fun d es N => N (es.set i (.fz d)) := gt_name i hN hi hx hf
theorem boot_tInt : bootBuiltins "int" = some (.type "int") := by decide +kernel
theorem boot_tBool : bootBuiltins "bool" = some (.type "bool") := by decide +kernel
theorem boot_tTuple : bootBuiltins "tuple" = some (.type "tuple") := by decide +kernel
theorem boot_tStr : bootBuiltins "str" = some (.type "str") := by decide +kernel
def isI : Dt → Bool
  | .int _ => true
  | .bool _ => true
  | _ => false
def isB : Dt → Bool
  | .bool _ => true
  | _ => false
def isT : Dt → Bool
  | .tuple _ => true
  | _ => false
/-- no instance of an own class -/
def notO : Dt → Bool
  | .obj _ _ _ => false
  | .dT _ _ => false
  | _ => true
theorem tyN_of {d : Dt} (h : notO d = true) : ∃ n, tyN d = some n := by
  cases d <;> first | exact ⟨_, rfl⟩ | cases h
theorem kit_int (n : String) (d : Dt) (h : tyN d = some n) : kitB n "int" = some (isI d) := by
  cases d <;> cases h <;> first | exact (show kitB _ "int" = some true by decide +kernel) | exact (show kitB _ "int" = some false by decide +kernel)
theorem kit_bool (n : String) (d : Dt) (h : tyN d = some n) : kitB n "bool" = some (isB d) := by
  cases d <;> cases h <;> first | exact (show kitB _ "bool" = some true by decide +kernel) | exact (show kitB _ "bool" = some false by decide +kernel)
theorem kit_tuple (n : String) (d : Dt) (h : tyN d = some n) : kitB n "tuple" = some (isT d) := by
  cases d <;> cases h <;> first | exact (show kitB _ "tuple" = some true by decide +kernel) | exact (show kitB _ "tuple" = some false by decide +kernel)
theorem vp_isInt {p2 : Pos} (hm : X.mg "isinstance" = none) (hmT : X.mg "int" = none) (hg : Gl X "isinstance") (hgT : Gl X "int") (h : VP X es e fun d es1 => notO d = true ∧ Ψ (.bool (isI d)) es1)
    (he : starEach (e :: [.Name "int" p2]) X.env = (false, eval e X.env) :: starEach [.Name "int" p2] X.env := by rfl) (he2 : starEach (.Name "int" p2 :: []) X.env = (false, eval (.Name "int" p2) X.env) :: starEach [] X.env := by rfl)
    (hpl : (backTo pos (starEach [.Name "int" p2] X.env)).any (·.1) = false := by rfl) : VP X es (.Call (.Name "isinstance" p) [e, .Name "int" p2] [] pos) Ψ :=
  vp_isi hm hg hmT hgT boot_tInt (by decide +kernel) (by decide +kernel) (h.imp fun d es1 ⟨h1, h2⟩ => (tyN_of h1).imp fun n hn => ⟨_, hn, kit_int n d hn, h2⟩) he he2 hpl
theorem vp_isBool {p2 : Pos} (hm : X.mg "isinstance" = none) (hmT : X.mg "bool" = none) (hg : Gl X "isinstance") (hgT : Gl X "bool") (h : VP X es e fun d es1 => notO d = true ∧ Ψ (.bool (isB d)) es1)
    (he : starEach (e :: [.Name "bool" p2]) X.env = (false, eval e X.env) :: starEach [.Name "bool" p2] X.env := by rfl) (he2 : starEach (.Name "bool" p2 :: []) X.env = (false, eval (.Name "bool" p2) X.env) :: starEach [] X.env := by rfl)
    (hpl : (backTo pos (starEach [.Name "bool" p2] X.env)).any (·.1) = false := by rfl) : VP X es (.Call (.Name "isinstance" p) [e, .Name "bool" p2] [] pos) Ψ :=
  vp_isi hm hg hmT hgT boot_tBool (by decide +kernel) (by decide +kernel) (h.imp fun d es1 ⟨h1, h2⟩ => (tyN_of h1).imp fun n hn => ⟨_, hn, kit_bool n d hn, h2⟩) he he2 hpl
theorem vp_isTuple {p2 : Pos} (hm : X.mg "isinstance" = none) (hmT : X.mg "tuple" = none) (hg : Gl X "isinstance") (hgT : Gl X "tuple") (h : VP X es e fun d es1 => notO d = true ∧ Ψ (.bool (isT d)) es1)
    (he : starEach (e :: [.Name "tuple" p2]) X.env = (false, eval e X.env) :: starEach [.Name "tuple" p2] X.env := by rfl) (he2 : starEach (.Name "tuple" p2 :: []) X.env = (false, eval (.Name "tuple" p2) X.env) :: starEach [] X.env := by rfl)
    (hpl : (backTo pos (starEach [.Name "tuple" p2] X.env)).any (·.1) = false := by rfl) : VP X es (.Call (.Name "isinstance" p) [e, .Name "tuple" p2] [] pos) Ψ :=
  vp_isi hm hg hmT hgT boot_tTuple (by decide +kernel) (by decide +kernel) (h.imp fun d es1 ⟨h1, h2⟩ => (tyN_of h1).imp fun n hn => ⟨_, hn, kit_tuple n d hn, h2⟩) he he2 hpl
/-! ### sizes of ints -/
def Bd (n : Nat) (i : Int) : Prop := i.natAbs < 2 ^ n
theorem Bd.mul {n m : Nat} {i j : Int} (h1 : Bd n i) (h2 : Bd m j) : Bd (n + m) (i * j) := by
  unfold Bd at *
  rw [Int.natAbs_mul, Nat.pow_add]
  exact Nat.mul_lt_mul'' h1 h2
theorem Bd.mono {n m : Nat} {i : Int} (h : Bd n i) (hn : n ≤ m) : Bd m i := Nat.lt_of_lt_of_le h (Nat.pow_le_pow_right (by decide) hn)
theorem Bd.add {n m : Nat} {i j : Int} (h1 : Bd n i) (h2 : Bd m j) : Bd (max n m + 1) (i + j) := by
  have a := h1.mono (Nat.le_max_left n m)
  have b := h2.mono (Nat.le_max_right n m)
  unfold Bd at *
  rw [Nat.pow_succ]
  omega
theorem Bd.neg {n : Nat} {i : Int} (h : Bd n i) : Bd n (-i) := by unfold Bd at *; omega
theorem Bd.sub {n m : Nat} {i j : Int} (h1 : Bd n i) (h2 : Bd m j) : Bd (max n m + 1) (i - j) := by
  rw [Int.sub_eq_add_neg]
  exact h1.add h2.neg
theorem Bd.of {n : Nat} {i m : Int} (h1 : -m < i) (h2 : i < m) (h : m ≤ 2 ^ n) : Bd n i := by
  unfold Bd
  have : ((2 ^ n : Nat) : Int) = 2 ^ n := by simp
  omega
theorem Bd.cmul {n m : Nat} {i j : Int} (h1 : Bd n i) (h2 : Bd m j) (h : n + m ≤ 134217728) : CMulX i j := mulx_ok h1 h2 h
theorem Bd.cdiv {n : Nat} {i j : Int} (h0 : 0 < j) (h1 : Bd n j) (hn : 0 < n) (h : n ≤ 9000) : CDivW i j := wide_div h0 h1 hn h
end
end Lv

set_option Elab.async false
set_option linter.all false
set_option maxRecDepth 100000
set_option maxHeartbeats 4000000
namespace Lv
open PySem PySem.Spec PyProof.Rows L2
section
variable {X : Cy} {es : List Sl} {Ψ : Dt → List Sl → Prop} {P : Po} {a b c e : Expr} {rest body : List Stmt} {pos p : Pos} {x : Str}
theorem dqa_set {K : PySem.W.Frag} {B : Hp} : ∀ {vs : List V} {ds : List Dt} {v : V} {d : Dt} (j : Nat), DqAll K B vs ds → Dq K B v d → DqAll K B (vs.set j v) (ds.set j d)
  | _, _, _, _, _, .nil, _ => .nil
  | _, _, _, _, 0, .cons _ t, r => .cons r t
  | _, _, _, _, j + 1, .cons s t, r => .cons s (dqa_set j t r)
/-- xs[e], xs a list of the def's own -/
theorem vp_ixO (i : Nat) {t : Pos} {b0 : Bool} {ds0 : List Dt} (h : VP X es b fun d2 es2 => ∃ bb ds n d, es2[i]? = some (.own bb (.l ds)) ∧ d2 = .int n ∧ atI ds n = some d ∧ Ψ d es2) (h0 : es[i]? = some (.own b0 (.l ds0)) := by rfl) (hN : X.N[i]? = some x := by rfl) (hv : Vis X.env.scope x := by first | exact Or.inl rfl | exact Or.inr (Or.inl rfl) | exact Or.inr (Or.inr rfl))
    (hs : PlainIx b := by intro _ _; rfl) (hd : (x == ("__debug__" : Str)) = false := by decide) (hcd : (x == ("__classdict__" : Str)) = false := by decide) : VP X es (.Subscript (.Name x t) b pos) Ψ := fun F B H σ I Q q => by
  refine EX.of (pe_ix ix_seq (pe_var hN hv hd hcd) pe_self hs) ?_
  obtain ⟨ad0, a0, _⟩ := I.ow
  obtain ⟨s0, _⟩ := a0 i b0 ds0 h0
  refine ⟨_, s0, ?_⟩
  refine h F B H σ I _ fun v2 d2 B2 H2 es2 ⟨bb, ds, n, d, h2, hd2, hx, hq⟩ I2 S2 D2 => ?_
  subst hd2; cases D2
  obtain ⟨ad, a1, _⟩ := I2.ow
  obtain ⟨s1, b1, f1, xs, g1, dx⟩ := a1 i bb ds h2
  have ep : ad0 i = ad i := by rw [s0] at s1; injection s1 with s1; injection s1 with s1; injection s1
  obtain ⟨u, h3, h4⟩ := dpa_atI dx hx
  rw [ep]
  exact .inl ⟨_, _, _, u, rfl, rfl, .inl (.inl g1), h3, q _ _ B2 H2 es2 hq I2 S2 h4⟩
/-- xs[i] = e, xs a list of the def's own -/
theorem ws_stO (i : Nat) {t p2 : Pos} (h : VP X es e fun d es1 => (∃ b ds, es1[i]? = some (.own b (.l ds))) ∧ VP X es1 c fun d2 es2 => ∃ b ds k j, es2[i]? = some (.own b (.l ds)) ∧ d2 = .int k ∧ ixN ds.length k = some j ∧ P.nx (es2.set i (.own b (.l (ds.set j d))))) (hN : X.N[i]? = some x := by rfl) (hv : Vis X.env.scope x := by first | exact Or.inl rfl | exact Or.inr (Or.inl rfl) | exact Or.inr (Or.inr rfl))
    (ha : ∀ v, assign (.Subscript (.Name x t) c p2) X.env v = (do
      let ov ← holding [v] (eval (.Name x t) X.env)
      let iv ← holding [v, ov] (eval c X.env)
      standAt p2
      holding [v, ov, iv] (setItem ov iv v)
      release [v, ov, iv] []) := by intro _; rfl)
    (hs : swapsWithSole [.Subscript (.Name x t) c p2] e pos.line X.env = pure false := by rfl) (hw : swappedStores [.Subscript (.Name x t) c p2] e X.env = pure none := by rfl)
    (h1 : (assignEach [.Subscript (.Name x t) c p2] X.env).map (·.2) = [assign (.Subscript (.Name x t) c p2) X.env] := by rfl)
    (hd : (x == ("__debug__" : Str)) = false := by decide) (hcd : (x == ("__classdict__" : Str)) = false := by decide) : WS X es (.Assign [.Subscript (.Name x t) c p2] e pos) P := fun F B H σ I D dn => by
  refine SX.of (ps_asg pe_self (pg_sub (pe_var hN hv hd hcd) pe_self set_list ha) hs hw h1) ?_
  refine h F B H σ I _ fun v d B1 H1 es1 ⟨⟨b0, ds0, h0⟩, hb⟩ I1 S1 D1 => ?_
  obtain ⟨ad0, a0, _⟩ := I1.ow
  obtain ⟨s0, _⟩ := a0 i b0 ds0 h0
  refine ⟨_, s0, ?_⟩
  refine hb F B1 H1 σ I1 _ fun v2 d2 B2 H2 es2 ⟨bb, ds, k, j, h2, hd2, hx, hq⟩ I2 S2 D2 => ?_
  subst hd2; cases D2
  obtain ⟨ad, a1, _⟩ := I2.ow
  obtain ⟨s1, b1, f1, xs, g1, dx⟩ := a1 i bb ds h2
  have ep : ad0 i = ad i := by rw [s0] at s1; injection s1 with s1; injection s1 with s1; injection s1
  refine ⟨ad0 i, xs, k, j, rfl, rfl, by rw [ep]; exact g1, by rw [dpa_len dx]; exact hx, ?_⟩
  exact dn.nx _ B2 _ σ hq (I2.mut h2 s0 (dqa_set j dx (S2.eb.dp _ _ D1))) (S1.eb.tr S2.eb)
theorem wb_stO (i : Nat) {t p2 : Pos} {b0 : Bool} {ds0 : List Dt} (h : VP X es e fun d es1 => es1 = es ∧ VP X es c fun d2 es2 => es2 = es ∧ ∃ k j, d2 = .int k ∧ ixN ds0.length k = some j ∧ ∃ es3, es.set i (.own b0 (.l (ds0.set j d))) = es3 ∧ WB X es3 rest P) (h0 : es[i]? = some (.own b0 (.l ds0)) := by rfl) (hN : X.N[i]? = some x := by rfl) (hv : Vis X.env.scope x := by first | exact Or.inl rfl | exact Or.inr (Or.inl rfl) | exact Or.inr (Or.inr rfl))
    (ha : ∀ v, assign (.Subscript (.Name x t) c p2) X.env v = (do
      let ov ← holding [v] (eval (.Name x t) X.env)
      let iv ← holding [v, ov] (eval c X.env)
      standAt p2
      holding [v, ov, iv] (setItem ov iv v)
      release [v, ov, iv] []) := by intro _; rfl)
    (hs : swapsWithSole [.Subscript (.Name x t) c p2] e pos.line X.env = pure false := by rfl) (hw : swappedStores [.Subscript (.Name x t) c p2] e X.env = pure none := by rfl)
    (h1 : (assignEach [.Subscript (.Name x t) c p2] X.env).map (·.2) = [assign (.Subscript (.Name x t) c p2) X.env] := by rfl)
    (hd : (x == ("__debug__" : Str)) = false := by decide) (hcd : (x == ("__classdict__" : Str)) = false := by decide) : WB X es (.Assign [.Subscript (.Name x t) c p2] e pos :: rest) P :=
  wb_cons (ws_stO i (h.imp fun d es1 ⟨e1, hb⟩ => ⟨⟨b0, ds0, by rw [e1]; exact h0⟩, by rw [e1]; exact hb.imp fun d2 es2 ⟨e2, k, j, hd, hj, es3, h3, h4⟩ => ⟨b0, ds0, k, j, by rw [e2]; exact h0, hd, hj, by rw [e2, h3]; exact h4⟩⟩) hN hv ha hs hw h1 hd hcd)
end
/-! ### new lists -/
section
variable {X : Cy} {es : List Sl} {Ψ : Dt → List Sl → Prop} {Λ : List Dt → List Sl → Prop} {P : Po} {a b c e : Expr} {as : List Expr} {rest body : List Stmt} {pos p : Pos} {x : Str} {k j : Nat}
/-- an expression that gives a list nobody else holds -/
def VL (X : Cy) (es : List Sl) (e : Expr) (Λ : List Dt → List Sl → Prop) : Prop :=
  ∀ (F : Fm) (B H : Hp) (σ : L2.St), En X F B H σ es → ∀ Q : VK, (∀ (p : Addr) (xs : List V) (ds : List Dt) (B' H' : Hp) (es' : List Sl), Λ ds es' → En X F B' H' σ es' → Stp σ B H es B' H' es' → F.H p = none → B' p = none → H' p = some (.lst xs) → NotOwn σ es' p → DqAll X.K B' xs ds → Q (.ref p) H') → EX X e σ H Q
theorem VL.imp {Λ' : List Dt → List Sl → Prop} (h : VL X es e Λ) (k : ∀ d es', Λ d es' → Λ' d es') : VL X es e Λ' := fun F B H σ I Q q => h F B H σ I Q fun p xs ds B' H' es' hq => q p xs ds B' H' es' (k ds es' hq)
theorem vl_list (h : VA X es as fun ds es1 => ds.length ≤ 100000 ∧ Λ ds es1) : VL X es (.List as pos) Λ := fun F B H σ I Q q => by
  refine EX.of (pe_lst pa_self) ?_
  refine h F B H σ I _ fun vs ds B1 H1 es1 ⟨hl, hq⟩ I1 S1 D1 => ⟨by rw [dpa_len D1]; exact Nat.le_trans hl (by decide), fun p hp => ?_⟩
  refine q p vs ds B1 _ es1 hq (I1.newO hp) (S1.tr ⟨fun _ _ => Iff.rfl, Ext.rfl' _, fun a o h _ => by rw [upd_ne (ne_of_none h hp)]; exact h, fun a h => by
    by_cases z : a = p
    · subst z; exact absurd hp h
    · rw [upd_ne z]; exact h, fun _ _ => rfl⟩) (I1.fnone hp) (I1.bnone hp) upd_same (notOwn_none I1.e hp) D1
/-- x = e, e a new list -/
theorem wb_setL (i : Nat) {p' : Pos} (h : VL X es e fun ds es1 => ∃ es2, es1.set i (.own true (.l ds)) = es2 ∧ WB X es2 rest P) (hN : X.N.Nodup := by assumption) (hi : X.N[i]? = some x := by rfl) (hx : Loc X.env.scope x := by first | exact Or.inl rfl | exact Or.inr rfl) (hs : swapsWith e (some (.Name x p')) pos.line X.env = pure false := by rfl)
    (hf : X.fn x = true ∨ X.env.scope.names.lookup x = some .local := by first | exact .inl rfl | exact .inr rfl) : WB X es (.Assign [.Name x p'] e pos :: rest) P :=
  wb_cons (P := P) (show WS X es _ { P with nx := fun es1 => WB X es1 rest P } from fun F B H σ I D d => by
    refine SX.of (ps_set hN hi hx pe_self hs hf) ?_
    refine h F B H σ I _ fun l xs ds B1 H1 es1 ⟨es2, e2, hq⟩ I1 S1 f1 b1 g1 n1 D1 => ?_
    refine d.nx es2 B1 H1 _ hq ?_ S1.eb
    rw [← e2]
    exact I1.putP f1 b1 g1 n1 D1)
/-- return e, e a new list -/
theorem wb_retL (h : VL X es e P.rl) : WB X es (.Return (some e) pos :: rest) P := wb_cons (P := P) (show WS X es _ { P with nx := fun es1 => WB X es1 rest P } from fun F B H σ I D d => by
  refine SX.of (ps_ret pe_self) ?_
  exact h F B H σ I _ fun l xs ds B1 H1 es1 hq I1 S1 f1 b1 g1 n1 D1 => d.rl l xs ds es1 B1 H1 σ hq I1 f1 b1 g1 D1)
/-- data in, a new list out -/
def spL (K : PySem.W.Frag) (mg : Str → Option Value) (R : RL) : Sp := fun vs H Q E => ∃ (B : Hp) (ds : List Dt) (G : List Dt → Prop) (Gx : Xn → Prop), Ext B H ∧ DqAll K B vs ds ∧ R ds G Gx ∧
  (∀ (p : Addr) (xs : List V) (ds' : List Dt) (B' H' : Hp), G ds' → Bk B H B' H' → H p = none → B' p = none → H' p = some (.lst xs) → DqAll K B' xs ds' → Q (.ref p) H') ∧
  ∀ (cls : Value) (d : Option Addr) (x : Xn) (B' H' : Hp), Gx x → Bk B H B' H' → Xc K mg B' H' cls d x → (∀ dd, d = some dd → H dd = none) → E cls d H'
theorem vl_call {R : RL} (F : Fn X.prog X.w X.K X.mg X.base x k (spL X.K X.mg R)) (hr : Room j X.A) (hk : k ≤ j) (hg : Gl X x)
    (h : VA X es (e :: as) fun ds es1 => R ds (fun d => Λ d es1) fun z => X.κ z es1) (hdb : (x == ("__debug__" : Str)) = false := by decide)
    (he : starEach (e :: as) X.env = (false, eval e X.env) :: starEach as X.env := by rfl) (hpl : (backTo pos (starEach as X.env)).any (·.1) = false := by rfl) :
    VL X es (.Call (.Name x p) (e :: as) [] pos) Λ := fun Fm B H σ I Q q => by
  obtain ⟨f, fd, ps, FO, hm, hkp, hb⟩ := F.ex
  refine EX.of (pe_callS (E := WE (X.W Fm)) FO (hr.mono hk) hg hm hkp hb (passAt I.tk) pa_self hdb he hpl) ?_
  refine h Fm B H σ I _ fun vs ds B1 H1 es1 hR I1 S1 D1 => ?_
  refine ⟨B1, ds, _, _, I1.bh, D1, hR, fun l xs d B2 H2 hd k hl bl gl Dv => ?_, fun cls d z B2 H2 hz k hx hn => ?_⟩
  · exact q l xs d B2 H2 es1 hd (I1.grow k.eb k.eh k.bh k.fr) (S1.tr (.bk k)) (I1.fnone hl) bl gl (notOwn_none I1.e hl) Dv
  · exact ⟨z, B2, es1, hz, (I1.grow k.eb k.eh k.bh k.fr).e, hx, fun dd e => I1.fnone (hn dd e)⟩
theorem ok_L {P : Program} {w : World} {K : PySem.W.Frag} {mg : Str → Option Value} {base : Heap} {x qual : Str} {st : Stmt} {f : Addr} {fd : FuncData} {N ps : List Str} {k : Nat} {R : RL} (F : Fun K x qual st f fd) (S : FnScope N ps (defScope st)) (hN : ps.length ≤ N.length)
    (hR : ∀ ds G Gx, R ds G Gx → ds.length = ps.length)
    (body : ∀ (cdv : Value) (A : Around) (outer : List Env) (s : Shared) (H : Hp) (E : XK) (ds : List Dt) (G : List Dt → Prop) (Gx : Xn → Prop), Room k (cyOf P w K mg base N qual (defScope st) f cdv A outer s H E fun x _ => Gx x).A → R ds G Gx →
      WB (cyOf P w K mg base N qual (defScope st) f cdv A outer s H E fun x _ => Gx x) (ini N ds) (defBody st) { nx := fun _ => False, rt := fun _ _ => False, rl := fun d _ => G d }) :
    FnOk P w K mg base (L2.CX P w) (k + 1) f fd ps (spL K mg R) := by
  refine F.okX S (fun vs H Q E h => ?_) (fun cdv A outer s H vs Q E hr h => ?_)
  · obtain ⟨B, ds, G, Gx, _, D, hR1, _⟩ := h
    rw [dpa_len D]; exact hR ds G Gx hR1
  · obtain ⟨B, ds, G, Gx, eb, D, hR1, q, qx⟩ := h
    refine ⟨_, pss_self, ?_⟩
    have I := ini_en (N := N) eb D
    refine body cdv A outer s H E ds G Gx hr hR1 ⟨B, H, []⟩ B H _ ⟨I, cyOf_takes fun c d σ H' ⟨x, B', es', hx, J, xc, hn⟩ => qx c d x B' H' hx J.bk xc hn⟩ _ ⟨fun _ _ _ _ h => h.elim, fun _ _ _ _ _ _ h => h.elim, fun _ _ _ _ h => h.elim, fun _ _ _ _ h => h.elim, fun l xs ds' es' B' H' σ' hg I' fl bl gl D' => ?_⟩
    exact q l xs ds' B' H' hg I'.e.bk fl bl gl D'
end
end Lv
namespace Lv
open PySem PySem.Spec PyProof.Rows L2
section
variable {X : Cy} {es : List Sl} {Ψ : Dt → List Sl → Prop} {P : Po} {e : Expr} {rest : List Stmt} {pos : Pos}
/-- e alone -/
theorem wb_exp (h : VP X es e fun _ es1 => WB X es1 rest P) (hs : swapsWith e none pos.line X.env = pure false := by rfl) : WB X es (.Expr e pos :: rest) P := wb_cons (P := P) (show WS X es _ { P with nx := fun es1 => WB X es1 rest P } from fun F B H σ I D d => by
  refine SX.of (ps_expr pe_self hs) ?_
  exact h F B H σ I _ fun v dd B1 H1 es1 hq I1 S1 D1 => d.nx es1 B1 H1 σ hq I1 S1.eb)
end
end Lv
namespace Lv
theorem Bd.lit {i : Int} (n : Nat) (h : i.natAbs < 2 ^ n) : Bd n i := h
theorem Bd.mod {n : Nat} {i j : Int} (h0 : 0 < j) (h : Bd n j) : Bd n (i % j) := by
  have a := Int.emod_nonneg i (show j ≠ 0 by omega)
  have b := Int.emod_lt_of_pos i h0
  unfold Bd at *
  omega
theorem Bd.div {n : Nat} {i j : Int} (h0 : 0 < j) (h : Bd n i) : Bd n (i / j) := by
  unfold Bd at *
  refine Nat.lt_of_le_of_lt ?_ h
  have h1 := Int.mul_ediv_add_emod i j
  have a := Int.emod_nonneg i (show j ≠ 0 by omega)
  have b := Int.emod_lt_of_pos i h0
  have c : i / j ≤ i.natAbs := by
    by_cases hi : 0 ≤ i
    · have : i / j ≤ i := Int.ediv_le_self _ hi
      omega
    · have : i / j < 0 := Int.ediv_neg_of_neg_of_pos (by omega) h0
      omega
  have d : -(i.natAbs : Int) ≤ i / j := by
    by_cases hi : 0 ≤ i
    · have := Int.ediv_nonneg hi (show (0:Int) ≤ j by omega)
      omega
    · have : i ≤ i / j := by
        apply Int.le_ediv_of_mul_le h0
        have : i * j ≤ i * 1 := Int.mul_le_mul_of_nonpos_left (by omega) (by omega)
        omega
      omega
  omega
/-- the numbers of a draw: after at most m rolls -/
def Dice (m : Nat) (ds : List Dt) : Prop := ∃ a b c : Int, ds = [.int a, .int b, .int c] ∧ 0 ≤ a ∧ Bd 500 a ∧ 0 ≤ b ∧ Bd 500 b ∧ 0 ≤ c ∧ c ≤ m
theorem Dice.up {m m' : Nat} {ds : List Dt} (h : Dice m ds) (hm : m ≤ m') : Dice m' ds := by
  obtain ⟨a, b, c, e, h1, h2, h3, h4, h5, h6⟩ := h
  exact ⟨a, b, c, e, h1, h2, h3, h4, h5, by omega⟩
end Lv
namespace Lv
open PySem PySem.Spec PyProof.Rows L2
/-- // by any divisor below 2 ^ 9000 -/
def CDivV (_ j : Int) : Prop := j ≠ 0 ∧ j.natAbs.log2 < 9000
section
variable {X : Cy} {es : List Sl} {Ψ : Dt → List Sl → Prop} {a b : Expr} {pos : Pos}
theorem op_fdivV : OpR X (binaryOp .FloorDiv) (rI CDivV fun i j => .int (i.fdiv j)) := opI fun _ _ _ _ _ _ _ hc q => floordiv_int hc.1 q (.inl (PyProof.noPylong_of_log2 hc.2))
theorem vp_fdivV (h : VP X es a fun d es1 => ∃ i, d = .int i ∧ VP X es1 b fun d2 es2 => ∃ j, d2 = .int j ∧ CDivV i j ∧ Ψ (.int (i.fdiv j)) es2) : VP X es (.BinOp a .FloorDiv b pos) Ψ := vp_ii (C := CDivV) (g := fun i j => i.fdiv j) op_fdivV h
end
theorem Bd.cdivV {n : Nat} {i j : Int} (h0 : j ≠ 0) (h1 : Bd n j) (hn : 0 < n) (h : n ≤ 9000) : CDivV i j := ⟨h0, Nat.lt_of_lt_of_le (PySem.Flt.log2_lt_of hn h1) h⟩
end Lv
namespace Lv
theorem noOw1 {es : List Sl} {j : Nat} (h : es[j]? = some .no) : noOw es [j] := fun i hi b ds e => by
  have : i = j := by simpa using hi
  subst this
  rw [h] at e; cases e
theorem noOw2 {es : List Sl} {j k : Nat} (h : es[j]? = some .no) (h2 : es[k]? = some .no) : noOw es [j, k] := fun i hi b ds e => by
  have : i = j ∨ i = k := by simpa using hi
  rcases this with z | z <;> subst z
  · rw [h] at e; cases e
  · rw [h2] at e; cases e
end Lv
namespace Lv
theorem eqD_int (i j : Int) : eqD (.int i) (.int j) = decide (i = j) := rfl
theorem eqD_t2 (i j k l : Int) : eqD (.tuple [.int i, .int j]) (.tuple [.int k, .int l]) = (decide (i = k) && decide (j = l)) := by
  show (decide (i = k) && (decide (j = l) && true)) = _
  rw [Bool.and_true]
theorem eqD_l0 (x : Dt) (xs : List Dt) : eqD (.list (x :: xs)) (.list []) = false := rfl
theorem eqD_00 : eqD (.list []) (.list []) = true := rfl
end Lv
namespace Lv
theorem filt_true {α : Type} : ∀ l : List α, l.filter (fun _ => true) = l
  | [] => rfl
  | a :: l => by rw [List.filter_cons, if_pos rfl, filt_true l]
theorem map_bools (l : List Dt) (f : Dt → Bool) : Dt.list ((l.filter fun _ => true).map fun x => Dt.bool (f x)) = Dt.list ((l.map f).map Dt.bool) := by
  rw [filt_true, List.map_map]; rfl
end Lv
namespace Lv
theorem Bd.le {n : Nat} {x m : Int} (h : Bd n m) (h1 : (x.natAbs : Int) ≤ m) : Bd n x := by
  unfold Bd at *
  omega
end Lv
namespace Lv
theorem Bd.ite {n m : Nat} {a b : Int} {p : Prop} [Decidable p] (h1 : Bd n a) (h2 : Bd m b) : Bd (max n m) (if p then a else b) := by
  split
  · exact h1.mono (Nat.le_max_left n m)
  · exact h2.mono (Nat.le_max_right n m)
theorem at_ints {ns : List Int} {s : Int} (h0 : 0 ≤ s) (h1 : s < (ns.map Dt.int).length) : L2.atI (ns.map Dt.int) s = some (.int (ns.getD s.toNat 0)) := by
  unfold L2.atI L2.ixN
  rw [if_pos h0, if_pos (by omega)]
  have h2 : s.toNat < ns.length := by rw [List.length_map] at h1; omega
  show (ns.map Dt.int)[s.toNat]? = _
  rw [List.getElem?_map, List.getElem?_eq_getElem h2, List.getD_eq_getElem?_getD, List.getElem?_eq_getElem h2]
  rfl
theorem at_lt {xs : List Dt} {s : Int} (h0 : 0 ≤ s) (h1 : s < xs.length) : ∃ x, L2.atI xs s = some x ∧ x ∈ xs := by
  unfold L2.atI L2.ixN
  rw [if_pos h0, if_pos (by omega)]
  have h2 : s.toNat < xs.length := by omega
  exact ⟨xs[s.toNat], List.getElem?_eq_getElem h2, List.getElem_mem h2⟩
end Lv
namespace Lv
open PySem PySem.Spec PyProof.Rows L2
def AtD (x : Dt) : Prop := plain x = true ∧ (toPy x).canLay0 = true ∧ (toPy x).depth ≤ 3
theorem atD_all : ∀ l : List Dt, (∀ x ∈ l, AtD x) → plains l = true ∧ PyData.canLayAll0 (toPys l) = true ∧ PyData.depthAll (toPys l) ≤ 3
  | [], _ => ⟨rfl, rfl, by show (0:Nat) ≤ 3; decide⟩
  | x :: l, h => by
    obtain ⟨a1, a2, a3⟩ := h x (by simp)
    obtain ⟨b1, b2, b3⟩ := atD_all l fun y hy => h y (by simp [hy])
    refine ⟨?_, ?_, ?_⟩
    · show (plain x && plains l) = true
      rw [a1, b1]; rfl
    · show ((toPy x).canLay0 && PyData.canLayAll0 (toPys l)) = true
      rw [a2, b2]; rfl
    · show max (toPy x).depth (PyData.depthAll (toPys l)) ≤ 3
      exact Nat.max_le.mpr ⟨a3, b3⟩
theorem shD_list {l : List Dt} (h : ∀ x ∈ l, AtD x) : shD (.list l) := by
  obtain ⟨a, b, c⟩ := atD_all l h
  refine ⟨a, ?_⟩
  show (PyData.canLayAll0 (toPys l) && decide (PyData.depthAll (toPys l) + 1 ≤ 64)) = true
  rw [b, decide_eq_true (by omega)]; rfl
theorem atD_int (i : Int) : AtD (.int i) := ⟨rfl, rfl, Nat.zero_le 3⟩
theorem atD_bool (i : Bool) : AtD (.bool i) := ⟨rfl, rfl, Nat.zero_le 3⟩
theorem atD_none : AtD .none := ⟨rfl, rfl, Nat.zero_le 3⟩
theorem rng_mem {lo : Int} {n : Nat} {x : Dt} (h : x ∈ rng lo n) : ∃ i : Nat, i < n ∧ x = .int (lo + i) := by
  unfold rng at h
  obtain ⟨i, hi, rfl⟩ := List.mem_map.mp h
  exact ⟨i, List.mem_range.mp hi, rfl⟩
theorem rng_in {lo : Int} {n : Nat} {i : Int} (h0 : lo ≤ i) (h1 : i < lo + n) : Dt.int i ∈ rng lo n := by
  unfold rng
  refine List.mem_map.mpr ⟨(i - lo).toNat, List.mem_range.mpr (by omega), ?_⟩
  congr 1; omega
theorem filt_pos {l : List Dt} {p : Dt → Bool} {x : Dt} (h : x ∈ l) (hp : p x = true) : 0 < ((l.filter p).map fun x => x).length := by
  rw [List.length_map]
  exact List.length_pos_of_mem (List.mem_filter.mpr ⟨h, hp⟩)
theorem filt_len {l : List Dt} {p : Dt → Bool} {n : Nat} (h : l.length ≤ n) : ((l.filter p).map fun x => x).length ≤ n := by
  rw [List.length_map]
  exact Nat.le_trans (List.length_filter_le _ _) h
theorem filt_in {l : List Dt} {p : Dt → Bool} {x : Dt} (h : x ∈ (l.filter p).map fun x => x) : x ∈ l ∧ p x = true := by
  obtain ⟨y, hy, rfl⟩ := List.mem_map.mp h
  exact List.mem_filter.mp hy
end Lv
namespace Lv
open PySem PySem.Spec PyProof.Rows L2
theorem atD_str (s : String) : AtD (.str (Str.ofString s)) := by
  refine ⟨rfl, ?_, Nat.zero_le 3⟩
  show PyData.strOk (Str.ofString s) = true
  rw [Str.ofString_eq_toList]
  unfold PyData.strOk
  rw [List.all_toArray, List.all_eq_true]
  intro x hx
  obtain ⟨c, _, rfl⟩ := List.mem_map.mp hx
  have h := c.valid
  simp only [UInt32.isValidChar, Nat.isValidChar] at h
  have : c.toNat = c.val.toNat := rfl
  exact decide_eq_true (by omega)
theorem eqD_bool (a b : Bool) : eqD (.bool a) (.bool b) = (a == b) := rfl
section
variable {X : Cy} {Ψ : Dt → List Sl → Prop} {elt : Expr} {ifs : List Expr} {scope : Scope} {f : Dt → List Sl → (List Sl → Prop) → Prop}
/-- a comprehension whose data all have some property, and the slots stay -/
theorem comp_all {vs : List Nat} {xs : List Dt} {es1 : List Sl} (Pv : Dt → Prop) (nw : noOw es1 vs) (hl : xs.length ≤ 100000)
    (ht : ∀ x ∈ xs, f x (wipeE es1 vs) fun es3 => KX X scope fun X' => VTs X' es3 ifs fun b es4 => wipeE es4 vs = wipeE es1 vs ∧ (b = true → KX X scope fun X' => VP X' es4 elt fun y es5 => Pv y ∧ wipeE es5 vs = wipeE es1 vs))
    (hmono : ∀ (x : Dt) (es : List Sl) (N N' : List Sl → Prop), f x es N → (∀ e, N e → N' e) → f x es N')
    (h : ∀ acc, (∀ v ∈ acc, Pv v) → acc.length ≤ xs.length → Ψ (.list acc) (mrg vs 0 (wipeE es1 vs) es1)) : CompAsk X scope vs ifs elt f xs es1 Ψ := by
  refine ⟨nw, hl, fun i acc es2 => es2 = wipeE es1 vs ∧ (∀ v ∈ acc, Pv v) ∧ acc.length ≤ i, ⟨rfl, (by simp), Nat.le_refl 0⟩, fun i x acc es2 hx ⟨h1, h2, h3⟩ => ?_, fun acc es2 ⟨h1, h2, h3⟩ => ?_⟩
  · subst h1
    have hm : x ∈ xs := List.mem_of_getElem? hx
    refine hmono _ _ _ _ (ht x hm) fun es3 h3' s0 H0 C cl fp F B H σ I Q q => ?_
    refine h3' s0 H0 C cl fp F B H σ I Q fun b B' H' es4 ⟨hw, hy⟩ I' S' => q b B' H' es4 ⟨fun hb1 s1 H1 C1 cl1 fp1 => ?_, fun hb1 => ⟨hw, h2, by omega⟩⟩ I' S'
    refine (hy hb1 s1 H1 C1 cl1 fp1).imp fun y es5 ⟨h5, w5⟩ => ⟨w5, fun v hv => ?_, by rw [List.length_append]; simp; omega⟩
    rcases List.mem_append.mp hv with z | z
    · exact h2 v z
    · simp at z; rw [z]; exact h5
  · subst h1
    exact h acc h2 h3
end
end Lv

set_option Elab.async false
set_option linter.all false
set_option maxRecDepth 100000
set_option maxHeartbeats 4000000
namespace Lv
open PySem PySem.Spec PyProof.Rows L2
section
variable {X : Cy} {es : List Sl} {Ψ : Dt → List Sl → Prop} {P : Po} {a b c e : Expr} {rest : List Stmt} {pos p : Pos} {x : Str}
/-- xs.append(e), xs a list of the def's own -/
theorem wb_app (i : Nat) {p1 p2 p3 : Pos} {b0 : Bool} {ds0 : List Dt} (h : VP X es e fun d es1 => ∃ b ds, es1[i]? = some (.own b (.l ds)) ∧ ds.length < 100000 ∧ ∃ es2, es1.set i (.own b (.l (ds ++ [d]))) = es2 ∧ WB X es2 rest P) (h0 : es[i]? = some (.own b0 (.l ds0)) := by rfl)
    (hN : X.N[i]? = some x := by rfl) (hv : Vis X.env.scope x := by first | exact Or.inl rfl | exact Or.inr (Or.inl rfl) | exact Or.inr (Or.inr rfl))
    (hd : (x == ("__debug__" : Str)) = false := by decide) (hcd : (x == ("__classdict__" : Str)) = false := by decide)
    (hbase : attributeBase (.Name x p1) "append" X.env (eval (.Name x p1) X.env) = eval (.Name x p1) X.env := by rfl)
    (hfew : ((backTo p3 (starEach (e :: []) X.env)).all (fun x => !x.1) && (backToKw p3 (keywordEach [] X.env)).all (fun x => x.1.isSome)
      && decide ((e :: []).length + ([] : List Keyword).length + (if ([] : List Keyword).isEmpty then 0 else 1) < 30)) = true := by rfl)
    (hline : (p2.endLine == p3.line) = true := by rfl) (hs1 : starEach (e :: []) X.env = (false, eval e X.env) :: starEach [] X.env := by rfl) (hplain : (backTo p3 (starEach [] X.env)).any (·.1) = false := by rfl)
    (hs : swapsWith (.Call (.Attribute (.Name x p1) "append" p2) [e] [] p3) none pos.line X.env = pure false := by rfl) :
    WB X es (.Expr (.Call (.Attribute (.Name x p1) "append" p2) [e] [] p3) pos :: rest) P :=
  wb_cons (P := P) (ws_app (P := { P with nx := fun es1 => WB X es1 rest P }) i hN hv h0 (h.imp fun d es1 ⟨b, ds, h1, h2, es2, h3, h4⟩ => ⟨b, ds, h1, h2, by rw [h3]; exact h4⟩)
    (fun he => pe_bm PySem.F.plainAttrs_list PySem.F.slot_list_append PySem.F.type_list_append mt_append (pe_var hN hv hd hcd) (pa_cons he pa_nil hs1) hbase hfew hline hs1 hplain) hs)
/-- x op= e for ints -/
theorem wb_aug {op : Operator} {g : Int → Int → Int} (i : Nat) {p' : Pos} {k : Int} (ho : PIp X op (ipI g)) (h : VP X es e fun d es1 => ∃ j, d = .int j ∧ ∃ es2, es1.set i (.fz (.int (g k j))) = es2 ∧ WB X es2 rest P) (h0 : es[i]? = some (.fz (.int k)) := by rfl) (hN : X.N.Nodup := by assumption) (hi : X.N[i]? = some x := by rfl) (hx : Loc X.env.scope x := by first | exact Or.inl rfl | exact Or.inr rfl)
    (hf : X.fn x = true ∨ X.env.scope.names.lookup x = some .local := by first | exact .inl rfl | exact .inr rfl) : WB X es (.AugAssign (.Name x p') op e pos :: rest) P :=
  wb_cons (P := P) (show WS X es _ { P with nx := fun es1 => WB X es1 rest P } from fun F B H σ I D dn => by
    refine SX.of (ps_aug hN hi hx pe_self ho hf) ?_
    obtain ⟨v, h1, h2⟩ := I.fz i _ h0
    cases h2
    refine ⟨_, h1, ?_⟩
    refine h F B H σ I _ fun v2 d2 B2 H2 es2 ⟨j, hd, es3, e3, hq⟩ I2 S2 D2 => ?_
    subst hd; cases D2
    refine ⟨k, j, rfl, rfl, ?_⟩
    refine dn.nx es3 B2 H2 _ hq ?_ S2.eb
    rw [← e3]
    exact I2.put (.int _))
theorem ip_mulX : PIp X .Mult (fun x y H Q => ∃ i j, x = .int i ∧ y = .int j ∧ CMulX i j ∧ Q (.int (i * j)) H) := by
  intro pins s σ H x y v u Q I r1 r2 h
  obtain ⟨i, j, e1, e2, hc, q⟩ := h
  subst e1; subst e2
  obtain ⟨t, rfl⟩ := r1
  obtain ⟨t', rfl⟩ := r2
  exact imul_int ⟨.int _, H, I.tok _, ⟨_, rfl⟩, q⟩ hc.ok
theorem get_listN : PGet X (fun x y H Q => ∃ p xs i v, x = .ref p ∧ y = .int i ∧ SqL X.K H p xs ∧ 0 ≤ i ∧ atI xs i = some v ∧ Q v H) := by
  intro pins s σ H x y v u Q I rx ry h
  obtain ⟨p, xs, i, z, rfl, rfl, hq, h0, he, q⟩ := h
  cases rx
  obtain ⟨t, rfl⟩ := ry
  obtain ⟨its, r, pl, hz⟩ := I.list hq
  obtain ⟨j, h1, h2, h3, h4, h5⟩ := atI_get he
  obtain ⟨w, ew, rw'⟩ := r.get h2
  have hl := r.length
  have hn := line63
  have fin : EP X pins σ Q w s := ⟨z, H, I, rw', q⟩
  have hj : i.toNat = j := by
    rw [seqIndex_of h0 h5] at h1
    exact Option.some.inj h1
  exact wpAny_getItem_list pl.isList h0 (by omega) (by rw [hj]; simpa using ew) fin
/-- xs[c] op= e for ints in a list of the def's own -/
theorem wb_augO {op : Operator} {g : Int → Int → Int} (i : Nat) {t p2 : Pos} {b0 : Bool} {ds0 : List Dt} (ho : PIp X op (ipI g))
    (h : VP X es c fun d es1 => es1 = es ∧ ∃ k n v, d = .int k ∧ 0 ≤ k ∧ ixN ds0.length k = some n ∧ ds0[n]? = some (.int v) ∧ VP X es e fun d2 es2 => es2 = es ∧ ∃ j, d2 = .int j ∧ ∃ es3, es.set i (.own b0 (.l (ds0.set n (.int (g v j))))) = es3 ∧ WB X es3 rest P) (h0 : es[i]? = some (.own b0 (.l ds0)) := by rfl) (hN : X.N[i]? = some x := by rfl) (hv : Vis X.env.scope x := by first | exact Or.inl rfl | exact Or.inr (Or.inl rfl) | exact Or.inr (Or.inr rfl))
    (ha : ∀ ov iv new, augStore c ov iv new = (do holding [new, ov, iv] (setItem ov iv new); release [new, ov, iv] []; pure .next) := by intros; rfl)
    (hd : (x == ("__debug__" : Str)) = false := by decide) (hcd : (x == ("__classdict__" : Str)) = false := by decide) : WB X es (.AugAssign (.Subscript (.Name x t) c p2) op e pos :: rest) P :=
  wb_cons (P := P) (show WS X es _ { P with nx := fun es1 => WB X es1 rest P } from fun F B H σ I D dn => by
    refine SX.of (ps_augS (pe_var hN hv hd hcd) pe_self get_listN pe_self ho set_list ha) ?_
    obtain ⟨ad, a1, _⟩ := I.ow
    obtain ⟨s1, _⟩ := a1 i b0 ds0 h0
    refine ⟨_, s1, ?_⟩
    refine h F B H σ I _ fun v d B1 H1 es1 ⟨e1, k, n, w, hd, hk0, hn, hw, hb⟩ I1 S1 D1 => ?_
    subst hd; cases D1
    subst e1
    obtain ⟨ad1, c1, _⟩ := I1.ow
    obtain ⟨t1, t2, t3, xs, t4, t5⟩ := c1 i b0 ds0 h0
    have ep : ad i = ad1 i := by rw [s1] at t1; injection t1 with z; injection z with z; injection z
    obtain ⟨u, u1, u2⟩ := dpa_get t5 hw
    cases u2
    refine ⟨_, xs, k, _, rfl, rfl, .inl (.inl (by rw [ep]; exact t4)), hk0, (by unfold atI; rw [dpa_len t5, hn]; exact u1), ?_⟩
    refine hb F B1 H1 σ I1 _ fun v2 d2 B2 H2 es2 ⟨e2, j, hd2, es3, e3, hq⟩ I2 S2 D2 => ?_
    subst hd2; cases D2
    subst e2
    refine ⟨w, j, rfl, rfl, ?_⟩
    obtain ⟨ad2, f1, _⟩ := I2.ow
    obtain ⟨g1, g2, g3, ys, g4, g5⟩ := f1 i b0 ds0 h0
    have eq : ad i = ad2 i := by rw [s1] at g1; injection g1 with z; injection z with z; injection z
    refine ⟨_, ys, k, n, rfl, rfl, by rw [eq]; exact g4, by rw [dpa_len g5]; exact hn, ?_⟩
    refine dn.nx es3 B2 _ σ hq ?_ (S1.eb.tr S2.eb)
    rw [← e3]
    exact I2.mut h0 s1 (dqa_set n g5 (.int _)))
end
end Lv
namespace Lv
open PySem PySem.Spec PyProof.Rows L2
section
variable {X : Cy} {es : List Sl} {Ψ : Dt → List Sl → Prop} {Λ : List Dt → List Sl → Prop} {P : Po} {a b c e : Expr} {rest : List Stmt} {pos p : Pos} {x : Str}
theorem vp_any (hm : X.mg "any" = none) (hg : Gl X "any") (hc : X.calm = true) (h : VP X es e fun d es1 => ∃ ns : List Bool, d = .list (ns.map Dt.bool) ∧ Ψ (.bool (ns.any id)) es1)
    (he : starEach (e :: []) X.env = (false, eval e X.env) :: starEach [] X.env := by rfl) (hpl : (backTo pos (starEach [] X.env)).any (·.1) = false := by rfl) : VP X es (.Call (.Name "any" p) [e] [] pos) Ψ :=
  vp_cb (cr_any hc) hg hm (by decide +kernel) (by decide) (by decide) (va_cons (h.imp fun d es1 ⟨ns, hd, hq⟩ => va_nil fun F σ B H vs I D Q q => by
    obtain ⟨v, rfl, D1⟩ := vals_dp1 D
    subst hd
    cases D1 with
    | lst h1 h2 =>
      have := dpa_bools h2
      subst this
      exact ⟨_, ns, rfl, .inl (.inl (I.bh _ _ h1)), q _ _ B H hq I Stp.rfl' (.bl _)⟩) he) he hpl
/-- sorted(xs), ints, as data -/
theorem vp_sortedI (hm : X.mg "sorted" = none) (hg : Gl X "sorted") (h : VP X es e fun d es1 => ∃ ns : List Int, d = .list (ns.map Dt.int) ∧ ∀ ns' : List Int, ns'.Perm ns → ns'.Pairwise (· ≤ ·) → Ψ (.list (ns'.map Dt.int)) es1)
    (he : starEach (e :: []) X.env = (false, eval e X.env) :: starEach [] X.env := by rfl) (hpl : (backTo pos (starEach [] X.env)).any (·.1) = false := by rfl) : VP X es (.Call (.Name "sorted" p) [e] [] pos) Ψ :=
  vp_cb cr_sortedI hg hm (by decide +kernel) (by decide) (by decide) (va_cons (h.imp fun d es1 ⟨ns, hd, hq⟩ => va_nil fun F σ B H vs I D Q q => by
    obtain ⟨v, rfl, D1⟩ := vals_dp1 D
    subst hd
    cases D1 with
    | lst h1 h2 =>
      have := dpa_ints h2
      subst this
      exact ⟨_, ns, rfl, .inl (.inl (I.bh _ _ h1)), fun ns' l hp hs hl => q _ _ _ _ (hq ns' hp hs) (I.new hl) (Stp.new I hl) (.lst upd_same (dpa_of_ints ns'))⟩) he) he hpl
end
end Lv
namespace Lv
open PySem PySem.Spec PyProof.Rows L2
section
variable {X : Cy} {es : List Sl} {Ψ : Dt → List Sl → Prop} {a b c e : Expr} {pos p p2 : Pos}
/-- the items from one place to another -/
def cutD (xs : List Dt) (lo hi : Option Int) : List Dt := (xs.drop (HT.sIx xs.length 0 lo)).take (HT.sIx xs.length xs.length hi - HT.sIx xs.length 0 lo)
theorem dqa_drop {K : PySem.W.Frag} {B : Hp} : ∀ {vs : List V} {ds : List Dt} (n : Nat), DqAll K B vs ds → DqAll K B (vs.drop n) (ds.drop n)
  | _, _, 0, h => h
  | _, _, _ + 1, .nil => .nil
  | _, _, n + 1, .cons _ t => dqa_drop n t
theorem dqa_take {K : PySem.W.Frag} {B : Hp} : ∀ {vs : List V} {ds : List Dt} (n : Nat), DqAll K B vs ds → DqAll K B (vs.take n) (ds.take n)
  | _, _, 0, _ => .nil
  | _, _, _ + 1, .nil => .nil
  | _, _, n + 1, .cons r t => .cons r (dqa_take n t)
theorem dqa_cut {K : PySem.W.Frag} {B : Hp} {vs : List V} {ds : List Dt} (lo hi : Option Int) (h : DqAll K B vs ds) : DqAll K B (cutV vs lo hi) (cutD ds lo hi) := by
  unfold cutV cutD
  rw [dpa_len h]
  exact dqa_take _ (dqa_drop _ h)
/-- what a part of a slice gives: nothing, or an int -/
def VO (X : Cy) (es : List Sl) (o : Option Expr) (k : Option Int → List Sl → Prop) : Prop := match o with
  | none => k none es
  | some e => VP X es e fun d es1 => ∃ i, d = .int i ∧ k (some i) es1
/-- the parts are pure: xs[lo:hi], a list -/
theorem vp_slL {lo hi : Option Expr} (h : VP X es a fun d es1 => ∃ xs, d = .list xs ∧ ∃ l u, VO X es1 lo (fun o e => o = l ∧ e = es1) ∧ VO X es1 hi (fun o e => o = u ∧ e = es1) ∧ Ψ (.list (cutD xs l u)) es1) : VP X es (.Subscript a (.Slice lo hi none p2) pos) Ψ := fun F B H σ I Q q => by
  have go : ∀ (tl th : TO), PO X lo tl → PO X hi th → (∀ B1 H1 es1 l, En X F B1 H1 σ es1 → VO X es1 lo (fun o e => o = l ∧ e = es1) → ∀ R : Option Int → Hp → Prop, (∀ B2 H2, En X F B2 H2 σ es1 → Stp σ B1 H1 es1 B2 H2 es1 → R l H2) → tl σ H1 R) →
      (∀ B1 H1 es1 u, En X F B1 H1 σ es1 → VO X es1 hi (fun o e => o = u ∧ e = es1) → ∀ R : Option Int → Hp → Prop, (∀ B2 H2, En X F B2 H2 σ es1 → Stp σ B1 H1 es1 B2 H2 es1 → R u H2) → th σ H1 R) → EX X (.Subscript a (.Slice lo hi none p2) pos) σ H Q := fun tl th pl ph kl kh => by
    refine EX.of (pe_slice sl_list pe_self pl ph) ?_
    refine h F B H σ I _ fun v d B1 H1 es1 ⟨xs, hd, l, u, h1, h2, hq⟩ I1 S1 D1 => ?_
    subst hd
    refine kl B1 H1 es1 l I1 h1 _ fun B2 H2 I2 S2 => ?_
    refine kh B2 H2 es1 u I2 h2 _ fun B3 H3 I3 S3 => ?_
    cases D1 with
    | lst l1 l2 =>
      exact ⟨_, _, rfl, .inl (.inl (I3.bh _ _ (S3.eb _ _ (S2.eb _ _ l1)))), fun q0 hq0 => q _ _ _ _ es1 hq (I3.new hq0) (((S1.tr S2).tr S3).tr (Stp.new I3 hq0)) (.lst upd_same ((I3.newB hq0).dpa _ _ (dqa_cut l u (S3.eb.dpa _ _ (S2.eb.dpa _ _ l2)))))⟩
  have part : ∀ o : Option Expr, ∃ t : TO, PO X o t ∧ ∀ B1 H1 es1 l, En X F B1 H1 σ es1 → VO X es1 o (fun o e => o = l ∧ e = es1) → ∀ R : Option Int → Hp → Prop, (∀ B2 H2, En X F B2 H2 σ es1 → Stp σ B1 H1 es1 B2 H2 es1 → R l H2) → t σ H1 R := fun o => by
    cases o with
    | none =>
      refine ⟨_, po_none, fun B1 H1 es1 l I1 hv R k => ?_⟩
      obtain ⟨rfl, _⟩ := hv
      exact k B1 H1 I1 Stp.rfl'
    | some e =>
      refine ⟨_, po_some pe_self, fun B1 H1 es1 l I1 hv R k => ?_⟩
      refine hv F B1 H1 σ I1 _ fun v d B2 H2 es2 ⟨i, hd, hl, he⟩ I2 S2 D2 => ?_
      subst hd he hl
      cases D2
      exact ⟨i, rfl, k B2 H2 I2 S2⟩
  obtain ⟨tl, pl, kl⟩ := part lo
  obtain ⟨th, ph, kh⟩ := part hi
  exact go tl th pl ph kl kh
end
end Lv

set_option Elab.async false
set_option linter.all false
set_option maxRecDepth 100000
set_option maxHeartbeats 4000000
/-! Chains of three comparisons. -/
namespace Lv
open PySem PySem.Spec PyProof.Rows L2
section
variable {X : Cy} {a b c d : Expr} {pos : Pos} {ta tb tc td : TE}
def tChain3 (r1 r2 r3 : R2) (ta tb tc td : TE) : TE := fun σ H Q => ta σ H fun x H1 => tb σ H1 fun y H2 => r1 x y H2 fun z H3 => ∃ k, z = .bl k ∧
  (if k = true then tc σ H3 fun w H4 => r2 y w H4 fun z2 H5 => ∃ k2, z2 = .bl k2 ∧ (if k2 = true then td σ H5 fun u H6 => r3 w u H6 Q else Q (.bl false) H5) else Q (.bl false) H3)
theorem pe_chain3 {o1 o2 o3 : CmpOp} {r1 r2 r3 : R2} (h1 : OpR X (compareOp o1) r1) (h2 : OpR X (compareOp o2) r2) (h3 : OpR X (compareOp o3) r3) (ha : PE X a ta) (hb : PE X b tb) (hc : PE X c tc) (hd : PE X d td)
    (hm : lastMarks [o1, o2, o3] [b, c, d] = false) : PE X (.Compare a [o1, o2, o3] [b, c, d] pos) (tChain3 r1 r2 r3 ta tb tc td) := by
  refine ⟨fun pins s σ H Q I h => ?_⟩
  refine Compare_chain (thn (ha.run pins s σ H _ I h) fun v s1 ⟨x, H1, I1, q1, g1⟩ => chain_link (thn (hb.run pins s1 σ H1 _ I1 g1) fun u s2 ⟨y, H2, I2, q2, g2⟩ =>
    thn (h1 pins s2 σ H2 x y v u _ I2 q1 q2 g2) fun e s3 ⟨z, H3, I3, q3, k, ek, g3⟩ => ?_)) hm
  subst ek
  cases q3
  refine wpAny_truthy_bool ?_
  cases k with
  | false => exact ite_ff ⟨.bl false, H3, I3, rfl, g3⟩
  | true =>
    refine ite_tt (chain_link (thn (hc.run pins s3 σ H3 _ I3 g3) fun w s4 ⟨z4, H4, I4, q4, g4⟩ => thn (h2 pins s4 σ H4 y z4 u w _ I4 q2 q4 g4) fun e2 s5 ⟨z5, H5, I5, q5, k2, ek2, g5⟩ => ?_))
    subst ek2
    cases q5
    refine wpAny_truthy_bool ?_
    cases k2 with
    | false => exact ite_ff ⟨.bl false, H5, I5, rfl, g5⟩
    | true => exact ite_tt (chain_last (thn (hd.run pins s5 σ H5 _ I5 g5) fun w' s6 ⟨z6, H6, I6, q6, g6⟩ => h3 pins s6 σ H6 z4 z6 w w' Q I6 q4 q6 g6))
theorem pt_chain3 {o1 o2 o3 : CmpOp} {r1 r2 r3 : R2} (h1 : OpR X (compareOp o1) r1) (h2 : OpR X (compareOp o2) r2) (h3 : OpR X (compareOp o3) r3) (ha : PE X a ta) (hb : PE X b tb) (hc : PE X c tc) (hd : PE X d td)
    (hm : lastMarks [o1, o2, o3] [b, c, d] = false) : PT X (.Compare a [o1, o2, o3] [b, c, d] pos) (tTest (tChain3 r1 r2 r3 ta tb tc td)) := by
  refine ⟨fun pins s σ H Q I h => ?_⟩
  refine isTrue_chain (thn (ha.run pins s σ H _ I h) fun v s1 ⟨x, H1, I1, q1, g1⟩ => test_link (thn (hb.run pins s1 σ H1 _ I1 g1) fun u s2 ⟨y, H2, I2, q2, g2⟩ =>
    thn (h1 pins s2 σ H2 x y v u _ I2 q1 q2 g2) fun e s3 ⟨z, H3, I3, q3, k, ek, g3⟩ => ?_)) hm
  subst ek
  cases q3
  refine wpAny_truthy_bool ?_
  cases k with
  | false =>
    obtain ⟨k', e', q'⟩ := g3
    cases e'
    exact ite_ff ⟨H3, I3, q'⟩
  | true =>
    refine ite_tt (test_link (thn (hc.run pins s3 σ H3 _ I3 g3) fun w s4 ⟨z4, H4, I4, q4, g4⟩ => thn (h2 pins s4 σ H4 y z4 u w _ I4 q2 q4 g4) fun e2 s5 ⟨z5, H5, I5, q5, k2, ek2, g5⟩ => ?_))
    subst ek2
    cases q5
    refine wpAny_truthy_bool ?_
    cases k2 with
    | false =>
      obtain ⟨k', e', q'⟩ := g5
      cases e'
      exact ite_ff ⟨H5, I5, q'⟩
    | true =>
      refine ite_tt (test_last (thn (hd.run pins s5 σ H5 _ I5 g5) fun w' s6 ⟨z6, H6, I6, q6, g6⟩ => thn (h3 pins s6 σ H6 z4 z6 w w' _ I6 q4 q6 g6) fun d' s7 ⟨z7, H7, I7, q7, k3, e3, g7⟩ => ?_))
      subst e3
      cases q7
      exact wpAny_truthy_bool ⟨H7, I7, g7⟩
end
end Lv

set_option Elab.async false
set_option linter.all false
set_option maxRecDepth 100000
set_option maxHeartbeats 4000000
/-! Dicts: keys as data, what they hold. -/
namespace Lv
open PySem PySem.Spec PyProof.Rows L2
def keyD : Key → Dt
  | .inl i => .int i
  | .inr s => .str s
def keyOf : Dt → Option Key
  | .int i => some (.inl i)
  | .str s => some (.inr s)
  | _ => none
def keysOf : List Dt → Option (List Key)
  | [] => some []
  | d :: r => match keyOf d, keysOf r with
    | some k, some ks => some (k :: ks)
    | _, _ => none
def lookD {κ : Type} [DecidableEq κ] : List κ → List Dt → κ → Option Dt
  | k' :: ks, d :: ds, k => if k' = k then some d else lookD ks ds k
  | _, _, _ => none
/-- what a dict holds at a key; none: that is no key of it -/
def dgetD : Dt → Dt → Option (Option Dt)
  | .dK ks ds, k => (keyOf k).map fun k => lookD ks ds k
  | .dT ks ds, .tuple t => (keysOf t).map fun k => lookD ks ds k
  | _, _ => none
inductive OD (K : PySem.W.Frag) (B : Hp) : Option V → Option Dt → Prop
  | no : OD K B none none
  | so {v : V} {d : Dt} : Dq K B v d → OD K B (some v) (some d)
theorem OD.up {K : PySem.W.Frag} {B B' : Hp} {v : Option V} {d : Option Dt} (e : Ext B B') (h : OD K B v d) : OD K B' v d := by
  cases h with
  | no => exact .no
  | so h => exact .so (e.dp _ _ h)
theorem OD.some {K : PySem.W.Frag} {B : Hp} {v : Option V} {d : Option Dt} (h : OD K B v d) : v.isSome = d.isSome := by cases h <;> rfl
section
variable {K : PySem.W.Frag} {B : Hp} {κ : Type} [DecidableEq κ]
theorem look_val : ∀ {ks : List κ} {xs : List V} {ds : List Dt} (k : κ), ks.length = xs.length → DqAll K B xs ds → OD K B (valV (ks.zip xs) k) (lookD ks ds k)
  | [], [], [], k, _, _ => .no
  | k' :: ks, x :: xs, d :: ds, k, hl, .cons h t => by
    rw [List.zip_cons_cons]
    unfold lookD
    by_cases e : k' = k
    · rw [valV_pos (by exact e), if_pos e]; exact .so h
    · rw [valV_neg (by exact e), if_neg e]; exact look_val k (by simpa using hl) t
theorem key_of_d {v : V} {d : Dt} {k : Key} (h : Dq K B v d) (e : keyOf d = some k) : v = kV k := by
  cases d <;> simp only [keyOf, reduceCtorEq, Option.some.injEq] at e
  · subst e; cases h; rfl
  · subst e; cases h; rfl
theorem keys_of_d : ∀ {vs : List V} {ds : List Dt} {ks : List Key}, DqAll K B vs ds → keysOf ds = some ks → vs = ks.map kV
  | _, [], ks, .nil, e => by cases e; rfl
  | _, d :: ds, ks, .cons h t, e => by
    unfold keysOf at e
    cases h1 : keyOf d with
    | none => rw [h1] at e; simp at e
    | some k =>
      cases h2 : keysOf ds with
      | none => rw [h1, h2] at e; simp at e
      | some ks' =>
        rw [h1, h2] at e
        simp only [Option.some.injEq] at e
        subst e
        rw [key_of_d h h1, keys_of_d t h2]; rfl
end
/-- what the dict at a holds at the key y, a tuple of any make -/
def DGQ (K : PySem.W.Frag) (H : Hp) (a : Addr) (y : V) (r : Option V) : Prop :=
  (∃ kvs k, Rd H a (.dK kvs) ∧ y = kV k ∧ r = valV kvs k) ∨ ∃ kvs k b, Rd H a (.dT kvs) ∧ y = .ref b ∧ SqT K H b (k.map kV) ∧ r = valV kvs k
/-- of dict data -/
theorem dgq_of {K : PySem.W.Frag} {B H : Hp} {v y : V} {d k : Dt} {r : Option Dt} (e : Ext B H) (hd : Dq K B v d) (hk : Dq K B y k) (hr : dgetD d k = some r) : ∃ a rv, v = .ref a ∧ IsD H a ∧ DGQ K H a y rv ∧ OD K B rv r := by
  cases d <;> simp only [dgetD, reduceCtorEq] at hr
  · rename_i ks ds
    cases hd with
    | dK hl hs ha =>
      obtain ⟨kk, h1, h2⟩ := Option.map_eq_some_iff.mp hr
      subst h2
      exact ⟨_, _, rfl, .inl ⟨_, .inr ⟨_, e _ _ hs⟩⟩, .inl ⟨_, kk, .inr ⟨_, e _ _ hs⟩, key_of_d hk h1, rfl⟩, look_val kk hl ha⟩
  · rename_i ks ds
    cases hd with
    | dT hl hs ha =>
      cases k <;> simp only [dgetD, reduceCtorEq] at hr
      rename_i t
      obtain ⟨kk, h1, h2⟩ := Option.map_eq_some_iff.mp hr
      subst h2
      cases hk with
      | tup h3 h4 =>
        have := keys_of_d h4 h1
        subst this
        exact ⟨_, _, rfl, .inr ⟨_, .inr ⟨_, e _ _ hs⟩⟩, .inr ⟨_, kk, _, .inr ⟨_, e _ _ hs⟩, rfl, e.sqt h3, rfl⟩, look_val kk hl ha⟩
/-- of a dict that is owned -/
theorem dgq_own {K : PySem.W.Frag} {B H : Hp} {a : Addr} {o : HO} {y : V} {c : Ow} {k : Dt} {r : Option Dt} (e : Ext B H) (ho : H a = some o) (hc : OwR K B o c) (hk : Dq K B y k) (hr : dgetD c.dt k = some r) : ∃ rv, IsD H a ∧ DGQ K H a y rv ∧ OD K B rv r := by
  cases hc with
  | l _ => simp [Ow.dt, dgetD] at hr
  | obj _ _ => simp [Ow.dt, dgetD] at hr
  | dK hl ha =>
    obtain ⟨kk, h1, h2⟩ := Option.map_eq_some_iff.mp hr
    subst h2
    exact ⟨_, .inl ⟨_, .inl ho⟩, .inl ⟨_, kk, .inl ho, key_of_d hk h1, rfl⟩, look_val kk hl ha⟩
  | dT hl ha =>
    cases k <;> simp only [Ow.dt, dgetD, reduceCtorEq] at hr
    obtain ⟨kk, h1, h2⟩ := Option.map_eq_some_iff.mp hr
    subst h2
    cases hk with
    | tup h3 h4 =>
      have := keys_of_d h4 h1
      subst this
      exact ⟨_, .inr ⟨_, .inl ho⟩, .inr ⟨_, kk, _, .inl ho, rfl, e.sqt h3, rfl⟩, look_val kk hl ha⟩
/-! ### the machine's steps -/
section
variable {X : Cx} {pins : List (Addr × Obj)} {σ : L2.St} {H : Hp} {s : Shared} {a : Addr} {y v d : V} {u r : Value} {o : Option V} {A : Around} {E : Value → Shared → Prop}
theorem key_q {b : Addr} {ks : List Key} (I : Inv X pins σ H s) (h : SqT X.K H b (ks.map kV)) : (tupleKind (mixKind X.prog X.w)).is s.heap ks b := by
  obtain ⟨its, r, ⟨o, h1, h2, n, h3⟩, _⟩ := I.tuple h
  exact ⟨o, its.toArray, n, h1, h2, h3, by simpa using items_are r⟩
theorem dq_getItem {Q : Value → Shared → Prop} (hu : A.units + 1 < cLine) (I : Inv X pins σ H s) (g : DGQ X.K H a y (some v)) (ry : RelV y u) (h : ∀ w' s', Inv X pins σ H s' → RelV v w' → Q w' s') :
    wpAny (model X.prog X.w) A (getItem (.ref a) u) Q E s := by
  rcases g with ⟨kvs, k, e, ey, l⟩ | ⟨kvs, k, b, e, ey, eb, l⟩
  · subst ey
    obtain ⟨z, hd, vs, rel, dd⟩ := dk_rd I.hok e
    obtain ⟨w', hw, rw'⟩ := RelO.some_of (v := v) (o := valueAt vs k) (by rw [l]; exact rel.val k)
    exact wpAny_getItem_of (kV_is ry) dd.mapOf hw (h w' _ (I.tok _) rw')
  · subst ey
    cases (show u = Value.ref b from ry)
    obtain ⟨z, hd, xs, rel, dd⟩ := dt_rd I.hok e
    obtain ⟨w', hw, rw'⟩ := RelO.some_of (v := v) (o := (atKey xs k).map (·.2)) (by rw [l]; exact rel.val k)
    obtain ⟨p, hp, hp2⟩ := Option.map_eq_some_iff.mp hw
    refine wpAny_getItem_heap (tupleKind_room_in1 hu) (key_q I eb) dd hp ?_
    rw [hp2]
    exact h w' _ (I.tok _) rw'
theorem dq_in {Q : Value → Shared → Prop} (hu : A.units + 1 < cLine) (I : Inv X pins σ H s) (g : DGQ X.K H a y o) (ry : RelV y u) (h : ∀ s', Inv X pins σ H s' → Q (.bool o.isSome) s') :
    wpAny (model X.prog X.w) A (compareOp .In u (.ref a)) Q E s := by
  rcases g with ⟨kvs, k, e, ey, l⟩ | ⟨kvs, k, b, e, ey, eb, l⟩
  · subst ey
    obtain ⟨z, hd, vs, rel, dd⟩ := dk_rd I.hok e
    refine wpAny_in_of (kV_is ry) hd dd.mapOf ?_
    rw [← (rel.val k).isSome_eq, ← l]
    exact h _ (I.tok _)
  · subst ey
    cases (show u = Value.ref b from ry)
    obtain ⟨z, hd, xs, rel, dd⟩ := dt_rd I.hok e
    refine wpAny_in_heap (tupleKind_room_in1 hu) (key_q I eb) hd dd ?_
    have q := (rel.val k).isSome_eq
    rw [Option.isSome_map] at q
    rw [← q, ← l]
    exact h _ (I.tok _)
theorem dq_notIn {Q : Value → Shared → Prop} (hu : A.units + 1 < cLine) (I : Inv X pins σ H s) (g : DGQ X.K H a y o) (ry : RelV y u) (h : ∀ s', Inv X pins σ H s' → Q (.bool (!o.isSome)) s') :
    wpAny (model X.prog X.w) A (compareOp .NotIn u (.ref a)) Q E s := by
  rcases g with ⟨kvs, k, e, ey, l⟩ | ⟨kvs, k, b, e, ey, eb, l⟩
  · subst ey
    obtain ⟨z, hd, vs, rel, dd⟩ := dk_rd I.hok e
    refine wpAny_notIn_of (kV_is ry) hd dd.mapOf ?_
    rw [← (rel.val k).isSome_eq, ← l]
    exact h _ (I.tok _)
  · subst ey
    cases (show u = Value.ref b from ry)
    obtain ⟨z, hd, xs, rel, dd⟩ := dt_rd I.hok e
    refine wpAny_notIn_heap (tupleKind_room_in1 hu) (key_q I eb) hd dd ?_
    have q := (rel.val k).isSome_eq
    rw [Option.isSome_map] at q
    rw [← q, ← l]
    exact h _ (I.tok _)
theorem dq_get1 {Q : Value → Shared → Prop} (hu : A.units + 1 < cLine) (I : Inv X pins σ H s) (g : DGQ X.K H a y o) (ry : RelV y u) (h : ∀ w' s', Inv X pins σ H s' → RelV (o.getD .non) w' → Q w' s') :
    wpAny (model X.prog X.w) A (call (.builtin "dict.get") [.ref a, u]) Q E s := by
  rcases g with ⟨kvs, k, e, ey, l⟩ | ⟨kvs, k, b, e, ey, eb, l⟩
  · subst ey
    obtain ⟨z, hd, vs, rel, dd⟩ := dk_rd I.hok e
    refine call_meetsIn PySem.F.slot_dict_get dd.typeIs PySem.F.entry_dict_get (PySem.F.args_dict_get_2 _ _) (meets_dict_get (mixKind X.prog X.w) a (kV_is ry) hd) ⟨_, dd.mapOf, h _ _ (I.tok _) ?_⟩
    rw [l]
    exact (rel.val k).getD rfl
  · subst ey
    cases (show u = Value.ref b from ry)
    obtain ⟨z, hd, xs, rel, dd⟩ := dt_rd I.hok e
    refine call_meetsIn PySem.F.slot_dict_get dd.typeIs PySem.F.entry_dict_get (PySem.F.args_dict_get_2 _ _) (meetsH_dict_get (tupleKind (mixKind X.prog X.w)) a b hd) ⟨tupleKind_room_in1 hu, k, xs, key_q I eb, dd, h _ _ (I.tok _) ?_⟩
    rw [l]
    exact (rel.val k).getD rfl
theorem dq_get2 {Q : Value → Shared → Prop} (hu : A.units + 1 < cLine) (I : Inv X pins σ H s) (g : DGQ X.K H a y o) (ry : RelV y u) (rd : RelV d r) (h : ∀ w' s', Inv X pins σ H s' → RelV (o.getD d) w' → Q w' s') :
    wpAny (model X.prog X.w) A (call (.builtin "dict.get") [.ref a, u, r]) Q E s := by
  rcases g with ⟨kvs, k, e, ey, l⟩ | ⟨kvs, k, b, e, ey, eb, l⟩
  · subst ey
    obtain ⟨z, hd, vs, rel, dd⟩ := dk_rd I.hok e
    refine call_meetsIn PySem.F.slot_dict_get dd.typeIs PySem.F.entry_dict_get (PySem.F.args_dict_get_3 _ _ _) (meets_dict_get_default (mixKind X.prog X.w) a (kV_is ry) hd r) ⟨_, dd.mapOf, h _ _ (I.tok _) ?_⟩
    rw [l]
    exact (rel.val k).getD rd
  · subst ey
    cases (show u = Value.ref b from ry)
    obtain ⟨z, hd, xs, rel, dd⟩ := dt_rd I.hok e
    refine call_meetsIn PySem.F.slot_dict_get dd.typeIs PySem.F.entry_dict_get (PySem.F.args_dict_get_3 _ _ _) (meetsH_dict_get_default (tupleKind (mixKind X.prog X.w)) a b hd r) ⟨tupleKind_room_in1 hu, k, xs, key_q I eb, dd, h _ _ (I.tok _) ?_⟩
    rw [l]
    exact (rel.val k).getD rd
theorem dq_type (I : Inv X pins σ H s) (d : IsD H a) : s.TypeIs (.ref a) "dict" := (isD_at I d).1
end
/-! ### the rules -/
section
variable {X : Cx} {o i e f : Expr} {pos apos cpos : Pos} {td ty tx : TE}
theorem pe_dgetQ (hu : X.A.units + 1 < cLine) (ho : PE X o td) (hi : PE X i ty) (hs : NoSl i) : PE X (.Subscript o i pos) (fun σ H Q => td σ H fun x H1 => ty σ H1 fun y H2 => ∃ a v, x = .ref a ∧ IsD H2 a ∧ DGQ X.K H2 a y (some v) ∧ Q v H2) := by
  refine ⟨fun pins s σ H Q I h => ?_⟩
  refine subD_of PySem.F.slot_dict_getitem.lookup hs (thn (ho.run pins s σ H _ I h) fun u s1 ⟨x, H1, I1, rx, q1⟩ => thn (hi.run pins s1 σ H1 _ I1 q1) fun iv s2 ⟨y, H2, I2, ry, a, v, ex, dd, g, q2⟩ => ?_)
  subst ex
  obtain rfl : u = Value.ref a := rx
  exact ⟨dq_type I2 dd, dq_getItem hu I2 g ry fun w' s3 I3 rw' => ⟨v, H2, I3, rw', q2⟩⟩
theorem pc_dinQ (hu : X.A.units + 1 < cLine) (hi : PE X i ty) (ho : PE X o td) : PC X .In i o (fun σ H Q => ty σ H fun y H1 => td σ H1 fun x H2 => ∃ a r, x = .ref a ∧ DGQ X.K H2 a y r ∧ Q (.bl r.isSome) H2) := by
  refine ⟨fun pins s σ H Q I h => ?_⟩
  refine thn (hi.run pins s σ H _ I h) fun iv s1 ⟨y, H1, I1, ry, q1⟩ => thn (ho.run pins s1 σ H1 _ I1 q1) fun u s2 ⟨x, H2, I2, rx, a, ov, ex, g, q2⟩ => ?_
  subst ex
  obtain rfl : u = Value.ref a := rx
  exact dq_in hu I2 g ry fun s3 I3 => ⟨.bl ov.isSome, H2, I3, rfl, q2⟩
theorem pc_dnotinQ (hu : X.A.units + 1 < cLine) (hi : PE X i ty) (ho : PE X o td) : PC X .NotIn i o (fun σ H Q => ty σ H fun y H1 => td σ H1 fun x H2 => ∃ a r, x = .ref a ∧ DGQ X.K H2 a y r ∧ Q (.bl (!r.isSome)) H2) := by
  refine ⟨fun pins s σ H Q I h => ?_⟩
  refine thn (hi.run pins s σ H _ I h) fun iv s1 ⟨y, H1, I1, ry, q1⟩ => thn (ho.run pins s1 σ H1 _ I1 q1) fun u s2 ⟨x, H2, I2, rx, a, ov, ex, g, q2⟩ => ?_
  subst ex
  obtain rfl : u = Value.ref a := rx
  exact dq_notIn hu I2 g ry fun s3 I3 => ⟨.bl (!ov.isSome), H2, I3, rfl, q2⟩
theorem pe_dget1Q (hu : X.A.units + 1 < cLine) (ho : PE X o td) (he : PE X e ty) (m : M1 X o "get" apos e cpos) : PE X (.Call (.Attribute o "get" apos) [e] [] cpos) (fun σ H Q => td σ H fun x H1 => ∃ a, x = .ref a ∧ IsD H1 a ∧ ty σ H1 fun y H2 => ∃ r, DGQ X.K H2 a y r ∧ Q (r.getD .non) H2) := by
  refine ⟨fun pins s σ H Q I h => ?_⟩
  refine wpAny_Call_method m.base m.few m.line PySem.F.plainAttrs_dict PySem.F.slot_dict_get PySem.F.type_dict_get (thn (ho.run pins s σ H _ I h) fun u s1 ⟨x, H1, I1, rx, a, ex, d, q1⟩ => ?_)
  subst ex
  obtain rfl : u = Value.ref a := rx
  obtain ⟨t1, t2, _⟩ := isD_at I1 d
  refine ⟨t1, t2, ?_⟩
  rw [m.trees]
  refine Calls.callWith_builtin rfl (Calls.evalArgs_plain (Calls.spliced_cons (thn (he.run pins s1 σ H1 _ I1 q1) fun iv s2 ⟨y, H2, I2, ry, ov, g, q2⟩ => Calls.spliced_nil ?_)))
  exact dq_get1 hu I2 g ry fun w' s3 I3 rw' => ⟨_, H2, I3, rw', q2⟩
theorem pe_dget2Q (hu : X.A.units + 1 < cLine) (ho : PE X o td) (he : PE X e ty) (hf : PE X f tx) (m : M2 X o "get" apos e f cpos) : PE X (.Call (.Attribute o "get" apos) [e, f] [] cpos) (fun σ H Q => td σ H fun x H1 => ∃ a, x = .ref a ∧ IsD H1 a ∧ ty σ H1 fun y H2 => tx σ H2 fun z H3 => ∃ r, DGQ X.K H3 a y r ∧ Q (r.getD z) H3) := by
  refine ⟨fun pins s σ H Q I h => ?_⟩
  refine wpAny_Call_method m.base m.few m.line PySem.F.plainAttrs_dict PySem.F.slot_dict_get PySem.F.type_dict_get (thn (ho.run pins s σ H _ I h) fun u s1 ⟨x, H1, I1, rx, a, ex, d, q1⟩ => ?_)
  subst ex
  obtain rfl : u = Value.ref a := rx
  obtain ⟨t1, t2, _⟩ := isD_at I1 d
  refine ⟨t1, t2, ?_⟩
  rw [m.trees]
  refine Calls.callWith_builtin rfl (Calls.evalArgs_plain (Calls.spliced_cons (thn (he.run pins s1 σ H1 _ I1 q1) fun iv s2 ⟨y, H2, I2, ry, q2⟩ =>
    Calls.spliced_cons (thn (hf.run pins s2 σ H2 _ I2 q2) fun fv s3 ⟨z, H3, I3, rz, ov, g, q3⟩ => Calls.spliced_nil ?_))))
  exact dq_get2 hu I3 g ry rz fun w' s4 I4 rw' => ⟨_, H3, I4, rw', q3⟩
end
/-! ### .. told on data -/
section
variable {X : Cy} {es : List Sl} {Ψ : Dt → List Sl → Prop} {Θ : Bool → List Sl → Prop} {Λ : List Dt → List Sl → Prop} {P : Po} {a b c e k x : Expr} {rest : List Stmt} {pos p apos cpos : Pos} {nm : Str}
theorem OD.get {K : PySem.W.Frag} {B : Hp} {v : Option V} {d : Option Dt} {u : V} {t : Dt} (h : OD K B v d) (hu : Dq K B u t) : Dq K B (v.getD u) (d.getD t) := by
  cases h with
  | no => exact hu
  | so h => exact h
/-- d[k], d data -/
theorem vp_dix (hu : X.A.units + 1 < cLine) (h : VP X es a fun d es1 => VP X es1 b fun dk es2 => ∃ y, dgetD d dk = some (some y) ∧ Ψ y es2) (hs : NoSl b) : VP X es (.Subscript a b pos) Ψ := fun F B H σ I Q q => by
  refine EX.of (pe_dgetQ hu pe_self pe_self hs) ?_
  refine h F B H σ I _ fun v d B1 H1 es1 hb I1 S1 D1 => ?_
  refine hb F B1 H1 σ I1 _ fun v2 d2 B2 H2 es2 ⟨y, hy, hq⟩ I2 S2 D2 => ?_
  obtain ⟨ad, rv, rfl, isd, g, od⟩ := dgq_of I2.bh (S2.eb.dp _ _ D1) D2 hy
  cases od with
  | so hd => exact ⟨ad, _, rfl, isd, g, q _ _ B2 H2 es2 hq I2 (S1.tr S2) hd⟩
/-- k in d, k not in d; d data -/
theorem vp_din (hu : X.A.units + 1 < cLine) (h : VP X es k fun dk es1 => VP X es1 a fun d es2 => ∃ r, dgetD d dk = some r ∧ Ψ (.bool r.isSome) es2) (hm : behindInMarks .In a = false) : VP X es (.Compare k [.In] [a] pos) Ψ := fun F B H σ I Q q => by
  refine EX.of (pe_cmp (pc_dinQ hu pe_self pe_self) hm) ?_
  refine h F B H σ I _ fun v d B1 H1 es1 hb I1 S1 D1 => ?_
  refine hb F B1 H1 σ I1 _ fun v2 d2 B2 H2 es2 ⟨r, hr, hq⟩ I2 S2 D2 => ?_
  obtain ⟨ad, rv, rfl, isd, g, od⟩ := dgq_of I2.bh D2 (S2.eb.dp _ _ D1) hr
  exact ⟨ad, rv, rfl, g, by rw [od.some]; exact q _ _ B2 H2 es2 hq I2 (S1.tr S2) (.bl _)⟩
theorem vt_din (hu : X.A.units + 1 < cLine) (h : VP X es k fun dk es1 => VP X es1 a fun d es2 => ∃ r, dgetD d dk = some r ∧ Θ r.isSome es2) (hm : behindInMarks .In a = false) : VT X es (.Compare k [.In] [a] pos) Θ := fun F B H σ I Q q => by
  refine TX.of (pt_cmp (pc_dinQ hu pe_self pe_self) hm) ?_
  refine h F B H σ I _ fun v d B1 H1 es1 hb I1 S1 D1 => ?_
  refine hb F B1 H1 σ I1 _ fun v2 d2 B2 H2 es2 ⟨r, hr, hq⟩ I2 S2 D2 => ?_
  obtain ⟨ad, rv, rfl, isd, g, od⟩ := dgq_of I2.bh D2 (S2.eb.dp _ _ D1) hr
  exact ⟨ad, rv, rfl, g, _, rfl, by rw [od.some]; exact q _ B2 H2 es2 hq I2 (S1.tr S2)⟩
theorem vp_dnin (hu : X.A.units + 1 < cLine) (h : VP X es k fun dk es1 => VP X es1 a fun d es2 => ∃ r, dgetD d dk = some r ∧ Ψ (.bool (!r.isSome)) es2) (hm : behindInMarks .NotIn a = false) : VP X es (.Compare k [.NotIn] [a] pos) Ψ := fun F B H σ I Q q => by
  refine EX.of (pe_cmp (pc_dnotinQ hu pe_self pe_self) hm) ?_
  refine h F B H σ I _ fun v d B1 H1 es1 hb I1 S1 D1 => ?_
  refine hb F B1 H1 σ I1 _ fun v2 d2 B2 H2 es2 ⟨r, hr, hq⟩ I2 S2 D2 => ?_
  obtain ⟨ad, rv, rfl, isd, g, od⟩ := dgq_of I2.bh D2 (S2.eb.dp _ _ D1) hr
  exact ⟨ad, rv, rfl, g, by rw [od.some]; exact q _ _ B2 H2 es2 hq I2 (S1.tr S2) (.bl _)⟩
theorem vt_dnin (hu : X.A.units + 1 < cLine) (h : VP X es k fun dk es1 => VP X es1 a fun d es2 => ∃ r, dgetD d dk = some r ∧ Θ (!r.isSome) es2) (hm : behindInMarks .NotIn a = false) : VT X es (.Compare k [.NotIn] [a] pos) Θ := fun F B H σ I Q q => by
  refine TX.of (pt_cmp (pc_dnotinQ hu pe_self pe_self) hm) ?_
  refine h F B H σ I _ fun v d B1 H1 es1 hb I1 S1 D1 => ?_
  refine hb F B1 H1 σ I1 _ fun v2 d2 B2 H2 es2 ⟨r, hr, hq⟩ I2 S2 D2 => ?_
  obtain ⟨ad, rv, rfl, isd, g, od⟩ := dgq_of I2.bh D2 (S2.eb.dp _ _ D1) hr
  exact ⟨ad, rv, rfl, g, _, rfl, by rw [od.some]; exact q _ B2 H2 es2 hq I2 (S1.tr S2)⟩
/-- d.get(k), d data: whatever it is, it is a dict -/
def isDt : Dt → Bool
  | .dK _ _ => true
  | .dT _ _ => true
  | _ => false
theorem isD_of {K : PySem.W.Frag} {B H : Hp} {v : V} {d : Dt} (e : Ext B H) (hd : Dq K B v d) (h : isDt d = true) : ∃ a, v = .ref a ∧ IsD H a := by
  cases d <;> first | (cases h; done) | skip
  · cases hd with
    | dK hl hs ha => exact ⟨_, rfl, .inl ⟨_, .inr ⟨_, e _ _ hs⟩⟩⟩
  · cases hd with
    | dT hl hs ha => exact ⟨_, rfl, .inr ⟨_, .inr ⟨_, e _ _ hs⟩⟩⟩
theorem vp_dget1 (hu : X.A.units + 1 < cLine) (h : VP X es a fun d es1 => isDt d = true ∧ VP X es1 k fun dk es2 => ∃ r, dgetD d dk = some r ∧ Ψ (r.getD .none) es2) (m : M1 X a "get" apos k cpos) : VP X es (.Call (.Attribute a "get" apos) [k] [] cpos) Ψ := fun F B H σ I Q q => by
  refine EX.of (pe_dget1Q hu pe_self pe_self m) ?_
  refine h F B H σ I _ fun v d B1 H1 es1 ⟨hid, hb⟩ I1 S1 D1 => ?_
  obtain ⟨ad0, rfl, isd0⟩ := isD_of I1.bh D1 hid
  refine ⟨ad0, rfl, isd0, ?_⟩
  refine hb F B1 H1 σ I1 _ fun v2 d2 B2 H2 es2 ⟨r, hr, hq⟩ I2 S2 D2 => ?_
  obtain ⟨ad, rv, e0, isd, g, od⟩ := dgq_of I2.bh (S2.eb.dp _ _ D1) D2 hr
  cases e0
  exact ⟨rv, g, q _ _ B2 H2 es2 hq I2 (S1.tr S2) (od.get .non)⟩
/-- d.get(k, x), d data -/
theorem vp_dget2 (hu : X.A.units + 1 < cLine) (h : VP X es a fun d es1 => isDt d = true ∧ VP X es1 k fun dk es2 => VP X es2 x fun dx es3 => ∃ r, dgetD d dk = some r ∧ Ψ (r.getD dx) es3) (m : M2 X a "get" apos k x cpos) : VP X es (.Call (.Attribute a "get" apos) [k, x] [] cpos) Ψ := fun F B H σ I Q q => by
  refine EX.of (pe_dget2Q hu pe_self pe_self pe_self m) ?_
  refine h F B H σ I _ fun v d B1 H1 es1 ⟨hid, hb⟩ I1 S1 D1 => ?_
  obtain ⟨ad0, rfl, isd0⟩ := isD_of I1.bh D1 hid
  refine ⟨ad0, rfl, isd0, ?_⟩
  refine hb F B1 H1 σ I1 _ fun v2 d2 B2 H2 es2 hb2 I2 S2 D2 => ?_
  refine hb2 F B2 H2 σ I2 _ fun v3 d3 B3 H3 es3 ⟨r, hr, hq⟩ I3 S3 D3 => ?_
  obtain ⟨ad, rv, e0, isd, g, od⟩ := dgq_of I3.bh (S3.eb.dp _ _ (S2.eb.dp _ _ D1)) (S3.eb.dp _ _ D2) hr
  cases e0
  exact ⟨rv, g, q _ _ B3 H3 es3 hq I3 ((S1.tr S2).tr S3) (od.get D3)⟩
/-! a dict of the def's own, in slot i -/
theorem En.at {F : Fm} {B H : Hp} {σ : L2.St} (I : En X F B H σ es) {i : Nat} {b : Bool} {c : Ow} (he : es[i]? = some (.own b c)) : ∃ (p : Addr) (o : HO), σ[i]? = some (some (.ref p)) ∧ B p = none ∧ ((b = true → F.H p = none) ∧ (b = false → p ∈ F.S)) ∧ H p = some o ∧ OwR X.K B o c := I.e.at he
theorem at_same {F : Fm} {B H B' H' : Hp} {σ : L2.St} {es' : List Sl} {i : Nat} {b b' : Bool} {c c' : Ow} (I : En X F B H σ es) (I' : En X F B' H' σ es') (he : es[i]? = some (.own b c)) (he' : es'[i]? = some (.own b' c')) :
    ∃ p o o', σ[i]? = some (some (.ref p)) ∧ H p = some o ∧ OwR X.K B o c ∧ H' p = some o' ∧ OwR X.K B' o' c' := by
  obtain ⟨p, o, a1, a2, a3, a4, a5⟩ := I.at he
  obtain ⟨p', o', b1, b2, b3, b4, b5⟩ := I'.at he'
  rw [a1] at b1; cases b1
  exact ⟨p, o, o', a1, a4, a5, b4, b5⟩
theorem isD_own {K : PySem.W.Frag} {B H : Hp} {p : Addr} {o : HO} {c : Ow} (ho : H p = some o) (hc : OwR K B o c) (h : isDt c.dt = true) : IsD H p := by
  cases hc with
  | l _ => cases h
  | obj _ _ => cases h
  | dK _ _ => exact .inl ⟨_, .inl ho⟩
  | dT _ _ => exact .inr ⟨_, .inl ho⟩
theorem vp_dget2O {i : Nat} {b0 : Bool} {c0 : Ow} (hu : X.A.units + 1 < cLine) (h0 : es[i]? = some (.own b0 c0)) (hd0 : isDt c0.dt = true) (h : VP X es k fun dk es1 => VP X es1 x fun dx es2 => es2 = es ∧ ∃ r, dgetD c0.dt dk = some r ∧ Ψ (r.getD dx) es2)
    (hN : X.N[i]? = some nm) (hv : Vis X.env.scope nm) (m : M2 X (.Name nm p) "get" apos k x cpos) (hd : (nm == ("__debug__" : Str)) = false) (hcd : (nm == ("__classdict__" : Str)) = false) : VP X es (.Call (.Attribute (.Name nm p) "get" apos) [k, x] [] cpos) Ψ := fun F B H σ I Q q => by
  refine EX.of (pe_dget2Q hu (pe_var hN hv hd hcd) pe_self pe_self m) ?_
  obtain ⟨ad, o, s1, b1, f1, g1, ow⟩ := I.at h0
  refine ⟨_, s1, ad, rfl, isD_own g1 ow hd0, ?_⟩
  refine h F B H σ I _ fun v2 d2 B2 H2 es2 hb2 I2 S2 D2 => ?_
  refine hb2 F B2 H2 σ I2 _ fun v3 d3 B3 H3 es3 ⟨e3, r, hr, hq⟩ I3 S3 D3 => ?_
  obtain ⟨ad', o1, o2, s2, g2, ow2, g3, ow3⟩ := at_same (i := i) I I3 h0 (by rw [e3]; exact h0)
  rw [s1] at s2; cases s2
  obtain ⟨rv, isd, g, od⟩ := dgq_own I3.bh g3 ow3 (S3.eb.dp _ _ D2) hr
  exact ⟨rv, g, q _ _ B3 H3 es3 hq I3 (S2.tr S3) (od.get D3)⟩
theorem vp_dinO {i : Nat} {b0 : Bool} {c0 : Ow} (hu : X.A.units + 1 < cLine) (h0 : es[i]? = some (.own b0 c0)) (h : VP X es k fun dk es1 => es1 = es ∧ ∃ r, dgetD c0.dt dk = some r ∧ Ψ (.bool r.isSome) es1)
    (hN : X.N[i]? = some nm) (hv : Vis X.env.scope nm) (hd : (nm == ("__debug__" : Str)) = false) (hcd : (nm == ("__classdict__" : Str)) = false) : VP X es (.Compare k [.In] [.Name nm p] pos) Ψ := fun F B H σ I Q q => by
  refine EX.of (pe_cmp (pc_dinQ hu pe_self (pe_var hN hv hd hcd))) ?_
  refine h F B H σ I _ fun v d B1 H1 es1 ⟨e1, r, hr, hq⟩ I1 S1 D1 => ?_
  obtain ⟨ad, o, s1, b1, f1, g1, ow⟩ := I1.at (by rw [e1]; exact h0)
  obtain ⟨rv, isd, g, od⟩ := dgq_own I1.bh g1 ow D1 hr
  exact ⟨_, s1, ad, rv, rfl, g, by rw [od.some]; exact q _ _ B1 H1 es1 hq I1 S1 (.bl _)⟩
theorem vp_dninO {i : Nat} {b0 : Bool} {c0 : Ow} (hu : X.A.units + 1 < cLine) (h0 : es[i]? = some (.own b0 c0)) (h : VP X es k fun dk es1 => es1 = es ∧ ∃ r, dgetD c0.dt dk = some r ∧ Ψ (.bool (!r.isSome)) es1)
    (hN : X.N[i]? = some nm) (hv : Vis X.env.scope nm) (hd : (nm == ("__debug__" : Str)) = false) (hcd : (nm == ("__classdict__" : Str)) = false) : VP X es (.Compare k [.NotIn] [.Name nm p] pos) Ψ := fun F B H σ I Q q => by
  refine EX.of (pe_cmp (pc_dnotinQ hu pe_self (pe_var hN hv hd hcd))) ?_
  refine h F B H σ I _ fun v d B1 H1 es1 ⟨e1, r, hr, hq⟩ I1 S1 D1 => ?_
  obtain ⟨ad, o, s1, b1, f1, g1, ow⟩ := I1.at (by rw [e1]; exact h0)
  obtain ⟨rv, isd, g, od⟩ := dgq_own I1.bh g1 ow D1 hr
  exact ⟨_, s1, ad, rv, rfl, g, by rw [od.some]; exact q _ _ B1 H1 es1 hq I1 S1 (.bl _)⟩
theorem vt_dinO {i : Nat} {b0 : Bool} {c0 : Ow} (hu : X.A.units + 1 < cLine) (h0 : es[i]? = some (.own b0 c0)) (h : VP X es k fun dk es1 => es1 = es ∧ ∃ r, dgetD c0.dt dk = some r ∧ Θ r.isSome es1)
    (hN : X.N[i]? = some nm) (hv : Vis X.env.scope nm) (hd : (nm == ("__debug__" : Str)) = false) (hcd : (nm == ("__classdict__" : Str)) = false) : VT X es (.Compare k [.In] [.Name nm p] pos) Θ := fun F B H σ I Q q => by
  refine TX.of (pt_cmp (pc_dinQ hu pe_self (pe_var hN hv hd hcd))) ?_
  refine h F B H σ I _ fun v d B1 H1 es1 ⟨e1, r, hr, hq⟩ I1 S1 D1 => ?_
  obtain ⟨ad, o, s1, b1, f1, g1, ow⟩ := I1.at (by rw [e1]; exact h0)
  obtain ⟨rv, isd, g, od⟩ := dgq_own I1.bh g1 ow D1 hr
  exact ⟨_, s1, ad, rv, rfl, g, _, rfl, by rw [od.some]; exact q _ B1 H1 es1 hq I1 S1⟩
theorem vt_dninO {i : Nat} {b0 : Bool} {c0 : Ow} (hu : X.A.units + 1 < cLine) (h0 : es[i]? = some (.own b0 c0)) (h : VP X es k fun dk es1 => es1 = es ∧ ∃ r, dgetD c0.dt dk = some r ∧ Θ (!r.isSome) es1)
    (hN : X.N[i]? = some nm) (hv : Vis X.env.scope nm) (hd : (nm == ("__debug__" : Str)) = false) (hcd : (nm == ("__classdict__" : Str)) = false) : VT X es (.Compare k [.NotIn] [.Name nm p] pos) Θ := fun F B H σ I Q q => by
  refine TX.of (pt_cmp (pc_dnotinQ hu pe_self (pe_var hN hv hd hcd))) ?_
  refine h F B H σ I _ fun v d B1 H1 es1 ⟨e1, r, hr, hq⟩ I1 S1 D1 => ?_
  obtain ⟨ad, o, s1, b1, f1, g1, ow⟩ := I1.at (by rw [e1]; exact h0)
  obtain ⟨rv, isd, g, od⟩ := dgq_own I1.bh g1 ow D1 hr
  exact ⟨_, s1, ad, rv, rfl, g, _, rfl, by rw [od.some]; exact q _ B1 H1 es1 hq I1 S1⟩
end
/-! ### stores -/
section
variable {κ : Type} [DecidableEq κ]
def putKs (ks : List κ) (k : κ) : List κ := if ks.any (fun j => decide (j = k)) then ks else ks ++ [k]
def setDs : List κ → List Dt → κ → Dt → List Dt
  | k' :: ks, d :: ds, k, e => (if k' = k then e else d) :: setDs ks ds k e
  | _, ds, _, _ => ds
def putDs (ks : List κ) (ds : List Dt) (k : κ) (e : Dt) : List Dt := if ks.any (fun j => decide (j = k)) then setDs ks ds k e else ds ++ [e]
variable {K : PySem.W.Frag} {B : Hp}
theorem zip_set (k : κ) (v : V) (e : Dt) : ∀ {ks : List κ} {xs : List V} {ds : List Dt}, ks.length = xs.length → DqAll K B xs ds → Dq K B v e →
    ∃ ys, (ks.zip xs).map (fun kv => if kv.1 = k then (kv.1, v) else kv) = ks.zip ys ∧ ks.length = ys.length ∧ DqAll K B ys (setDs ks ds k e)
  | [], [], [], _, _, _ => ⟨[], rfl, rfl, .nil⟩
  | k' :: ks, x :: xs, d :: ds, hl, .cons h t, hv => by
    obtain ⟨ys, h1, h2, h3⟩ := zip_set k v e (ks := ks) (xs := xs) (by simpa using hl) t hv
    refine ⟨(if k' = k then v else x) :: ys, ?_, by simpa using h2, ?_⟩
    · rw [List.zip_cons_cons, List.map_cons, h1, List.zip_cons_cons]
      congr 1
      by_cases z : k' = k
      · rw [if_pos z, if_pos z]
      · rw [if_neg z, if_neg z]
    · unfold setDs
      refine .cons ?_ h3
      by_cases z : k' = k
      · rw [if_pos z, if_pos z]; exact hv
      · rw [if_neg z, if_neg z]; exact h
theorem zip_any (k : κ) : ∀ {ks : List κ} {xs : List V}, ks.length = xs.length → ((ks.zip xs).any fun kv => decide (kv.1 = k)) = ks.any fun j => decide (j = k)
  | [], [], _ => rfl
  | k' :: ks, x :: xs, hl => by rw [List.zip_cons_cons, List.any_cons, List.any_cons, zip_any k (by simpa using hl)]
theorem zip_put (k : κ) (v : V) (e : Dt) {ks : List κ} {xs : List V} {ds : List Dt} (hl : ks.length = xs.length) (h : DqAll K B xs ds) (hv : Dq K B v e) :
    ∃ ys, putK (ks.zip xs) k v = (putKs ks k).zip ys ∧ (putKs ks k).length = ys.length ∧ DqAll K B ys (putDs ks ds k e) := by
  unfold putK putKs putDs
  rw [zip_any k hl]
  by_cases z : (ks.any fun j => decide (j = k)) = true
  · rw [if_pos z, if_pos z, if_pos z]; exact zip_set k v e hl h hv
  · rw [if_neg z, if_neg z, if_neg z]
    refine ⟨xs ++ [v], ?_, by simp [hl], dpa_app h (.cons hv .nil)⟩
    rw [List.zip_append hl]; rfl
end
section
variable {X : Cy} {es : List Sl} {P : Po} {a b c e k x : Expr} {rest : List Stmt} {pos p p2 pos' cpos : Pos} {nm : Str}
/-- d[k] = e, d a dict of the def's own with plain keys -/
theorem wb_dput {i : Nat} {b0 : Bool} {ks : List Key} {ds : List Dt} (hu : X.A.units + 1 < cLine) (h0 : es[i]? = some (.own b0 (.dK ks ds)))
    (h : VP X es e fun d es1 => es1 = es ∧ VP X es k fun dk es2 => es2 = es ∧ ∃ kk, keyOf dk = some kk ∧ ks.length < 100000 ∧ WB X (es.set i (.own b0 (.dK (putKs ks kk) (putDs ks ds kk d)))) rest P)
    (hN : X.N[i]? = some nm) (hv : Vis X.env.scope nm) (hs : swapsWith e (some (.Subscript (.Name nm p) k pos')) pos.line X.env = pure false) (hd : (nm == ("__debug__" : Str)) = false) (hcd : (nm == ("__classdict__" : Str)) = false) :
    WB X es (.Assign [.Subscript (.Name nm p) k pos'] e pos :: rest) P := wb_cons (P := P) (show WS X es _ { P with nx := fun es1 => WB X es1 rest P } from fun F B H σ I D dn => by
  refine SX.of (ps_dput hu (pe_var hN hv hd hcd) pe_self pe_self hs) ?_
  refine h F B H σ I _ fun v d B1 H1 es1 ⟨e1, hb⟩ I1 S1 D1 => ?_
  subst e1
  obtain ⟨ad, o, s1, b1, f1, g1, ow⟩ := I1.at h0
  refine ⟨_, s1, ?_⟩
  refine hb F B1 H1 σ I1 _ fun v2 dk B2 H2 es2 ⟨e2, kk, hk, hl, hq⟩ I2 S2 D2 => ?_
  subst e2
  obtain ⟨ad', o', s2, b2, f2, g2, ow2⟩ := I2.at h0
  rw [s1] at s2; cases s2
  cases ow2 with
  | dK hlen ha =>
    obtain ⟨ys, y1, y2, y3⟩ := zip_put kk v d hlen ha (S2.eb.dp _ _ D1)
    have ek := key_of_d D2 hk
    subst ek
    refine ⟨ad, _, rfl, .inl ⟨_, kk, g2, rfl, ?_, rfl⟩, ?_⟩
    · rw [List.length_zip, ← hlen, Nat.min_self]
      exact Nat.lt_of_lt_of_le hl (by decide)
    · rw [y1]
      exact dn.nx _ B2 _ σ hq (I2.mutC h0 s1 (.dK y2 y3)) (S1.eb.tr S2.eb))
/-- d[(a, b)] = e, d a dict of the def's own with tuple keys -/
theorem wb_dputT {i : Nat} {b0 : Bool} {ks : List (List Key)} {ds : List Dt} {as : List Expr} {x1} (hu : X.A.units + 1 < cLine) (h0 : es[i]? = some (.own b0 (.dT ks ds)))
    (h : VP X es e fun d es1 => es1 = es ∧ VA X es as fun dk es2 => es2 = es ∧ dk.length ≤ 100000 ∧ ∃ kk, keysOf dk = some kk ∧ ks.length < 100000 ∧ WB X (es.set i (.own b0 (.dT (putKs ks kk) (putDs ks ds kk d)))) rest P)
    (hN : X.N[i]? = some nm) (hv : Vis X.env.scope nm) (hs : swapsWith e (some (.Subscript (.Name nm p) (.Tuple as x1 p2) pos')) pos.line X.env = pure false) (hd : (nm == ("__debug__" : Str)) = false) (hcd : (nm == ("__classdict__" : Str)) = false) :
    WB X es (.Assign [.Subscript (.Name nm p) (.Tuple as x1 p2) pos'] e pos :: rest) P := wb_cons (P := P) (show WS X es _ { P with nx := fun es1 => WB X es1 rest P } from fun F B H σ I D dn => by
  refine SX.of (ps_dput hu (pe_var hN hv hd hcd) (pe_tup pa_self) pe_self hs) ?_
  refine h F B H σ I _ fun v d B1 H1 es1 ⟨e1, hb⟩ I1 S1 D1 => ?_
  subst e1
  obtain ⟨ad, o, s1, b1, f1, g1, ow⟩ := I1.at h0
  refine ⟨_, s1, ?_⟩
  refine hb F B1 H1 σ I1 _ fun vs dk B2 H2 es2 ⟨e2, hlk, kk, hk, hl, hq⟩ I2 S2 D2 => ?_
  subst e2
  refine ⟨by rw [dpa_len D2]; exact Nat.le_trans hlk (by decide), fun t ht => ?_⟩
  have I3 := I2.new (o := .tup vs) ht
  obtain ⟨ad', o', s2, b2, f2, g2, ow2⟩ := I3.at h0
  rw [s1] at s2; cases s2
  cases ow2 with
  | dT hlen ha =>
    obtain ⟨ys, y1, y2, y3⟩ := zip_put kk v d hlen ha ((I2.newB ht).dp _ _ (S2.eb.dp _ _ D1))
    have ek := keys_of_d D2 hk
    subst ek
    refine ⟨ad, _, rfl, .inr ⟨_, kk, t, g2, rfl, upd_same, ?_, rfl⟩, ?_⟩
    · rw [List.length_zip, ← hlen, Nat.min_self]
      exact Nat.lt_of_lt_of_le hl (by decide)
    · rw [y1]
      exact dn.nx _ _ _ σ hq (I3.mutC h0 s1 (.dT y2 y3)) ((S1.eb.tr S2.eb).tr (I2.newB ht)))
/-- x = {}, a dict of the def's own -/
theorem wb_dnewK (i : Nat) {p' : Pos} (h : WB X (es.set i (.own true (.dK [] []))) rest P) (hN : X.N.Nodup) (hi : X.N[i]? = some nm) (hx : L2.Loc X.env.scope nm) (hs : swapsWith (.Dict [] [] p2) (some (.Name nm p')) pos.line X.env = pure false)
    (hf : X.fn nm = true ∨ X.env.scope.names.lookup nm = some .local) : WB X es (.Assign [.Name nm p'] (.Dict [] [] p2) pos :: rest) P := wb_cons (P := P) (show WS X es _ { P with nx := fun es1 => WB X es1 rest P } from fun F B H σ I D dn => by
  refine SX.of (ps_set hN hi hx pe_dnewK hs hf) ?_
  exact fun l hl => dn.nx _ B _ _ h (I.putN hl (.dK (ks := []) (xs := []) rfl .nil)) (Ext.rfl' B))
theorem wb_dnewT (i : Nat) {p' : Pos} (h : WB X (es.set i (.own true (.dT [] []))) rest P) (hN : X.N.Nodup) (hi : X.N[i]? = some nm) (hx : L2.Loc X.env.scope nm) (hs : swapsWith (.Dict [] [] p2) (some (.Name nm p')) pos.line X.env = pure false)
    (hf : X.fn nm = true ∨ X.env.scope.names.lookup nm = some .local) : WB X es (.Assign [.Name nm p'] (.Dict [] [] p2) pos :: rest) P := wb_cons (P := P) (show WS X es _ { P with nx := fun es1 => WB X es1 rest P } from fun F B H σ I D dn => by
  refine SX.of (ps_set hN hi hx pe_dnewT hs hf) ?_
  exact fun l hl => dn.nx _ B _ _ h (I.putN hl (.dT (ks := []) (xs := []) rfl .nil)) (Ext.rfl' B))
/-- a dict of the def's own is from now on data: it is locked -/
theorem wb_frzD {sts : List Stmt} {i : Nat} {c : Ow} (he : es[i]? = some (.own true c)) (hd : isDt c.dt = true) (h : WB X (es.set i (.fz c.dt)) sts P) : WB X es sts P := fun F B H σ I D d pins s J => by
  obtain ⟨p, o, s1, b1, f1, g1, ow⟩ := I.at he
  cases ow with
  | l _ => cases hd
  | obj _ _ => cases hd
  | dK hl ha =>
    obtain ⟨od, J'⟩ := J.lock g1 trivial
    obtain ⟨B', eB, I'⟩ := I.freezeC he s1 fun B' eB hp => .dK hl hp (eB.dpa _ _ ha)
    exact h F B' _ σ I' D (d.up eB) pins s J'
  | dT hl ha =>
    obtain ⟨od, J'⟩ := J.lock g1 trivial
    obtain ⟨B', eB, I'⟩ := I.freezeC he s1 fun B' eB hp => .dT hl hp (eB.dpa _ _ ha)
    exact h F B' _ σ I' D (d.up eB) pins s J'
end
end Lv

set_option Elab.async false
set_option linter.all false
set_option maxRecDepth 100000
set_option maxHeartbeats 4000000
/-! What is walked, as a list of data; comprehensions and loops over anything that is walked. -/
namespace Lv
open PySem PySem.Spec PyProof.Rows L2
/-- an iterator gives the data xs, one after the other -/
def Items (K : PySem.W.Frag) (J : It) (B1 : Hp) (xs : List Dt) : Prop := ∀ (i : Nat) (B H : Hp), Ext B1 B → Ext B H →
  (∀ d, xs[i]? = some d → J.go i H ∧ ∀ x H', J.yld i H x H' → (H' = H ∧ Dq K B x d) ∨ ∃ p vs ds, H p = none ∧ x = .ref p ∧ H' = upd H p (.tup vs) ∧ d = .tuple ds ∧ DqAll K B vs ds) ∧ (xs.length ≤ i → J.stop i H)
def VI (X : Cy) (tg : Expr) (es : List Sl) (it : Expr) (Λ : List Dt → List Sl → Prop) : Prop := ∃ wi : TI, PI X tg it wi ∧ ∀ (F : Fm) (B H : Hp) (σ : L2.St), En X F B H σ es → ∀ R : It → Hp → Prop,
  (∀ (J : It) (xs : List Dt) (B' H' : Hp) (es' : List Sl), Λ xs es' → En X F B' H' σ es' → Stp σ B H es B' H' es' → Items X.K J B' xs → R J H') → wi σ H R
section
variable {X : Cy} {es : List Sl} {a b e iter tg elt : Expr} {ifs : List Expr} {Λ : List Dt → List Sl → Prop} {p pos : Pos} {scope : Scope} {f : Dt → List Sl → (List Sl → Prop) → Prop}
theorem items_l {K : PySem.W.Frag} {B1 : Hp} {a : Addr} {vs : List V} {xs : List Dt} (h : SqL K B1 a vs) (D : DqAll K B1 vs xs) : Items K (Itl K a) B1 xs := fun i B H e1 e2 => by
  have q : SqL K H a vs := e2.sql (e1.sql h)
  refine ⟨fun d hd => ?_, fun hl => ⟨vs, q, by rw [dpa_len D]; exact hl⟩⟩
  obtain ⟨v, hv, dv⟩ := dpa_get D hd
  exact ⟨⟨vs, v, q, hv⟩, fun x H' ⟨e, y⟩ => .inl ⟨e, by have z := y vs q; rw [hv] at z; cases z; exact e1.dp _ _ dv⟩⟩
theorem items_t {K : PySem.W.Frag} {B1 : Hp} {a : Addr} {vs : List V} {xs : List Dt} (h : SqT K B1 a vs) (D : DqAll K B1 vs xs) : Items K (Itt K a) B1 xs := fun i B H e1 e2 => by
  have q : SqT K H a vs := e2.sqt (e1.sqt h)
  refine ⟨fun d hd => ?_, fun hl => ⟨vs, q, by rw [dpa_len D]; exact hl⟩⟩
  obtain ⟨v, hv, dv⟩ := dpa_get D hd
  exact ⟨⟨vs, v, q, hv⟩, fun x H' ⟨e, y⟩ => .inl ⟨e, by have z := y vs q; rw [hv] at z; cases z; exact e1.dp _ _ dv⟩⟩
theorem items_r {K : PySem.W.Frag} {B1 : Hp} {lo : Int} {n : Nat} : Items K (Itr lo n) B1 (rng lo n) := fun i B H e1 e2 => by
  refine ⟨fun d hd => ?_, fun hl => by rw [rng_len] at hl; exact hl⟩
  have hi : i < n := by
    have := (List.getElem?_eq_some_iff.mp hd).1
    rwa [rng_len] at this
  rw [rng_get hi] at hd; cases hd
  exact ⟨hi, fun x H' ⟨e, y⟩ => .inl ⟨e, by subst y; exact .int _⟩⟩
/-- the tuples of zip -/
def zips : List Dt → List Dt → List Dt
  | x :: xs, y :: ys => .tuple [x, y] :: zips xs ys
  | _, _ => []
theorem zips_len : ∀ xs ys : List Dt, (zips xs ys).length = min xs.length ys.length
  | x :: xs, y :: ys => by simp [zips, zips_len xs ys]
  | [], ys => by simp [zips]
  | x :: xs, [] => by simp [zips]
theorem zips_get : ∀ {xs ys : List Dt} {i : Nat} {d : Dt}, (zips xs ys)[i]? = some d → ∃ x y, xs[i]? = some x ∧ ys[i]? = some y ∧ d = .tuple [x, y]
  | x :: xs, y :: ys, 0, d, h => by simp [zips] at h; exact ⟨x, y, rfl, rfl, h.symm⟩
  | x :: xs, y :: ys, i + 1, d, h => by
    obtain ⟨u, w, h1, h2, h3⟩ := zips_get (xs := xs) (ys := ys) (i := i) (by simpa [zips] using h)
    exact ⟨u, w, by simpa using h1, by simpa using h2, h3⟩
  | [], ys, i, d, h => by simp [zips] at h
  | x :: xs, [], i, d, h => by simp [zips] at h
theorem items_zl {K : PySem.W.Frag} {B1 : Hp} {a b : Addr} {vs us : List V} {xs ys : List Dt} (h : SqL K B1 a vs) (D : DqAll K B1 vs xs) (h2 : SqL K B1 b us) (D2 : DqAll K B1 us ys) : Items K (Itz K a b) B1 (zips xs ys) := fun i B H e1 e2 => by
  have q : SqL K H a vs := e2.sql (e1.sql h)
  have q2 : SqL K H b us := e2.sql (e1.sql h2)
  refine ⟨fun d hd => ?_, fun hl => ⟨vs, us, q, q2, by rw [dpa_len D, dpa_len D2]; rw [zips_len] at hl; omega⟩⟩
  obtain ⟨x, y, hx, hy, rfl⟩ := zips_get hd
  obtain ⟨v, hv, dv⟩ := dpa_get D hx
  obtain ⟨u, hu, du⟩ := dpa_get D2 hy
  refine ⟨⟨vs, us, v, u, q, q2, hv, hu⟩, fun z H' ⟨T, x', y', e, hT, eH, y1, y2⟩ => .inr ⟨T, [x', y'], [x, y], hT, e, eH, rfl, ?_⟩⟩
  have z1 := y1 vs q; rw [hv] at z1; cases z1
  have z2 := y2 us q2; rw [hu] at z2; cases z2
  exact .cons (e1.dp _ _ dv) (.cons (e1.dp _ _ du) .nil)
theorem items_zt {K : PySem.W.Frag} {B1 : Hp} {a b : Addr} {vs us : List V} {xs ys : List Dt} (h : SqT K B1 a vs) (D : DqAll K B1 vs xs) (h2 : SqT K B1 b us) (D2 : DqAll K B1 us ys) : Items K (RZ.ItzT K a b) B1 (zips xs ys) := fun i B H e1 e2 => by
  have q : SqT K H a vs := e2.sqt (e1.sqt h)
  have q2 : SqT K H b us := e2.sqt (e1.sqt h2)
  refine ⟨fun d hd => ?_, fun hl => ⟨vs, us, q, q2, by rw [dpa_len D, dpa_len D2]; rw [zips_len] at hl; omega⟩⟩
  obtain ⟨x, y, hx, hy, rfl⟩ := zips_get hd
  obtain ⟨v, hv, dv⟩ := dpa_get D hx
  obtain ⟨u, hu, du⟩ := dpa_get D2 hy
  refine ⟨⟨vs, us, v, u, q, q2, hv, hu⟩, fun z H' ⟨T, x', y', e, hT, eH, y1, y2⟩ => .inr ⟨T, [x', y'], [x, y], hT, e, eH, rfl, ?_⟩⟩
  have z1 := y1 vs q; rw [hv] at z1; cases z1
  have z2 := y2 us q2; rw [hu] at z2; cases z2
  exact .cons (e1.dp _ _ dv) (.cons (e1.dp _ _ du) .nil)
/-- the tuples of enumerate -/
def enums : Nat → List Dt → List Dt
  | _, [] => []
  | n, x :: xs => .tuple [.int n, x] :: enums (n + 1) xs
theorem enums_len : ∀ (n : Nat) (xs : List Dt), (enums n xs).length = xs.length
  | _, [] => rfl
  | n, x :: xs => by simp [enums, enums_len (n + 1) xs]
theorem enums_get : ∀ {n : Nat} {xs : List Dt} {i : Nat} {d : Dt}, (enums n xs)[i]? = some d → ∃ x, xs[i]? = some x ∧ d = .tuple [.int ((n + i : Nat) : Int), x]
  | n, [], i, d, h => by simp [enums] at h
  | n, x :: xs, 0, d, h => by simp [enums] at h; exact ⟨x, rfl, h.symm⟩
  | n, x :: xs, i + 1, d, h => by
    obtain ⟨u, h1, h2⟩ := enums_get (n := n + 1) (xs := xs) (i := i) (by simpa [enums] using h)
    exact ⟨u, by simpa using h1, by rw [h2, show n + 1 + i = n + (i + 1) from by omega]⟩
theorem items_e {K : PySem.W.Frag} {B1 : Hp} {a : Addr} {vs : List V} {xs : List Dt} (h : SqL K B1 a vs) (D : DqAll K B1 vs xs) : Items K (Ite K a) B1 (enums 0 xs) := fun i B H e1 e2 => by
  have q : SqL K H a vs := e2.sql (e1.sql h)
  refine ⟨fun d hd => ?_, fun hl => ⟨vs, q, by rw [dpa_len D]; rw [enums_len] at hl; exact hl⟩⟩
  obtain ⟨x, hx, rfl⟩ := enums_get hd
  obtain ⟨v, hv, dv⟩ := dpa_get D hx
  refine ⟨⟨vs, v, q, hv⟩, fun z H' ⟨T, x', e, hT, eH, y1⟩ => .inr ⟨T, _, _, hT, e, eH, rfl, ?_⟩⟩
  have z1 := y1 vs q; rw [hv] at z1; cases z1
  rw [Nat.zero_add]
  exact .cons (.int _) (.cons (e1.dp _ _ dv) .nil)

/-! ### what is walked -/
theorem pi_seq {X : Cx} {l : Expr} {tl : TE} (hl : PE X l tl) : PI X tg l (fun σ H R => tl σ H fun x H1 => ∃ a, x = .ref a ∧ (((∃ xs, SqL X.K H1 a xs) ∧ R (Itl X.K a) H1) ∨ ((∃ xs, SqT X.K H1 a xs) ∧ R (Itt X.K a) H1))) := by
  refine ⟨fun pins s σ H R I h => ?_⟩
  refine thn (hl.run pins s σ H _ I h) fun v s1 ⟨x, H1, I1, r1, q1⟩ => ?_
  obtain ⟨a, e, q⟩ := q1
  subst e
  cases r1
  rcases q with ⟨⟨xs, hq⟩, q⟩ | ⟨⟨xs, hq⟩, q⟩
  · obtain ⟨its, rv, p, hz⟩ := I1.list hq
    refine wpAny_pyIter_list p.isList ?_
    refine ⟨s1.heap.objs.size, [s1.heap.objs.size], _, _, H1, rfl, I1.kept (t' := s1.toks) fun b o e => Heap.get?_push_of_some _ e, turn_list a _, ⟨_, Heap.get?_push_size _ rfl, rfl, rfl⟩, fun b hb => ?_, q⟩
    have e : b = s1.heap.objs.size := by simpa using hb
    subst e
    exact I1.fpOk (Nat.le_refl _) (I1.hok.fresh (Nat.le_refl _))
  · obtain ⟨its, rv, p, hz⟩ := I1.tuple hq
    refine wpAny_pyIter_tuple (show s1.heap.IsTuple a its.toArray from p) ?_
    refine ⟨s1.heap.objs.size, [s1.heap.objs.size], _, _, H1, rfl, I1.kept (t' := s1.toks) fun b o e => Heap.get?_push_of_some _ e, turn_tuple a _, ⟨_, Heap.get?_push_size _ rfl, rfl, rfl⟩, fun b hb => ?_, q⟩
    have e : b = s1.heap.objs.size := by simpa using hb
    subst e
    exact I1.fpOk (Nat.le_refl _) (I1.hok.fresh (Nat.le_refl _))
theorem vi_seq (h : VP X es e fun d es1 => ∃ xs, SeqD d xs ∧ Λ xs es1) : VI X tg es e Λ := ⟨_, pi_seq pe_self, fun F B H σ I R q => by
  refine h F B H σ I _ fun v d B1 H1 es1 ⟨xs, hd, hq⟩ I1 S1 D1 => ?_
  obtain ⟨a, ys, rfl, hsq, D⟩ := seq_of D1 hd
  rcases hsq with hsq | hsq
  · exact ⟨a, rfl, .inl ⟨⟨ys, I1.bh.sql hsq⟩, q _ xs B1 H1 es1 hq I1 S1 (items_l hsq D)⟩⟩
  · exact ⟨a, rfl, .inr ⟨⟨ys, I1.bh.sqt hsq⟩, q _ xs B1 H1 es1 hq I1 S1 (items_t hsq D)⟩⟩⟩
theorem vi_range1 {pr : Pos} (hm : X.mg "range" = none) (hg : Gl X "range") (h : VP X es a fun d es1 => ∃ n, d = .int n ∧ n < 2 ^ 62 ∧ -(2 ^ 62) ≤ n ∧ Λ (rng 0 n.toNat) es1) (he : starEach [a] X.env = [(false, eval a X.env)]) :
    VI X tg es (.Call (.Name "range" pr) [a] [] p) Λ := ⟨_, pi_range1 hg hm (pa_cons pe_self pa_nil he) he, fun F B H σ I R q => by
  refine h F B H σ I _ fun v d B1 H1 es1 ⟨n, hd, n1, n2, hq⟩ I1 S1 D1 => ?_
  subst hd; cases D1
  exact ⟨n, rfl, n2, n1, q _ _ B1 H1 es1 hq I1 S1 items_r⟩⟩
theorem vi_range2 {pr : Pos} (hm : X.mg "range" = none) (hg : Gl X "range") (h : VP X es a fun d es1 => ∃ lo, d = .int lo ∧ VP X es1 b fun d2 es2 => ∃ n, d2 = .int n ∧ (-(2 ^ 62) ≤ lo ∧ lo < 2 ^ 62 ∧ -(2 ^ 62) ≤ n ∧ n < 2 ^ 62) ∧ Λ (rng lo (n - lo).toNat) es2)
    (he : starEach [a, b] X.env = [(false, eval a X.env), (false, eval b X.env)]) (he2 : starEach [b] X.env = [(false, eval b X.env)]) :
    VI X tg es (.Call (.Name "range" pr) [a, b] [] p) Λ := ⟨_, pi_range2 hg hm (pa_cons pe_self (pa_cons pe_self pa_nil he2) (by rw [he, he2])) he he2, fun F B H σ I R q => by
  refine h F B H σ I _ fun v d B1 H1 es1 ⟨lo, hd, hb⟩ I1 S1 D1 => ?_
  subst hd; cases D1
  refine hb F B1 H1 σ I1 _ fun v2 d2 B2 H2 es2 ⟨n, hd2, hn, hq⟩ I2 S2 D2 => ?_
  subst hd2; cases D2
  exact ⟨lo, n, rfl, hn, q _ _ B2 H2 es2 hq I2 (S1.tr S2) items_r⟩⟩
theorem vi_zip {ts : List Expr} {kk : Nat} {tpos pr : Pos} (hm : X.mg "zip" = none) (hg : Gl X "zip") (h : VP X es a fun d es1 => VP X es1 b fun d2 es2 => ∃ xs ys, ((d = .list xs ∧ d2 = .list ys) ∨ (d = .tuple xs ∧ d2 = .tuple ys)) ∧ Λ (zips xs ys) es2)
    (he : starEach [a, b] X.env = (false, eval a X.env) :: starEach [b] X.env) (he2 : starEach [b] X.env = (false, eval b X.env) :: starEach [] X.env) (hpl : (backTo p (starEach [b] X.env)).any (·.1) = false) :
    VI X (.Tuple ts kk tpos) es (.Call (.Name "zip" pr) [a, b] [] p) Λ := ⟨_, RZ.pi_zipA hg hm (pa_cons pe_self (pa_cons pe_self pa_nil he2) he) he hpl, fun F B H σ I R q => by
  refine h F B H σ I _ fun v d B1 H1 es1 hb I1 S1 D1 => ?_
  refine hb F B1 H1 σ I1 _ fun v2 d2 B2 H2 es2 ⟨xs, ys, hd, hq⟩ I2 S2 D2 => ?_
  have D1' := S2.eb.dp _ _ D1
  rcases hd with ⟨rfl, rfl⟩ | ⟨rfl, rfl⟩
  · cases D1' with
    | lst l1 l2 =>
      cases D2 with
      | lst l3 l4 => exact ⟨_, _, _, _, rfl, .inl ⟨.inl (.inl (I2.bh _ _ l1)), .inl (.inl (I2.bh _ _ l3)), q _ _ B2 H2 es2 hq I2 (S1.tr S2) (items_zl (.inl (.inl l1)) l2 (.inl (.inl l3)) l4)⟩⟩
  · cases D1' with
    | tup l1 l2 =>
      cases D2 with
      | tup l3 l4 => exact ⟨_, _, _, _, rfl, .inr ⟨I2.bh.sqt l1, I2.bh.sqt l3, q _ _ B2 H2 es2 hq I2 (S1.tr S2) (items_zt l1 l2 l3 l4)⟩⟩⟩
theorem vi_enum {ts : List Expr} {kk : Nat} {tpos pr : Pos} (hm : X.mg "enumerate" = none) (hg : Gl X "enumerate") (h : VP X es a fun d es1 => ∃ xs, (d = .list xs ∨ d = .scr xs) ∧ Λ (enums 0 xs) es1) (he : starEach [a] X.env = [(false, eval a X.env)]) :
    VI X (.Tuple ts kk tpos) es (.Call (.Name "enumerate" pr) [a] [] p) Λ := ⟨_, pi_enum hg hm (pa_cons pe_self pa_nil he) he, fun F B H σ I R q => by
  refine h F B H σ I _ fun v d B1 H1 es1 ⟨xs, hd, hq⟩ I1 S1 D1 => ?_
  rcases hd with rfl | rfl
  · cases D1 with
    | lst l1 l2 => exact ⟨_, _, rfl, .inl (.inl (I1.bh _ _ l1)), q _ _ B1 H1 es1 hq I1 S1 (items_e (.inl (.inl l1)) l2)⟩
  · cases D1 with
    | scr l1 l2 => exact ⟨_, _, rfl, I1.bh.sql l1, q _ _ B1 H1 es1 hq I1 S1 (items_e l1 l2)⟩⟩

/-! ### a comprehension over anything -/
theorem lc_go {t : TG} {vs : List Nat} {xs : List Dt} {F : Fm} {B1 H1 : Hp} {σ : L2.St} {es1 : List Sl} {J : It} {D : Addr} {Iv : Nat → List Dt → List Sl → Prop} {Qd : Hp → Prop} (I1 : En X F B1 H1 σ es1) (hD : H1 D = none) (nw : noOw es1 vs) (hxs : xs.length ≤ 100000)
    (q1 : ∀ (F : Fm) (B H : Hp) (σ : L2.St) (es : List Sl) (v : V) (d : Dt), En X F B H σ es → Dq X.K B v d → noOw es vs → ∀ (Q : L2.St → Hp → Prop) (N : List Sl → Prop), f d es N →
      (∀ (es' : List Sl) (σ' : L2.St), N es' → En X F B H σ' es' → wipe σ' vs = wipe σ vs → (∀ a, NotOwn σ es a → NotOwn σ' es' a) → Shp es es' → Q σ' H) → t v σ H Q)
    (it : Items X.K J B1 xs) (h0 : Iv 0 [] (wipeE es1 vs))
    (ht : ∀ (i : Nat) (x : Dt) (acc : List Dt) (es2 : List Sl), xs[i]? = some x → Iv i acc es2 → f x es2 fun es3 => KX X scope fun X' => VTs X' es3 ifs fun b es4 =>
      (b = true → KX X scope fun X' => VP X' es4 elt fun y es5 => Iv (i + 1) (acc ++ [y]) (wipeE es5 vs)) ∧ (b = false → Iv (i + 1) acc (wipeE es4 vs)))
    (hend : ∀ H2, CS X F vs σ B1 H1 es1 D xs.length H2 Iv → Qd H2) :
    ∃ W : Nat → Nat → Hp → Prop, (∃ m, W 0 m (upd H1 D (.lst []))) ∧ ∀ i m H, W i m H →
      (J.stop i H ∧ Qd H) ∨ (J.go i H ∧ ∃ Nx : Hp → Prop, (∀ H', Nx H' → ∃ m', m' < m ∧ W (i + 1) m' H') ∧ ∀ x H', J.yld i H x H' → t x (wipe σ vs) H' fun σ2 H2 => wipe σ2 vs = wipe σ vs ∧ TTk X scope ifs σ2 H2 fun b H3 =>
        if b = true then TEk X scope elt σ2 H3 fun y H4 => ∃ acc, H4 D = some (.lst acc) ∧ acc.length < sizeLine ∧ Nx (upd H4 D (.lst (acc ++ [y]))) else Nx H3) := by
  refine ⟨fun i m H2 => CS X F vs σ B1 H1 es1 D i H2 Iv ∧ i ≤ xs.length ∧ m = xs.length - i, ⟨xs.length, cs_start I1 hD h0, Nat.zero_le _, by simp⟩, ?_⟩
  rintro i m H2 ⟨cs, hi, rfl⟩
  obtain ⟨B2, c⟩ := cs.ex
  by_cases hlt : i < xs.length
  · have hx : xs[i]? = some xs[i] := List.getElem?_eq_getElem hlt
    obtain ⟨hgo, hy⟩ := (it i B2 H2 c.ext.1 c.ext.2).1 _ hx
    refine .inr ⟨hgo, fun H' => CS X F vs σ B1 H1 es1 D (i + 1) H' Iv, fun H' c' => ⟨xs.length - (i + 1), by omega, c', hlt, rfl⟩, fun x H' y => ?_⟩
    rcases hy x H' y with ⟨rfl, dx⟩ | ⟨p, us, ds, hp, rfl, rfl, ed, Du⟩
    · exact cs_turnB I1 hD nw q1 c (by omega) dx (fun acc es2 hI => ht i _ acc es2 hx hI)
    · obtain ⟨c', eB⟩ := c.new (o := .tup us) hp
      refine cs_turnB I1 hD nw q1 c' (by omega) ?_ (fun acc es2 hI => ht i _ acc es2 hx hI)
      rw [ed]
      exact .tup (.inl (.inl upd_same)) (eB.dpa _ _ Du)
  · have e : i = xs.length := by omega
    subst e
    exact .inl ⟨(it _ B2 H2 c.ext.1 c.ext.2).2 (Nat.le_refl _), hend H2 cs⟩
theorem vp_lcG {Ψ : Dt → List Sl → Prop} (own : List (Str × Nat)) (hc : X.calm = true) (hN : X.N.Nodup) (ok : BlkOk X.N X.env.scope scope own) (g : GTk X scope (own.map (·.2)) tg f)
    (h : VI X tg es iter fun xs es1 => CompAsk X scope (own.map (·.2)) ifs elt f xs es1 Ψ) (hs : ∀ x, foldedSetIterable iter X.env x = pure x) :
    VP X es (.ListComp elt [⟨tg, iter, ifs, 0⟩] scope pos) Ψ := fun F B H σ I Q q => by
  obtain ⟨t, p1, q1⟩ := g
  obtain ⟨wi, hpi, hw⟩ := h
  refine EX.of (pe_lc (te := TEk X scope elt) (tt := TTk X scope ifs) hc hN hpi ok p1 (fun s0 H0 C cl fp => ⟨fun pins s σ H Q I h => h s0 H0 C cl fp pins s I⟩) (fun s0 H0 C cl fp => ⟨fun pins s σ H Q I h => h s0 H0 C cl fp pins s I⟩) hs) ?_
  refine hw F B H σ I _ fun J xs B1 H1 es1 ⟨nw, hxs, Iv, h0, ht, hn⟩ I1 S1 it D hD => ?_
  exact lc_go I1 hD nw hxs q1 it h0 ht fun H2 cs => cs_end I1 hD nw cs hn q S1

/-- the end of a comprehension whose list is the def's own -/
theorem cs_endL {vs : List Nat} {F : Fm} {B1 H1 : Hp} {σ : L2.St} {es1 : List Sl} {D : Addr} {Iv : Nat → List Dt → List Sl → Prop} {B H : Hp} {es : List Sl} {Λ : List Dt → List Sl → Prop} {Q : VK} {n : Nat} (I : En X F B1 H1 σ es1) (hD : H1 D = none) (nw : noOw es1 vs) {H2 : Hp} (cs : CS X F vs σ B1 H1 es1 D n H2 Iv)
    (hn : ∀ (acc : List Dt) (es2 : List Sl), Iv n acc es2 → Λ acc (mrg vs 0 es2 es1))
    (q : ∀ (p : Addr) (xs : List V) (ds : List Dt) (B' H' : Hp) (es' : List Sl), Λ ds es' → En X F B' H' σ es' → Stp σ B H es B' H' es' → F.H p = none → B' p = none → H' p = some (.lst xs) → NotOwn σ es' p → DqAll X.K B' xs ds → Q (.ref p) H') (S1 : Stp σ B H es B1 H1 es1) : Q (.ref D) H2 := by
  obtain ⟨B2, c⟩ := cs.ex
  obtain ⟨es2, vsA, acc, hI, I2, e2, hd, Da, hl, sh, kp, sm, fr, bd⟩ := c.ex
  have hlen : es2.length = es1.length := by
    have a := I2.len
    rw [wipe_length] at a
    rw [← a]; exact I.len
  have gt : ∀ i, (mrg vs 0 es2 es1)[i]? = if i ∈ vs then (es1[i]?).map fzOnly else es2[i]? := fun i => by
    have := mrg_get vs es2 es1 0 i hlen
    rw [Nat.zero_add] at this
    exact this
  have owm : ∀ {i b} {ds : Ow}, (mrg vs 0 es2 es1)[i]? = some (.own b ds) → i ∉ vs ∧ es2[i]? = some (.own b ds) := fun {i b ds} e => by
    rw [gt] at e
    split at e
    · cases z : es1[i]? with
      | none => rw [z] at e; cases e
      | some x => rw [z] at e; cases x <;> cases e
    · rename_i ni
      exact ⟨ni, e⟩
  have J : En X F B2 H2 σ (mrg vs 0 es2 es1) := by
    refine ⟨?_, I.tk⟩
    refine ⟨I2.bh, I2.fb, I2.fh, I2.fr, I2.st, by rw [mrg_len vs es2 es1 0 hlen, hlen]; exact I.len, fun i d e => ?_, ?_⟩
    · rw [gt] at e
      split at e
      · cases z : es1[i]? with
        | none => rw [z] at e; cases e
        | some x =>
          rw [z] at e
          cases x with
          | fz d' =>
            cases e
            obtain ⟨v, h1, h2⟩ := I.fz i d z
            exact ⟨v, h1, e2.dp _ _ h2⟩
          | no => cases e
          | own _ _ => cases e
      · rename_i ni
        obtain ⟨v, h1, h2⟩ := I2.fz i d e
        rw [wipe_get, if_neg ni] at h1
        exact ⟨v, h1, h2⟩
    · obtain ⟨ad, h1, h2⟩ := I2.own
      refine ⟨ad, fun i b ds e => ?_, fun i j b c d1 d2 e1 e2 => ?_⟩
      · obtain ⟨ni, e'⟩ := owm e
        obtain ⟨a1, a2⟩ := h1 i b ds e'
        rw [wipe_get, if_neg ni] at a1
        exact ⟨a1, a2⟩
      · exact h2 i j b c d1 d2 (owm e1).2 (owm e2).2
  have shE : Shp es1 (mrg vs 0 es2 es1) := fun i b => by
    constructor
    · rintro ⟨ds, e⟩
      obtain ⟨ni, e'⟩ := owm e
      obtain ⟨d2, z⟩ := (sh i b).mp ⟨ds, e'⟩
      rw [wipeE_get, if_neg ni] at z
      exact ⟨d2, z⟩
    · rintro ⟨ds, e⟩
      have ni : i ∉ vs := fun z => nw i z b ds e
      obtain ⟨d2, z⟩ := (sh i b).mpr ⟨ds, by rw [wipeE_get, if_neg ni]; exact e⟩
      exact ⟨d2, by rw [gt, if_neg ni]; exact z⟩
  have hno : NotOwn σ es1 D := cs_notOwn I hD
  have S2 : Stp σ B1 H1 es1 B2 H2 (mrg vs 0 es2 es1) := ⟨shE, e2, kp, sm, fr⟩
  exact q _ vsA acc B2 H2 _ (hn acc es2 hI) J (S1.tr S2) (I.fnone hD) bd hd (NotOwn.to hno shE) Da
/-- what a comprehension asks; its items to Λ -/
def CompAskL (X : Cy) (scope : Scope) (vs : List Nat) (ifs : List Expr) (elt : Expr) (f : Dt → List Sl → (List Sl → Prop) → Prop) (xs : List Dt) (es1 : List Sl) (Λ : List Dt → List Sl → Prop) : Prop :=
  noOw es1 vs ∧ xs.length ≤ 100000 ∧ ∃ Iv : Nat → List Dt → List Sl → Prop, Iv 0 [] (wipeE es1 vs) ∧
  (∀ (i : Nat) (x : Dt) (acc : List Dt) (es2 : List Sl), xs[i]? = some x → Iv i acc es2 → f x es2 fun es3 => KX X scope fun X' => VTs X' es3 ifs fun b es4 =>
    (b = true → KX X scope fun X' => VP X' es4 elt fun y es5 => Iv (i + 1) (acc ++ [y]) (wipeE es5 vs)) ∧ (b = false → Iv (i + 1) acc (wipeE es4 vs))) ∧
  (∀ (acc : List Dt) (es2 : List Sl), Iv xs.length acc es2 → Λ acc (mrg vs 0 es2 es1))
theorem vl_lcG (own : List (Str × Nat)) (hc : X.calm = true) (hN : X.N.Nodup) (ok : BlkOk X.N X.env.scope scope own) (g : GTk X scope (own.map (·.2)) tg f)
    (h : VI X tg es iter fun xs es1 => CompAskL X scope (own.map (·.2)) ifs elt f xs es1 Λ) (hs : ∀ x, foldedSetIterable iter X.env x = pure x) :
    VL X es (.ListComp elt [⟨tg, iter, ifs, 0⟩] scope pos) Λ := fun F B H σ I Q q => by
  obtain ⟨t, p1, q1⟩ := g
  obtain ⟨wi, hpi, hw⟩ := h
  refine EX.of (pe_lc (te := TEk X scope elt) (tt := TTk X scope ifs) hc hN hpi ok p1 (fun s0 H0 C cl fp => ⟨fun pins s σ H Q I h => h s0 H0 C cl fp pins s I⟩) (fun s0 H0 C cl fp => ⟨fun pins s σ H Q I h => h s0 H0 C cl fp pins s I⟩) hs) ?_
  refine hw F B H σ I _ fun J xs B1 H1 es1 ⟨nw, hxs, Iv, h0, ht, hn⟩ I1 S1 it D hD => ?_
  exact lc_go I1 hD nw hxs q1 it h0 ht fun H2 cs => cs_endL I1 hD nw cs hn q S1
variable {P : Po} {body rest : List Stmt} {x : Str}
/-- x = [..] on one line, x a local; the list is data -/
theorem ws_setLcG (i : Nat) {py spos : Pos} (own : List (Str × Nat)) (hc : X.calm = true) (hN : X.N.Nodup) (hy : X.N[i]? = some x) (hyl : X.env.scope.names.lookup x = some .local)
    (hsw : swapsWith (.ListComp elt [⟨tg, iter, ifs, 0⟩] scope pos) (some (.Name x py)) spos.line X.env = pure true)
    (ok : BlkOk X.N X.env.scope scope own) (g : GTk X scope (own.map (·.2)) tg f)
    (h : VI X tg es iter fun xs es1 => CompAsk X scope (own.map (·.2)) ifs elt f xs es1 fun d es2 => P.nx (es2.set i (.fz d))) (hs : ∀ x, foldedSetIterable iter X.env x = pure x) :
    WS X es (.Assign [.Name x py] (.ListComp elt [⟨tg, iter, ifs, 0⟩] scope pos) spos) P := fun F B H σ I D d => by
  obtain ⟨t, p1, q1⟩ := g
  obtain ⟨wi, hpi, hw⟩ := h
  refine SX.of (ps_setLc (te := TEk X scope elt) (tt := TTk X scope ifs) hc hN hy hyl hsw hpi ok p1 (fun s0 H0 C cl fp => ⟨fun pins s σ H Q I h => h s0 H0 C cl fp pins s I⟩) (fun s0 H0 C cl fp => ⟨fun pins s σ H Q I h => h s0 H0 C cl fp pins s I⟩) hs) ?_
  refine hw F B H σ I _ fun J xs B1 H1 es1 ⟨nw, hxs, Iv, h0, ht, hn⟩ I1 S1 it L hL => ?_
  exact lc_go (Qd := fun H2 => D.nx (σ.set i (some (.ref L))) H2) I1 hL nw hxs q1 it h0 ht fun H2 cs => cs_end (Q := fun v H2 => D.nx (σ.set i (some v)) H2) I1 hL nw cs hn (fun v dd B' H' es' hq I' S' D' => d.nx _ B' H' _ hq (I'.put D') S'.eb) S1
/-- the same; the list is the def's own -/
theorem ws_setLcO (i : Nat) {py spos : Pos} (own : List (Str × Nat)) (hc : X.calm = true) (hN : X.N.Nodup) (hy : X.N[i]? = some x) (hyl : X.env.scope.names.lookup x = some .local)
    (hsw : swapsWith (.ListComp elt [⟨tg, iter, ifs, 0⟩] scope pos) (some (.Name x py)) spos.line X.env = pure true)
    (ok : BlkOk X.N X.env.scope scope own) (g : GTk X scope (own.map (·.2)) tg f)
    (h : VI X tg es iter fun xs es1 => CompAskL X scope (own.map (·.2)) ifs elt f xs es1 fun ds es2 => P.nx (es2.set i (.own true (.l ds)))) (hs : ∀ x, foldedSetIterable iter X.env x = pure x) :
    WS X es (.Assign [.Name x py] (.ListComp elt [⟨tg, iter, ifs, 0⟩] scope pos) spos) P := fun F B H σ I D d => by
  obtain ⟨t, p1, q1⟩ := g
  obtain ⟨wi, hpi, hw⟩ := h
  refine SX.of (ps_setLc (te := TEk X scope elt) (tt := TTk X scope ifs) hc hN hy hyl hsw hpi ok p1 (fun s0 H0 C cl fp => ⟨fun pins s σ H Q I h => h s0 H0 C cl fp pins s I⟩) (fun s0 H0 C cl fp => ⟨fun pins s σ H Q I h => h s0 H0 C cl fp pins s I⟩) hs) ?_
  refine hw F B H σ I _ fun J xs B1 H1 es1 ⟨nw, hxs, Iv, h0, ht, hn⟩ I1 S1 it L hL => ?_
  exact lc_go (Qd := fun H2 => D.nx (σ.set i (some (.ref L))) H2) I1 hL nw hxs q1 it h0 ht fun H2 cs => cs_endL (Q := fun v H2 => D.nx (σ.set i (some v)) H2) I1 hL nw cs hn (fun l xs' ds B' H' es' hq I' S' fl bl gl nl D' => d.nx _ B' H' _ hq (I'.putP fl bl gl nl D') S'.eb) S1
/-- for over anything -/
theorem ws_forG (hp : PassesOwn (model X.prog X.w) X.A X.env X.xe) (hc : X.calm = true) (g : GT X tg f)
    (h : VI X tg es iter fun xs es1 => LoopAsk X body P f xs es1) (hs : ∀ x, foldedSetIterable iter X.env x = pure x) : WS X es (.For tg iter body [] pos) P := fun F B H σ I D d => by
  obtain ⟨t, p1, q1⟩ := g
  obtain ⟨wi, hpi, hw⟩ := h
  refine SX.of (ps_for hp hc hpi p1 pss_self hs) ?_
  refine hw F B H σ I _ fun J xs B1 H1 es1 ⟨Iv, h0, ht, hn⟩ I1 S1 it => ?_
  refine ⟨fun i m σ2 H2 => (∃ B2 es2, Iv i es2 ∧ En X F B2 H2 σ2 es2 ∧ Ext B1 B2) ∧ i ≤ xs.length ∧ m = xs.length - i, ⟨xs.length, ⟨B1, es1, h0, I1, Ext.rfl' B1⟩, Nat.zero_le _, by simp⟩, ?_⟩
  rintro i m σ2 H2 ⟨⟨B2, es2, hi, I2, e2⟩, hl, rfl⟩
  by_cases hlt : i < xs.length
  · have hx : xs[i]? = some xs[i] := List.getElem?_eq_getElem hlt
    obtain ⟨hgo, hy⟩ := (it i B2 H2 e2 I2.bh).1 _ hx
    refine .inr ⟨hgo, fun σ3 H3 => ∃ B3 es3, Iv (i + 1) es3 ∧ En X F B3 H3 σ3 es3 ∧ Ext B1 B3, fun σ3 H3 c' => ⟨xs.length - (i + 1), by omega, c', hlt, rfl⟩, fun y H' hy' => ?_⟩
    have go : ∀ (B3 H3 : Hp), En X F B3 H3 σ2 es2 → Ext B2 B3 → Dq X.K B3 y xs[i] → t y σ2 H3 fun σ4 H4 => SSX X body { D with nx := fun σ3 H3 => ∃ B3 es3, Iv (i + 1) es3 ∧ En X F B3 H3 σ3 es3 ∧ Ext B1 B3, ct := fun σ3 H3 => ∃ B3 es3, Iv (i + 1) es3 ∧ En X F B3 H3 σ3 es3 ∧ Ext B1 B3, bk := D.nx } σ4 H4 := fun B3 H3 I3 e3 Dx => by
      refine q1 F B3 H3 σ2 es2 y _ I3 Dx _ _ (ht i _ es2 hx hi) fun es3 σ3 h3 I3' => ?_
      exact h3 F B3 H3 σ3 I3' _ ⟨fun es4 B4 H4 σ4 h4 I4 e4 => ⟨B4, es4, h4, I4, (e2.tr e3).tr e4⟩, d.rt, fun es4 B4 H4 σ4 h4 I4 e4 => d.nx es4 B4 H4 σ4 h4 I4 (S1.eb.tr ((e2.tr e3).tr e4)), fun es4 B4 H4 σ4 h4 I4 e4 => ⟨B4, es4, h4, I4, (e2.tr e3).tr e4⟩, d.rl⟩
    rcases hy y H' hy' with ⟨rfl, dx⟩ | ⟨p, us, ds, hp, rfl, rfl, ed, Du⟩
    · exact go B2 _ I2 (Ext.rfl' B2) dx
    · refine go _ _ (I2.new hp) (I2.newB hp) ?_
      rw [ed]
      exact .tup (.inl (.inl upd_same)) ((I2.newB hp).dpa _ _ Du)
  · have e : i = xs.length := by omega
    subst e
    exact .inl ⟨(it _ B2 H2 e2 I2.bh).2 (Nat.le_refl _), d.nx es2 B2 H2 σ2 (hn es2 hi) I2 (S1.eb.tr e2)⟩
end
end Lv

set_option Elab.async false
set_option linter.all false
set_option maxRecDepth 100000
set_option maxHeartbeats 4000000
/-! Dicts that are walked. -/
namespace Lv
open PySem PySem.Spec PyProof.Rows L2
theorem zip_get_ks {κ : Type} : ∀ {ks : List κ} {xs : List V} {i : Nat} {k : κ}, ks.length = xs.length → ks[i]? = some k → ∃ v, (ks.zip xs)[i]? = some (k, v) ∧ xs[i]? = some v := fun {ks xs i k} hl h => by
  have hi := (List.getElem?_eq_some_iff.mp h).1
  have hx : i < xs.length := by omega
  exact ⟨xs[i], List.getElem?_zip_eq_some.mpr ⟨h, List.getElem?_eq_getElem hx⟩, List.getElem?_eq_getElem hx⟩
theorem keyD_dq {K : PySem.W.Frag} {B : Hp} (k : Key) : Dq K B (kV k) (keyD k) := by
  cases k with
  | inl i => exact .int i
  | inr s => exact .str s
theorem items_dk {K : PySem.W.Frag} {B1 : Hp} {a : Addr} {od : Obj} {ks : List Key} {xs : List V} (hl : ks.length = xs.length) (h : B1 a = some (.frz od (.dK (ks.zip xs)))) : Items K (Itk a od (ks.zip xs)) B1 (ks.map keyD) := fun i B H e1 e2 => by
  have q := e2 _ _ (e1 _ _ h)
  have zl : (ks.zip xs).length = ks.length := by rw [List.length_zip, ← hl, Nat.min_self]
  refine ⟨fun d hd => ?_, fun hi => ⟨q, by rw [zl]; simpa using hi⟩⟩
  rw [List.getElem?_map] at hd
  obtain ⟨k, hk, rfl⟩ := Option.map_eq_some_iff.mp hd
  obtain ⟨v, hz, _⟩ := zip_get_ks hl hk
  refine ⟨⟨q, by rw [zl]; exact (List.getElem?_eq_some_iff.mp hk).1⟩, fun x H' ⟨e, k', v', hk', ex⟩ => .inl ⟨e, ?_⟩⟩
  rw [hz] at hk'; cases hk'
  rw [ex]; exact keyD_dq k
/-- the pairs of items() -/
def pairsD : List Key → List Dt → List Dt
  | k :: ks, d :: ds => .tuple [keyD k, d] :: pairsD ks ds
  | _, _ => []
theorem pairsD_len : ∀ {ks : List Key} {ds : List Dt}, ks.length = ds.length → (pairsD ks ds).length = ks.length
  | [], [], _ => rfl
  | k :: ks, d :: ds, h => by simp [pairsD, pairsD_len (ks := ks) (ds := ds) (by simpa using h)]
theorem pairsD_get : ∀ {ks : List Key} {ds : List Dt} {i : Nat} {d : Dt}, (pairsD ks ds)[i]? = some d → ∃ k y, ks[i]? = some k ∧ ds[i]? = some y ∧ d = .tuple [keyD k, y]
  | k :: ks, y :: ys, 0, d, h => by simp [pairsD] at h; exact ⟨k, y, rfl, rfl, h.symm⟩
  | k :: ks, y :: ys, i + 1, d, h => by
    obtain ⟨u, w, h1, h2, h3⟩ := pairsD_get (ks := ks) (ds := ys) (i := i) (by simpa [pairsD] using h)
    exact ⟨u, w, by simpa using h1, by simpa using h2, h3⟩
  | [], ds, i, d, h => by simp [pairsD] at h
  | k :: ks, [], i, d, h => by simp [pairsD] at h
theorem items_di {K : PySem.W.Frag} {B1 : Hp} {a : Addr} {od : Obj} {ks : List Key} {xs : List V} {ds : List Dt} (hl : ks.length = xs.length) (h : B1 a = some (.frz od (.dK (ks.zip xs)))) (D : DqAll K B1 xs ds) : Items K (Iti a od (ks.zip xs)) B1 (pairsD ks ds) := fun i B H e1 e2 => by
  have q := e2 _ _ (e1 _ _ h)
  have zl : (ks.zip xs).length = ks.length := by rw [List.length_zip, ← hl, Nat.min_self]
  have dl : ks.length = ds.length := by rw [hl, dpa_len D]
  refine ⟨fun d hd => ?_, fun hi => ⟨q, by rw [zl]; rwa [pairsD_len dl] at hi⟩⟩
  obtain ⟨k, y, hk, hy, rfl⟩ := pairsD_get hd
  obtain ⟨v, hz, hv⟩ := zip_get_ks hl hk
  obtain ⟨v', hv', Dv⟩ := dpa_get D hy
  rw [hv] at hv'; cases hv'
  refine ⟨⟨q, by rw [zl]; exact (List.getElem?_eq_some_iff.mp hk).1⟩, fun x H' ⟨T, k', v', hk', ex, hT, eH⟩ => .inr ⟨T, _, _, hT, ex, eH, rfl, ?_⟩⟩
  rw [hz] at hk'; cases hk'
  exact .cons (keyD_dq k) (.cons (e1.dp _ _ Dv) .nil)
section
variable {X : Cy} {es : List Sl} {a b e iter tg elt : Expr} {Λ : List Dt → List Sl → Prop} {Ψ : Dt → List Sl → Prop} {p pos apos cpos : Pos} {scope : Scope}
/-- for k in d -/
theorem vi_dkeys (h : VP X es e fun d es1 => ∃ ks ds, d = .dK ks ds ∧ Λ (ks.map keyD) es1) : VI X tg es e Λ := ⟨_, pi_keys pe_self, fun F B H σ I R q => by
  refine h F B H σ I _ fun v d B1 H1 es1 ⟨ks, ds, hd, hq⟩ I1 S1 D1 => ?_
  subst hd
  cases D1 with
  | dK hl hs ha => exact ⟨_, _, rfl, .inl ⟨_, I1.bh _ _ hs, q _ _ B1 H1 es1 hq I1 S1 (items_dk hl hs)⟩⟩⟩
/-- for k, v in d.items() -/
theorem vi_ditems {ts : List Expr} {kk : Nat} {tpos : Pos} (h : VP X es e fun d es1 => ∃ ks ds, d = .dK ks ds ∧ Λ (pairsD ks ds) es1) (hbase : attributeBase e "items" X.env (eval e X.env) = eval e X.env) (hline : (apos.endLine == cpos.line) = true) :
    VI X (.Tuple ts kk tpos) es (.Call (.Attribute e "items" apos) [] [] cpos) Λ := ⟨_, pi_items pe_self hbase hline, fun F B H σ I R q => by
  refine h F B H σ I _ fun v d B1 H1 es1 ⟨ks, ds, hd, hq⟩ I1 S1 D1 => ?_
  subst hd
  cases D1 with
  | dK hl hs ha => exact ⟨_, _, _, rfl, I1.bh _ _ hs, q _ _ B1 H1 es1 hq I1 S1 (items_di hl hs ha)⟩⟩
theorem valV_nodup {κ : Type} [DecidableEq κ] : ∀ {ks : List κ} {xs : List V} {i : Nat} {k : κ} {v : V}, ks.Nodup → ks[i]? = some k → xs[i]? = some v → valV (ks.zip xs) k = some v
  | k' :: ks, x :: xs, 0, k, v, _, h1, h2 => by
    simp only [List.getElem?_cons_zero, Option.some.injEq] at h1 h2
    rw [List.zip_cons_cons, valV_pos (by exact h1)]
    show some x = some v
    rw [h2]
  | k' :: ks, x :: xs, i + 1, k, v, hn, h1, h2 => by
    rw [List.getElem?_cons_succ] at h1 h2
    have hn' := List.nodup_cons.mp hn
    rw [List.zip_cons_cons, valV_neg (by intro z; exact hn'.1 (by rw [show k' = k from z]; exact List.mem_of_getElem? h1))]
    exact valV_nodup hn'.2 h1 h2
  | [], _, _, _, _, _, h1, _ => by simp at h1
  | _ :: _, [], _, _, _, _, _, h2 => by simp at h2
/-- [d[k] for k in d]: the values -/
theorem vp_dvals {i v : Nat} {nm x : Str} {d : Dt} {ds : List Dt} {p1 p2 p3 p4 : Pos} (hu : X.A.units + 1 < cLine) (hc : X.calm = true) (hN : X.N.Nodup) (ok : BlkOk X.N X.env.scope scope [(x, v)]) (he : es[i]? = some (.fz d)) (hd : (∃ ks, d = .dK ks ds ∧ ks.Nodup) ∨ (∃ ks, d = .dT ks ds ∧ ks.Nodup)) (hl : ds.length ≤ 100000) (hiv : i ≠ v) (hv0 : noOw es [v])
    (hi : X.N[i]? = some nm) (hvis : Vis X.env.scope nm) (hd1 : (nm == ("__debug__" : Str)) = false) (hcd1 : (nm == ("__classdict__" : Str)) = false) (hd2 : (x == ("__debug__" : Str)) = false) (hcd2 : (x == ("__classdict__" : Str)) = false)
    (hx : X.N[v]? = some x) (hxl : KX X scope fun X' => L2.Loc X'.env.scope x ∧ (X'.fn x = true ∨ X'.env.scope.names.lookup x = some .local) ∧ Vis X'.env.scope nm)
    (h : Ψ (.list ds) es) : VP X es (.ListComp (.Subscript (.Name nm p1) (.Name x p2) p3) [⟨.Name x p4, .Name nm p, [], 0⟩] scope pos) Ψ := fun F B H σ I Q q pins s J => by
  have vlt : v < σ.length := by rw [J.len]; exact (List.getElem?_eq_some_iff.mp hx).1
  refine (pe_lc (own := [(x, v)]) (g := gName v) (tt := tYes) (te := fun σ H Q => tVar i σ H fun x H1 => tVar v σ H1 fun y H2 => ∃ a v, x = .ref a ∧ IsD H2 a ∧ DGQ X.K H2 a y (some v) ∧ Q v H2) hc hN (pi_keys (pe_var hi hvis hd1 hcd1)) ok (fun s0 H0 C cl fp => pg_name hN hx (hxl s0 H0 C cl fp).1 (hxl s0 H0 C cl fp).2.1) (fun s0 H0 C cl fp => pts_nil)
    (fun s0 H0 C cl fp => pe_dgetQ (X := (X.blk s0 H0 scope (compEnvC scope cl C X.env) fp).toCx) hu (pe_var (X := (X.blk s0 H0 scope (compEnvC scope cl C X.env) fp).toCx) hi (hxl s0 H0 C cl fp).2.2 hd1 hcd1) (pe_var (X := (X.blk s0 H0 scope (compEnvC scope cl C X.env) fp).toCx) hx (by
      rcases (hxl s0 H0 C cl fp).1 with z | z
      · exact .inl z
      · exact .inr (.inl z)) hd2 hcd2) (fun _ _ => rfl)) (fun _ => rfl)).run pins s σ H Q J ?_
  obtain ⟨vd, s1, D1⟩ := I.fz i d he
  -- what every turn asks
  have turn : ∀ {ad D : Addr} {xs : List V} {j : Nat} {y w : V} {R : Hp → Prop}, DqAll X.K B xs ds → σ[i]? = some (some (.ref ad)) → xs[j]? = some w → IsD (upd H D (.lst (xs.take j))) ad → DGQ X.K (upd H D (.lst (xs.take j))) ad y (some w) → R (upd H D (.lst (xs.take (j + 1)))) →
      gName v y (wipe σ ([(x, v)].map (·.2))) (upd H D (.lst (xs.take j))) fun σ2 H2 => wipe σ2 ([(x, v)].map (·.2)) = wipe σ ([(x, v)].map (·.2)) ∧ tYes σ2 H2 fun b H3 => if b = true then (fun σ H Q => tVar i σ H fun x H1 => tVar v σ H1 fun y H2 => ∃ a v, x = .ref a ∧ IsD H2 a ∧ DGQ X.K H2 a y (some v) ∧ Q v H2 : TE) σ2 H3 fun y H4 => ∃ acc, H4 D = some (.lst acc) ∧ acc.length < sizeLine ∧ R (upd H4 D (.lst (acc ++ [y]))) else R H3 := fun {ad D xs j y w R} ha hs hw hid hg hR => by
    refine ⟨?_, ?_⟩
    · rw [wipe_set (by simp), wipe_wipe]
    · unfold tYes
      dsimp only
      rw [if_pos rfl]
      refine ⟨.ref ad, ?_, y, ?_, ad, w, rfl, hid, hg, xs.take j, upd_same, ?_, ?_⟩
      · rw [List.getElem?_set_ne (fun z => hiv z.symm), wipe_get, if_neg (by simpa using hiv)]; exact hs
      · rw [List.getElem?_set_self (by rw [wipe_length]; exact vlt)]
      · rw [List.length_take]
        have := dpa_len ha
        exact Nat.lt_of_le_of_lt (Nat.le_trans (Nat.min_le_right _ _) (by rw [this]; exact hl)) (by decide)
      · rw [upd_upd]
        rw [List.take_add_one, hw] at hR
        exact hR
  have fin : ∀ {D : Addr} {xs : List V}, DqAll X.K B xs ds → H D = none → Q (.ref D) (upd H D (.lst xs)) := fun {D xs} ha hD => q _ _ _ _ es h (I.new hD) (Stp.new I hD) (.lst upd_same ((I.newB hD).dpa _ _ ha))
  rcases hd with ⟨ks, rfl, hn⟩ | ⟨ks, rfl, hn⟩
  · cases D1 with
    | dK hl0 hs ha =>
      rename_i ad od xs
      have hH := I.bh _ _ hs
      have zl : (ks.zip xs).length = xs.length := by rw [List.length_zip, hl0, Nat.min_self]
      refine ⟨_, s1, ad, od, rfl, .inl ⟨_, hH, fun D hD => ⟨fun j m H2 => m = xs.length - j ∧ j ≤ xs.length ∧ H2 = upd H D (.lst (xs.take j)), ⟨xs.length, by simp, Nat.zero_le _, by rw [List.take_zero]⟩, ?_⟩⟩⟩
      rintro j m H2 ⟨rfl, hj, rfl⟩
      have ne : ad ≠ D := fun z => by rw [z, hD] at hH; cases hH
      have h2 : (upd H D (.lst (xs.take j))) ad = some (.frz od (.dK (ks.zip xs))) := by rw [upd_ne ne]; exact hH
      by_cases hlt : j < xs.length
      · refine .inr ⟨⟨h2, by rw [zl]; exact hlt⟩, fun H' => H' = upd H D (.lst (xs.take (j + 1))), fun H' e => ⟨xs.length - (j + 1), by omega, rfl, hlt, e⟩, fun y H' ⟨eH, k, w, hk, ey⟩ => ?_⟩
        subst eH
        have hk2 : ks[j]? = some k ∧ xs[j]? = some w := by simpa using List.getElem?_zip_eq_some.mp hk
        exact turn ha s1 hk2.2 (.inl ⟨_, .inr ⟨_, h2⟩⟩) (.inl ⟨_, k, .inr ⟨_, h2⟩, ey, (valV_nodup hn hk2.1 hk2.2).symm⟩) rfl
      · have e : j = xs.length := by omega
        subst e
        rw [List.take_length] at h2 ⊢
        exact .inl ⟨⟨h2, by rw [zl]; exact Nat.le_refl _⟩, fin ha hD⟩
  · cases D1 with
    | dT hl0 hs ha =>
      rename_i ad od xs
      have hH := I.bh _ _ hs
      have zl : (ks.zip xs).length = xs.length := by rw [List.length_zip, hl0, Nat.min_self]
      refine ⟨_, s1, ad, od, rfl, .inr ⟨_, hH, fun D hD => ⟨fun j m H2 => m = xs.length - j ∧ j ≤ xs.length ∧ H2 = upd H D (.lst (xs.take j)), ⟨xs.length, by simp, Nat.zero_le _, by rw [List.take_zero]⟩, ?_⟩⟩⟩
      rintro j m H2 ⟨rfl, hj, rfl⟩
      have ne : ad ≠ D := fun z => by rw [z, hD] at hH; cases hH
      have h2 : (upd H D (.lst (xs.take j))) ad = some (.frz od (.dT (ks.zip xs))) := by rw [upd_ne ne]; exact hH
      by_cases hlt : j < xs.length
      · refine .inr ⟨⟨h2, by rw [zl]; exact hlt⟩, fun H' => H' = upd H D (.lst (xs.take (j + 1))), fun H' e => ⟨xs.length - (j + 1), by omega, rfl, hlt, e⟩, fun y H' ⟨eH, k, w, t, hk, ey, ht⟩ => ?_⟩
        subst eH
        have hk2 : ks[j]? = some k ∧ xs[j]? = some w := by simpa using List.getElem?_zip_eq_some.mp hk
        exact turn ha s1 hk2.2 (.inr ⟨_, .inr ⟨_, h2⟩⟩) (.inr ⟨_, k, t, .inr ⟨_, h2⟩, ey, .inl (.inl ht), (valV_nodup hn hk2.1 hk2.2).symm⟩) rfl
      · have e : j = xs.length := by omega
        subst e
        rw [List.take_length] at h2 ⊢
        exact .inl ⟨⟨h2, by rw [zl]; exact Nat.le_refl _⟩, fin ha hD⟩
end
end Lv

set_option Elab.async false
set_option linter.all false
set_option maxRecDepth 100000
set_option maxHeartbeats 4000000
/-! A small language of our own: what is asked of a body is a function of its text. -/
namespace Ax
open PySem PySem.Spec PyProof.Rows L2 Lv
inductive Cm where | lt | le | gt | ge
  deriving DecidableEq
inductive Bo where | add | sub | mul | mod | fdiv | pow
  deriving DecidableEq
inductive B1 where | abs | int | len | sum | all | any | tuple | list | str | repr | sorted
  deriving DecidableEq
inductive B2 where | gcd | max | min
  deriving DecidableEq
inductive Ty where | int | bool | tuple | str | list | dict
  deriving DecidableEq
inductive P1 where | bool | minl | maxl | rev | revt
  deriving DecidableEq
inductive P2 where | dix | din | dnin | dget | inq | ninq | divmod
  deriving DecidableEq
inductive P3 where | dget
  deriving DecidableEq
inductive E where
  | v (i : Nat) | gi (x : Str) (n : Int) | int (i : Int) | bool (b : Bool) | non | str (x : Str)
  | bin (o : Bo) (a b : E) | neg (a : E)
  | cmp (o : Cm) (a b : E) | eq (a b : E) | ne (a b : E) | isn (a : E) | isnt (a : E)
  | chain (o p : Cm) (a b c : E) | chain3 (o p q : Cm) (a b c d : E)
  | and (a b : E) | or (a b : E) | not (a : E) | ife (c a b : E)
  | nil | cons (a as : E) | tup (as : E) | lst (as : E) | dnew
  | call (f : Nat) (as : E) | callo (f : Nat) (i : Nat) (as : E) | calll (f : Nat) (as : E)
  | b1 (k : B1) (a : E) | b2 (k : B2) (a b : E) | isi (t : Ty) (a : E)
  | ix (a b : E) | ixo (i : Nat) (b : E) | sl (a lo hi : E) | slt (a lo hi : E) | leno (i : Nat)
  | inn (a b : E)
  | lc (vs : List Nat) (tg it c e : E)
  | range1 (a : E) | range2 (a b : E) | zip (a b : E) | enum (a : E)
  | p1 (k : P1) (a : E) | p2 (k : P2) (a b : E) | p3 (k : P3) (a b c : E)
  | dino (n : Bool) (i : Nat) (k : E) | dgeto (i : Nat) (k x : E) | dvals (i v : Nat) | dkeys (a : E) | ditems (a : E)
/-! operations on data, by how many they take -/
/-- blocks; r: what follows -/
inductive S where
  | skip | frz (i : Nat) (r : S)
  | pass (r : S) | exp (e : E) (r : S) | set (i : Nat) (e : E) (r : S) | setL (i : Nat) (e : E) (r : S)
  | asg (tg e : E) (r : S) | par (i j : Nat) (a b : E) (r : S) | par3 (i j l : Nat) (a b c : E) (r : S)
  | ret (e : E) | retN | retL (e : E) | retO (i : Nat)
  | ife (c : E) (a b r : S) | wh (c : E) (b r : S) | fo (tg it : E) (b r : S)
  | app (i : Nat) (e : E) (r : S) | sto (i : Nat) (k e : E) (r : S) | aug (i : Nat) (o : Bo) (e : E) (r : S) | augo (i : Nat) (o : Bo) (k e : E) (r : S)
  | brk | cont | dead
  | dnew (i : Nat) (t : Bool) (r : S) | dput (i : Nat) (k e : E) (r : S) | dputT (i : Nat) (ks e : E) (r : S)

/-! ### what operations ask -/
def Cm.f : Cm → Int → Int → Bool
  | .lt => fun i j => decide (i < j)
  | .le => fun i j => decide (i ≤ j)
  | .gt => fun i j => decide (j < i)
  | .ge => fun i j => decide (j ≤ i)
/-- a divisor: positive, or of any sign (then the rounded quotient) -/
def binW : Bo → Dt → Dt → (Dt → Prop) → Prop
  | .add, .int i, .int j, k => k (.int (i + j))
  | .add, .list xs, .list ys, k => xs.length + ys.length ≤ 100000 ∧ k (.list (xs ++ ys))
  | .add, .tuple xs, .tuple ys, k => xs.length + ys.length ≤ 100000 ∧ k (.tuple (xs ++ ys))
  | .sub, .int i, .int j, k => k (.int (i - j))
  | .mul, .int i, .int j, k => CMulX i j ∧ k (.int (i * j))
  | .mul, .list xs, .int j, k => (-(2 ^ 63) ≤ j ∧ j < 2 ^ 63 ∧ xs.length * j.toNat ≤ 100000) ∧ k (.list (List.replicate j.toNat xs).flatten)
  | .mod, .int i, .int j, k => 0 < j ∧ k (.int (i % j))
  | .fdiv, .int i, .int j, k => CDivV i j ∧ k (.int (i.fdiv j))
  | .pow, .int i, .int j, k => CPow i j ∧ k (.int (i ^ j.toNat))
  | _, _, _, _ => False
def cmpW (o : Cm) : Dt → Dt → (Dt → Prop) → Prop
  | .int i, .int j, k => k (.bool (o.f i j))
  | _, _, _ => False
def negW : Dt → (Dt → Prop) → Prop
  | .int i, k => k (.int (-i))
  | _, _ => False
/-- a sequence's items -/
def seqW : Dt → (List Dt → Prop) → Prop
  | .list xs, k => k xs
  | .tuple xs, k => k xs
  | .scr xs, k => k xs
  | _, _ => False
def boolW : Dt → (Bool → Prop) → Prop
  | .bool b, k => k b
  | _, _ => False
def intW : Dt → (Int → Prop) → Prop
  | .int i, k => k i
  | _, _ => False
def truW : Dt → (Bool → Prop) → Prop
  | .bool b, k => k b
  | .int i, k => k (i != 0)
  | .none, k => k false
  | .list xs, k => k (!xs.isEmpty)
  | .tuple xs, k => k (!xs.isEmpty)
  | .scr xs, k => k (!xs.isEmpty)
  | _, _ => False
def b1W : B1 → Dt → (Dt → Prop) → Prop
  | .abs, d, k => intW d fun i => k (.int (if i < 0 then -i else i))
  | .int, .int i, k => k (.int i)
  | .int, .bool b, k => k (.int (if b then 1 else 0))
  | .len, d, k => seqW d fun xs => k (.int xs.length)
  | .sum, d, k => ∃ ns : List Int, d = .list (ns.map Dt.int) ∧ k (.int ns.sum)
  | .all, d, k => ∃ ns : List Bool, d = .list (ns.map Dt.bool) ∧ k (.bool (ns.all id))
  | .any, d, k => ∃ ns : List Bool, d = .list (ns.map Dt.bool) ∧ k (.bool (ns.any id))
  | .tuple, d, k => seqW d fun xs => k (.tuple xs)
  | .list, d, k => seqW d fun xs => k (.list xs)
  | .str, d, k => intW d fun i => i.natAbs.log2 < 1920 ∧ k (.str (toString i))
  | .repr, d, k => boolW d fun b => k (.str (if b then "True" else "False"))
  | .sorted, d, k => ∃ ns : List Int, d = .list (ns.map Dt.int) ∧ ∀ ns' : List Int, ns'.Perm ns → ns'.Pairwise (· ≤ ·) → k (.list (ns'.map Dt.int))
  | _, _, _ => False
def b2W : B2 → Dt → Dt → (Dt → Prop) → Prop
  | .gcd, .int i, .int j, k => k (.int (Int.gcd i j : Nat))
  | .max, .int i, .int j, k => k (.int (if j > i then j else i))
  | .min, .int i, .int j, k => k (.int (if j < i then j else i))
  | _, _, _, _ => False
def isiD : Ty → Dt → Option Bool
  | .int, .int _ => some true
  | .int, .bool _ => some true
  | .bool, .bool _ => some true
  | .tuple, .tuple _ => some true
  | .str, .str _ => some true
  | .list, .list _ => some true
  | .list, .scr _ => some true
  | .dict, .dK _ _ => some true
  | _, .obj _ _ _ => none
  | _, .dT _ _ => none
  | _, _ => some false
def ixW (d d2 : Dt) (k : Dt → Prop) : Prop := seqW d fun xs => intW d2 fun i => ∃ x, atI xs i = some x ∧ k x
def innW (d d2 : Dt) (k : Dt → Prop) : Prop := intW d fun i => seqW d2 fun xs => ∃ ns : List Int, xs = ns.map Dt.int ∧ k (.bool (ns.any fun n => n == i))
def p1W : P1 → Dt → (Dt → Prop) → Prop
  | .bool, .int i, k => k (.bool (i != 0))
  | .bool, .bool b, k => k (.bool b)
  | .minl, d, k => ∃ ns : List Int, d = .list (ns.map Dt.int) ∧ 0 < ns.length ∧ ∀ m, m ∈ ns → (∀ y, y ∈ ns → m ≤ y) → k (.int m)
  | .maxl, d, k => ∃ ns : List Int, d = .list (ns.map Dt.int) ∧ 0 < ns.length ∧ ∀ m, m ∈ ns → (∀ y, y ∈ ns → y ≤ m) → k (.int m)
  | .rev, .list xs, k => k (.list xs.reverse)
  | .revt, .tuple xs, k => k (.tuple xs.reverse)
  | _, _, _ => False
def p2W : P2 → Dt → Dt → (Dt → Prop) → Prop
  | .dix, d, dk, k => ∃ y, dgetD d dk = some (some y) ∧ k y
  | .din, dk, d, k => ∃ r, dgetD d dk = some r ∧ k (.bool r.isSome)
  | .dnin, dk, d, k => ∃ r, dgetD d dk = some r ∧ k (.bool (!r.isSome))
  | .dget, d, dk, k => isDt d = true ∧ ∃ r, dgetD d dk = some r ∧ k (r.getD .none)
  | .inq, d, .list xs, k => (shD d ∧ shD (.list xs)) ∧ k (.bool (xs.any fun z => eqD z d))
  | .ninq, d, .list xs, k => (shD d ∧ shD (.list xs)) ∧ k (.bool (!xs.any fun z => eqD z d))
  | .divmod, .int i, .int j, k => L2.CDivP i j ∧ k (.tuple [.int (i / j), .int (i % j)])
  | _, _, _, _ => False
def p2P : P2 → Dt → Prop → Prop
  | .dget, d, Q => isDt d = true ∧ Q
  | _, _, Q => Q
def p3W : P3 → Dt → Dt → Dt → (Dt → Prop) → Prop
  | .dget, d, dk, dx, k => isDt d = true ∧ ∃ r, dgetD d dk = some r ∧ k (r.getD dx)
/-- what slot i owns -/
def ownAt (es : List Sl) (i : Nat) (k : Bool → Ow → Prop) : Prop := match es[i]? with | some (.own b c) => k b c | _ => False
def valsW (d : Dt) (k : List Dt → Prop) : Prop := match d with | .dK ks ds => ks.Nodup ∧ k ds | .dT ks ds => ks.Nodup ∧ k ds | _ => False
def dkW (d : Dt) (k : List Key → List Dt → Prop) : Prop := match d with | .dK ks ds => k ks ds | _ => False
def noOwB (es : List Sl) (vs : List Nat) : Bool := vs.all fun v => match es[v]? with | some (.own _ _) => false | _ => true
def fzAt (es : List Sl) (i : Nat) (k : Dt → Prop) : Prop := match es[i]? with | some (.fz d) => k d | _ => False
def owAt (es : List Sl) (i : Nat) (k : Bool → List Dt → Prop) : Prop := match es[i]? with | some (.own b (.l ds)) => k b ds | _ => False
mutual
def bindT : E → Dt → List Sl → (List Sl → Prop) → Prop
  | .v i, d, es, N => N (es.set i (.fz d))
  | .tup ts, d, es, N => match d with | .tuple ds => bindTs ts ds es N | _ => False
  | _, _, _, _ => False
def bindTs : E → List Dt → List Sl → (List Sl → Prop) → Prop
  | .nil, ds, es, N => match ds with | [] => N es | _ => False
  | .cons t ts, ds, es, N => match ds with | d :: r => bindT t d es fun es1 => bindTs ts r es1 N | [] => False
  | _, _, _, _ => False
end
/-- a comprehension's turns -/
def runC (body : Dt → List Sl → (List Dt → List Sl → Prop) → Prop) : List Dt → List Dt → List Sl → (List Dt → List Sl → Prop) → Prop
  | [], acc, es, K => K acc es
  | x :: xs, acc, es, K => body x es fun r es' => runC body xs (acc ++ r) es' K
/-- a loop's turns -/
def runF (body : Dt → List Sl → (List Sl → Prop) → Prop) : List Dt → List Sl → (List Sl → Prop) → Prop
  | [], es, nx => nx es
  | x :: xs, es, nx => body x es fun es' => runF body xs es' nx
/-- what calls ask: of data; of a list that is changed; of data, for a new list -/
structure Ph where
  r : Nat → RR
  o : Nat → RO
  l : Nat → RL
  κ : Xn → List Sl → Prop
/-- .. where nothing may be raised -/
def Ph.nk (Φ : Ph) : Ph := { Φ with κ := fun _ _ => False }
/-- promises of defs that raise nothing -/
def lf (R : List Dt → (Dt → Prop) → Prop) : RR := fun ds G _ => R ds G
def lfO (R : List Dt → List Dt → (Dt → List Dt → Prop) → Prop) : RO := fun ds as G _ => R ds as G
def lfL (R : List Dt → (List Dt → Prop) → Prop) : RL := fun ds G _ => R ds G
mutual
def wpE : Ph → E → List Sl → (Dt → List Sl → Prop) → Prop
  | Φ, .v i, es, Ψ => fzAt es i fun d => Ψ d es
  | Φ, .gi _ n, es, Ψ => Ψ (.int n) es
  | Φ, .int i, es, Ψ => Ψ (.int i) es
  | Φ, .bool b, es, Ψ => Ψ (.bool b) es
  | Φ, .non, es, Ψ => Ψ .none es
  | Φ, .str x, es, Ψ => Ψ (.str x) es
  | Φ, .bin o a b, es, Ψ => wpE Φ a es fun d es1 => wpE Φ b es1 fun d2 es2 => binW o d d2 fun r => Ψ r es2
  | Φ, .neg a, es, Ψ => wpE Φ a es fun d es1 => negW d fun r => Ψ r es1
  | Φ, .cmp o a b, es, Ψ => wpE Φ a es fun d es1 => wpE Φ b es1 fun d2 es2 => cmpW o d d2 fun r => Ψ r es2
  | Φ, .eq a b, es, Ψ => wpE Φ a es fun d es1 => wpE Φ b es1 fun d2 es2 => (shD d ∧ shD d2) ∧ Ψ (.bool (eqD d d2)) es2
  | Φ, .ne a b, es, Ψ => wpE Φ a es fun d es1 => wpE Φ b es1 fun d2 es2 => (shD d ∧ shD d2) ∧ Ψ (.bool (!eqD d d2)) es2
  | Φ, .isn a, es, Ψ => wpE Φ a es fun d es1 => Ψ (.bool (isN d)) es1
  | Φ, .isnt a, es, Ψ => wpE Φ a es fun d es1 => Ψ (.bool (!isN d)) es1
  | Φ, .chain o p a b c, es, Ψ => wpE Φ a es fun d es1 => wpE Φ b es1 fun d2 es2 => intW d fun i => intW d2 fun j => (o.f i j = true → wpE Φ c es2 fun d3 es3 => intW d3 fun k => Ψ (.bool (p.f j k)) es3) ∧ (o.f i j = false → Ψ (.bool false) es2)
  | Φ, .chain3 o p q a b c d, es, Ψ => wpE Φ a es fun x es1 => wpE Φ b es1 fun y es2 => intW x fun i => intW y fun j => (o.f i j = true → wpE Φ c es2 fun z es3 => intW z fun k => (p.f j k = true → wpE Φ d es3 fun u es4 => intW u fun l => Ψ (.bool (q.f k l)) es4) ∧ (p.f j k = false → Ψ (.bool false) es3)) ∧ (o.f i j = false → Ψ (.bool false) es2)
  | Φ, .and a b, es, Ψ => wpE Φ a es fun d es1 => boolW d fun p => (p = true → wpE Φ b es1 Ψ) ∧ (p = false → Ψ (.bool false) es1)
  | Φ, .or a b, es, Ψ => wpE Φ a es fun d es1 => boolW d fun p => (p = true → Ψ (.bool true) es1) ∧ (p = false → wpE Φ b es1 Ψ)
  | Φ, .not a, es, Ψ => wpE Φ a es fun d es1 => boolW d fun p => Ψ (.bool (!p)) es1
  | Φ, .ife c a b, es, Ψ => wpT Φ c es fun p es1 => (p = true → wpE Φ a es1 Ψ) ∧ (p = false → wpE Φ b es1 Ψ)
  | Φ, .nil, _, _ => False
  | Φ, .cons _ _, _, _ => False
  | Φ, .tup as, es, Ψ => wpA Φ as es fun ds es1 => ds.length ≤ 100000 ∧ Ψ (.tuple ds) es1
  | Φ, .lst as, es, Ψ => wpA Φ as es fun ds es1 => ds.length ≤ 100000 ∧ Ψ (.list ds) es1
  | Φ, .dnew, es, Ψ => Ψ (.dK [] []) es
  | Φ, .call f as, es, Ψ => wpA Φ as es fun ds es1 => Φ.r f ds (fun d => Ψ d es1) fun z => Φ.κ z es1
  | Φ, .callo f i as, es, Ψ => (∃ b ds, es[i]? = some (.own b (.l ds))) ∧ wpA Φ as es fun rest es1 => owAt es1 i fun b ds => Φ.o f ds rest (fun d ds' => Ψ d (es1.set i (.own b (.l ds')))) fun z ds' => Φ.κ z (es1.set i (.own b (.l ds')))
  | Φ, .calll _ _, _, _ => False
  | Φ, .b1 k a, es, Ψ => wpE Φ a es fun d es1 => b1W k d fun r => Ψ r es1
  | Φ, .b2 k a b, es, Ψ => wpE Φ a es fun d es1 => wpE Φ b es1 fun d2 es2 => b2W k d d2 fun r => Ψ r es2
  | Φ, .isi t a, es, Ψ => wpE Φ a es fun d es1 => ∃ b, isiD t d = some b ∧ Ψ (.bool b) es1
  | Φ, .ix a b, es, Ψ => wpE Φ a es fun d es1 => wpE Φ b es1 fun d2 es2 => ixW d d2 fun r => Ψ r es2
  | Φ, .ixo i b, es, Ψ => (∃ b ds, es[i]? = some (.own b (.l ds))) ∧ wpE Φ b es fun d2 es2 => owAt es2 i fun _ ds => intW d2 fun n => ∃ x, atI ds n = some x ∧ Ψ x es2
  | Φ, .sl a lo hi, es, Ψ => wpE Φ a es fun d es1 => ∃ xs, d = .list xs ∧ ∃ l u, wpO Φ lo es1 (fun o e => o = l ∧ e = es1) ∧ wpO Φ hi es1 (fun o e => o = u ∧ e = es1) ∧ Ψ (.list (cutD xs l u)) es1
  | Φ, .slt a lo hi, es, Ψ => wpE Φ a es fun d es1 => ∃ xs, d = .tuple xs ∧ ∃ l u, wpO Φ lo es1 (fun o e => o = l ∧ e = es1) ∧ wpO Φ hi es1 (fun o e => o = u ∧ e = es1) ∧ ¬(HT.sIx xs.length 0 l = 0 ∧ HT.sIx xs.length xs.length u = xs.length) ∧ Ψ (.tuple (cutD xs l u)) es1
  | Φ, .leno _, _, _ => False
  | Φ, .inn a b, es, Ψ => wpE Φ a es fun d es1 => wpE Φ b es1 fun d2 es2 => innW d d2 fun r => Ψ r es2
  | Φ, .lc vs tg it c e, es, Ψ => wpI Φ it es fun xs es1 => noOwB es1 vs = true ∧ xs.length ≤ 100000 ∧
      runC (fun x es2 k => bindT tg x es2 fun es3 => wpT Φ.nk c es3 fun p es4 => (p = true → wpE Φ.nk e es4 fun y es5 => k [y] (wipeE es5 vs)) ∧ (p = false → k [] (wipeE es4 vs))) xs [] (wipeE es1 vs) fun acc es2 => Ψ (.list acc) (mrg vs 0 es2 es1)
  | Φ, .range1 _, _, _ => False
  | Φ, .range2 _ _, _, _ => False
  | Φ, .zip _ _, _, _ => False
  | Φ, .enum _, _, _ => False
  | Φ, .p1 k a, es, Ψ => wpE Φ a es fun d es1 => p1W k d fun r => Ψ r es1
  | Φ, .p2 k a b, es, Ψ => wpE Φ a es fun d es1 => p2P k d (wpE Φ b es1 fun d2 es2 => p2W k d d2 fun r => Ψ r es2)
  | Φ, .p3 k a b c, es, Ψ => wpE Φ a es fun d es1 => (match k with | .dget => isDt d = true) ∧ wpE Φ b es1 fun d2 es2 => wpE Φ c es2 fun d3 es3 => p3W k d d2 d3 fun r => Ψ r es3
  | Φ, .dino n i k, es, Ψ => ownAt es i fun _ c => wpE Φ k es fun dk es1 => es1 = es ∧ ∃ r, dgetD c.dt dk = some r ∧ Ψ (.bool (if n then !r.isSome else r.isSome)) es1
  | Φ, .dgeto i k x, es, Ψ => ownAt es i fun _ c => isDt c.dt = true ∧ wpE Φ k es fun dk es1 => wpE Φ x es1 fun dx es2 => es2 = es ∧ ∃ r, dgetD c.dt dk = some r ∧ Ψ (r.getD dx) es2
  | Φ, .dvals i v, es, Ψ => fzAt es i fun d => valsW d fun ds => noOwB es [v] = true ∧ ds.length ≤ 100000 ∧ Ψ (.list ds) es
  | Φ, .dkeys _, _, _ => False
  | Φ, .ditems _, _, _ => False
/-- arguments -/
def wpA : Ph → E → List Sl → (List Dt → List Sl → Prop) → Prop
  | Φ, .nil, es, Λ => Λ [] es
  | Φ, .cons a as, es, Λ => wpE Φ a es fun d es1 => wpA Φ as es1 fun ds es2 => Λ (d :: ds) es2
  | _, _, _, _ => False
/-- tests -/
def wpT : Ph → E → List Sl → (Bool → List Sl → Prop) → Prop
  | Φ, .nil, es, Θ => Θ true es
  | Φ, .cmp o a b, es, Θ => wpE Φ a es fun d es1 => wpE Φ b es1 fun d2 es2 => intW d fun i => intW d2 fun j => Θ (o.f i j) es2
  | Φ, .eq a b, es, Θ => wpE Φ a es fun d es1 => wpE Φ b es1 fun d2 es2 => (shD d ∧ shD d2) ∧ Θ (eqD d d2) es2
  | Φ, .ne a b, es, Θ => wpE Φ a es fun d es1 => wpE Φ b es1 fun d2 es2 => (shD d ∧ shD d2) ∧ Θ (!eqD d d2) es2
  | Φ, .isn a, es, Θ => wpE Φ a es fun d es1 => Θ (isN d) es1
  | Φ, .isnt a, es, Θ => wpE Φ a es fun d es1 => Θ (!isN d) es1
  | Φ, .chain o p a b c, es, Θ => wpE Φ a es fun d es1 => wpE Φ b es1 fun d2 es2 => intW d fun i => intW d2 fun j => (o.f i j = true → wpE Φ c es2 fun d3 es3 => intW d3 fun k => Θ (p.f j k) es3) ∧ (o.f i j = false → Θ false es2)
  | Φ, .chain3 o p q a b c d, es, Θ => wpE Φ a es fun x es1 => wpE Φ b es1 fun y es2 => intW x fun i => intW y fun j => (o.f i j = true → wpE Φ c es2 fun z es3 => intW z fun k => (p.f j k = true → wpE Φ d es3 fun u es4 => intW u fun l => Θ (q.f k l) es4) ∧ (p.f j k = false → Θ false es3)) ∧ (o.f i j = false → Θ false es2)
  | Φ, .and a b, es, Θ => wpT Φ a es fun p es1 => (p = true → wpT Φ b es1 Θ) ∧ (p = false → Θ false es1)
  | Φ, .or a b, es, Θ => wpT Φ a es fun p es1 => (p = true → Θ true es1) ∧ (p = false → wpT Φ b es1 Θ)
  | Φ, .not a, es, Θ => wpT Φ a es fun p es1 => Θ (!p) es1
  | Φ, .inn a b, es, Θ => wpE Φ a es fun d es1 => wpE Φ b es1 fun d2 es2 => intW d fun i => seqW d2 fun xs => ∃ ns : List Int, xs = ns.map Dt.int ∧ Θ (ns.any fun n => n == i) es2
  | Φ, .call f as, es, Θ => wpA Φ as es fun ds es1 => Φ.r f ds (fun d => truW d fun p => Θ p es1) fun z => Φ.κ z es1
  | Φ, .callo f i as, es, Θ => (∃ b ds, es[i]? = some (.own b (.l ds))) ∧ wpA Φ as es fun rest es1 => owAt es1 i fun b ds => Φ.o f ds rest (fun d ds' => truW d fun p => Θ p (es1.set i (.own b (.l ds')))) fun z ds' => Φ.κ z (es1.set i (.own b (.l ds')))
  | Φ, .v i, es, Θ => fzAt es i fun d => truW d fun p => Θ p es
  | Φ, .b1 k a, es, Θ => wpE Φ a es fun d es1 => b1W k d fun r => truW r fun p => Θ p es1
  | Φ, .isi t a, es, Θ => wpE Φ a es fun d es1 => ∃ b, isiD t d = some b ∧ Θ b es1
  | Φ, .bin o a b, es, Θ => wpE Φ a es fun d es1 => wpE Φ b es1 fun d2 es2 => binW o d d2 fun r => truW r fun p => Θ p es2
  | Φ, .p1 k a, es, Θ => wpE Φ a es fun d es1 => p1W k d fun r => truW r fun p => Θ p es1
  | Φ, .p2 k a b, es, Θ => wpE Φ a es fun d es1 => p2P k d (wpE Φ b es1 fun d2 es2 => p2W k d d2 fun r => boolW r fun p => Θ p es2)
  | Φ, .dino n i k, es, Θ => ownAt es i fun _ c => wpE Φ k es fun dk es1 => es1 = es ∧ ∃ r, dgetD c.dt dk = some r ∧ Θ (if n then !r.isSome else r.isSome) es1
  | _, _, _, _ => False
/-- an optional end of a slice -/
def wpO : Ph → E → List Sl → (Option Int → List Sl → Prop) → Prop
  | Φ, .nil, es, k => k none es
  | Φ, .v i, es, k => fzAt es i fun d => intW d fun n => k (some n) es
  | Φ, .int n, es, k => k (some n) es
  | Φ, .neg a, es, k => wpE Φ a es fun d es1 => negW d fun r => intW r fun n => k (some n) es1
  | Φ, .bin o a b, es, k => wpE Φ a es fun d es1 => wpE Φ b es1 fun d2 es2 => binW o d d2 fun r => intW r fun n => k (some n) es2
  | _, _, _, _ => False
/-- what is walked -/
def wpI : Ph → E → List Sl → (List Dt → List Sl → Prop) → Prop
  | Φ, .range1 a, es, Λ => wpE Φ a es fun d es1 => intW d fun n => (n < 2 ^ 62 ∧ -(2 ^ 62) ≤ n) ∧ Λ (rng 0 n.toNat) es1
  | Φ, .range2 a b, es, Λ => wpE Φ a es fun d es1 => intW d fun lo => wpE Φ b es1 fun d2 es2 => intW d2 fun n => (-(2 ^ 62) ≤ lo ∧ lo < 2 ^ 62 ∧ -(2 ^ 62) ≤ n ∧ n < 2 ^ 62) ∧ Λ (rng lo (n - lo).toNat) es2
  | Φ, .zip a b, es, Λ => wpE Φ a es fun d es1 => wpE Φ b es1 fun d2 es2 => ∃ xs ys, ((d = .list xs ∧ d2 = .list ys) ∨ (d = .tuple xs ∧ d2 = .tuple ys)) ∧ Λ (zips xs ys) es2
  | Φ, .enum a, es, Λ => wpE Φ a es fun d es1 => ∃ xs, (d = .list xs ∨ d = .scr xs) ∧ Λ (enums 0 xs) es1
  | Φ, .v i, es, Λ => fzAt es i fun d => seqW d fun xs => Λ xs es
  | Φ, .callo f i as, es, Λ => (∃ b ds, es[i]? = some (.own b (.l ds))) ∧ wpA Φ as es fun rest es1 => owAt es1 i fun b ds => Φ.o f ds rest (fun d ds' => seqW d fun xs => Λ xs (es1.set i (.own b (.l ds')))) fun z ds' => Φ.κ z (es1.set i (.own b (.l ds')))
  | Φ, .call f as, es, Λ => wpA Φ as es fun ds es1 => Φ.r f ds (fun d => seqW d fun xs => Λ xs es1) fun z => Φ.κ z es1
  | Φ, .tup as, es, Λ => wpA Φ as es fun ds es1 => ds.length ≤ 100000 ∧ Λ ds es1
  | Φ, .lst as, es, Λ => wpA Φ as es fun ds es1 => ds.length ≤ 100000 ∧ Λ ds es1
  | Φ, .b1 k a, es, Λ => wpE Φ a es fun d es1 => b1W k d fun r => seqW r fun xs => Λ xs es1
  | Φ, .p1 k a, es, Λ => wpE Φ a es fun d es1 => p1W k d fun r => seqW r fun xs => Λ xs es1
  | Φ, .p2 k a b, es, Λ => wpE Φ a es fun d es1 => p2P k d (wpE Φ b es1 fun d2 es2 => p2W k d d2 fun r => seqW r fun xs => Λ xs es2)
  | Φ, .dkeys a, es, Λ => wpE Φ a es fun d es1 => dkW d fun ks _ => Λ (ks.map keyD) es1
  | Φ, .ditems a, es, Λ => wpE Φ a es fun d es1 => dkW d fun ks ds => Λ (pairsD ks ds) es1
  | Φ, .ix a b, es, Λ => wpE Φ a es fun d es1 => wpE Φ b es1 fun d2 es2 => ixW d d2 fun r => seqW r fun xs => Λ xs es2
  | Φ, .bin o a b, es, Λ => wpE Φ a es fun d es1 => wpE Φ b es1 fun d2 es2 => binW o d d2 fun r => seqW r fun xs => Λ xs es2
  | Φ, .sl a lo hi, es, Λ => wpE Φ a es fun d es1 => ∃ xs, d = .list xs ∧ ∃ l u, wpO Φ lo es1 (fun o e => o = l ∧ e = es1) ∧ wpO Φ hi es1 (fun o e => o = u ∧ e = es1) ∧ Λ (cutD xs l u) es1
  | _, _, _, _ => False
end
/-- a new list of one's own -/
def wpL : Ph → E → List Sl → (List Dt → List Sl → Prop) → Prop
  | Φ, .lst as, es, Λ => wpA Φ as es fun ds es1 => ds.length ≤ 100000 ∧ Λ ds es1
  | Φ, .calll f as, es, Λ => wpA Φ as es fun ds es1 => Φ.l f ds (fun d => Λ d es1) fun z => Φ.κ z es1
  | Φ, .lc vs tg it c e, es, Λ => wpI Φ it es fun xs es1 => noOwB es1 vs = true ∧ xs.length ≤ 100000 ∧
      runC (fun x es2 k => bindT tg x es2 fun es3 => wpT Φ.nk c es3 fun p es4 => (p = true → wpE Φ.nk e es4 fun y es5 => k [y] (wipeE es5 vs)) ∧ (p = false → k [] (wipeE es4 vs))) xs [] (wipeE es1 vs) fun acc es2 => Λ acc (mrg vs 0 es2 es1)
  | _, _, _, _ => False
/-- what augmented assignments do to ints -/
def augF : Bo → Int → Int → (Int → Prop) → Prop
  | .add, i, j, k => k (i + j)
  | .sub, i, j, k => k (i - j)
  | _, _, _, _ => False
def wpB : Ph → S → List Sl → Po → Prop
  | Φ, .skip, es, P => P.nx es
  | Φ, .frz i r, es, P => match es[i]? with | some (.own true (.l ds)) => wpB Φ r (es.set i (.fz (.list ds))) P | some (.own true (.dK ks ds)) => wpB Φ r (es.set i (.fz (.dK ks ds))) P | some (.own true (.dT ks ds)) => wpB Φ r (es.set i (.fz (.dT ks ds))) P | _ => wpB Φ r es P
  | Φ, .pass r, es, P => wpB Φ r es P
  | Φ, .exp e r, es, P => wpE Φ e es fun _ es1 => wpB Φ r es1 P
  | Φ, .set i e r, es, P => wpE Φ e es fun d es1 => wpB Φ r (es1.set i (.fz d)) P
  | Φ, .setL i e r, es, P => wpL Φ e es fun ds es1 => wpB Φ r (es1.set i (.own true (.l ds))) P
  | Φ, .asg tg e r, es, P => wpE Φ e es fun d es1 => bindT tg d es1 fun es2 => wpB Φ r es2 P
  | Φ, .par i j a b r, es, P => wpE Φ a es fun d es1 => wpE Φ b es1 fun d2 es2 => wpB Φ r ((es2.set i (.fz d)).set j (.fz d2)) P
  | Φ, .par3 i j l a b c r, es, P => wpE Φ a es fun d es1 => wpE Φ b es1 fun d2 es2 => wpE Φ c es2 fun d3 es3 => wpB Φ r (((es3.set i (.fz d)).set j (.fz d2)).set l (.fz d3)) P
  | Φ, .ret e, es, P => wpE Φ e es P.rt
  | Φ, .retN, es, P => P.rt .none es
  | Φ, .retL e, es, P => wpL Φ e es P.rl
  | Φ, .retO i, es, P => match es[i]? with | some (.own true (.l ds)) => P.rl ds es | _ => False
  | Φ, .ife c a b r, es, P => wpT Φ c es fun p es1 => (p = true → wpB Φ a es1 { P with nx := fun es2 => wpB Φ r es2 P }) ∧ (p = false → wpB Φ b es1 { P with nx := fun es2 => wpB Φ r es2 P })
  | Φ, .wh c b r, es, P => ∃ (Iv : Nat → List Sl → Prop) (m0 : Nat), Iv m0 es ∧ ∀ m es1, Iv m es1 → wpT Φ c es1 fun p es2 =>
      (p = true → wpB Φ b es2 { P with nx := fun es3 => ∃ m', m' < m ∧ Iv m' es3, ct := fun es3 => ∃ m', m' < m ∧ Iv m' es3, bk := fun es3 => wpB Φ r es3 P }) ∧ (p = false → wpB Φ r es2 P)
  | Φ, .fo tg it b r, es, P => wpI Φ it es fun xs es1 => runF (fun x es2 k => bindT tg x es2 fun es3 => wpB Φ b es3 { P with nx := k, ct := k, bk := fun es4 => wpB Φ r es4 P }) xs es1 fun es2 => wpB Φ r es2 P
  | Φ, .app i e r, es, P => (∃ b ds, es[i]? = some (.own b (.l ds))) ∧ wpE Φ e es fun d es1 => owAt es1 i fun b ds => ds.length < 100000 ∧ wpB Φ r (es1.set i (.own b (.l (ds ++ [d])))) P
  | Φ, .sto i k e r, es, P => owAt es i fun b0 ds0 => wpE Φ e es fun d es1 => es1 = es ∧ wpE Φ k es fun d2 es2 => es2 = es ∧ intW d2 fun n => ∃ j, ixN ds0.length n = some j ∧ wpB Φ r (es.set i (.own b0 (.l (ds0.set j d)))) P
  | Φ, .aug i o e r, es, P => fzAt es i fun d0 => intW d0 fun k => wpE Φ e es fun d es1 => intW d fun j => augF o k j fun z => wpB Φ r (es1.set i (.fz (.int z))) P
  | Φ, .augo i o k e r, es, P => owAt es i fun b0 ds0 => wpE Φ k es fun d es1 => es1 = es ∧ intW d fun n => 0 ≤ n ∧ ∃ m v, ixN ds0.length n = some m ∧ ds0[m]? = some (.int v) ∧ wpE Φ e es fun d2 es2 => es2 = es ∧ intW d2 fun j => augF o v j fun z => wpB Φ r (es.set i (.own b0 (.l (ds0.set m (.int z))))) P
  | Φ, .dead, _, _ => False
  | Φ, .dnew i t r, es, P => wpB Φ r (es.set i (.own true (if t then .dT [] [] else .dK [] []))) P
  | Φ, .dput i k e r, es, P => ownAt es i fun b c => ∃ ks ds, c = .dK ks ds ∧ wpE Φ e es fun d es1 => es1 = es ∧ wpE Φ k es fun dk es2 => es2 = es ∧ ∃ kk, keyOf dk = some kk ∧ ks.length < 100000 ∧ wpB Φ r (es.set i (.own b (.dK (putKs ks kk) (putDs ks ds kk d)))) P
  | Φ, .dputT i as e r, es, P => ownAt es i fun b c => ∃ ks ds, c = .dT ks ds ∧ wpE Φ e es fun d es1 => es1 = es ∧ wpA Φ as es fun dk es2 => es2 = es ∧ dk.length ≤ 100000 ∧ ∃ kk, keysOf dk = some kk ∧ ks.length < 100000 ∧ wpB Φ r (es.set i (.own b (.dT (putKs ks kk) (putDs ks ds kk d)))) P
  | Φ, .brk, es, P => P.bk es
  | Φ, .cont, es, P => P.ct es
end Ax

set_option Elab.async false
set_option linter.all false
set_option maxRecDepth 100000
set_option maxHeartbeats 4000000
/-! What text says what; the rules of the layer, put together. -/
namespace Ax
open PySem PySem.Spec PyProof.Rows L2 Lv
def Cm.op : Cm → CmpOp
  | .lt => .Lt | .le => .LtE | .gt => .Gt | .ge => .GtE
def Bo.op : Bo → Operator
  | .add => .Add | .sub => .Sub | .mul => .Mult | .mod => .Mod | .fdiv => .FloorDiv | .pow => .Pow
def B1.nm : B1 → Str
  | .abs => "abs" | .int => "int" | .len => "len" | .sum => "sum" | .all => "all" | .any => "any" | .tuple => "tuple" | .list => "list" | .str => "str" | .repr => "repr" | .sorted => "sorted"
def B2.nm : B2 → Str
  | .gcd => "gcd" | .max => "max" | .min => "min"
def Ty.nm : Ty → Str
  | .int => "int" | .bool => "bool" | .tuple => "tuple" | .str => "str" | .list => "list" | .dict => "dict"
structure Ck where
  N : List Str
  rs : List Str
  os : List Str
  ls : List Str
  bl : List Str
  gcd : Bool
  gis : List (Str × Int)
def visB (sc : Scope) (x : Str) : Bool := match sc.names.lookup x with | some .local => true | some .cell => true | some .free => true | _ => false
def locB (sc : Scope) (x : Str) : Bool := match sc.names.lookup x with | some .local => true | some .cell => true | _ => false
def glB (sc : Scope) (x : Str) : Bool := match sc.names.lookup x with | some .globalImplicit => true | _ => false
def fbB : Option Scope → Str → Bool
  | none, _ => true
  | some s, x => s.names.lookup x == some .cell
def nDbg (x : Str) : Bool := !(x == ("__debug__" : Str)) && !(x == ("__classdict__" : Str))
def noStar : Expr → Bool
  | .Starred .. => false
  | _ => true
def noSlice : Expr → Bool
  | .Slice .. => false
  | .Tuple .. => false
  | _ => true
def noSet : Expr → Bool
  | .Set .. => false
  | _ => true
def noComp : Expr → Bool
  | .ListComp .. => false
  | .SetComp .. => false
  | .DictComp .. => false
  | _ => true
def isTup : Expr → Bool
  | .Tuple .. => true
  | _ => false
/-- a name of the def's own -/
def nmOk (C : Ck) (sc : Scope) (i : Nat) (x : Str) : Bool := decide (C.N[i]? = some x) && visB sc x && nDbg x
/-- a builtin that is called by its name -/
def blOk (C : Ck) (sc : Scope) (n x : Str) : Bool := decide (x = n) && decide (x ∈ C.bl) && glB sc x
mutual
def chkTg (N : List Str) (sc : Scope) (fb : Option Scope) : E → Expr → Bool
  | .v i, .Name x _ => decide (N[i]? = some x) && locB sc x && (fbB fb x || decide (sc.names.lookup x = some .local))
  | .tup ts, .Tuple tt _ _ => chkTgs N sc fb ts tt
  | _, _ => false
def chkTgs (N : List Str) (sc : Scope) (fb : Option Scope) : E → List Expr → Bool
  | .nil, [] => true
  | .cons t ts, y :: ys => noStar y && chkTg N sc fb t y && chkTgs N sc fb ts ys
  | _, _ => false
end
/-- zip and enumerate stand behind names in a tuple -/
def tgOk : E → Expr → Bool
  | .zip _ _, t => isTup t
  | .enum _, t => isTup t
  | .ditems _, t => isTup t
  | _, _ => true
/-- the slots that a target takes -/
def tgVs : E → List Nat
  | .v i => [i]
  | .tup ts => tgVs ts
  | .cons t r => tgVs t ++ tgVs r
  | _ => []
def isNil : E → Bool
  | .nil => true
  | _ => false
/-- the parts of an operation -/
def p1X (C : Ck) (sc : Scope) : P1 → Expr → Option Expr
  | .bool, .Call (.Name x _) [e] [] _ => if blOk C sc "bool" x && noStar e then some e else none
  | .minl, .Call (.Name x _) [e] [] _ => if blOk C sc "min" x && noStar e then some e else none
  | .maxl, .Call (.Name x _) [e] [] _ => if blOk C sc "max" x && noStar e then some e else none
  | _, _ => none
def isNmE : Expr → Bool
  | .Name .. => true
  | _ => false
def p2X (C : Ck) (sc : Scope) : P2 → Expr → Option (Expr × Expr)
  | .dix, .Subscript x y _ => if noSlice y then some (x, y) else none
  | .din, .Compare k [.In] [a] _ => if noSet a then some (k, a) else none
  | .dnin, .Compare k [.NotIn] [a] _ => if noSet a then some (k, a) else none
  | .inq, .Compare k [.In] [a] _ => if noSet a then some (k, a) else none
  | .ninq, .Compare k [.NotIn] [a] _ => if noSet a then some (k, a) else none
  | .dget, .Call (.Attribute a m p2) [k] [] p3 => if decide (m = ("get" : Str)) && isNmE a && (p2.endLine == p3.line) && noStar k then some (a, k) else none
  | .divmod, .Call (.Name x _) [e, e2] [] _ => if blOk C sc "divmod" x && noStar e && noStar e2 then some (e, e2) else none
  | _, _ => none
def p3X : P3 → Expr → Option (Expr × Expr × Expr)
  | .dget, .Call (.Attribute a m p2) [k, x] [] p3 => if decide (m = ("get" : Str)) && isNmE a && (p2.endLine == p3.line) && noStar k && noStar x then some (a, k, x) else none
  | _, _ => none
mutual
def chk (C : Ck) : E → Scope → Option Scope → Expr → Bool
  | .v i, sc, _, .Name x _ => nmOk C sc i x
  | .gi x n, sc, _, .Name y _ => decide (y = x) && glB sc y && nDbg y && decide ((x, n) ∈ C.gis)
  | .int i, _, _, .Constant (.int j) _ _ => decide (i = j)
  | .bool i, _, _, .Constant (.bool j) _ _ => decide (i = j)
  | .non, _, _, .Constant .none _ _ => true
  | .str i, _, _, .Constant (.str j) _ _ => decide (i = j)
  | .bin o a b, sc, fb, .BinOp l op r _ => decide (op = o.op) && chk C a sc fb l && chk C b sc fb r
  | .neg a, sc, fb, .UnaryOp .USub x _ => chk C a sc fb x
  | .cmp o a b, sc, fb, .Compare l [op] [r] _ => decide (op = o.op) && chk C a sc fb l && chk C b sc fb r
  | .eq a b, sc, fb, .Compare l [.Eq] [r] _ => chk C a sc fb l && chk C b sc fb r
  | .ne a b, sc, fb, .Compare l [.NotEq] [r] _ => chk C a sc fb l && chk C b sc fb r
  | .isn a, sc, fb, .Compare l [.Is] [.Constant .none _ _] _ => chk C a sc fb l
  | .isnt a, sc, fb, .Compare l [.IsNot] [.Constant .none _ _] _ => chk C a sc fb l
  | .chain o p a b c, sc, fb, .Compare l [op, op'] [m, r] _ => decide (op = o.op) && decide (op' = p.op) && chk C a sc fb l && chk C b sc fb m && chk C c sc fb r
  | .chain3 o p q a b c d, sc, fb, .Compare l [op, op', op2] [m, r, u] _ => decide (op = o.op) && decide (op' = p.op) && decide (op2 = q.op) && chk C a sc fb l && chk C b sc fb m && chk C c sc fb r && chk C d sc fb u
  | .and a b, sc, fb, .BoolOp .And vs pos => match vs with
    | [x, y] => chk C a sc fb x && chk C b sc fb y
    | x :: y :: z :: r => chk C a sc fb x && chk C b sc fb (.BoolOp .And (y :: z :: r) pos)
    | _ => false
  | .or a b, sc, fb, .BoolOp .Or vs pos => match vs with
    | [x, y] => chk C a sc fb x && chk C b sc fb y
    | x :: y :: z :: r => chk C a sc fb x && chk C b sc fb (.BoolOp .Or (y :: z :: r) pos)
    | _ => false
  | .not a, sc, fb, .UnaryOp .Not x _ => chk C a sc fb x
  | .ife c a b, sc, fb, .IfExp t x y _ => chk C c sc fb t && chk C a sc fb x && chk C b sc fb y
  | .tup as, sc, fb, .Tuple xs _ _ => chkA C as sc fb xs
  | .lst as, sc, fb, .List xs _ => chkA C as sc fb xs
  | .dnew, _, _, .Dict [] [] _ => true
  | .call f as, sc, fb, .Call (.Name x _) (y :: ys) [] _ => decide (C.rs[f]? = some x) && glB sc x && nDbg x && chkA C as sc fb (y :: ys)
  | .calll f as, sc, fb, .Call (.Name x _) (y :: ys) [] _ => decide (C.ls[f]? = some x) && glB sc x && nDbg x && chkA C as sc fb (y :: ys)
  | .callo f i as, sc, fb, .Call (.Name x _) (.Name y _ :: ys) [] _ => decide (C.os[f]? = some x) && glB sc x && nDbg x && nmOk C sc i y && chkA C as sc fb ys
  | .b1 k a, sc, fb, .Call (.Name x _) [e] [] _ => blOk C sc k.nm x && noStar e && chk C a sc fb e
  | .b2 k a b, sc, fb, .Call (.Name x _) [e, e2] [] _ => (decide (x = k.nm) && (match k with | .gcd => C.gcd | _ => decide (x ∈ C.bl)) && glB sc x) && noStar e && noStar e2 && chk C a sc fb e && chk C b sc fb e2
  | .isi t a, sc, fb, .Call (.Name x _) [e, .Name T _] [] _ => blOk C sc "isinstance" x && blOk C sc t.nm T && noStar e && chk C a sc fb e
  | .ix a b, sc, fb, .Subscript x y _ => noSlice y && chk C a sc fb x && chk C b sc fb y
  | .ixo i b, sc, fb, .Subscript (.Name x _) y _ => noSlice y && nmOk C sc i x && chk C b sc fb y
  | .sl a lo hi, sc, fb, .Subscript x (.Slice l h none _) _ => chk C a sc fb x && (match l with | none => isNil lo | some y => !isNil lo && chk C lo sc fb y) && (match h with | none => isNil hi | some y => !isNil hi && chk C hi sc fb y)
  | .slt a lo hi, sc, fb, .Subscript x (.Slice l h none _) _ => chk C a sc fb x && (match l with | none => isNil lo | some y => !isNil lo && chk C lo sc fb y) && (match h with | none => isNil hi | some y => !isNil hi && chk C hi sc fb y)
  | .inn a b, sc, fb, .Compare l [.In] [r] _ => noSet r && chk C a sc fb l && chk C b sc fb r
  | .lc vs tg it c e, sc, fb, .ListComp elt [⟨t, i, ifs, 0⟩] scope _ => decide (vs = tgVs tg) && blkC C.N sc scope (vs.map fun v => (C.N.getD v "", v)) && chkTg C.N (relS scope sc) (some scope) tg t && noSet i && tgOk it t && chk C it sc fb i &&
      (match ifs with | [] => isNil c | [x] => !isNil c && chk C c (relS scope sc) (some scope) x | _ => false) && chk C e (relS scope sc) (some scope) elt
  | .range1 a, sc, fb, .Call (.Name x _) [e] [] _ => blOk C sc "range" x && noStar e && chk C a sc fb e
  | .range2 a b, sc, fb, .Call (.Name x _) [e, e2] [] _ => blOk C sc "range" x && noStar e && noStar e2 && chk C a sc fb e && chk C b sc fb e2
  | .zip a b, sc, fb, .Call (.Name x _) [e, e2] [] _ => blOk C sc "zip" x && noStar e && noStar e2 && chk C a sc fb e && chk C b sc fb e2
  | .enum a, sc, fb, .Call (.Name x _) [e] [] _ => blOk C sc "enumerate" x && noStar e && chk C a sc fb e
  | .p1 k a, sc, fb, e => match p1X C sc k e with | some x => chk C a sc fb x | none => false
  | .p2 k a b, sc, fb, e => match p2X C sc k e with | some (x, y) => chk C a sc fb x && chk C b sc fb y | none => false
  | .p3 k a b c, sc, fb, e => match p3X k e with | some (x, y, z) => chk C a sc fb x && chk C b sc fb y && chk C c sc fb z | none => false
  | .dino n i k, sc, fb, .Compare l [op] [.Name x _] _ => decide (op = if n then .NotIn else .In) && nmOk C sc i x && chk C k sc fb l
  | .dgeto i k x, sc, fb, .Call (.Attribute (.Name y _) m p2) [e, e2] [] p3 => decide (m = ("get" : Str)) && (p2.endLine == p3.line) && nmOk C sc i y && noStar e && noStar e2 && chk C k sc fb e && chk C x sc fb e2
  | .dvals i v, sc, _, .ListComp (.Subscript (.Name y _) (.Name x _) _) [⟨.Name x2 _, .Name y2 _, [], 0⟩] scope _ => decide (x2 = x) && decide (y2 = y) && nmOk C sc i y && visB (relS scope sc) y && decide (C.N[v]? = some x) && nDbg x && blkC C.N sc scope [(x, v)] && locB (relS scope sc) x && (fbB (some scope) x || decide ((relS scope sc).names.lookup x = some .local)) && decide (i ≠ v)
  | .dkeys a, sc, fb, e => noSet e && chk C a sc fb e
  | .ditems a, sc, fb, .Call (.Attribute e m p2) [] [] p3 => decide (m = ("items" : Str)) && (match e with | .Name .. => true | .Call (.Name ..) (_ :: _) _ _ => true | _ => false) && (p2.endLine == p3.line) && chk C a sc fb e
  | _, _, _, _ => false
def chkA (C : Ck) : E → Scope → Option Scope → List Expr → Bool
  | .nil, _, _, [] => true
  | .cons a as, sc, fb, y :: ys => noStar y && chk C a sc fb y && chkA C as sc fb ys
  | _, _, _, _ => false
end

/-! ### where a text stands -/
structure Gd (Φ : Ph) (C : Ck) (j : Nat) (X : Cy) (sc : Scope) (fb : Option Scope) : Prop where
  hN : X.N = C.N
  nd : C.N.Nodup
  hsc : X.env.scope = sc
  kind : sc.kind = .function
  calm : X.calm = true
  room : Room j X.A
  blt : ∀ x ∈ C.bl, X.mg x = none
  gcd : C.gcd = true → X.mg "gcd" = some (.builtin "math.gcd")
  gi : ∀ p ∈ C.gis, ∃ t, X.mg p.1 = some (.int p.2 t)
  fn : ∀ x, fbB fb x = true → X.fn x = true
  cr : ∀ f x, C.rs[f]? = some x → ∃ k, k ≤ j ∧ Fn X.prog X.w X.K X.mg X.base x k (spR X.K X.mg (Φ.r f))
  co : ∀ f x, C.os[f]? = some x → ∃ k, k ≤ j ∧ Fn X.prog X.w X.K X.mg X.base x k (spO X.K X.mg (Φ.o f))
  cl : ∀ f x, C.ls[f]? = some x → ∃ k, k ≤ j ∧ Fn X.prog X.w X.K X.mg X.base x k (spL X.K X.mg (Φ.l f))
  kp : X.κ = Φ.κ
section
variable {Φ : Ph} {C : Ck} {j : Nat} {X : Cy} {sc : Scope} {fb : Option Scope} {es : List Sl} {Ψ : Dt → List Sl → Prop} {Θ : Bool → List Sl → Prop} {a b c e : Expr} {pos p : Pos} {x : Str}
theorem Gd.vis (g : Gd Φ C j X sc fb) (h : visB sc x = true) : Vis X.env.scope x := by
  rw [g.hsc]
  unfold visB at h
  unfold Vis
  split at h
  · rename_i e; exact .inl e
  · rename_i e; exact .inr (.inl e)
  · rename_i e; exact .inr (.inr e)
  · cases h
theorem Gd.loc (g : Gd Φ C j X sc fb) (h : locB sc x = true) : L2.Loc X.env.scope x := by
  rw [g.hsc]
  unfold locB at h
  unfold L2.Loc
  split at h
  · rename_i e; exact .inl e
  · rename_i e; exact .inr e
  · cases h
theorem Gd.gl (g : Gd Φ C j X sc fb) (h : glB sc x = true) : Gl X x := by
  unfold Gl
  show X.env.scope.names.lookup x = _
  rw [g.hsc]
  unfold glB at h
  split at h
  · rename_i e; exact e
  · cases h
theorem relabel_eq {scope : Scope} {env : Env} : relabel scope env = relS scope env.scope := rfl
theorem Gd.blk (g : Gd Φ C j X sc fb) {scope : Scope} (hk : scope.kind = .function) (s : Shared) (H : Hp) (Ca : Addr) (cl : List (Str × Addr)) (fp : List Addr) : Gd Φ.nk C j (X.blk s H scope (compEnvC scope cl Ca X.env) fp) (relS scope sc) (some scope) :=
  ⟨g.hN, g.nd, by show relabel scope X.env = _; rw [relabel_eq, g.hsc], hk, g.calm, g.room, g.blt, g.gcd, g.gi, fun x h => h, g.cr, g.co, g.cl, rfl⟩
theorem nm_ok (g : Gd Φ C j X sc fb) {i : Nat} (h : nmOk C sc i x = true) : X.N[i]? = some x ∧ Vis X.env.scope x ∧ (x == ("__debug__" : Str)) = false ∧ (x == ("__classdict__" : Str)) = false := by
  unfold nmOk nDbg at h
  simp only [Bool.and_eq_true, decide_eq_true_eq, Bool.not_eq_true'] at h
  exact ⟨by rw [g.hN]; exact h.1.1, g.vis h.1.2, h.2.1, h.2.2⟩
theorem bl_ok (g : Gd Φ C j X sc fb) {n : Str} (h : blOk C sc n x = true) : x = n ∧ X.mg x = none ∧ Gl X x := by
  unfold blOk at h
  simp only [Bool.and_eq_true, decide_eq_true_eq] at h
  exact ⟨h.1.1, g.blt _ h.1.2, g.gl h.2⟩
theorem star_ok (h : noStar e = true) (r : List Expr) (env : Env) : starEach (e :: r) env = (false, eval e env) :: starEach r env := by
  cases e <;> first | rfl | (cases h)
theorem bt_cons (pos : Pos) (x : Bool × Sem Value) (r : List (Bool × Sem Value)) : (backTo pos (x :: r)).any (·.1) = (x.1 || (backTo pos r).any (·.1)) := by
  unfold backTo
  rfl
theorem star_any (pos : Pos) (env : Env) : ∀ (as : List Expr), as.all noStar = true → (backTo pos (starEach as env)).any (·.1) = false
  | [], _ => rfl
  | e :: r, h => by
    rw [List.all_cons, Bool.and_eq_true] at h
    rw [star_ok h.1, bt_cons, star_any pos env r h.2]; rfl
theorem set_ok (h : noSet e = true) (env : Env) : ∀ x, foldedSetIterable e env x = pure x := fun x => by
  cases e <;> first | rfl | (cases h)
theorem slice_ok (h : noSlice e = true) : PlainIx e := by
  cases e <;> first | (intro o i; rfl) | (cases h)
theorem comp_ok (h : noComp e = true) (t : Option Expr) (l : Nat) (env : Env) : swapsWith e t l env = pure false := by
  cases e <;> first | rfl | (cases h)
theorem in_ok (h : noSet e = true) : behindInMarks .In e = false := by
  cases e <;> first | rfl | (cases h)
/-! ### operators -/
/-- what a two-place operation on data is -/
def Dop (X : Cy) (es : List Sl) (r : R2) (W : Dt → Dt → (Dt → Prop) → Prop) : Prop := ∀ (F : Fm) (B H : Hp) (σ : L2.St) (v v2 : V) (d d2 : Dt) (Ψ : Dt → Prop) (Q : VK), En X F B H σ es → Dq X.K B v d → Dq X.K B v2 d2 → W d d2 Ψ →
  (∀ (u : V) (dd : Dt) (B' H' : Hp), Ψ dd → En X F B' H' σ es → Stp σ B H es B' H' es → Dq X.K B' u dd → Q u H') → r v v2 H Q
theorem vp_dop {op : Operator} {r : R2} {W : Dt → Dt → (Dt → Prop) → Prop} (ho : OpR X (binaryOp op) r) (hw : ∀ es, Dop X es r W) (h : VP X es a fun d es1 => VP X es1 b fun d2 es2 => W d d2 fun r => Ψ r es2) : VP X es (.BinOp a op b pos) Ψ := fun F B H σ I Q q => by
  refine EX.of (pe_op ho pe_self pe_self) ?_
  refine h F B H σ I _ fun v d B1 H1 es1 hb I1 S1 D1 => ?_
  refine hb F B1 H1 σ I1 _ fun v2 d2 B2 H2 es2 hW I2 S2 D2 => ?_
  exact hw es2 F B2 H2 σ v v2 d d2 _ Q I2 (S2.eb.dp _ _ D1) D2 hW fun u dd B' H' hq I' S' D' => q u dd B' H' es2 hq I' ((S1.tr S2).tr S') D'
theorem vp_dcmp {op : CmpOp} {r : R2} {W : Dt → Dt → (Dt → Prop) → Prop} (ho : OpR X (compareOp op) r) (hm : behindInMarks op b = false) (hw : ∀ es, Dop X es r W) (h : VP X es a fun d es1 => VP X es1 b fun d2 es2 => W d d2 fun r => Ψ r es2) : VP X es (.Compare a [op] [b] pos) Ψ := fun F B H σ I Q q => by
  refine EX.of (pe_cmpR ho pe_self pe_self hm) ?_
  refine h F B H σ I _ fun v d B1 H1 es1 hb I1 S1 D1 => ?_
  refine hb F B1 H1 σ I1 _ fun v2 d2 B2 H2 es2 hW I2 S2 D2 => ?_
  exact hw es2 F B2 H2 σ v v2 d d2 _ Q I2 (S2.eb.dp _ _ D1) D2 hW fun u dd B' H' hq I' S' D' => q u dd B' H' es2 hq I' ((S1.tr S2).tr S') D'
theorem dop_add : Dop X es (fun x y H Q => rI0 (fun i j => .int (i + j)) x y H Q ∨ rCat x y H Q ∨ rCatA X.K x y H Q) (binW .add) := fun F B H σ v v2 d d2 Ψ Q I D1 D2 hw q => by
  cases d <;> cases d2 <;> try exact False.elim hw
  · cases D1; cases D2
    exact .inl ⟨_, _, rfl, rfl, q _ _ B H hw I Stp.rfl' (.int _)⟩
  · obtain ⟨hl, hq⟩ := hw
    cases D1 with
    | lst h1 h2 =>
      cases D2 with
      | lst g1 g2 =>
        refine .inr (.inl ⟨_, _, _, _, rfl, rfl, I.bh _ _ h1, I.bh _ _ g1, by rw [dpa_len h2, dpa_len g2]; exact Nat.le_trans hl (by decide), fun p hp => ?_⟩)
        exact q _ _ _ _ hq (I.new hp) (Stp.new I hp) (.lst upd_same ((I.newB hp).dpa _ _ (dpa_app h2 g2)))
  · obtain ⟨hl, hq⟩ := hw
    cases D1 with
    | tup h1 h2 =>
      cases D2 with
      | tup g1 g2 =>
        have n1 := dpa_len h2
        have n2 := dpa_len g2
        refine .inr (.inr ⟨_, _, _, _, rfl, rfl, I.bh.sqt h1, I.bh.sqt g1, by rw [n1, n2]; exact Nat.le_trans hl (by decide), fun z => ?_, fun _ z => ?_, fun _ _ p hp => ?_⟩)
        · have e := List.eq_nil_of_length_eq_zero (by rw [← n1, z]; rfl)
          subst e
          exact q _ _ _ _ hq I Stp.rfl' (.tup g1 g2)
        · have e := List.eq_nil_of_length_eq_zero (by rw [← n2, z]; rfl)
          subst e
          rw [List.append_nil] at hq
          exact q _ _ _ _ hq I Stp.rfl' (.tup h1 h2)
        · exact q _ _ _ _ hq (I.new hp) (Stp.new I hp) (.tup (.inl (.inl upd_same)) ((I.newB hp).dpa _ _ (dpa_app h2 g2)))
theorem dop_sub : Dop X es (rI0 fun i j => .int (i - j)) (binW .sub) := fun F B H σ v v2 d d2 Ψ Q I D1 D2 hw q => by
  cases d <;> cases d2 <;> try exact False.elim hw
  cases D1; cases D2
  exact ⟨_, _, rfl, rfl, q _ _ B H hw I Stp.rfl' (.int _)⟩
theorem dop_mul : Dop X es (fun x y H Q => rI CMulX (fun i j => .int (i * j)) x y H Q ∨ rRep x y H Q) (binW .mul) := fun F B H σ v v2 d d2 Ψ Q I D1 D2 hw q => by
  cases d <;> cases d2 <;> try exact False.elim hw
  · cases D1; cases D2
    exact .inl ⟨_, _, rfl, rfl, hw.1, q _ _ B H hw.2 I Stp.rfl' (.int _)⟩
  · obtain ⟨⟨k1, k2, hl⟩, hq⟩ := hw
    cases D2
    cases D1 with
    | lst h1 h2 =>
      refine .inr ⟨_, _, _, rfl, rfl, I.bh _ _ h1, k1, k2, by rw [dpa_len h2]; exact Nat.le_trans hl (by decide), fun p hp => ?_⟩
      exact q _ _ _ _ hq (I.new hp) (Stp.new I hp) (.lst upd_same ((I.newB hp).dpa _ _ (dqa_rep h2 _)))
theorem dop_mod : Dop X es (rI (fun _ j => 0 < j) fun i j => .int (i % j)) (binW .mod) := fun F B H σ v v2 d d2 Ψ Q I D1 D2 hw q => by
  cases d <;> cases d2 <;> try exact False.elim hw
  cases D1; cases D2
  exact ⟨_, _, rfl, rfl, hw.1, q _ _ B H hw.2 I Stp.rfl' (.int _)⟩
theorem dop_fdiv : Dop X es (rI CDivV fun i j => .int (i.fdiv j)) (binW .fdiv) := fun F B H σ v v2 d d2 Ψ Q I D1 D2 hw q => by
  cases d <;> cases d2 <;> try exact False.elim hw
  cases D1; cases D2
  exact ⟨_, _, rfl, rfl, hw.1, q _ _ B H hw.2 I Stp.rfl' (.int _)⟩
theorem dop_pow : Dop X es (rI CPow fun i j => .int (i ^ j.toNat)) (binW .pow) := fun F B H σ v v2 d d2 Ψ Q I D1 D2 hw q => by
  cases d <;> cases d2 <;> try exact False.elim hw
  cases D1; cases D2
  exact ⟨_, _, rfl, rfl, hw.1, q _ _ B H hw.2 I Stp.rfl' (.int _)⟩
theorem vp_bin (o : Bo) (h : VP X es a fun d es1 => VP X es1 b fun d2 es2 => binW o d d2 fun r => Ψ r es2) : VP X es (.BinOp a o.op b pos) Ψ := by
  cases o with
  | add => exact vp_dop (OpR.or op_add (OpR.or op_cat op_catA)) (fun es => dop_add) h
  | sub => exact vp_dop op_sub (fun es => dop_sub) h
  | mul => exact vp_dop (OpR.or op_mulX op_rep) (fun es => dop_mul) h
  | mod => exact vp_dop op_mod (fun es => dop_mod) h
  | fdiv => exact vp_dop op_fdivV (fun es => dop_fdiv) h
  | pow => exact vp_dop op_pow (fun es => dop_pow) h
theorem op_cm (o : Cm) : OpR X (compareOp o.op) (rI0 fun i j => .bl (o.f i j)) := by
  cases o
  · exact op_lt
  · exact op_le
  · exact op_gt
  · exact op_ge
theorem nomark_cm (o : Cm) : behindInMarks o.op b = false := by
  cases o <;> exact nomark b
theorem dop_cm (o : Cm) : Dop X es (rI0 fun i j => .bl (o.f i j)) (cmpW o) := fun F B H σ v v2 d d2 Ψ Q I D1 D2 hw q => by
  cases d <;> cases d2 <;> try exact False.elim hw
  cases D1; cases D2
  exact ⟨_, _, rfl, rfl, q _ _ B H hw I Stp.rfl' (.bl _)⟩
theorem vp_cm (o : Cm) (h : VP X es a fun d es1 => VP X es1 b fun d2 es2 => cmpW o d d2 fun r => Ψ r es2) : VP X es (.Compare a [o.op] [b] pos) Ψ := vp_dcmp (op_cm o) (nomark_cm o) (fun es => dop_cm o) h
theorem vt_cm (o : Cm) (h : VP X es a fun d es1 => VP X es1 b fun d2 es2 => intW d fun i => intW d2 fun j => Θ (o.f i j) es2) : VT X es (.Compare a [o.op] [b] pos) Θ := fun F B H σ I Q q => by
  refine TX.of (pt_cmpR (op_cm o) pe_self pe_self (nomark_cm o)) ?_
  refine h F B H σ I _ fun v d B1 H1 es1 hb I1 S1 D1 => ?_
  refine hb F B1 H1 σ I1 _ fun v2 d2 B2 H2 es2 hq I2 S2 D2 => ?_
  cases d <;> try exact False.elim hq
  cases d2 <;> try exact False.elim hq
  cases D1; cases D2
  exact ⟨_, _, rfl, rfl, _, rfl, q _ B2 H2 es2 hq I2 (S1.tr S2)⟩
theorem un_neg1 (h : VP X es a fun d es1 => negW d fun r => Ψ r es1) : VP X es (.UnaryOp .USub a pos) Ψ := vp_neg (h.imp fun d es1 hw => by
  cases d <;> first | exact ⟨_, rfl, hw⟩ | exact False.elim hw)
theorem vp_chainW (o p : Cm) (h : VP X es a fun d es1 => VP X es1 b fun d2 es2 => intW d fun i => intW d2 fun j => (o.f i j = true → VP X es2 c fun d3 es3 => intW d3 fun k => Ψ (.bool (p.f j k)) es3) ∧ (o.f i j = false → Ψ (.bool false) es2)) : VP X es (.Compare a [o.op, p.op] [b, c] pos) Ψ := fun F B H σ I Q q => by
  have hm : lastMarks [o.op, p.op] [b, c] = false := nomark_cm p
  refine EX.of (pe_chain (op_cm o) (op_cm p) pe_self pe_self pe_self hm) ?_
  refine h F B H σ I _ fun v d B1 H1 es1 hb I1 S1 D1 => ?_
  refine hb F B1 H1 σ I1 _ fun v2 d2 B2 H2 es2 hw I2 S2 D2 => ?_
  cases d <;> try exact False.elim hw
  cases d2 <;> try exact False.elim hw
  rename_i i j
  cases D1; cases D2
  obtain ⟨ht, hf⟩ := hw
  refine ⟨i, j, rfl, rfl, _, rfl, ?_⟩
  cases eg : o.f i j with
  | true =>
    refine iteT ?_
    refine ht eg F B2 H2 σ I2 _ fun v3 d3 B3 H3 es3 hq I3 S3 D3 => ?_
    cases d3 <;> try exact False.elim hq
    cases D3
    exact ⟨j, _, rfl, rfl, q _ _ B3 H3 es3 hq I3 ((S1.tr S2).tr S3) (.bl _)⟩
  | false =>
    refine iteF ?_
    exact q _ _ B2 H2 es2 (hf eg) I2 (S1.tr S2) (.bl _)
theorem vt_chainW (o p : Cm) (h : VP X es a fun d es1 => VP X es1 b fun d2 es2 => intW d fun i => intW d2 fun j => (o.f i j = true → VP X es2 c fun d3 es3 => intW d3 fun k => Θ (p.f j k) es3) ∧ (o.f i j = false → Θ false es2)) : VT X es (.Compare a [o.op, p.op] [b, c] pos) Θ := fun F B H σ I Q q => by
  have hm : lastMarks [o.op, p.op] [b, c] = false := nomark_cm p
  refine TX.of (pt_chain (op_cm o) (op_cm p) pe_self pe_self pe_self hm) ?_
  refine h F B H σ I _ fun v d B1 H1 es1 hb I1 S1 D1 => ?_
  refine hb F B1 H1 σ I1 _ fun v2 d2 B2 H2 es2 hw I2 S2 D2 => ?_
  cases d <;> try exact False.elim hw
  cases d2 <;> try exact False.elim hw
  rename_i i j
  cases D1; cases D2
  obtain ⟨ht, hf⟩ := hw
  refine ⟨i, j, rfl, rfl, _, rfl, ?_⟩
  cases eg : o.f i j with
  | true =>
    refine iteT ?_
    refine ht eg F B2 H2 σ I2 _ fun v3 d3 B3 H3 es3 hq I3 S3 D3 => ?_
    cases d3 <;> try exact False.elim hq
    cases D3
    exact ⟨j, _, rfl, rfl, _, rfl, q _ B3 H3 es3 hq I3 ((S1.tr S2).tr S3)⟩
  | false =>
    refine iteF ?_
    exact ⟨_, rfl, q _ B2 H2 es2 (hf eg) I2 (S1.tr S2)⟩
theorem vp_chain3W (o p q3 : Cm) {dd : Expr} (h : VP X es a fun d es1 => VP X es1 b fun d2 es2 => intW d fun i => intW d2 fun j => (o.f i j = true → VP X es2 c fun d3 es3 => intW d3 fun k => (p.f j k = true → VP X es3 dd fun d4 es4 => intW d4 fun l => Ψ (.bool (q3.f k l)) es4) ∧ (p.f j k = false → Ψ (.bool false) es3)) ∧ (o.f i j = false → Ψ (.bool false) es2)) : VP X es (.Compare a [o.op, p.op, q3.op] [b, c, dd] pos) Ψ := fun F B H σ I Q q => by
  have hm : lastMarks [o.op, p.op, q3.op] [b, c, dd] = false := nomark_cm q3
  refine EX.of (pe_chain3 (op_cm o) (op_cm p) (op_cm q3) pe_self pe_self pe_self pe_self hm) ?_
  refine h F B H σ I _ fun v d B1 H1 es1 hb I1 S1 D1 => ?_
  refine hb F B1 H1 σ I1 _ fun v2 d2 B2 H2 es2 hw I2 S2 D2 => ?_
  cases d <;> try exact False.elim hw
  cases d2 <;> try exact False.elim hw
  rename_i i j
  cases D1; cases D2
  obtain ⟨ht, hf⟩ := hw
  refine ⟨i, j, rfl, rfl, _, rfl, ?_⟩
  cases eg : o.f i j with
  | true =>
    refine iteT ?_
    refine ht eg F B2 H2 σ I2 _ fun v3 d3 B3 H3 es3 hq I3 S3 D3 => ?_
    cases d3 <;> try exact False.elim hq
    rename_i k
    cases D3
    obtain ⟨ht, hf⟩ := hq
    refine ⟨j, k, rfl, rfl, _, rfl, ?_⟩
    cases eg2 : p.f j k with
    | true =>
      refine iteT ?_
      refine ht eg2 F B3 H3 σ I3 _ fun v4 d4 B4 H4 es4 hq4 I4 S4 D4 => ?_
      cases d4 <;> try exact False.elim hq4
      cases D4
      exact ⟨k, _, rfl, rfl, q _ _ B4 H4 es4 hq4 I4 (((S1.tr S2).tr S3).tr S4) (.bl _)⟩
    | false =>
      refine iteF ?_
      exact q _ _ B3 H3 es3 (hf eg2) I3 ((S1.tr S2).tr S3) (.bl _)
  | false =>
    refine iteF ?_
    exact q _ _ B2 H2 es2 (hf eg) I2 (S1.tr S2) (.bl _)
theorem vt_chain3W (o p q3 : Cm) {dd : Expr} (h : VP X es a fun d es1 => VP X es1 b fun d2 es2 => intW d fun i => intW d2 fun j => (o.f i j = true → VP X es2 c fun d3 es3 => intW d3 fun k => (p.f j k = true → VP X es3 dd fun d4 es4 => intW d4 fun l => Θ (q3.f k l) es4) ∧ (p.f j k = false → Θ false es3)) ∧ (o.f i j = false → Θ false es2)) : VT X es (.Compare a [o.op, p.op, q3.op] [b, c, dd] pos) Θ := fun F B H σ I Q q => by
  have hm : lastMarks [o.op, p.op, q3.op] [b, c, dd] = false := nomark_cm q3
  refine TX.of (pt_chain3 (op_cm o) (op_cm p) (op_cm q3) pe_self pe_self pe_self pe_self hm) ?_
  refine h F B H σ I _ fun v d B1 H1 es1 hb I1 S1 D1 => ?_
  refine hb F B1 H1 σ I1 _ fun v2 d2 B2 H2 es2 hw I2 S2 D2 => ?_
  cases d <;> try exact False.elim hw
  cases d2 <;> try exact False.elim hw
  rename_i i j
  cases D1; cases D2
  obtain ⟨ht, hf⟩ := hw
  refine ⟨i, j, rfl, rfl, _, rfl, ?_⟩
  cases eg : o.f i j with
  | true =>
    refine iteT ?_
    refine ht eg F B2 H2 σ I2 _ fun v3 d3 B3 H3 es3 hq I3 S3 D3 => ?_
    cases d3 <;> try exact False.elim hq
    rename_i k
    cases D3
    obtain ⟨ht, hf⟩ := hq
    refine ⟨j, k, rfl, rfl, _, rfl, ?_⟩
    cases eg2 : p.f j k with
    | true =>
      refine iteT ?_
      refine ht eg2 F B3 H3 σ I3 _ fun v4 d4 B4 H4 es4 hq4 I4 S4 D4 => ?_
      cases d4 <;> try exact False.elim hq4
      cases D4
      exact ⟨k, _, rfl, rfl, _, rfl, q _ B4 H4 es4 hq4 I4 (((S1.tr S2).tr S3).tr S4)⟩
    | false =>
      refine iteF ?_
      exact ⟨_, rfl, q _ B3 H3 es3 (hf eg2) I3 ((S1.tr S2).tr S3)⟩
  | false =>
    refine iteF ?_
    exact ⟨_, rfl, q _ B2 H2 es2 (hf eg) I2 (S1.tr S2)⟩
theorem dpa_empty {K : PySem.W.Frag} {B : Hp} {vs : List V} {ds : List Dt} (h : DqAll K B vs ds) : (!ds.isEmpty) = !vs.isEmpty := by
  cases h <;> rfl
theorem vt_tru (h : VP X es e fun d es1 => truW d fun p => Θ p es1) (he : ∀ whole, isTrue e X.env whole = (do let v ← whole; standAt e.pos; holding [v] (truthy v))) : VT X es e Θ := fun F B H σ I Q q => by
  refine TX.of (pt_truth pe_self he) ?_
  refine h F B H σ I _ fun v d B1 H1 es1 hw I1 S1 D1 => ?_
  cases d <;> try exact False.elim hw
  · cases D1
    exact ⟨_, rfl, q _ B1 H1 es1 hw I1 S1⟩
  · cases D1
    exact ⟨_, rfl, q _ B1 H1 es1 hw I1 S1⟩
  · cases D1
    exact ⟨_, rfl, q _ B1 H1 es1 hw I1 S1⟩
  · cases D1 with
    | lst h1 h2 => exact ⟨_, .inl ⟨_, .inl (.inl (I1.bh _ _ h1)), dpa_empty h2⟩, q _ B1 H1 es1 hw I1 S1⟩
  · cases D1 with
    | tup h1 h2 => exact ⟨_, .inr (.inl ⟨_, I1.bh.sqt h1, dpa_empty h2⟩), q _ B1 H1 es1 hw I1 S1⟩
  · cases D1 with
    | scr h1 h2 => exact ⟨_, .inl ⟨_, I1.bh.sql h1, dpa_empty h2⟩, q _ B1 H1 es1 hw I1 S1⟩
theorem seqW_iff {d : Dt} {k : List Dt → Prop} (h : seqW d k) : ∃ xs, SeqD d xs ∧ k xs := by
  cases d <;> first | exact False.elim h | exact ⟨_, .inl rfl, h⟩ | exact ⟨_, .inr (.inl rfl), h⟩ | exact ⟨_, .inr (.inr rfl), h⟩
theorem intW_iff {d : Dt} {k : Int → Prop} (h : intW d k) : ∃ i, d = .int i ∧ k i := by
  cases d <;> first | exact False.elim h | exact ⟨_, rfl, h⟩
theorem boolW_iff {d : Dt} {k : Bool → Prop} (h : boolW d k) : ∃ i, d = .bool i ∧ k i := by
  cases d <;> first | exact False.elim h | exact ⟨_, rfl, h⟩
theorem ini_eq (s : String) : s.toList = s.toList := rfl
/-- builtins of one argument -/
theorem vp_b1 (k : B1) (hm : X.mg k.nm = none) (hg : Gl X k.nm) (hc : X.calm = true) (hs : noStar e = true) (h : VP X es e fun d es1 => b1W k d fun r => Ψ r es1) : VP X es (.Call (.Name k.nm p) [e] [] pos) Ψ := by
  have he : starEach (e :: []) X.env = (false, eval e X.env) :: starEach [] X.env := star_ok hs [] X.env
  have hpl : (backTo pos (starEach [] X.env)).any (·.1) = false := rfl
  cases k with
  | abs => exact vp_abs hm hg (h.imp fun d es1 hw => intW_iff hw) he hpl
  | int => exact vp_int1 hm hg (h.imp fun d es1 hw => by
      cases d <;> first | exact .inl ⟨_, rfl, hw⟩ | exact .inr ⟨_, rfl, hw⟩ | exact False.elim hw) he hpl
  | len => exact vp_len hm hg (h.imp fun d es1 hw => seqW_iff hw) he hpl
  | sum => exact vp_sum hm hg hc h he hpl
  | all => exact vp_all hm hg hc h he hpl
  | any => exact vp_any hm hg hc h he hpl
  | tuple => exact vp_tuple hm hg (h.imp fun d es1 hw => seqW_iff hw) he hpl
  | list => exact vp_listOf hm hg (h.imp fun d es1 hw => seqW_iff hw) he hpl
  | str => exact vp_strI hm hg (h.imp fun d es1 hw => by obtain ⟨i, h1, h2, h3⟩ := intW_iff hw; exact ⟨i, h1, h2, h3⟩) he hpl
  | repr => exact vp_reprB hm hg (h.imp fun d es1 hw => by obtain ⟨i, h1, h2⟩ := boolW_iff hw; exact ⟨i, h1, h2⟩) he hpl
  | sorted => exact vp_sortedI hm hg h he hpl
theorem b2_iff {k : B2} {d d2 : Dt} {K : Dt → Prop} (h : b2W k d d2 K) : ∃ i j, d = .int i ∧ d2 = .int j := by
  cases k <;> cases d <;> first | exact False.elim h | (cases d2 <;> first | exact False.elim h | exact ⟨_, _, rfl, rfl⟩)
theorem va_two {e2 : Expr} {Λ : List Dt → List Sl → Prop} (h : VP X es e fun d es1 => VP X es1 e2 fun d2 es2 => Λ [d, d2] es2) (he : starEach (e :: [e2]) X.env = (false, eval e X.env) :: starEach [e2] X.env) (he2 : starEach (e2 :: []) X.env = (false, eval e2 X.env) :: starEach [] X.env) : VA X es [e, e2] Λ :=
  va_cons (h.imp fun d es1 hb => va_cons (hb.imp fun d2 es2 hq => va_nil hq) he2) he
theorem vp_b2 {e2 : Expr} (k : B2) (hm : match k with | .gcd => X.mg "gcd" = some (.builtin "math.gcd") | .max => X.mg "max" = none | .min => X.mg "min" = none) (hg : Gl X k.nm) (hc : X.calm = true) (hs : noStar e = true) (hs2 : noStar e2 = true) (h : VP X es e fun d es1 => VP X es1 e2 fun d2 es2 => b2W k d d2 fun r => Ψ r es2) : VP X es (.Call (.Name k.nm p) [e, e2] [] pos) Ψ := by
  have he : starEach (e :: [e2]) X.env = (false, eval e X.env) :: starEach [e2] X.env := star_ok hs [e2] X.env
  have he2 : starEach (e2 :: []) X.env = (false, eval e2 X.env) :: starEach [] X.env := star_ok hs2 [] X.env
  have hpl : (backTo pos (starEach [e2] X.env)).any (·.1) = false := star_any pos X.env [e2] (by simp [hs2])
  have h2 : VA X es [e, e2] fun ds es2 => ∃ d d2, ds = [d, d2] ∧ b2W k d d2 fun r => Ψ r es2 := va_two (h.imp fun d es1 hb => hb.imp fun d2 es2 hw => ⟨d, d2, rfl, hw⟩) he he2
  have fin : ∀ {vs : List V} {ds : List Dt} {es1 : List Sl} {B1 : Hp}, DqAll X.K B1 vs ds → (∃ d d2, ds = [d, d2] ∧ b2W k d d2 fun r => Ψ r es1) → ∃ i j : Int, vs = [.int i, .int j] ∧ b2W k (.int i) (.int j) fun r => Ψ r es1 := fun {vs ds es1 B1} D1 hw => by
    obtain ⟨d, d2, rfl, hw⟩ := hw
    obtain ⟨i, j, rfl, rfl⟩ := b2_iff hw
    obtain ⟨v, u, rfl, D1, D2⟩ := vals_dp2 D1
    cases D1; cases D2
    exact ⟨i, j, rfl, hw⟩
  cases k with
  | gcd =>
    intro F B H σ I Q q
    refine EX.of (pe_callBfun cr_gcd hg hm pa_self (by decide) he hpl) ?_
    refine h2 F B H σ I _ fun vs ds B1 H1 es1 hw I1 S1 D1 => ?_
    obtain ⟨i, j, rfl, hw⟩ := fin D1 hw
    exact ⟨i, j, rfl, q _ _ B1 H1 es1 hw I1 S1 (.int _)⟩
  | max =>
    intro F B H σ I Q q
    refine EX.of (pe_callB (call_max2 hc) hg hm (by decide +kernel) pa_self (by decide) (by decide) he hpl) ?_
    refine h2 F B H σ I _ fun vs ds B1 H1 es1 hw I1 S1 D1 => ?_
    obtain ⟨i, j, rfl, hw⟩ := fin D1 hw
    exact ⟨i, j, rfl, q _ _ B1 H1 es1 hw I1 S1 (.int _)⟩
  | min =>
    intro F B H σ I Q q
    refine EX.of (pe_callB (call_min2 hc) hg hm (by decide +kernel) pa_self (by decide) (by decide) he hpl) ?_
    refine h2 F B H σ I _ fun vs ds B1 H1 es1 hw I1 S1 D1 => ?_
    obtain ⟨i, j, rfl, hw⟩ := fin D1 hw
    exact ⟨i, j, rfl, q _ _ B1 H1 es1 hw I1 S1 (.int _)⟩
theorem boot_ty (t : Ty) : bootBuiltins t.nm = some (.type (match t with | .int => "int" | .bool => "bool" | .tuple => "tuple" | .str => "str" | .list => "list" | .dict => "dict")) := by
  cases t <;> decide +kernel
theorem isi_kit {t : Ty} {d : Dt} {b : Bool} (h : isiD t d = some b) : ∃ n k, tyN d = some n ∧ kitB n (match t with | .int => "int" | .bool => "bool" | .tuple => "tuple" | .str => "str" | .list => "list" | .dict => "dict") = some k ∧ b = k := by
  cases t <;> cases d <;> first | (cases h; done) | (cases h; exact ⟨_, true, rfl, rfl, rfl⟩) | (cases h; exact ⟨_, false, rfl, rfl, rfl⟩)
theorem vp_isiW {p2 : Pos} (t : Ty) (hm : X.mg "isinstance" = none) (hmT : X.mg t.nm = none) (hg : Gl X "isinstance") (hgT : Gl X t.nm) (hs : noStar e = true) (h : VP X es e fun d es1 => ∃ b, isiD t d = some b ∧ Ψ (.bool b) es1) : VP X es (.Call (.Name "isinstance" p) [e, .Name t.nm p2] [] pos) Ψ :=
  vp_isi hm hg hmT hgT (boot_ty t) (by cases t <;> decide) (by cases t <;> decide) (h.imp fun d es1 ⟨b, hb, hq⟩ => by
    obtain ⟨n, k, h1, h2, rfl⟩ := isi_kit hb
    exact ⟨n, _, h1, h2, hq⟩) (star_ok hs _ _) rfl rfl
theorem vp_ixW (hs : noSlice b = true) (h : VP X es a fun d es1 => VP X es1 b fun d2 es2 => ixW d d2 fun r => Ψ r es2) : VP X es (.Subscript a b pos) Ψ :=
  vp_ix (h.imp fun d es1 hb => hb.imp fun d2 es2 hw => by
    obtain ⟨xs, h1, hw⟩ := seqW_iff hw
    obtain ⟨i, rfl, y, h2, h3⟩ := intW_iff hw
    exact ⟨xs, i, y, h1, rfl, h2, h3⟩) (slice_ok hs)
theorem owAt_iff {i : Nat} {k : Bool → List Dt → Prop} (h : owAt es i k) : ∃ b ds, es[i]? = some (.own b (.l ds)) ∧ k b ds := by
  unfold owAt at h
  split at h
  · rename_i e; exact ⟨_, _, e, h⟩
  · exact h.elim
theorem fzAt_iff {i : Nat} {k : Dt → Prop} (h : fzAt es i k) : ∃ d, es[i]? = some (.fz d) ∧ k d := by
  unfold fzAt at h
  split at h
  · rename_i e; exact ⟨_, e, h⟩
  · exact h.elim
theorem noOw_of {vs : List Nat} (h : noOwB es vs = true) : noOw es vs := fun v hv b ds e => by
  unfold noOwB at h
  rw [List.all_eq_true] at h
  have := h v hv
  rw [e] at this
  cases this
/-! ### targets -/
theorem bind_mono (tg : E) : (∀ (d : Dt) (es : List Sl) (N N' : List Sl → Prop), bindT tg d es N → (∀ e, N e → N' e) → bindT tg d es N') ∧ (∀ (ds : List Dt) (es : List Sl) (N N' : List Sl → Prop), bindTs tg ds es N → (∀ e, N e → N' e) → bindTs tg ds es N') := by
  induction tg with
  | v i => exact ⟨fun d es N N' h k => k _ h, fun ds es N N' h k => False.elim h⟩
  | tup ts ih => exact ⟨fun d es N N' h k => by cases d <;> first | exact False.elim h | exact ih.2 _ es N N' h k, fun _ _ _ _ h _ => False.elim h⟩
  | nil => exact ⟨fun _ _ _ _ h _ => False.elim h, fun ds es N N' h k => by cases ds <;> first | exact k _ h | exact False.elim h⟩
  | cons t ts ih1 ih2 => exact ⟨fun _ _ _ _ h _ => False.elim h, fun ds es N N' h k => by
      cases ds with
      | nil => exact False.elim h
      | cons d r => exact ih1.1 d es _ _ h fun e he => ih2.2 r e N N' he k⟩
  | _ => exact ⟨fun _ _ _ _ h _ => False.elim h, fun _ _ _ _ h _ => False.elim h⟩
theorem bindT_mono (tg : E) (d : Dt) (es : List Sl) (N N' : List Sl → Prop) (h : bindT tg d es N) (k : ∀ e, N e → N' e) : bindT tg d es N' := (bind_mono tg).1 d es N N' h k
theorem bindTs_mono (tg : E) (d : List Dt) (es : List Sl) (N N' : List Sl → Prop) (h : bindTs tg d es N) (k : ∀ e, N e → N' e) : bindTs tg d es N' := (bind_mono tg).2 d es N N' h k
end
end Ax

set_option Elab.async false
set_option linter.all false
set_option maxRecDepth 100000
set_option maxHeartbeats 4000000
namespace Ax
open PySem PySem.Spec PyProof.Rows L2 Lv
section
variable {Φ : Ph} {C : Ck} {j : Nat} {X : Cy} {sc : Scope} {fb : Option Scope} {es : List Sl} {Ψ : Dt → List Sl → Prop} {Θ : Bool → List Sl → Prop} {a b c e : Expr} {pos p : Pos} {x : Str}
theorem asgE_ok {t : Expr} (h : noStar t = true) (r : List Expr) (env : Env) : assignEach (t :: r) env = (false, assign t env) :: assignEach r env := by
  cases t <;> first | rfl | (cases h)
def tgN : E → Nat
  | .cons _ r => tgN r + 1
  | _ => 0
theorem bindTs_len : ∀ (ts : E) (ds : List Dt) (es : List Sl) (N : List Sl → Prop), bindTs ts ds es N → ds.length = tgN ts := by
  intro ts
  induction ts with
  | nil =>
    intro ds es N h
    cases ds with
    | nil => rfl
    | cons d r => exact False.elim h
  | cons t r _ ih =>
    intro ds es N h
    cases ds with
    | nil => exact False.elim h
    | cons d rr =>
      have h : bindT t d es fun es1 => bindTs r rr es1 N := h
      have : ∃ es1, bindTs r rr es1 N := by
        have key : ∀ (t : E), (∀ (d : Dt) (es : List Sl) (N : List Sl → Prop), bindT t d es N → ∃ e, N e) ∧ (∀ (ds : List Dt) (es : List Sl) (N : List Sl → Prop), bindTs t ds es N → ∃ e, N e) := by
          intro t
          induction t with
          | v i => exact ⟨fun d es N h => ⟨_, h⟩, fun ds es N h => False.elim h⟩
          | tup ts ih => exact ⟨fun d es N h => by cases d <;> first | exact False.elim h | exact ih.2 _ _ _ h, fun ds es N h => False.elim h⟩
          | nil => exact ⟨fun d es N h => False.elim h, fun ds es N h => by cases ds <;> first | exact ⟨_, h⟩ | exact False.elim h⟩
          | cons t r ih1 ih2 => exact ⟨fun d es N h => False.elim h, fun ds es N h => by
              cases ds with
              | nil => exact False.elim h
              | cons d r =>
                obtain ⟨e, he⟩ := ih1.1 _ _ _ h
                exact ih2.2 _ _ _ he⟩
          | _ => exact ⟨fun d es N h => False.elim h, fun ds es N h => False.elim h⟩
        exact (key t).1 _ _ _ h
      obtain ⟨es1, h1⟩ := this
      show rr.length + 1 = tgN r + 1
      rw [ih rr es1 N h1]
  | _ => intro ds es N h; exact False.elim h
theorem chkTgs_len : ∀ (ts : E) (tt : List Expr), chkTgs C.N sc fb ts tt = true → ∀ env, (assignEach tt env).length = tgN ts ∧ (assignEach tt env).findIdx? (·.1) = none := by
  intro ts
  induction ts with
  | nil =>
    intro tt h env
    cases tt with
    | nil => exact ⟨rfl, rfl⟩
    | cons y r => simp [chkTgs] at h
  | cons t r _ ih =>
    intro tt h env
    cases tt with
    | nil => simp [chkTgs] at h
    | cons y ys =>
      simp only [chkTgs, Bool.and_eq_true] at h
      obtain ⟨h1, h2⟩ := ih ys h.2 env
      rw [asgE_ok h.1.1]
      refine ⟨by show (assignEach ys env).length + 1 = tgN r + 1; rw [h1], ?_⟩
      rw [List.findIdx?_cons, h2]
      rfl
  | _ => intro tt h; cases tt <;> simp [chkTgs] at h
theorem GT.weak {t : Expr} {f f' : Dt → List Sl → (List Sl → Prop) → Prop} (h : GT X t f) (k : ∀ d es N, f' d es N → f d es N) : GT X t f' := by
  obtain ⟨g, p, q⟩ := h
  exact ⟨g, p, fun F B H σ es v d I D Q N hf hq => q F B H σ es v d I D Q N (k _ _ _ hf) hq⟩
theorem GTs.weak {t : List Expr} {f f' : List Dt → List Sl → (List Sl → Prop) → Prop} (h : GTs X t f) (k : ∀ d es N, f' d es N → f d es N) : GTs X t f' := by
  obtain ⟨g, p, q⟩ := h
  exact ⟨g, p, fun F B H σ es v d I D Q N hf hq => q F B H σ es v d I D Q N (k _ _ _ hf) hq⟩
theorem gt_ok (g : Gd Φ C j X sc fb) : ∀ (tg : E), (∀ t, chkTg C.N sc fb tg t = true → GT X t (bindT tg)) ∧ (∀ ts, chkTgs C.N sc fb tg ts = true → GTs X ts (bindTs tg)) := by
  intro tg
  induction tg with
  | v i =>
    refine ⟨fun t h => ?_, fun ts h => by cases ts <;> simp [chkTgs] at h⟩
    cases t <;> simp only [chkTg, Bool.and_eq_true, Bool.or_eq_true, decide_eq_true_eq, Bool.false_eq_true] at h
    obtain ⟨⟨h1, h2⟩, h3⟩ := h
    exact gt_name i (by rw [g.hN]; exact g.nd) (by rw [g.hN]; exact h1) (g.loc h2) (h3.imp (g.fn _) (fun z => by rw [g.hsc]; exact z))
  | tup ts ih =>
    refine ⟨fun t h => ?_, fun ts h => by cases ts <;> simp [chkTgs] at h⟩
    cases t <;> simp only [chkTg, Bool.false_eq_true] at h
    obtain ⟨h1, h2⟩ := chkTgs_len ts _ h X.env
    refine GT.weak (gt_tup (n := tgN ts) g.calm (ih.2 _ h) h1 h2) fun d es N hb => ?_
    cases d <;> first | exact False.elim hb | exact ⟨_, rfl, bindTs_len ts _ es N hb, hb⟩
  | nil =>
    refine ⟨fun t h => by cases t <;> simp [chkTg] at h, fun ts h => ?_⟩
    cases ts with
    | nil => exact GTs.weak gts_nil fun d es N hb => by cases d <;> first | exact ⟨rfl, hb⟩ | exact False.elim hb
    | cons y ys => simp [chkTgs] at h
  | cons t r ih1 ih2 =>
    refine ⟨fun t h => by cases t <;> simp [chkTg] at h, fun ts h => ?_⟩
    cases ts with
    | nil => simp [chkTgs] at h
    | cons y ys =>
      simp only [chkTgs, Bool.and_eq_true] at h
      exact GTs.weak (gts_cons (ih1.1 y h.1.2) (ih2.2 ys h.2) (by rw [asgE_ok h.1.1]; rfl)) fun d es N hb => by
        cases d with
        | nil => exact False.elim hb
        | cons d r => exact ⟨d, r, rfl, hb⟩
  | _ => exact ⟨fun t h => by cases t <;> simp [chkTg] at h, fun ts h => by cases ts <;> simp [chkTgs] at h⟩
theorem GTk.weak {scope : Scope} {vs : List Nat} {t : Expr} {f f' : Dt → List Sl → (List Sl → Prop) → Prop} (h : GTk X scope vs t f) (k : ∀ d es N, f' d es N → f d es N) : GTk X scope vs t f' := by
  obtain ⟨g, p, q⟩ := h
  exact ⟨g, p, fun F B H σ es v d I D nw Q N hf hq => q F B H σ es v d I D nw Q N (k _ _ _ hf) hq⟩
theorem GTks.weak {scope : Scope} {vs : List Nat} {t : List Expr} {f f' : List Dt → List Sl → (List Sl → Prop) → Prop} (h : GTks X scope vs t f) (k : ∀ d es N, f' d es N → f d es N) : GTks X scope vs t f' := by
  obtain ⟨g, p, q⟩ := h
  exact ⟨g, p, fun F B H σ es v d I D nw Q N hf hq => q F B H σ es v d I D nw Q N (k _ _ _ hf) hq⟩
theorem gtk_ok (g : Gd Φ C j X sc fb) {scope : Scope} (hk : scope.kind = .function) {vs : List Nat} : ∀ (tg : E), (∀ i ∈ tgVs tg, i ∈ vs) → (∀ t, chkTg C.N (relS scope sc) (some scope) tg t = true → GTk X scope vs t (bindT tg)) ∧ (∀ ts, chkTgs C.N (relS scope sc) (some scope) tg ts = true → GTks X scope vs ts (bindTs tg)) := by
  intro tg
  induction tg with
  | v i =>
    intro hv
    refine ⟨fun t h => ?_, fun ts h => by cases ts <;> simp [chkTgs] at h⟩
    cases t <;> simp only [chkTg, Bool.and_eq_true, Bool.or_eq_true, decide_eq_true_eq, Bool.false_eq_true] at h
    obtain ⟨⟨h1, h2⟩, h3⟩ := h
    refine gtk_name i (hv i (by simp [tgVs])) fun s H Ca cl fp => ?_
    have g' := g.blk hk s H Ca cl fp
    exact pg_name (by show X.N.Nodup; rw [g.hN]; exact g.nd) (by show X.N[i]? = _; rw [g.hN]; exact h1) (g'.loc h2) (h3.imp (g'.fn _) (fun z => by rw [g'.hsc]; exact z))
  | tup ts ih =>
    intro hv
    refine ⟨fun t h => ?_, fun ts h => by cases ts <;> simp [chkTgs] at h⟩
    cases t <;> simp only [chkTg, Bool.false_eq_true] at h
    refine GTk.weak (gtk_tup (n := tgN ts) g.calm ((ih hv).2 _ h) (fun s H Ca cl fp => (chkTgs_len (C := C) ts _ h _).1) (fun s H Ca cl fp => (chkTgs_len (C := C) ts _ h _).2)) fun d es N hb => ?_
    cases d <;> first | exact False.elim hb | exact ⟨_, rfl, bindTs_len ts _ es N hb, hb⟩
  | nil =>
    intro hv
    refine ⟨fun t h => by cases t <;> simp [chkTg] at h, fun ts h => ?_⟩
    cases ts with
    | nil => exact GTks.weak gtks_nil fun d es N hb => by cases d <;> first | exact ⟨rfl, hb⟩ | exact False.elim hb
    | cons y ys => simp [chkTgs] at h
  | cons t r ih1 ih2 =>
    intro hv
    refine ⟨fun t h => by cases t <;> simp [chkTg] at h, fun ts h => ?_⟩
    cases ts with
    | nil => simp [chkTgs] at h
    | cons y ys =>
      simp only [chkTgs, Bool.and_eq_true] at h
      exact GTks.weak (gtks_cons ((ih1 fun i hi => hv i (by simp [tgVs, hi])).1 y h.1.2) ((ih2 fun i hi => hv i (by simp [tgVs, hi])).2 ys h.2) (fun s H Ca cl fp => by dsimp only; rw [asgE_ok h.1.1]; rfl)) fun d es N hb => by
        cases d with
        | nil => exact False.elim hb
        | cons d r => exact ⟨d, r, rfl, hb⟩
  | _ => intro hv; exact ⟨fun t h => by cases t <;> simp [chkTg] at h, fun ts h => by cases ts <;> simp [chkTgs] at h⟩
end
end Ax

set_option Elab.async false
set_option linter.all false
set_option maxRecDepth 100000
set_option maxHeartbeats 4000000
namespace Ax
open PySem PySem.Spec PyProof.Rows L2 Lv
/-- what is asked is enough -/
structure Snd (C : Ck) (j : Nat) (x : E) : Prop where
  e : ∀ {Φ X sc fb}, Gd Φ C j X sc fb → ∀ {e}, chk C x sc fb e = true → ∀ {es Ψ}, wpE Φ x es Ψ → VP X es e Ψ
  a : ∀ {Φ X sc fb}, Gd Φ C j X sc fb → ∀ {as}, chkA C x sc fb as = true → ∀ {es Λ}, wpA Φ x es Λ → VA X es as Λ
  t : ∀ {Φ X sc fb}, Gd Φ C j X sc fb → ∀ {e}, chk C x sc fb e = true → ∀ {es Θ}, wpT Φ x es Θ → VT X es e Θ
  o : ∀ {Φ X sc fb}, Gd Φ C j X sc fb → ∀ {e}, chk C x sc fb e = true → ∀ {es k}, wpO Φ x es k → VP X es e fun d es1 => ∃ i, d = .int i ∧ k (some i) es1
  i : ∀ {Φ X sc fb}, Gd Φ C j X sc fb → ∀ {e}, chk C x sc fb e = true → ∀ {tg}, tgOk x tg = true → ∀ {es Λ}, wpI Φ x es Λ → VI X tg es e Λ
section
variable {Φ : Ph} {C : Ck} {j : Nat}
theorem chkA_all {sc : Scope} {fb : Option Scope} : ∀ {x : E} {as : List Expr}, chkA C x sc fb as = true → as.all noStar = true := by
  intro x
  induction x with
  | nil => intro as h; cases as with
    | nil => rfl
    | cons y ys => simp [chkA] at h
  | cons a r _ ih => intro as h; cases as with
    | nil => simp [chkA] at h
    | cons y ys =>
      simp only [chkA, Bool.and_eq_true] at h
      rw [List.all_cons, h.1.1, ih h.2]; rfl
  | _ => intro as h; cases as <;> simp [chkA] at h
theorem mono_imp {P Q R : Prop} (h : P → Q → R) (hp : P) : Q → R := h hp
theorem snd_v (i : Nat) : Snd C j (.v i) := by
  have e : ∀ {Φ X sc fb}, Gd Φ C j X sc fb → ∀ {e}, chk C (.v i) sc fb e = true → ∀ {es Ψ}, wpE Φ (.v i) es Ψ → VP X es e Ψ := by
    intro Φ X sc fb g e h es Ψ hw
    cases e <;> simp only [chk, Bool.false_eq_true] at h
    obtain ⟨h1, h2, h3, h4⟩ := nm_ok g h
    obtain ⟨d, hd, hq⟩ := fzAt_iff hw
    exact vp_var i h1 h2 hd hq h3 h4
  refine ⟨e, (fun {_ _ _ _} _ {_} _ {_ _} hw => False.elim hw), ?_, ?_, ?_⟩
  · intro Φ X sc fb g ex h es Θ hw
    have he : ∀ whole, isTrue ex X.env whole = (do let v ← whole; standAt ex.pos; holding [v] (truthy v)) := by
      cases ex <;> simp only [chk, Bool.false_eq_true] at h
      intro _; rfl
    exact vt_tru (e g h hw) he
  · intro Φ X sc fb g ex h es k hw
    obtain ⟨d, hd, hq⟩ := fzAt_iff hw
    obtain ⟨n, rfl, hk⟩ := intW_iff hq
    refine e g h ?_
    show fzAt es i _
    unfold fzAt; rw [hd]
    exact ⟨n, rfl, hk⟩
  · intro Φ X sc fb g ex h tg ht es Λ hw
    obtain ⟨d, hd, hq⟩ := fzAt_iff hw
    refine vi_seq (e g h ?_)
    show fzAt es i _
    unfold fzAt; rw [hd]
    exact seqW_iff hq
theorem VPc {X : Cy} {es : List Sl} {e : Expr} {Ψ Φ : Dt → List Sl → Prop} (h : VP X es e Ψ) (k : ∀ d es', Ψ d es' → Φ d es') : VP X es e Φ := h.imp k
theorem snd_leaf {x : E} (hT : ∀ Φ es Θ, wpT Φ x es Θ = False) (hA : ∀ Φ es Θ, wpA Φ x es Θ = False) (hO : ∀ Φ es Θ, wpO Φ x es Θ = False) (hI : ∀ Φ es Θ, wpI Φ x es Θ = False)
    (e : ∀ {Φ X sc fb}, Gd Φ C j X sc fb → ∀ {e}, chk C x sc fb e = true → ∀ {es Ψ}, wpE Φ x es Ψ → VP X es e Ψ) : Snd C j x :=
  ⟨e, fun _ _ _ _ _ hw => by rw [hA] at hw; exact hw.elim, fun _ _ _ _ _ hw => by rw [hT] at hw; exact hw.elim, fun _ _ _ _ _ hw => by rw [hO] at hw; exact hw.elim, fun _ _ _ _ _ _ _ hw => by rw [hI] at hw; exact hw.elim⟩
theorem snd_gi (x : Str) (n : Int) : Snd C j (.gi x n) := snd_leaf (fun _ _ _ => rfl) (fun _ _ _ => rfl) (fun _ _ _ => rfl) (fun _ _ _ => rfl) fun {Φ X sc fb} g {e} h {es Ψ} hw => by
  cases e <;> simp only [chk, Bool.and_eq_true, decide_eq_true_eq, Bool.false_eq_true] at h
  obtain ⟨⟨⟨rfl, h1⟩, h2⟩, h3⟩ := h
  obtain ⟨t, ht⟩ := g.gi _ h3
  unfold nDbg at h2
  simp only [Bool.and_eq_true, Bool.not_eq_true'] at h2
  exact vp_globI (g.gl h1) ht hw h2.1
theorem snd_int (i : Int) : Snd C j (.int i) := by
  have e : ∀ {Φ X sc fb}, Gd Φ C j X sc fb → ∀ {e}, chk C (.int i) sc fb e = true → ∀ {es Ψ}, wpE Φ (.int i) es Ψ → VP X es e Ψ := fun {Φ X sc fb} g {e} h {es Ψ} hw => by
    cases e with
    | Constant v k p => cases v <;> simp only [chk, decide_eq_true_eq, Bool.false_eq_true] at h; subst h; exact vp_int hw
    | _ => simp only [chk, Bool.false_eq_true] at h
  exact ⟨e, (fun {_ _ _ _} _ {_} _ {_ _} hw => False.elim hw), (fun {_ _ _ _} _ {_} _ {_ _} hw => False.elim hw), fun {Φ X sc fb} g {ex} h {es k} hw => e (Ψ := fun d es1 => ∃ n, d = .int n ∧ k (some n) es1) g h ⟨i, rfl, hw⟩, (fun {_ _ _ _} _ {_} _ {_} _ {_ _} hw => False.elim hw)⟩
theorem snd_bool (i : Bool) : Snd C j (.bool i) := snd_leaf (fun _ _ _ => rfl) (fun _ _ _ => rfl) (fun _ _ _ => rfl) (fun _ _ _ => rfl) fun {Φ X sc fb} g {e} h {es Ψ} hw => by
  cases e with
  | Constant v k p => cases v <;> simp only [chk, decide_eq_true_eq, Bool.false_eq_true] at h; subst h; exact vp_bool hw
  | _ => simp only [chk, Bool.false_eq_true] at h
theorem snd_non : Snd C j .non := snd_leaf (fun _ _ _ => rfl) (fun _ _ _ => rfl) (fun _ _ _ => rfl) (fun _ _ _ => rfl) fun {Φ X sc fb} g {e} h {es Ψ} hw => by
  cases e with
  | Constant v k p => cases v <;> simp only [chk, Bool.false_eq_true] at h; exact vp_none hw
  | _ => simp only [chk, Bool.false_eq_true] at h
theorem snd_str (i : Str) : Snd C j (.str i) := snd_leaf (fun _ _ _ => rfl) (fun _ _ _ => rfl) (fun _ _ _ => rfl) (fun _ _ _ => rfl) fun {Φ X sc fb} g {e} h {es Ψ} hw => by
  cases e with
  | Constant v k p => cases v <;> simp only [chk, decide_eq_true_eq, Bool.false_eq_true] at h; subst h; exact vp_str hw
  | _ => simp only [chk, Bool.false_eq_true] at h
theorem snd_dnew : Snd C j .dnew := snd_leaf (fun _ _ _ => rfl) (fun _ _ _ => rfl) (fun _ _ _ => rfl) (fun _ _ _ => rfl) fun {Φ X sc fb} g {e} h {es Ψ} hw => by
  cases e with
  | Dict ks vs p => cases ks <;> cases vs <;> simp only [chk, Bool.false_eq_true] at h; exact vp_dnew hw
  | _ => simp only [chk, Bool.false_eq_true] at h
theorem snd_bin (o : Bo) (a b : E) (ha : Snd C j a) (hb : Snd C j b) : Snd C j (.bin o a b) := by
  have e : ∀ {Φ X sc fb}, Gd Φ C j X sc fb → ∀ {e}, chk C (.bin o a b) sc fb e = true → ∀ {es Ψ}, wpE Φ (.bin o a b) es Ψ → VP X es e Ψ := fun {Φ X sc fb} g {e} h {es Ψ} hw => by
    cases e <;> simp only [chk, Bool.and_eq_true, decide_eq_true_eq, Bool.false_eq_true] at h
    obtain ⟨⟨rfl, h1⟩, h2⟩ := h
    exact vp_bin o (VPc (ha.e g h1 hw) fun d es1 h => hb.e g h2 h)
  refine ⟨e, (fun {_ _ _ _} _ {_} _ {_ _} hw => False.elim hw), ?_, ?_, ?_⟩
  · intro Φ X sc fb g ex h es Θ hw
    have he : ∀ whole, isTrue ex X.env whole = (do let v ← whole; standAt ex.pos; holding [v] (truthy v)) := by
      cases ex <;> simp only [chk, Bool.false_eq_true] at h
      intro _; rfl
    exact vt_tru (e g h hw) he
  · intro Φ X sc fb g ex h es k hw
    refine VPc (e (Ψ := fun r es2 => intW r fun n => k (some n) es2) g h hw) fun d es1 h => intW_iff h
  · intro Φ X sc fb g ex h tg ht es Λ hw
    exact vi_seq (VPc (e (Ψ := fun r es2 => seqW r fun xs => Λ xs es2) g h hw) fun d es1 h => seqW_iff h)
theorem snd_neg (a : E) (ha : Snd C j a) : Snd C j (.neg a) := by
  have e : ∀ {Φ X sc fb}, Gd Φ C j X sc fb → ∀ {e}, chk C (.neg a) sc fb e = true → ∀ {es Ψ}, wpE Φ (.neg a) es Ψ → VP X es e Ψ := fun {Φ X sc fb} g {e} h {es Ψ} hw => by
    cases e with
    | UnaryOp op x p => cases op <;> simp only [chk, Bool.false_eq_true] at h; exact un_neg1 (ha.e g h hw)
    | _ => simp only [chk, Bool.false_eq_true] at h
  exact ⟨e, (fun {_ _ _ _} _ {_} _ {_ _} hw => False.elim hw), (fun {_ _ _ _} _ {_} _ {_ _} hw => False.elim hw), fun {Φ X sc fb} g {ex} h {es k} hw => VPc (e (Ψ := fun r es2 => intW r fun n => k (some n) es2) g h hw) fun d es1 h => intW_iff h, (fun {_ _ _ _} _ {_} _ {_} _ {_ _} hw => False.elim hw)⟩

theorem inv_cmp {o : Cm} {a b : E} {sc fb e} (h : chk C (.cmp o a b) sc fb e = true) : ∃ l r p, e = .Compare l [o.op] [r] p ∧ chk C a sc fb l = true ∧ chk C b sc fb r = true := by
  cases e with
  | Compare l ops cs p =>
    match ops, cs, h with
    | [op], [r], h =>
      simp only [chk, Bool.and_eq_true, decide_eq_true_eq] at h
      obtain ⟨⟨rfl, h1⟩, h2⟩ := h
      exact ⟨l, r, p, rfl, h1, h2⟩
    | [], _, h => simp only [chk, Bool.false_eq_true] at h
    | [_], [], h => simp only [chk, Bool.false_eq_true] at h
    | [_], _ :: _ :: _, h => simp only [chk, Bool.false_eq_true] at h
    | _ :: _ :: _, _, h => simp only [chk, Bool.false_eq_true] at h
  | _ => simp only [chk, Bool.false_eq_true] at h
theorem snd_cmp (o : Cm) (a b : E) (ha : Snd C j a) (hb : Snd C j b) : Snd C j (.cmp o a b) := by
  refine ⟨fun {Φ X sc fb} g {e} h {es Ψ} hw => ?_, (fun {_ _ _ _} _ {_} _ {_ _} hw => False.elim hw), fun {Φ X sc fb} g {e} h {es Θ} hw => ?_, (fun {_ _ _ _} _ {_} _ {_ _} hw => False.elim hw), (fun {_ _ _ _} _ {_} _ {_} _ {_ _} hw => False.elim hw)⟩
  · obtain ⟨l, r, p, rfl, h1, h2⟩ := inv_cmp h
    exact vp_cm o (VPc (ha.e g h1 hw) fun d es1 h => hb.e g h2 h)
  · obtain ⟨l, r, p, rfl, h1, h2⟩ := inv_cmp h
    exact vt_cm o (VPc (ha.e g h1 hw) fun d es1 h => hb.e g h2 h)
theorem inv_eq {a b : E} {sc fb e} (h : chk C (.eq a b) sc fb e = true) : ∃ l r p, e = .Compare l [.Eq] [r] p ∧ chk C a sc fb l = true ∧ chk C b sc fb r = true := by
  cases e with
  | Compare l ops cs p =>
    match ops, cs, h with
    | [op], [r], h =>
      cases op <;> simp only [chk, Bool.and_eq_true, Bool.false_eq_true] at h
      exact ⟨l, r, p, rfl, h.1, h.2⟩
    | [], _, h => simp only [chk, Bool.false_eq_true] at h
    | [_], [], h => simp only [chk, Bool.false_eq_true] at h
    | [_], _ :: _ :: _, h => simp only [chk, Bool.false_eq_true] at h
    | _ :: _ :: _, _, h => simp only [chk, Bool.false_eq_true] at h
  | _ => simp only [chk, Bool.false_eq_true] at h
theorem inv_ne {a b : E} {sc fb e} (h : chk C (.ne a b) sc fb e = true) : ∃ l r p, e = .Compare l [.NotEq] [r] p ∧ chk C a sc fb l = true ∧ chk C b sc fb r = true := by
  cases e with
  | Compare l ops cs p =>
    match ops, cs, h with
    | [op], [r], h =>
      cases op <;> simp only [chk, Bool.and_eq_true, Bool.false_eq_true] at h
      exact ⟨l, r, p, rfl, h.1, h.2⟩
    | [], _, h => simp only [chk, Bool.false_eq_true] at h
    | [_], [], h => simp only [chk, Bool.false_eq_true] at h
    | [_], _ :: _ :: _, h => simp only [chk, Bool.false_eq_true] at h
    | _ :: _ :: _, _, h => simp only [chk, Bool.false_eq_true] at h
  | _ => simp only [chk, Bool.false_eq_true] at h
theorem snd_eq (a b : E) (ha : Snd C j a) (hb : Snd C j b) : Snd C j (.eq a b) := by
  refine ⟨fun {Φ X sc fb} g {e} h {es Ψ} hw => ?_, (fun {_ _ _ _} _ {_} _ {_ _} hw => False.elim hw), fun {Φ X sc fb} g {e} h {es Θ} hw => ?_, (fun {_ _ _ _} _ {_} _ {_ _} hw => False.elim hw), (fun {_ _ _ _} _ {_} _ {_} _ {_ _} hw => False.elim hw)⟩
  · obtain ⟨l, r, p, rfl, h1, h2⟩ := inv_eq h
    exact vp_eqD g.room.units (VPc (ha.e g h1 hw) fun d es1 h => VPc (hb.e g h2 h) fun d2 es2 h => ⟨h.1.1, h.1.2, h.2⟩)
  · obtain ⟨l, r, p, rfl, h1, h2⟩ := inv_eq h
    exact vt_eqD g.room.units (VPc (ha.e g h1 hw) fun d es1 h => VPc (hb.e g h2 h) fun d2 es2 h => ⟨h.1.1, h.1.2, h.2⟩)
theorem snd_ne (a b : E) (ha : Snd C j a) (hb : Snd C j b) : Snd C j (.ne a b) := by
  refine ⟨fun {Φ X sc fb} g {e} h {es Ψ} hw => ?_, (fun {_ _ _ _} _ {_} _ {_ _} hw => False.elim hw), fun {Φ X sc fb} g {e} h {es Θ} hw => ?_, (fun {_ _ _ _} _ {_} _ {_ _} hw => False.elim hw), (fun {_ _ _ _} _ {_} _ {_} _ {_ _} hw => False.elim hw)⟩
  · obtain ⟨l, r, p, rfl, h1, h2⟩ := inv_ne h
    exact vp_neD g.room.units (VPc (ha.e g h1 hw) fun d es1 h => VPc (hb.e g h2 h) fun d2 es2 h => ⟨h.1.1, h.1.2, h.2⟩)
  · obtain ⟨l, r, p, rfl, h1, h2⟩ := inv_ne h
    exact vt_neD g.room.units (VPc (ha.e g h1 hw) fun d es1 h => VPc (hb.e g h2 h) fun d2 es2 h => ⟨h.1.1, h.1.2, h.2⟩)
theorem inv_isn {a : E} {sc fb e} (h : chk C (.isn a) sc fb e = true) : ∃ l k p p', e = .Compare l [.Is] [.Constant .none k p'] p ∧ chk C a sc fb l = true := by
  cases e with
  | Compare l ops cs p =>
    match ops, cs, h with
    | [op], [r], h =>
      cases op <;> (try simp only [chk, Bool.false_eq_true] at h)
      cases r <;> (try simp only [chk, Bool.false_eq_true] at h)
      rename_i v k p'
      cases v <;> simp only [chk, Bool.false_eq_true] at h
      exact ⟨l, k, p, p', rfl, h⟩
    | [], _, h => simp only [chk, Bool.false_eq_true] at h
    | [_], [], h => simp only [chk, Bool.false_eq_true] at h
    | [_], _ :: _ :: _, h => simp only [chk, Bool.false_eq_true] at h
    | _ :: _ :: _, _, h => simp only [chk, Bool.false_eq_true] at h
  | _ => simp only [chk, Bool.false_eq_true] at h
theorem inv_isnt {a : E} {sc fb e} (h : chk C (.isnt a) sc fb e = true) : ∃ l k p p', e = .Compare l [.IsNot] [.Constant .none k p'] p ∧ chk C a sc fb l = true := by
  cases e with
  | Compare l ops cs p =>
    match ops, cs, h with
    | [op], [r], h =>
      cases op <;> (try simp only [chk, Bool.false_eq_true] at h)
      cases r <;> (try simp only [chk, Bool.false_eq_true] at h)
      rename_i v k p'
      cases v <;> simp only [chk, Bool.false_eq_true] at h
      exact ⟨l, k, p, p', rfl, h⟩
    | [], _, h => simp only [chk, Bool.false_eq_true] at h
    | [_], [], h => simp only [chk, Bool.false_eq_true] at h
    | [_], _ :: _ :: _, h => simp only [chk, Bool.false_eq_true] at h
    | _ :: _ :: _, _, h => simp only [chk, Bool.false_eq_true] at h
  | _ => simp only [chk, Bool.false_eq_true] at h
theorem snd_isn (a : E) (ha : Snd C j a) : Snd C j (.isn a) := by
  refine ⟨fun {Φ X sc fb} g {e} h {es Ψ} hw => ?_, (fun {_ _ _ _} _ {_} _ {_ _} hw => False.elim hw), fun {Φ X sc fb} g {e} h {es Θ} hw => ?_, (fun {_ _ _ _} _ {_} _ {_ _} hw => False.elim hw), (fun {_ _ _ _} _ {_} _ {_} _ {_ _} hw => False.elim hw)⟩
  · obtain ⟨l, k, p, p', rfl, h1⟩ := inv_isn h
    exact vp_is (ha.e g h1 hw)
  · obtain ⟨l, k, p, p', rfl, h1⟩ := inv_isn h
    exact vt_is (ha.e g h1 hw)
theorem snd_isnt (a : E) (ha : Snd C j a) : Snd C j (.isnt a) := by
  refine ⟨fun {Φ X sc fb} g {e} h {es Ψ} hw => ?_, (fun {_ _ _ _} _ {_} _ {_ _} hw => False.elim hw), fun {Φ X sc fb} g {e} h {es Θ} hw => ?_, (fun {_ _ _ _} _ {_} _ {_ _} hw => False.elim hw), (fun {_ _ _ _} _ {_} _ {_} _ {_ _} hw => False.elim hw)⟩
  · obtain ⟨l, k, p, p', rfl, h1⟩ := inv_isnt h
    exact vp_isnot (ha.e g h1 hw)
  · obtain ⟨l, k, p, p', rfl, h1⟩ := inv_isnt h
    exact vt_isnot (ha.e g h1 hw)
theorem inv_chain {o q : Cm} {a b c : E} {sc fb e} (h : chk C (.chain o q a b c) sc fb e = true) : ∃ l m r p, e = .Compare l [o.op, q.op] [m, r] p ∧ chk C a sc fb l = true ∧ chk C b sc fb m = true ∧ chk C c sc fb r = true := by
  cases e with
  | Compare l ops cs p =>
    match ops, cs, h with
    | [op, op'], [m, r], h =>
      simp only [chk, Bool.and_eq_true, decide_eq_true_eq] at h
      obtain ⟨⟨⟨⟨rfl, rfl⟩, h1⟩, h2⟩, h3⟩ := h
      exact ⟨l, m, r, p, rfl, h1, h2, h3⟩
    | [], _, h => simp only [chk, Bool.false_eq_true] at h
    | [_], _, h => simp only [chk, Bool.false_eq_true] at h
    | [_, _], [], h => simp only [chk, Bool.false_eq_true] at h
    | [_, _], [_], h => simp only [chk, Bool.false_eq_true] at h
    | [_, _], _ :: _ :: _ :: _, h => simp only [chk, Bool.false_eq_true] at h
    | _ :: _ :: _ :: _, _, h => simp only [chk, Bool.false_eq_true] at h
  | _ => simp only [chk, Bool.false_eq_true] at h
theorem snd_chain (o q : Cm) (a b c : E) (ha : Snd C j a) (hb : Snd C j b) (hc : Snd C j c) : Snd C j (.chain o q a b c) := by
  refine ⟨fun {Φ X sc fb} g {e} h {es Ψ} hw => ?_, (fun {_ _ _ _} _ {_} _ {_ _} hw => False.elim hw), fun {Φ X sc fb} g {e} h {es Θ} hw => ?_, (fun {_ _ _ _} _ {_} _ {_ _} hw => False.elim hw), (fun {_ _ _ _} _ {_} _ {_} _ {_ _} hw => False.elim hw)⟩
  · obtain ⟨l, m, r, p, rfl, h1, h2, h3⟩ := inv_chain h
    refine vp_chainW o q (VPc (ha.e g h1 hw) fun d es1 h => VPc (hb.e g h2 h) fun d2 es2 h => ?_)
    cases d <;> first | exact False.elim h | (cases d2 <;> first | exact False.elim h | exact ⟨fun z => hc.e g h3 (h.1 z), h.2⟩)
  · obtain ⟨l, m, r, p, rfl, h1, h2, h3⟩ := inv_chain h
    refine vt_chainW o q (VPc (ha.e g h1 hw) fun d es1 h => VPc (hb.e g h2 h) fun d2 es2 h => ?_)
    cases d <;> first | exact False.elim h | (cases d2 <;> first | exact False.elim h | exact ⟨fun z => hc.e g h3 (h.1 z), h.2⟩)
theorem inv_chain3 {o q t : Cm} {a b c d : E} {sc fb e} (h : chk C (.chain3 o q t a b c d) sc fb e = true) : ∃ l m r u p, e = .Compare l [o.op, q.op, t.op] [m, r, u] p ∧ chk C a sc fb l = true ∧ chk C b sc fb m = true ∧ chk C c sc fb r = true ∧ chk C d sc fb u = true := by
  cases e with
  | Compare l ops cs p =>
    match ops, cs, h with
    | [op, op', op2], [m, r, u], h =>
      simp only [chk, Bool.and_eq_true, decide_eq_true_eq] at h
      obtain ⟨⟨⟨⟨⟨⟨rfl, rfl⟩, rfl⟩, h1⟩, h2⟩, h3⟩, h4⟩ := h
      exact ⟨l, m, r, u, p, rfl, h1, h2, h3, h4⟩
    | [], _, h => simp only [chk, Bool.false_eq_true] at h
    | [_], _, h => simp only [chk, Bool.false_eq_true] at h
    | [_, _], _, h => simp only [chk, Bool.false_eq_true] at h
    | [_, _, _], [], h => simp only [chk, Bool.false_eq_true] at h
    | [_, _, _], [_], h => simp only [chk, Bool.false_eq_true] at h
    | [_, _, _], [_, _], h => simp only [chk, Bool.false_eq_true] at h
    | [_, _, _], _ :: _ :: _ :: _ :: _, h => simp only [chk, Bool.false_eq_true] at h
    | _ :: _ :: _ :: _ :: _, _, h => simp only [chk, Bool.false_eq_true] at h
  | _ => simp only [chk, Bool.false_eq_true] at h
theorem snd_chain3 (o q t : Cm) (a b c d : E) (ha : Snd C j a) (hb : Snd C j b) (hc : Snd C j c) (hd : Snd C j d) : Snd C j (.chain3 o q t a b c d) := by
  refine ⟨fun {Φ X sc fb} g {e} h {es Ψ} hw => ?_, (fun {_ _ _ _} _ {_} _ {_ _} hw => False.elim hw), fun {Φ X sc fb} g {e} h {es Θ} hw => ?_, (fun {_ _ _ _} _ {_} _ {_ _} hw => False.elim hw), (fun {_ _ _ _} _ {_} _ {_} _ {_ _} hw => False.elim hw)⟩
  · obtain ⟨l, m, r, u, p, rfl, h1, h2, h3, h4⟩ := inv_chain3 h
    refine vp_chain3W o q t (VPc (ha.e g h1 hw) fun d es1 h => VPc (hb.e g h2 h) fun d2 es2 h => ?_)
    cases d <;> first | exact False.elim h | (cases d2 <;> first | exact False.elim h | exact ⟨fun z => VPc (hc.e g h3 (h.1 z)) fun d3 es3 h => (by cases d3 <;> first | exact False.elim h | exact ⟨fun z => hd.e g h4 (h.1 z), h.2⟩), h.2⟩)
  · obtain ⟨l, m, r, u, p, rfl, h1, h2, h3, h4⟩ := inv_chain3 h
    refine vt_chain3W o q t (VPc (ha.e g h1 hw) fun d es1 h => VPc (hb.e g h2 h) fun d2 es2 h => ?_)
    cases d <;> first | exact False.elim h | (cases d2 <;> first | exact False.elim h | exact ⟨fun z => VPc (hc.e g h3 (h.1 z)) fun d3 es3 h => (by cases d3 <;> first | exact False.elim h | exact ⟨fun z => hd.e g h4 (h.1 z), h.2⟩), h.2⟩)
theorem VTc {X : Cy} {es : List Sl} {e : Expr} {Ψ Φ : Bool → List Sl → Prop} (h : VT X es e Ψ) (k : ∀ d es', Ψ d es' → Φ d es') : VT X es e Φ := h.imp k
theorem vw_of {X : Cy} {es : List Sl} {op : BoolOp} {vs : List Expr} {p : Pos} {Θ : Bool → List Sl → Prop} (h : VT X es (.BoolOp op vs p) Θ) : VW X es (.BoolOp op vs p) Θ := fun F B H σ I Q q whole pins s J => h F B H σ I Q q pins s J
theorem inv_and {a b : E} {sc fb e} (h : chk C (.and a b) sc fb e = true) : ∃ x y r p, e = .BoolOp .And (x :: y :: r) p ∧ chk C a sc fb x = true ∧ ((r = [] ∧ chk C b sc fb y = true) ∨ (r ≠ [] ∧ chk C b sc fb (.BoolOp .And (y :: r) p) = true)) := by
  cases e with
  | BoolOp op vs p =>
    cases op with
    | Or => simp only [chk, Bool.false_eq_true] at h
    | And =>
      match vs, h with
      | [x, y], h => simp only [chk, Bool.and_eq_true] at h; exact ⟨x, y, [], p, rfl, h.1, .inl ⟨rfl, h.2⟩⟩
      | x :: y :: z :: r, h => simp only [chk, Bool.and_eq_true] at h; exact ⟨x, y, z :: r, p, rfl, h.1, .inr ⟨by simp, h.2⟩⟩
      | [], h => simp only [chk, Bool.false_eq_true] at h
      | [_], h => simp only [chk, Bool.false_eq_true] at h
  | _ => simp only [chk, Bool.false_eq_true] at h
theorem inv_or {a b : E} {sc fb e} (h : chk C (.or a b) sc fb e = true) : ∃ x y r p, e = .BoolOp .Or (x :: y :: r) p ∧ chk C a sc fb x = true ∧ ((r = [] ∧ chk C b sc fb y = true) ∨ (r ≠ [] ∧ chk C b sc fb (.BoolOp .Or (y :: r) p) = true)) := by
  cases e with
  | BoolOp op vs p =>
    cases op with
    | And => simp only [chk, Bool.false_eq_true] at h
    | Or =>
      match vs, h with
      | [x, y], h => simp only [chk, Bool.and_eq_true] at h; exact ⟨x, y, [], p, rfl, h.1, .inl ⟨rfl, h.2⟩⟩
      | x :: y :: z :: r, h => simp only [chk, Bool.and_eq_true] at h; exact ⟨x, y, z :: r, p, rfl, h.1, .inr ⟨by simp, h.2⟩⟩
      | [], h => simp only [chk, Bool.false_eq_true] at h
      | [_], h => simp only [chk, Bool.false_eq_true] at h
  | _ => simp only [chk, Bool.false_eq_true] at h
theorem snd_and (a b : E) (ha : Snd C j a) (hb : Snd C j b) : Snd C j (.and a b) := by
  refine ⟨fun {Φ X sc fb} g {e} h {es Ψ} hw => ?_, (fun {_ _ _ _} _ {_} _ {_ _} hw => False.elim hw), fun {Φ X sc fb} g {e} h {es Θ} hw => ?_, (fun {_ _ _ _} _ {_} _ {_ _} hw => False.elim hw), (fun {_ _ _ _} _ {_} _ {_} _ {_ _} hw => False.elim hw)⟩
  · obtain ⟨x, y, r, p, rfl, h1, h2⟩ := inv_and h
    refine vp_and (VPc (ha.e g h1 hw) fun d es1 hh => ?_)
    obtain ⟨q, rfl, ht, hf⟩ := boolW_iff hh
    refine ⟨q, rfl, fun z => ?_, hf⟩
    rcases h2 with ⟨rfl, h2⟩ | ⟨_, h2⟩
    · exact vp_one (hb.e g h2 (ht z))
    · exact hb.e g h2 (ht z)
  · obtain ⟨x, y, r, p, rfl, h1, h2⟩ := inv_and h
    refine vt_w (vw_and (VTc (ha.t g h1 hw) fun d es1 hh => ⟨fun z => ?_, hh.2⟩))
    rcases h2 with ⟨rfl, h2⟩ | ⟨_, h2⟩
    · exact vw_and1 (hb.t g h2 (hh.1 z))
    · exact vw_of (hb.t g h2 (hh.1 z))
theorem snd_or (a b : E) (ha : Snd C j a) (hb : Snd C j b) : Snd C j (.or a b) := by
  refine ⟨fun {Φ X sc fb} g {e} h {es Ψ} hw => ?_, (fun {_ _ _ _} _ {_} _ {_ _} hw => False.elim hw), fun {Φ X sc fb} g {e} h {es Θ} hw => ?_, (fun {_ _ _ _} _ {_} _ {_ _} hw => False.elim hw), (fun {_ _ _ _} _ {_} _ {_} _ {_ _} hw => False.elim hw)⟩
  · obtain ⟨x, y, r, p, rfl, h1, h2⟩ := inv_or h
    refine vp_or (VPc (ha.e g h1 hw) fun d es1 hh => ?_)
    obtain ⟨q, rfl, ht, hf⟩ := boolW_iff hh
    refine ⟨q, rfl, ht, fun z => ?_⟩
    rcases h2 with ⟨rfl, h2⟩ | ⟨_, h2⟩
    · exact vp_one (hb.e g h2 (hf z))
    · exact hb.e g h2 (hf z)
  · obtain ⟨x, y, r, p, rfl, h1, h2⟩ := inv_or h
    refine vt_w (vw_or (VTc (ha.t g h1 hw) fun d es1 hh => ⟨hh.1, fun z => ?_⟩))
    rcases h2 with ⟨rfl, h2⟩ | ⟨_, h2⟩
    · exact vw_or1 (hb.t g h2 (hh.2 z))
    · exact vw_of (hb.t g h2 (hh.2 z))
theorem snd_not (a : E) (ha : Snd C j a) : Snd C j (.not a) := by
  have inv : ∀ {sc fb e}, chk C (.not a) sc fb e = true → ∃ x p, e = .UnaryOp .Not x p ∧ chk C a sc fb x = true := fun {sc fb e} h => by
    cases e with
    | UnaryOp op x p => cases op <;> simp only [chk, Bool.false_eq_true] at h; exact ⟨x, p, rfl, h⟩
    | _ => simp only [chk, Bool.false_eq_true] at h
  refine ⟨fun {Φ X sc fb} g {e} h {es Ψ} hw => ?_, (fun {_ _ _ _} _ {_} _ {_ _} hw => False.elim hw), fun {Φ X sc fb} g {e} h {es Θ} hw => ?_, (fun {_ _ _ _} _ {_} _ {_ _} hw => False.elim hw), (fun {_ _ _ _} _ {_} _ {_} _ {_ _} hw => False.elim hw)⟩
  · obtain ⟨x, p, rfl, h1⟩ := inv h
    exact vp_not (VPc (ha.e g h1 hw) fun d es1 h => boolW_iff h)
  · obtain ⟨x, p, rfl, h1⟩ := inv h
    exact vt_not (ha.t g h1 hw)
theorem snd_ife (c a b : E) (hc : Snd C j c) (ha : Snd C j a) (hb : Snd C j b) : Snd C j (.ife c a b) := by
  refine ⟨fun {Φ X sc fb} g {e} h {es Ψ} hw => ?_, (fun {_ _ _ _} _ {_} _ {_ _} hw => False.elim hw), (fun {_ _ _ _} _ {_} _ {_ _} hw => False.elim hw), (fun {_ _ _ _} _ {_} _ {_ _} hw => False.elim hw), (fun {_ _ _ _} _ {_} _ {_} _ {_ _} hw => False.elim hw)⟩
  cases e with
  | IfExp t x y p =>
    simp only [chk, Bool.and_eq_true] at h
    exact vp_ife (VTc (hc.t g h.1.1 hw) fun d es1 hh => ⟨fun z => ha.e g h.1.2 (hh.1 z), fun z => hb.e g h.2 (hh.2 z)⟩)
  | _ => simp only [chk, Bool.false_eq_true] at h
theorem snd_nil : Snd C j .nil := by
  refine ⟨(fun {_ _ _ _} _ {_} _ {_ _} hw => False.elim hw), fun {Φ X sc fb} g {as} h {es Λ} hw => ?_, fun {Φ X sc fb} g {e} h {es Θ} hw => ?_, fun {Φ X sc fb} g {e} h {es Θ} hw => ?_, (fun {_ _ _ _} _ {_} _ {_} _ {_ _} hw => False.elim hw)⟩
  · cases as with
    | nil => exact va_nil hw
    | cons y ys => simp only [chkA, Bool.false_eq_true] at h
  · cases e <;> simp only [chk, Bool.false_eq_true] at h
  · cases e <;> simp only [chk, Bool.false_eq_true] at h
theorem VAc {X : Cy} {es : List Sl} {e : List Expr} {Ψ Φ : List Dt → List Sl → Prop} (h : VA X es e Ψ) (k : ∀ d es', Ψ d es' → Φ d es') : VA X es e Φ := fun F B H σ I Q q => h F B H σ I Q fun v d B' H' es' p => q v d B' H' es' (k d es' p)
theorem snd_cons (a r : E) (ha : Snd C j a) (hr : Snd C j r) : Snd C j (.cons a r) := by
  refine ⟨(fun {_ _ _ _} _ {_} _ {_ _} hw => False.elim hw), fun {Φ X sc fb} g {as} h {es Λ} hw => ?_, (fun {_ _ _ _} _ {_} _ {_ _} hw => False.elim hw), (fun {_ _ _ _} _ {_} _ {_ _} hw => False.elim hw), (fun {_ _ _ _} _ {_} _ {_} _ {_ _} hw => False.elim hw)⟩
  cases as with
  | nil => simp only [chkA, Bool.false_eq_true] at h
  | cons y ys =>
    simp only [chkA, Bool.and_eq_true] at h
    exact va_cons (VPc (ha.e g h.1.2 hw) fun d es1 hh => hr.a g h.2 hh) (star_ok h.1.1 _ _)
theorem snd_tup (as : E) (ha : Snd C j as) : Snd C j (.tup as) := by
  have e : ∀ {Φ X sc fb}, Gd Φ C j X sc fb → ∀ {e}, chk C (.tup as) sc fb e = true → ∀ {es Ψ}, wpE Φ (.tup as) es Ψ → VP X es e Ψ := fun {Φ X sc fb} g {e} h {es Ψ} hw => by
    cases e <;> simp only [chk, Bool.false_eq_true] at h
    exact vp_tup (ha.a g h hw)
  refine ⟨e, (fun {_ _ _ _} _ {_} _ {_ _} hw => False.elim hw), (fun {_ _ _ _} _ {_} _ {_ _} hw => False.elim hw), (fun {_ _ _ _} _ {_} _ {_ _} hw => False.elim hw), fun {Φ X sc fb} g {ex} h {tg} ht {es Λ} hw => ?_⟩
  cases ex <;> simp only [chk, Bool.false_eq_true] at h
  exact vi_seq (vp_tup (VAc (ha.a g h hw) fun ds es1 hh => ⟨hh.1, ds, .inr (.inl rfl), hh.2⟩))
theorem snd_lst (as : E) (ha : Snd C j as) : Snd C j (.lst as) := by
  have e : ∀ {Φ X sc fb}, Gd Φ C j X sc fb → ∀ {e}, chk C (.lst as) sc fb e = true → ∀ {es Ψ}, wpE Φ (.lst as) es Ψ → VP X es e Ψ := fun {Φ X sc fb} g {e} h {es Ψ} hw => by
    cases e <;> simp only [chk, Bool.false_eq_true] at h
    exact vp_list (ha.a g h hw)
  refine ⟨e, (fun {_ _ _ _} _ {_} _ {_ _} hw => False.elim hw), (fun {_ _ _ _} _ {_} _ {_ _} hw => False.elim hw), (fun {_ _ _ _} _ {_} _ {_ _} hw => False.elim hw), fun {Φ X sc fb} g {ex} h {tg} ht {es Λ} hw => ?_⟩
  cases ex <;> simp only [chk, Bool.false_eq_true] at h
  exact vi_seq (vp_list (VAc (ha.a g h hw) fun ds es1 hh => ⟨hh.1, ds, .inl rfl, hh.2⟩))
end
end Ax

set_option Elab.async false
set_option linter.all false
set_option maxRecDepth 100000
set_option maxHeartbeats 4000000
namespace Ax
open PySem PySem.Spec PyProof.Rows L2 Lv
section
variable {Φ : Ph} {C : Ck} {j : Nat}
theorem nDbg1 {x : Str} (h : nDbg x = true) : (x == ("__debug__" : Str)) = false := by
  unfold nDbg at h
  simp only [Bool.and_eq_true, Bool.not_eq_true'] at h
  exact h.1
/-- a call's parts -/
theorem inv_call {f : Nat} {as : E} {sc fb e} (h : chk C (.call f as) sc fb e = true) : ∃ x y ys p p', e = .Call (.Name x p) (y :: ys) [] p' ∧ C.rs[f]? = some x ∧ glB sc x = true ∧ nDbg x = true ∧ chkA C as sc fb (y :: ys) = true := by
  cases e with
  | Call fn args kws p' =>
    cases fn with
    | Name x p =>
      match args, kws, h with
      | y :: ys, [], h =>
        simp only [chk, Bool.and_eq_true, decide_eq_true_eq] at h
        obtain ⟨⟨⟨h0, h1⟩, h2⟩, h3⟩ := h
        exact ⟨x, y, ys, p, p', rfl, h0, h1, h2, h3⟩
      | [], _, h => simp only [chk, Bool.false_eq_true] at h
      | _ :: _, _ :: _, h => simp only [chk, Bool.false_eq_true] at h
    | _ => simp only [chk, Bool.false_eq_true] at h
  | _ => simp only [chk, Bool.false_eq_true] at h
theorem inv_calll {f : Nat} {as : E} {sc fb e} (h : chk C (.calll f as) sc fb e = true) : ∃ x y ys p p', e = .Call (.Name x p) (y :: ys) [] p' ∧ C.ls[f]? = some x ∧ glB sc x = true ∧ nDbg x = true ∧ chkA C as sc fb (y :: ys) = true := by
  cases e with
  | Call fn args kws p' =>
    cases fn with
    | Name x p =>
      match args, kws, h with
      | y :: ys, [], h =>
        simp only [chk, Bool.and_eq_true, decide_eq_true_eq] at h
        obtain ⟨⟨⟨h0, h1⟩, h2⟩, h3⟩ := h
        exact ⟨x, y, ys, p, p', rfl, h0, h1, h2, h3⟩
      | [], _, h => simp only [chk, Bool.false_eq_true] at h
      | _ :: _, _ :: _, h => simp only [chk, Bool.false_eq_true] at h
    | _ => simp only [chk, Bool.false_eq_true] at h
  | _ => simp only [chk, Bool.false_eq_true] at h
theorem inv_callo {f i : Nat} {as : E} {sc fb e} (h : chk C (.callo f i as) sc fb e = true) : ∃ x y ys p py p', e = .Call (.Name x p) (.Name y py :: ys) [] p' ∧ C.os[f]? = some x ∧ glB sc x = true ∧ nDbg x = true ∧ nmOk C sc i y = true ∧ chkA C as sc fb ys = true := by
  cases e with
  | Call fn args kws p' =>
    cases fn with
    | Name x p =>
      match args, kws, h with
      | y :: ys, [], h =>
        cases y <;> simp only [chk, Bool.and_eq_true, decide_eq_true_eq, Bool.false_eq_true] at h
        obtain ⟨⟨⟨⟨h0, h1⟩, h2⟩, h3⟩, h4⟩ := h
        exact ⟨x, _, ys, p, _, p', rfl, h0, h1, h2, h3, h4⟩
      | [], _, h => simp only [chk, Bool.false_eq_true] at h
      | y :: _, _ :: _, h => cases y <;> simp only [chk, Bool.false_eq_true] at h
    | _ => simp only [chk, Bool.false_eq_true] at h
  | _ => simp only [chk, Bool.false_eq_true] at h
theorem args_ok {X : Cy} {y : Expr} {ys : List Expr} {as : E} {sc fb} (pos : Pos) (h : chkA C as sc fb (y :: ys) = true) : starEach (y :: ys) X.env = (false, eval y X.env) :: starEach ys X.env ∧ (backTo pos (starEach ys X.env)).any (·.1) = false := by
  have hall := chkA_all h
  rw [List.all_cons, Bool.and_eq_true] at hall
  exact ⟨star_ok hall.1 _ _, star_any pos X.env ys hall.2⟩
theorem snd_call (f : Nat) (as : E) (ha : Snd C j as) : Snd C j (.call f as) := by
  have e : ∀ {Φ X sc fb}, Gd Φ C j X sc fb → ∀ {e}, chk C (.call f as) sc fb e = true → ∀ {es Ψ}, wpE Φ (.call f as) es Ψ → VP X es e Ψ := fun {Φ X sc fb} g {e} h {es Ψ} hw => by
    obtain ⟨x, y, ys, p, p', rfl, h0, h1, h2, h3⟩ := inv_call h
    obtain ⟨a1, a2⟩ := args_ok (X := X) p' h3
    obtain ⟨k, hk, F⟩ := g.cr f x h0
    exact vp_call F g.room hk (g.gl h1) (by rw [g.kp]; exact ha.a g h3 hw) (nDbg1 h2) a1 a2
  refine ⟨e, (fun {_ _ _ _} _ {_} _ {_ _} hw => False.elim hw), ?_, (fun {_ _ _ _} _ {_} _ {_ _} hw => False.elim hw), ?_⟩
  · intro Φ X sc fb g ex h es Θ hw
    have he : ∀ whole, isTrue ex X.env whole = (do let v ← whole; standAt ex.pos; holding [v] (truthy v)) := by
      obtain ⟨x, y, ys, p, p', rfl, _⟩ := inv_call h
      intro _; rfl
    exact vt_tru (e g h hw) he
  · intro Φ X sc fb g ex h tg ht es Λ hw
    exact vi_seq (VPc (e (Ψ := fun r es2 => seqW r fun xs => Λ xs es2) g h hw) fun d es1 h => seqW_iff h)
theorem snd_callo (f i : Nat) (as : E) (ha : Snd C j as) : Snd C j (.callo f i as) := by
  have e : ∀ {Φ X sc fb}, Gd Φ C j X sc fb → ∀ {e}, chk C (.callo f i as) sc fb e = true → ∀ {es Ψ}, wpE Φ (.callo f i as) es Ψ → VP X es e Ψ := fun {Φ X sc fb} g {e} h {es Ψ} hw => by
    obtain ⟨x, y, ys, p, py, p', rfl, h0, h1, h2, h3, h4⟩ := inv_callo h
    obtain ⟨b1, b2, b3, b4⟩ := nm_ok g h3
    obtain ⟨k, hk, F⟩ := g.co f x h0
    obtain ⟨hi, hw⟩ := hw
    exact vp_callO i F g.room hk (g.gl h1) b1 b2 (by rw [g.kp]; exact VAc (ha.a g h4 hw) fun ds es1 hh => owAt_iff hh) hi (nDbg1 h2) rfl (star_any p' X.env ys (chkA_all h4)) b3 b4
  refine ⟨e, (fun {_ _ _ _} _ {_} _ {_ _} hw => False.elim hw), ?_, (fun {_ _ _ _} _ {_} _ {_ _} hw => False.elim hw), ?_⟩
  · intro Φ X sc fb g ex h es Θ hw
    have he : ∀ whole, isTrue ex X.env whole = (do let v ← whole; standAt ex.pos; holding [v] (truthy v)) := by
      obtain ⟨x, y, ys, p, py, p', rfl, _⟩ := inv_callo h
      intro _; rfl
    exact vt_tru (e g h hw) he
  · intro Φ X sc fb g ex h tg ht es Λ hw
    exact vi_seq (VPc (e (Ψ := fun r es2 => seqW r fun xs => Λ xs es2) g h hw) fun d es1 h => seqW_iff h)
theorem snd_calll (f : Nat) (as : E) : Snd C j (.calll f as) := snd_leaf (fun _ _ _ => rfl) (fun _ _ _ => rfl) (fun _ _ _ => rfl) (fun _ _ _ => rfl) (fun {_ _ _ _} _ {_} _ {_ _} hw => False.elim hw)
theorem inv_b1 {k : B1} {a : E} {sc fb e} (h : chk C (.b1 k a) sc fb e = true) : ∃ x p y p', e = .Call (.Name x p) [y] [] p' ∧ blOk C sc k.nm x = true ∧ noStar y = true ∧ chk C a sc fb y = true := by
  cases e with
  | Call fn args kws p' =>
    cases fn with
    | Name x p =>
      match args, kws, h with
      | [y], [], h =>
        simp only [chk, Bool.and_eq_true] at h
        exact ⟨x, p, y, p', rfl, h.1.1, h.1.2, h.2⟩
      | [], _, h => simp only [chk, Bool.false_eq_true] at h
      | [_], _ :: _, h => simp only [chk, Bool.false_eq_true] at h
      | _ :: _ :: _, _, h => simp only [chk, Bool.false_eq_true] at h
    | _ => simp only [chk, Bool.false_eq_true] at h
  | _ => simp only [chk, Bool.false_eq_true] at h
theorem snd_b1 (k : B1) (a : E) (ha : Snd C j a) : Snd C j (.b1 k a) := by
  have e : ∀ {Φ X sc fb}, Gd Φ C j X sc fb → ∀ {e}, chk C (.b1 k a) sc fb e = true → ∀ {es Ψ}, wpE Φ (.b1 k a) es Ψ → VP X es e Ψ := fun {Φ X sc fb} g {e} h {es Ψ} hw => by
    obtain ⟨x, p, y, p', rfl, h1, h2, h3⟩ := inv_b1 h
    obtain ⟨rfl, b2, b3⟩ := bl_ok g h1
    exact vp_b1 k b2 b3 g.calm h2 (ha.e g h3 hw)
  refine ⟨e, (fun {_ _ _ _} _ {_} _ {_ _} hw => False.elim hw), ?_, (fun {_ _ _ _} _ {_} _ {_ _} hw => False.elim hw), ?_⟩
  · intro Φ X sc fb g ex h es Θ hw
    have he : ∀ whole, isTrue ex X.env whole = (do let v ← whole; standAt ex.pos; holding [v] (truthy v)) := by
      obtain ⟨x, p, y, p', rfl, _⟩ := inv_b1 h
      intro _; rfl
    exact vt_tru (e g h hw) he
  · intro Φ X sc fb g ex h tg ht es Λ hw
    exact vi_seq (VPc (e (Ψ := fun r es2 => seqW r fun xs => Λ xs es2) g h hw) fun d es1 h => seqW_iff h)
theorem inv_b2 {k : B2} {a b : E} {sc fb e} (h : chk C (.b2 k a b) sc fb e = true) : ∃ p y z p', e = .Call (.Name k.nm p) [y, z] [] p' ∧ ((k = .gcd ∧ C.gcd = true) ∨ (k ≠ .gcd ∧ k.nm ∈ C.bl)) ∧ glB sc k.nm = true ∧ noStar y = true ∧ noStar z = true ∧ chk C a sc fb y = true ∧ chk C b sc fb z = true := by
  cases e with
  | Call fn args kws p' =>
    cases fn with
    | Name x p =>
      match args, kws, h with
      | [y, z], [], h =>
        simp only [chk, Bool.and_eq_true, decide_eq_true_eq] at h
        obtain ⟨⟨⟨⟨⟨⟨rfl, h0⟩, h1⟩, h2⟩, h3⟩, h4⟩, h5⟩ := h
        exact ⟨p, y, z, p', rfl, by cases k <;> first | exact .inl ⟨rfl, h0⟩ | exact .inr ⟨by simp, of_decide_eq_true h0⟩, h1, h2, h3, h4, h5⟩
      | [], _, h => simp only [chk, Bool.false_eq_true] at h
      | [_], _, h => simp only [chk, Bool.false_eq_true] at h
      | [_, _], _ :: _, h => simp only [chk, Bool.false_eq_true] at h
      | _ :: _ :: _ :: _, _, h => simp only [chk, Bool.false_eq_true] at h
    | _ => simp only [chk, Bool.false_eq_true] at h
  | _ => simp only [chk, Bool.false_eq_true] at h
theorem snd_b2 (k : B2) (a b : E) (ha : Snd C j a) (hb : Snd C j b) : Snd C j (.b2 k a b) := by
  refine ⟨fun {Φ X sc fb} g {e} h {es Ψ} hw => ?_, (fun {_ _ _ _} _ {_} _ {_ _} hw => False.elim hw), (fun {_ _ _ _} _ {_} _ {_ _} hw => False.elim hw), (fun {_ _ _ _} _ {_} _ {_ _} hw => False.elim hw), (fun {_ _ _ _} _ {_} _ {_} _ {_ _} hw => False.elim hw)⟩
  obtain ⟨p, y, z, p', rfl, h0, h1, h2, h3, h4, h5⟩ := inv_b2 h
  refine vp_b2 k ?_ (g.gl h1) g.calm h2 h3 (VPc (ha.e g h4 hw) fun d es1 hh => hb.e g h5 hh)
  cases k with
  | gcd => exact h0.elim (fun z => g.gcd z.2) (fun z => absurd rfl z.1)
  | max => exact h0.elim (fun z => by cases z.1) (fun z => g.blt _ z.2)
  | min => exact h0.elim (fun z => by cases z.1) (fun z => g.blt _ z.2)
theorem snd_isi (t : Ty) (a : E) (ha : Snd C j a) : Snd C j (.isi t a) := by
  have inv : ∀ {sc fb e}, chk C (.isi t a) sc fb e = true → ∃ x p y T pT p', e = .Call (.Name x p) [y, .Name T pT] [] p' ∧ blOk C sc "isinstance" x = true ∧ blOk C sc t.nm T = true ∧ noStar y = true ∧ chk C a sc fb y = true := fun {sc fb e} h => by
    cases e with
    | Call fn args kws p' =>
      cases fn with
      | Name x p =>
        match args, kws, h with
        | [y, z], [], h =>
          cases z <;> simp only [chk, Bool.and_eq_true, Bool.false_eq_true] at h
          exact ⟨x, p, y, _, _, p', rfl, h.1.1.1, h.1.1.2, h.1.2, h.2⟩
        | [], _, h => simp only [chk, Bool.false_eq_true] at h
        | [_], _, h => simp only [chk, Bool.false_eq_true] at h
        | [_, z], _ :: _, h => cases z <;> simp only [chk, Bool.false_eq_true] at h
        | _ :: z :: _ :: _, _, h => cases z <;> simp only [chk, Bool.false_eq_true] at h
      | _ => simp only [chk, Bool.false_eq_true] at h
    | _ => simp only [chk, Bool.false_eq_true] at h
  refine ⟨fun {Φ X sc fb} g {e} h {es Ψ} hw => ?_, (fun {_ _ _ _} _ {_} _ {_ _} hw => False.elim hw), fun {Φ X sc fb} g {ex} h {es Θ} hw => ?_, (fun {_ _ _ _} _ {_} _ {_ _} hw => False.elim hw), (fun {_ _ _ _} _ {_} _ {_} _ {_ _} hw => False.elim hw)⟩
  · obtain ⟨x, p, y, T, pT, p', rfl, h0, h1, h2, h3⟩ := inv h
    obtain ⟨rfl, b2, b3⟩ := bl_ok g h0
    obtain ⟨rfl, c2, c3⟩ := bl_ok g h1
    exact vp_isiW t b2 c2 b3 c3 h2 (ha.e g h3 hw)
  · obtain ⟨x, p, y, T, pT, p', rfl, h0, h1, h2, h3⟩ := inv h
    obtain ⟨rfl, b2, b3⟩ := bl_ok g h0
    obtain ⟨rfl, c2, c3⟩ := bl_ok g h1
    refine vt_val (vp_isiW t b2 c2 b3 c3 h2 (VPc (ha.e g h3 hw) fun d es1 ⟨b, hb, hq⟩ => ⟨b, hb, b, rfl, hq⟩)) ?_
    intro _; rfl
end
end Ax

set_option Elab.async false
set_option linter.all false
set_option maxRecDepth 100000
set_option maxHeartbeats 4000000
namespace Ax
open PySem PySem.Spec PyProof.Rows L2 Lv
section
variable {X : Cy} {es : List Sl} {Ψ : Dt → List Sl → Prop} {Θ : Bool → List Sl → Prop} {a b e e2 : Expr} {pos p : Pos}
theorem vp_boolF (hm : X.mg "bool" = none) (hg : Gl X "bool") (h : VP X es e fun d es1 => p1W .bool d fun r => Ψ r es1) (he : starEach (e :: []) X.env = (false, eval e X.env) :: starEach [] X.env) : VP X es (.Call (.Name "bool" p) [e] [] pos) Ψ :=
  vp_ct call_bool1 hg hm (by decide +kernel) (by decide) (by decide) (va_cons (h.imp fun d es1 hh => va_nil fun F σ B H vs I D Q q => by
    obtain ⟨v, rfl, D1⟩ := vals_dp1 D
    cases d <;> first | exact False.elim hh | skip
    · cases D1; exact .inr ⟨_, rfl, q _ _ B H hh I Stp.rfl' (.bl _)⟩
    · cases D1; exact .inl ⟨_, rfl, q _ _ B H hh I Stp.rfl' (.bl _)⟩) he) he rfl
theorem vp_minl (hm : X.mg "min" = none) (hg : Gl X "min") (hc : X.calm = true) (h : VP X es e fun d es1 => p1W .minl d fun r => Ψ r es1) (he : starEach (e :: []) X.env = (false, eval e X.env) :: starEach [] X.env) : VP X es (.Call (.Name "min" p) [e] [] pos) Ψ :=
  vp_cb (cr_min hc) hg hm (by decide +kernel) (by decide) (by decide) (va_cons (h.imp fun d es1 ⟨ns, hd, hn, hh⟩ => va_nil fun F σ B H vs I D Q q => by
    obtain ⟨v, rfl, D1⟩ := vals_dp1 D
    subst hd
    cases D1 with
    | lst h1 h2 =>
      have := dpa_ints h2
      subst this
      exact ⟨_, ns, rfl, .inl (.inl (I.bh _ _ h1)), hn, fun m m1 m2 => q _ _ B H (hh m m1 m2) I Stp.rfl' (.int _)⟩) he) he rfl
theorem vp_maxl (hm : X.mg "max" = none) (hg : Gl X "max") (hc : X.calm = true) (h : VP X es e fun d es1 => p1W .maxl d fun r => Ψ r es1) (he : starEach (e :: []) X.env = (false, eval e X.env) :: starEach [] X.env) : VP X es (.Call (.Name "max" p) [e] [] pos) Ψ :=
  vp_cb (cr_max hc) hg hm (by decide +kernel) (by decide) (by decide) (va_cons (h.imp fun d es1 ⟨ns, hd, hn, hh⟩ => va_nil fun F σ B H vs I D Q q => by
    obtain ⟨v, rfl, D1⟩ := vals_dp1 D
    subst hd
    cases D1 with
    | lst h1 h2 =>
      have := dpa_ints h2
      subst this
      exact ⟨_, ns, rfl, .inl (.inl (I.bh _ _ h1)), hn, fun m m1 m2 => q _ _ B H (hh m m1 m2) I Stp.rfl' (.int _)⟩) he) he rfl
theorem vp_divmod (hm : X.mg "divmod" = none) (hg : Gl X "divmod") (h : VP X es e fun d es1 => VP X es1 e2 fun d2 es2 => p2W .divmod d d2 fun r => Ψ r es2) (he : starEach (e :: [e2]) X.env = (false, eval e X.env) :: starEach [e2] X.env) (he2 : starEach (e2 :: []) X.env = (false, eval e2 X.env) :: starEach [] X.env) (hpl : (backTo pos (starEach [e2] X.env)).any (·.1) = false) : VP X es (.Call (.Name "divmod" p) [e, e2] [] pos) Ψ :=
  vp_cb call_divmodW hg hm (by decide +kernel) (by decide) (by decide) (va_cons (h.imp fun d es1 hb => va_cons (hb.imp fun d2 es2 hh => va_nil fun F σ B H vs I D Q q => by
    obtain ⟨v, u, rfl, D1, D2⟩ := vals_dp2 D
    cases d <;> first | exact False.elim hh | skip
    cases d2 <;> first | exact False.elim hh | skip
    cases D1; cases D2
    obtain ⟨h1, h2⟩ := hh
    exact ⟨_, _, rfl, h1, fun l hl => q _ _ _ _ h2 (I.new hl) (Stp.new I hl) (.tup (.inl (.inl upd_same)) (.cons (.int _) (.cons (.int _) .nil)))⟩) he2) he) he hpl
theorem toPys_any (d : Dt) : ∀ xs : List Dt, (toPys xs).any (fun z => PyData.eqv z (toPy d)) = xs.any fun z => eqD z d
  | [] => rfl
  | x :: xs => by
    show (PyData.eqv (toPy x) (toPy d) || (toPys xs).any _) = _
    rw [toPys_any d xs]; rfl
theorem vp_inq (hu : X.A.units + 65 < cLine) (h : VP X es a fun d es1 => VP X es1 b fun d2 es2 => p2W .inq d d2 fun r => Ψ r es2) (hm : behindInMarks .In b = false) : VP X es (.Compare a [.In] [b] pos) Ψ := fun F B H σ I Q q => by
  refine EX.of (pe_cmpR (op_inD hu) pe_self pe_self hm) ?_
  refine h F B H σ I _ fun v d B1 H1 es1 hb I1 S1 D1 => ?_
  refine hb F B1 H1 σ I1 _ fun v2 d2 B2 H2 es2 hw I2 S2 D2 => ?_
  cases d2 <;> first | exact False.elim hw | skip
  obtain ⟨⟨h1, h2⟩, hq⟩ := hw
  refine ⟨toPy d, toPys _, dq_dp _ _ h1.1 (I2.bh.dp _ _ (S2.eb.dp _ _ D1)), dq_dp _ _ h2.1 (I2.bh.dp _ _ D2), h1.2, h2.2, ?_⟩
  rw [toPys_any]
  exact q _ _ B2 H2 es2 hq I2 (S1.tr S2) (.bl _)
theorem vp_ninq (hu : X.A.units + 65 < cLine) (h : VP X es a fun d es1 => VP X es1 b fun d2 es2 => p2W .ninq d d2 fun r => Ψ r es2) (hm : behindInMarks .NotIn b = false) : VP X es (.Compare a [.NotIn] [b] pos) Ψ := fun F B H σ I Q q => by
  refine EX.of (pe_cmpR (op_notInD hu) pe_self pe_self hm) ?_
  refine h F B H σ I _ fun v d B1 H1 es1 hb I1 S1 D1 => ?_
  refine hb F B1 H1 σ I1 _ fun v2 d2 B2 H2 es2 hw I2 S2 D2 => ?_
  cases d2 <;> first | exact False.elim hw | skip
  obtain ⟨⟨h1, h2⟩, hq⟩ := hw
  refine ⟨toPy d, toPys _, dq_dp _ _ h1.1 (I2.bh.dp _ _ (S2.eb.dp _ _ D1)), dq_dp _ _ h2.1 (I2.bh.dp _ _ D2), h1.2, h2.2, ?_⟩
  rw [toPys_any]
  exact q _ _ B2 H2 es2 hq I2 (S1.tr S2) (.bl _)
theorem vt_inq (hu : X.A.units + 65 < cLine) (h : VP X es a fun d es1 => VP X es1 b fun d2 es2 => p2W .inq d d2 fun r => boolW r fun z => Θ z es2) (hm : behindInMarks .In b = false) : VT X es (.Compare a [.In] [b] pos) Θ := fun F B H σ I Q q => by
  refine TX.of (pt_cmpR (op_inD hu) pe_self pe_self hm) ?_
  refine h F B H σ I _ fun v d B1 H1 es1 hb I1 S1 D1 => ?_
  refine hb F B1 H1 σ I1 _ fun v2 d2 B2 H2 es2 hw I2 S2 D2 => ?_
  cases d2 <;> first | exact False.elim hw | skip
  obtain ⟨⟨h1, h2⟩, hq⟩ := hw
  refine ⟨toPy d, toPys _, dq_dp _ _ h1.1 (I2.bh.dp _ _ (S2.eb.dp _ _ D1)), dq_dp _ _ h2.1 (I2.bh.dp _ _ D2), h1.2, h2.2, _, rfl, ?_⟩
  rw [toPys_any]
  exact q _ B2 H2 es2 hq I2 (S1.tr S2)
theorem vt_ninq (hu : X.A.units + 65 < cLine) (h : VP X es a fun d es1 => VP X es1 b fun d2 es2 => p2W .ninq d d2 fun r => boolW r fun z => Θ z es2) (hm : behindInMarks .NotIn b = false) : VT X es (.Compare a [.NotIn] [b] pos) Θ := fun F B H σ I Q q => by
  refine TX.of (pt_cmpR (op_notInD hu) pe_self pe_self hm) ?_
  refine h F B H σ I _ fun v d B1 H1 es1 hb I1 S1 D1 => ?_
  refine hb F B1 H1 σ I1 _ fun v2 d2 B2 H2 es2 hw I2 S2 D2 => ?_
  cases d2 <;> first | exact False.elim hw | skip
  obtain ⟨⟨h1, h2⟩, hq⟩ := hw
  refine ⟨toPy d, toPys _, dq_dp _ _ h1.1 (I2.bh.dp _ _ (S2.eb.dp _ _ D1)), dq_dp _ _ h2.1 (I2.bh.dp _ _ D2), h1.2, h2.2, _, rfl, ?_⟩
  rw [toPys_any]
  exact q _ B2 H2 es2 hq I2 (S1.tr S2)
theorem vp_slT {lo hi : Option Expr} {p2 : Pos} (h : VP X es a fun d es1 => ∃ xs, d = .tuple xs ∧ ∃ l u, VO X es1 lo (fun o e => o = l ∧ e = es1) ∧ VO X es1 hi (fun o e => o = u ∧ e = es1) ∧ ¬(HT.sIx xs.length 0 l = 0 ∧ HT.sIx xs.length xs.length u = xs.length) ∧ Ψ (.tuple (cutD xs l u)) es1) : VP X es (.Subscript a (.Slice lo hi none p2) pos) Ψ := fun F B H σ I Q q => by
  have go : ∀ (tl th : TO), PO X lo tl → PO X hi th → (∀ B1 H1 es1 l, En X F B1 H1 σ es1 → VO X es1 lo (fun o e => o = l ∧ e = es1) → ∀ R : Option Int → Hp → Prop, (∀ B2 H2, En X F B2 H2 σ es1 → Stp σ B1 H1 es1 B2 H2 es1 → R l H2) → tl σ H1 R) →
      (∀ B1 H1 es1 u, En X F B1 H1 σ es1 → VO X es1 hi (fun o e => o = u ∧ e = es1) → ∀ R : Option Int → Hp → Prop, (∀ B2 H2, En X F B2 H2 σ es1 → Stp σ B1 H1 es1 B2 H2 es1 → R u H2) → th σ H1 R) → EX X (.Subscript a (.Slice lo hi none p2) pos) σ H Q := fun tl th pl ph kl kh => by
    refine EX.of (pe_slice sl_tup pe_self pl ph) ?_
    refine h F B H σ I _ fun v d B1 H1 es1 ⟨xs, hd, l, u, h1, h2, hn, hq⟩ I1 S1 D1 => ?_
    subst hd
    refine kl B1 H1 es1 l I1 h1 _ fun B2 H2 I2 S2 => ?_
    refine kh B2 H2 es1 u I2 h2 _ fun B3 H3 I3 S3 => ?_
    cases D1 with
    | tup l1 l2 =>
      exact ⟨_, _, rfl, I3.bh.sqt (S3.eb.sqt (S2.eb.sqt l1)), by rw [dpa_len l2]; exact hn, fun q0 hq0 => q _ _ _ _ es1 hq (I3.new hq0) (((S1.tr S2).tr S3).tr (Stp.new I3 hq0)) (.tup (.inl (.inl upd_same)) ((I3.newB hq0).dpa _ _ (dqa_cut l u (S3.eb.dpa _ _ (S2.eb.dpa _ _ l2)))))⟩
  have part : ∀ o : Option Expr, ∃ t : TO, PO X o t ∧ ∀ B1 H1 es1 l, En X F B1 H1 σ es1 → VO X es1 o (fun o e => o = l ∧ e = es1) → ∀ R : Option Int → Hp → Prop, (∀ B2 H2, En X F B2 H2 σ es1 → Stp σ B1 H1 es1 B2 H2 es1 → R l H2) → t σ H1 R := fun o => by
    cases o with
    | none =>
      refine ⟨_, po_none, fun B1 H1 es1 l I1 hv R k => ?_⟩
      obtain ⟨rfl, _⟩ := hv
      exact k B1 H1 I1 Stp.rfl'
    | some e =>
      refine ⟨_, po_some pe_self, fun B1 H1 es1 l I1 hv R k => ?_⟩
      refine hv F B1 H1 σ I1 _ fun v d B2 H2 es2 ⟨i, hd, hl, he⟩ I2 S2 D2 => ?_
      subst hd he hl
      cases D2
      exact ⟨i, rfl, k B2 H2 I2 S2⟩
  obtain ⟨tl, pl, kl⟩ := part lo
  obtain ⟨th, ph, kh⟩ := part hi
  exact go tl th pl ph kl kh
theorem notin_ok {e : Expr} (h : noSet e = true) : behindInMarks .NotIn e = false := by
  cases e <;> first | rfl | (cases h)
theorem slice_no {e : Expr} (h : noSlice e = true) : NoSl e := by
  cases e <;> first | (intro o i; rfl) | (cases h)
end
section
variable {C : Ck} {j : Nat}
theorem snd_p1 (k : P1) (a : E) (ha : Snd C j a) : Snd C j (.p1 k a) := by
  have inv : ∀ {sc fb e}, chk C (.p1 k a) sc fb e = true → ∃ x p y p', e = .Call (.Name x p) [y] [] p' ∧ (match k with | .bool => blOk C sc "bool" x | .minl => blOk C sc "min" x | .maxl => blOk C sc "max" x | _ => false) = true ∧ noStar y = true ∧ chk C a sc fb y = true := fun {sc fb e} h => by
    simp only [chk] at h
    split at h
    · rename_i x hx
      unfold p1X at hx
      split at hx <;> first | cases hx | skip
      all_goals
        split at hx
        · rename_i hb
          cases hx
          rw [Bool.and_eq_true] at hb
          exact ⟨_, _, _, _, rfl, hb.1, hb.2, h⟩
        · cases hx
    · cases h
  have e : ∀ {Φ X sc fb}, Gd Φ C j X sc fb → ∀ {e}, chk C (.p1 k a) sc fb e = true → ∀ {es Ψ}, wpE Φ (.p1 k a) es Ψ → VP X es e Ψ := fun {Φ X sc fb} g {e} h {es Ψ} hw => by
    obtain ⟨x, p, y, p', rfl, h1, h2, h3⟩ := inv h
    have he := star_ok h2 [] X.env
    cases k <;> first | (cases h1; done) | skip
    · obtain ⟨rfl, b2, b3⟩ := bl_ok g h1; exact vp_boolF b2 b3 (ha.e g h3 hw) he
    · obtain ⟨rfl, b2, b3⟩ := bl_ok g h1; exact vp_minl b2 b3 g.calm (ha.e g h3 hw) he
    · obtain ⟨rfl, b2, b3⟩ := bl_ok g h1; exact vp_maxl b2 b3 g.calm (ha.e g h3 hw) he
  refine ⟨e, (fun {_ _ _ _} _ {_} _ {_ _} hw => False.elim hw), ?_, (fun {_ _ _ _} _ {_} _ {_ _} hw => False.elim hw), ?_⟩
  · intro Φ X sc fb g ex h es Θ hw
    have he : ∀ whole, isTrue ex X.env whole = (do let v ← whole; standAt ex.pos; holding [v] (truthy v)) := by
      obtain ⟨x, p, y, p', rfl, _⟩ := inv h
      intro _; rfl
    exact vt_tru (e g h hw) he
  · intro Φ X sc fb g ex h tg ht es Λ hw
    exact vi_seq (VPc (e (Ψ := fun r es2 => seqW r fun xs => Λ xs es2) g h hw) fun d es1 h => seqW_iff h)
theorem units1 {k : Nat} {A : Around} (r : Room k A) : A.units + 1 < cLine := hu_of r
theorem m1_nm {X : Cy} {nm : Str} {p apos cpos : Pos} {k : Expr} (hl : (apos.endLine == cpos.line) = true) (hk : noStar k = true) : M1 X (.Name nm p) "get" apos k cpos := by
  have e := star_ok hk [] X.env
  exact ⟨rfl, by rw [e]; rfl, hl, by rw [e]; rfl⟩
theorem m2_nm {X : Cy} {nm : Str} {p apos cpos : Pos} {k x : Expr} (hl : (apos.endLine == cpos.line) = true) (hk : noStar k = true) (hx : noStar x = true) : M2 X (.Name nm p) "get" apos k x cpos := by
  have e := star_ok hk [x] X.env
  have e2 := star_ok hx [] X.env
  exact ⟨rfl, by rw [e, e2]; rfl, hl, by rw [e, e2]; rfl⟩
theorem isNmE_iff {e : Expr} (h : isNmE e = true) : ∃ x p, e = .Name x p := by
  cases e <;> first | exact ⟨_, _, rfl⟩ | cases h
theorem hu65 {k : Nat} {A : Around} (g : Room k A) : A.units + 65 < cLine := by
  have := g.un
  omega
theorem blk_kind' {N : List Str} {sc scope : Scope} {own : List (Str × Nat)} (h : blkC N sc scope own = true) : scope.kind = .function := (blkOk_by h).kind
theorem ownAt_iff {es : List Sl} {i : Nat} {k : Bool → Ow → Prop} (h : ownAt es i k) : ∃ b c, es[i]? = some (.own b c) ∧ k b c := by
  unfold ownAt at h
  split at h
  · rename_i b c e; exact ⟨b, c, e, h⟩
  · exact False.elim h
theorem inv_p2 {k : P2} {a b : E} {sc fb e} (h : chk C (.p2 k a b) sc fb e = true) : ∃ x y, p2X C sc k e = some (x, y) ∧ chk C a sc fb x = true ∧ chk C b sc fb y = true := by
  simp only [chk] at h
  split at h
  · rename_i x y hx
    rw [Bool.and_eq_true] at h
    exact ⟨x, y, hx, h.1, h.2⟩
  · cases h
def P2Sh (C : Ck) (sc : Scope) (e x y : Expr) : P2 → Prop
  | .dix => ∃ p, e = .Subscript x y p ∧ noSlice y = true
  | .din => ∃ p, e = .Compare x [.In] [y] p ∧ noSet y = true
  | .dnin => ∃ p, e = .Compare x [.NotIn] [y] p ∧ noSet y = true
  | .inq => ∃ p, e = .Compare x [.In] [y] p ∧ noSet y = true
  | .ninq => ∃ p, e = .Compare x [.NotIn] [y] p ∧ noSet y = true
  | .dget => ∃ nm p apos cpos, x = .Name nm p ∧ e = .Call (.Attribute (.Name nm p) "get" apos) [y] [] cpos ∧ (apos.endLine == cpos.line) = true ∧ noStar y = true
  | .divmod => ∃ p pos, e = .Call (.Name "divmod" p) [x, y] [] pos ∧ blOk C sc "divmod" "divmod" = true ∧ noStar x = true ∧ noStar y = true
theorem p2_sh {sc : Scope} {k : P2} {e x y : Expr} (hx : p2X C sc k e = some (x, y)) : P2Sh C sc e x y k := by
  unfold p2X at hx
  split at hx <;> first | cases hx; done | skip
  all_goals
    split at hx <;> first | cases hx; done | skip
    rename_i hc
    cases hx
    try simp only [Bool.and_eq_true, decide_eq_true_eq] at hc
  · exact ⟨_, rfl, hc⟩
  · exact ⟨_, rfl, hc⟩
  · exact ⟨_, rfl, hc⟩
  · exact ⟨_, rfl, hc⟩
  · exact ⟨_, rfl, hc⟩
  · obtain ⟨⟨⟨rfl, c1⟩, c2⟩, c3⟩ := hc
    obtain ⟨nm, p, rfl⟩ := isNmE_iff c1
    exact ⟨_, _, _, _, rfl, rfl, c2, c3⟩
  · obtain ⟨⟨c0, c1⟩, c2⟩ := hc
    have := c0
    unfold blOk at this
    simp only [Bool.and_eq_true, decide_eq_true_eq] at this
    obtain ⟨⟨rfl, _⟩, _⟩ := this
    exact ⟨_, _, rfl, c0, c1, c2⟩
theorem snd_p2 (k : P2) (a b : E) (ha : Snd C j a) (hb : Snd C j b) : Snd C j (.p2 k a b) := by
  have e : ∀ {Φ X sc fb}, Gd Φ C j X sc fb → ∀ {e}, chk C (.p2 k a b) sc fb e = true → ∀ {es Ψ}, wpE Φ (.p2 k a b) es Ψ → VP X es e Ψ := fun {Φ X sc fb} g {e} h {es Ψ} hw => by
    obtain ⟨x, y, hx, h1, h2⟩ := inv_p2 h
    have hs := p2_sh hx
    have hu := units1 g.room
    have hu2 := hu65 g.room
    cases k with
    | dix => obtain ⟨p, rfl, hc⟩ := hs; exact vp_dix hu (VPc (ha.e g h1 hw) fun d es1 hh => hb.e g h2 hh) (slice_no hc)
    | din => obtain ⟨p, rfl, hc⟩ := hs; exact vp_din hu (VPc (ha.e g h1 hw) fun d es1 hh => hb.e g h2 hh) (in_ok hc)
    | dnin => obtain ⟨p, rfl, hc⟩ := hs; exact vp_dnin hu (VPc (ha.e g h1 hw) fun d es1 hh => hb.e g h2 hh) (notin_ok hc)
    | inq => obtain ⟨p, rfl, hc⟩ := hs; exact vp_inq hu2 (VPc (ha.e g h1 hw) fun d es1 hh => hb.e g h2 hh) (in_ok hc)
    | ninq => obtain ⟨p, rfl, hc⟩ := hs; exact vp_ninq hu2 (VPc (ha.e g h1 hw) fun d es1 hh => hb.e g h2 hh) (notin_ok hc)
    | dget =>
      obtain ⟨nm, p, apos, cpos, rfl, rfl, c2, c3⟩ := hs
      exact vp_dget1 hu (VPc (ha.e g h1 hw) fun d es1 hh => ⟨hh.1, VPc (hb.e g h2 hh.2) fun d2 es2 h => h.2⟩) (m1_nm c2 c3)
    | divmod =>
      obtain ⟨p, pos, rfl, c0, c1, c2⟩ := hs
      obtain ⟨_, b2, b3⟩ := bl_ok g c0
      exact vp_divmod b2 b3 (VPc (ha.e g h1 hw) fun d es1 hh => hb.e g h2 hh) (star_ok c1 _ _) (star_ok c2 _ _) (star_any _ _ _ (by simp [c2]))
  refine ⟨e, (fun {_ _ _ _} _ {_} _ {_ _} hw => False.elim hw), ?_, (fun {_ _ _ _} _ {_} _ {_ _} hw => False.elim hw), ?_⟩
  · intro Φ X sc fb g ex h es Θ hw
    obtain ⟨x, y, hx, h1, h2⟩ := inv_p2 h
    have hs := p2_sh hx
    have hu := units1 g.room
    have hu2 := hu65 g.room
    have em : ∀ {W : (Dt → Prop) → Prop} {Q : Bool → Prop}, (∃ r : Option Dt, W fun d => d = .none) → True := fun _ => trivial
    cases k with
    | din => obtain ⟨p, rfl, hc⟩ := hs; exact vt_din hu (VPc (ha.e g h1 hw) fun d es1 hh => hb.e g h2 hh) (in_ok hc)
    | dnin => obtain ⟨p, rfl, hc⟩ := hs; exact vt_dnin hu (VPc (ha.e g h1 hw) fun d es1 hh => hb.e g h2 hh) (notin_ok hc)
    | inq => obtain ⟨p, rfl, hc⟩ := hs; exact vt_inq hu2 (VPc (ha.e g h1 hw) fun d es1 hh => hb.e g h2 hh) (in_ok hc)
    | ninq => obtain ⟨p, rfl, hc⟩ := hs; exact vt_ninq hu2 (VPc (ha.e g h1 hw) fun d es1 hh => hb.e g h2 hh) (notin_ok hc)
    | dix =>
      have := e (Ψ := fun r es2 => boolW r fun p => Θ p es2) g h hw
      obtain ⟨p, rfl, hc⟩ := hs
      exact vt_tru (VPc this fun d es1 hh => by obtain ⟨z, rfl, hh⟩ := boolW_iff hh; exact hh) (fun _ => rfl)
    | dget =>
      have := e (Ψ := fun r es2 => boolW r fun p => Θ p es2) g h hw
      obtain ⟨nm, p, apos, cpos, rfl, rfl, c2, c3⟩ := hs
      exact vt_tru (VPc this fun d es1 hh => by obtain ⟨z, rfl, hh⟩ := boolW_iff hh; exact hh) (fun _ => rfl)
    | divmod =>
      have := e (Ψ := fun r es2 => boolW r fun p => Θ p es2) g h hw
      obtain ⟨p, pos, rfl, c0, c1, c2⟩ := hs
      exact vt_tru (VPc this fun d es1 hh => by obtain ⟨z, rfl, hh⟩ := boolW_iff hh; exact hh) (fun _ => rfl)
  · intro Φ X sc fb g ex h tg ht es Λ hw
    exact vi_seq (VPc (e (Ψ := fun r es2 => seqW r fun xs => Λ xs es2) g h hw) fun d es1 h => seqW_iff h)
theorem snd_p3 (k : P3) (a b c : E) (ha : Snd C j a) (hb : Snd C j b) (hc : Snd C j c) : Snd C j (.p3 k a b c) := by
  refine ⟨fun {Φ X sc fb} g {e} h {es Ψ} hw => ?_, (fun {_ _ _ _} _ {_} _ {_ _} hw => False.elim hw), (fun {_ _ _ _} _ {_} _ {_ _} hw => False.elim hw), (fun {_ _ _ _} _ {_} _ {_ _} hw => False.elim hw), (fun {_ _ _ _} _ {_} _ {_} _ {_ _} hw => False.elim hw)⟩
  simp only [chk] at h
  split at h
  · rename_i x y z hx
    simp only [Bool.and_eq_true] at h
    obtain ⟨⟨h1, h2⟩, h3⟩ := h
    unfold p3X at hx
    split at hx <;> first | cases hx; done | skip
    split at hx <;> first | cases hx; done | skip
    rename_i hc'
    cases hx
    simp only [Bool.and_eq_true, decide_eq_true_eq] at hc'
    obtain ⟨⟨⟨⟨rfl, c1⟩, c2⟩, c3⟩, c4⟩ := hc'
    obtain ⟨nm, p, rfl⟩ := isNmE_iff c1
    exact vp_dget2 (units1 g.room) (VPc (ha.e g h1 hw) fun d es1 hh => ⟨hh.1, VPc (hb.e g h2 hh.2) fun d2 es2 hh2 => VPc (hc.e g h3 hh2) fun d3 es3 h => h.2⟩) (m2_nm c2 c3 c4)
  · cases h
theorem inv_dino {n : Bool} {i : Nat} {k : E} {sc fb e} (h : chk C (.dino n i k) sc fb e = true) : ∃ l nm p p', e = .Compare l [if n then .NotIn else .In] [.Name nm p] p' ∧ nmOk C sc i nm = true ∧ chk C k sc fb l = true := by
  cases e with
  | Compare l ops cs p' =>
    match ops, cs, h with
    | [op], [c], h =>
      cases c with
      | Name nm p =>
        simp only [chk, Bool.and_eq_true, decide_eq_true_eq] at h
        obtain ⟨⟨rfl, h2⟩, h3⟩ := h
        exact ⟨_, _, _, _, rfl, h2, h3⟩
      | _ => simp only [chk, Bool.false_eq_true] at h
    | [], _, h => simp only [chk, Bool.false_eq_true] at h
    | [_], [], h => simp only [chk, Bool.false_eq_true] at h
    | [_], _ :: _ :: _, h => simp only [chk, Bool.false_eq_true] at h
    | _ :: _ :: _, _, h => simp only [chk, Bool.false_eq_true] at h
  | _ => simp only [chk, Bool.false_eq_true] at h
theorem snd_dino (n : Bool) (i : Nat) (k : E) (hk : Snd C j k) : Snd C j (.dino n i k) := by
  refine ⟨fun {Φ X sc fb} g {e} h {es Ψ} hw => ?_, (fun {_ _ _ _} _ {_} _ {_ _} hw => False.elim hw), fun {Φ X sc fb} g {e} h {es Θ} hw => ?_, (fun {_ _ _ _} _ {_} _ {_ _} hw => False.elim hw), (fun {_ _ _ _} _ {_} _ {_} _ {_ _} hw => False.elim hw)⟩
  · obtain ⟨l, nm, p, p', rfl, h2, h3⟩ := inv_dino h
    obtain ⟨b1, b2, b3, b4⟩ := nm_ok g h2
    obtain ⟨b0, c0, h0, hw⟩ := ownAt_iff hw
    cases n with
    | false => exact vp_dinO (units1 g.room) h0 (hk.e g h3 hw) b1 b2 b3 b4
    | true => exact vp_dninO (units1 g.room) h0 (hk.e g h3 hw) b1 b2 b3 b4
  · obtain ⟨l, nm, p, p', rfl, h2, h3⟩ := inv_dino h
    obtain ⟨b1, b2, b3, b4⟩ := nm_ok g h2
    obtain ⟨b0, c0, h0, hw⟩ := ownAt_iff hw
    cases n with
    | false => exact vt_dinO (units1 g.room) h0 (hk.e g h3 hw) b1 b2 b3 b4
    | true => exact vt_dninO (units1 g.room) h0 (hk.e g h3 hw) b1 b2 b3 b4
theorem inv_dgeto {i : Nat} {k x : E} {sc fb e} (h : chk C (.dgeto i k x) sc fb e = true) : ∃ nm p apos e1 e2 cpos, e = .Call (.Attribute (.Name nm p) "get" apos) [e1, e2] [] cpos ∧ (apos.endLine == cpos.line) = true ∧ nmOk C sc i nm = true ∧ noStar e1 = true ∧ noStar e2 = true ∧ chk C k sc fb e1 = true ∧ chk C x sc fb e2 = true := by
  cases e with
  | Call fn args kws p' =>
    cases fn with
    | Attribute a m p2 =>
      cases a with
      | Name y q =>
        match args, kws, h with
        | [e1, e2], [], h =>
          simp only [chk, Bool.and_eq_true, decide_eq_true_eq] at h
          obtain ⟨⟨⟨⟨⟨⟨rfl, c2⟩, c3⟩, c4⟩, c5⟩, c6⟩, c7⟩ := h
          exact ⟨_, _, _, _, _, _, rfl, c2, c3, c4, c5, c6, c7⟩
        | [], _, h => simp only [chk, Bool.false_eq_true] at h
        | [_], _, h => simp only [chk, Bool.false_eq_true] at h
        | [_, _], _ :: _, h => simp only [chk, Bool.false_eq_true] at h
        | _ :: _ :: _ :: _, _, h => simp only [chk, Bool.false_eq_true] at h
      | _ => simp only [chk, Bool.false_eq_true] at h
    | _ => simp only [chk, Bool.false_eq_true] at h
  | _ => simp only [chk, Bool.false_eq_true] at h
theorem snd_dgeto (i : Nat) (k x : E) (hk : Snd C j k) (hx : Snd C j x) : Snd C j (.dgeto i k x) := by
  refine ⟨fun {Φ X sc fb} g {e} h {es Ψ} hw => ?_, (fun {_ _ _ _} _ {_} _ {_ _} hw => False.elim hw), (fun {_ _ _ _} _ {_} _ {_ _} hw => False.elim hw), (fun {_ _ _ _} _ {_} _ {_ _} hw => False.elim hw), (fun {_ _ _ _} _ {_} _ {_} _ {_ _} hw => False.elim hw)⟩
  obtain ⟨nm, p, apos, e1, e2, cpos, rfl, c2, c3, c4, c5, c6, c7⟩ := inv_dgeto h
  obtain ⟨b1, b2, b3, b4⟩ := nm_ok g c3
  obtain ⟨b0, c0, h0, hd, hw⟩ := ownAt_iff hw
  exact vp_dget2O (units1 g.room) h0 hd (VPc (hk.e g c6 hw) fun d es1 hh => hx.e g c7 hh) b1 b2 (m2_nm c2 c4 c5) b3 b4
theorem inv_dvals {i v : Nat} {sc fb e} (h : chk C (.dvals i v) sc fb e = true) : ∃ y x p1 p2 p3 p4 p5 scope pos, e = .ListComp (.Subscript (.Name y p1) (.Name x p2) p3) [⟨.Name x p4, .Name y p5, [], 0⟩] scope pos ∧ nmOk C sc i y = true ∧ visB (relS scope sc) y = true ∧ C.N[v]? = some x ∧ nDbg x = true ∧ blkC C.N sc scope [(x, v)] = true ∧ locB (relS scope sc) x = true ∧ (fbB (some scope) x = true ∨ (relS scope sc).names.lookup x = some .local) ∧ i ≠ v := by
  cases e with
  | ListComp elt gens scope p =>
    match gens, h with
    | [⟨t, it, ifs, z⟩], h =>
      unfold chk at h
      split at h <;> first | (cases h; done) | contradiction | skip
      rename_i q1 q2 hg
      simp only [Bool.and_eq_true, Bool.or_eq_true, decide_eq_true_eq] at h
      obtain ⟨⟨⟨⟨⟨⟨⟨⟨⟨r1, r2⟩, c1⟩, c2⟩, c3⟩, c4⟩, c5⟩, c6⟩, c7⟩, c8⟩ := h
      cases q1
      cases q2
      subst r1
      subst r2
      exact ⟨_, _, _, _, _, _, _, _, _, rfl, c1, c2, c3, c4, c5, c6, c7, c8⟩
    | [], h => simp only [chk, Bool.false_eq_true] at h
    | _ :: _ :: _, h => simp only [chk, Bool.false_eq_true] at h
  | _ => simp only [chk, Bool.false_eq_true] at h
theorem snd_dvals (i v : Nat) : Snd C j (.dvals i v) := by
  refine ⟨fun {Φ X sc fb} g {e} h {es Ψ} hw => ?_, (fun {_ _ _ _} _ {_} _ {_ _} hw => False.elim hw), (fun {_ _ _ _} _ {_} _ {_ _} hw => False.elim hw), (fun {_ _ _ _} _ {_} _ {_ _} hw => False.elim hw), (fun {_ _ _ _} _ {_} _ {_} _ {_ _} hw => False.elim hw)⟩
  obtain ⟨y, x, p1, p2, p3, p4, p5, scope, pos, rfl, c1, c2, c3, c4, c5, c6, c7, c8⟩ := inv_dvals h
  obtain ⟨b1, b2, b3, b4⟩ := nm_ok g c1
  have hk := blk_kind' c5
  have hblk : BlkOk X.N X.env.scope scope [(x, v)] := by rw [g.hN, g.hsc]; exact blkOk_by c5
  obtain ⟨d, hd, hw⟩ := fzAt_iff hw
  unfold nDbg at c4
  simp only [Bool.and_eq_true, Bool.not_eq_true'] at c4
  have fin : ∀ {ds}, ((∃ ks, d = .dK ks ds ∧ ks.Nodup) ∨ (∃ ks, d = .dT ks ds ∧ ks.Nodup)) → (noOwB es [v] = true ∧ ds.length ≤ 100000 ∧ Ψ (.list ds) es) → VP X es (.ListComp (.Subscript (.Name y p1) (.Name x p2) p3) [⟨.Name x p4, .Name y p5, [], 0⟩] scope pos) Ψ := fun {ds} hd' hh =>
    vp_dvals (units1 g.room) g.calm (by rw [g.hN]; exact g.nd) hblk hd hd' hh.2.1 c8 (noOw_of hh.1) b1 b2 b3 b4 c4.1 c4.2 (by rw [g.hN]; exact c3) (fun s H Ca cl fp => by
      have g' := g.blk hk s H Ca cl fp
      exact ⟨g'.loc c6, c7.imp (g'.fn _) (fun z => by rw [g'.hsc]; exact z), g'.vis c2⟩) hh.2.2
  unfold valsW at hw
  split at hw
  · exact fin (.inl ⟨_, rfl, hw.1⟩) hw.2
  · exact fin (.inr ⟨_, rfl, hw.1⟩) hw.2
  · exact False.elim hw
theorem snd_dkeys (a : E) (ha : Snd C j a) : Snd C j (.dkeys a) := by
  refine ⟨(fun {_ _ _ _} _ {_} _ {_ _} hw => False.elim hw), (fun {_ _ _ _} _ {_} _ {_ _} hw => False.elim hw), (fun {_ _ _ _} _ {_} _ {_ _} hw => False.elim hw), (fun {_ _ _ _} _ {_} _ {_ _} hw => False.elim hw), fun {Φ X sc fb} g {e} h {tg} ht {es Λ} hw => ?_⟩
  unfold chk at h
  rw [Bool.and_eq_true] at h
  exact vi_dkeys (VPc (ha.e g h.2 hw) fun d es1 hh => by
    unfold dkW at hh
    split at hh
    · exact ⟨_, _, rfl, hh⟩
    · exact False.elim hh)
theorem base_items {e : Expr} {env : Env} (h : (match e with | .Name .. => true | .Call (.Name ..) (_ :: _) _ _ => true | _ => false) = true) : attributeBase e "items" env (eval e env) = eval e env := by
  cases e with
  | Name x p => rfl
  | Call f as ks p => cases f <;> cases as <;> first | rfl | cases h
  | _ => cases h
theorem inv_ditems {a : E} {sc fb e} (h : chk C (.ditems a) sc fb e = true) : ∃ x apos cpos, e = .Call (.Attribute x "items" apos) [] [] cpos ∧ (match x with | .Name .. => true | .Call (.Name ..) (_ :: _) _ _ => true | _ => false) = true ∧ (apos.endLine == cpos.line) = true ∧ chk C a sc fb x = true := by
  cases e with
  | Call fn args kws p' =>
    cases fn with
    | Attribute x m p2 =>
      match args, kws, h with
      | [], [], h =>
        simp only [chk, Bool.and_eq_true, decide_eq_true_eq] at h
        obtain ⟨⟨⟨rfl, c1⟩, c2⟩, c3⟩ := h
        exact ⟨_, _, _, rfl, c1, c2, c3⟩
      | [], _ :: _, h => simp only [chk, Bool.false_eq_true] at h
      | _ :: _, _, h => simp only [chk, Bool.false_eq_true] at h
    | _ => simp only [chk, Bool.false_eq_true] at h
  | _ => simp only [chk, Bool.false_eq_true] at h
theorem snd_ditems (a : E) (ha : Snd C j a) : Snd C j (.ditems a) := by
  refine ⟨(fun {_ _ _ _} _ {_} _ {_ _} hw => False.elim hw), (fun {_ _ _ _} _ {_} _ {_ _} hw => False.elim hw), (fun {_ _ _ _} _ {_} _ {_ _} hw => False.elim hw), (fun {_ _ _ _} _ {_} _ {_ _} hw => False.elim hw), fun {Φ X sc fb} g {e} h {tg} ht {es Λ} hw => ?_⟩
  obtain ⟨x, apos, cpos, rfl, c1, c2, c3⟩ := inv_ditems h
  cases tg <;> first | (simp [tgOk, isTup] at ht; done) | skip
  exact vi_ditems (VPc (ha.e g c3 hw) fun d es1 hh => by
    unfold dkW at hh
    split at hh
    · exact ⟨_, _, rfl, hh⟩
    · exact False.elim hh) (base_items c1) c2
end
end Ax

set_option Elab.async false
set_option linter.all false
set_option maxRecDepth 100000
set_option maxHeartbeats 4000000
namespace Ax
open PySem PySem.Spec PyProof.Rows L2 Lv
section
variable {Φ : Ph} {C : Ck} {j : Nat}
theorem snd_ix (a b : E) (ha : Snd C j a) (hb : Snd C j b) : Snd C j (.ix a b) := by
  have e : ∀ {Φ X sc fb}, Gd Φ C j X sc fb → ∀ {e}, chk C (.ix a b) sc fb e = true → ∀ {es Ψ}, wpE Φ (.ix a b) es Ψ → VP X es e Ψ := fun {Φ X sc fb} g {e} h {es Ψ} hw => by
    cases e <;> simp only [chk, Bool.and_eq_true, Bool.false_eq_true] at h
    exact vp_ixW h.1.1 (VPc (ha.e g h.1.2 hw) fun d es1 hh => hb.e g h.2 hh)
  refine ⟨e, (fun {_ _ _ _} _ {_} _ {_ _} hw => False.elim hw), (fun {_ _ _ _} _ {_} _ {_ _} hw => False.elim hw), (fun {_ _ _ _} _ {_} _ {_ _} hw => False.elim hw), ?_⟩
  intro Φ X sc fb g ex h tg ht es Λ hw
  exact vi_seq (VPc (e (Ψ := fun r es2 => seqW r fun xs => Λ xs es2) g h hw) fun d es1 h => seqW_iff h)
theorem snd_ixo (i : Nat) (b : E) (hb : Snd C j b) : Snd C j (.ixo i b) := by
  refine ⟨fun {Φ X sc fb} g {e} h {es Ψ} hw => ?_, (fun {_ _ _ _} _ {_} _ {_ _} hw => False.elim hw), (fun {_ _ _ _} _ {_} _ {_ _} hw => False.elim hw), (fun {_ _ _ _} _ {_} _ {_ _} hw => False.elim hw), (fun {_ _ _ _} _ {_} _ {_} _ {_ _} hw => False.elim hw)⟩
  cases e with
  | Subscript l r p =>
    cases l <;> simp only [chk, Bool.and_eq_true, Bool.false_eq_true] at h
    obtain ⟨⟨h1, h2⟩, h3⟩ := h
    obtain ⟨b1, b2, b3, b4⟩ := nm_ok g h2
    obtain ⟨⟨b0, ds0, h0⟩, hw⟩ := hw
    refine vp_ixO i (b0 := b0) (ds0 := ds0) (VPc (hb.e g h3 hw) fun d2 es2 hh => ?_) h0 b1 b2 (slice_ok h1) b3 b4
    obtain ⟨bb, ds, e1, hh⟩ := owAt_iff hh
    obtain ⟨n, rfl, x, h4, h5⟩ := intW_iff hh
    exact ⟨bb, ds, n, x, e1, rfl, h4, h5⟩
  | _ => simp only [chk, Bool.false_eq_true] at h
theorem inv_sl {a lo hi : E} {sc fb e} (h : chk C (.sl a lo hi) sc fb e = true) : ∃ x l u p p', e = .Subscript x (.Slice l u none p) p' ∧ chk C a sc fb x = true ∧ (match l with | none => isNil lo | some y => !isNil lo && chk C lo sc fb y) = true ∧ (match u with | none => isNil hi | some y => !isNil hi && chk C hi sc fb y) = true := by
  cases e with
  | Subscript x s p' =>
    cases s with
    | Slice l u st p =>
      cases st with
      | none =>
        simp only [chk, Bool.and_eq_true] at h
        exact ⟨x, l, u, p, p', rfl, h.1.1, h.1.2, h.2⟩
      | some _ => simp only [chk, Bool.false_eq_true] at h
    | _ => simp only [chk, Bool.false_eq_true] at h
  | _ => simp only [chk, Bool.false_eq_true] at h
theorem inv_slt {a lo hi : E} {sc fb e} (h : chk C (.slt a lo hi) sc fb e = true) : ∃ x l u p p', e = .Subscript x (.Slice l u none p) p' ∧ chk C a sc fb x = true ∧ (match l with | none => isNil lo | some y => !isNil lo && chk C lo sc fb y) = true ∧ (match u with | none => isNil hi | some y => !isNil hi && chk C hi sc fb y) = true := by
  cases e with
  | Subscript x s p' =>
    cases s with
    | Slice l u st p =>
      cases st with
      | none =>
        simp only [chk, Bool.and_eq_true] at h
        exact ⟨x, l, u, p, p', rfl, h.1.1, h.1.2, h.2⟩
      | some _ => simp only [chk, Bool.false_eq_true] at h
    | _ => simp only [chk, Bool.false_eq_true] at h
  | _ => simp only [chk, Bool.false_eq_true] at h
theorem vo_ok {X : Cy} {sc fb} {lo : E} (hl : Snd C j lo) (g : Gd Φ C j X sc fb) {l : Option Expr} (h : (match l with | none => isNil lo | some y => !isNil lo && chk C lo sc fb y) = true) {es : List Sl} {k : Option Int → List Sl → Prop} (hw : wpO Φ lo es k) : VO X es l k := by
  cases l with
  | none =>
    cases lo <;> first | exact hw | (simp [isNil] at h)
  | some y =>
    simp only [Bool.and_eq_true] at h
    exact hl.o g h.2 hw
theorem snd_sl (a lo hi : E) (ha : Snd C j a) (hl : Snd C j lo) (hh : Snd C j hi) : Snd C j (.sl a lo hi) := by
  refine ⟨fun {Φ X sc fb} g {e} h {es Ψ} hw => ?_, (fun {_ _ _ _} _ {_} _ {_ _} hw => False.elim hw), (fun {_ _ _ _} _ {_} _ {_ _} hw => False.elim hw), (fun {_ _ _ _} _ {_} _ {_ _} hw => False.elim hw), fun {Φ X sc fb} g {ex} h {tg} ht {es Λ} hw => ?_⟩
  · obtain ⟨x, l, u, p, p', rfl, h1, h2, h3⟩ := inv_sl h
    exact vp_slL (VPc (ha.e g h1 hw) fun d es1 ⟨xs, hd, l', u', e1, e2, hq⟩ => ⟨xs, hd, l', u', vo_ok hl g h2 e1, vo_ok hh g h3 e2, hq⟩)
  · obtain ⟨x, l, u, p, p', rfl, h1, h2, h3⟩ := inv_sl h
    exact vi_seq (vp_slL (VPc (ha.e g h1 hw) fun d es1 ⟨xs, hd, l', u', e1, e2, hq⟩ => ⟨xs, hd, l', u', vo_ok hl g h2 e1, vo_ok hh g h3 e2, _, .inl rfl, hq⟩))
theorem snd_slt (a lo hi : E) (ha : Snd C j a) (hl : Snd C j lo) (hh : Snd C j hi) : Snd C j (.slt a lo hi) := by
  refine ⟨fun {Φ X sc fb} g {e} h {es Ψ} hw => ?_, (fun {_ _ _ _} _ {_} _ {_ _} hw => False.elim hw), (fun {_ _ _ _} _ {_} _ {_ _} hw => False.elim hw), (fun {_ _ _ _} _ {_} _ {_ _} hw => False.elim hw), (fun {_ _ _ _} _ {_} _ {_} _ {_ _} hw => False.elim hw)⟩
  obtain ⟨x, l, u, p, p', rfl, h1, h2, h3⟩ := inv_slt h
  exact vp_slT (VPc (ha.e g h1 hw) fun d es1 ⟨xs, hd, l', u', e1, e2, hn, hq⟩ => ⟨xs, hd, l', u', vo_ok hl g h2 e1, vo_ok hh g h3 e2, hn, hq⟩)
theorem inv_inn {a b : E} {sc fb e} (h : chk C (.inn a b) sc fb e = true) : ∃ l r p, e = .Compare l [.In] [r] p ∧ noSet r = true ∧ chk C a sc fb l = true ∧ chk C b sc fb r = true := by
  cases e with
  | Compare l ops cs p =>
    match ops, cs, h with
    | [op], [r], h =>
      cases op <;> simp only [chk, Bool.and_eq_true, Bool.false_eq_true] at h
      exact ⟨l, r, p, rfl, h.1.1, h.1.2, h.2⟩
    | [], _, h => simp only [chk, Bool.false_eq_true] at h
    | [_], [], h => simp only [chk, Bool.false_eq_true] at h
    | [_], _ :: _ :: _, h => simp only [chk, Bool.false_eq_true] at h
    | _ :: _ :: _, _, h => simp only [chk, Bool.false_eq_true] at h
  | _ => simp only [chk, Bool.false_eq_true] at h
theorem snd_inn (a b : E) (ha : Snd C j a) (hb : Snd C j b) : Snd C j (.inn a b) := by
  refine ⟨fun {Φ X sc fb} g {e} h {es Ψ} hw => ?_, (fun {_ _ _ _} _ {_} _ {_ _} hw => False.elim hw), fun {Φ X sc fb} g {ex} h {es Θ} hw => ?_, (fun {_ _ _ _} _ {_} _ {_ _} hw => False.elim hw), (fun {_ _ _ _} _ {_} _ {_} _ {_ _} hw => False.elim hw)⟩
  · obtain ⟨l, r, p, rfl, h1, h2, h3⟩ := inv_inn h
    refine vp_inI (VPc (ha.e g h2 hw) fun d es1 hh => VPc (hb.e g h3 hh) fun d2 es2 hh => ?_) (in_ok h1)
    obtain ⟨i, rfl, hh⟩ := intW_iff hh
    obtain ⟨xs, hs, ns, rfl, hq⟩ := seqW_iff hh
    exact ⟨i, ns, rfl, hs, hq⟩
  · obtain ⟨l, r, p, rfl, h1, h2, h3⟩ := inv_inn h
    refine vt_inI (VPc (ha.e g h2 hw) fun d es1 hh => VPc (hb.e g h3 hh) fun d2 es2 hh => ?_) (in_ok h1)
    obtain ⟨i, rfl, hh⟩ := intW_iff hh
    obtain ⟨xs, hs, ns, rfl, hq⟩ := seqW_iff hh
    exact ⟨i, ns, rfl, hs, hq⟩
theorem snd_range1 (a : E) (ha : Snd C j a) : Snd C j (.range1 a) := by
  refine ⟨(fun {_ _ _ _} _ {_} _ {_ _} hw => False.elim hw), (fun {_ _ _ _} _ {_} _ {_ _} hw => False.elim hw), (fun {_ _ _ _} _ {_} _ {_ _} hw => False.elim hw), (fun {_ _ _ _} _ {_} _ {_ _} hw => False.elim hw), fun {Φ X sc fb} g {e} h {tg} ht {es Λ} hw => ?_⟩
  cases e with
  | Call fn args kws p' =>
    cases fn with
    | Name x p =>
      match args, kws, h with
      | [y], [], h =>
        simp only [chk, Bool.and_eq_true] at h
        obtain ⟨rfl, b2, b3⟩ := bl_ok g h.1.1
        exact vi_range1 b2 b3 (VPc (ha.e g h.2 hw) fun d es1 hh => by obtain ⟨n, e, ⟨b1, b2⟩, hq⟩ := intW_iff hh; exact ⟨n, e, b1, b2, hq⟩) (star_ok h.1.2 _ _)
      | [], _, h => simp only [chk, Bool.false_eq_true] at h
      | [_], _ :: _, h => simp only [chk, Bool.false_eq_true] at h
      | _ :: _ :: _, _, h => simp only [chk, Bool.false_eq_true] at h
    | _ => simp only [chk, Bool.false_eq_true] at h
  | _ => simp only [chk, Bool.false_eq_true] at h
theorem inv_two {k : Str} {fn : Expr} {args : List Expr} {kws : List Keyword} {p' : Pos} {a b : E} {sc fb} (h : ∃ x p y z, fn = .Name x p ∧ args = [y, z] ∧ kws = [] ∧ blOk C sc k x = true ∧ noStar y = true ∧ noStar z = true ∧ chk C a sc fb y = true ∧ chk C b sc fb z = true) : True := trivial
theorem snd_range2 (a b : E) (ha : Snd C j a) (hb : Snd C j b) : Snd C j (.range2 a b) := by
  refine ⟨(fun {_ _ _ _} _ {_} _ {_ _} hw => False.elim hw), (fun {_ _ _ _} _ {_} _ {_ _} hw => False.elim hw), (fun {_ _ _ _} _ {_} _ {_ _} hw => False.elim hw), (fun {_ _ _ _} _ {_} _ {_ _} hw => False.elim hw), fun {Φ X sc fb} g {e} h {tg} ht {es Λ} hw => ?_⟩
  cases e with
  | Call fn args kws p' =>
    cases fn with
    | Name x p =>
      match args, kws, h with
      | [y, z], [], h =>
        simp only [chk, Bool.and_eq_true] at h
        obtain ⟨⟨⟨⟨h0, h1⟩, h2⟩, h3⟩, h4⟩ := h
        obtain ⟨rfl, b2, b3⟩ := bl_ok g h0
        exact vi_range2 b2 b3 (VPc (ha.e g h3 hw) fun d es1 hh => by
          obtain ⟨lo, rfl, hh⟩ := intW_iff hh
          exact ⟨lo, rfl, VPc (hb.e g h4 hh) fun d2 es2 hh => intW_iff hh⟩) (by rw [star_ok h1, star_ok h2]; rfl) (by rw [star_ok h2]; rfl)
      | [], _, h => simp only [chk, Bool.false_eq_true] at h
      | [_], _, h => simp only [chk, Bool.false_eq_true] at h
      | [_, _], _ :: _, h => simp only [chk, Bool.false_eq_true] at h
      | _ :: _ :: _ :: _, _, h => simp only [chk, Bool.false_eq_true] at h
    | _ => simp only [chk, Bool.false_eq_true] at h
  | _ => simp only [chk, Bool.false_eq_true] at h
theorem snd_zip (a b : E) (ha : Snd C j a) (hb : Snd C j b) : Snd C j (.zip a b) := by
  refine ⟨(fun {_ _ _ _} _ {_} _ {_ _} hw => False.elim hw), (fun {_ _ _ _} _ {_} _ {_ _} hw => False.elim hw), (fun {_ _ _ _} _ {_} _ {_ _} hw => False.elim hw), (fun {_ _ _ _} _ {_} _ {_ _} hw => False.elim hw), fun {Φ X sc fb} g {e} h {tg} ht {es Λ} hw => ?_⟩
  cases tg with
  | Tuple ts kk tp =>
    cases e with
    | Call fn args kws p' =>
      cases fn with
      | Name x p =>
        match args, kws, h with
        | [y, z], [], h =>
          simp only [chk, Bool.and_eq_true] at h
          obtain ⟨⟨⟨⟨h0, h1⟩, h2⟩, h3⟩, h4⟩ := h
          obtain ⟨rfl, b2, b3⟩ := bl_ok g h0
          exact vi_zip b2 b3 (VPc (ha.e g h3 hw) fun d es1 hh => hb.e g h4 hh) (star_ok h1 _ _) (star_ok h2 _ _) (star_any p' X.env [z] (by simp [h2]))
        | [], _, h => simp only [chk, Bool.false_eq_true] at h
        | [_], _, h => simp only [chk, Bool.false_eq_true] at h
        | [_, _], _ :: _, h => simp only [chk, Bool.false_eq_true] at h
        | _ :: _ :: _ :: _, _, h => simp only [chk, Bool.false_eq_true] at h
      | _ => simp only [chk, Bool.false_eq_true] at h
    | _ => simp only [chk, Bool.false_eq_true] at h
  | _ => simp [tgOk, isTup] at ht
theorem snd_enum (a : E) (ha : Snd C j a) : Snd C j (.enum a) := by
  refine ⟨(fun {_ _ _ _} _ {_} _ {_ _} hw => False.elim hw), (fun {_ _ _ _} _ {_} _ {_ _} hw => False.elim hw), (fun {_ _ _ _} _ {_} _ {_ _} hw => False.elim hw), (fun {_ _ _ _} _ {_} _ {_ _} hw => False.elim hw), fun {Φ X sc fb} g {e} h {tg} ht {es Λ} hw => ?_⟩
  cases tg with
  | Tuple ts kk tp =>
    cases e with
    | Call fn args kws p' =>
      cases fn with
      | Name x p =>
        match args, kws, h with
        | [y], [], h =>
          simp only [chk, Bool.and_eq_true] at h
          obtain ⟨rfl, b2, b3⟩ := bl_ok g h.1.1
          exact vi_enum b2 b3 (ha.e g h.2 hw) (star_ok h.1.2 _ _)
        | [], _, h => simp only [chk, Bool.false_eq_true] at h
        | [_], _ :: _, h => simp only [chk, Bool.false_eq_true] at h
        | _ :: _ :: _, _, h => simp only [chk, Bool.false_eq_true] at h
      | _ => simp only [chk, Bool.false_eq_true] at h
    | _ => simp only [chk, Bool.false_eq_true] at h
  | _ => simp [tgOk, isTup] at ht
/-! ### comprehensions -/
theorem inv_lc {vs : List Nat} {tg it c el : E} {sc fb e} (h : chk C (.lc vs tg it c el) sc fb e = true) : ∃ elt t i ifs scope p, e = .ListComp elt [⟨t, i, ifs, 0⟩] scope p ∧ vs = tgVs tg ∧ blkC C.N sc scope (vs.map fun v => (C.N.getD v "", v)) = true ∧ chkTg C.N (relS scope sc) (some scope) tg t = true ∧ noSet i = true ∧ tgOk it t = true ∧ chk C it sc fb i = true ∧
    ((ifs = [] ∧ isNil c = true) ∨ ∃ x, ifs = [x] ∧ chk C c (relS scope sc) (some scope) x = true) ∧ chk C el (relS scope sc) (some scope) elt = true := by
  cases e with
  | ListComp elt gens scope p =>
    match gens, h with
    | [⟨t, i, ifs, z⟩], h =>
      by_cases hz : z = 0
      · subst hz
        unfold chk at h
        simp only [Bool.and_eq_true, decide_eq_true_eq] at h
        obtain ⟨⟨⟨⟨⟨⟨⟨h1, h2⟩, h3⟩, h4⟩, h5⟩, h6⟩, h7⟩, h8⟩ := h
        refine ⟨elt, t, i, ifs, scope, p, rfl, h1, h2, h3, h4, h5, h6, ?_, h8⟩
        match ifs, h7 with
        | [], h7 => exact .inl ⟨rfl, h7⟩
        | [x], h7 => simp only [Bool.and_eq_true] at h7; exact .inr ⟨x, rfl, h7.2⟩
        | _ :: _ :: _, h7 => simp at h7
      · exfalso
        cases z with
        | ofNat n =>
          cases n with
          | zero => exact hz rfl
          | succ n => simp only [chk, Bool.false_eq_true] at h
        | negSucc n => simp only [chk, Bool.false_eq_true] at h
    | [], h => simp only [chk, Bool.false_eq_true] at h
    | _ :: _ :: _, h => simp only [chk, Bool.false_eq_true] at h
  | _ => simp only [chk, Bool.false_eq_true] at h
theorem own_map (N : List Str) (vs : List Nat) : (vs.map fun v => (N.getD v "", v)).map (·.2) = vs := by
  rw [List.map_map]
  show vs.map (fun v => v) = vs
  exact List.map_id' vs
/-- the body of a comprehension's turn -/
def lcBody (Φ : Ph) (vs : List Nat) (tg c el : E) : Dt → List Sl → (List Dt → List Sl → Prop) → Prop :=
  fun x es2 k => bindT tg x es2 fun es3 => wpT Φ.nk c es3 fun p es4 => (p = true → wpE Φ.nk el es4 fun y es5 => k [y] (wipeE es5 vs)) ∧ (p = false → k [] (wipeE es4 vs))
theorem vts_ok {X : Cy} {sc fb} {c : E} (hc : Snd C j c) {scope : Scope} (hk : scope.kind = .function) (g : Gd Φ C j X sc fb) {ifs : List Expr} (h : (ifs = [] ∧ isNil c = true) ∨ ∃ x, ifs = [x] ∧ chk C c (relS scope sc) (some scope) x = true) {es : List Sl} {Θ : Bool → List Sl → Prop} (hw : wpT Φ.nk c es Θ) : KX X scope fun X' => VTs X' es ifs Θ := fun s H Ca cl fp => by
  have g' := g.blk hk s H Ca cl fp
  rcases h with ⟨rfl, h⟩ | ⟨x, rfl, h⟩
  · cases c <;> first | exact vts_nil hw | (simp [isNil] at h)
  · exact vts_one (hc.t g' h hw)
theorem ask_of {X : Cy} {sc fb} {vs : List Nat} {tg it c el : E} (hc : Snd C j c) (he : Snd C j el) (g : Gd Φ C j X sc fb) {scope : Scope} (hk : scope.kind = .function) {ifs : List Expr} {elt : Expr} (h : (ifs = [] ∧ isNil c = true) ∨ ∃ x, ifs = [x] ∧ chk C c (relS scope sc) (some scope) x = true) (hel : chk C el (relS scope sc) (some scope) elt = true)
    {xs : List Dt} {es1 : List Sl} {Λ : List Dt → List Sl → Prop} (hw : noOwB es1 vs = true ∧ xs.length ≤ 100000 ∧ runC (lcBody Φ vs tg c el) xs [] (wipeE es1 vs) fun acc es2 => Λ acc (mrg vs 0 es2 es1)) : CompAskL X scope vs ifs elt (bindT tg) xs es1 Λ := by
  obtain ⟨h1, h2, h3⟩ := hw
  refine ⟨noOw_of h1, h2, fun i acc es => runC (lcBody Φ vs tg c el) (xs.drop i) acc es fun acc es2 => Λ acc (mrg vs 0 es2 es1), h3, fun i x acc es2 hx hI => ?_, fun acc es2 hI => ?_⟩
  · have hd : xs.drop i = x :: xs.drop (i + 1) := by
      have hlt := (List.getElem?_eq_some_iff.mp hx).1
      rw [List.drop_eq_getElem_cons hlt]
      congr 1
      rw [List.getElem?_eq_getElem hlt] at hx
      exact Option.some.inj hx
    have hI : runC (lcBody Φ vs tg c el) (xs.drop i) acc es2 fun acc es2 => Λ acc (mrg vs 0 es2 es1) := hI
    rw [hd] at hI
    refine bindT_mono tg x es2 _ _ hI fun es3 hT => ?_
    have hT : wpT Φ.nk c es3 fun p es4 => (p = true → wpE Φ.nk el es4 fun y es5 => runC (lcBody Φ vs tg c el) (xs.drop (i + 1)) (acc ++ [y]) (wipeE es5 vs) fun acc es2 => Λ acc (mrg vs 0 es2 es1)) ∧ (p = false → runC (lcBody Φ vs tg c el) (xs.drop (i + 1)) (acc ++ []) (wipeE es4 vs) fun acc es2 => Λ acc (mrg vs 0 es2 es1)) := hT
    have := vts_ok hc hk g h hT
    intro s0 H0 Ca cl fp F B H σ I Q q
    refine this s0 H0 Ca cl fp F B H σ I Q fun b B' H' es4 hb I' S' => q b B' H' es4 ⟨fun z s1 H1 C1 cl1 fp1 => he.e (g.blk hk s1 H1 C1 cl1 fp1) hel (hb.1 z), fun z => ?_⟩ I' S'
    have := hb.2 z
    rw [List.append_nil] at this
    exact this
  · have hI : runC (lcBody Φ vs tg c el) (xs.drop xs.length) acc es2 fun acc es2 => Λ acc (mrg vs 0 es2 es1) := hI
    rw [List.drop_length] at hI
    exact hI
theorem VIc {X : Cy} {tg : Expr} {es : List Sl} {it : Expr} {Λ Λ' : List Dt → List Sl → Prop} (h : VI X tg es it Λ) (k : ∀ d es', Λ d es' → Λ' d es') : VI X tg es it Λ' := by
  obtain ⟨wi, p, q⟩ := h
  exact ⟨wi, p, fun F B H σ I R r => q F B H σ I R fun J xs B' H' es' hl => r J xs B' H' es' (k _ _ hl)⟩
theorem blk_kind {N : List Str} {sc scope : Scope} {own : List (Str × Nat)} (h : blkC N sc scope own = true) : scope.kind = .function := (blkOk_by h).kind
theorem snd_lc (vs : List Nat) (tg it c el : E) (hi : Snd C j it) (hc : Snd C j c) (he : Snd C j el) : Snd C j (.lc vs tg it c el) := by
  refine ⟨fun {Φ X sc fb} g {e} h {es Ψ} hw => ?_, (fun {_ _ _ _} _ {_} _ {_ _} hw => False.elim hw), (fun {_ _ _ _} _ {_} _ {_ _} hw => False.elim hw), (fun {_ _ _ _} _ {_} _ {_ _} hw => False.elim hw), (fun {_ _ _ _} _ {_} _ {_} _ {_ _} hw => False.elim hw)⟩
  obtain ⟨elt, t, i, ifs, scope, p, rfl, h1, h2, h3, h4, h5, h6, h7, h8⟩ := inv_lc h
  have hk := blk_kind h2
  have hblk : BlkOk X.N X.env.scope scope (vs.map fun v => (C.N.getD v "", v)) := by rw [g.hN, g.hsc]; exact blkOk_by h2
  have gt : GTk X scope ((vs.map fun v => (C.N.getD v "", v)).map (·.2)) t (bindT tg) := by
    rw [own_map]
    exact (gtk_ok g hk tg (fun i hi => by rw [h1]; exact hi)).1 t h3
  refine vp_lcG (vs.map fun v => (C.N.getD v "", v)) g.calm (by rw [g.hN]; exact g.nd) hblk gt ?_ (set_ok h4 _)
  rw [own_map]
  have hw : wpI Φ it es fun xs es1 => noOwB es1 vs = true ∧ xs.length ≤ 100000 ∧ runC (lcBody Φ vs tg c el) xs [] (wipeE es1 vs) fun acc es2 => Ψ (.list acc) (mrg vs 0 es2 es1) := hw
  exact VIc (hi.i g h6 h5 hw) fun xs es1 hh => ask_of (it := it) hc he g hk h7 h8 hh
theorem snd_leno (i : Nat) : Snd C j (.leno i) := snd_leaf (fun _ _ _ => rfl) (fun _ _ _ => rfl) (fun _ _ _ => rfl) (fun _ _ _ => rfl) (fun {_ _ _ _} _ {_} _ {_ _} hw => False.elim hw)
/-- THE RULE for expressions -/
theorem snd (C : Ck) (j : Nat) (x : E) : Snd C j x := by
  induction x with
  | v i => exact snd_v i
  | gi x n => exact snd_gi x n
  | int i => exact snd_int i
  | bool b => exact snd_bool b
  | non => exact snd_non
  | str x => exact snd_str x
  | bin o a b ha hb => exact snd_bin o a b ha hb
  | neg a ha => exact snd_neg a ha
  | cmp o a b ha hb => exact snd_cmp o a b ha hb
  | eq a b ha hb => exact snd_eq a b ha hb
  | ne a b ha hb => exact snd_ne a b ha hb
  | isn a ha => exact snd_isn a ha
  | isnt a ha => exact snd_isnt a ha
  | chain o p a b c ha hb hc => exact snd_chain o p a b c ha hb hc
  | chain3 o p q a b c d ha hb hc hd => exact snd_chain3 o p q a b c d ha hb hc hd
  | and a b ha hb => exact snd_and a b ha hb
  | or a b ha hb => exact snd_or a b ha hb
  | not a ha => exact snd_not a ha
  | ife c a b hc ha hb => exact snd_ife c a b hc ha hb
  | nil => exact snd_nil
  | cons a r ha hr => exact snd_cons a r ha hr
  | tup a ha => exact snd_tup a ha
  | lst a ha => exact snd_lst a ha
  | dnew => exact snd_dnew
  | call f a ha => exact snd_call f a ha
  | callo f i a ha => exact snd_callo f i a ha
  | calll f a ha => exact snd_calll f a
  | b1 k a ha => exact snd_b1 k a ha
  | b2 k a b ha hb => exact snd_b2 k a b ha hb
  | isi t a ha => exact snd_isi t a ha
  | ix a b ha hb => exact snd_ix a b ha hb
  | ixo i b hb => exact snd_ixo i b hb
  | sl a lo hi ha hl hh => exact snd_sl a lo hi ha hl hh
  | slt a lo hi ha hl hh => exact snd_slt a lo hi ha hl hh
  | leno i => exact snd_leno i
  | inn a b ha hb => exact snd_inn a b ha hb
  | lc vs tg it c e _ hi hc he => exact snd_lc vs tg it c e hi hc he
  | range1 a ha => exact snd_range1 a ha
  | range2 a b ha hb => exact snd_range2 a b ha hb
  | zip a b ha hb => exact snd_zip a b ha hb
  | enum a ha => exact snd_enum a ha
  | p1 k a ha => exact snd_p1 k a ha
  | p2 k a b ha hb => exact snd_p2 k a b ha hb
  | p3 k a b c ha hb hc => exact snd_p3 k a b c ha hb hc
  | dino n i k hk => exact snd_dino n i k hk
  | dgeto i k x hk hx => exact snd_dgeto i k x hk hx
  | dvals i v => exact snd_dvals i v
  | dkeys a ha => exact snd_dkeys a ha
  | ditems a ha => exact snd_ditems a ha
end
end Ax

set_option Elab.async false
set_option linter.all false
set_option maxRecDepth 100000
set_option maxHeartbeats 4000000
namespace Ax
open PySem PySem.Spec PyProof.Rows L2 Lv
/-- a name that a statement stores -/
def stOk (C : Ck) (sc : Scope) (i : Nat) (x : Str) : Bool := decide (C.N[i]? = some x) && locB sc x
def isLc : Expr → Bool
  | .ListComp .. => true
  | _ => false
def isLcE : E → Bool
  | .lc _ _ _ _ _ => true
  | _ => false
/-- a comprehension whose value goes straight to a name -/
def swB (sc : Scope) (x : Str) (px : Pos) : Expr → Bool
  | .ListComp _ _ s p => decide (sc.names.lookup x = some .local) && (px.line == p.line) && !(s.names.any fun (n, k) => n == x && (k == .local || k == .cell))
  | _ => false
/-- stores of a tuple to names that are not turned about -/
def swNo (sc : Scope) : Expr → Expr → Bool
  | .Tuple ts _ _, .Tuple vs _ _ => (!(ts.length == 2 || ts.length == 3) || vs.length != ts.length) || (vs.all noStar && vs.all (foldedForSure 8)) || (vs.all noStar && (ts.any fun t => !(match t with | .Name id pos => decide (sc.names.lookup id = some .local) && (pos.line == (((ts.head?).map (·.pos.line)).getD 0)) | _ => false)))
  | .Tuple _ _ _, _ => true
  | _, _ => false
/-- two stores that are turned about -/
def swTwo (sc : Scope) (x y : Str) (px py : Pos) (v w : Expr) : Bool := decide (sc.names.lookup x = some .local) && decide (sc.names.lookup y = some .local) && (px.line == py.line) && !(x == y) && noStar v && noStar w && !([v, w].all (foldedForSure 8)) && !([v, w].all (constantsAlone 8))
/-- three stores that are turned about -/
def swThree (sc : Scope) (x y z : Str) (px py pz : Pos) (u v w : Expr) : Bool := decide (sc.names.lookup x = some .local) && decide (sc.names.lookup y = some .local) && decide (sc.names.lookup z = some .local) && (px.line == py.line) && (px.line == pz.line) && !(x == y) && !(x == z) && !(y == z) && noStar u && noStar v && noStar w && !([u, v, w].all (foldedForSure 8)) && !([u, v, w].all (constantsAlone 8))
def chkL (C : Ck) (sc : Scope) (fb : Option Scope) (e : E) (x : Expr) : Bool := match e with
  | .calll _ _ => chk C e sc fb x
  | .lst _ => chk C e sc fb x
  | .lc _ _ _ _ _ => chk C e sc fb x
  | _ => false
def chkPar (C : Ck) (sc : Scope) (i k : Nat) (a b : E) (t v : Expr) : Bool := match t with
  | .Tuple [.Name x px, .Name y py] _ _ => match v with
    | .Tuple [v, w] _ _ => decide (C.N[i]? = some x) && decide (C.N[k]? = some y) && decide (i ≠ k) && swTwo sc x y px py v w && chk C a sc none v && chk C b sc none w
    | _ => false
  | _ => false
def chkApp (C : Ck) (sc : Scope) (i : Nat) (e : E) (v : Expr) : Bool := match v with
  | .Call (.Attribute (.Name x _) m p2) [y] [] p3 => decide (m = ("append" : Str)) && (p2.endLine == p3.line) && nmOk C sc i x && noStar y && chk C e sc none y
  | _ => false
/-- xs[k] that is stored to -/
def chkSub (C : Ck) (sc : Scope) (i : Nat) (k : E) (t : Expr) : Bool := match t with
  | .Subscript (.Name x _) y _ => nmOk C sc i x && noSlice y && chk C k sc none y
  | _ => false
/-- d[(a, b)] that is stored to -/
def chkSubT (C : Ck) (sc : Scope) (i : Nat) (k : E) (t : Expr) : Bool := match t with
  | .Subscript (.Name x _) (.Tuple ys _ _) _ => nmOk C sc i x && chkA C k sc none ys
  | _ => false
def isDnew : Expr → Bool
  | .Dict [] [] _ => true
  | _ => false
def chkPar3 (C : Ck) (sc : Scope) (i k l : Nat) (a b c : E) : Stmt → Bool
  | .Assign [.Tuple [.Name x px, .Name y py, .Name z pz] _ _] (.Tuple [u, v, w] _ _) _ => decide (C.N[i]? = some x) && decide (C.N[k]? = some y) && decide (C.N[l]? = some z) && decide (i ≠ k) && decide (i ≠ l) && decide (k ≠ l) && swThree sc x y z px py pz u v w && chk C a sc none u && chk C b sc none v && chk C c sc none w
  | _ => false
def chkDnew (C : Ck) (sc : Scope) (i : Nat) : Stmt → Bool
  | .Assign [.Name x _] v _ => stOk C sc i x && isDnew v
  | _ => false
def chkDput (C : Ck) (sc : Scope) (i : Nat) (k e : E) : Stmt → Bool
  | .Assign [t] v _ => chkSub C sc i k t && noComp v && chk C e sc none v
  | _ => false
def chkDputT (C : Ck) (sc : Scope) (i : Nat) (k e : E) : Stmt → Bool
  | .Assign [t] v _ => chkSubT C sc i k t && noComp v && chk C e sc none v
  | _ => false
def chkB (C : Ck) : S → Scope → List Stmt → Bool
  | .skip, _, [] => true
  | .frz i r, sc, sts => chkB C r sc sts
  | .pass r, sc, .Pass _ :: rest => chkB C r sc rest
  | .exp e r, sc, .Expr x _ :: rest => noComp x && chk C e sc none x && chkB C r sc rest
  | .set i e r, sc, .Assign [.Name x _] v _ :: rest => stOk C sc i x && (noComp v || (isLc v && isLcE e)) && chk C e sc none v && chkB C r sc rest
  | .setL i e r, sc, .Assign [.Name x _] v _ :: rest => stOk C sc i x && (noComp v || isLc v) && chkL C sc none e v && chkB C r sc rest
  | .asg tg e r, sc, .Assign [t] v _ :: rest => swNo sc t v && noComp v && chkTg C.N sc none tg t && chk C e sc none v && chkB C r sc rest
  | .par i k a b r, sc, .Assign [t] v _ :: rest => chkPar C sc i k a b t v && chkB C r sc rest
  | .ret e, sc, .Return (some x) _ :: _ => chk C e sc none x
  | .retN, sc, .Return none _ :: _ => true
  | .retL e, sc, .Return (some x) _ :: _ => chkL C sc none e x
  | .retO i, sc, .Return (some (.Name x _)) _ :: _ => nmOk C sc i x
  | .ife c a b r, sc, .If t x y _ :: rest => chk C c sc none t && chkB C a sc x && chkB C b sc y && chkB C r sc rest
  | .wh c b r, sc, .While t x [] _ :: rest => chk C c sc none t && chkB C b sc x && chkB C r sc rest
  | .fo tg it b r, sc, .For t i x [] _ :: rest => chkTg C.N sc none tg t && noSet i && tgOk it t && chk C it sc none i && chkB C b sc x && chkB C r sc rest
  | .app i e r, sc, .Expr v _ :: rest => chkApp C sc i e v && chkB C r sc rest
  | .sto i k e r, sc, .Assign [t] v _ :: rest => chkSub C sc i k t && noComp v && chk C e sc none v && chkB C r sc rest
  | .aug i o e r, sc, .AugAssign t op v _ :: rest => (decide (o = .add) || decide (o = .sub)) && decide (op = o.op) && (match t with | .Name x _ => stOk C sc i x | _ => false) && chk C e sc none v && chkB C r sc rest
  | .augo i o k e r, sc, .AugAssign t op v _ :: rest => (decide (o = .add) || decide (o = .sub)) && decide (op = o.op) && chkSub C sc i k t && chk C e sc none v && chkB C r sc rest
  | .dead, _, _ => true
  | .par3 i k l a b c r, sc, st :: rest => chkPar3 C sc i k l a b c st && chkB C r sc rest
  | .dnew i _ r, sc, st :: rest => chkDnew C sc i st && chkB C r sc rest
  | .dput i k e r, sc, st :: rest => chkDput C sc i k e st && chkB C r sc rest
  | .dputT i k e r, sc, st :: rest => chkDputT C sc i k e st && chkB C r sc rest
  | .brk, _, .Break _ :: _ => true
  | .cont, _, .Continue _ :: _ => true
  | _, _, _ => false
/-- where a def's body stands -/
structure Gb (Φ : Ph) (C : Ck) (j : Nat) (X : Cy) (sc : Scope) : Prop where
  g : Gd Φ C j X sc none
  own : PassesOwn (model X.prog X.w) X.A X.env X.xe
section
variable {Φ : Ph} {C : Ck} {j : Nat} {X : Cy} {sc : Scope} {es : List Sl} {P : Po} {x : Str} {e : Expr} {pos : Pos} {rest : List Stmt}
theorem st_ok (g : Gd Φ C j X sc none) {i : Nat} (h : stOk C sc i x = true) : X.N[i]? = some x ∧ L2.Loc X.env.scope x ∧ (X.fn x = true ∨ X.env.scope.names.lookup x = some .local) := by
  unfold stOk at h
  simp only [Bool.and_eq_true, decide_eq_true_eq] at h
  exact ⟨by rw [g.hN]; exact h.1, g.loc h.2, .inl (g.fn x rfl)⟩
theorem wb_pass (h : WB X es rest P) : WB X es (.Pass pos :: rest) P := wb_cons (ws_pass h)
theorem wb_brk (h : P.bk es) : WB X es (.Break pos :: rest) P := wb_cons (ws_break h)
theorem wb_cont (h : P.ct es) : WB X es (.Continue pos :: rest) P := wb_cons (ws_continue h)
theorem wb_retN (h : P.rt .none es) : WB X es (.Return none pos :: rest) P := wb_cons (show WS X es _ { P with nx := fun es1 => WB X es1 rest P } from fun F B H σ I D d => SX.of ps_retN (d.rt .non .none es B H σ h I .non))
/-- return xs, a list of the def's own -/
theorem wb_retO {i : Nat} {ds : List Dt} {p : Pos} (hN : X.N[i]? = some x) (hv : Vis X.env.scope x) (hd : (x == ("__debug__" : Str)) = false) (hcd : (x == ("__classdict__" : Str)) = false) (he : es[i]? = some (.own true (.l ds))) (h : P.rl ds es) : WB X es (.Return (some (.Name x p)) pos :: rest) P :=
  wb_cons (show WS X es _ { P with nx := fun es1 => WB X es1 rest P } from fun F B H σ I D d => by
    refine SX.of (ps_ret (pe_var hN hv hd hcd)) ?_
    obtain ⟨ad, h1, _⟩ := I.ow
    obtain ⟨s1, b1, f1, xs, g1, dx⟩ := h1 i true ds he
    exact ⟨_, s1, d.rl (ad i) xs ds es B H σ h I (f1.1 rfl) b1 g1 dx⟩)
theorem fm_lt {α β : Type} (f : α → Option β) : ∀ l : List α, (l.any fun t => (f t).isNone) = true → (l.filterMap f).length < l.length
  | [], h => by simp at h
  | a :: r, h => by
    have hle : (r.filterMap f).length ≤ r.length := List.length_filterMap_le f r
    cases e : f a with
    | none => rw [List.filterMap_cons_none e]; exact Nat.lt_succ_of_le hle
    | some b =>
      rw [List.filterMap_cons_some e]
      have h2 : (r.any fun t => (f t).isNone) = true := by simpa [e] using h
      exact Nat.succ_lt_succ (fm_lt f r h2)
theorem no_star_any (vs : List Expr) (h0 : vs.all noStar = true) : (vs.any fun | .Starred .. => true | _ => false) = false := by
  rw [List.any_eq_false]
  intro y hy
  have := List.all_eq_true.mp h0 y hy
  cases y <;> simp_all [noStar]
theorem sw_no {t v : Expr} (hk : X.env.scope.kind = .function) (h : swNo X.env.scope t v = true) : swappedStores [t] v X.env = pure none := by
  have hb : X.env.blockKind = .function := by unfold Env.blockKind; rw [hk]; rfl
  cases t with
  | Tuple ts k p =>
    cases v with
    | Tuple vs k2 p2 =>
      unfold swappedStores
      simp only [swNo, Bool.or_eq_true, Bool.and_eq_true] at h
      by_cases c1 : ((!(ts.length == 2 || ts.length == 3) || vs.length != ts.length) = true)
      · simp only [c1, Bool.true_or, if_true]
      · rcases h with (h | ⟨h0, h⟩) | ⟨h0, h⟩
        · exact absurd (by simpa using h) c1
        · have hst : (vs.any fun | .Starred .. => true | _ => false) = false := by
            rw [List.any_eq_false]
            intro y hy
            have := List.all_eq_true.mp h0 y hy
            cases y <;> simp_all [noStar]
          simp only [hb, hst, h]
          repeat' (first | rfl | split)
        · have hst : (vs.any fun | .Starred .. => true | _ => false) = false := by
            rw [List.any_eq_false]
            intro y hy
            have := List.all_eq_true.mp h0 y hy
            cases y <;> simp_all [noStar]
          simp only [hb, hst]
          have hl := fm_lt (fun t => match t with
            | Expr.Name id pos => if (X.env.kindOf id == some NameKind.local && pos.line == (Option.map (fun x => x.pos.line) ts.head?).getD 0) = true then some id else none
            | x => none) ts (by
              rw [List.any_eq_true] at h ⊢
              obtain ⟨t, ht, hh⟩ := h
              refine ⟨t, ht, ?_⟩
              cases t with
              | Name id pos =>
                have hh : (!(decide (X.env.scope.names.lookup id = some .local) && (pos.line == (((ts.head?).map (·.pos.line)).getD 0)))) = true := hh
                have : (X.env.kindOf id == some NameKind.local && pos.line == (Option.map (fun x => x.pos.line) ts.head?).getD 0) = false := by
                  rw [Bool.not_eq_true'] at hh
                  rw [← hh]
                  congr 1
                  show (X.env.scope.names.lookup id == some NameKind.local) = _
                  rw [Bool.eq_iff_iff]; simp
                simp only [this]; rfl
              | _ => rfl)
          rw [if_neg (by simpa using c1)]
          split
          · rfl
          · rw [if_pos (by
              rw [Bool.or_eq_true]
              refine .inl ?_
              rw [bne_iff_ne]
              exact Nat.ne_of_lt hl)]
    | _ => rfl
  | _ => simp [swNo] at h

theorem sw_two {y : Str} {px py : Pos} {v w : Expr} {k : Nat} {p : Pos} {k2 : Nat} {p2 : Pos} (hk : X.env.scope.kind = .function) (h : swTwo X.env.scope x y px py v w = true) : swappedStores [.Tuple [.Name x px, .Name y py] k p] (.Tuple [v, w] k2 p2) X.env = pure (some [x, y]) := by
  have hb : X.env.blockKind = .function := by unfold Env.blockKind; rw [hk]; rfl
  unfold swTwo at h
  simp only [Bool.and_eq_true, decide_eq_true_eq, Bool.not_eq_true', beq_eq_false_iff_ne, beq_iff_eq] at h
  obtain ⟨⟨⟨⟨⟨⟨⟨h1, h2⟩, h3⟩, h4⟩, h5⟩, h6⟩, h7⟩, h8⟩ := h
  have k1 : X.env.kindOf x = some .local := h1
  have k3 : X.env.kindOf y = some .local := h2
  have hst : ([v, w].any fun | .Starred .. => true | _ => false) = false := no_star_any _ (by simp [h5, h6])
  have hed : ([x, y] : List Str).eraseDups = [x, y] := by
    have hne : (y == x) = false := by simpa using Ne.symm h4
    rw [List.eraseDups_cons]
    simp only [List.filter_cons, hne, List.filter_nil, Bool.not_false, if_true]
    rw [List.eraseDups_cons]
    rfl
  have hl : px.line = ((Option.map (fun (z : Expr) => z.pos.line) [Expr.Name x px, Expr.Name y py].head?).getD 0) := rfl
  unfold swappedStores
  simp only [hb, k1, k3, h7, h8, ← hl, h3]
  have hfm : ∀ f : Expr → Option Str, f (.Name x px) = some x → f (.Name y py) = some y → List.filterMap f [Expr.Name x px, Expr.Name y py] = [x, y] := fun f e1 e2 => by
    rw [List.filterMap_cons_some e1, List.filterMap_cons_some e2, List.filterMap_nil]
  rw [hfm _ (by simp [k1, h3]) (by simp [k3]), if_neg (by simp)]
  split
  · rename_i z
    exact Bool.noConfusion (hst.symm.trans z)
  · rw [if_neg (by rw [hed]; simp)]
    rfl
theorem sw_three {y z : Str} {px py pz : Pos} {u v w : Expr} {k : Nat} {p : Pos} {k2 : Nat} {p2 : Pos} (hk : X.env.scope.kind = .function) (h : swThree X.env.scope x y z px py pz u v w = true) : swappedStores [.Tuple [.Name x px, .Name y py, .Name z pz] k p] (.Tuple [u, v, w] k2 p2) X.env = pure (some [x, y, z]) := by
  have hb : X.env.blockKind = .function := by unfold Env.blockKind; rw [hk]; rfl
  unfold swThree at h
  simp only [Bool.and_eq_true, decide_eq_true_eq, Bool.not_eq_true', beq_eq_false_iff_ne, beq_iff_eq] at h
  obtain ⟨⟨⟨⟨⟨⟨⟨⟨⟨⟨⟨⟨h1, h2⟩, h2z⟩, h3⟩, h3z⟩, h4⟩, h4z⟩, h4y⟩, h5⟩, h6⟩, h6z⟩, h7⟩, h8⟩ := h
  have k1 : X.env.kindOf x = some .local := h1
  have k2 : X.env.kindOf y = some .local := h2
  have k3 : X.env.kindOf z = some .local := h2z
  have hst : ([u, v, w].any fun | .Starred .. => true | _ => false) = false := no_star_any _ (by simp [h5, h6, h6z])
  have hed : ([x, y, z] : List Str).eraseDups = [x, y, z] := by
    have hne : (y == x) = false := by simpa using Ne.symm h4
    have hnz : (z == x) = false := by simpa using Ne.symm h4z
    have hny : (z == y) = false := by simpa using Ne.symm h4y
    rw [List.eraseDups_cons]
    simp only [List.filter_cons, hne, hnz, List.filter_nil, Bool.not_false, if_true]
    rw [List.eraseDups_cons]
    simp only [List.filter_cons, hny, List.filter_nil, Bool.not_false, if_true]
    rw [List.eraseDups_cons]
    rfl
  have hl : px.line = ((Option.map (fun (z : Expr) => z.pos.line) [Expr.Name x px, Expr.Name y py, Expr.Name z pz].head?).getD 0) := rfl
  unfold swappedStores
  simp only [hb, k1, k2, k3, h7, h8, ← hl]
  have hfm : ∀ f : Expr → Option Str, f (.Name x px) = some x → f (.Name y py) = some y → f (.Name z pz) = some z → List.filterMap f [Expr.Name x px, Expr.Name y py, Expr.Name z pz] = [x, y, z] := fun f e1 e2 e3 => by
    rw [List.filterMap_cons_some e1, List.filterMap_cons_some e2, List.filterMap_cons_some e3, List.filterMap_nil]
  rw [hfm _ (by simp [k1]) (by simp [k2, h3]) (by simp [k3, h3z]), if_neg (by simp)]
  split
  · rename_i z
    exact Bool.noConfusion (hst.symm.trans z)
  · rw [if_neg (by rw [hed]; simp)]
    rfl
theorem ws_par3 (i j l : Nat) {a b c : Expr} {y z : Str} {px py pz pt : Pos} {kt k2 : Nat} {pt2 : Pos} (hc : X.calm = true) (hN : X.N.Nodup) (hi : X.N[i]? = some x) (hj : X.N[j]? = some y) (hl : X.N[l]? = some z) (hij : i ≠ j) (hil : i ≠ l) (hjl : j ≠ l)
    (hx : X.env.scope.names.lookup x = some .local) (hy : X.env.scope.names.lookup y = some .local) (hz : X.env.scope.names.lookup z = some .local)
    (h : VP X es a fun d1 es1 => VP X es1 b fun d2 es2 => VP X es2 c fun d3 es3 => P.nx (((es3.set i (.fz d1)).set j (.fz d2)).set l (.fz d3)))
    (s1 : noStar a = true) (s2 : noStar b = true) (s3 : noStar c = true)
    (hw : swappedStores [.Tuple [.Name x px, .Name y py, .Name z pz] kt pt] (.Tuple [a, b, c] k2 pt2) X.env = pure (some [x, y, z])) :
    WS X es (.Assign [.Tuple [.Name x px, .Name y py, .Name z pz] kt pt] (.Tuple [a, b, c] k2 pt2) pos) P := fun F B H σ I D d => by
  refine SX.of (ps_par3 hc hN hi hj hl hij hil hjl hx hy hz pa_self hw rfl) ?_
  have hva : VA X es [a, b, c] fun ds es1 => ∃ d1 d2 d3, ds = [d1, d2, d3] ∧ P.nx (((es1.set i (.fz d1)).set j (.fz d2)).set l (.fz d3)) :=
    va_cons (h.imp fun d1 es1 hb => va_cons (hb.imp fun d2 es2 hc => va_cons (hc.imp fun d3 es3 hq => va_nil ⟨d1, d2, d3, rfl, hq⟩) (star_ok s3 _ _)) (star_ok s2 _ _)) (star_ok s1 _ _)
  refine hva F B H σ I _ fun vs ds B1 H1 es1 ⟨d1, d2, d3, hd, hq⟩ I1 S1 D1 => ?_
  subst hd
  cases D1 with
  | cons Da D1 =>
    cases D1 with
    | cons Db D1 =>
      cases D1 with
      | cons Dc D1 =>
        cases D1
        exact ⟨_, _, _, rfl, d.nx _ B1 H1 _ hq (((I1.put Da).put Db).put Dc) S1.eb⟩
theorem asg_1 {t : Expr} (h : isTup t = true ∨ noStar t = true) (env : Env) : (assignEach [t] env).map (·.2) = [assign t env] := by
  cases t <;> first | rfl | (simp [isTup, noStar] at h)
theorem chkTg_star {N : List Str} {fb : Option Scope} {tg : E} {t : Expr} (h : chkTg N sc fb tg t = true) : noStar t = true := by
  cases t <;> first | rfl | (cases tg <;> simp [chkTg] at h)
theorem swSole {t v : Expr} (h : noComp v = true) (l : Nat) (env : Env) : swapsWithSole [t] v l env = pure false := comp_ok h _ _ _
theorem sw_false (g : Gd Φ C j X sc none) {elt : Expr} {gs : List Comprehension} {scope : Scope} {pl px : Pos} {l : Nat} (h : ¬ swB sc x px (.ListComp elt gs scope pl) = true) : swapsWith (.ListComp elt gs scope pl) (some (.Name x px)) l X.env = pure false := by
  have hb : X.env.blockKind = .function := by unfold Env.blockKind; rw [g.hsc, g.kind]; rfl
  have hkd : X.env.kindOf x = sc.names.lookup x := by rw [← g.hsc]; rfl
  unfold swapsWith
  simp only [hb, hkd]
  unfold swB at h
  have h' := Bool.eq_false_iff.mpr h
  have : (NameKind.local = NameKind.local) := rfl
  show pure _ = pure false
  congr 1
  rw [← h']
  simp only [Expr.pos]
  have hd : (List.lookup x sc.names == some NameKind.local) = decide (List.lookup x sc.names = some NameKind.local) := by rw [Bool.eq_iff_iff]; simp
  rw [hd]
  simp
theorem askcL {scope : Scope} {vs : List Nat} {ifs : List Expr} {elt : Expr} {f : Dt → List Sl → (List Sl → Prop) → Prop} {xs : List Dt} {es1 : List Sl} {Λ Λ' : List Dt → List Sl → Prop} (k : ∀ acc es2, Λ acc es2 → Λ' acc es2) (h : CompAskL X scope vs ifs elt f xs es1 Λ) : CompAskL X scope vs ifs elt f xs es1 Λ' := by
  obtain ⟨h1, h2, Iv, h3, h4, h5⟩ := h
  exact ⟨h1, h2, Iv, h3, h4, fun acc es2 z => k _ _ (h5 acc es2 z)⟩
theorem askc {scope : Scope} {vs : List Nat} {ifs : List Expr} {elt : Expr} {f : Dt → List Sl → (List Sl → Prop) → Prop} {xs : List Dt} {es1 : List Sl} {Λ : List Dt → List Sl → Prop} {Ψ : Dt → List Sl → Prop} (k : ∀ acc es2, Λ acc es2 → Ψ (.list acc) es2) (h : CompAskL X scope vs ifs elt f xs es1 Λ) : CompAsk X scope vs ifs elt f xs es1 Ψ := by
  obtain ⟨h1, h2, Iv, h3, h4, h5⟩ := h
  exact ⟨h1, h2, Iv, h3, h4, fun acc es2 z => k _ _ (h5 acc es2 z)⟩
/-- x = e -/
theorem wb_setW (g : Gd Φ C j X sc none) {i : Nat} {px p : Pos} {a : E} (h1 : stOk C sc i x = true) (h2 : (noComp e || (isLc e && isLcE a)) = true) (h3 : chk C a sc none e = true) {K : List Sl → Prop} (hK : ∀ es, K es → WB X es rest P) (hw : wpE Φ a es fun d es1 => K (es1.set i (.fz d))) : WB X es (.Assign [.Name x px] e p :: rest) P := by
  obtain ⟨s1, s2, s3⟩ := st_ok g h1
  have nd : X.N.Nodup := by rw [g.hN]; exact g.nd
  by_cases hc : noComp e = true
  · exact wb_cons (ws_set i nd s1 s2 (VPc ((snd C j a).e g h3 hw) fun d es1 hh => hK _ hh) (comp_ok hc _ _ _) s3)
  · have hlc : isLc e = true ∧ isLcE a = true := by simpa [hc] using h2
    cases a with
    | lc vs tg it c el =>
      obtain ⟨elt, t, k, ifs, scope, pl, rfl, e1, e2, e3, e4, e5, e6, e7, e8⟩ := inv_lc h3
      have hk := blk_kind e2
      by_cases sw : swB sc x px (.ListComp elt [⟨t, k, ifs, 0⟩] scope pl) = true
      · unfold swB at sw
        simp only [Bool.and_eq_true, decide_eq_true_eq, Bool.not_eq_true'] at sw
        have hblk : BlkOk X.N X.env.scope scope (vs.map fun v => (C.N.getD v "", v)) := by rw [g.hN, g.hsc]; exact blkOk_by e2
        have gt : GTk X scope ((vs.map fun v => (C.N.getD v "", v)).map (·.2)) t (bindT tg) := by
          rw [own_map]
          exact (gtk_ok g hk tg (fun i hi => by rw [e1]; exact hi)).1 t e3
        refine wb_cons (ws_setLcG i (vs.map fun v => (C.N.getD v "", v)) g.calm nd s1 (by rw [g.hsc]; exact sw.1.1) (sw_true (by rw [g.hsc]; exact g.kind) (by rw [g.hsc]; exact sw.1.1) sw.1.2 sw.2) hblk gt ?_ (set_ok e4 _))
        rw [own_map]
        have hw : wpI Φ it es fun xs es1 => noOwB es1 vs = true ∧ xs.length ≤ 100000 ∧ runC (lcBody Φ vs tg c el) xs [] (wipeE es1 vs) fun acc es2 => K ((mrg vs 0 es2 es1).set i (.fz (.list acc))) := hw
        exact VIc ((snd C j it).i g e6 e5 hw) fun xs es1 hh => askc (fun acc es2 z => hK _ z) (ask_of (it := it) (Λ := fun acc es2 => K (es2.set i (.fz (.list acc)))) (snd C j c) (snd C j el) g hk e7 e8 hh)
      · refine wb_cons (ws_set i nd s1 s2 (VPc ((snd C j (.lc vs tg it c el)).e g h3 hw) fun d es1 hh => hK _ hh) (sw_false g sw) s3)
    | _ => cases hlc.2
theorem WBc {es : List Sl} {sts : List Stmt} {P : Po} (h : WB X es sts P) : WB X es sts P := h
/-- a new list -/
theorem vl_ok (g : Gd Φ C j X sc none) {a : E} (h3 : chkL C sc none a e = true) {Λ : List Dt → List Sl → Prop} (hw : wpL Φ a es Λ) : VL X es e Λ := by
  cases a with
  | lst as =>
    have h3 : chk C (.lst as) sc none e = true := h3
    cases e <;> simp only [chk, Bool.false_eq_true] at h3
    exact vl_list ((snd C j as).a g h3 hw)
  | calll f as =>
    have h3 : chk C (.calll f as) sc none e = true := h3
    obtain ⟨x, y, ys, p, p', rfl, h0, h1, h2, h4⟩ := inv_calll h3
    obtain ⟨a1, a2⟩ := args_ok (X := X) p' h4
    obtain ⟨k, hk, F⟩ := g.cl f x h0
    exact vl_call F g.room hk (g.gl h1) (by rw [g.kp]; exact (snd C j as).a g h4 hw) (nDbg1 h2) a1 a2
  | lc vs tg it c el =>
    have h3 : chk C (.lc vs tg it c el) sc none e = true := h3
    obtain ⟨elt, t, i, ifs, scope, p, rfl, h1, h2, h3, h4, h5, h6, h7, h8⟩ := inv_lc h3
    have hk := blk_kind h2
    have hblk : BlkOk X.N X.env.scope scope (vs.map fun v => (C.N.getD v "", v)) := by rw [g.hN, g.hsc]; exact blkOk_by h2
    have gt : GTk X scope ((vs.map fun v => (C.N.getD v "", v)).map (·.2)) t (bindT tg) := by
      rw [own_map]
      exact (gtk_ok g hk tg (fun i hi => by rw [h1]; exact hi)).1 t h3
    refine vl_lcG (vs.map fun v => (C.N.getD v "", v)) g.calm (by rw [g.hN]; exact g.nd) hblk gt ?_ (set_ok h4 _)
    rw [own_map]
    have hw : wpI Φ it es fun xs es1 => noOwB es1 vs = true ∧ xs.length ≤ 100000 ∧ runC (lcBody Φ vs tg c el) xs [] (wipeE es1 vs) fun acc es2 => Λ acc (mrg vs 0 es2 es1) := hw
    exact VIc ((snd C j it).i g h6 h5 hw) fun xs es1 hh => ask_of (it := it) (snd C j c) (snd C j el) g hk h7 h8 hh
  | _ => simp [chkL] at h3
theorem VLc {es : List Sl} {e : Expr} {Ψ Φ : List Dt → List Sl → Prop} (h : VL X es e Ψ) (k : ∀ d es', Ψ d es' → Φ d es') : VL X es e Φ := h.imp k
theorem wb_setLW (g : Gd Φ C j X sc none) {i : Nat} {px p : Pos} {a : E} (h1 : stOk C sc i x = true) (h2 : (noComp e || isLc e) = true) (h3 : chkL C sc none a e = true) {K : List Sl → Prop} (hK : ∀ es, K es → WB X es rest P) (hw : wpL Φ a es fun ds es1 => K (es1.set i (.own true (.l ds)))) : WB X es (.Assign [.Name x px] e p :: rest) P := by
  obtain ⟨s1, s2, s3⟩ := st_ok g h1
  have nd : X.N.Nodup := by rw [g.hN]; exact g.nd
  by_cases hc : noComp e = true
  · exact wb_setL i (VLc (vl_ok g h3 hw) fun ds es1 hh => ⟨_, rfl, hK _ hh⟩) nd s1 s2 (comp_ok hc _ _ _) s3
  · have hlc : isLc e = true := by simpa [hc] using h2
    cases a with
    | lc vs tg it c el =>
      have h3' : chk C (.lc vs tg it c el) sc none e = true := h3
      obtain ⟨elt, t, k, ifs, scope, pl, rfl, e1, e2, e3, e4, e5, e6, e7, e8⟩ := inv_lc h3'
      have hk := blk_kind e2
      by_cases sw : swB sc x px (.ListComp elt [⟨t, k, ifs, 0⟩] scope pl) = true
      · unfold swB at sw
        simp only [Bool.and_eq_true, decide_eq_true_eq, Bool.not_eq_true'] at sw
        have hblk : BlkOk X.N X.env.scope scope (vs.map fun v => (C.N.getD v "", v)) := by rw [g.hN, g.hsc]; exact blkOk_by e2
        have gt : GTk X scope ((vs.map fun v => (C.N.getD v "", v)).map (·.2)) t (bindT tg) := by
          rw [own_map]
          exact (gtk_ok g hk tg (fun i hi => by rw [e1]; exact hi)).1 t e3
        refine wb_cons (ws_setLcO i (vs.map fun v => (C.N.getD v "", v)) g.calm nd s1 (by rw [g.hsc]; exact sw.1.1) (sw_true (by rw [g.hsc]; exact g.kind) (by rw [g.hsc]; exact sw.1.1) sw.1.2 sw.2) hblk gt ?_ (set_ok e4 _))
        rw [own_map]
        have hw : wpI Φ it es fun xs es1 => noOwB es1 vs = true ∧ xs.length ≤ 100000 ∧ runC (lcBody Φ vs tg c el) xs [] (wipeE es1 vs) fun acc es2 => K ((mrg vs 0 es2 es1).set i (.own true (.l acc))) := hw
        exact VIc ((snd C j it).i g e6 e5 hw) fun xs es1 hh => askcL (fun acc es2 z => hK _ z) (ask_of (it := it) (Λ := fun acc es2 => K (es2.set i (.own true (.l acc)))) (snd C j c) (snd C j el) g hk e7 e8 hh)
      · exact wb_setL i (VLc (vl_ok g h3 hw) fun ds es1 hh => ⟨_, rfl, hK _ hh⟩) nd s1 s2 (sw_false g sw) s3
    | lst as =>
      have h3 : chk C (.lst as) sc none e = true := h3
      cases e <;> simp [isLc, chk] at hlc h3
    | calll f as =>
      have h3 : chk C (.calll f as) sc none e = true := h3
      obtain ⟨x, y, ys, p, p', rfl, _⟩ := inv_calll h3
      simp [isLc] at hlc
    | _ => simp [chkL] at h3
end
end Ax

set_option Elab.async false
set_option linter.all false
set_option maxRecDepth 100000
set_option maxHeartbeats 4000000
namespace Ax
open PySem PySem.Spec PyProof.Rows L2 Lv
section
variable {Φ : Ph} {C : Ck} {j : Nat} {X : Cy} {sc : Scope} {es : List Sl} {P : Po} {x : Str} {e : Expr} {pos : Pos} {rest : List Stmt}
def SndB (C : Ck) (j : Nat) (s : S) : Prop := ∀ {Φ X sc}, Gb Φ C j X sc → ∀ {sts}, chkB C s sc sts = true → ∀ {es P}, wpB Φ s es P → WB X es sts P
/-- an assignment's shape -/
theorem inv_assign {P : List Expr → Expr → List Stmt → Bool} {sts : List Stmt} {Q : Prop} : True := trivial
/-- one wish implies the other -/
structure PoI (P Q : Po) : Prop where
  nx : ∀ es, P.nx es → Q.nx es
  rt : ∀ d es, P.rt d es → Q.rt d es
  bk : ∀ es, P.bk es → Q.bk es
  ct : ∀ es, P.ct es → Q.ct es
  rl : ∀ d es, P.rl d es → Q.rl d es
theorem wbc {es : List Sl} {sts : List Stmt} {P Q : Po} (h : WB X es sts P) (k : PoI P Q) : WB X es sts Q := fun F B H σ I D d => h F B H σ I D ⟨fun es' B' H' σ' z => d.nx es' B' H' σ' (k.nx _ z), fun v dd es' B' H' σ' z => d.rt v dd es' B' H' σ' (k.rt _ _ z), fun es' B' H' σ' z => d.bk es' B' H' σ' (k.bk _ z), fun es' B' H' σ' z => d.ct es' B' H' σ' (k.ct _ z), fun p xs ds es' B' H' σ' z => d.rl p xs ds es' B' H' σ' (k.rl _ _ z)⟩
theorem snb_skip : SndB C j .skip := fun {Φ X sc} G {sts} h {es P} hw => by
  cases sts with
  | nil => exact wb_nil hw
  | cons y ys => simp [chkB] at h
theorem snb_frz (i : Nat) (r : S) (hr : SndB C j r) : SndB C j (.frz i r) := fun {Φ X sc} G {sts} h {es P} hw => by
  have h : chkB C r sc sts = true := by unfold chkB at h; exact h
  unfold wpB at hw
  split at hw
  · rename_i ds he
    exact wb_freeze i he (hr G h hw)
  · rename_i ks ds he
    exact wb_frzD he rfl (hr G h hw)
  · rename_i ks ds he
    exact wb_frzD he rfl (hr G h hw)
  · exact hr G h hw
theorem snb_pass (r : S) (hr : SndB C j r) : SndB C j (.pass r) := fun {Φ X sc} G {sts} h {es P} hw => by
  cases sts with
  | nil => simp [chkB] at h
  | cons y ys =>
    cases y <;> simp only [chkB, Bool.false_eq_true] at h
    exact wb_pass (hr G h hw)
theorem snb_exp (e : E) (r : S) (hr : SndB C j r) : SndB C j (.exp e r) := fun {Φ X sc} G {sts} h {es P} hw => by
  cases sts with
  | nil => simp [chkB] at h
  | cons y ys =>
    cases y <;> simp only [chkB, Bool.and_eq_true, Bool.false_eq_true] at h
    exact wb_exp (VPc ((snd C j e).e G.g h.1.2 hw) fun d es1 hh => hr G h.2 hh) (comp_ok h.1.1 _ _ _)
theorem snb_set (i : Nat) (e : E) (r : S) (hr : SndB C j r) : SndB C j (.set i e r) := fun {Φ X sc} G {sts} h {es P} hw => by
  cases sts with
  | nil => simp [chkB] at h
  | cons y ys =>
    cases y with
    | Assign ts v p =>
      match ts, h with
      | [t], h =>
        cases t <;> simp only [chkB, Bool.and_eq_true, Bool.false_eq_true] at h
        obtain ⟨⟨⟨h1, h2⟩, h3⟩, h4⟩ := h
        exact wb_setW G.g h1 h2 h3 (K := fun es => wpB Φ r es P) (fun es hh => hr G h4 hh) hw
      | [], h => simp [chkB] at h
      | _ :: _ :: _, h => simp [chkB] at h
    | _ => simp [chkB] at h
theorem snb_setL (i : Nat) (e : E) (r : S) (hr : SndB C j r) : SndB C j (.setL i e r) := fun {Φ X sc} G {sts} h {es P} hw => by
  cases sts with
  | nil => simp [chkB] at h
  | cons y ys =>
    cases y with
    | Assign ts v p =>
      match ts, h with
      | [t], h =>
        cases t <;> simp only [chkB, Bool.and_eq_true, Bool.false_eq_true] at h
        obtain ⟨⟨⟨h1, h2⟩, h3⟩, h4⟩ := h
        exact wb_setLW G.g h1 h2 h3 (K := fun es => wpB Φ r es P) (fun es hh => hr G h4 hh) hw
      | [], h => simp [chkB] at h
      | _ :: _ :: _, h => simp [chkB] at h
    | _ => simp [chkB] at h
theorem snb_asg (tg e : E) (r : S) (hr : SndB C j r) : SndB C j (.asg tg e r) := fun {Φ X sc} G {sts} h {es P} hw => by
  cases sts with
  | nil => simp [chkB] at h
  | cons y ys =>
    cases y with
    | Assign ts v p =>
      match ts, h with
      | [t], h =>
        simp only [chkB, Bool.and_eq_true] at h
        obtain ⟨⟨⟨⟨h1, h2⟩, h3⟩, h4⟩, h5⟩ := h
        refine wb_asg ((gt_ok G.g tg).1 t h3) (VPc ((snd C j e).e G.g h4 hw) fun d es1 hh => bindT_mono tg d es1 _ _ hh fun es2 hh => hr G h5 hh) (swSole h2 _ _) (sw_no (by rw [G.g.hsc]; exact G.g.kind) (by rw [G.g.hsc]; exact h1)) (asg_1 (.inr (chkTg_star h3)) _)
      | [], h => simp [chkB] at h
      | _ :: _ :: _, h => simp [chkB] at h
    | _ => simp [chkB] at h
theorem snb_ret (e : E) : SndB C j (.ret e) := fun {Φ X sc} G {sts} h {es P} hw => by
  cases sts with
  | nil => simp [chkB] at h
  | cons y ys =>
    cases y with
    | Return v p =>
      cases v with
      | none => simp [chkB] at h
      | some v => exact wb_ret ((snd C j e).e G.g (by simpa [chkB] using h) hw)
    | _ => simp [chkB] at h
theorem snb_retN : SndB C j .retN := fun {Φ X sc} G {sts} h {es P} hw => by
  cases sts with
  | nil => simp [chkB] at h
  | cons y ys =>
    cases y with
    | Return v p =>
      cases v with
      | none => exact wb_retN hw
      | some v => simp [chkB] at h
    | _ => simp [chkB] at h
theorem snb_retL (e : E) : SndB C j (.retL e) := fun {Φ X sc} G {sts} h {es P} hw => by
  cases sts with
  | nil => simp [chkB] at h
  | cons y ys =>
    cases y with
    | Return v p =>
      cases v with
      | none => simp [chkB] at h
      | some v => exact wb_retL (vl_ok G.g (by simpa [chkB] using h) hw)
    | _ => simp [chkB] at h
theorem snb_retO (i : Nat) : SndB C j (.retO i) := fun {Φ X sc} G {sts} h {es P} hw => by
  cases sts with
  | nil => simp [chkB] at h
  | cons y ys =>
    cases y with
    | Return v p =>
      cases v with
      | none => simp [chkB] at h
      | some v =>
        cases v <;> simp only [chkB, Bool.false_eq_true] at h
        obtain ⟨b1, b2, b3, b4⟩ := nm_ok G.g h
        unfold wpB at hw
        split at hw
        · rename_i ds he
          exact wb_retO b1 b2 b3 b4 he hw
        · exact hw.elim
    | _ => simp [chkB] at h
theorem snb_ife (c : E) (a b r : S) (ha : SndB C j a) (hb : SndB C j b) (hr : SndB C j r) : SndB C j (.ife c a b r) := fun {Φ X sc} G {sts} h {es P} hw => by
  cases sts with
  | nil => simp [chkB] at h
  | cons y ys =>
    cases y <;> simp only [chkB, Bool.and_eq_true, Bool.false_eq_true] at h
    obtain ⟨⟨⟨h1, h2⟩, h3⟩, h4⟩ := h
    refine wb_if (VTc ((snd C j c).t G.g h1 hw) fun p es1 hh => ⟨fun z => ?_, fun z => ?_⟩)
    · exact wbc (ha G h2 (hh.1 z)) ⟨fun es h => hr G h4 h, fun _ _ h => h, fun _ h => h, fun _ h => h, fun _ _ h => h⟩
    · exact wbc (hb G h3 (hh.2 z)) ⟨fun es h => hr G h4 h, fun _ _ h => h, fun _ h => h, fun _ h => h, fun _ _ h => h⟩

theorem inv_par {i k : Nat} {a b : E} {t v : Expr} (h : chkPar C sc i k a b t v = true) : ∃ x y px py kt pt v' w k2 p2, t = .Tuple [.Name x px, .Name y py] kt pt ∧ v = .Tuple [v', w] k2 p2 ∧ C.N[i]? = some x ∧ C.N[k]? = some y ∧ i ≠ k ∧ swTwo sc x y px py v' w = true ∧ chk C a sc none v' = true ∧ chk C b sc none w = true := by
  unfold chkPar at h
  split at h
  · split at h
    · simp only [Bool.and_eq_true, decide_eq_true_eq] at h
      obtain ⟨⟨⟨⟨⟨h1, h2⟩, h3⟩, h4⟩, h5⟩, h6⟩ := h
      exact ⟨_, _, _, _, _, _, _, _, _, _, rfl, rfl, h1, h2, h3, h4, h5, h6⟩
    · cases h
  · cases h
theorem snb_par (i k : Nat) (a b : E) (r : S) (hr : SndB C j r) : SndB C j (.par i k a b r) := fun {Φ X sc} G {sts} h {es P} hw => by
  cases sts with
  | nil => simp [chkB] at h
  | cons y ys =>
    cases y with
    | Assign ts v p =>
      match ts, h with
      | [t], h =>
        simp only [chkB, Bool.and_eq_true] at h
        obtain ⟨x, y, px, py, kt, pt, v', w, k2, p2, rfl, rfl, h1, h2, h3, h4, h5, h6⟩ := inv_par h.1
        have h4' : swTwo X.env.scope x y px py v' w = true := by rw [G.g.hsc]; exact h4
        have h4c := h4
        unfold swTwo at h4c
        simp only [Bool.and_eq_true, decide_eq_true_eq] at h4c
        have nd : X.N.Nodup := by rw [G.g.hN]; exact G.g.nd
        refine wb_par i k ?_ G.g.calm nd (by rw [G.g.hN]; exact h1) (by rw [G.g.hN]; exact h2) h3 (by rw [G.g.hsc]; exact h4c.1.1.1.1.1.1.1) (by rw [G.g.hsc]; exact h4c.1.1.1.1.1.1.2) (sw_two (by rw [G.g.hsc]; exact G.g.kind) h4') rfl
        refine va_two ?_ (star_ok h4c.1.1.1.2 _ _) (star_ok h4c.1.1.2 _ _)
        exact VPc ((snd C j a).e G.g h5 hw) fun d es1 hh => VPc ((snd C j b).e G.g h6 hh) fun d2 es2 hh => ⟨d, d2, rfl, _, rfl, hr G h.2 hh⟩
      | [], h => simp [chkB] at h
      | _ :: _ :: _, h => simp [chkB] at h
    | _ => simp [chkB] at h
theorem snb_wh (c : E) (b r : S) (hb : SndB C j b) (hr : SndB C j r) : SndB C j (.wh c b r) := fun {Φ X sc} G {sts} h {es P} hw => by
  cases sts with
  | nil => simp [chkB] at h
  | cons y ys =>
    cases y with
    | While t x o p =>
      cases o with
      | nil =>
        simp only [chkB, Bool.and_eq_true] at h
        obtain ⟨Iv, m0, h0, hs⟩ := hw
        refine wb_cons (ws_while Iv m0 h0 G.own fun m es1 hi => VTc ((snd C j c).t G.g h.1.1 (hs m es1 hi)) fun p es2 hh => ⟨fun z => ?_, fun z => hr G h.2 (hh.2 z)⟩)
        exact wbc (hb G h.1.2 (hh.1 z)) ⟨fun _ h => h, fun _ _ h => h, fun es h' => hr G h.2 h', fun _ h => h, fun _ _ h => h⟩
      | cons _ _ => simp [chkB] at h
    | _ => simp [chkB] at h
theorem snb_fo (tg it : E) (b r : S) (hb : SndB C j b) (hr : SndB C j r) : SndB C j (.fo tg it b r) := fun {Φ X sc} G {sts} h {es P} hw => by
  cases sts with
  | nil => simp [chkB] at h
  | cons y ys =>
    cases y with
    | For t i x o p =>
      cases o with
      | nil =>
        simp only [chkB, Bool.and_eq_true] at h
        obtain ⟨⟨⟨⟨⟨h1, h2⟩, h3⟩, h4⟩, h5⟩, h6⟩ := h
        refine wb_cons (ws_forG G.own G.g.calm ((gt_ok G.g tg).1 t h1) ?_ (set_ok h2 _))
        refine VIc ((snd C j it).i G.g h4 h3 hw) fun xs es1 hh => ?_
        refine ⟨fun n es2 => runF (fun x es2 k => bindT tg x es2 fun es3 => wpB Φ b es3 { P with nx := k, ct := k, bk := fun es4 => wpB Φ r es4 P }) (xs.drop n) es2 fun es2 => wpB Φ r es2 P, hh, fun n d es2 hx hI => ?_, fun es2 hI => ?_⟩
        · have hd : xs.drop n = d :: xs.drop (n + 1) := by
            have hlt := (List.getElem?_eq_some_iff.mp hx).1
            rw [List.drop_eq_getElem_cons hlt]
            congr 1
            rw [List.getElem?_eq_getElem hlt] at hx
            exact Option.some.inj hx
          dsimp only at hI
          rw [hd] at hI
          refine bindT_mono tg d es2 _ _ hI fun es3 hB => ?_
          exact wbc (hb G h5 hB) ⟨fun _ h => h, fun _ _ h => h, fun es h' => hr G h6 h', fun _ h => h, fun _ _ h => h⟩
        · dsimp only at hI
          rw [List.drop_length] at hI
          exact hr G h6 hI
      | cons _ _ => simp [chkB] at h
    | _ => simp [chkB] at h
theorem snb_app (i : Nat) (e : E) (r : S) (hr : SndB C j r) : SndB C j (.app i e r) := fun {Φ X sc} G {sts} h {es P} hw => by
  cases sts with
  | nil => simp [chkB] at h
  | cons y ys =>
    cases y <;> simp only [chkB, Bool.and_eq_true, Bool.false_eq_true] at h
    obtain ⟨h1, h2⟩ := h
    unfold chkApp at h1
    split at h1
    · simp only [Bool.and_eq_true, decide_eq_true_eq] at h1
      obtain ⟨⟨⟨⟨rfl, a1⟩, a2⟩, a3⟩, a4⟩ := h1
      obtain ⟨b1, b2, b3, b4⟩ := nm_ok G.g a2
      obtain ⟨⟨b0, ds0, h0⟩, hw⟩ := hw
      refine wb_app i (b0 := b0) (ds0 := ds0) (VPc ((snd C j e).e G.g a4 hw) fun d es1 hh => ?_) h0 b1 b2 b3 b4 rfl ?_ a1 (star_ok a3 _ _) rfl rfl
      · obtain ⟨b, ds, e1, hl, hq⟩ := owAt_iff hh
        exact ⟨b, ds, e1, hl, _, rfl, hr G h2 hq⟩
      · rw [star_ok a3]; rfl
    · cases h1
theorem snb_sto (i : Nat) (k e : E) (r : S) (hr : SndB C j r) : SndB C j (.sto i k e r) := fun {Φ X sc} G {sts} h {es P} hw => by
  cases sts with
  | nil => simp [chkB] at h
  | cons y ys =>
    cases y with
    | Assign ts v p =>
      match ts, h with
      | [t], h =>
        simp only [chkB, Bool.and_eq_true] at h
        obtain ⟨⟨⟨h1, h2⟩, h3⟩, h4⟩ := h
        unfold chkSub at h1
        split at h1
        · simp only [Bool.and_eq_true] at h1
          obtain ⟨⟨a1, a2⟩, a3⟩ := h1
          obtain ⟨b1, b2, b3, b4⟩ := nm_ok G.g a1
          obtain ⟨b0, ds0, h0, hw⟩ := owAt_iff hw
          refine wb_stO i (b0 := b0) (ds0 := ds0) (VPc ((snd C j e).e G.g h3 hw) fun d es1 hh => ?_) h0 b1 b2 ?_ (swSole h2 _ _) rfl rfl b3 b4
          · obtain ⟨e0, hh⟩ := hh
            subst e0
            exact ⟨rfl, VPc ((snd C j k).e G.g a3 hh) fun d2 es2 hh2 => by
              obtain ⟨e1, hh2⟩ := hh2
              obtain ⟨n, rfl, m, e2, hq⟩ := intW_iff hh2
              exact ⟨e1, n, m, rfl, e2, _, rfl, hr G h4 hq⟩⟩
          · intro v
            rename_i y0 _
            cases y0 <;> first | rfl | (cases a2)
        · cases h1
      | [], h => simp [chkB] at h
      | _ :: _ :: _, h => simp [chkB] at h
    | _ => simp [chkB] at h

theorem snb_aug (i : Nat) (o : Bo) (e : E) (r : S) (hr : SndB C j r) : SndB C j (.aug i o e r) := fun {Φ X sc} G {sts} h {es P} hw => by
  cases sts with
  | nil => simp [chkB] at h
  | cons y ys =>
    cases y with
    | AugAssign t op v p =>
      simp only [chkB, Bool.and_eq_true, Bool.or_eq_true, decide_eq_true_eq] at h
      obtain ⟨⟨⟨⟨h1, rfl⟩, h2⟩, h3⟩, h4⟩ := h
      cases t <;> simp only [Bool.false_eq_true] at h2
      obtain ⟨s1, s2, s3⟩ := st_ok G.g h2
      have nd : X.N.Nodup := by rw [G.g.hN]; exact G.g.nd
      obtain ⟨d0, h0, hw⟩ := fzAt_iff hw
      obtain ⟨k, rfl, hw⟩ := intW_iff hw
      rcases h1 with rfl | rfl
      · exact wb_aug i (k := k) ip_add (VPc ((snd C j e).e G.g h3 hw) fun d es1 hh => by
          obtain ⟨n, rfl, hq⟩ := intW_iff hh
          exact ⟨n, rfl, _, rfl, hr G h4 hq⟩) h0 nd s1 s2 s3
      · exact wb_aug i (k := k) ip_sub (VPc ((snd C j e).e G.g h3 hw) fun d es1 hh => by
          obtain ⟨n, rfl, hq⟩ := intW_iff hh
          exact ⟨n, rfl, _, rfl, hr G h4 hq⟩) h0 nd s1 s2 s3
    | _ => simp [chkB] at h
theorem snb_augo (i : Nat) (o : Bo) (k e : E) (r : S) (hr : SndB C j r) : SndB C j (.augo i o k e r) := fun {Φ X sc} G {sts} h {es P} hw => by
  cases sts with
  | nil => simp [chkB] at h
  | cons y ys =>
    cases y with
    | AugAssign t op v p =>
      simp only [chkB, Bool.and_eq_true, Bool.or_eq_true, decide_eq_true_eq] at h
      obtain ⟨⟨⟨⟨h1, rfl⟩, h2⟩, h3⟩, h4⟩ := h
      unfold chkSub at h2
      split at h2
      · simp only [Bool.and_eq_true] at h2
        obtain ⟨⟨a1, a2⟩, a3⟩ := h2
        obtain ⟨b1, b2, b3, b4⟩ := nm_ok G.g a1
        obtain ⟨b0, ds0, h0, hw⟩ := owAt_iff hw
        rename_i y0 _
        have ha : ∀ ov iv new, augStore y0 ov iv new = (do holding [new, ov, iv] (setItem ov iv new); release [new, ov, iv] []; pure .next) := by
          intro ov iv new
          cases y0 <;> first | rfl | (cases a2)
        rcases h1 with rfl | rfl
        · exact wb_augO i (b0 := b0) (ds0 := ds0) ip_add (VPc ((snd C j k).e G.g a3 hw) fun d es1 hh => by
            obtain ⟨e0, hh⟩ := hh
            obtain ⟨n, rfl, hn, m, v, e1, e2, hq⟩ := intW_iff hh
            exact ⟨e0, n, m, v, rfl, hn, e1, e2, by
              subst e0
              exact VPc ((snd C j e).e G.g h3 hq) fun d2 es2 hh2 => by
                obtain ⟨e3, hh2⟩ := hh2
                obtain ⟨n2, rfl, hq2⟩ := intW_iff hh2
                exact ⟨e3, n2, rfl, _, rfl, hr G h4 hq2⟩⟩) h0 b1 b2 ha b3 b4
        · exact wb_augO i (b0 := b0) (ds0 := ds0) ip_sub (VPc ((snd C j k).e G.g a3 hw) fun d es1 hh => by
            obtain ⟨e0, hh⟩ := hh
            obtain ⟨n, rfl, hn, m, v, e1, e2, hq⟩ := intW_iff hh
            exact ⟨e0, n, m, v, rfl, hn, e1, e2, by
              subst e0
              exact VPc ((snd C j e).e G.g h3 hq) fun d2 es2 hh2 => by
                obtain ⟨e3, hh2⟩ := hh2
                obtain ⟨n2, rfl, hq2⟩ := intW_iff hh2
                exact ⟨e3, n2, rfl, _, rfl, hr G h4 hq2⟩⟩) h0 b1 b2 ha b3 b4
      · cases h2
    | _ => simp [chkB] at h
theorem snb_par3 (i k l : Nat) (a b c : E) (r : S) (hr : SndB C j r) : SndB C j (.par3 i k l a b c r) := fun {Φ X sc} G {sts} h {es P} hw => by
  cases sts with
  | nil => simp [chkB] at h
  | cons y ys =>
    simp only [chkB, Bool.and_eq_true] at h
    obtain ⟨h, hh⟩ := h
    unfold chkPar3 at h
    split at h
    · simp only [Bool.and_eq_true, decide_eq_true_eq] at h
      obtain ⟨⟨⟨⟨⟨⟨⟨⟨⟨h1, h2⟩, h3⟩, h4⟩, h5⟩, h6⟩, h7⟩, h8⟩, h9⟩, h10⟩ := h
      have h7' := h7
      rw [← G.g.hsc] at h7'
      have h7c := h7'
      unfold swThree at h7c
      simp only [Bool.and_eq_true, decide_eq_true_eq] at h7c
      obtain ⟨⟨⟨⟨⟨⟨⟨⟨⟨⟨⟨⟨q1, q2⟩, q3⟩, _⟩, _⟩, _⟩, _⟩, _⟩, q5⟩, q6⟩, q7⟩, _⟩, _⟩ := h7c
      have nd : X.N.Nodup := by rw [G.g.hN]; exact G.g.nd
      exact wb_cons (ws_par3 i k l G.g.calm nd (by rw [G.g.hN]; exact h1) (by rw [G.g.hN]; exact h2) (by rw [G.g.hN]; exact h3) h4 h5 h6 q1 q2 q3
        (VPc ((snd C j a).e G.g h8 hw) fun d es1 hh1 => VPc ((snd C j b).e G.g h9 hh1) fun d2 es2 hh2 => VPc ((snd C j c).e G.g h10 hh2) fun d3 es3 hh3 => hr G hh hh3)
        q5 q6 q7 (sw_three (by rw [G.g.hsc]; exact G.g.kind) h7'))
    · cases h
theorem isDnew_ok {v : Expr} (h : isDnew v = true) : ∃ p, v = .Dict [] [] p := by
  unfold isDnew at h
  split at h
  · exact ⟨_, rfl⟩
  · cases h
theorem snb_dnew (i : Nat) (t : Bool) (r : S) (hr : SndB C j r) : SndB C j (.dnew i t r) := fun {Φ X sc} G {sts} h {es P} hw => by
  cases sts with
  | nil => simp [chkB] at h
  | cons y ys =>
    simp only [chkB, Bool.and_eq_true] at h
    obtain ⟨h, h3⟩ := h
    unfold chkDnew at h
    split at h
    · simp only [Bool.and_eq_true] at h
      obtain ⟨h1, h2⟩ := h
      obtain ⟨q, rfl⟩ := isDnew_ok h2
      obtain ⟨s1, s2, s3⟩ := st_ok G.g h1
      have nd : X.N.Nodup := by rw [G.g.hN]; exact G.g.nd
      cases t with
      | false => exact wb_dnewK i (hr G h3 hw) nd s1 s2 rfl s3
      | true => exact wb_dnewT i (hr G h3 hw) nd s1 s2 rfl s3
    · cases h
theorem snb_dput (i : Nat) (k e : E) (r : S) (hr : SndB C j r) : SndB C j (.dput i k e r) := fun {Φ X sc} G {sts} h {es P} hw => by
  cases sts with
  | nil => simp [chkB] at h
  | cons y ys =>
    simp only [chkB, Bool.and_eq_true] at h
    obtain ⟨h, h4⟩ := h
    unfold chkDput at h
    split at h
    · simp only [Bool.and_eq_true] at h
      obtain ⟨⟨h1, h2⟩, h3⟩ := h
      unfold chkSub at h1
      split at h1
      · simp only [Bool.and_eq_true] at h1
        obtain ⟨⟨a1, a2⟩, a3⟩ := h1
        obtain ⟨b1, b2, b3, b4⟩ := nm_ok G.g a1
        obtain ⟨b0, c0, h0, ks, ds, hc, hw⟩ := ownAt_iff hw
        subst hc
        refine wb_dput (units1 G.g.room) h0 (VPc ((snd C j e).e G.g h3 hw) fun d es1 hh => ?_) b1 b2 (comp_ok h2 _ _ _) b3 b4
        obtain ⟨e0, hh⟩ := hh
        subst e0
        exact ⟨rfl, VPc ((snd C j k).e G.g a3 hh) fun d2 es2 hh2 => ⟨hh2.1, by
          obtain ⟨kk, q1, q2, q3⟩ := hh2.2
          exact ⟨kk, q1, q2, hr G h4 q3⟩⟩⟩
      · cases h1
    · cases h
theorem snb_dputT (i : Nat) (k e : E) (r : S) (hr : SndB C j r) : SndB C j (.dputT i k e r) := fun {Φ X sc} G {sts} h {es P} hw => by
  cases sts with
  | nil => simp [chkB] at h
  | cons y ys =>
    simp only [chkB, Bool.and_eq_true] at h
    obtain ⟨h, h4⟩ := h
    unfold chkDputT at h
    split at h
    · simp only [Bool.and_eq_true] at h
      obtain ⟨⟨h1, h2⟩, h3⟩ := h
      unfold chkSubT at h1
      split at h1
      · simp only [Bool.and_eq_true] at h1
        obtain ⟨a1, a3⟩ := h1
        obtain ⟨b1, b2, b3, b4⟩ := nm_ok G.g a1
        obtain ⟨b0, c0, h0, ks, ds, hc, hw⟩ := ownAt_iff hw
        subst hc
        refine wb_dputT (units1 G.g.room) h0 (VPc ((snd C j e).e G.g h3 hw) fun d es1 hh => ?_) b1 b2 (comp_ok h2 _ _ _) b3 b4
        obtain ⟨e0, hh⟩ := hh
        subst e0
        exact ⟨rfl, VAc ((snd C j k).a G.g a3 hh) fun d2 es2 hh2 => ⟨hh2.1, hh2.2.1, by
          obtain ⟨kk, q1, q2, q3⟩ := hh2.2.2
          exact ⟨kk, q1, q2, hr G h4 q3⟩⟩⟩
      · cases h1
    · cases h
theorem snb_brk : SndB C j .brk := fun {Φ X sc} G {sts} h {es P} hw => by
  cases sts with
  | nil => simp [chkB] at h
  | cons y ys => cases y <;> simp only [chkB, Bool.false_eq_true] at h; exact wb_brk hw
theorem snb_cont : SndB C j .cont := fun {Φ X sc} G {sts} h {es P} hw => by
  cases sts with
  | nil => simp [chkB] at h
  | cons y ys => cases y <;> simp only [chkB, Bool.false_eq_true] at h; exact wb_cont hw
/-- THE RULE for blocks -/
theorem sndB (C : Ck) (j : Nat) (s : S) : SndB C j s := by
  induction s with
  | skip => exact snb_skip
  | frz i r hr => exact snb_frz i r hr
  | pass r hr => exact snb_pass r hr
  | exp e r hr => exact snb_exp e r hr
  | set i e r hr => exact snb_set i e r hr
  | setL i e r hr => exact snb_setL i e r hr
  | asg tg e r hr => exact snb_asg tg e r hr
  | par i k a b r hr => exact snb_par i k a b r hr
  | ret e => exact snb_ret e
  | retN => exact snb_retN
  | retL e => exact snb_retL e
  | retO i => exact snb_retO i
  | ife c a b r ha hb hr => exact snb_ife c a b r ha hb hr
  | wh c b r hb hr => exact snb_wh c b r hb hr
  | fo tg it b r hb hr => exact snb_fo tg it b r hb hr
  | app i e r hr => exact snb_app i e r hr
  | sto i k e r hr => exact snb_sto i k e r hr
  | aug i o e r hr => exact snb_aug i o e r hr
  | augo i o k e r hr => exact snb_augo i o k e r hr
  | dead => exact fun {Φ X sc} G {sts} h {es P} hw => False.elim hw
  | par3 i k l a b c r hr => exact snb_par3 i k l a b c r hr
  | dnew i t r hr => exact snb_dnew i t r hr
  | dput i k e r hr => exact snb_dput i k e r hr
  | dputT i k e r hr => exact snb_dputT i k e r hr
  | brk => exact snb_brk
  | cont => exact snb_cont
end
/-! ### a def -/
/-- the module's facts that a def's text leans on -/
structure Md (P : Program) (w : World) (K : PySem.W.Frag) (mg : Str → Option Value) (base : Heap) (Φ : Ph) (C : Ck) (j : Nat) : Prop where
  blt : ∀ x ∈ C.bl, mg x = none
  gcd : C.gcd = true → mg "gcd" = some (.builtin "math.gcd")
  gi : ∀ p ∈ C.gis, ∃ t, mg p.1 = some (.int p.2 t)
  cr : ∀ f x, C.rs[f]? = some x → ∃ k, k ≤ j ∧ Fn P w K mg base x k (spR K mg (Φ.r f))
  co : ∀ f x, C.os[f]? = some x → ∃ k, k ≤ j ∧ Fn P w K mg base x k (spO K mg (Φ.o f))
  cl : ∀ f x, C.ls[f]? = some x → ∃ k, k ≤ j ∧ Fn P w K mg base x k (spL K mg (Φ.l f))
section
variable {P : Program} {w : World} {K : PySem.W.Frag} {mg : Str → Option Value} {base : Heap} {Φ : (Xn → List Sl → Prop) → Ph} {C : Ck} {j : Nat} {x qual : Str} {st : Stmt} {f : Addr} {fd : FuncData} {ps : List Str}
theorem gb_of {κ : Xn → List Sl → Prop} (M : Md P w K mg base (Φ κ) C j) (hκ : (Φ κ).κ = κ) (S : FnScope C.N ps (defScope st)) {cdv : Value} {A : Around} {outer : List Env} {s : Shared} {H : Hp} {E : XK} (hr : Room j (cyOf P w K mg base C.N qual (defScope st) f cdv A outer s H E κ).A) :
    Gb (Φ κ) C j (cyOf P w K mg base C.N qual (defScope st) f cdv A outer s H E κ) (defScope st) :=
  ⟨⟨rfl, S.nd, rfl, S.kind, rfl, hr, M.blt, M.gcd, M.gi, fun _ _ => rfl, M.cr, M.co, M.cl, hκ.symm⟩, passes_of (X := cxOf (L2.CX P w) P w K mg base C.N qual (defScope st) f cdv A outer s H E) rfl⟩
/-- data in, a datum out -/
theorem def_R {R : RR} (F : Fun K x qual st f fd) (S : FnScope C.N ps (defScope st)) (M : ∀ κ, Md P w K mg base (Φ κ) C j) (hκ : ∀ κ, (Φ κ).κ = κ) (b : Ax.S) (hc : chkB C b (defScope st) (defBody st) = true) (hN : ps.length ≤ C.N.length)
    (h : ∀ ds G Gx, R ds G Gx → ds.length = ps.length ∧ wpB (Φ fun x _ => Gx x) b (ini C.N ds) { nx := fun _ => G .none, rt := fun d _ => G d }) : FnOk P w K mg base (L2.CX P w) (j + 1) f fd ps (spR K mg R) :=
  ok_R F S hN (fun ds G Gx hR => (h ds G Gx hR).1) fun cdv A outer s H E ds G Gx hr hR => sndB C j b (gb_of (M _) (hκ _) S hr) hc (h ds G Gx hR).2
/-- a list that is changed, data in, a datum out -/
theorem def_O {R : RO} (F : Fun K x qual st f fd) (S : FnScope C.N ps (defScope st)) (M : ∀ κ, Md P w K mg base (Φ κ) C j) (hκ : ∀ κ, (Φ κ).κ = κ) (b : Ax.S) (hc : chkB C b (defScope st) (defBody st) = true) (hN : ps.length ≤ C.N.length)
    (h : ∀ ds as G Gx, R ds as G Gx → as.length + 1 = ps.length ∧ wpB (Φ fun x es => ∃ ds', es[0]? = some (.own false (.l ds')) ∧ Gx x ds') b (iniO C.N ds as) { nx := fun es => owAt es 0 fun b ds' => b = false ∧ G .none ds', rt := fun d es => owAt es 0 fun b ds' => b = false ∧ G d ds' }) : FnOk P w K mg base (L2.CX P w) (j + 1) f fd ps (spO K mg R) :=
  ok_O F S hN (fun ds as G Gx hR => (h ds as G Gx hR).1) fun cdv A outer s H E ds as G Gx hr hR => wbc (sndB C j b (gb_of (M _) (hκ _) S hr) hc (h ds as G Gx hR).2)
    ⟨fun es z => by obtain ⟨b, ds', e, rfl, g⟩ := owAt_iff z; exact ⟨ds', e, g⟩, fun d es z => by obtain ⟨b, ds', e, rfl, g⟩ := owAt_iff z; exact ⟨ds', e, g⟩, fun _ z => z, fun _ z => z, fun _ _ z => z⟩
/-- data in, a new list out -/
theorem def_L {R : RL} (F : Fun K x qual st f fd) (S : FnScope C.N ps (defScope st)) (M : ∀ κ, Md P w K mg base (Φ κ) C j) (hκ : ∀ κ, (Φ κ).κ = κ) (b : Ax.S) (hc : chkB C b (defScope st) (defBody st) = true) (hN : ps.length ≤ C.N.length)
    (h : ∀ ds G Gx, R ds G Gx → ds.length = ps.length ∧ wpB (Φ fun x _ => Gx x) b (ini C.N ds) { nx := fun _ => False, rt := fun _ _ => False, rl := fun d _ => G d }) : FnOk P w K mg base (L2.CX P w) (j + 1) f fd ps (spL K mg R) :=
  ok_L F S hN (fun ds G Gx hR => (h ds G Gx hR).1) fun cdv A outer s H E ds G Gx hr hR => sndB C j b (gb_of (M _) (hκ _) S hr) hc (h ds G Gx hR).2
end
end Ax

set_option Elab.async false
set_option linter.all false
set_option maxRecDepth 100000
set_option maxHeartbeats 4000000
namespace Pf
open Lv
/-- a fraction in least terms -/
def IsFr (p q : Int) : Prop := 0 ≤ q ∧ Int.gcd p q = 1 ∧ (q = 0 → p = 1)
/-- least terms -/
def nrm (t b : Int) : Int × Int :=
  if b < 0 ∨ (b = 0 ∧ t < 0) then ((-t) / (Int.gcd t b : Int), (-b) / (Int.gcd t b : Int)) else (t / (Int.gcd t b : Int), b / (Int.gcd t b : Int))
theorem fdiv_neg_dvd {t g : Int} (hg : 0 < g) (h : g ∣ t) : t.fdiv (-g) = (-t) / g := by
  obtain ⟨k, rfl⟩ := h
  have e1 : g * k = (-k) * (-g) := by rw [Int.neg_mul_neg, Int.mul_comm]
  have e2 : -(g * k) = (-k) * g := by rw [Int.neg_mul, Int.mul_comm]
  rw [e2, Int.mul_ediv_cancel _ (by omega), e1, Int.mul_fdiv_cancel _ (by omega)]
theorem fdiv_pos {t g : Int} (hg : 0 < g) : t.fdiv g = t / g := Int.fdiv_eq_ediv_of_nonneg t (by omega)
theorem gcd_dvd1 (t b : Int) : (Int.gcd t b : Int) ∣ t := Int.gcd_dvd_left t b
theorem gcd_dvd2 (t b : Int) : (Int.gcd t b : Int) ∣ b := Int.gcd_dvd_right t b
theorem gcd_pos {t b : Int} (h : ¬(t = 0 ∧ b = 0)) : 0 < (Int.gcd t b : Int) := by
  have : Int.gcd t b ≠ 0 := fun z => h (Int.gcd_eq_zero_iff.mp z)
  omega
theorem gcd_bd {n : Nat} {t b : Int} (h : ¬(t = 0 ∧ b = 0)) (h1 : Bd n t) (h2 : Bd n b) : Bd n (Int.gcd t b : Int) := by
  unfold Bd at *
  rw [Int.natAbs_natCast]
  by_cases ht : t = 0
  · subst ht
    rw [Int.gcd_zero_left]; exact h2
  · have : Int.gcd t b ∣ t.natAbs := Nat.gcd_dvd_left t.natAbs b.natAbs
    have := Nat.le_of_dvd (by omega) this
    omega
/-- a common divisor is a mix -/
theorem bez (a b : Nat) : ∃ u v : Int, u * a + v * b = (Nat.gcd a b : Nat) := by
  induction a, b using Nat.gcd.induction with
  | H0 n => exact ⟨0, 1, by simp⟩
  | H1 m n h ih =>
    obtain ⟨u, v, e⟩ := ih
    refine ⟨v - u * (n / m : Nat), u, ?_⟩
    rw [Nat.gcd_rec m n, ← e]
    have h1 : (n : Int) = (m : Int) * (n / m : Nat) + (n % m : Nat) := by
      have := Nat.div_add_mod n m
      exact_mod_cast this.symm
    generalize (n / m : Nat) = x at *
    generalize (n % m : Nat) = y at *
    grind
theorem bezI (a b : Int) : ∃ u v : Int, u * a + v * b = (Int.gcd a b : Nat) := by
  obtain ⟨u, v, e⟩ := bez a.natAbs b.natAbs
  have ha : ∃ s : Int, (a.natAbs : Int) = s * a := by
    rcases Int.natAbs_eq a with h | h
    · exact ⟨1, by omega⟩
    · exact ⟨-1, by omega⟩
  have hb : ∃ s : Int, (b.natAbs : Int) = s * b := by
    rcases Int.natAbs_eq b with h | h
    · exact ⟨1, by omega⟩
    · exact ⟨-1, by omega⟩
  obtain ⟨s, hs⟩ := ha
  obtain ⟨t, ht⟩ := hb
  refine ⟨u * s, v * t, ?_⟩
  have e2 : u * s * a + v * t * b = u * (s * a) + v * (t * b) := by grind
  rw [e2, ← hs, ← ht, e]
  rfl
end Pf
namespace Pf
open Lv
theorem nrm_pos {t b : Int} (h : ¬(b < 0 ∨ (b = 0 ∧ t < 0))) : nrm t b = (t / (Int.gcd t b : Int), b / (Int.gcd t b : Int)) := if_neg h
theorem nrm_neg {t b : Int} (h : b < 0 ∨ (b = 0 ∧ t < 0)) : nrm t b = ((-t) / (Int.gcd t b : Int), (-b) / (Int.gcd t b : Int)) := if_pos h
theorem gcd_step {a b : Int} (hb : 0 < b) (ha : 0 ≤ a) : Int.gcd b (a % b) = Int.gcd a b := by
  obtain ⟨x, rfl⟩ := Int.eq_ofNat_of_zero_le ha
  obtain ⟨y, rfl⟩ := Int.eq_ofNat_of_zero_le (Int.le_of_lt hb)
  show Nat.gcd y ((x : Int) % (y : Int)).natAbs = Nat.gcd x y
  rw [← Int.natCast_emod, Int.natAbs_natCast, Nat.gcd_comm x y, Nat.gcd_rec y x, Nat.gcd_comm]
theorem gcd_emodI (n m : Int) : Int.gcd m (n % m) = Int.gcd n m := by
  have e := Int.mul_ediv_add_emod n m
  apply Nat.dvd_antisymm
  · refine Int.dvd_gcd ?_ (Int.gcd_dvd_left _ _)
    have h1 := Int.gcd_dvd_left m (n % m)
    have h2 := Int.gcd_dvd_right m (n % m)
    have := Int.dvd_add (Int.dvd_mul_of_dvd_left (c := n / m) h1) h2
    rwa [e] at this
  · refine Int.dvd_gcd (Int.gcd_dvd_right _ _) ?_
    have h1 := Int.gcd_dvd_left n m
    have h2 := Int.gcd_dvd_right n m
    have := Int.dvd_sub h1 (Int.dvd_mul_of_dvd_left (c := n / m) h2)
    have e2 : n - m * (n / m) = n % m := by omega
    rwa [e2] at this
/-- the numbers of the inverse: n * before - high and n * now - low are multiples of m -/
structure InvI (m n hi lo be no : Int) : Prop where
  h0 : 0 < hi
  h1 : 0 ≤ lo
  h2 : lo < m ∨ m = 1
  d1 : m ∣ n * be - hi
  d2 : m ∣ n * no - lo
  g : Int.gcd hi lo = 1
  s : (be.natAbs : Int) * lo + (no.natAbs : Int) * hi ≤ m
  sb : (be.natAbs : Int) ≤ m
theorem InvI.start {m n : Int} (hm : 0 < m) (hg : Int.gcd n m = 1) : InvI m n m (n % m) 0 1 where
  h0 := hm
  h1 := Int.emod_nonneg _ (by omega)
  h2 := .inl (Int.emod_lt_of_pos _ hm)
  d1 := by
    rw [Int.mul_zero, Int.zero_sub]
    exact Int.dvd_neg.mpr (Int.dvd_refl m)
  d2 := by
    rw [Int.mul_one]
    exact ⟨n / m, by have := Int.mul_ediv_add_emod n m; omega⟩
  g := by
    rw [gcd_emodI, hg]
  s := by simp
  sb := by simp; omega
theorem natAbs_sub_mul (a t b : Int) (ht : 0 ≤ t) : ((a - t * b).natAbs : Int) ≤ a.natAbs + t * b.natAbs := by
  have h1 : (a - t * b).natAbs ≤ a.natAbs + (t * b).natAbs := Int.natAbs_sub_le a (t * b)
  have h2 : ((t * b).natAbs : Int) = t * b.natAbs := by
    rw [Int.natAbs_mul]
    have : (t.natAbs : Int) = t := by omega
    rw [Int.natCast_mul, this]
  omega
theorem InvI.step {m n hi lo be no : Int} (I : InvI m n hi lo be no) (hl : lo ≠ 0) : InvI m n lo (hi - hi / lo * lo) no (be - hi / lo * no) ∧ 0 ≤ hi - hi / lo * lo ∧ hi - hi / lo * lo < lo := by
  have h0 := I.h0; have h1 := I.h1
  have lp : 0 < lo := by omega
  have e : hi - hi / lo * lo = hi % lo := by
    have := Int.mul_ediv_add_emod hi lo
    have c := Int.mul_comm lo (hi / lo)
    omega
  have q0 : 0 ≤ hi / lo := Int.ediv_nonneg (by omega) (by omega)
  have r0 := Int.emod_nonneg hi (show lo ≠ 0 by omega)
  have r1 := Int.emod_lt_of_pos hi lp
  have hs := I.s
  have a1 := natAbs_sub_mul be (hi / lo) no q0
  refine ⟨⟨lp, by omega, ?_, I.d2, ?_, ?_, ?_, ?_⟩, by omega, by omega⟩
  · rcases I.h2 with h | h
    · exact .inl (by omega)
    · exact .inr h
  · obtain ⟨x, hx⟩ := I.d1
    obtain ⟨y, hy⟩ := I.d2
    exact ⟨x - hi / lo * y, by generalize hi / lo = t at *; grind⟩
  · rw [e, gcd_step lp (by omega)]
    exact I.g
  · rw [e]
    have a2 : ((be - hi / lo * no).natAbs : Int) * lo ≤ (be.natAbs + hi / lo * no.natAbs) * lo := Int.mul_le_mul_of_nonneg_right a1 (by omega)
    have a3 : ((be.natAbs : Int) + hi / lo * no.natAbs) * lo = be.natAbs * lo + no.natAbs * (hi - hi % lo) := by
      rw [← e]; generalize hi / lo = t; grind
    have a4 : (no.natAbs : Int) * (hi - hi % lo) = no.natAbs * hi - no.natAbs * (hi % lo) := Int.mul_sub _ _ _
    omega
  · have a2 : (no.natAbs : Int) * 1 ≤ no.natAbs * hi := Int.mul_le_mul_of_nonneg_left (by omega) (by omega)
    have a3 : 0 ≤ (be.natAbs : Int) * lo := Int.mul_nonneg (by omega) (by omega)
    omega
theorem InvI.bno {m n hi lo be no : Int} (I : InvI m n hi lo be no) : (no.natAbs : Int) ≤ m := by
  have h0 := I.h0; have h1 := I.h1; have hs := I.s
  have a2 : (no.natAbs : Int) * 1 ≤ no.natAbs * hi := Int.mul_le_mul_of_nonneg_left (by omega) (by omega)
  have a3 : 0 ≤ (be.natAbs : Int) * lo := Int.mul_nonneg (by omega) (by omega)
  omega
theorem InvI.bhi {m n hi lo be no : Int} (I : InvI m n hi lo be no) (hm : hi ≤ m) : True := trivial
theorem InvI.done {m n hi be no : Int} (I : InvI m n hi 0 be no) (hm : 0 < m) : m ∣ n * (be % m) - 1 := by
  have hg := I.g
  rw [Int.gcd_zero_right] at hg
  have h1 : hi = 1 := by have := I.h0; omega
  have h := I.d1
  rw [h1] at h
  obtain ⟨x, hx⟩ := h
  have e := Int.mul_ediv_add_emod be m
  refine ⟨x - n * (be / m), ?_⟩
  generalize be / m = t at *
  generalize be % m = r at *
  grind
end Pf
namespace Pf
open Lv
/-- the least number of a class without a common divisor with g -/
def Lst (g m l t : Int) : Prop := 0 ≤ t ∧ t % m = l % m ∧ Int.gcd t g = 1 ∧ ∀ s : Int, 0 ≤ s → s < t → s % m = l % m → Int.gcd s g ≠ 1
theorem Lst.uniq {g m l l' t t' : Int} (h : Lst g m l t) (h' : Lst g m l' t') (e : l % m = l' % m) : t = t' := by
  rcases Int.lt_trichotomy t t' with a | a | a
  · exact absurd h.2.2.1 (h'.2.2.2 t h.1 a (h.2.1.trans e))
  · exact a
  · exact absurd h'.2.2.1 (h.2.2.2 t' h'.1 a (h'.2.1.trans e.symm))
theorem lst_step {g m l t x : Int} (hm : 0 < m) (hg : 1 ≤ g) (L : Lst g m l t) (h0 : 0 ≤ x) (hx : x % m = l % m) (hle : x ≤ t) (h : ¬ Int.gcd x g = 1) : x + m ≤ t ∧ (x + m) % m = l % m := by
  refine ⟨?_, by rw [Int.add_emod_right]; exact hx⟩
  have ne : x ≠ t := fun z => h (by rw [z]; exact L.2.2.1)
  have e1 := Int.mul_ediv_add_emod x m
  have e2 := Int.mul_ediv_add_emod t m
  rw [L.2.1] at e2
  rw [hx] at e1
  have : x / m < t / m := by
    apply Int.lt_of_mul_lt_mul_left (a := m) _ (by omega)
    omega
  have : m * (x / m + 1) ≤ m * (t / m) := Int.mul_le_mul_of_nonneg_left (by omega) (by omega)
  have : m * (x / m + 1) = m * (x / m) + m := by rw [Int.mul_add, Int.mul_one]
  omega
theorem lst_end {g m l t x : Int} (hg : 1 ≤ g) (L : Lst g m l t) (h0 : 0 ≤ x) (hx : x % m = l % m) (hle : x ≤ t) (h : ¬ (1 : Int) < (Int.gcd x g : Nat)) : x = t := by
  have h1 : Int.gcd x g = 1 := by
    have := gcd_pos (t := x) (b := g) (by omega)
    omega
  rcases Int.lt_or_eq_of_le hle with a | a
  · exact absurd h1 (L.2.2.2 x h0 a hx)
  · exact a
def rimG (N q : Int) : Int := (Int.gcd q N : Nat)
def rimM (N q : Int) : Int := (Int.gcd (rimG N q) (N / rimG N q) : Nat)
def rimL (N p q : Int) : Int := p * (q / rimG N q)
def Rim (N p q t : Int) : Prop := Lst (rimG N q) (rimM N q) (rimL N p q) t
theorem rimG_pos {N : Int} (q : Int) (h : 1 ≤ N) : 0 < rimG N q := gcd_pos (by omega)
theorem rimG_le {N : Int} (q : Int) (h : 1 ≤ N) : rimG N q ≤ N := Int.le_of_dvd (by omega) (gcd_dvd2 q N)
theorem rimM_pos {N : Int} (q : Int) (h : 1 ≤ N) : 0 < rimM N q := gcd_pos (by have := rimG_pos q h; omega)
end Pf

set_option Elab.async false
set_option linter.all false
set_option maxRecDepth 100000
set_option maxHeartbeats 4000000
namespace Pf
open Lv
theorem ilt (a b : Int) : a < b ∨ b ≤ a := by omega
theorem rimG_spec (N q : Int) (hN : 1 ≤ N) : ∃ q1 n1 u v : Int, q = rimG N q * q1 ∧ N = rimG N q * n1 ∧ u * q1 + v * n1 = 1 ∧ q / rimG N q = q1 ∧ N / rimG N q = n1 := by
  obtain ⟨q1, h1⟩ : rimG N q ∣ q := gcd_dvd1 q N
  obtain ⟨n1, h2⟩ : rimG N q ∣ N := gcd_dvd2 q N
  obtain ⟨u, v, h3⟩ := bezI q N
  have hp := rimG_pos q hN
  have h3 : u * q + v * N = rimG N q := h3
  generalize rimG N q = G at *
  refine ⟨q1, n1, u, v, h1, h2, ?_, ?_, ?_⟩
  · have : G * (u * q1 + v * n1 - 1) = 0 := by rw [h1, h2] at h3; grind
    have := (Int.mul_eq_zero.mp this).resolve_left (by omega)
    omega
  · rw [h1, Int.mul_ediv_cancel_left _ (by omega)]
  · rw [h2, Int.mul_ediv_cancel_left _ (by omega)]
theorem rimM_spec (N q n1 : Int) (hN : 1 ≤ N) (h : N / rimG N q = n1) : ∃ g2 n2 u v : Int, rimG N q = rimM N q * g2 ∧ n1 = rimM N q * n2 ∧ u * rimG N q + v * n1 = rimM N q := by
  obtain ⟨g2, h1⟩ : rimM N q ∣ rimG N q := gcd_dvd1 _ _
  obtain ⟨n2, h2⟩ : rimM N q ∣ N / rimG N q := gcd_dvd2 _ _
  obtain ⟨u, v, h3⟩ := bezI (rimG N q) (N / rimG N q)
  rw [h] at h2 h3
  refine ⟨g2, n2, u, v, h1, h2, ?_⟩
  rw [h3]; unfold rimM; rw [h]
theorem rimG_dvd {N q c : Int} (h : rimG N q ∣ c) : rimG N q ∣ rimG N c := by
  have h2 : rimG N q ∣ N := gcd_dvd2 q N
  have : Int.gcd q N ∣ Int.gcd c N := Int.dvd_gcd h h2
  exact Int.natCast_dvd_natCast.mpr this
theorem rimG_inv {N p q a c e f g h : Int} (hN : 1 ≤ N) (det : e * h - f * g = 1) (hg : N ∣ g) (h1 : e * p + f * q = a) (h2 : g * p + h * q = c) : rimG N q = rimG N c := by
  have d1 : rimG N q ∣ N := gcd_dvd2 q N
  have d2 : rimG N q ∣ q := gcd_dvd1 q N
  have d3 : rimG N c ∣ N := gcd_dvd2 c N
  have d4 : rimG N c ∣ c := gcd_dvd1 c N
  have e1 : rimG N q ∣ rimG N c := rimG_dvd (by
    rw [← h2]
    exact Int.dvd_add (Int.dvd_mul_of_dvd_left (Int.dvd_trans d1 hg)) (Int.dvd_mul_of_dvd_right d2))
  have e2 : rimG N c ∣ rimG N q := rimG_dvd (by
    have : q = e * c - g * a := by rw [← h1, ← h2]; grind
    rw [this]
    exact Int.dvd_sub (Int.dvd_mul_of_dvd_right d4) (Int.dvd_mul_of_dvd_left (Int.dvd_trans d3 hg)))
  exact Int.dvd_antisymm (by have := rimG_pos q hN; omega) (by have := rimG_pos c hN; omega) e1 e2
theorem rim_inv {N p q a c e f g h : Int} (hN : 1 ≤ N) (det : e * h - f * g = 1) (hg : N ∣ g) (h1 : e * p + f * q = a) (h2 : g * p + h * q = c) :
    rimG N q = rimG N c ∧ rimM N q = rimM N c ∧ rimL N p q % rimM N q = rimL N a c % rimM N c := by
  have hG := rimG_inv hN det hg h1 h2
  have hM : rimM N q = rimM N c := by unfold rimM; rw [hG]
  refine ⟨hG, hM, ?_⟩
  obtain ⟨q1, n1, u1, v1, a1, a2, a3, a4, a5⟩ := rimG_spec N q hN
  obtain ⟨c1, n1', u2, v2, b1, b2, b3, b4, b5⟩ := rimG_spec N c hN
  obtain ⟨g2, n2, u3, v3, c3, c4, c5⟩ := rimM_spec N q n1 hN a5
  obtain ⟨g1, hg1⟩ := hg
  have hp := rimG_pos q hN
  rw [← hG] at b1 b2 b4 b5
  have hL : rimL N p q = p * q1 := by unfold rimL; rw [a4]
  have hL2 : rimL N a c = a * c1 := by unfold rimL; rw [← hG, b4]
  rw [← hM, hL, hL2]
  generalize rimG N q = G at *
  generalize rimM N q = m at *
  have hc1 : c1 = n1 * g1 * p + h * q1 := by
    have : G * (c1 - (n1 * g1 * p + h * q1)) = 0 := by
      have e1 : c = G * (n1 * g1 * p + h * q1) := by
        rw [← h2, hg1]
        conv => lhs; rw [a1]
        conv => lhs; rw [a2]
        grind
      have : G * c1 = G * (n1 * g1 * p + h * q1) := by rw [← b1, ← e1]
      rw [Int.mul_sub, this, Int.sub_self]
    have := (Int.mul_eq_zero.mp this).resolve_left (by omega)
    omega
  have key : a * c1 - p * q1 = m * (e * p * n2 * g1 * p + p * q1 * f * g2 * m * n2 * g1 + f * g2 * q1 * c1) := by
    have det2 : e * h = 1 + f * (G * n1 * g1) := by rw [← a2, ← hg1]; omega
    have hq : q = G * q1 := a1
    rw [← h1]
    have e1 : (e * p + f * q) * c1 - p * q1 = e * p * (n1 * g1 * p) + p * q1 * (e * h - 1) + f * q * c1 := by
      have : (e * p + f * q) * c1 = e * p * c1 + f * q * c1 := by grind
      rw [this]
      conv => lhs; lhs; lhs; rw [hc1]
      grind
    rw [e1, det2, hq]
    have z : (1 + f * (G * n1 * g1) - 1) = f * (G * n1 * g1) := by omega
    rw [z, c3]
    conv => lhs; rw [c4]
    grind
  have : (a * c1) % m = (p * q1) % m := Int.emod_eq_emod_iff_emod_sub_eq_zero.mpr (by rw [key]; exact Int.mul_emod_right _ _)
  exact this.symm

theorem one_mod {m A B n : Int} (h : A * B = 1 + n) (hn : m ∣ n) (E : Int) (h2 : m ∣ A * E) : m ∣ E := by
  obtain ⟨x, hx⟩ := hn
  obtain ⟨y, hy⟩ := h2
  refine ⟨B * y - E * x, ?_⟩
  have : E = B * (A * E) - E * n := by
    have : B * (A * E) = E * (A * B) := by grind
    rw [this, h]; grind
  rw [hy, hx] at this
  rw [this]; grind
/-- the same rim, so a matrix of the group -/
theorem rim_meet {N p q a c x y b d : Int} (hN : 1 ≤ N) (hF : p * y - x * q = 1) (hE : a * d - b * c = 1) (hG : rimG N q = rimG N c) (hL : rimL N p q % rimM N q = rimL N a c % rimM N c) :
    ∃ k : Int, 0 ≤ k ∧ k < N ∧ N ∣ c * y - (d + k * c) * q := by
  have hM : rimM N q = rimM N c := by unfold rimM; rw [hG]
  obtain ⟨q1, n1, u1, v1, a1, a2, a3, a4, a5⟩ := rimG_spec N q hN
  obtain ⟨c1, n1', u2, v2, b1, b2, b3, b4, b5⟩ := rimG_spec N c hN
  obtain ⟨g2, n2, u3, v3, c3, c4, c5⟩ := rimM_spec N q n1 hN a5
  rw [← hG] at b1 b2 b4 b5
  have hnn : n1' = n1 := by rw [← a5, ← b5]
  subst hnn
  rw [← hM] at hL
  have hp := rimG_pos q hN
  have hL1 : rimL N p q = p * q1 := by unfold rimL; rw [a4]
  have hL2 : rimL N a c = a * c1 := by unfold rimL; rw [← hG, b4]
  rw [hL1, hL2] at hL
  have hd : rimM N q ∣ a * c1 - p * q1 := Int.dvd_of_emod_eq_zero (Int.emod_eq_emod_iff_emod_sub_eq_zero.mp hL.symm)
  generalize rimG N q = G at *
  generalize rimM N q = m at *
  have dq : m ∣ q := ⟨g2 * q1, by rw [a1, c3]; grind⟩
  have dc : m ∣ c := ⟨g2 * c1, by rw [b1, c3]; grind⟩
  have hmE : m ∣ c1 * y - d * q1 := by
    refine one_mod (A := a * p) (B := y * d) (n := x * q + b * c + x * q * (b * c)) ?_ ?_ _ ?_
    · have e1 : p * y = 1 + x * q := by omega
      have e2 : a * d = 1 + b * c := by omega
      have : a * p * (y * d) = (p * y) * (a * d) := by grind
      rw [this, e1, e2]; grind
    · exact Int.dvd_add (Int.dvd_add (Int.dvd_mul_of_dvd_right dq) (Int.dvd_mul_of_dvd_right dc)) (Int.dvd_mul_of_dvd_left (Int.dvd_mul_of_dvd_right dq))
    · have e1 : p * y = 1 + x * q := by omega
      have e2 : a * d = 1 + b * c := by omega
      have : a * p * (c1 * y - d * q1) = (a * c1 - p * q1) + (a * c1 * x) * q - (p * q1 * b) * c := by
        have : a * p * (c1 * y - d * q1) = a * c1 * (p * y) - p * q1 * (a * d) := by grind
        rw [this, e1, e2]; grind
      rw [this]
      exact Int.dvd_sub (Int.dvd_add hd (Int.dvd_mul_of_dvd_right dq)) (Int.dvd_mul_of_dvd_right dc)
  obtain ⟨e0, he0⟩ := hmE
  -- the number of steps
  have hk0 : N ∣ c * y - (d + e0 * u3 * u1 * u2 * c) * q := by
    have h1 : n1' ∣ (c1 * y - d * q1) - e0 * u3 * u1 * u2 * G * c1 * q1 := by
      rw [he0]
      have e1 : u1 * q1 = 1 - v1 * n1' := by omega
      have e2 : u2 * c1 = 1 - v2 * n1' := by omega
      have e3 : u3 * G = m - v3 * n1' := by omega
      have : m * e0 - e0 * u3 * u1 * u2 * G * c1 * q1 = m * e0 - e0 * (u3 * G) * (u1 * q1) * (u2 * c1) := by grind
      rw [this, e1, e2, e3]
      refine ⟨e0 * (m * (v1 + v2 - v1 * v2 * n1') + v3 * (1 - v1 * n1') * (1 - v2 * n1')), ?_⟩
      grind
    obtain ⟨w, hw⟩ := h1
    refine ⟨w, ?_⟩
    have : c * y - (d + e0 * u3 * u1 * u2 * c) * q = G * ((c1 * y - d * q1) - e0 * u3 * u1 * u2 * G * c1 * q1) := by
      rw [a1, b1]; grind
    rw [this, hw]
    conv => rhs; rw [a2]
    grind
  refine ⟨(e0 * u3 * u1 * u2) % N, Int.emod_nonneg _ (by omega), Int.emod_lt_of_pos _ (by omega), ?_⟩
  have e := Int.mul_ediv_add_emod (e0 * u3 * u1 * u2) N
  generalize e0 * u3 * u1 * u2 = k at *
  generalize k % N = r at *
  obtain ⟨w, hw⟩ := hk0
  refine ⟨w + (k / N) * c * q, ?_⟩
  generalize k / N = s at *
  rw [← e] at hw
  grind
/-! ### there is such a number -/
def srch (g m : Nat) : Nat → Nat → Bool
  | 0, _ => false
  | k + 1, t => Nat.gcd t g == 1 || srch g m k (t + m)
theorem srch_of {g m : Nat} : ∀ {k t : Nat}, srch g m k t = true → ∃ j, j < k ∧ Nat.gcd (t + j * m) g = 1
  | 0, _, h => by cases h
  | k + 1, t, h => by
    unfold srch at h
    rw [Bool.or_eq_true] at h
    rcases h with h | h
    · exact ⟨0, by omega, by simpa using h⟩
    · obtain ⟨j, hj, e⟩ := srch_of h
      refine ⟨j + 1, by omega, ?_⟩
      have : t + (j + 1) * m = t + m + j * m := by rw [Nat.succ_mul]; omega
      rw [this]; exact e
def allS : Bool := (List.range 101).all fun g => (List.range 11).all fun m => (List.range m).all fun r => g == 0 || !(g % m == 0) || !(Nat.gcd r m == 1) || srch g m g r
theorem allS_ok : allS = true := by decide +kernel
theorem lst_nat {g m r : Nat} (hg : 1 ≤ g) (hg2 : g ≤ 100) (hm2 : m ≤ 10) (hd : m ∣ g) (hr : r < m) (hc : Nat.gcd r m = 1) : ∃ j, j < g ∧ Nat.gcd (r + j * m) g = 1 := by
  have h := allS_ok
  unfold allS at h
  rw [List.all_eq_true] at h
  have h := h g (List.mem_range.mpr (by omega))
  rw [List.all_eq_true] at h
  have h := h m (List.mem_range.mpr (by omega))
  rw [List.all_eq_true] at h
  have h := h r (List.mem_range.mpr hr)
  have h1 : (g == 0) = false := by simp; omega
  have h2 : (g % m == 0) = true := by simpa using Nat.mod_eq_zero_of_dvd hd
  have h3 : (Nat.gcd r m == 1) = true := by simpa using hc
  rw [h1, h2, h3] at h
  exact srch_of (by simpa using h)

theorem gcd_of_mix {a b U V : Int} (h : U * a + V * b = 1) : Int.gcd a b = 1 := by
  have h1 : (Int.gcd a b : Int) ∣ 1 := by
    rw [← h]
    exact Int.dvd_add (Int.dvd_mul_of_dvd_right (Int.gcd_dvd_left a b)) (Int.dvd_mul_of_dvd_right (Int.gcd_dvd_right a b))
  have := Int.eq_one_of_dvd_one (by omega) h1
  omega
theorem least_nat (P : Nat → Prop) : ∀ n, P n → ∃ n, P n ∧ ∀ m, m < n → ¬ P m := fun n => by
  induction n using Nat.strongRecOn with
  | ind n ih =>
    intro h
    by_cases e : ∃ m, m < n ∧ P m
    · obtain ⟨m, hm, hP⟩ := e
      exact ih m hm hP
    · exact ⟨n, h, fun m hm hP => e ⟨m, hm, hP⟩⟩
theorem rim_ex {N p q : Int} (h1 : 1 ≤ N) (h2 : N ≤ 100) (hF : Int.gcd p q = 1) : ∃ t, Rim N p q t ∧ t ≤ rimG N q * rimM N q := by
  obtain ⟨q1, n1, u1, v1, a1, a2, a3, a4, a5⟩ := rimG_spec N q h1
  obtain ⟨g2, n2, u3, v3, c3, c4, c5⟩ := rimM_spec N q n1 h1 a5
  have gp := rimG_pos q h1
  have gl := rimG_le q h1
  have mp := rimM_pos q h1
  obtain ⟨u, v, e⟩ := bezI p q
  rw [hF] at e
  have hL : rimL N p q = p * q1 := by unfold rimL; rw [a4]
  have hc : Int.gcd (rimL N p q) (rimM N q) = 1 := by
    rw [hL]
    have e2 : (u * p + v * q) * (u1 * q1 + v1 * n1) = 1 := by rw [e, a3]; rfl
    refine gcd_of_mix (U := u * u1) (V := u * p * v1 * n2 + v * (g2 * q1) * (u1 * q1 + v1 * n1)) ?_
    generalize rimG N q = G at *
    generalize rimM N q = m at *
    rw [← e2]
    conv => rhs; lhs; rhs; rhs; rw [a1, c3]
    conv => rhs; rw [Int.add_mul]
    conv => rhs; lhs; rw [c4]
    grind
  have hm : rimM N q ≤ 10 := by
    have hNm : N = rimM N q * g2 * (rimM N q * n2) := by rw [← c3, ← c4]; exact a2
    generalize rimG N q = G at *
    generalize rimM N q = m at *
    have g0 : 0 < g2 := by
      rcases ilt 0 g2 with h | h
      · exact h
      · have : m * g2 ≤ m * 0 := Int.mul_le_mul_of_nonneg_left h (by omega)
        omega
    have n0 : 0 < n2 := by
      rcases ilt 0 n2 with h | h
      · exact h
      · have : m * n2 ≤ m * 0 := Int.mul_le_mul_of_nonneg_left h (by omega)
        have : G * n1 ≤ G * 0 := Int.mul_le_mul_of_nonneg_left (by omega) (by omega)
        omega
    rcases ilt 10 m with h | h
    · have x1 : 11 * 1 ≤ m * g2 := Int.mul_le_mul (by omega) (by omega) (by omega) (by omega)
      have x2 : 11 * 1 ≤ m * n2 := Int.mul_le_mul (by omega) (by omega) (by omega) (by omega)
      have x3 : 11 * 11 ≤ m * g2 * (m * n2) := Int.mul_le_mul (by omega) (by omega) (by omega) (by omega)
      omega
    · exact h
  have hd : rimM N q ∣ rimG N q := ⟨g2, c3⟩
  unfold Rim
  generalize rimL N p q = L at *
  generalize rimG N q = G at *
  generalize rimM N q = m at *
  obtain ⟨Gn, rfl⟩ := Int.eq_ofNat_of_zero_le (show 0 ≤ G by omega)
  obtain ⟨mn, rfl⟩ := Int.eq_ofNat_of_zero_le (show 0 ≤ m by omega)
  obtain ⟨r, hr⟩ := Int.eq_ofNat_of_zero_le (Int.emod_nonneg L (show (mn : Int) ≠ 0 by omega))
  have hrl : r < mn := by have := Int.emod_lt_of_pos L (show (0 : Int) < mn by omega); omega
  have hcr : Nat.gcd r mn = 1 := by
    have := gcd_emodI L mn
    rw [hc, hr] at this
    have h3 : Int.gcd (mn : Int) (r : Int) = Nat.gcd mn r := rfl
    rw [Nat.gcd_comm, ← h3, this]
  obtain ⟨j, hj, e1⟩ := lst_nat (g := Gn) (m := mn) (r := r) (by omega) (by omega) (by omega) (Int.natCast_dvd_natCast.mp hd) hrl hcr
  obtain ⟨t, ⟨t1, t2⟩, t3⟩ := least_nat (fun t => t % mn = r ∧ Nat.gcd t Gn = 1) (r + j * mn) ⟨by rw [Nat.add_mul_mod_self_right, Nat.mod_eq_of_lt hrl], e1⟩
  have tl : t ≤ r + j * mn := by
    rcases Nat.lt_or_ge (r + j * mn) t with h | h
    · exact absurd ⟨by rw [Nat.add_mul_mod_self_right, Nat.mod_eq_of_lt hrl], e1⟩ (t3 _ h)
    · exact h
  refine ⟨t, ⟨by omega, ?_, t2, fun s s0 s1 s2 s3 => ?_⟩, ?_⟩
  · rw [hr, ← t1]; rfl
  · obtain ⟨s, rfl⟩ := Int.eq_ofNat_of_zero_le s0
    refine t3 s (by omega) ⟨?_, s3⟩
    rw [hr] at s2
    have : ((s % mn : Nat) : Int) = (r : Nat) := by rw [← s2]; rfl
    omega
  · have : (j + 1) * mn ≤ Gn * mn := Nat.mul_le_mul_right mn hj
    have e3 : (j + 1) * mn = j * mn + mn := Nat.succ_mul j mn
    have : t ≤ Gn * mn := by omega
    exact_mod_cast this
/-! ### least terms -/
theorem nrm_fr {t b : Int} (h : ¬(t = 0 ∧ b = 0)) : ∃ e : Int, (e = 1 ∨ e = -1) ∧ t = e * (Int.gcd t b : Nat) * (nrm t b).1 ∧ b = e * (Int.gcd t b : Nat) * (nrm t b).2 ∧ IsFr (nrm t b).1 (nrm t b).2 := by
  have gp := gcd_pos h
  obtain ⟨t1, h1⟩ := gcd_dvd1 t b
  obtain ⟨b1, h2⟩ := gcd_dvd2 t b
  obtain ⟨u, v, h3⟩ := bezI t b
  have e0 : u * t1 + v * b1 = 1 := by
    generalize (Int.gcd t b : Int) = g at *
    have : g * (u * t1 + v * b1 - 1) = 0 := by rw [h1, h2] at h3; grind
    have := (Int.mul_eq_zero.mp this).resolve_left (by omega)
    omega
  unfold nrm
  by_cases c : b < 0 ∨ (b = 0 ∧ t < 0)
  · rw [if_pos c]
    have x1 : (-t) / (Int.gcd t b : Int) = -t1 := by
      conv => lhs; lhs; rw [h1]
      rw [← Int.mul_neg, Int.mul_ediv_cancel_left _ (by omega)]
    have x2 : (-b) / (Int.gcd t b : Int) = -b1 := by
      conv => lhs; lhs; rw [h2]
      rw [← Int.mul_neg, Int.mul_ediv_cancel_left _ (by omega)]
    simp only [x1, x2]
    generalize (Int.gcd t b : Int) = g at *
    refine ⟨-1, .inr rfl, by grind, by grind, ?_, gcd_of_mix (U := -u) (V := -v) (by grind), fun z => ?_⟩
    · rcases ilt b1 1 with q | q
      · omega
      · have : g * 1 ≤ g * b1 := Int.mul_le_mul_of_nonneg_left q (by omega)
        omega
    · have z : b1 = 0 := by omega
      subst z
      have hb : b = 0 := by rw [h2]; simp
      have ht : t < 0 := by omega
      have : t1 < 0 := by
        rcases ilt t1 0 with q | q
        · exact q
        · have : g * 0 ≤ g * t1 := Int.mul_le_mul_of_nonneg_left q (by omega)
          omega
      have e1 : u * t1 = 1 := by omega
      have d1 : t1 ∣ 1 := ⟨u, by rw [Int.mul_comm]; exact e1.symm⟩
      have d2 := Nat.dvd_one.mp (Int.natAbs_dvd_natAbs.mpr d1)
      omega
  · rw [if_neg c]
    have x1 : t / (Int.gcd t b : Int) = t1 := by
      conv => lhs; lhs; rw [h1]
      rw [Int.mul_ediv_cancel_left _ (by omega)]
    have x2 : b / (Int.gcd t b : Int) = b1 := by
      conv => lhs; lhs; rw [h2]
      rw [Int.mul_ediv_cancel_left _ (by omega)]
    simp only [x1, x2]
    generalize (Int.gcd t b : Int) = g at *
    refine ⟨1, .inl rfl, by grind, by grind, ?_, gcd_of_mix (U := u) (V := v) (by grind), fun z => ?_⟩
    · rcases ilt b1 0 with q | q
      · have : g * b1 ≤ g * (-1) := Int.mul_le_mul_of_nonneg_left (by omega) (by omega)
        omega
      · exact q
    · subst z
      have hb : b = 0 := by rw [h2]; simp
      have ht : 0 < t := by omega
      have : 0 < t1 := by
        rcases ilt 0 t1 with q | q
        · exact q
        · have : g * t1 ≤ g * 0 := Int.mul_le_mul_of_nonneg_left q (by omega)
          omega
      have e1 : u * t1 = 1 := by omega
      have d1 : t1 ∣ 1 := ⟨u, by rw [Int.mul_comm]; exact e1.symm⟩
      have d2 := Nat.dvd_one.mp (Int.natAbs_dvd_natAbs.mpr d1)
      omega

theorem nrm_sz {t b : Int} (h : ¬(t = 0 ∧ b = 0)) : (nrm t b).1.natAbs ≤ t.natAbs ∧ (nrm t b).2.natAbs ≤ b.natAbs := by
  obtain ⟨e, he, h1, h2, _⟩ := nrm_fr h
  have gp := gcd_pos h
  have key : ∀ x y : Int, x = e * (Int.gcd t b : Nat) * y → y.natAbs ≤ x.natAbs := fun x y hxy => by
    rw [hxy, Int.natAbs_mul, Int.natAbs_mul]
    have e1 : e.natAbs = 1 := by rcases he with z | z <;> rw [z] <;> rfl
    rw [e1, Int.natAbs_natCast, Nat.one_mul]
    exact Nat.le_mul_of_pos_left _ (by omega)
  exact ⟨key _ _ h1, key _ _ h2⟩
theorem nrm_self {p q : Int} (h : IsFr p q) : nrm p q = (p, q) := by
  obtain ⟨h0, h1, h2⟩ := h
  rw [nrm_pos (by omega), h1]
  simp
/-- led by a matrix: the rim stays -/
theorem rim_led {N p q e f g h : Int} (hN : 1 ≤ N) (det : e * h - f * g = 1) (hg : N ∣ g) (h0 : ¬(e * p + f * q = 0 ∧ g * p + h * q = 0)) (hF : IsFr p q) {t t' : Int} (h1 : Rim N p q t) (h2 : Rim N (nrm (e * p + f * q) (g * p + h * q)).1 (nrm (e * p + f * q) (g * p + h * q)).2 t') : t = t' ∧ rimG N q = rimG N (nrm (e * p + f * q) (g * p + h * q)).2 := by
  obtain ⟨s, hs, e1, e2, F⟩ := nrm_fr h0
  have g1 : Int.gcd (e * p + f * q) (g * p + h * q) = 1 := by
    obtain ⟨u, v, e3⟩ := bezI p q
    rw [hF.2.1] at e3
    refine gcd_of_mix (U := u * h - v * g) (V := v * e - u * f) ?_
    have : (u * h - v * g) * (e * p + f * q) + (v * e - u * f) * (g * p + h * q) = (u * p + v * q) * (e * h - f * g) := by grind
    rw [this, e3, det]; rfl
  rw [g1] at e1 e2
  generalize (nrm (e * p + f * q) (g * p + h * q)).1 = a at *
  generalize (nrm (e * p + f * q) (g * p + h * q)).2 = c at *
  have ss : s * s = 1 := by rcases hs with z | z <;> rw [z] <;> rfl
  obtain ⟨r1, r2, r3⟩ := rim_inv (N := N) (p := p) (q := q) (a := a) (c := c) (e := s * e) (f := s * f) (g := s * g) (h := s * h) hN (by
    have : s * e * (s * h) - s * f * (s * g) = (s * s) * (e * h - f * g) := by grind
    rw [this, ss, det]; rfl) (Int.dvd_mul_of_dvd_right hg) (by
    have : s * e * p + s * f * q = s * (e * p + f * q) := by grind
    rw [this, e1]
    have : s * (s * ((1 : Nat) : Int) * a) = (s * s) * a := by grind
    rw [this, ss]; simp) (by
    have : s * g * p + s * h * q = s * (g * p + h * q) := by grind
    rw [this, e2]
    have : s * (s * ((1 : Nat) : Int) * c) = (s * s) * c := by grind
    rw [this, ss]; simp)
  refine ⟨?_, r1⟩
  unfold Rim at h1 h2
  rw [← r1, ← r2] at h2
  rw [← r2] at r3
  exact Lst.uniq h1 h2 r3
theorem rim_exact {N p q a c e f g h : Int} (hN : 1 ≤ N) (det : e * h - f * g = 1) (hg : N ∣ g) (e1 : e * p + f * q = a) (e2 : g * p + h * q = c) {t t' : Int} (h1 : Rim N p q t) (h2 : Rim N a c t') : t = t' ∧ rimG N q = rimG N c := by
  obtain ⟨r1, r2, r3⟩ := rim_inv hN det hg e1 e2
  refine ⟨?_, r1⟩
  unfold Rim at h1 h2
  rw [← r1, ← r2] at h2
  rw [← r2] at r3
  exact Lst.uniq h1 h2 r3
theorem rim_same {N p q a c x y b d : Int} (hN : 1 ≤ N) (hF : p * y - x * q = 1) (hE : a * d - b * c = 1) {t : Int} (h1 : Rim N p q t) (h2 : Rim N a c t) (hG : rimG N q = rimG N c) :
    ∃ k : Int, 0 ≤ k ∧ k < N ∧ N ∣ c * y - (d + k * c) * q := by
  refine rim_meet hN hF hE hG ?_
  have hM : rimM N q = rimM N c := by unfold rimM; rw [hG]
  unfold Rim at h1 h2
  rw [← h1.2.1, hM, ← h2.2.1]
/-! ### the mix of two ints, by turns -/
structure Bz (o1 o2 : Int) (i : Nat) (r0 s0 t0 r1 s1 t1 : Int) : Prop where
  m0 : s0 * o1 + t0 * o2 = r0
  m1 : s1 * o1 + t1 * o2 = r1
  g : Int.gcd r0 r1 = Int.gcd o1 o2
  bs0 : (s0.natAbs : Int) ≤ o2.natAbs + 1
  bt0 : (t0.natAbs : Int) ≤ o1.natAbs + 2 * o2.natAbs + 1
  ss : (s0.natAbs : Int) * r1.natAbs + s1.natAbs * r0.natAbs ≤ o2.natAbs
  ts : (t0.natAbs : Int) * r1.natAbs + t1.natAbs * r0.natAbs ≤ o1.natAbs + 2 * o2.natAbs
  lt : 0 < i → (r1.natAbs : Int) < r0.natAbs ∧ ((0 ≤ r0 ∧ 0 ≤ r1) ∨ (r0 ≤ 0 ∧ r1 ≤ 0)) ∧ (r0.natAbs : Int) * r1.natAbs * 2 ^ (i - 1) ≤ (o2.natAbs : Int) * o2.natAbs
  st : i = 0 → s0 = 1 ∧ t0 = 0 ∧ r0 = o1 ∧ s1 = 0 ∧ t1 = 1 ∧ r1 = o2
theorem Bz.start (o1 o2 : Int) : Bz o1 o2 0 o1 1 0 o2 0 1 where
  m0 := by simp
  m1 := by simp
  g := rfl
  bs0 := by simp; omega
  bt0 := by simp; omega
  ss := by simp
  ts := by simp; omega
  lt := fun h => absurd h (by decide)
  st := fun _ => ⟨rfl, rfl, rfl, rfl, rfl, rfl⟩
/-- floor division: what is left has the sign of the divisor and is nearer to 0 -/
theorem fd_spec (a b : Int) (hb : b ≠ 0) : ((a - a.fdiv b * b).natAbs : Int) < b.natAbs ∧ ((0 ≤ b ∧ 0 ≤ a - a.fdiv b * b) ∨ (b ≤ 0 ∧ a - a.fdiv b * b ≤ 0)) := by
  have e : a - a.fdiv b * b = a.fmod b := by
    have := Int.mul_fdiv_add_fmod a b
    have c := Int.mul_comm b (a.fdiv b)
    omega
  rw [e]
  rcases Int.lt_or_gt_of_ne hb with h | h
  · have h1 : a.fmod b = -((-a) % (-b)) := by
      have := Int.fmod_eq_emod_of_nonneg (-a) (show 0 ≤ -b by omega)
      have h2 : (-a).fmod (-b) = -(a.fmod b) := Int.neg_fmod_neg a b
      omega
    have x1 := Int.emod_nonneg (-a) (show -b ≠ 0 by omega)
    have x2 := Int.emod_lt_of_pos (-a) (show 0 < -b by omega)
    omega
  · have h1 := Int.fmod_eq_emod_of_nonneg a (show 0 ≤ b by omega)
    have x1 := Int.emod_nonneg a hb
    have x2 := Int.emod_lt_of_pos a h
    omega

theorem natAbs_sub_le2 (a t b : Int) : ((a - t * b).natAbs : Int) ≤ a.natAbs + t.natAbs * b.natAbs := by
  have h1 : (a - t * b).natAbs ≤ a.natAbs + (t * b).natAbs := Int.natAbs_sub_le a (t * b)
  rw [Int.natAbs_mul] at h1
  exact_mod_cast h1
/-- one size goes along -/
theorem bz_size {s0 s1 q R0 R1 R2 M : Int} (h1 : 0 ≤ R1) (hR : R0 = q.natAbs * R1 + R2) (h : (s0.natAbs : Int) * R1 + s1.natAbs * R0 ≤ M) : (s1.natAbs : Int) * R2 + ((s0 - q * s1).natAbs : Int) * R1 ≤ M := by
  have a1 := natAbs_sub_le2 s0 q s1
  have a2 : ((s0 - q * s1).natAbs : Int) * R1 ≤ (s0.natAbs + q.natAbs * s1.natAbs) * R1 := Int.mul_le_mul_of_nonneg_right a1 h1
  have a3 : ((s0.natAbs : Int) + q.natAbs * s1.natAbs) * R1 + s1.natAbs * R2 = s0.natAbs * R1 + s1.natAbs * (q.natAbs * R1 + R2) := by grind
  rw [← hR] at a3
  omega
theorem bz_parts {r0 r1 q r2 : Int} (e : r2 = r0 - q * r1) (hs : (0 ≤ r0 ∧ 0 ≤ r1) ∨ (r0 ≤ 0 ∧ r1 ≤ 0)) (hl : (r1.natAbs : Int) < r0.natAbs) (h2 : (r2.natAbs : Int) < r1.natAbs) (hs2 : (0 ≤ r1 ∧ 0 ≤ r2) ∨ (r1 ≤ 0 ∧ r2 ≤ 0)) :
    (r0.natAbs : Int) = q.natAbs * r1.natAbs + r2.natAbs ∧ 1 ≤ (q.natAbs : Int) := by
  have hq : 0 < q := by
    rcases ilt 0 q with h | h
    · exact h
    · rcases hs with ⟨x, y⟩ | ⟨x, y⟩
      · have : q * r1 ≤ 0 * r1 := Int.mul_le_mul_of_nonneg_right h y
        omega
      · have : 0 * r1 ≤ q * r1 := Int.mul_le_mul_of_nonpos_right h y
        omega
  have hn : (q.natAbs : Int) = q := by omega
  rw [hn]
  refine ⟨?_, by omega⟩
  rcases hs with ⟨x, y⟩ | ⟨x, y⟩
  · have e1 : (r1.natAbs : Int) = r1 := by omega
    rw [e1]
    omega
  · have e1 : (r1.natAbs : Int) = -r1 := by omega
    rw [e1, Int.mul_neg]
    omega
theorem Bz.step {o1 o2 : Int} {i : Nat} {r0 s0 t0 r1 s1 t1 : Int} (b : Bz o1 o2 i r0 s0 t0 r1 s1 t1) (h : r1 ≠ 0) :
    Bz o1 o2 (i + 1) r1 s1 t1 (r0 - r0.fdiv r1 * r1) (s0 - r0.fdiv r1 * s1) (t0 - r0.fdiv r1 * t1) := by
  obtain ⟨f1, f2⟩ := fd_spec r0 r1 h
  generalize hq : r0.fdiv r1 = q at *
  generalize he : r0 - q * r1 = r2 at *
  have hg : Int.gcd r1 r2 = Int.gcd o1 o2 := by
    rw [← b.g, ← he]
    apply Nat.dvd_antisymm
    · refine Int.dvd_gcd ?_ (Int.gcd_dvd_left _ _)
      have h1 := Int.gcd_dvd_left r1 (r0 - q * r1)
      have h2 := Int.gcd_dvd_right r1 (r0 - q * r1)
      have := Int.dvd_add h2 (Int.dvd_mul_of_dvd_right (b := q) h1)
      have e2 : r0 - q * r1 + q * r1 = r0 := by omega
      rwa [e2] at this
    · refine Int.dvd_gcd (Int.gcd_dvd_right _ _) ?_
      exact Int.dvd_sub (Int.gcd_dvd_left _ _) (Int.dvd_mul_of_dvd_right (Int.gcd_dvd_right _ _))
  have m2 : (s0 - q * s1) * o1 + (t0 - q * t1) * o2 = r2 := by
    rw [← he, ← b.m0, ← b.m1]; grind
  rcases Nat.eq_zero_or_pos i with hi | hi
  · obtain ⟨z1, z2, z3, z4, z5, z6⟩ := b.st hi
    subst z1 z2 z3 z4 z5 z6 hi
    have e1 : (1 : Int) - q * 0 = 1 := by omega
    have e2 : (0 : Int) - q * 1 = -q := by omega
    rw [e1, e2] at m2 ⊢
    refine ⟨b.m1, m2, hg, by simp; omega, by simp; omega, by simp, ?_, fun _ => ⟨f1, f2, ?_⟩, fun z => by omega⟩
    · have : ((q * r1).natAbs : Int) ≤ r0.natAbs + r2.natAbs := by omega
      rw [Int.natAbs_mul] at this
      have : (q.natAbs : Int) * r1.natAbs ≤ r0.natAbs + r2.natAbs := by exact_mod_cast this
      have e3 : ((-q).natAbs : Int) = q.natAbs := by rw [Int.natAbs_neg]
      have e4 : ((1 : Int).natAbs : Int) = 1 := rfl
      rw [e3, e4, Int.one_mul]
      omega
    · have : (r1.natAbs : Int) * r2.natAbs ≤ r1.natAbs * r1.natAbs := Int.mul_le_mul_of_nonneg_left (by omega) (by omega)
      simpa using this
  · obtain ⟨l1, l2, l3⟩ := b.lt hi
    obtain ⟨p1, p2⟩ := bz_parts he.symm l2 l1 f1 f2
    have r0p : 1 ≤ (r0.natAbs : Int) := by omega
    refine ⟨b.m1, m2, hg, ?_, ?_, bz_size (by omega) p1 b.ss, bz_size (by omega) p1 b.ts, fun _ => ⟨f1, f2, ?_⟩, fun z => by omega⟩
    · have := b.ss
      have x1 : (s1.natAbs : Int) * 1 ≤ s1.natAbs * r0.natAbs := Int.mul_le_mul_of_nonneg_left r0p (by omega)
      have x2 : 0 ≤ (s0.natAbs : Int) * r1.natAbs := Int.mul_nonneg (by omega) (by omega)
      omega
    · have := b.ts
      have x1 : (t1.natAbs : Int) * 1 ≤ t1.natAbs * r0.natAbs := Int.mul_le_mul_of_nonneg_left r0p (by omega)
      have x2 : 0 ≤ (t0.natAbs : Int) * r1.natAbs := Int.mul_nonneg (by omega) (by omega)
      omega
    · refine Int.le_trans ?_ l3
      have e1 : (2 : Int) ^ (i + 1 - 1) = 2 ^ (i - 1) * 2 := by
        rw [← Int.pow_succ]; congr 1; omega
      rw [e1]
      have h2 : 2 * (r2.natAbs : Int) ≤ r0.natAbs := by
        have : 1 * (r1.natAbs : Int) ≤ q.natAbs * r1.natAbs := Int.mul_le_mul_of_nonneg_right p2 (by omega)
        omega
      have P : (0 : Int) ≤ 2 ^ (i - 1) := Int.pow_nonneg (by decide)
      generalize (2 : Int) ^ (i - 1) = w at *
      have x1 : (r1.natAbs : Int) * (2 * r2.natAbs) ≤ r1.natAbs * r0.natAbs := Int.mul_le_mul_of_nonneg_left h2 (by omega)
      have x2 := Int.mul_le_mul_of_nonneg_right x1 P
      have e2 : (r1.natAbs : Int) * r2.natAbs * (w * 2) = r1.natAbs * (2 * r2.natAbs) * w := by grind
      have e3 : (r0.natAbs : Int) * r1.natAbs * w = r1.natAbs * r0.natAbs * w := by grind
      rw [e2, e3]; exact x2
theorem Bz.fin {o1 o2 : Int} {i : Nat} {r0 s0 t0 r1 s1 t1 : Int} (b : Bz o1 o2 i r0 s0 t0 r1 s1 t1) (hi : 0 < i) (h : (o2.natAbs : Int) * o2.natAbs < 2 ^ (i - 1)) : r1 = 0 := by
  obtain ⟨l1, l2, l3⟩ := b.lt hi
  rcases Int.lt_trichotomy (r1.natAbs : Int) 0 with z | z | z
  · omega
  · omega
  · have x : 1 * 1 ≤ (r0.natAbs : Int) * r1.natAbs := Int.mul_le_mul (by omega) (by omega) (by omega) (by omega)
    have P : (0 : Int) ≤ 2 ^ (i - 1) := Int.pow_nonneg (by decide)
    have y : 1 * 2 ^ (i - 1) ≤ (r0.natAbs : Int) * r1.natAbs * 2 ^ (i - 1) := Int.mul_le_mul_of_nonneg_right (by omega) P
    omega
/-- the mix that is told -/
theorem Bz.done {o1 o2 : Int} {i : Nat} {r0 s0 t0 s1 t1 : Int} (b : Bz o1 o2 i r0 s0 t0 0 s1 t1) (hg : Int.gcd o1 o2 = 1) : (s0 * r0) * o1 + (t0 * r0) * o2 = 1 ∧ (s0 * r0).natAbs = s0.natAbs ∧ (t0 * r0).natAbs = t0.natAbs := by
  have h := b.g
  rw [hg, Int.gcd_zero_right] at h
  have e := b.m0
  have r : r0 = 1 ∨ r0 = -1 := by omega
  refine ⟨?_, ?_, ?_⟩
  · have : s0 * r0 * o1 + t0 * r0 * o2 = r0 * (s0 * o1 + t0 * o2) := by grind
    rw [this, e]
    rcases r with z | z <;> rw [z] <;> rfl
  · rcases r with z | z <;> rw [z] <;> simp
  · rcases r with z | z <;> rw [z] <;> simp

theorem bd_of {n : Nat} {x : Int} {m : Int} (h : (x.natAbs : Int) ≤ m) (hm : m < 2 ^ n) : Bd n x := by
  unfold Bd
  have : ((2 ^ n : Nat) : Int) = 2 ^ n := by simp
  omega
theorem bd_nat {n : Nat} {x : Int} (h : Bd n x) : (x.natAbs : Int) < 2 ^ n := by
  unfold Bd at h
  have : ((2 ^ n : Nat) : Int) = 2 ^ n := by simp
  omega
theorem Bz.bds {o1 o2 : Int} {i : Nat} {r0 s0 t0 r1 s1 t1 : Int} (b : Bz o1 o2 i r0 s0 t0 r1 s1 t1) (h1 : Bd 160 o1) (h2 : Bd 160 o2) (h : r1 ≠ 0) : (Bd 330 r0 ∧ Bd 330 s0 ∧ Bd 330 t0) ∧ Bd 330 r1 ∧ Bd 330 s1 ∧ Bd 330 t1 := by
  have x1 := bd_nat h1
  have x2 := bd_nat h2
  have bs := bd_of (n := 330) b.bs0 (by omega)
  have bt := bd_of (n := 330) b.bt0 (by omega)
  rcases Nat.eq_zero_or_pos i with hi | hi
  · obtain ⟨z1, z2, z3, z4, z5, z6⟩ := b.st hi
    subst z1 z2 z3 z4 z5 z6
    exact ⟨⟨h1.mono (by decide), bs, bt⟩, h2.mono (by decide), Bd.lit 330 (by decide +kernel), Bd.lit 330 (by decide +kernel)⟩
  · obtain ⟨l1, l2, l3⟩ := b.lt hi
    have P : (1 : Int) ≤ 2 ^ (i - 1) := by
      have : (0 : Int) < 2 ^ (i - 1) := Int.pow_pos (by decide)
      omega
    have r1p : 1 ≤ (r1.natAbs : Int) := by omega
    have y1 : (r0.natAbs : Int) * 1 ≤ r0.natAbs * r1.natAbs := Int.mul_le_mul_of_nonneg_left r1p (by omega)
    have y2 : (r0.natAbs : Int) * r1.natAbs * 1 ≤ r0.natAbs * r1.natAbs * 2 ^ (i - 1) := Int.mul_le_mul_of_nonneg_left P (by omega)
    have y3 : (o2.natAbs : Int) * o2.natAbs ≤ 2 ^ 160 * 2 ^ 160 := Int.mul_le_mul (by omega) (by omega) (by omega) (by omega)
    have r0p : 1 ≤ (r0.natAbs : Int) := by omega
    have a1 := b.ss
    have a2 := b.ts
    have z1 : (s1.natAbs : Int) * 1 ≤ s1.natAbs * r0.natAbs := Int.mul_le_mul_of_nonneg_left r0p (by omega)
    have z2 : 0 ≤ (s0.natAbs : Int) * r1.natAbs := Int.mul_nonneg (by omega) (by omega)
    have z3 : (t1.natAbs : Int) * 1 ≤ t1.natAbs * r0.natAbs := Int.mul_le_mul_of_nonneg_left r0p (by omega)
    have z4 : 0 ≤ (t0.natAbs : Int) * r1.natAbs := Int.mul_nonneg (by omega) (by omega)
    have e : (2 : Int) ^ 160 * 2 ^ 160 < 2 ^ 330 := by decide +kernel
    exact ⟨⟨bd_of (m := 2 ^ 160 * 2 ^ 160) (by omega) e, bs, bt⟩, bd_of (m := 2 ^ 160 * 2 ^ 160) (by omega) e, bd_of (m := o2.natAbs) (by omega) (by omega), bd_of (m := o1.natAbs + 2 * o2.natAbs) (by omega) (by omega)⟩
theorem fdiv_bd {a b : Int} (hb : b ≠ 0) (h1 : Bd 330 a) (h2 : Bd 330 b) : Bd 335 (a.fdiv b) := by
  obtain ⟨f1, _⟩ := fd_spec a b hb
  have x1 := bd_nat h1
  have x2 := bd_nat h2
  have e : ((a.fdiv b * b).natAbs : Int) ≤ a.natAbs + b.natAbs := by omega
  rw [Int.natAbs_mul] at e
  have e : ((a.fdiv b).natAbs : Int) * b.natAbs ≤ a.natAbs + b.natAbs := by exact_mod_cast e
  have : ((a.fdiv b).natAbs : Int) * 1 ≤ (a.fdiv b).natAbs * b.natAbs := Int.mul_le_mul_of_nonneg_left (by omega) (by omega)
  exact bd_of (m := a.natAbs + b.natAbs) (by omega) (by omega)
theorem Bz.bdr {o1 o2 : Int} {i : Nat} {r0 s0 t0 s1 t1 : Int} (b : Bz o1 o2 i r0 s0 t0 0 s1 t1) (h1 : Bd 160 o1) (h2 : Bd 160 o2) : Bd 160 r0 ∧ Bd 170 s0 ∧ Bd 170 t0 := by
  have x1 := bd_nat h1
  have x2 := bd_nat h2
  refine ⟨?_, bd_of (n := 170) b.bs0 (by omega), bd_of (n := 170) b.bt0 (by omega)⟩
  have h := b.g
  rw [Int.gcd_zero_right] at h
  by_cases z : o1 = 0 ∧ o2 = 0
  · obtain ⟨z1, z2⟩ := z
    subst z1 z2
    have : r0 = 0 := by simp at h; omega
    subst this
    exact h1
  · have := gcd_bd z h1 h2
    unfold Bd at this ⊢
    rw [Int.natAbs_natCast, ← h] at this
    exact this
end Pf

set_option Elab.async false
set_option linter.all false
set_option maxRecDepth 100000
set_option maxHeartbeats 4000000
/-! The equations, one by one; loops by their invariants. -/
namespace Ax
open PySem PySem.Spec PyProof.Rows L2 Lv
theorem wpE_v (Φ : Ph) (i : Nat) (es : List Sl) (Ψ : Dt → List Sl → Prop) : wpE Φ (.v i) es Ψ = (fzAt es i fun d => Ψ d es) := rfl
theorem wpE_gi (Φ : Ph) (u0 : Str) (n : Int) (es : List Sl) (Ψ : Dt → List Sl → Prop) : wpE Φ (.gi u0 n) es Ψ = (Ψ (.int n) es) := rfl
theorem wpE_int (Φ : Ph) (i : Int) (es : List Sl) (Ψ : Dt → List Sl → Prop) : wpE Φ (.int i) es Ψ = (Ψ (.int i) es) := rfl
theorem wpE_bool (Φ : Ph) (b : Bool) (es : List Sl) (Ψ : Dt → List Sl → Prop) : wpE Φ (.bool b) es Ψ = (Ψ (.bool b) es) := rfl
theorem wpE_non (Φ : Ph)  (es : List Sl) (Ψ : Dt → List Sl → Prop) : wpE Φ (.non) es Ψ = (Ψ .none es) := rfl
theorem wpE_str (Φ : Ph) (x : Str) (es : List Sl) (Ψ : Dt → List Sl → Prop) : wpE Φ (.str x) es Ψ = (Ψ (.str x) es) := rfl
theorem wpE_bin (Φ : Ph) (o : Bo) (a : E) (b : E) (es : List Sl) (Ψ : Dt → List Sl → Prop) : wpE Φ (.bin o a b) es Ψ = (wpE Φ a es fun d es1 => wpE Φ b es1 fun d2 es2 => binW o d d2 fun r => Ψ r es2) := rfl
theorem wpE_neg (Φ : Ph) (a : E) (es : List Sl) (Ψ : Dt → List Sl → Prop) : wpE Φ (.neg a) es Ψ = (wpE Φ a es fun d es1 => negW d fun r => Ψ r es1) := rfl
theorem wpE_cmp (Φ : Ph) (o : Cm) (a : E) (b : E) (es : List Sl) (Ψ : Dt → List Sl → Prop) : wpE Φ (.cmp o a b) es Ψ = (wpE Φ a es fun d es1 => wpE Φ b es1 fun d2 es2 => cmpW o d d2 fun r => Ψ r es2) := rfl
theorem wpE_eq (Φ : Ph) (a : E) (b : E) (es : List Sl) (Ψ : Dt → List Sl → Prop) : wpE Φ (.eq a b) es Ψ = (wpE Φ a es fun d es1 => wpE Φ b es1 fun d2 es2 => (shD d ∧ shD d2) ∧ Ψ (.bool (eqD d d2)) es2) := rfl
theorem wpE_ne (Φ : Ph) (a : E) (b : E) (es : List Sl) (Ψ : Dt → List Sl → Prop) : wpE Φ (.ne a b) es Ψ = (wpE Φ a es fun d es1 => wpE Φ b es1 fun d2 es2 => (shD d ∧ shD d2) ∧ Ψ (.bool (!eqD d d2)) es2) := rfl
theorem wpE_isn (Φ : Ph) (a : E) (es : List Sl) (Ψ : Dt → List Sl → Prop) : wpE Φ (.isn a) es Ψ = (wpE Φ a es fun d es1 => Ψ (.bool (isN d)) es1) := rfl
theorem wpE_isnt (Φ : Ph) (a : E) (es : List Sl) (Ψ : Dt → List Sl → Prop) : wpE Φ (.isnt a) es Ψ = (wpE Φ a es fun d es1 => Ψ (.bool (!isN d)) es1) := rfl
theorem wpE_chain3 (Φ : Ph) (o p q : Cm) (a b c d : E) (es : List Sl) (Ψ : Dt → List Sl → Prop) : wpE Φ (.chain3 o p q a b c d) es Ψ = (wpE Φ a es fun x es1 => wpE Φ b es1 fun y es2 => intW x fun i => intW y fun j => (o.f i j = true → wpE Φ c es2 fun z es3 => intW z fun k => (p.f j k = true → wpE Φ d es3 fun u es4 => intW u fun l => Ψ (.bool (q.f k l)) es4) ∧ (p.f j k = false → Ψ (.bool false) es3)) ∧ (o.f i j = false → Ψ (.bool false) es2)) := rfl
theorem wpT_chain3 (Φ : Ph) (o p q : Cm) (a b c d : E) (es : List Sl) (Θ : Bool → List Sl → Prop) : wpT Φ (.chain3 o p q a b c d) es Θ = (wpE Φ a es fun x es1 => wpE Φ b es1 fun y es2 => intW x fun i => intW y fun j => (o.f i j = true → wpE Φ c es2 fun z es3 => intW z fun k => (p.f j k = true → wpE Φ d es3 fun u es4 => intW u fun l => Θ (q.f k l) es4) ∧ (p.f j k = false → Θ false es3)) ∧ (o.f i j = false → Θ false es2)) := rfl
theorem wpE_chain (Φ : Ph) (o : Cm) (p : Cm) (a : E) (b : E) (c : E) (es : List Sl) (Ψ : Dt → List Sl → Prop) : wpE Φ (.chain o p a b c) es Ψ = (wpE Φ a es fun d es1 => wpE Φ b es1 fun d2 es2 => intW d fun i => intW d2 fun j => (o.f i j = true → wpE Φ c es2 fun d3 es3 => intW d3 fun k => Ψ (.bool (p.f j k)) es3) ∧ (o.f i j = false → Ψ (.bool false) es2)) := rfl
theorem wpE_and (Φ : Ph) (a : E) (b : E) (es : List Sl) (Ψ : Dt → List Sl → Prop) : wpE Φ (.and a b) es Ψ = (wpE Φ a es fun d es1 => boolW d fun p => (p = true → wpE Φ b es1 Ψ) ∧ (p = false → Ψ (.bool false) es1)) := rfl
theorem wpE_or (Φ : Ph) (a : E) (b : E) (es : List Sl) (Ψ : Dt → List Sl → Prop) : wpE Φ (.or a b) es Ψ = (wpE Φ a es fun d es1 => boolW d fun p => (p = true → Ψ (.bool true) es1) ∧ (p = false → wpE Φ b es1 Ψ)) := rfl
theorem wpE_not (Φ : Ph) (a : E) (es : List Sl) (Ψ : Dt → List Sl → Prop) : wpE Φ (.not a) es Ψ = (wpE Φ a es fun d es1 => boolW d fun p => Ψ (.bool (!p)) es1) := rfl
theorem wpE_ife (Φ : Ph) (c : E) (a : E) (b : E) (es : List Sl) (Ψ : Dt → List Sl → Prop) : wpE Φ (.ife c a b) es Ψ = (wpT Φ c es fun p es1 => (p = true → wpE Φ a es1 Ψ) ∧ (p = false → wpE Φ b es1 Ψ)) := rfl
theorem wpE_tup (Φ : Ph) (as : E) (es : List Sl) (Ψ : Dt → List Sl → Prop) : wpE Φ (.tup as) es Ψ = (wpA Φ as es fun ds es1 => ds.length ≤ 100000 ∧ Ψ (.tuple ds) es1) := rfl
theorem wpE_lst (Φ : Ph) (as : E) (es : List Sl) (Ψ : Dt → List Sl → Prop) : wpE Φ (.lst as) es Ψ = (wpA Φ as es fun ds es1 => ds.length ≤ 100000 ∧ Ψ (.list ds) es1) := rfl
theorem wpE_dnew (Φ : Ph)  (es : List Sl) (Ψ : Dt → List Sl → Prop) : wpE Φ (.dnew) es Ψ = (Ψ (.dK [] []) es) := rfl
theorem wpE_call (Φ : Ph) (f : Nat) (as : E) (es : List Sl) (Ψ : Dt → List Sl → Prop) : wpE Φ (.call f as) es Ψ = (wpA Φ as es fun ds es1 => Φ.r f ds (fun d => Ψ d es1) fun z => Φ.κ z es1) := rfl
theorem wpE_callo (Φ : Ph) (f : Nat) (i : Nat) (as : E) (es : List Sl) (Ψ : Dt → List Sl → Prop) : wpE Φ (.callo f i as) es Ψ = ((∃ b ds, es[i]? = some (.own b (.l ds))) ∧ wpA Φ as es fun rest es1 => owAt es1 i fun b ds => Φ.o f ds rest (fun d ds' => Ψ d (es1.set i (.own b (.l ds')))) fun z ds' => Φ.κ z (es1.set i (.own b (.l ds')))) := rfl
theorem wpE_b1 (Φ : Ph) (k : B1) (a : E) (es : List Sl) (Ψ : Dt → List Sl → Prop) : wpE Φ (.b1 k a) es Ψ = (wpE Φ a es fun d es1 => b1W k d fun r => Ψ r es1) := rfl
theorem wpE_b2 (Φ : Ph) (k : B2) (a : E) (b : E) (es : List Sl) (Ψ : Dt → List Sl → Prop) : wpE Φ (.b2 k a b) es Ψ = (wpE Φ a es fun d es1 => wpE Φ b es1 fun d2 es2 => b2W k d d2 fun r => Ψ r es2) := rfl
theorem wpE_isi (Φ : Ph) (t : Ty) (a : E) (es : List Sl) (Ψ : Dt → List Sl → Prop) : wpE Φ (.isi t a) es Ψ = (wpE Φ a es fun d es1 => ∃ b, isiD t d = some b ∧ Ψ (.bool b) es1) := rfl
theorem wpE_ix (Φ : Ph) (a : E) (b : E) (es : List Sl) (Ψ : Dt → List Sl → Prop) : wpE Φ (.ix a b) es Ψ = (wpE Φ a es fun d es1 => wpE Φ b es1 fun d2 es2 => ixW d d2 fun r => Ψ r es2) := rfl
theorem wpE_ixo (Φ : Ph) (i : Nat) (b : E) (es : List Sl) (Ψ : Dt → List Sl → Prop) : wpE Φ (.ixo i b) es Ψ = ((∃ b ds, es[i]? = some (.own b (.l ds))) ∧ wpE Φ b es fun d2 es2 => owAt es2 i fun _ ds => intW d2 fun n => ∃ x, atI ds n = some x ∧ Ψ x es2) := rfl
theorem wpE_sl (Φ : Ph) (a : E) (lo : E) (hi : E) (es : List Sl) (Ψ : Dt → List Sl → Prop) : wpE Φ (.sl a lo hi) es Ψ = (wpE Φ a es fun d es1 => ∃ xs, d = .list xs ∧ ∃ l u, wpO Φ lo es1 (fun o e => o = l ∧ e = es1) ∧ wpO Φ hi es1 (fun o e => o = u ∧ e = es1) ∧ Ψ (.list (cutD xs l u)) es1) := rfl
theorem wpE_slt (Φ : Ph) (a lo hi : E) (es : List Sl) (Ψ : Dt → List Sl → Prop) : wpE Φ (.slt a lo hi) es Ψ = (wpE Φ a es fun d es1 => ∃ xs, d = .tuple xs ∧ ∃ l u, wpO Φ lo es1 (fun o e => o = l ∧ e = es1) ∧ wpO Φ hi es1 (fun o e => o = u ∧ e = es1) ∧ ¬(HT.sIx xs.length 0 l = 0 ∧ HT.sIx xs.length xs.length u = xs.length) ∧ Ψ (.tuple (cutD xs l u)) es1) := rfl
theorem wpE_inn (Φ : Ph) (a : E) (b : E) (es : List Sl) (Ψ : Dt → List Sl → Prop) : wpE Φ (.inn a b) es Ψ = (wpE Φ a es fun d es1 => wpE Φ b es1 fun d2 es2 => innW d d2 fun r => Ψ r es2) := rfl
theorem wpE_lc (Φ : Ph) (vs : List Nat) (tg : E) (it : E) (c : E) (e : E) (es : List Sl) (Ψ : Dt → List Sl → Prop) : wpE Φ (.lc vs tg it c e) es Ψ = (wpI Φ it es fun xs es1 => noOwB es1 vs = true ∧ xs.length ≤ 100000 ∧ runC (lcBody Φ vs tg c e) xs [] (wipeE es1 vs) fun acc es2 => Ψ (.list acc) (mrg vs 0 es2 es1)) := rfl
theorem wpA_nil (Φ : Ph)  (es : List Sl) (Λ : List Dt → List Sl → Prop) : wpA Φ (.nil) es Λ = (Λ [] es) := rfl
theorem wpA_cons (Φ : Ph) (a : E) (as : E) (es : List Sl) (Λ : List Dt → List Sl → Prop) : wpA Φ (.cons a as) es Λ = (wpE Φ a es fun d es1 => wpA Φ as es1 fun ds es2 => Λ (d :: ds) es2) := rfl
theorem wpT_nil (Φ : Ph)  (es : List Sl) (Θ : Bool → List Sl → Prop) : wpT Φ (.nil) es Θ = (Θ true es) := rfl
theorem wpT_cmp (Φ : Ph) (o : Cm) (a : E) (b : E) (es : List Sl) (Θ : Bool → List Sl → Prop) : wpT Φ (.cmp o a b) es Θ = (wpE Φ a es fun d es1 => wpE Φ b es1 fun d2 es2 => intW d fun i => intW d2 fun j => Θ (o.f i j) es2) := rfl
theorem wpT_eq (Φ : Ph) (a : E) (b : E) (es : List Sl) (Θ : Bool → List Sl → Prop) : wpT Φ (.eq a b) es Θ = (wpE Φ a es fun d es1 => wpE Φ b es1 fun d2 es2 => (shD d ∧ shD d2) ∧ Θ (eqD d d2) es2) := rfl
theorem wpT_ne (Φ : Ph) (a : E) (b : E) (es : List Sl) (Θ : Bool → List Sl → Prop) : wpT Φ (.ne a b) es Θ = (wpE Φ a es fun d es1 => wpE Φ b es1 fun d2 es2 => (shD d ∧ shD d2) ∧ Θ (!eqD d d2) es2) := rfl
theorem wpT_isn (Φ : Ph) (a : E) (es : List Sl) (Θ : Bool → List Sl → Prop) : wpT Φ (.isn a) es Θ = (wpE Φ a es fun d es1 => Θ (isN d) es1) := rfl
theorem wpT_isnt (Φ : Ph) (a : E) (es : List Sl) (Θ : Bool → List Sl → Prop) : wpT Φ (.isnt a) es Θ = (wpE Φ a es fun d es1 => Θ (!isN d) es1) := rfl
theorem wpT_chain (Φ : Ph) (o : Cm) (p : Cm) (a : E) (b : E) (c : E) (es : List Sl) (Θ : Bool → List Sl → Prop) : wpT Φ (.chain o p a b c) es Θ = (wpE Φ a es fun d es1 => wpE Φ b es1 fun d2 es2 => intW d fun i => intW d2 fun j => (o.f i j = true → wpE Φ c es2 fun d3 es3 => intW d3 fun k => Θ (p.f j k) es3) ∧ (o.f i j = false → Θ false es2)) := rfl
theorem wpT_and (Φ : Ph) (a : E) (b : E) (es : List Sl) (Θ : Bool → List Sl → Prop) : wpT Φ (.and a b) es Θ = (wpT Φ a es fun p es1 => (p = true → wpT Φ b es1 Θ) ∧ (p = false → Θ false es1)) := rfl
theorem wpT_or (Φ : Ph) (a : E) (b : E) (es : List Sl) (Θ : Bool → List Sl → Prop) : wpT Φ (.or a b) es Θ = (wpT Φ a es fun p es1 => (p = true → Θ true es1) ∧ (p = false → wpT Φ b es1 Θ)) := rfl
theorem wpT_not (Φ : Ph) (a : E) (es : List Sl) (Θ : Bool → List Sl → Prop) : wpT Φ (.not a) es Θ = (wpT Φ a es fun p es1 => Θ (!p) es1) := rfl
theorem wpT_inn (Φ : Ph) (a : E) (b : E) (es : List Sl) (Θ : Bool → List Sl → Prop) : wpT Φ (.inn a b) es Θ = (wpE Φ a es fun d es1 => wpE Φ b es1 fun d2 es2 => intW d fun i => seqW d2 fun xs => ∃ ns : List Int, xs = ns.map Dt.int ∧ Θ (ns.any fun n => n == i) es2) := rfl
theorem wpT_call (Φ : Ph) (f : Nat) (as : E) (es : List Sl) (Θ : Bool → List Sl → Prop) : wpT Φ (.call f as) es Θ = (wpA Φ as es fun ds es1 => Φ.r f ds (fun d => truW d fun p => Θ p es1) fun z => Φ.κ z es1) := rfl
theorem wpT_callo (Φ : Ph) (f : Nat) (i : Nat) (as : E) (es : List Sl) (Θ : Bool → List Sl → Prop) : wpT Φ (.callo f i as) es Θ = ((∃ b ds, es[i]? = some (.own b (.l ds))) ∧ wpA Φ as es fun rest es1 => owAt es1 i fun b ds => Φ.o f ds rest (fun d ds' => truW d fun p => Θ p (es1.set i (.own b (.l ds')))) fun z ds' => Φ.κ z (es1.set i (.own b (.l ds')))) := rfl
theorem wpT_v (Φ : Ph) (i : Nat) (es : List Sl) (Θ : Bool → List Sl → Prop) : wpT Φ (.v i) es Θ = (fzAt es i fun d => truW d fun p => Θ p es) := rfl
theorem wpT_b1 (Φ : Ph) (k : B1) (a : E) (es : List Sl) (Θ : Bool → List Sl → Prop) : wpT Φ (.b1 k a) es Θ = (wpE Φ a es fun d es1 => b1W k d fun r => truW r fun p => Θ p es1) := rfl
theorem wpT_isi (Φ : Ph) (t : Ty) (a : E) (es : List Sl) (Θ : Bool → List Sl → Prop) : wpT Φ (.isi t a) es Θ = (wpE Φ a es fun d es1 => ∃ b, isiD t d = some b ∧ Θ b es1) := rfl
theorem wpT_bin (Φ : Ph) (o : Bo) (a : E) (b : E) (es : List Sl) (Θ : Bool → List Sl → Prop) : wpT Φ (.bin o a b) es Θ = (wpE Φ a es fun d es1 => wpE Φ b es1 fun d2 es2 => binW o d d2 fun r => truW r fun p => Θ p es2) := rfl
theorem wpO_nil (Φ : Ph)  (es : List Sl) (k : Option Int → List Sl → Prop) : wpO Φ (.nil) es k = (k none es) := rfl
theorem wpO_v (Φ : Ph) (i : Nat) (es : List Sl) (k : Option Int → List Sl → Prop) : wpO Φ (.v i) es k = (fzAt es i fun d => intW d fun n => k (some n) es) := rfl
theorem wpO_int (Φ : Ph) (n : Int) (es : List Sl) (k : Option Int → List Sl → Prop) : wpO Φ (.int n) es k = (k (some n) es) := rfl
theorem wpO_neg (Φ : Ph) (a : E) (es : List Sl) (k : Option Int → List Sl → Prop) : wpO Φ (.neg a) es k = (wpE Φ a es fun d es1 => negW d fun r => intW r fun n => k (some n) es1) := rfl
theorem wpO_bin (Φ : Ph) (o : Bo) (a : E) (b : E) (es : List Sl) (k : Option Int → List Sl → Prop) : wpO Φ (.bin o a b) es k = (wpE Φ a es fun d es1 => wpE Φ b es1 fun d2 es2 => binW o d d2 fun r => intW r fun n => k (some n) es2) := rfl
theorem wpI_range1 (Φ : Ph) (a : E) (es : List Sl) (Λ : List Dt → List Sl → Prop) : wpI Φ (.range1 a) es Λ = (wpE Φ a es fun d es1 => intW d fun n => (n < 2 ^ 62 ∧ -(2 ^ 62) ≤ n) ∧ Λ (rng 0 n.toNat) es1) := rfl
theorem wpI_range2 (Φ : Ph) (a : E) (b : E) (es : List Sl) (Λ : List Dt → List Sl → Prop) : wpI Φ (.range2 a b) es Λ = (wpE Φ a es fun d es1 => intW d fun lo => wpE Φ b es1 fun d2 es2 => intW d2 fun n => (-(2 ^ 62) ≤ lo ∧ lo < 2 ^ 62 ∧ -(2 ^ 62) ≤ n ∧ n < 2 ^ 62) ∧ Λ (rng lo (n - lo).toNat) es2) := rfl
theorem wpI_zip (Φ : Ph) (a : E) (b : E) (es : List Sl) (Λ : List Dt → List Sl → Prop) : wpI Φ (.zip a b) es Λ = (wpE Φ a es fun d es1 => wpE Φ b es1 fun d2 es2 => ∃ xs ys, ((d = .list xs ∧ d2 = .list ys) ∨ (d = .tuple xs ∧ d2 = .tuple ys)) ∧ Λ (zips xs ys) es2) := rfl
theorem wpI_enum (Φ : Ph) (a : E) (es : List Sl) (Λ : List Dt → List Sl → Prop) : wpI Φ (.enum a) es Λ = (wpE Φ a es fun d es1 => ∃ xs, (d = .list xs ∨ d = .scr xs) ∧ Λ (enums 0 xs) es1) := rfl
theorem wpI_v (Φ : Ph) (i : Nat) (es : List Sl) (Λ : List Dt → List Sl → Prop) : wpI Φ (.v i) es Λ = (fzAt es i fun d => seqW d fun xs => Λ xs es) := rfl
theorem wpI_callo (Φ : Ph) (f i : Nat) (as : E) (es : List Sl) (Λ : List Dt → List Sl → Prop) : wpI Φ (.callo f i as) es Λ = ((∃ b ds, es[i]? = some (.own b (.l ds))) ∧ wpA Φ as es fun rest es1 => owAt es1 i fun b ds => Φ.o f ds rest (fun d ds' => seqW d fun xs => Λ xs (es1.set i (.own b (.l ds')))) fun z ds' => Φ.κ z (es1.set i (.own b (.l ds')))) := rfl
theorem wpI_call (Φ : Ph) (f : Nat) (as : E) (es : List Sl) (Λ : List Dt → List Sl → Prop) : wpI Φ (.call f as) es Λ = (wpA Φ as es fun ds es1 => Φ.r f ds (fun d => seqW d fun xs => Λ xs es1) fun z => Φ.κ z es1) := rfl
theorem wpI_tup (Φ : Ph) (as : E) (es : List Sl) (Λ : List Dt → List Sl → Prop) : wpI Φ (.tup as) es Λ = (wpA Φ as es fun ds es1 => ds.length ≤ 100000 ∧ Λ ds es1) := rfl
theorem wpI_lst (Φ : Ph) (as : E) (es : List Sl) (Λ : List Dt → List Sl → Prop) : wpI Φ (.lst as) es Λ = (wpA Φ as es fun ds es1 => ds.length ≤ 100000 ∧ Λ ds es1) := rfl
theorem wpI_b1 (Φ : Ph) (k : B1) (a : E) (es : List Sl) (Λ : List Dt → List Sl → Prop) : wpI Φ (.b1 k a) es Λ = (wpE Φ a es fun d es1 => b1W k d fun r => seqW r fun xs => Λ xs es1) := rfl
theorem wpI_ix (Φ : Ph) (a : E) (b : E) (es : List Sl) (Λ : List Dt → List Sl → Prop) : wpI Φ (.ix a b) es Λ = (wpE Φ a es fun d es1 => wpE Φ b es1 fun d2 es2 => ixW d d2 fun r => seqW r fun xs => Λ xs es2) := rfl
theorem wpI_bin (Φ : Ph) (o : Bo) (a : E) (b : E) (es : List Sl) (Λ : List Dt → List Sl → Prop) : wpI Φ (.bin o a b) es Λ = (wpE Φ a es fun d es1 => wpE Φ b es1 fun d2 es2 => binW o d d2 fun r => seqW r fun xs => Λ xs es2) := rfl
theorem wpI_sl (Φ : Ph) (a : E) (lo : E) (hi : E) (es : List Sl) (Λ : List Dt → List Sl → Prop) : wpI Φ (.sl a lo hi) es Λ = (wpE Φ a es fun d es1 => ∃ xs, d = .list xs ∧ ∃ l u, wpO Φ lo es1 (fun o e => o = l ∧ e = es1) ∧ wpO Φ hi es1 (fun o e => o = u ∧ e = es1) ∧ Λ (cutD xs l u) es1) := rfl
theorem wpL_lst (Φ : Ph) (as : E) (es : List Sl) (Λ : List Dt → List Sl → Prop) : wpL Φ (.lst as) es Λ = (wpA Φ as es fun ds es1 => ds.length ≤ 100000 ∧ Λ ds es1) := rfl
theorem wpL_calll (Φ : Ph) (f : Nat) (as : E) (es : List Sl) (Λ : List Dt → List Sl → Prop) : wpL Φ (.calll f as) es Λ = (wpA Φ as es fun ds es1 => Φ.l f ds (fun d => Λ d es1) fun z => Φ.κ z es1) := rfl
theorem wpL_lc (Φ : Ph) (vs : List Nat) (tg : E) (it : E) (c : E) (e : E) (es : List Sl) (Λ : List Dt → List Sl → Prop) : wpL Φ (.lc vs tg it c e) es Λ = (wpI Φ it es fun xs es1 => noOwB es1 vs = true ∧ xs.length ≤ 100000 ∧ runC (lcBody Φ vs tg c e) xs [] (wipeE es1 vs) fun acc es2 => Λ acc (mrg vs 0 es2 es1)) := rfl
theorem wpB_skip (Φ : Ph)  (es : List Sl) (P : Po) : wpB Φ (.skip) es P = (P.nx es) := rfl
theorem wpB_frz (Φ : Ph) (i : Nat) (r : Ax.S) (es : List Sl) (P : Po) : wpB Φ (.frz i r) es P = (match es[i]? with | some (.own true (.l ds)) => wpB Φ r (es.set i (.fz (.list ds))) P | some (.own true (.dK ks ds)) => wpB Φ r (es.set i (.fz (.dK ks ds))) P | some (.own true (.dT ks ds)) => wpB Φ r (es.set i (.fz (.dT ks ds))) P | _ => wpB Φ r es P) := rfl
theorem wpB_pass (Φ : Ph) (r : Ax.S) (es : List Sl) (P : Po) : wpB Φ (.pass r) es P = (wpB Φ r es P) := rfl
theorem wpB_exp (Φ : Ph) (e : E) (r : Ax.S) (es : List Sl) (P : Po) : wpB Φ (.exp e r) es P = (wpE Φ e es fun _ es1 => wpB Φ r es1 P) := rfl
theorem wpB_set (Φ : Ph) (i : Nat) (e : E) (r : Ax.S) (es : List Sl) (P : Po) : wpB Φ (.set i e r) es P = (wpE Φ e es fun d es1 => wpB Φ r (es1.set i (.fz d)) P) := rfl
theorem wpB_setL (Φ : Ph) (i : Nat) (e : E) (r : Ax.S) (es : List Sl) (P : Po) : wpB Φ (.setL i e r) es P = (wpL Φ e es fun ds es1 => wpB Φ r (es1.set i (.own true (.l ds))) P) := rfl
theorem wpB_asg (Φ : Ph) (tg : E) (e : E) (r : Ax.S) (es : List Sl) (P : Po) : wpB Φ (.asg tg e r) es P = (wpE Φ e es fun d es1 => bindT tg d es1 fun es2 => wpB Φ r es2 P) := rfl
theorem wpB_par (Φ : Ph) (i : Nat) (j : Nat) (a : E) (b : E) (r : Ax.S) (es : List Sl) (P : Po) : wpB Φ (.par i j a b r) es P = (wpE Φ a es fun d es1 => wpE Φ b es1 fun d2 es2 => wpB Φ r ((es2.set i (.fz d)).set j (.fz d2)) P) := rfl
theorem wpB_par3 (Φ : Ph) (i j l : Nat) (a b c : E) (r : Ax.S) (es : List Sl) (P : Po) : wpB Φ (.par3 i j l a b c r) es P = (wpE Φ a es fun d es1 => wpE Φ b es1 fun d2 es2 => wpE Φ c es2 fun d3 es3 => wpB Φ r (((es3.set i (.fz d)).set j (.fz d2)).set l (.fz d3)) P) := rfl
theorem wpB_ret (Φ : Ph) (e : E) (es : List Sl) (P : Po) : wpB Φ (.ret e) es P = (wpE Φ e es P.rt) := rfl
theorem wpB_retN (Φ : Ph)  (es : List Sl) (P : Po) : wpB Φ (.retN) es P = (P.rt .none es) := rfl
theorem wpB_retL (Φ : Ph) (e : E) (es : List Sl) (P : Po) : wpB Φ (.retL e) es P = (wpL Φ e es P.rl) := rfl
theorem wpB_retO (Φ : Ph) (i : Nat) (es : List Sl) (P : Po) : wpB Φ (.retO i) es P = (match es[i]? with | some (.own true (.l ds)) => P.rl ds es | _ => False) := rfl
theorem wpB_ife (Φ : Ph) (c : E) (a : Ax.S) (b : Ax.S) (r : Ax.S) (es : List Sl) (P : Po) : wpB Φ (.ife c a b r) es P = (wpT Φ c es fun p es1 => (p = true → wpB Φ a es1 { P with nx := fun es2 => wpB Φ r es2 P }) ∧ (p = false → wpB Φ b es1 { P with nx := fun es2 => wpB Φ r es2 P })) := rfl
theorem wpB_app (Φ : Ph) (i : Nat) (e : E) (r : Ax.S) (es : List Sl) (P : Po) : wpB Φ (.app i e r) es P = ((∃ b ds, es[i]? = some (.own b (.l ds))) ∧ wpE Φ e es fun d es1 => owAt es1 i fun b ds => ds.length < 100000 ∧ wpB Φ r (es1.set i (.own b (.l (ds ++ [d])))) P) := rfl
theorem wpB_sto (Φ : Ph) (i : Nat) (k : E) (e : E) (r : Ax.S) (es : List Sl) (P : Po) : wpB Φ (.sto i k e r) es P = (owAt es i fun b0 ds0 => wpE Φ e es fun d es1 => es1 = es ∧ wpE Φ k es fun d2 es2 => es2 = es ∧ intW d2 fun n => ∃ j, ixN ds0.length n = some j ∧ wpB Φ r (es.set i (.own b0 (.l (ds0.set j d)))) P) := rfl
theorem wpB_aug (Φ : Ph) (i : Nat) (o : Bo) (e : E) (r : Ax.S) (es : List Sl) (P : Po) : wpB Φ (.aug i o e r) es P = (fzAt es i fun d0 => intW d0 fun k => wpE Φ e es fun d es1 => intW d fun j => augF o k j fun z => wpB Φ r (es1.set i (.fz (.int z))) P) := rfl
theorem wpB_augo (Φ : Ph) (i : Nat) (o : Bo) (k : E) (e : E) (r : Ax.S) (es : List Sl) (P : Po) : wpB Φ (.augo i o k e r) es P = (owAt es i fun b0 ds0 => wpE Φ k es fun d es1 => es1 = es ∧ intW d fun n => 0 ≤ n ∧ ∃ m v, ixN ds0.length n = some m ∧ ds0[m]? = some (.int v) ∧ wpE Φ e es fun d2 es2 => es2 = es ∧ intW d2 fun j => augF o v j fun z => wpB Φ r (es.set i (.own b0 (.l (ds0.set m (.int z))))) P) := rfl
theorem wpB_brk (Φ : Ph)  (es : List Sl) (P : Po) : wpB Φ (.brk) es P = (P.bk es) := rfl
theorem wpB_cont (Φ : Ph)  (es : List Sl) (P : Po) : wpB Φ (.cont) es P = (P.ct es) := rfl
theorem wpE_p1 (Φ : Ph) (k : P1) (a : E) (es : List Sl) (Ψ : Dt → List Sl → Prop) : wpE Φ (.p1 k a) es Ψ = (wpE Φ a es fun d es1 => p1W k d fun r => Ψ r es1) := rfl
theorem wpE_p2 (Φ : Ph) (k : P2) (a b : E) (es : List Sl) (Ψ : Dt → List Sl → Prop) : wpE Φ (.p2 k a b) es Ψ = (wpE Φ a es fun d es1 => p2P k d (wpE Φ b es1 fun d2 es2 => p2W k d d2 fun r => Ψ r es2)) := rfl
theorem wpE_p3g (Φ : Ph) (a b c : E) (es : List Sl) (Ψ : Dt → List Sl → Prop) : wpE Φ (.p3 .dget a b c) es Ψ = (wpE Φ a es fun d es1 => isDt d = true ∧ wpE Φ b es1 fun d2 es2 => wpE Φ c es2 fun d3 es3 => p3W .dget d d2 d3 fun r => Ψ r es3) := rfl
theorem wpE_dino (Φ : Ph) (n : Bool) (i : Nat) (k : E) (es : List Sl) (Ψ : Dt → List Sl → Prop) : wpE Φ (.dino n i k) es Ψ = (ownAt es i fun _ c => wpE Φ k es fun dk es1 => es1 = es ∧ ∃ r, dgetD c.dt dk = some r ∧ Ψ (.bool (if n then !r.isSome else r.isSome)) es1) := rfl
theorem wpE_dgeto (Φ : Ph) (i : Nat) (k x : E) (es : List Sl) (Ψ : Dt → List Sl → Prop) : wpE Φ (.dgeto i k x) es Ψ = (ownAt es i fun _ c => isDt c.dt = true ∧ wpE Φ k es fun dk es1 => wpE Φ x es1 fun dx es2 => es2 = es ∧ ∃ r, dgetD c.dt dk = some r ∧ Ψ (r.getD dx) es2) := rfl
theorem wpE_dvals (Φ : Ph) (i v : Nat) (es : List Sl) (Ψ : Dt → List Sl → Prop) : wpE Φ (.dvals i v) es Ψ = (fzAt es i fun d => valsW d fun ds => noOwB es [v] = true ∧ ds.length ≤ 100000 ∧ Ψ (.list ds) es) := rfl
theorem wpT_p1 (Φ : Ph) (k : P1) (a : E) (es : List Sl) (Θ : Bool → List Sl → Prop) : wpT Φ (.p1 k a) es Θ = (wpE Φ a es fun d es1 => p1W k d fun r => truW r fun p => Θ p es1) := rfl
theorem wpT_p2 (Φ : Ph) (k : P2) (a b : E) (es : List Sl) (Θ : Bool → List Sl → Prop) : wpT Φ (.p2 k a b) es Θ = (wpE Φ a es fun d es1 => p2P k d (wpE Φ b es1 fun d2 es2 => p2W k d d2 fun r => boolW r fun p => Θ p es2)) := rfl
theorem wpT_dino (Φ : Ph) (n : Bool) (i : Nat) (k : E) (es : List Sl) (Θ : Bool → List Sl → Prop) : wpT Φ (.dino n i k) es Θ = (ownAt es i fun _ c => wpE Φ k es fun dk es1 => es1 = es ∧ ∃ r, dgetD c.dt dk = some r ∧ Θ (if n then !r.isSome else r.isSome) es1) := rfl
theorem wpI_p1 (Φ : Ph) (k : P1) (a : E) (es : List Sl) (Λ : List Dt → List Sl → Prop) : wpI Φ (.p1 k a) es Λ = (wpE Φ a es fun d es1 => p1W k d fun r => seqW r fun xs => Λ xs es1) := rfl
theorem wpI_p2 (Φ : Ph) (k : P2) (a b : E) (es : List Sl) (Λ : List Dt → List Sl → Prop) : wpI Φ (.p2 k a b) es Λ = (wpE Φ a es fun d es1 => p2P k d (wpE Φ b es1 fun d2 es2 => p2W k d d2 fun r => seqW r fun xs => Λ xs es2)) := rfl
theorem wpI_dkeys (Φ : Ph) (a : E) (es : List Sl) (Λ : List Dt → List Sl → Prop) : wpI Φ (.dkeys a) es Λ = (wpE Φ a es fun d es1 => dkW d fun ks _ => Λ (ks.map keyD) es1) := rfl
theorem wpI_ditems (Φ : Ph) (a : E) (es : List Sl) (Λ : List Dt → List Sl → Prop) : wpI Φ (.ditems a) es Λ = (wpE Φ a es fun d es1 => dkW d fun ks ds => Λ (pairsD ks ds) es1) := rfl
theorem wpB_dnewK (Φ : Ph) (i : Nat) (r : Ax.S) (es : List Sl) (P : Po) : wpB Φ (.dnew i false r) es P = (wpB Φ r (es.set i (.own true (.dK [] []))) P) := rfl
theorem wpB_dnewT (Φ : Ph) (i : Nat) (r : Ax.S) (es : List Sl) (P : Po) : wpB Φ (.dnew i true r) es P = (wpB Φ r (es.set i (.own true (.dT [] []))) P) := rfl
theorem wpB_dput (Φ : Ph) (i : Nat) (k e : E) (r : Ax.S) (es : List Sl) (P : Po) : wpB Φ (.dput i k e r) es P = (ownAt es i fun b c => ∃ ks ds, c = .dK ks ds ∧ wpE Φ e es fun d es1 => es1 = es ∧ wpE Φ k es fun dk es2 => es2 = es ∧ ∃ kk, keyOf dk = some kk ∧ ks.length < 100000 ∧ wpB Φ r (es.set i (.own b (.dK (putKs ks kk) (putDs ks ds kk d)))) P) := rfl
theorem wpB_dputT (Φ : Ph) (i : Nat) (as e : E) (r : Ax.S) (es : List Sl) (P : Po) : wpB Φ (.dputT i as e r) es P = (ownAt es i fun b c => ∃ ks ds, c = .dT ks ds ∧ wpE Φ e es fun d es1 => es1 = es ∧ wpA Φ as es fun dk es2 => es2 = es ∧ dk.length ≤ 100000 ∧ ∃ kk, keysOf dk = some kk ∧ ks.length < 100000 ∧ wpB Φ r (es.set i (.own b (.dT (putKs ks kk) (putDs ks ds kk d)))) P) := rfl
theorem p1_boolI (i : Int) (k : Dt → Prop) : p1W .bool (.int i) k = k (.bool (i != 0)) := rfl
theorem p1_boolB (i : Bool) (k : Dt → Prop) : p1W .bool (.bool i) k = k (.bool i) := rfl
theorem p1_min (d : Dt) (k : Dt → Prop) : p1W .minl d k = ∃ ns : List Int, d = .list (ns.map Dt.int) ∧ 0 < ns.length ∧ ∀ m, m ∈ ns → (∀ y, y ∈ ns → m ≤ y) → k (.int m) := rfl
theorem p1_max (d : Dt) (k : Dt → Prop) : p1W .maxl d k = ∃ ns : List Int, d = .list (ns.map Dt.int) ∧ 0 < ns.length ∧ ∀ m, m ∈ ns → (∀ y, y ∈ ns → y ≤ m) → k (.int m) := rfl
theorem p2P_g (d : Dt) (Q : Prop) : p2P .dget d Q = (isDt d = true ∧ Q) := rfl
theorem p2P_ix (d : Dt) (Q : Prop) : p2P .dix d Q = Q := rfl
theorem p2P_in (d : Dt) (Q : Prop) : p2P .din d Q = Q := rfl
theorem p2P_ni (d : Dt) (Q : Prop) : p2P .dnin d Q = Q := rfl
theorem p2P_iq (d : Dt) (Q : Prop) : p2P .inq d Q = Q := rfl
theorem p2P_nq (d : Dt) (Q : Prop) : p2P .ninq d Q = Q := rfl
theorem p2P_dm (d : Dt) (Q : Prop) : p2P .divmod d Q = Q := rfl
theorem p2_ix (d dk : Dt) (k : Dt → Prop) : p2W .dix d dk k = ∃ y, dgetD d dk = some (some y) ∧ k y := rfl
theorem p2_in (dk d : Dt) (k : Dt → Prop) : p2W .din dk d k = ∃ r, dgetD d dk = some r ∧ k (.bool r.isSome) := rfl
theorem p2_ni (dk d : Dt) (k : Dt → Prop) : p2W .dnin dk d k = ∃ r, dgetD d dk = some r ∧ k (.bool (!r.isSome)) := rfl
theorem p2_g (d dk : Dt) (k : Dt → Prop) : p2W .dget d dk k = (isDt d = true ∧ ∃ r, dgetD d dk = some r ∧ k (r.getD .none)) := rfl
theorem p2_iq (d : Dt) (xs : List Dt) (k : Dt → Prop) : p2W .inq d (.list xs) k = ((shD d ∧ shD (.list xs)) ∧ k (.bool (xs.any fun z => eqD z d))) := rfl
theorem p2_nq (d : Dt) (xs : List Dt) (k : Dt → Prop) : p2W .ninq d (.list xs) k = ((shD d ∧ shD (.list xs)) ∧ k (.bool (!xs.any fun z => eqD z d))) := rfl
theorem p2_dm (i j : Int) (k : Dt → Prop) : p2W .divmod (.int i) (.int j) k = (L2.CDivP i j ∧ k (.tuple [.int (i / j), .int (i % j)])) := rfl
theorem p3_g (d dk dx : Dt) (k : Dt → Prop) : p3W .dget d dk dx k = (isDt d = true ∧ ∃ r, dgetD d dk = some r ∧ k (r.getD dx)) := rfl
theorem ownAt_z (b : Bool) (c : Ow) (es : List Sl) (k : Bool → Ow → Prop) : ownAt (.own b c :: es) 0 k = k b c := rfl
theorem ownAt_s (s : Sl) (es : List Sl) (n : Nat) (k : Bool → Ow → Prop) : ownAt (s :: es) (n + 1) k = ownAt es n k := rfl
theorem vals_K (ks : List Key) (ds : List Dt) (k : List Dt → Prop) : valsW (.dK ks ds) k = (ks.Nodup ∧ k ds) := rfl
theorem vals_T (ks : List (List Key)) (ds : List Dt) (k : List Dt → Prop) : valsW (.dT ks ds) k = (ks.Nodup ∧ k ds) := rfl
theorem dk_K (ks : List Key) (ds : List Dt) (k : List Key → List Dt → Prop) : dkW (.dK ks ds) k = k ks ds := rfl
theorem isDt_K (ks : List Key) (ds : List Dt) : isDt (.dK ks ds) = true := rfl
theorem isDt_T (ks : List (List Key)) (ds : List Dt) : isDt (.dT ks ds) = true := rfl
theorem owdt_K (ks : List Key) (ds : List Dt) : Ow.dt (.dK ks ds) = .dK ks ds := rfl
theorem owdt_T (ks : List (List Key)) (ds : List Dt) : Ow.dt (.dT ks ds) = .dT ks ds := rfl
theorem dget_K (ks : List Key) (ds : List Dt) (i : Int) : dgetD (.dK ks ds) (.int i) = some (lookD ks ds (.inl i)) := rfl
theorem keyOf_i (i : Int) : keyOf (.int i) = some (.inl i) := rfl

theorem wpB_dead (Φ : Ph) (es : List Sl) (P : Po) : wpB Φ .dead es P = False := rfl
section
variable {k : Dt → Prop}
theorem fzAt_z (d : Dt) (es : List Sl) (k : Dt → Prop) : fzAt (.fz d :: es) 0 k = k d := rfl
theorem fzAt_s (s : Sl) (es : List Sl) (n : Nat) (k : Dt → Prop) : fzAt (s :: es) (n + 1) k = fzAt es n k := rfl
theorem owAt_z (b : Bool) (d : List Dt) (es : List Sl) (k : Bool → List Dt → Prop) : owAt (.own b (.l d) :: es) 0 k = k b d := rfl
theorem owAt_s (s : Sl) (es : List Sl) (n : Nat) (k : Bool → List Dt → Prop) : owAt (s :: es) (n + 1) k = owAt es n k := rfl
theorem bin_add (i j : Int) (k : Dt → Prop) : binW .add (.int i) (.int j) k = k (.int (i + j)) := rfl
theorem bin_cat (i j : List Dt) (k : Dt → Prop) : binW .add (.list i) (.list j) k = (i.length + j.length ≤ 100000 ∧ k (.list (i ++ j))) := rfl
theorem bin_catT (i j : List Dt) (k : Dt → Prop) : binW .add (.tuple i) (.tuple j) k = (i.length + j.length ≤ 100000 ∧ k (.tuple (i ++ j))) := rfl
theorem bin_sub (i j : Int) (k : Dt → Prop) : binW .sub (.int i) (.int j) k = k (.int (i - j)) := rfl
theorem bin_mul (i j : Int) (k : Dt → Prop) : binW .mul (.int i) (.int j) k = (CMulX i j ∧ k (.int (i * j))) := rfl
theorem bin_rep (i : List Dt) (j : Int) (k : Dt → Prop) : binW .mul (.list i) (.int j) k = ((-(2 ^ 63) ≤ j ∧ j < 2 ^ 63 ∧ i.length * j.toNat ≤ 100000) ∧ k (.list (List.replicate j.toNat i).flatten)) := rfl
theorem bin_mod (i j : Int) (k : Dt → Prop) : binW .mod (.int i) (.int j) k = (0 < j ∧ k (.int (i % j))) := rfl
theorem bin_fdiv (i j : Int) (k : Dt → Prop) : binW .fdiv (.int i) (.int j) k = (CDivV i j ∧ k (.int (i.fdiv j))) := rfl
theorem bin_pow (i j : Int) (k : Dt → Prop) : binW .pow (.int i) (.int j) k = (CPow i j ∧ k (.int (i ^ j.toNat))) := rfl
theorem cmp_ii (o : Cm) (i j : Int) (k : Dt → Prop) : cmpW o (.int i) (.int j) k = k (.bool (o.f i j)) := rfl
theorem cm_lt (i j : Int) : Cm.f .lt i j = decide (i < j) := rfl
theorem cm_le (i j : Int) : Cm.f .le i j = decide (i ≤ j) := rfl
theorem cm_gt (i j : Int) : Cm.f .gt i j = decide (j < i) := rfl
theorem cm_ge (i j : Int) : Cm.f .ge i j = decide (j ≤ i) := rfl
theorem neg_i (i : Int) (k : Dt → Prop) : negW (.int i) k = k (.int (-i)) := rfl
theorem seq_l (xs : List Dt) (k : List Dt → Prop) : seqW (.list xs) k = k xs := rfl
theorem seq_t (xs : List Dt) (k : List Dt → Prop) : seqW (.tuple xs) k = k xs := rfl
theorem seq_s (xs : List Dt) (k : List Dt → Prop) : seqW (.scr xs) k = k xs := rfl
theorem bool_b (b : Bool) (k : Bool → Prop) : boolW (.bool b) k = k b := rfl
theorem int_i (i : Int) (k : Int → Prop) : intW (.int i) k = k i := rfl
theorem tru_b (b : Bool) (k : Bool → Prop) : truW (.bool b) k = k b := rfl
theorem tru_i (i : Int) (k : Bool → Prop) : truW (.int i) k = k (i != 0) := rfl
theorem tru_n (k : Bool → Prop) : truW .none k = k false := rfl
theorem tru_l (xs : List Dt) (k : Bool → Prop) : truW (.list xs) k = k (!xs.isEmpty) := rfl
theorem tru_t (xs : List Dt) (k : Bool → Prop) : truW (.tuple xs) k = k (!xs.isEmpty) := rfl
theorem b1_abs (d : Dt) (k : Dt → Prop) : b1W .abs d k = intW d fun i => k (.int (if i < 0 then -i else i)) := rfl
theorem b1_int (i : Int) (k : Dt → Prop) : b1W .int (.int i) k = k (.int i) := rfl
theorem b1_intb (b : Bool) (k : Dt → Prop) : b1W .int (.bool b) k = k (.int (if b then 1 else 0)) := rfl
theorem b1_len (d : Dt) (k : Dt → Prop) : b1W .len d k = seqW d fun xs => k (.int xs.length) := rfl
theorem b1_sum (d : Dt) (k : Dt → Prop) : b1W .sum d k = ∃ ns : List Int, d = .list (ns.map Dt.int) ∧ k (.int ns.sum) := rfl
theorem b1_all (d : Dt) (k : Dt → Prop) : b1W .all d k = ∃ ns : List Bool, d = .list (ns.map Dt.bool) ∧ k (.bool (ns.all id)) := rfl
theorem b1_any (d : Dt) (k : Dt → Prop) : b1W .any d k = ∃ ns : List Bool, d = .list (ns.map Dt.bool) ∧ k (.bool (ns.any id)) := rfl
theorem b1_tuple (d : Dt) (k : Dt → Prop) : b1W .tuple d k = seqW d fun xs => k (.tuple xs) := rfl
theorem b1_list (d : Dt) (k : Dt → Prop) : b1W .list d k = seqW d fun xs => k (.list xs) := rfl
theorem b1_str (d : Dt) (k : Dt → Prop) : b1W .str d k = intW d fun i => i.natAbs.log2 < 1920 ∧ k (.str (toString i)) := rfl
theorem b1_repr (d : Dt) (k : Dt → Prop) : b1W .repr d k = boolW d fun b => k (.str (if b then "True" else "False")) := rfl
theorem b1_sorted (d : Dt) (k : Dt → Prop) : b1W .sorted d k = ∃ ns : List Int, d = .list (ns.map Dt.int) ∧ ∀ ns' : List Int, ns'.Perm ns → ns'.Pairwise (· ≤ ·) → k (.list (ns'.map Dt.int)) := rfl
theorem b2_gcd (i j : Int) (k : Dt → Prop) : b2W .gcd (.int i) (.int j) k = k (.int (Int.gcd i j : Nat)) := rfl
theorem b2_max (i j : Int) (k : Dt → Prop) : b2W .max (.int i) (.int j) k = k (.int (if j > i then j else i)) := rfl
theorem b2_min (i j : Int) (k : Dt → Prop) : b2W .min (.int i) (.int j) k = k (.int (if j < i then j else i)) := rfl
theorem ix_ (d d2 : Dt) (k : Dt → Prop) : ixW d d2 k = seqW d fun xs => intW d2 fun i => ∃ x, atI xs i = some x ∧ k x := rfl
theorem inn_ (d d2 : Dt) (k : Dt → Prop) : innW d d2 k = intW d fun i => seqW d2 fun xs => ∃ ns : List Int, xs = ns.map Dt.int ∧ k (.bool (ns.any fun n => n == i)) := rfl
theorem bindT_v (i : Nat) (d : Dt) (es : List Sl) (N : List Sl → Prop) : bindT (.v i) d es N = N (es.set i (.fz d)) := rfl
theorem bindT_t (ts : E) (ds : List Dt) (es : List Sl) (N : List Sl → Prop) : bindT (.tup ts) (.tuple ds) es N = bindTs ts ds es N := rfl
theorem bindTs_n (es : List Sl) (N : List Sl → Prop) : bindTs .nil [] es N = N es := rfl
theorem bindTs_c (t ts : E) (d : Dt) (ds : List Dt) (es : List Sl) (N : List Sl → Prop) : bindTs (.cons t ts) (d :: ds) es N = bindT t d es fun es1 => bindTs ts ds es1 N := rfl
theorem aug_a (i j : Int) (k : Int → Prop) : augF .add i j k = k (i + j) := rfl
theorem aug_s (i j : Int) (k : Int → Prop) : augF .sub i j k = k (i - j) := rfl
theorem isi_int (d : Dt) (h : notO d = true) : isiD .int d = some (isI d) := by cases d <;> first | rfl | cases h
theorem isi_bool (d : Dt) (h : notO d = true) : isiD .bool d = some (isB d) := by cases d <;> first | rfl | cases h
theorem isi_tuple (d : Dt) (h : notO d = true) : isiD .tuple d = some (isT d) := by cases d <;> first | rfl | cases h
theorem and_ex {α : Type} {P : α → Prop} {Q : Prop} : (∃ x, P x ∧ Q) ↔ (∃ x, P x) ∧ Q := exists_and_right
/-- a written while -/
theorem wp_wh {Φ : Ph} {c : E} {b r : Ax.S} {es : List Sl} {P : Po} (Iv : Nat → List Sl → Prop) (m0 : Nat) (h0 : Iv m0 es) (h : ∀ m es1, Iv m es1 → wpT Φ c es1 fun p es2 => (p = true → wpB Φ b es2 { P with nx := fun es3 => ∃ m', m' < m ∧ Iv m' es3, ct := fun es3 => ∃ m', m' < m ∧ Iv m' es3, bk := fun es3 => wpB Φ r es3 P }) ∧ (p = false → wpB Φ r es2 P)) : wpB Φ (.wh c b r) es P := ⟨Iv, m0, h0, h⟩
def foBody (Φ : Ph) (tg : E) (b r : Ax.S) (P : Po) : Dt → List Sl → (List Sl → Prop) → Prop := fun x es2 k => bindT tg x es2 fun es3 => wpB Φ b es3 { P with nx := k, ct := k, bk := fun es4 => wpB Φ r es4 P }
theorem wpB_fo (Φ : Ph) (tg it : E) (b r : Ax.S) (es : List Sl) (P : Po) : wpB Φ (.fo tg it b r) es P = wpI Φ it es fun xs es1 => runF (foBody Φ tg b r P) xs es1 fun es2 => wpB Φ r es2 P := rfl
theorem foB_ (Φ : Ph) (tg : E) (b r : Ax.S) (P : Po) (x : Dt) (es2 : List Sl) (k : List Sl → Prop) : foBody Φ tg b r P x es2 k = bindT tg x es2 fun es3 => wpB Φ b es3 { P with nx := k, ct := k, bk := fun es4 => wpB Φ r es4 P } := rfl
theorem lcB_ (Φ : Ph) (vs : List Nat) (tg c el : E) (x : Dt) (es2 : List Sl) (k : List Dt → List Sl → Prop) : lcBody Φ vs tg c el x es2 k = bindT tg x es2 fun es3 => wpT Φ.nk c es3 fun p es4 => (p = true → wpE Φ.nk el es4 fun y es5 => k [y] (wipeE es5 vs)) ∧ (p = false → k [] (wipeE es4 vs)) := rfl
theorem runF_n (body : Dt → List Sl → (List Sl → Prop) → Prop) (es : List Sl) (nx : List Sl → Prop) : runF body [] es nx = nx es := rfl
theorem runF_c (body : Dt → List Sl → (List Sl → Prop) → Prop) (x : Dt) (xs : List Dt) (es : List Sl) (nx : List Sl → Prop) : runF body (x :: xs) es nx = body x es fun es' => runF body xs es' nx := rfl
theorem runC_n (body : Dt → List Sl → (List Dt → List Sl → Prop) → Prop) (acc : List Dt) (es : List Sl) (nx : List Dt → List Sl → Prop) : runC body [] acc es nx = nx acc es := rfl
theorem runC_c (body : Dt → List Sl → (List Dt → List Sl → Prop) → Prop) (x : Dt) (xs acc : List Dt) (es : List Sl) (nx : List Dt → List Sl → Prop) : runC body (x :: xs) acc es nx = body x es fun r es' => runC body xs (acc ++ r) es' nx := rfl
/-- a loop by its invariant -/
theorem runF_inv {body : Dt → List Sl → (List Sl → Prop) → Prop} {nx : List Sl → Prop} : ∀ {xs : List Dt} (Iv : Nat → List Sl → Prop) {i : Nat} {es : List Sl}, Iv i es → (∀ n x es, xs[n]? = some x → Iv (i + n) es → ∀ k, (∀ es', Iv (i + n + 1) es' → k es') → body x es k) → (∀ es, Iv (i + xs.length) es → nx es) → runF body xs es nx
  | [], Iv, i, es, h, _, hn => hn es h
  | x :: xs, Iv, i, es, h, hs, hn => by
    refine hs 0 x es rfl h _ fun es' h' => ?_
    refine runF_inv (xs := xs) Iv (i := i + 1) h' (fun n y es2 hy hI k hk => ?_) (fun es2 hI => ?_)
    · refine hs (n + 1) y es2 (by simpa using hy) (by rw [show i + (n + 1) = i + 1 + n from by omega]; exact hI) k fun es' h2 => hk es' ?_
      rw [show i + 1 + n + 1 = i + (n + 1) + 1 from by omega]; exact h2
    · refine hn es2 ?_
      rw [List.length_cons, show i + (xs.length + 1) = i + 1 + xs.length from by omega]; exact hI
theorem wp_fo {body : Dt → List Sl → (List Sl → Prop) → Prop} {nx : List Sl → Prop} {xs : List Dt} {es : List Sl} (Iv : Nat → List Sl → Prop) (h0 : Iv 0 es) (hs : ∀ n x es, xs[n]? = some x → Iv n es → ∀ k, (∀ es', Iv (n + 1) es' → k es') → body x es k) (hn : ∀ es, Iv xs.length es → nx es) : runF body xs es nx :=
  runF_inv Iv h0 (fun n x es hx hI k hk => hs n x es hx (by simpa using hI) k fun es' h => hk es' (by simpa using h)) (fun es h => hn es (by simpa using h))
/-- a comprehension by its invariant -/
theorem runC_inv {body : Dt → List Sl → (List Dt → List Sl → Prop) → Prop} {nx : List Dt → List Sl → Prop} : ∀ {xs : List Dt} (Iv : Nat → List Dt → List Sl → Prop) {i : Nat} {acc : List Dt} {es : List Sl}, Iv i acc es → (∀ n x acc es, xs[n]? = some x → Iv (i + n) acc es → ∀ k, (∀ r es', Iv (i + n + 1) (acc ++ r) es' → k r es') → body x es k) → (∀ acc es, Iv (i + xs.length) acc es → nx acc es) → runC body xs acc es nx
  | [], Iv, i, acc, es, h, _, hn => hn acc es h
  | x :: xs, Iv, i, acc, es, h, hs, hn => by
    refine hs 0 x acc es rfl h _ fun r es' h' => ?_
    refine runC_inv (xs := xs) Iv (i := i + 1) h' (fun n y acc2 es2 hy hI k hk => ?_) (fun acc2 es2 hI => ?_)
    · refine hs (n + 1) y acc2 es2 (by simpa using hy) (by rw [show i + (n + 1) = i + 1 + n from by omega]; exact hI) k fun r es' h2 => hk r es' ?_
      rw [show i + 1 + n + 1 = i + (n + 1) + 1 from by omega]; exact h2
    · refine hn acc2 es2 ?_
      rw [List.length_cons, show i + (xs.length + 1) = i + 1 + xs.length from by omega]; exact hI
/-- each item gives at most one datum; nothing else changes -/
theorem runC_map {body : Dt → List Sl → (List Dt → List Sl → Prop) → Prop} {nx : List Dt → List Sl → Prop} {xs : List Dt} {es : List Sl} (pt : Dt → Bool) (gv : Dt → Dt) (hs : ∀ x ∈ xs, ∀ k : List Dt → List Sl → Prop, (pt x = true → k [gv x] es) → (pt x = false → k [] es) → body x es k) (hn : nx ((xs.filter pt).map gv) es) : runC body xs [] es nx := by
  have key : ∀ (xs : List Dt) (acc : List Dt), (∀ x ∈ xs, ∀ k : List Dt → List Sl → Prop, (pt x = true → k [gv x] es) → (pt x = false → k [] es) → body x es k) → nx (acc ++ (xs.filter pt).map gv) es → runC body xs acc es nx := by
    intro xs
    induction xs with
    | nil => intro acc _ h; simpa [runC] using h
    | cons x xs ih =>
      intro acc hs h
      refine hs x List.mem_cons_self _ (fun hp => ?_) (fun hp => ?_)
      · exact ih _ (fun y hy => hs y (List.mem_cons_of_mem _ hy)) (by simpa [List.filter_cons, hp] using h)
      · exact ih _ (fun y hy => hs y (List.mem_cons_of_mem _ hy)) (by simpa [List.filter_cons, hp] using h)
  exact key xs [] hs (by simpa using hn)
theorem runC_all {body : Dt → List Sl → (List Dt → List Sl → Prop) → Prop} {nx : List Dt → List Sl → Prop} {xs : List Dt} {es : List Sl} (gv : Dt → Dt) (hs : ∀ x ∈ xs, ∀ k : List Dt → List Sl → Prop, k [gv x] es → body x es k) (hn : nx (xs.map gv) es) : runC body xs [] es nx :=
  runC_map (fun _ => true) gv (fun x hx k h1 _ => hs x hx k (h1 rfl)) (by rw [List.filter_eq_self.mpr (fun _ _ => rfl)]; exact hn)
/-- one of three kinds of promises, by its place -/
def rNo : RR := fun _ _ _ => False
def oNo : RO := fun _ _ _ _ => False
def lNo : RL := fun _ _ _ => False
theorem ph_r (r o l κ) (i : Nat) : Ph.r ⟨r, o, l, κ⟩ i = r i := rfl
theorem ph_o (r o l κ) (i : Nat) : Ph.o ⟨r, o, l, κ⟩ i = o i := rfl
theorem ph_l (r o l κ) (i : Nat) : Ph.l ⟨r, o, l, κ⟩ i = l i := rfl
theorem ph_k (r o l κ) : Ph.κ ⟨r, o, l, κ⟩ = κ := rfl
theorem nk_ (r o l κ) : Ph.nk ⟨r, o, l, κ⟩ = ⟨r, o, l, fun _ _ => False⟩ := rfl
theorem lf_ (R : List Dt → (Dt → Prop) → Prop) (ds G Gx) : lf R ds G Gx = R ds G := rfl
theorem lfO_ (R : List Dt → List Dt → (Dt → List Dt → Prop) → Prop) (ds as G Gx) : lfO R ds as G Gx = R ds as G := rfl
theorem lfL_ (R : List Dt → (List Dt → Prop) → Prop) (ds G Gx) : lfL R ds G Gx = R ds G := rfl

end
end Ax

set_option Elab.async false
set_option linter.all false
set_option maxRecDepth 100000
set_option maxHeartbeats 4000000
/-! Small facts that close what is asked. -/
namespace Ax
open PySem PySem.Spec PyProof.Rows L2 Lv
theorem at0 {α : Type} (a : α) (l : List α) : atI (a :: l) 0 = some a := by simp [atI, ixN]
theorem at1 {α : Type} (a b : α) (l : List α) : atI (a :: b :: l) 1 = some b := by
  have : (1 : Int) < (l.length : Int) + 1 + 1 := by omega
  simp [atI, ixN, this]
theorem at2 {α : Type} (a b c : α) (l : List α) : atI (a :: b :: c :: l) 2 = some c := by
  have : (2 : Int) < (l.length : Int) + 1 + 1 + 1 := by omega
  simp [atI, ixN, this]
theorem at3 {α : Type} (a b c d : α) (l : List α) : atI (a :: b :: c :: d :: l) 3 = some d := by
  have : (3 : Int) < (l.length : Int) + 1 + 1 + 1 + 1 := by omega
  simp [atI, ixN, this]
theorem ix30 : ixN 3 0 = some 0 := rfl
theorem ix31 : ixN 3 1 = some 1 := rfl
theorem ix32 : ixN 3 2 = some 2 := rfl
theorem eqz_ii (i j : Int) : eqD (.int i) (.int j) = decide (i = j) := rfl
theorem eqz_tt (xs ys : List Dt) : eqD (.tuple xs) (.tuple ys) = eqD (.list xs) (.list ys) := by simp [eqD, toPy, PyData.eqv]
theorem eqz_ll (x y : Dt) (xs ys : List Dt) : eqD (.list (x :: xs)) (.list (y :: ys)) = (eqD x y && eqD (.list xs) (.list ys)) := by simp [eqD, toPy, toPys, PyData.eqv, PyData.eqvAll]
theorem eqz_00 : eqD (.list []) (.list []) = true := rfl
theorem eqz_l0 (x : Dt) (xs : List Dt) : eqD (.list (x :: xs)) (.list []) = false := rfl
theorem eqz_0l (x : Dt) (xs : List Dt) : eqD (.list []) (.list (x :: xs)) = false := rfl
theorem eqz_bb (a b : Bool) : eqD (.bool a) (.bool b) = (a == b) := rfl
theorem eqz_nn : eqD .none .none = true := rfl
theorem eqz_nt (xs : List Dt) : eqD .none (.tuple xs) = false := rfl
theorem eqz_tn (xs : List Dt) : eqD (.tuple xs) .none = false := rfl
theorem shD_i (i : Int) : shD (.int i) := ⟨rfl, rfl⟩
theorem shD_b (i : Bool) : shD (.bool i) := ⟨rfl, rfl⟩
theorem shD_n : shD .none := ⟨rfl, rfl⟩
/-- of lists and tuples that are not deep -/
def dep : Nat → Dt → Bool
  | _, .none => true
  | _, .bool _ => true
  | _, .int _ => true
  | n + 1, .list l => l.all (dep n)
  | n + 1, .tuple l => l.all (dep n)
  | _, _ => false
theorem dep_ok : ∀ (n : Nat) (d : Dt), dep n d = true → plain d = true ∧ (toPy d).canLay0 = true ∧ (toPy d).depth ≤ n
  | n, .none, _ => ⟨rfl, rfl, Nat.zero_le _⟩
  | n, .bool _, _ => ⟨rfl, rfl, Nat.zero_le _⟩
  | n, .int _, _ => ⟨rfl, rfl, Nat.zero_le _⟩
  | n, .str x, h => by cases n <;> cases h
  | n, .dK _ _, h => by cases n <;> cases h
  | n, .dT _ _, h => by cases n <;> cases h
  | n, .obj _ _ _, h => by cases n <;> cases h
  | n, .scr _, h => by cases n <;> cases h
  | 0, .list l, h => by cases h
  | 0, .tuple l, h => by cases h
  | n + 1, .list l, h => by
    have h : (l.all (dep n)) = true := h
    have key : ∀ l : List Dt, (l.all (dep n)) = true → plains l = true ∧ PyData.canLayAll0 (toPys l) = true ∧ PyData.depthAll (toPys l) ≤ n := by
      intro l
      induction l with
      | nil => intro _; exact ⟨rfl, rfl, Nat.zero_le _⟩
      | cons x xs ih =>
        intro h
        rw [List.all_cons, Bool.and_eq_true] at h
        obtain ⟨a1, a2, a3⟩ := dep_ok n x h.1
        obtain ⟨b1, b2, b3⟩ := ih h.2
        refine ⟨by show (plain x && plains xs) = true; rw [a1, b1]; rfl, ?_, ?_⟩
        · show ((toPy x).canLay0 && PyData.canLayAll0 (toPys xs)) = true
          rw [a2, b2]; rfl
        · show max (toPy x).depth (PyData.depthAll (toPys xs)) ≤ n
          omega
    obtain ⟨a1, a2, a3⟩ := key l h
    exact ⟨a1, a2, by show PyData.depthAll (toPys l) + 1 ≤ n + 1; omega⟩
  | n + 1, .tuple l, h => by
    have h : (l.all (dep n)) = true := h
    have key : ∀ l : List Dt, (l.all (dep n)) = true → plains l = true ∧ PyData.canLayAll0 (toPys l) = true ∧ PyData.depthAll (toPys l) ≤ n := by
      intro l
      induction l with
      | nil => intro _; exact ⟨rfl, rfl, Nat.zero_le _⟩
      | cons x xs ih =>
        intro h
        rw [List.all_cons, Bool.and_eq_true] at h
        obtain ⟨a1, a2, a3⟩ := dep_ok n x h.1
        obtain ⟨b1, b2, b3⟩ := ih h.2
        refine ⟨by show (plain x && plains xs) = true; rw [a1, b1]; rfl, ?_, ?_⟩
        · show ((toPy x).canLay0 && PyData.canLayAll0 (toPys xs)) = true
          rw [a2, b2]; rfl
        · show max (toPy x).depth (PyData.depthAll (toPys xs)) ≤ n
          omega
    obtain ⟨a1, a2, a3⟩ := key l h
    exact ⟨a1, a2, by show PyData.depthAll (toPys l) + 1 ≤ n + 1; omega⟩
theorem shD_dep {d : Dt} (h : dep 60 d = true) : shD d := by
  obtain ⟨a, b, c⟩ := dep_ok 60 d h
  refine ⟨a, ?_⟩
  show ((toPy d).canLay0 && decide ((toPy d).depth ≤ 64)) = true
  rw [b, decide_eq_true (by omega)]; rfl
theorem shD_i' (i : Int) : shD (.int i) = True := eq_true (shD_i i)
theorem shD_b' (i : Bool) : shD (.bool i) = True := eq_true (shD_b i)
theorem shD_n' : shD .none = True := eq_true shD_n
theorem mrg_wipe {es : List Sl} {vs : List Nat} (h : noOwB es vs = true) : mrg vs 0 (wipeE es vs) es = es := by
  apply List.ext_getElem?
  intro i
  rw [mrg_get vs (wipeE es vs) es 0 i (wipeE_len es vs), wipeE_get, Nat.zero_add]
  by_cases hi : i ∈ vs
  · rw [if_pos hi]
    have := noOw_of h i hi
    cases e : es[i]? with
    | none => rfl
    | some x =>
      cases x with
      | no => rfl
      | fz d => rfl
      | own b ds => exact absurd e (this b ds)
  · rw [if_neg hi, if_neg hi]
theorem runC_filter {body : Dt → List Sl → (List Dt → List Sl → Prop) → Prop} {nx : List Dt → List Sl → Prop} {xs : List Dt} {es : List Sl} (pt : Dt → Bool) (hs : ∀ x ∈ xs, ∀ k : List Dt → List Sl → Prop, (pt x = true → k [x] es) → (pt x = false → k [] es) → body x es k) (hn : nx (xs.filter pt) es) : runC body xs [] es nx :=
  runC_map pt (fun x => x) hs (by rw [List.map_id']; exact hn)
/-- a comprehension that changes nothing: each item gives at most one datum -/
theorem lc_map {body : Dt → List Sl → (List Dt → List Sl → Prop) → Prop} {nx : List Dt → List Sl → Prop} {xs : List Dt} {es : List Sl} {vs : List Nat} (pt : Dt → Bool) (gv : Dt → Dt) (h0 : noOwB es vs = true) (hs : ∀ x ∈ xs, ∀ k : List Dt → List Sl → Prop, (pt x = true → k [gv x] (wipeE es vs)) → (pt x = false → k [] (wipeE es vs)) → body x (wipeE es vs) k) (hn : nx ((xs.filter pt).map gv) es) : runC body xs [] (wipeE es vs) (fun acc es2 => nx acc (mrg vs 0 es2 es)) :=
  runC_map pt gv hs (by rw [mrg_wipe h0]; exact hn)
theorem lc_filter {body : Dt → List Sl → (List Dt → List Sl → Prop) → Prop} {nx : List Dt → List Sl → Prop} {xs : List Dt} {es : List Sl} {vs : List Nat} (pt : Dt → Bool) (h0 : noOwB es vs = true) (hs : ∀ x ∈ xs, ∀ k : List Dt → List Sl → Prop, (pt x = true → k [x] (wipeE es vs)) → (pt x = false → k [] (wipeE es vs)) → body x (wipeE es vs) k) (hn : nx (xs.filter pt) es) : runC body xs [] (wipeE es vs) (fun acc es2 => nx acc (mrg vs 0 es2 es)) :=
  lc_map pt (fun x => x) h0 hs (by rw [List.map_id']; exact hn)
theorem lc_all {body : Dt → List Sl → (List Dt → List Sl → Prop) → Prop} {nx : List Dt → List Sl → Prop} {xs : List Dt} {es : List Sl} {vs : List Nat} (gv : Dt → Dt) (h0 : noOwB es vs = true) (hs : ∀ x ∈ xs, ∀ k : List Dt → List Sl → Prop, k [gv x] (wipeE es vs) → body x (wipeE es vs) k) (hn : nx (xs.map gv) es) : runC body xs [] (wipeE es vs) (fun acc es2 => nx acc (mrg vs 0 es2 es)) :=
  runC_all gv hs (by rw [mrg_wipe h0]; exact hn)
theorem wipe1 (es : List Sl) (i : Nat) : wipeE es [i] = es.set i .no := rfl
theorem wipe2 (es : List Sl) (i j : Nat) : wipeE es [i, j] = (es.set j .no).set i .no := rfl
theorem wipe4 (es : List Sl) (i j k l : Nat) : wipeE es [i, j, k, l] = (((es.set l .no).set k .no).set j .no).set i .no := rfl
theorem isi_tt (l : List Dt) : isiD .tuple (.tuple l) = some true := rfl
theorem isi_tl (l : List Dt) : isiD .tuple (.list l) = some false := rfl
theorem isi_ti (i : Int) : isiD .tuple (.int i) = some false := rfl
theorem isi_tn : isiD .tuple .none = some false := rfl
theorem isi_ii (i : Int) : isiD .int (.int i) = some true := rfl
theorem isi_bi (i : Int) : isiD .bool (.int i) = some false := rfl
theorem some_eq (b : Bool) (P : Bool → Prop) : (∃ x, some b = some x ∧ P x) = P b := propext ⟨fun ⟨x, h, p⟩ => by cases h; exact p, fun h => ⟨b, rfl, h⟩⟩
theorem shD_2 (a b : Int) : shD (.tuple [.int a, .int b]) = True := eq_true (shD_dep rfl)
theorem shD_3 (a b c : Int) : shD (.tuple [.int a, .int b, .int c]) = True := eq_true (shD_dep rfl)
theorem shD_4 (a b c d : Int) : shD (.tuple [.int a, .int b, .int c, .int d]) = True := eq_true (shD_dep rfl)
theorem not_ex {α : Type} (a : α) : (∃ b, a = b) = True := eq_true ⟨a, rfl⟩
theorem len4 (a b c d : Dt) : (([a, b, c, d] : List Dt).length : Int) = 4 := rfl
theorem len2 (a b : Dt) : (([a, b] : List Dt).length : Int) = 2 := rfl
end Ax

set_option Elab.async false
set_option linter.all false
set_option maxRecDepth 100000
set_option maxHeartbeats 4000000
namespace Pf
open PySem PySem.Spec PyProof.Rows L2 Lv
theorem abs_gcd (a b : Int) : Int.gcd (if a < 0 then -a else a) (if b < 0 then -b else b) = Int.gcd a b := by
  split <;> split <;> simp

def R_law_gcd : List Dt → (Dt → Prop) → Prop := fun ds G => ∃ a b : Int, ds = [.int a, .int b] ∧ G (.int (Int.gcd a b : Nat))
def R_law_roll : List Dt → List Dt → (Dt → List Dt → Prop) → Prop := fun ds as G => ∃ (n : Int) (m : Nat), as = [.int n] ∧ Dice m ds ∧ 0 < n ∧ Bd 60 n ∧ m < 2 ^ 60 ∧ ∀ (r : Int) (ds : List Dt), 0 ≤ r → r < n → Dice (m + 1) ds → G (.int r) ds
def isW : Dt → Bool
  | .int _ => true
  | _ => false
def isJ : Dt → Bool
  | .int i => decide (-1000000000000000000000000000000000000000000000000000000000000 < i) && decide (i < 1000000000000000000000000000000000000000000000000000000000000)
  | _ => false
def isLv : Dt → Bool
  | .int i => decide (1 ≤ i) && decide (i ≤ 100)
  | _ => false
def Ris_whole : List Dt → (Dt → Prop) → Prop := fun ds G => ∃ d, ds = [d] ∧ notO d = true ∧ G (.bool (isW d))
def Ris_integer : List Dt → (Dt → Prop) → Prop := fun ds G => ∃ d, ds = [d] ∧ notO d = true ∧ G (.bool (isJ d))
def Ris_level : List Dt → (Dt → Prop) → Prop := fun ds G => ∃ d, ds = [d] ∧ notO d = true ∧ G (.bool (isLv d))
def Rcheck_level : List Dt → (Dt → Prop) → Prop := fun ds G => ∃ n : Int, ds = [.int n] ∧ 1 ≤ n ∧ n ≤ 100 ∧ G .none
def Rcheck_matrix : List Dt → (Dt → Prop) → Prop := fun ds G => ∃ a b c d : Int, ds = [.tuple [.int a, .int b, .int c, .int d]] ∧ isJ (.int a) = true ∧ isJ (.int b) = true ∧ isJ (.int c) = true ∧ isJ (.int d) = true ∧ G .none
def OkFr (p q : Int) : Prop := IsFr p q ∧ -100000000000000000000 ≤ p ∧ p ≤ 100000000000000000000 ∧ q ≤ 100000000000000000000
theorem OkFr.bp {p q : Int} (h : OkFr p q) : Bd 70 p := Bd.of (m := 100000000000000000001) (by have := h.2.1; omega) (by have := h.2.2.1; omega) (by decide)
theorem OkFr.bq {p q : Int} (h : OkFr p q) : Bd 70 q := Bd.of (m := 100000000000000000001) (by have := h.1.1; omega) (by have := h.2.2.2; omega) (by decide)
def isM : Dt → Bool
  | .tuple l => decide ((l.length : Int) = 4) && l.all isW
  | _ => false
def OkV (v : Dt) : Prop := notO v = true ∧ ∀ l, v = .tuple l → l.length ≤ 1000 ∧ ∀ x ∈ l, notO x = true ∧ AtD x
def Ris_fraction : List Dt → (Dt → Prop) → Prop := fun ds G => ∃ p q : Int, ds = [.tuple [.int p, .int q]] ∧ OkFr p q ∧ G (.bool true)
def Rcheck_fraction : List Dt → (Dt → Prop) → Prop := fun ds G => ∃ p q : Int, ds = [.tuple [.int p, .int q]] ∧ OkFr p q ∧ G .none
def Ris_matrix : List Dt → (Dt → Prop) → Prop := fun ds G => ∃ d : Dt, ds = [d] ∧ OkV d ∧ G (.bool (isM d))
def R_determinant : List Dt → (Dt → Prop) → Prop := fun ds G => ∃ a b c d : Int, ds = [.tuple [.int a, .int b, .int c, .int d]] ∧ Bd 1000 a ∧ Bd 1000 b ∧ Bd 1000 c ∧ Bd 1000 d ∧ G (.int (a * d - b * c))
def R_led : List Dt → (Dt → Prop) → Prop := fun ds G => ∃ a b c d p q : Int, ds = [.tuple [.int a, .int b, .int c, .int d], .tuple [.int p, .int q]] ∧ Bd 1000 a ∧ Bd 1000 b ∧ Bd 1000 c ∧ Bd 1000 d ∧ Bd 70 p ∧ Bd 70 q ∧ ¬(a * p + b * q = 0 ∧ c * p + d * q = 0) ∧ G (.tuple [.int (nrm (a * p + b * q) (c * p + d * q)).1, .int (nrm (a * p + b * q) (c * p + d * q)).2])
theorem jbd {a : Int} (h : isJ (.int a) = true) : Bd 1000 a := by
  have h : (decide _ && decide _) = true := h
  rw [Bool.and_eq_true, decide_eq_true_eq, decide_eq_true_eq] at h
  exact (Bd.of (n := 200) (m := 1000000000000000000000000000000000000000000000000000000000000) (by omega) (by omega) (by decide)).mono (by decide)
def Rled_fraction : List Dt → (Dt → Prop) → Prop := fun ds G => ∃ a b c d p q : Int, ds = [.tuple [.int a, .int b, .int c, .int d], .tuple [.int p, .int q]] ∧ isJ (.int a) = true ∧ isJ (.int b) = true ∧ isJ (.int c) = true ∧ isJ (.int d) = true ∧ OkFr p q ∧ a * d - b * c ≠ 0 ∧ ¬(a * p + b * q = 0 ∧ c * p + d * q = 0) ∧ G (.tuple [.int (nrm (a * p + b * q) (c * p + d * q)).1, .int (nrm (a * p + b * q) (c * p + d * q)).2])
def Rinverse_modulo : List Dt → (Dt → Prop) → Prop := fun ds G => ∃ m n : Int, ds = [.int m, .int n] ∧ 0 < m ∧ Bd 400 m ∧ Int.gcd n m = 1 ∧ ∀ y : Int, 0 ≤ y → y < m → m ∣ n * y - 1 → G (.int y)
theorem lst_le {g m l t : Int} (hm : 0 < m) (L : Lst g m l t) : l % m ≤ t := by
  rw [← L.2.1]
  have := Int.emod_lt_of_pos t hm
  have e := Int.mul_ediv_add_emod t m
  have : 0 ≤ t / m := Int.ediv_nonneg L.1 (by omega)
  have : 0 ≤ m * (t / m) := Int.mul_nonneg (by omega) this
  omega
def R_least_top : List Dt → (Dt → Prop) → Prop := fun ds G => ∃ gg m l t : Int, ds = [.int gg, .int m, .int l] ∧ 0 < m ∧ 1 ≤ gg ∧ Lst gg m l t ∧ G (.int t)
def R_rim : List Dt → (Dt → Prop) → Prop := fun ds G => ∃ N p q t : Int, ds = [.int N, .tuple [.int p, .int q]] ∧ 1 ≤ N ∧ N ≤ 100 ∧ OkFr p q ∧ Rim N p q t ∧ G (.tuple [.int t, .int (rimG N q)])
def Rrim_of : List Dt → (Dt → Prop) → Prop := fun ds G => ∃ N p q t : Int, ds = [.int N, .tuple [.int p, .int q]] ∧ 1 ≤ N ∧ N ≤ 100 ∧ OkFr p q ∧ Rim N p q t ∧ G (.tuple [.int t, .int (rimG N q)])
def R_check_both : List Dt → (Dt → Prop) → Prop := fun ds G => ∃ N p q r u : Int, ds = [.int N, .tuple [.int p, .int q], .tuple [.int r, .int u]] ∧ 1 ≤ N ∧ N ≤ 100 ∧ OkFr p q ∧ OkFr r u ∧ G .none
def Rare_same_rim : List Dt → (Dt → Prop) → Prop := fun ds G => ∃ N p q r u t t2 : Int, ds = [.int N, .tuple [.int p, .int q], .tuple [.int r, .int u]] ∧ 1 ≤ N ∧ N ≤ 100 ∧ OkFr p q ∧ OkFr r u ∧ Rim N p q t ∧ Rim N r u t2 ∧ G (.bool (decide (t = t2) && decide (rimG N q = rimG N u)))
def R_matrix_to : List Dt → (Dt → Prop) → Prop := fun ds G => ∃ p q : Int, ds = [.tuple [.int p, .int q]] ∧ OkFr p q ∧ ∀ b d : Int, p * d - b * q = 1 → Bd 200 b → Bd 200 d → G (.tuple [.int p, .int b, .int q, .int d])
theorem isW_of {v : Dt} (h : isW v = true) : ∃ a : Int, v = .int a := by
  cases v <;> first | exact ⟨_, rfl⟩ | exact absurd h Bool.false_ne_true
theorem isM_of {v : Dt} (h : isM v = true) : ∃ a b c d : Int, v = .tuple [.int a, .int b, .int c, .int d] := by
  obtain ⟨l, rfl⟩ : ∃ l, v = .tuple l := by cases v <;> first | exact ⟨_, rfl⟩ | exact absurd h Bool.false_ne_true
  have h : (decide ((l.length : Int) = 4) && l.all isW) = true := h
  rw [Bool.and_eq_true, decide_eq_true_eq, List.all_eq_true] at h
  obtain ⟨hl, hw⟩ := h
  match l, hl, hw with
  | [a, b, c, d], _, hw =>
    obtain ⟨a, rfl⟩ := isW_of (hw a (by simp))
    obtain ⟨b, rfl⟩ := isW_of (hw b (by simp))
    obtain ⟨c, rfl⟩ := isW_of (hw c (by simp))
    obtain ⟨d, rfl⟩ := isW_of (hw d (by simp))
    exact ⟨a, b, c, d, rfl⟩
  | [], hl, _ => simp at hl
  | [_], hl, _ => simp at hl
  | [_, _], hl, _ => simp at hl
  | [_, _, _], hl, _ => simp at hl
  | _ :: _ :: _ :: _ :: _ :: _, hl, _ => simp at hl; omega
/-- a matrix of the group that leads the one fraction to the other -/
def isP (N p q r u : Int) : Dt → Bool
  | .tuple [.int a, .int b, .int c, .int d] => decide (a * d - b * c = 1) && (decide (c % N = 0) && (decide ((nrm (a * p + b * q) (c * p + d * q)).1 = r) && decide ((nrm (a * p + b * q) (c * p + d * q)).2 = u)))
  | _ => false
def ndB : Dt → Bool
  | .tuple [.int a, .int b, .int c, .int d] => !decide (a * d - b * c = 1)
  | _ => false
def ncB (N : Int) : Dt → Bool
  | .tuple [.int a, .int b, .int c, .int d] => !decide (c % N = 0)
  | _ => false
theorem isP_no {N p q r u : Int} {v : Dt} (h : isM v = false) : isP N p q r u v = false := by
  unfold isP
  split
  · cases h
  · rfl
theorem lead0 {a b c d p q : Int} (h : a * d - b * c ≠ 0) (hF : OkFr p q) : ¬(a * p + b * q = 0 ∧ c * p + d * q = 0) := fun ⟨h1, h2⟩ => by
  have e1 : (a * d - b * c) * p = 0 := by
    have : (a * d - b * c) * p = d * (a * p + b * q) - b * (c * p + d * q) := by grind
    rw [this, h1, h2]; simp
  have e2 : (a * d - b * c) * q = 0 := by
    have : (a * d - b * c) * q = a * (c * p + d * q) - c * (a * p + b * q) := by grind
    rw [this, h1, h2]; simp
  have hp : p = 0 := (Int.mul_eq_zero.mp e1).resolve_left h
  have hq : q = 0 := (Int.mul_eq_zero.mp e2).resolve_left h
  have := hF.1.2.2 hq
  omega
def BdM (v : Dt) : Prop := ∀ a b c d : Int, v = .tuple [.int a, .int b, .int c, .int d] → Bd 1000 a ∧ Bd 1000 b ∧ Bd 1000 c ∧ Bd 1000 d
def Ris_rim_paper : List Dt → (Dt → Prop) → Prop := fun ds G => ∃ (N p q r u : Int) (v : Dt), ds = [.int N, .tuple [.int p, .int q], .tuple [.int r, .int u], v] ∧ 1 ≤ N ∧ N ≤ 100 ∧ OkFr p q ∧ OkFr r u ∧ OkV v ∧ BdM v ∧ G (.bool (isP N p q r u v))
def Rrim_paper : List Dt → (Dt → Prop) → Prop := fun ds G => ∃ N p q a c : Int, ds = [.int N, .tuple [.int p, .int q], .tuple [.int a, .int c]] ∧ 1 ≤ N ∧ N ≤ 100 ∧ OkFr p q ∧ OkFr a c ∧ (∀ e f g h : Int, e * h - f * g = 1 → N ∣ g → e * p + f * q = a → g * p + h * q = c → Bd 400 e → Bd 400 f → Bd 400 g → Bd 400 h → G (.tuple [.int e, .int f, .int g, .int h])) ∧ ∀ x y b d : Int, p * y - x * q = 1 → a * d - b * c = 1 → (∀ k : Int, 0 ≤ k → k < N → ¬ N ∣ c * y - (d + k * c) * q) → G .none
def R_law_dice : List Dt → (List Dt → Prop) → Prop := fun ds G => ∃ (ns : List Int) (s0 : Int), ds = [.scr (ns.map Dt.int), .int s0] ∧ 0 ≤ s0 ∧ s0 < 64 ∧ ∀ ds, Dice 0 ds → G ds
def R_law_pick : List Dt → List Dt → (Dt → List Dt → Prop) → Prop := fun ds as G => ∃ (xs : List Dt) (m : Nat), as = [.list xs] ∧ Dice m ds ∧ 0 < xs.length ∧ xs.length ≤ 100000 ∧ m + 1000 < 2 ^ 60 ∧ ∀ x ∈ xs, ∀ ds, Dice (m + 1) ds → G x ds
def R_law_lowest : List Dt → (Dt → Prop) → Prop := fun ds G => ∃ t b : Int, ds = [.int t, .int b] ∧ ¬(t = 0 ∧ b = 0) ∧ Bd 2000 t ∧ Bd 2000 b ∧ G (.tuple [.int (nrm t b).1, .int (nrm t b).2])
def R_law_matrix_times : List Dt → (Dt → Prop) → Prop := fun ds G => ∃ a b c d e f g h : Int, ds = [.tuple [.int a, .int b, .int c, .int d], .tuple [.int e, .int f, .int g, .int h]] ∧ (Bd 490 a ∧ Bd 490 b ∧ Bd 490 c ∧ Bd 490 d) ∧ (Bd 490 e ∧ Bd 490 f ∧ Bd 490 g ∧ Bd 490 h) ∧ G (.tuple [.int (a * e + b * g), .int (a * f + b * h), .int (c * e + d * g), .int (c * f + d * h)])
def R_law_matrix_led : List Dt → (Dt → Prop) → Prop := fun ds G => ∃ a b c d p q : Int, ds = [.tuple [.int a, .int b, .int c, .int d], .tuple [.int p, .int q]] ∧ (Bd 1000 a ∧ Bd 1000 b ∧ Bd 1000 c ∧ Bd 1000 d) ∧ Bd 70 p ∧ Bd 70 q ∧ ¬(a * p + b * q = 0 ∧ c * p + d * q = 0) ∧ G (.tuple [.int (nrm (a * p + b * q) (c * p + d * q)).1, .int (nrm (a * p + b * q) (c * p + d * q)).2])
def bzV (q : Int) : Dt → Dt
  | .tuple [.int u, .int v] => .int (u - q * v)
  | _ => .none
def R_law_bezout : List Dt → (Dt → Prop) → Prop := fun ds G => ∃ o1 o2 : Int, ds = [.int o1, .int o2] ∧ Bd 160 o1 ∧ Bd 160 o2 ∧ ∀ x y : Int, Bd 400 x → Bd 400 y → (Int.gcd o1 o2 = 1 → x * o1 + y * o2 = 1 ∧ (x.natAbs : Int) ≤ o2.natAbs + 1 ∧ (y.natAbs : Int) ≤ o1.natAbs + 2 * o2.natAbs + 1) → G (.tuple [.int x, .int y])
def leI (most : Int) : Dt → Bool
  | .int i => decide (i ≤ most)
  | _ => false
def R_law_level_drawn : List Dt → List Dt → (Dt → List Dt → Prop) → Prop := fun ds as G => ∃ (most : Int) (m : Nat), as = [.int most] ∧ Dice m ds ∧ 1 ≤ most ∧ most ≤ 100 ∧ m + 2000 < 2 ^ 60 ∧ ∀ (N : Int) (ds : List Dt), 1 ≤ N → N ≤ most → Dice (m + 2) ds → G (.int N) ds
def R_law_fraction_drawn : List Dt → List Dt → (Dt → List Dt → Prop) → Prop := fun ds as G => ∃ (most : Int) (m : Nat), as = [.int most] ∧ Dice m ds ∧ 1 ≤ most ∧ most ≤ 100 ∧ m + 2000 < 2 ^ 60 ∧ ∀ (p q : Int) (ds : List Dt), OkFr p q → p.natAbs ≤ 100 → q.natAbs ≤ 100 → Dice (m + 3) ds → G (.tuple [.int p, .int q]) ds
def R_law_rim_told : List Dt → (Dt → Prop) → Prop := fun ds G => ∃ N p q t : Int, ds = [.int N, .int p, .int q] ∧ 1 ≤ N ∧ N ≤ 100 ∧ OkFr p q ∧ Rim N p q t ∧ t ≤ rimG N q * rimM N q ∧ G (.tuple [.int t, .int (rimG N q)])
def gc1 (c : Int) : Dt → Bool
  | .int i => decide (((Int.gcd i c : Nat) : Int) = 1)
  | _ => false
def R_law_matrix_drawn : List Dt → List Dt → (Dt → List Dt → Prop) → Prop := fun ds as G => ∃ (N most : Int) (m : Nat), as = [.int N, .int most] ∧ Dice m ds ∧ 1 ≤ N ∧ N ≤ 100 ∧ 1 ≤ most ∧ most ≤ 10 ∧ m + 2000 < 2 ^ 60 ∧ ∀ (a b c d : Int) (ds : List Dt), a * d - b * c = 1 → N ∣ c → a.natAbs ≤ 10000 → b.natAbs ≤ 10000 → c.natAbs ≤ 10000 → d.natAbs ≤ 10000 → Dice (m + 3) ds → G (.tuple [.int a, .int b, .int c, .int d]) ds
def lenB : Dt → Bool
  | .tuple l => decide ((l.length : Int) = 4)
  | _ => false
def isG (N : Int) : Dt → Bool
  | .tuple [.int a, .int b, .int c, .int d] => decide (a * d - b * c = 1) && decide (c % N = 0)
  | _ => false
theorem isG_tup {N : Int} {v : Dt} (h : isG N v = true) : ∃ a b c d : Int, v = .tuple [.int a, .int b, .int c, .int d] := by
  unfold isG at h
  split at h
  · exact ⟨_, _, _, _, rfl⟩
  · cases h
theorem isG_no {N : Int} {l : List Dt} (h : ¬ decide ((l.length : Int) = 4) = true) : isG N (.tuple l) = false := by
  cases hg : isG N (.tuple l) with
  | false => rfl
  | true =>
    obtain ⟨a, b, c, d, e⟩ := isG_tup hg
    rw [Dt.tuple.injEq] at e
    subst e
    exact absurd rfl h
theorem int_of {x : Dt} (h : (!isI x || isB x) = false) : ∃ a : Int, x = .int a := by
  cases x <;> first | exact ⟨_, rfl⟩ | cases h
theorem four_of {l : List Dt} (hl : (l.length : Int) = 4) (h : (!eqD (.list ((l.filter fun x => !isI x || isB x).map fun x => x)) (.list [])) = false) : ∃ a b c d : Int, l = [.int a, .int b, .int c, .int d] := by
  have hf : l.filter (fun x => !isI x || isB x) = [] := by
    cases q : l.filter (fun x => !isI x || isB x) with
    | nil => rfl
    | cons a r =>
      rw [q] at h
      have h : (!eqD (.list (a :: r.map fun x => x)) (.list [])) = false := h
      rw [eqD_l0] at h; cases h
  have ha : ∀ x ∈ l, ∃ a : Int, x = .int a := fun x hx => int_of (by
    cases q : (!isI x || isB x) with
    | false => rfl
    | true =>
      have : x ∈ l.filter (fun x => !isI x || isB x) := List.mem_filter.mpr ⟨hx, q⟩
      rw [hf] at this; cases this)
  match l, hl, ha with
  | [a, b, c, d], _, hw =>
    obtain ⟨a, rfl⟩ := hw a (by simp)
    obtain ⟨b, rfl⟩ := hw b (by simp)
    obtain ⟨c, rfl⟩ := hw c (by simp)
    obtain ⟨d, rfl⟩ := hw d (by simp)
    exact ⟨a, b, c, d, rfl⟩
  | [], hl, _ => simp at hl
  | [_], hl, _ => simp at hl
  | [_, _], hl, _ => simp at hl
  | [_, _, _], hl, _ => simp at hl
  | _ :: _ :: _ :: _ :: _ :: _, hl, _ => simp at hl; omega
def R_law_is_group : List Dt → (Dt → Prop) → Prop := fun ds G => ∃ (N : Int) (v : Dt), ds = [.int N, v] ∧ 1 ≤ N ∧ N ≤ 100 ∧ OkV v ∧ BdM v ∧ G (.bool (isG N v))
theorem isP_G {N p q r u : Int} {v : Dt} (h : isP N p q r u v = true) : isG N v = true := by
  unfold isP at h
  split at h
  · rw [Bool.and_eq_true, Bool.and_eq_true] at h
    show (decide _ && decide _) = true
    rw [h.1, h.2.1]; rfl
  · cases h
theorem isP_and {N p q r u : Int} {v : Dt} : (isG N v && isP N p q r u v) = isP N p q r u v := by
  cases h : isP N p q r u v with
  | false => exact Bool.and_false _
  | true => rw [isP_G h]; rfl
def R_law_is_paper : List Dt → (Dt → Prop) → Prop := fun ds G => ∃ (N p q r u : Int) (v : Dt), ds = [.int N, .tuple [.int p, .int q], .tuple [.int r, .int u], v] ∧ 1 ≤ N ∧ N ≤ 100 ∧ OkFr p q ∧ OkV v ∧ BdM v ∧ G (.bool (isP N p q r u v))
def R_law_head : List Dt → (Dt → Prop) → Prop := fun ds G => ∃ p q : Int, ds = [.tuple [.int p, .int q]] ∧ Bd 70 p ∧ Bd 70 q ∧ ∀ x y : Int, Bd 400 x → Bd 400 y → G (.tuple [.int p, .int (-y), .int q, .int x])
def R_law_between : List Dt → (Dt → Prop) → Prop := fun ds G => ∃ p q r u k : Int, ds = [.tuple [.int p, .int q], .tuple [.int r, .int u], .int k] ∧ Bd 70 p ∧ Bd 70 q ∧ Bd 70 r ∧ Bd 70 u ∧ Bd 60 k ∧ ∀ a b c d : Int, Bd 1000 a → Bd 1000 b → Bd 1000 c → Bd 1000 d → G (.tuple [.int a, .int b, .int c, .int d])
theorem okV_tup {l : List Dt} (h : l.length ≤ 1000) (h2 : ∀ x ∈ l, notO x = true ∧ AtD x) : OkV (.tuple l) := ⟨rfl, fun l' e => by cases e; exact ⟨h, h2⟩⟩
theorem okV_o {v : Dt} (h : notO v = true) (h2 : isT v = false) : OkV v := ⟨h, fun l e => by subst e; cases h2⟩
def Fine (v : Dt) : Prop := OkV v ∧ BdM v
theorem fine_M {a b c d : Int} (ha : Bd 1000 a) (hb : Bd 1000 b) (hc : Bd 1000 c) (hd : Bd 1000 d) : Fine (.tuple [.int a, .int b, .int c, .int d]) := by
  refine ⟨okV_tup (Nat.le_of_ble_eq_true rfl) fun x hx => ?_, fun a' b' c' d' e => ?_⟩
  · simp only [List.mem_cons, List.not_mem_nil, or_false] at hx
    rcases hx with h | h | h | h <;> subst h <;> exact ⟨rfl, atD_int _⟩
  · cases e; exact ⟨ha, hb, hc, hd⟩
theorem fine_o {v : Dt} (h : notO v = true) (h2 : isT v = false) : Fine v := ⟨okV_o h h2, fun a b c d e => by subst e; cases h2⟩
theorem fine_3 {a b c : Int} : Fine (.tuple [.int a, .int b, .int c]) := by
  refine ⟨okV_tup (Nat.le_of_ble_eq_true rfl) fun x hx => ?_, fun a' b' c' d' e => by cases e⟩
  simp only [List.mem_cons, List.not_mem_nil, or_false] at hx
  rcases hx with h | h | h <;> subst h <;> exact ⟨rfl, atD_int _⟩
theorem fine_x {a b c : Int} {x : Dt} (h1 : notO x = true) (h2 : AtD x) (h3 : isW x = false) : Fine (.tuple [.int a, .int b, .int c, x]) := by
  refine ⟨okV_tup (Nat.le_of_ble_eq_true rfl) fun y hx => ?_, fun a' b' c' d' e => by cases e; cases h3⟩
  simp only [List.mem_cons, List.not_mem_nil, or_false] at hx
  rcases hx with h | h | h | h <;> subst h <;> first | exact ⟨rfl, atD_int _⟩ | exact ⟨h1, h2⟩
theorem fine_5 {a b c d e : Int} : Fine (.tuple [.int a, .int b, .int c, .int d, .int e]) := by
  refine ⟨okV_tup (Nat.le_of_ble_eq_true rfl) fun x hx => ?_, fun a' b' c' d' e => by cases e⟩
  simp only [List.mem_cons, List.not_mem_nil, or_false] at hx
  rcases hx with h | h | h | h | h <;> subst h <;> exact ⟨rfl, atD_int _⟩
def gvB : Dt → Dt
  | .int i => if ([0, 1].any fun n => n == i) = true then .bool (eqD (.int i) (.int 1)) else .int i
  | _ => .none
theorem gvB_at (i : Int) : notO (gvB (.int i)) = true ∧ AtD (gvB (.int i)) := by
  simp only [gvB]
  split
  · exact ⟨rfl, atD_bool _⟩
  · exact ⟨rfl, atD_int _⟩
theorem gvB_int {i j : Int} (h : gvB (.int i) = .int j) : i = j := by
  simp only [gvB] at h
  split at h
  · cases h
  · cases h; rfl
theorem Bdlg {n : Nat} {i : Int} (h : Bd n i) (h0 : 0 < n) (h1 : n ≤ 1920) : i.natAbs.log2 < 1920 := Nat.lt_of_lt_of_le (PySem.Flt.log2_lt_of h0 h) h1
theorem fine_B {a b c d : Int} (ha : Bd 1000 a) (hb : Bd 1000 b) (hc : Bd 1000 c) (hd : Bd 1000 d) : Fine (.tuple [gvB (.int a), gvB (.int b), gvB (.int c), gvB (.int d)]) := by
  refine ⟨okV_tup (Nat.le_of_ble_eq_true rfl) fun x hx => ?_, fun a' b' c' d' e => ?_⟩
  · simp only [List.mem_cons, List.not_mem_nil, or_false] at hx
    rcases hx with h | h | h | h <;> subst h <;> exact gvB_at _
  · simp only [Dt.tuple.injEq, List.cons.injEq, and_true] at e
    obtain ⟨e1, e2, e3, e4⟩ := e
    rw [← gvB_int e1, ← gvB_int e2, ← gvB_int e3, ← gvB_int e4]
    exact ⟨ha, hb, hc, hd⟩
def R_law_near : List Dt → List Dt → (Dt → List Dt → Prop) → Prop := fun ds as G => ∃ (N a b c d : Int) (o : Dt) (m : Nat), as = [.int N, o, .tuple [.int a, .int b, .int c, .int d]] ∧ Dice m ds ∧ 1 ≤ N ∧ N ≤ 100 ∧ m + 2500 < 2 ^ 60 ∧ Bd 400 a ∧ Bd 400 b ∧ Bd 400 c ∧ Bd 400 d ∧ ∀ (vs ds : List Dt), (∀ v ∈ vs, Fine v) → vs.length ≤ 100 → Dice (m + 6) ds → G (.list vs) ds
theorem shD_ite (b : Bool) : shD (.str (if b = true then "True" else "False")) := by
  cases b
  · exact ⟨rfl, by
      have := (atD_str "False").2.1
      show ((toPy (.str "False")).canLay0 && decide _) = true
      rw [this]; rfl⟩
  · exact ⟨rfl, by
      have := (atD_str "True").2.1
      show ((toPy (.str "True")).canLay0 && decide _) = true
      rw [this]; rfl⟩
theorem eqD_strs (x : Str) : eqD (.str x) (.str x) = true := by simp [eqD, toPy, PyData.eqv]
theorem isP_true {N p q a c e f g h : Int} (hE : OkFr a c) (hd : e * h - f * g = 1) (hn : N ∣ g) (h1 : e * p + f * q = a) (h2 : g * p + h * q = c) : isP N p q a c (.tuple [.int e, .int f, .int g, .int h]) = true := by
  show (decide (e * h - f * g = 1) && (decide (g % N = 0) && (decide ((nrm (e * p + f * q) (g * p + h * q)).1 = a) && decide ((nrm (e * p + f * q) (g * p + h * q)).2 = c)))) = true
  rw [h1, h2, nrm_self hE.1]
  simp [hd, Int.emod_eq_zero_of_dvd hn]
def R_law_pair_right : List Dt → List Dt → (Dt → List Dt → Prop) → Prop := fun ds as G => ∃ (N p q a c : Int) (m : Nat), as = [.int N, .tuple [.int p, .int q], .tuple [.int a, .int c]] ∧ Dice m ds ∧ 1 ≤ N ∧ N ≤ 100 ∧ OkFr p q ∧ OkFr a c ∧ m + 3000 < 2 ^ 60 ∧ ∀ ds : List Dt, Dice (m + 20) ds → G (.bool true) ds
theorem jOf {a : Int} (h : a.natAbs ≤ 1000000) : isJ (.int a) = true := by
  show (decide _ && decide _) = true
  rw [decide_eq_true (by omega), decide_eq_true (by omega)]; rfl
theorem bOf {a : Int} (h : a.natAbs ≤ 1000000) : Bd 1000 a := (Bd.mono (n := 30) (by unfold Bd; omega) (by decide))
theorem frLed {a b c d p q : Int} (h : ¬(a * p + b * q = 0 ∧ c * p + d * q = 0)) (ha : a.natAbs ≤ 10000) (hb : b.natAbs ≤ 10000) (hc : c.natAbs ≤ 10000) (hd : d.natAbs ≤ 10000) (hp : p.natAbs ≤ 100) (hq : q.natAbs ≤ 100) : OkFr (nrm (a * p + b * q) (c * p + d * q)).1 (nrm (a * p + b * q) (c * p + d * q)).2 := by
  obtain ⟨e, _, _, _, F⟩ := nrm_fr h
  obtain ⟨s1, s2⟩ := nrm_sz h
  have k1 : (a * p).natAbs ≤ 10000 * 100 := by rw [Int.natAbs_mul]; exact Nat.mul_le_mul ha hp
  have k2 : (b * q).natAbs ≤ 10000 * 100 := by rw [Int.natAbs_mul]; exact Nat.mul_le_mul hb hq
  have k3 : (c * p).natAbs ≤ 10000 * 100 := by rw [Int.natAbs_mul]; exact Nat.mul_le_mul hc hp
  have k4 : (d * q).natAbs ≤ 10000 * 100 := by rw [Int.natAbs_mul]; exact Nat.mul_le_mul hd hq
  exact ⟨F, by omega, by omega, by omega⟩
def R_law_right : List Dt → List Dt → (Dt → List Dt → Prop) → Prop := fun ds as G => ∃ (m : Nat), as = [] ∧ Dice m ds ∧ m + 4000 < 2 ^ 60 ∧ ∀ ds : List Dt, Dice (m + 100) ds → G (.bool true) ds
abbrev Rlaw : List Dt → (Dt → Prop) → Prop := RLaw0
end Pf

set_option Elab.async false
set_option linter.all false
set_option maxRecDepth 100000
set_option maxHeartbeats 16000000
namespace Pf
open PySem PySem.Spec PyProof.Rows L2 Lv Ax
local macro_rules | `(tactic| walk_at "wp") => `(tactic| simp only [false_or, or_false, Sl.fz.injEq, isi_tt, isi_tl, isi_ti, isi_tn, isi_ii, isi_bi, some_eq, Int.cast_ofNat_Int, Int.reduceEq, eq_self, not_true_eq_false, shD_i', shD_2, shD_3, shD_4, shD_b', shD_n', at0, at1, at2, at3, ix30, ix31, ix32, eqz_ii, eqz_tt, eqz_ll, eqz_00, eqz_l0, eqz_0l, eqz_bb, eqz_nn, eqz_nt, eqz_tn, not_ex, exists_eq', len4, len2, wpB_dead, Bool.and_eq_true, Bool.or_eq_true, Bool.and_true, Bool.true_and, Bool.and_false, Bool.false_and, imp_false, Bool.and_eq_false_imp, Int.reduceNeg, wpE_v, wpE_gi, wpE_int, wpE_bool, wpE_non, wpE_str, wpE_bin, wpE_neg, wpE_cmp, wpE_eq, wpE_ne, wpE_isn, wpE_isnt, wpE_chain, wpE_chain3, wpE_and, wpE_or, wpE_not, wpE_ife, wpE_tup, wpE_lst, wpE_dnew, wpE_call, wpE_callo, wpE_b1, wpE_b2, wpE_isi, wpE_ix, wpE_ixo, wpE_sl, wpE_slt, wpE_inn, wpE_lc, wpA_nil, wpA_cons, wpT_nil, wpT_cmp, wpT_eq, wpT_ne, wpT_isn, wpT_isnt, wpT_chain, wpT_chain3, wpT_and, wpT_or, wpT_not, wpT_inn, wpT_call, wpT_callo, wpT_v, wpT_b1, wpT_isi, wpT_bin, wpO_nil, wpO_v, wpO_int, wpO_neg, wpO_bin, wpI_range1, wpI_range2, wpI_zip, wpI_enum, wpI_v, wpI_call, wpI_callo, wpI_tup, wpI_lst, wpI_b1, wpI_ix, wpI_bin, wpI_sl, wpL_lst, wpL_calll, wpL_lc, wpB_skip, wpB_frz, wpB_pass, wpB_exp, wpB_set, wpB_setL, wpB_asg, wpB_par, wpB_par3, wpB_ret, wpB_retN, wpB_retL, wpB_retO, wpB_ife, wpB_app, wpB_sto, wpB_aug, wpB_augo, wpB_brk, wpB_cont, wpE_p1, wpE_p2, wpE_p3g, wpE_dino, wpE_dgeto, wpE_dvals, wpT_p1, wpT_p2, wpT_dino, wpI_p1, wpI_p2, wpI_dkeys, wpI_ditems, wpB_dnewK, wpB_dnewT, wpB_dput, wpB_dputT, p1_boolI, p1_boolB, p1_min, p1_max, p2P_g, p2P_ix, p2P_in, p2P_ni, p2P_iq, p2P_nq, p2P_dm, p2_ix, p2_in, p2_ni, p2_g, p2_iq, p2_nq, p2_dm, p3_g, ownAt_z, ownAt_s, vals_K, vals_T, dk_K, isDt_K, isDt_T, owdt_K, owdt_T, dget_K, keyOf_i, Option.isSome_some, Option.isSome_none, Ow.dK.injEq, Ow.dT.injEq, fzAt_z, fzAt_s, owAt_z, owAt_s, bin_add, bin_cat, bin_catT, bin_sub, bin_mul, bin_rep, bin_mod, bin_fdiv, bin_pow, cmp_ii, cm_lt, cm_le, cm_gt, cm_ge, neg_i, seq_l, seq_t, seq_s, bool_b, int_i, tru_b, tru_i, tru_n, tru_l, tru_t, b1_abs, b1_int, b1_intb, b1_len, b1_sum, b1_all, b1_any, b1_tuple, b1_list, b1_str, b1_repr, b1_sorted, b2_gcd, b2_max, b2_min, ix_, inn_, bindT_v, bindT_t, bindTs_n, bindTs_c, aug_a, aug_s, wpB_fo, lf_, lfO_, lfL_, ph_k, nk_, ph_r, ph_o, ph_l, List.getElem?_cons_zero, List.getElem?_cons_succ, List.set_cons_zero, List.set_cons_succ, Option.some.injEq, exists_eq_left', exists_eq_left, exists_eq, exists_and_left, decide_eq_true_eq, decide_eq_false_iff_not, true_and, and_true, Dt.int.injEq, Dt.tuple.injEq, Dt.list.injEq, Dt.bool.injEq, List.cons.injEq, and_assoc, Sl.ow.injEq, Bool.not_eq_true, Bool.not_eq_eq_eq_not, Bool.not_true, Bool.not_false, List.length_cons, List.length_nil, Bool.true_eq_false, Bool.false_eq_true, false_implies, true_implies, reduceCtorEq, forall_const, implies_true, not_false_eq_true, not_true_eq_false, if_true, if_false, ite_true, ite_false, Nat.zero_add, Nat.reduceAdd, Nat.reduceLeDiff, Nat.reduceLT, false_and, and_false])
local macro_rules | `(tactic| walk_at "fo") => `(tactic| simp only [false_or, or_false, mrg, fzOnly, List.contains_cons, List.contains_nil, Nat.reduceBEq, Bool.or_false, Bool.or_true, Bool.false_or, Bool.true_or, List.nil_append, List.cons_append, zips, enums, wipe1, wipe2, wipe4, Sl.fz.injEq, shD_i', shD_2, shD_3, shD_4, shD_b', shD_n', at0, at1, at2, at3, ix30, ix31, ix32, eqz_ii, eqz_tt, eqz_ll, eqz_00, eqz_l0, eqz_0l, eqz_bb, eqz_nn, eqz_nt, eqz_tn, not_ex, exists_eq', len4, len2, wpB_dead, Bool.and_eq_true, Bool.or_eq_true, Bool.and_true, Bool.true_and, Bool.and_false, Bool.false_and, imp_false, Bool.and_eq_false_imp, Int.reduceNeg, foB_, lcB_, runF_n, runF_c, runC_n, runC_c, wpE_v, wpE_gi, wpE_int, wpE_bool, wpE_non, wpE_str, wpE_bin, wpE_neg, wpE_cmp, wpE_eq, wpE_ne, wpE_isn, wpE_isnt, wpE_chain, wpE_chain3, wpE_and, wpE_or, wpE_not, wpE_ife, wpE_tup, wpE_lst, wpE_dnew, wpE_call, wpE_callo, wpE_b1, wpE_b2, wpE_isi, wpE_ix, wpE_ixo, wpE_sl, wpE_slt, wpE_inn, wpE_lc, wpA_nil, wpA_cons, wpT_nil, wpT_cmp, wpT_eq, wpT_ne, wpT_isn, wpT_isnt, wpT_chain, wpT_chain3, wpT_and, wpT_or, wpT_not, wpT_inn, wpT_call, wpT_callo, wpT_v, wpT_b1, wpT_isi, wpT_bin, wpO_nil, wpO_v, wpO_int, wpO_neg, wpO_bin, wpI_range1, wpI_range2, wpI_zip, wpI_enum, wpI_v, wpI_call, wpI_callo, wpI_tup, wpI_lst, wpI_b1, wpI_ix, wpI_bin, wpI_sl, wpL_lst, wpL_calll, wpL_lc, wpB_skip, wpB_frz, wpB_pass, wpB_exp, wpB_set, wpB_setL, wpB_asg, wpB_par, wpB_par3, wpB_ret, wpB_retN, wpB_retL, wpB_retO, wpB_ife, wpB_app, wpB_sto, wpB_aug, wpB_augo, wpB_brk, wpB_cont, wpE_p1, wpE_p2, wpE_p3g, wpE_dino, wpE_dgeto, wpE_dvals, wpT_p1, wpT_p2, wpT_dino, wpI_p1, wpI_p2, wpI_dkeys, wpI_ditems, wpB_dnewK, wpB_dnewT, wpB_dput, wpB_dputT, p1_boolI, p1_boolB, p1_min, p1_max, p2P_g, p2P_ix, p2P_in, p2P_ni, p2P_iq, p2P_nq, p2P_dm, p2_ix, p2_in, p2_ni, p2_g, p2_iq, p2_nq, p2_dm, p3_g, ownAt_z, ownAt_s, vals_K, vals_T, dk_K, isDt_K, isDt_T, owdt_K, owdt_T, dget_K, keyOf_i, Option.isSome_some, Option.isSome_none, Ow.dK.injEq, Ow.dT.injEq, fzAt_z, fzAt_s, owAt_z, owAt_s, bin_add, bin_cat, bin_catT, bin_sub, bin_mul, bin_rep, bin_mod, bin_fdiv, bin_pow, cmp_ii, cm_lt, cm_le, cm_gt, cm_ge, neg_i, seq_l, seq_t, seq_s, bool_b, int_i, tru_b, tru_i, tru_n, tru_l, tru_t, b1_abs, b1_int, b1_intb, b1_len, b1_sum, b1_all, b1_any, b1_tuple, b1_list, b1_str, b1_repr, b1_sorted, b2_gcd, b2_max, b2_min, ix_, inn_, bindT_v, bindT_t, bindTs_n, bindTs_c, aug_a, aug_s, wpB_fo, lf_, lfO_, lfL_, ph_k, nk_, ph_r, ph_o, ph_l, List.getElem?_cons_zero, List.getElem?_cons_succ, List.set_cons_zero, List.set_cons_succ, Option.some.injEq, exists_eq_left', exists_eq_left, exists_eq, exists_and_left, decide_eq_true_eq, decide_eq_false_iff_not, true_and, and_true, Dt.int.injEq, Dt.tuple.injEq, Dt.list.injEq, Dt.bool.injEq, List.cons.injEq, and_assoc, Sl.ow.injEq, Bool.not_eq_true, Bool.not_eq_eq_eq_not, Bool.not_true, Bool.not_false, List.length_cons, List.length_nil, Bool.true_eq_false, Bool.false_eq_true, false_implies, true_implies, reduceCtorEq, forall_const, implies_true, not_false_eq_true, not_true_eq_false, if_true, if_false, ite_true, ite_false, Nat.zero_add, Nat.reduceAdd, Nat.reduceLeDiff, Nat.reduceLT, false_and, and_false])

local macro_rules | `(tactic| walk_at "bd") => `(tactic| repeat (first | with_reducible assumption | exact Bd.lit 12 (by decide +kernel) | exact Bd.lit 80 (by decide +kernel) | exact Bd.lit 500 (by decide +kernel) | with_reducible apply Bd.mod | with_reducible apply Bd.mul | with_reducible apply Bd.add | with_reducible apply Bd.sub | with_reducible apply Bd.neg | with_reducible apply Bd.div | with_reducible apply Bd.ite | decide | omega))
local macro_rules | `(tactic| walk_at "mul_ok") => `(tactic| (apply Bd.cmul; (focus walk_at "bd"); (focus walk_at "bd"); decide))
local macro_rules | `(tactic| walk_at "pos_ok") => `(tactic| first | assumption | decide | omega)
local macro_rules | `(tactic| walk_at "divv_ok") => `(tactic| (apply Bd.cdivV; (focus (first | assumption | omega)); (focus walk_at "bd"); decide; decide))
local macro_rules | `(tactic| walk_at "one") => `(tactic| first | with_reducible assumption | exact shD_dep rfl | exact Nat.le_of_ble_eq_true rfl | (with_reducible show CMulX _ _; walk_at "mul_ok") | (with_reducible show CDivV _ _; walk_at "divv_ok") | (with_reducible show Bd _ _; walk_at "bd") | omega | rfl | decide)
local macro_rules | `(tactic| walk_at "cj") => `(tactic| repeat' (apply And.intro))


theorem jbd2 {a : Int} (h : isJ (.int a) = true) : Bd 490 a := by
  have h : (decide _ && decide _) = true := h
  rw [Bool.and_eq_true, decide_eq_true_eq, decide_eq_true_eq] at h
  exact (Bd.of (n := 200) (m := 1000000000000000000000000000000000000000000000000000000000000) (by omega) (by omega) (by decide +kernel)).mono (by decide)
def Rmatrix_determinant := R_determinant
def wid (N q : Int) : Int := N / ((Int.gcd N (q * q) : Nat) : Int)
def R_width : List Dt → (Dt → Prop) → Prop := fun ds G => ∃ N p q : Int, ds = [.int N, .tuple [.int p, .int q]] ∧ 1 ≤ N ∧ N ≤ 100 ∧ Bd 70 q ∧ G (.int (wid N q))
def Rkeeper_of : List Dt → (Dt → Prop) → Prop := fun ds G => ∃ N p q : Int, ds = [.int N, .tuple [.int p, .int q]] ∧ 1 ≤ N ∧ N ≤ 100 ∧ OkFr p q ∧ G (.tuple [.int (1 - p * q * wid N q), .int (p * p * wid N q), .int (-q * q * wid N q), .int (1 + p * q * wid N q)])
def Ris_member : List Dt → (Dt → Prop) → Prop := fun ds G => ∃ (N : Int) (v : Dt), ds = [.int N, v] ∧ 1 ≤ N ∧ N ≤ 100 ∧ OkV v ∧ BdM v ∧ G (.bool (isG N v))
def Rproduct_matrix := R_law_matrix_times
def Rmatrix_product : List Dt → (Dt → Prop) → Prop := fun ds G => ∃ a b c d e f g h : Int, ds = [.tuple [.int a, .int b, .int c, .int d], .tuple [.int e, .int f, .int g, .int h]] ∧ (isJ (.int a) = true ∧ isJ (.int b) = true ∧ isJ (.int c) = true ∧ isJ (.int d) = true) ∧ (isJ (.int e) = true ∧ isJ (.int f) = true ∧ isJ (.int g) = true ∧ isJ (.int h) = true) ∧ G (.tuple [.int (a * e + b * g), .int (a * f + b * h), .int (c * e + d * g), .int (c * f + d * h)])
def Rmatrix_back : List Dt → (Dt → Prop) → Prop := fun ds G => ∃ a b c d : Int, ds = [.tuple [.int a, .int b, .int c, .int d]] ∧ (isJ (.int a) = true ∧ isJ (.int b) = true ∧ isJ (.int c) = true ∧ isJ (.int d) = true) ∧ a * d - b * c = 1 ∧ G (.tuple [.int d, .int (-b), .int (-c), .int a])
def dvB (n : Int) : Dt → Bool
  | .int i => decide (n % i = 0)
  | _ => false
def R_law_divisors : List Dt → (Dt → Prop) → Prop := fun ds G => ∃ n : Int, ds = [.int n] ∧ 1 ≤ n ∧ n ≤ 100 ∧ G (.list ((rng 1 n.toNat).filter (dvB n)))
def R_law_width := R_width

def Cis_whole : Ck := ⟨["value"], [], [], [], ["isinstance", "bool", "int"], false, []⟩
def bis_whole : Ax.S := (.ret (.and (.isi .int (.v 0)) (.not (.isi .bool (.v 0)))))

def phis_whole (κ : Xn → List Sl → Prop) : Ph := ⟨fun _ => rNo, fun _ => oNo, fun _ => lNo, κ⟩
theorem wis_whole (κ : Xn → List Sl → Prop) (ds : List Dt) (G : Dt → Prop) (h : Ris_whole ds G) : ds.length = 1 ∧ wpB (phis_whole κ) bis_whole (ini Cis_whole.N ds) { nx := fun _ => G .none, rt := fun d _ => G d } := by
  obtain ⟨d, rfl, hd, hG⟩ := h
  refine ⟨rfl, ?_⟩
  show wpB _ _ [.fz _] _
  unfold bis_whole phis_whole
  walk_at "wp"
  simp only [isi_int _ hd, isi_bool _ hd]
  walk_at "wp"
  cases d <;> first | (cases hd; done) | simpa [isI, isB, isW] using hG
def Cis_integer : Ck := ⟨["value"], [], [], [], ["isinstance", "bool", "int"], false, [("_TOO_LONG", 1000000000000000000000000000000000000000000000000000000000000)]⟩
def bis_integer : Ax.S := (.ret (.and (.isi .int (.v 0)) (.and (.not (.isi .bool (.v 0))) (.chain .lt .lt (.neg (.gi "_TOO_LONG" 1000000000000000000000000000000000000000000000000000000000000)) (.v 0) (.gi "_TOO_LONG" 1000000000000000000000000000000000000000000000000000000000000)))))

def phis_integer (κ : Xn → List Sl → Prop) : Ph := ⟨fun _ => rNo, fun _ => oNo, fun _ => lNo, κ⟩
theorem wis_integer (κ : Xn → List Sl → Prop) (ds : List Dt) (G : Dt → Prop) (h : Ris_integer ds G) : ds.length = 1 ∧ wpB (phis_integer κ) bis_integer (ini Cis_integer.N ds) { nx := fun _ => G .none, rt := fun d _ => G d } := by
  obtain ⟨d, rfl, hd, hG⟩ := h
  refine ⟨rfl, ?_⟩
  show wpB _ _ [.fz _] _
  unfold bis_integer phis_integer
  walk_at "wp"
  simp only [isi_int _ hd, isi_bool _ hd]
  walk_at "wp"
  have no : isJ d = false → G (.bool false) := fun h => by rw [h] at hG; exact hG
  refine ⟨fun h1 => ⟨fun h2 => ?_, fun h2 => no ?_⟩, fun h1 => no ?_⟩
  · obtain ⟨i, rfl⟩ : ∃ i : Int, d = .int i := by cases d <;> first | exact ⟨_, rfl⟩ | (cases h1; done) | (cases h2; done)
    walk_at "wp"
    refine ⟨fun h1 => ?_, fun h1 => ?_⟩
    · have e : isJ (.int i) = decide (i < 1000000000000000000000000000000000000000000000000000000000000) := by simp [isJ, h1]
      rw [← e]; exact hG
    · have e : isJ (.int i) = false := by simp [isJ, h1]
      rw [← e]; exact hG
  · cases d <;> first | rfl | (cases h1; done) | (cases h2; done)
  · cases d <;> first | rfl | (cases h1; done)
def Cis_level : Ck := ⟨["value"], ["is_integer"], [], [], [], false, [("MAX_LEVEL", 100)]⟩
def bis_level : Ax.S := (.ret (.and (.call 0 (.cons (.v 0) .nil)) (.chain .le .le (.int 1) (.v 0) (.gi "MAX_LEVEL" 100))))

def phis_level (κ : Xn → List Sl → Prop) : Ph := ⟨fun | 0 => lf Ris_integer | _ => rNo, fun _ => oNo, fun _ => lNo, κ⟩
theorem wis_level (κ : Xn → List Sl → Prop) (ds : List Dt) (G : Dt → Prop) (h : Ris_level ds G) : ds.length = 1 ∧ wpB (phis_level κ) bis_level (ini Cis_level.N ds) { nx := fun _ => G .none, rt := fun d _ => G d } := by
  obtain ⟨d, rfl, hd, hG⟩ := h
  refine ⟨rfl, ?_⟩
  show wpB _ _ [.fz _] _
  unfold bis_level phis_level
  walk_at "wp"
  try simp only [Ris_integer]
  try walk_at "wp"
  refine ⟨hd, fun h => ?_, fun h => ?_⟩
  · obtain ⟨i, rfl⟩ : ∃ i : Int, d = .int i := by cases d <;> first | exact ⟨_, rfl⟩ | cases h
    walk_at "wp"
    refine ⟨fun h1 => ?_, fun h1 => ?_⟩
    · have e : isLv (.int i) = decide (i ≤ 100) := by simp [isLv, h1]
      rw [← e]; exact hG
    · have e : isLv (.int i) = false := by simp [isLv, h1]
      rw [← e]; exact hG
  · have e : isLv d = false := by
      cases d with
      | int i =>
        have h : (decide _ && decide _) = false := h
        simp only [isLv, Bool.and_eq_false_iff, decide_eq_false_iff_not] at h ⊢
        omega
      | _ => rfl
    rw [e] at hG
    exact hG
def Ccheck_level : Ck := ⟨["level"], ["is_level"], [], [], [], false, []⟩
def bcheck_level : Ax.S := (.ife (.not (.call 0 (.cons (.v 0) .nil))) .dead .skip .skip)

def phcheck_level (κ : Xn → List Sl → Prop) : Ph := ⟨fun | 0 => lf Ris_level | _ => rNo, fun _ => oNo, fun _ => lNo, κ⟩
theorem wcheck_level (κ : Xn → List Sl → Prop) (ds : List Dt) (G : Dt → Prop) (h : Rcheck_level ds G) : ds.length = 1 ∧ wpB (phcheck_level κ) bcheck_level (ini Ccheck_level.N ds) { nx := fun _ => G .none, rt := fun d _ => G d } := by
  obtain ⟨n, rfl, h1, h2, hG⟩ := h
  refine ⟨rfl, ?_⟩
  show wpB _ _ [.fz _] _
  unfold bcheck_level phcheck_level
  walk_at "wp"
  try simp only [Ris_level]
  try walk_at "wp"
  exact ⟨rfl, by simp [isLv, h1, h2], fun _ => hG⟩
def Ccheck_matrix : Ck := ⟨["matrix", "entry"], ["is_integer"], [], [], ["all", "len", "isinstance", "tuple"], false, []⟩
def bcheck_matrix : Ax.S := (.ife (.or (.not (.isi .tuple (.v 0))) (.or (.ne (.b1 .len (.v 0)) (.int 4)) (.not (.b1 .all (.lc [1] (.v 1) (.v 0) .nil (.call 0 (.cons (.v 1) .nil))))))) .dead .skip .skip)

def phcheck_matrix (κ : Xn → List Sl → Prop) : Ph := ⟨fun | 0 => lf Ris_integer | _ => rNo, fun _ => oNo, fun _ => lNo, κ⟩
theorem wcheck_matrix (κ : Xn → List Sl → Prop) (ds : List Dt) (G : Dt → Prop) (h : Rcheck_matrix ds G) : ds.length = 1 ∧ wpB (phcheck_matrix κ) bcheck_matrix (ini Ccheck_matrix.N ds) { nx := fun _ => G .none, rt := fun d _ => G d } := by
  obtain ⟨a, b, c, d, rfl, h1, h2, h3, h4, hG⟩ := h
  refine ⟨rfl, ?_⟩
  show wpB _ _ [.fz _, .no] _
  unfold bcheck_matrix phcheck_matrix
  walk_at "wp"
  try simp only [Ris_integer]
  try walk_at "wp"
  refine ⟨rfl, ?_⟩
  refine runC_all (fun x => .bool (isJ x)) (fun x hx k hk => ?_) ?_
  · walk_at "fo"
    simp only [Ris_integer]
    walk_at "fo"
    refine ⟨?_, hk⟩
    simp at hx
    rcases hx with rfl | rfl | rfl | rfl <;> rfl
  · refine ⟨[true, true, true, true], by simp [h1, h2, h3, h4], ?_⟩
    simp
    exact hG
def Cis_fraction : Ck := ⟨["value", "top", "bottom", "part"], ["is_whole"], [], [], ["all", "len", "isinstance", "tuple"], true, [("MAX_PART", 100000000000000000000)]⟩
def bis_fraction : Ax.S := (.ife (.or (.not (.isi .tuple (.v 0))) (.or (.ne (.b1 .len (.v 0)) (.int 2)) (.not (.b1 .all (.lc [3] (.v 3) (.v 0) .nil (.call 0 (.cons (.v 3) .nil))))))) (.ret (.bool false)) .skip (.asg (.tup (.cons (.v 1) (.cons (.v 2) .nil))) (.v 0) (.ife (.or (.not (.chain .le .le (.neg (.gi "MAX_PART" 100000000000000000000)) (.v 1) (.gi "MAX_PART" 100000000000000000000))) (.not (.chain .le .le (.int 0) (.v 2) (.gi "MAX_PART" 100000000000000000000)))) (.ret (.bool false)) .skip (.ret (.ife (.eq (.v 2) (.int 0)) (.eq (.v 0) (.tup (.cons (.int 1) (.cons (.int 0) .nil)))) (.eq (.b2 .gcd (.v 1) (.v 2)) (.int 1)))))))

def phis_fraction (κ : Xn → List Sl → Prop) : Ph := ⟨fun | 0 => lf Ris_whole | _ => rNo, fun _ => oNo, fun _ => lNo, κ⟩
theorem wis_fraction (κ : Xn → List Sl → Prop) (ds : List Dt) (G : Dt → Prop) (h : Ris_fraction ds G) : ds.length = 1 ∧ wpB (phis_fraction κ) bis_fraction (ini Cis_fraction.N ds) { nx := fun _ => G .none, rt := fun d _ => G d } := by
  obtain ⟨p, q, rfl, hF, hG⟩ := h
  refine ⟨rfl, ?_⟩
  show wpB _ _ [.fz _, .no, .no, .no] _
  unfold bis_fraction phis_fraction
  walk_at "wp"
  try simp only [Ris_whole]
  try walk_at "wp"
  refine ⟨rfl, ?_⟩
  refine runC_all (fun x => .bool (isW x)) (fun x hx k hk => ?_) ?_
  · walk_at "fo"
    simp only [Ris_whole]
    walk_at "fo"
    refine ⟨?_, hk⟩
    simp at hx
    rcases hx with rfl | rfl <;> rfl
  · rw [mrg_wipe (by rfl)]
    refine ⟨[true, true], rfl, fun z => (by cases z), fun _ => ?_⟩
    walk_at "wp"
    obtain ⟨⟨f1, f2, f3⟩, f4, f5, f6⟩ := hF
    refine ⟨fun _ => ⟨fun z => absurd f5 z, fun _ => ⟨fun _ => ⟨fun z => absurd f6 z, fun _ => ⟨fun hq => ?_, fun hq => ?_⟩⟩, fun z => absurd f1 z⟩⟩, fun z => absurd f4 z⟩
    · rw [f3 hq, hq]
      exact hG
    · rw [f2]
      exact hG
def Ccheck_fraction : Ck := ⟨["fraction"], ["is_fraction"], [], [], [], false, []⟩
def bcheck_fraction : Ax.S := (.ife (.not (.call 0 (.cons (.v 0) .nil))) .dead .skip .skip)

def phcheck_fraction (κ : Xn → List Sl → Prop) : Ph := ⟨fun | 0 => lf Ris_fraction | _ => rNo, fun _ => oNo, fun _ => lNo, κ⟩
theorem wcheck_fraction (κ : Xn → List Sl → Prop) (ds : List Dt) (G : Dt → Prop) (h : Rcheck_fraction ds G) : ds.length = 1 ∧ wpB (phcheck_fraction κ) bcheck_fraction (ini Ccheck_fraction.N ds) { nx := fun _ => G .none, rt := fun d _ => G d } := by
  obtain ⟨p, q, rfl, hF, hG⟩ := h
  refine ⟨rfl, ?_⟩
  show wpB _ _ [.fz _] _
  unfold bcheck_fraction phcheck_fraction
  walk_at "wp"
  try simp only [Ris_fraction]
  try walk_at "wp"
  exact ⟨hF, hG⟩
def Cis_matrix : Ck := ⟨["value", "entry"], ["is_whole"], [], [], ["all", "len", "isinstance", "tuple"], false, []⟩
def bis_matrix : Ax.S := (.ret (.and (.isi .tuple (.v 0)) (.and (.eq (.b1 .len (.v 0)) (.int 4)) (.b1 .all (.lc [1] (.v 1) (.v 0) .nil (.call 0 (.cons (.v 1) .nil)))))))

def phis_matrix (κ : Xn → List Sl → Prop) : Ph := ⟨fun | 0 => lf Ris_whole | _ => rNo, fun _ => oNo, fun _ => lNo, κ⟩
theorem wis_matrix (κ : Xn → List Sl → Prop) (ds : List Dt) (G : Dt → Prop) (h : Ris_matrix ds G) : ds.length = 1 ∧ wpB (phis_matrix κ) bis_matrix (ini Cis_matrix.N ds) { nx := fun _ => G .none, rt := fun d _ => G d } := by
  obtain ⟨d, rfl, hd, hG⟩ := h
  refine ⟨rfl, ?_⟩
  show wpB _ _ [.fz _, .no] _
  unfold bis_matrix phis_matrix
  walk_at "wp"
  try simp only [Ris_whole]
  try walk_at "wp"
  simp only [isi_tuple _ hd.1]
  walk_at "wp"
  refine ⟨fun h => ?_, fun h => ?_⟩
  · obtain ⟨l, rfl⟩ : ∃ l, d = .tuple l := by cases d <;> first | exact ⟨_, rfl⟩ | cases h
    walk_at "wp"
    refine ⟨fun hl => ⟨rfl, by omega, ?_⟩, fun hl => ?_⟩
    · refine runC_all (fun x => .bool (isW x)) (fun x hx k hk => ?_) ?_
      · walk_at "fo"
        simp only [Ris_whole]
        walk_at "fo"
        exact ⟨((hd.2 l rfl).2 x hx).1, hk⟩
      · refine ⟨l.map isW, by rw [List.map_map]; rfl, ?_⟩
        have e : isM (.tuple l) = (l.map isW).all id := by
          show (decide _ && _) = _
          rw [decide_eq_true hl, Bool.true_and, List.all_map]; rfl
        rw [← e]; exact hG
    · have e : isM (.tuple l) = false := by
        show (decide _ && _) = _
        rw [decide_eq_false hl]; rfl
      rw [← e]; exact hG
  · have e : isM d = false := by cases d <;> first | rfl | cases h
    rw [← e]; exact hG
def Cmatrix_determinant : Ck := ⟨["matrix", "a", "b", "c", "d"], [], [], [], [], false, []⟩
def bmatrix_determinant : Ax.S := (.asg (.tup (.cons (.v 1) (.cons (.v 2) (.cons (.v 3) (.cons (.v 4) .nil))))) (.v 0) (.ret (.bin .sub (.bin .mul (.v 1) (.v 4)) (.bin .mul (.v 2) (.v 3)))))

def phmatrix_determinant (κ : Xn → List Sl → Prop) : Ph := ⟨fun _ => rNo, fun _ => oNo, fun _ => lNo, κ⟩
theorem wmatrix_determinant (κ : Xn → List Sl → Prop) (ds : List Dt) (G : Dt → Prop) (h : Rmatrix_determinant ds G) : ds.length = 1 ∧ wpB (phmatrix_determinant κ) bmatrix_determinant (ini Cmatrix_determinant.N ds) { nx := fun _ => G .none, rt := fun d _ => G d } := by
  obtain ⟨a, b, c, d, rfl, h1, h2, h3, h4, hG⟩ := h
  refine ⟨rfl, ?_⟩
  show wpB _ _ [.fz _, .no, .no, .no, .no] _
  unfold bmatrix_determinant phmatrix_determinant
  walk_at "wp"
  walk_at "cj" <;> walk_at "one"
def Cled_fraction : Ck := ⟨["matrix", "fraction"], ["check_matrix", "matrix_determinant", "check_fraction", "_led"], [], [], [], false, []⟩
def bled_fraction : Ax.S := (.exp (.call 0 (.cons (.v 0) .nil)) (.ife (.eq (.call 1 (.cons (.v 0) .nil)) (.int 0)) .dead .skip (.exp (.call 2 (.cons (.v 1) .nil)) (.ret (.call 3 (.cons (.v 0) (.cons (.v 1) .nil)))))))

def phled_fraction (κ : Xn → List Sl → Prop) : Ph := ⟨fun | 0 => lf Rcheck_matrix | 1 => lf Rmatrix_determinant | 2 => lf Rcheck_fraction | 3 => lf R_led | _ => rNo, fun _ => oNo, fun _ => lNo, κ⟩
theorem wled_fraction (κ : Xn → List Sl → Prop) (ds : List Dt) (G : Dt → Prop) (h : Rled_fraction ds G) : ds.length = 2 ∧ wpB (phled_fraction κ) bled_fraction (ini Cled_fraction.N ds) { nx := fun _ => G .none, rt := fun d _ => G d } := by
  obtain ⟨a, b, c, d, p, q, rfl, h1, h2, h3, h4, hF, hne, h0, hG⟩ := h
  refine ⟨rfl, ?_⟩
  show wpB _ _ [.fz _, .fz _] _
  unfold bled_fraction phled_fraction
  walk_at "wp"
  try simp only [Rcheck_matrix, Rmatrix_determinant, Rcheck_fraction, R_led]
  try walk_at "wp"
  simp only [R_determinant]
  walk_at "wp"
  have j1 := jbd h1
  have j2 := jbd h2
  have j3 := jbd h3
  have j4 := jbd h4
  exact ⟨h1, h2, h3, h4, j1, j2, j3, j4, hne, fun _ => ⟨hF, j1, j2, j3, j4, hF.bp, hF.bq, h0, hG⟩⟩
def C_led : Ck := ⟨["matrix", "fraction", "a", "b", "c", "d", "p", "q", "top", "bottom", "shared"], [], [], [], [], true, []⟩
def b_led : Ax.S := (.asg (.tup (.cons (.v 2) (.cons (.v 3) (.cons (.v 4) (.cons (.v 5) .nil))))) (.v 0) (.asg (.tup (.cons (.v 6) (.cons (.v 7) .nil))) (.v 1) (.par 8 9 (.bin .add (.bin .mul (.v 2) (.v 6)) (.bin .mul (.v 3) (.v 7))) (.bin .add (.bin .mul (.v 4) (.v 6)) (.bin .mul (.v 5) (.v 7))) (.set 10 (.b2 .gcd (.v 8) (.v 9)) (.ife (.or (.cmp .lt (.v 9) (.int 0)) (.and (.eq (.v 9) (.int 0)) (.cmp .lt (.v 8) (.int 0)))) (.set 10 (.neg (.v 10)) .skip) .skip (.ret (.tup (.cons (.bin .fdiv (.v 8) (.v 10)) (.cons (.bin .fdiv (.v 9) (.v 10)) .nil)))))))))

def ph_led (κ : Xn → List Sl → Prop) : Ph := ⟨fun _ => rNo, fun _ => oNo, fun _ => lNo, κ⟩
theorem w_led (κ : Xn → List Sl → Prop) (ds : List Dt) (G : Dt → Prop) (h : R_led ds G) : ds.length = 2 ∧ wpB (ph_led κ) b_led (ini C_led.N ds) { nx := fun _ => G .none, rt := fun d _ => G d } := by
  obtain ⟨a, b, c, d, p, q, rfl, h1, h2, h3, h4, h5, h6, h0, hG⟩ := h
  refine ⟨rfl, ?_⟩
  show wpB _ _ [.fz _, .fz _, .no, .no, .no, .no, .no, .no, .no, .no, .no] _
  unfold b_led ph_led
  walk_at "wp"
  have ht : Bd 1100 (a * p + b * q) := by apply Bd.mono; (focus walk_at "bd"); decide
  have hb : Bd 1100 (c * p + d * q) := by apply Bd.mono; (focus walk_at "bd"); decide
  refine ⟨by walk_at "one", by walk_at "one", by walk_at "one", by walk_at "one", ?_⟩
  generalize a * p + b * q = t at *
  generalize c * p + d * q = u at *
  have gp := gcd_pos h0
  have gb := gcd_bd h0 ht hb
  have d1 := gcd_dvd1 t u
  have d2 := gcd_dvd2 t u
  have nn : (u < 0 ∨ (u = 0 ∧ t < 0)) → CDivV t (-((Int.gcd t u : Nat) : Int)) ∧ CDivV u (-((Int.gcd t u : Nat) : Int)) ∧ G (Dt.tuple [Dt.int (t.fdiv (-((Int.gcd t u : Nat) : Int))), Dt.int (u.fdiv (-((Int.gcd t u : Nat) : Int)))]) := fun h => by
    rw [nrm_neg h] at hG
    rw [fdiv_neg_dvd gp d1, fdiv_neg_dvd gp d2]
    exact ⟨by walk_at "one", by walk_at "one", hG⟩
  have pp : ¬(u < 0 ∨ (u = 0 ∧ t < 0)) → CDivV t ((Int.gcd t u : Nat) : Int) ∧ CDivV u ((Int.gcd t u : Nat) : Int) ∧ G (Dt.tuple [Dt.int (t.fdiv ((Int.gcd t u : Nat) : Int)), Dt.int (u.fdiv ((Int.gcd t u : Nat) : Int))]) := fun h => by
    rw [nrm_pos h] at hG
    rw [fdiv_pos gp, fdiv_pos gp]
    exact ⟨by walk_at "one", by walk_at "one", hG⟩
  exact ⟨fun h => nn (.inl h), fun h => ⟨fun e => ⟨fun h' => nn (.inr ⟨e, h'⟩), fun h' => pp (by omega)⟩, fun e => pp (by omega)⟩⟩
def C_law_gcd : Ck := ⟨["_law_one", "_law_other"], [], [], [], ["abs", "int"], false, []⟩
def b_law_gcd : Ax.S := (.par 0 1 (.b1 .abs (.v 0)) (.b1 .abs (.v 1)) (.wh (.cmp .gt (.v 1) (.int 0)) (.par 0 1 (.v 1) (.bin .mod (.b1 .int (.v 0)) (.v 1)) .skip) (.ret (.v 0))))

def ph_law_gcd (κ : Xn → List Sl → Prop) : Ph := ⟨fun _ => rNo, fun _ => oNo, fun _ => lNo, κ⟩
theorem w_law_gcd (κ : Xn → List Sl → Prop) (ds : List Dt) (G : Dt → Prop) (h : R_law_gcd ds G) : ds.length = 2 ∧ wpB (ph_law_gcd κ) b_law_gcd (ini C_law_gcd.N ds) { nx := fun _ => G .none, rt := fun d _ => G d } := by
  obtain ⟨a, b, rfl, hG⟩ := h
  refine ⟨rfl, ?_⟩
  show wpB _ _ [.fz _, .fz _] _
  unfold b_law_gcd ph_law_gcd
  walk_at "wp"
  refine wp_wh (fun m es => ∃ x y : Int, es = [.fz (.int x), .fz (.int y)] ∧ 0 ≤ x ∧ 0 ≤ y ∧ Int.gcd x y = Int.gcd a b ∧ m = y.toNat) _ ⟨_, _, rfl, by split <;> omega, by split <;> omega, abs_gcd a b, rfl⟩ fun m es ⟨x, y, he, h0, h1, hg, hm⟩ => ?_
  subst he hm
  walk_at "wp"
  refine ⟨fun hy => ⟨hy, _, ?_, h1, Int.emod_nonneg _ (by omega), by rw [gcd_step hy h0]; exact hg, rfl⟩, fun hy => ?_⟩
  · have := Int.emod_lt_of_pos x hy
    have := Int.emod_nonneg x (show y ≠ 0 by omega)
    omega
  · have : y = 0 := by omega
    subst this
    rw [Int.gcd_zero_right] at hg
    rw [← hg] at hG
    rw [show ((x.natAbs : Nat) : Int) = x from by omega] at hG
    exact hG
def C_law_roll : Ck := ⟨["_law_dice_here", "_law_total", "_law_found", "_law_one", "_law_two"], [], [], [], ["int"], false, []⟩
def b_law_roll : Ax.S := (.ife (.cmp .gt (.ixo 0 (.int 0)) (.int 0)) (.set 2 (.bin .mod (.b1 .int (.ixo 0 (.int 0))) (.v 1)) (.sto 0 (.int 0) (.bin .fdiv (.ixo 0 (.int 0)) (.v 1)) (.ret (.v 2)))) .skip (.sto 0 (.int 2) (.bin .add (.ixo 0 (.int 2)) (.int 1)) (.set 3 (.bin .mod (.b1 .int (.bin .add (.ixo 0 (.int 1)) (.bin .mul (.int 49979687) (.ixo 0 (.int 2))))) (.int 2305843009213693921)) (.set 4 (.bin .add (.bin .mul (.bin .mod (.b1 .int (.bin .add (.bin .mul (.v 3) (.v 3)) (.bin .mul (.int 131) (.ixo 0 (.int 2))))) (.int 2305843009213693907)) (.int 7778777)) (.v 3)) (.ret (.bin .mod (.b1 .int (.bin .fdiv (.v 4) (.int 131072))) (.v 1)))))))

def ph_law_roll (κ : Xn → List Sl → Prop) : Ph := ⟨fun _ => rNo, fun _ => oNo, fun _ => lNo, κ⟩
theorem w_law_roll (κ : Xn → List Sl → Prop) (ds as : List Dt) (G : Dt → List Dt → Prop) (h : R_law_roll ds as G) : as.length + 1 = 2 ∧ wpB (ph_law_roll κ) b_law_roll (iniO C_law_roll.N ds as) { nx := fun es => owAt es 0 fun b ds2 => b = false ∧ G .none ds2, rt := fun d es => owAt es 0 fun b ds2 => b = false ∧ G d ds2 } := by
  obtain ⟨n, m, rfl, ⟨a, b, c, rfl, h0, h1, h2, h3, h4, h5⟩, hn, hb, hm, hG⟩ := h
  refine ⟨rfl, ?_⟩
  show wpB _ _ [.own _ (.l _), .fz _, .no, .no, .no] _
  unfold b_law_roll ph_law_roll
  walk_at "wp"
  have bc : Bd 64 c := Bd.of (m := 2 ^ 60) (by omega) (by omega) (by decide +kernel)
  refine ⟨fun ha => ⟨hn, by walk_at "one", ?_⟩, fun ha => ?_⟩
  · have e : a.fdiv n = a / n := Int.fdiv_eq_ediv_of_nonneg a (by omega)
    rw [e]
    exact hG _ _ (Int.emod_nonneg _ (by omega)) (Int.emod_lt_of_pos _ hn) ⟨_, _, _, rfl, Int.ediv_nonneg h0 (by omega), h1.div hn, h2, h3, h4, by omega⟩
  · refine ⟨by walk_at "one", by omega, by walk_at "one", by walk_at "one", by omega, by walk_at "one", by walk_at "one", hn, ?_⟩
    exact hG _ _ (Int.emod_nonneg _ (by omega)) (Int.emod_lt_of_pos _ hn) ⟨_, _, _, rfl, h0, h1, h2, h3, by omega, by omega⟩
def C_law_pick : Ck := ⟨["_law_dice_here", "_law_items"], [], ["_law_roll"], [], ["len"], false, []⟩
def b_law_pick : Ax.S := (.ret (.ix (.v 1) (.callo 0 0 (.cons (.b1 .len (.v 1)) .nil))))

def ph_law_pick (κ : Xn → List Sl → Prop) : Ph := ⟨fun _ => rNo, fun | 0 => lfO R_law_roll | _ => oNo, fun _ => lNo, κ⟩
theorem w_law_pick (κ : Xn → List Sl → Prop) (ds as : List Dt) (G : Dt → List Dt → Prop) (h : R_law_pick ds as G) : as.length + 1 = 2 ∧ wpB (ph_law_pick κ) b_law_pick (iniO C_law_pick.N ds as) { nx := fun es => owAt es 0 fun b ds2 => b = false ∧ G .none ds2, rt := fun d es => owAt es 0 fun b ds2 => b = false ∧ G d ds2 } := by
  obtain ⟨xs, m, rfl, hD, h1, h2, h3, hG⟩ := h
  refine ⟨rfl, ?_⟩
  show wpB _ _ [.own _ (.l _), .fz _] _
  unfold b_law_pick ph_law_pick
  walk_at "wp"
  try simp only [R_law_roll]
  try walk_at "wp"
  refine ⟨m, hD, by omega, Bd.of (m := 200000) (by omega) (by omega) (by decide), by omega, fun r ds r0 r1 hD => ?_⟩
  obtain ⟨x, hx, hxm⟩ := at_lt (xs := xs) r0 r1
  exact ⟨x, hx, hG x hxm _ hD⟩
def C_law_lowest : Ck := ⟨["_law_top", "_law_bottom", "_law_shared", "_law_sign"], ["_law_gcd"], [], [], [], false, []⟩
def b_law_lowest : Ax.S := (.set 2 (.call 0 (.cons (.v 0) (.cons (.v 1) .nil))) (.set 3 (.ife (.or (.cmp .lt (.v 1) (.int 0)) (.and (.eq (.v 1) (.int 0)) (.cmp .lt (.v 0) (.int 0)))) (.neg (.int 1)) (.int 1)) (.ret (.tup (.cons (.bin .fdiv (.bin .mul (.v 3) (.v 0)) (.v 2)) (.cons (.bin .fdiv (.bin .mul (.v 3) (.v 1)) (.v 2)) .nil))))))

def ph_law_lowest (κ : Xn → List Sl → Prop) : Ph := ⟨fun | 0 => lf R_law_gcd | _ => rNo, fun _ => oNo, fun _ => lNo, κ⟩
theorem w_law_lowest (κ : Xn → List Sl → Prop) (ds : List Dt) (G : Dt → Prop) (h : R_law_lowest ds G) : ds.length = 2 ∧ wpB (ph_law_lowest κ) b_law_lowest (ini C_law_lowest.N ds) { nx := fun _ => G .none, rt := fun d _ => G d } := by
  obtain ⟨t, b, rfl, h0, h1, h2, hG⟩ := h
  refine ⟨rfl, ?_⟩
  show wpB _ _ [.fz _, .fz _, .no, .no] _
  unfold b_law_lowest ph_law_lowest
  walk_at "wp"
  try simp only [R_law_gcd]
  try walk_at "wp"
  have gp := gcd_pos h0
  have gb := gcd_bd h0 h1 h2
  have d1 := gcd_dvd1 t b
  have d2 := gcd_dvd2 t b
  have e1 : (-1 * t).fdiv ((Int.gcd t b : Nat) : Int) = (-t) / ((Int.gcd t b : Nat) : Int) := by rw [fdiv_pos gp]; congr 1; omega
  have e2 : (-1 * b).fdiv ((Int.gcd t b : Nat) : Int) = (-b) / ((Int.gcd t b : Nat) : Int) := by rw [fdiv_pos gp]; congr 1; omega
  have e3 : (1 * t).fdiv ((Int.gcd t b : Nat) : Int) = t / ((Int.gcd t b : Nat) : Int) := by rw [fdiv_pos gp]; congr 1; omega
  have e4 : (1 * b).fdiv ((Int.gcd t b : Nat) : Int) = b / ((Int.gcd t b : Nat) : Int) := by rw [fdiv_pos gp]; congr 1; omega
  have nn : (b < 0 ∨ (b = 0 ∧ t < 0)) → CMulX (-1) t ∧ CDivV (-1 * t) ((Int.gcd t b : Nat) : Int) ∧ CMulX (-1) b ∧ CDivV (-1 * b) ((Int.gcd t b : Nat) : Int) ∧ G (Dt.tuple [Dt.int ((-1 * t).fdiv ((Int.gcd t b : Nat) : Int)), Dt.int ((-1 * b).fdiv ((Int.gcd t b : Nat) : Int))]) := fun h => by
    rw [nrm_neg h] at hG
    rw [e1, e2]
    exact ⟨by walk_at "one", by walk_at "one", by walk_at "one", by walk_at "one", hG⟩
  have pp : ¬(b < 0 ∨ (b = 0 ∧ t < 0)) → CMulX 1 t ∧ CDivV (1 * t) ((Int.gcd t b : Nat) : Int) ∧ CMulX 1 b ∧ CDivV (1 * b) ((Int.gcd t b : Nat) : Int) ∧ G (Dt.tuple [Dt.int ((1 * t).fdiv ((Int.gcd t b : Nat) : Int)), Dt.int ((1 * b).fdiv ((Int.gcd t b : Nat) : Int))]) := fun h => by
    rw [nrm_pos h] at hG
    rw [e3, e4]
    exact ⟨by walk_at "one", by walk_at "one", by walk_at "one", by walk_at "one", hG⟩
  exact ⟨fun h => nn (.inl h), fun h => ⟨fun e => ⟨fun h' => nn (.inr ⟨e, h'⟩), fun h' => pp (by omega)⟩, fun e => pp (by omega)⟩⟩
def C_law_fraction_drawn : Ck := ⟨["_law_dice_here", "_law_most"], ["_law_lowest"], ["_law_roll"], [], [], false, []⟩
def b_law_fraction_drawn : Ax.S := (.ife (.eq (.callo 0 0 (.cons (.int 8) .nil)) (.int 0)) (.ret (.tup (.cons (.int 1) (.cons (.int 0) .nil)))) .skip (.ret (.call 0 (.cons (.bin .sub (.callo 0 0 (.cons (.bin .add (.bin .mul (.int 2) (.v 1)) (.int 1)) .nil)) (.v 1)) (.cons (.bin .add (.int 1) (.callo 0 0 (.cons (.v 1) .nil))) .nil)))))

def ph_law_fraction_drawn (κ : Xn → List Sl → Prop) : Ph := ⟨fun | 0 => lf R_law_lowest | _ => rNo, fun | 0 => lfO R_law_roll | _ => oNo, fun _ => lNo, κ⟩
theorem w_law_fraction_drawn (κ : Xn → List Sl → Prop) (ds as : List Dt) (G : Dt → List Dt → Prop) (h : R_law_fraction_drawn ds as G) : as.length + 1 = 2 ∧ wpB (ph_law_fraction_drawn κ) b_law_fraction_drawn (iniO C_law_fraction_drawn.N ds as) { nx := fun es => owAt es 0 fun b ds2 => b = false ∧ G .none ds2, rt := fun d es => owAt es 0 fun b ds2 => b = false ∧ G d ds2 } := by
  obtain ⟨most, m, rfl, hD, h1, h2, h3, hG⟩ := h
  refine ⟨rfl, ?_⟩
  show wpB _ _ [.own _ (.l _), .fz _] _
  unfold b_law_fraction_drawn ph_law_fraction_drawn
  walk_at "wp"
  try simp only [R_law_lowest, R_law_roll]
  try walk_at "wp"
  have bm : Bd 60 most := Bd.of (m := 101) (by omega) (by omega) (by decide)
  refine ⟨m, hD, by decide, by walk_at "one", by omega, fun r ds r0 r1 hD => ⟨fun hr => ?_, fun hr => ⟨by walk_at "one", m + 1, hD, by omega, Bd.of (m := 300) (by omega) (by omega) (by decide), by omega, fun r2 ds r3 r4 hD => ⟨m + 2, hD, by omega, Bd.of (m := 300) (by omega) (by omega) (by decide), by omega, fun r5 ds r6 r7 hD => ?_⟩⟩⟩⟩
  · exact hG 1 0 ds ⟨⟨by decide, by decide, by decide⟩, by decide, by decide, by decide⟩ (by decide) (by decide) (hD.up (by omega))
  · have hn : ¬(r2 - most = 0 ∧ 1 + r5 = 0) := by omega
    refine ⟨hn, Bd.of (m := 300) (by omega) (by omega) (by decide), Bd.of (m := 300) (by omega) (by omega) (by decide), ?_⟩
    obtain ⟨e, e1, e2, e3, hf⟩ := nrm_fr hn
    obtain ⟨z1, z2⟩ := nrm_sz hn
    exact hG _ _ _ ⟨hf, by omega, by omega, by omega⟩ (by omega) (by omega) hD
def C_law_level_drawn : Ck := ⟨["_law_dice_here", "_law_most", "_law_some", "_law_one"], [], ["_law_roll", "_law_pick"], [], [], false, []⟩
def b_law_level_drawn : Ax.S := (.set 2 (.lst (.cons (.int 1) (.cons (.int 2) (.cons (.int 5) (.cons (.int 11) (.cons (.int 11) (.cons (.int 14) (.cons (.int 15) (.cons (.int 17) (.cons (.int 20) (.cons (.int 22) (.cons (.int 23) (.cons (.int 24) (.cons (.int 26) (.cons (.int 27) (.cons (.int 30) (.cons (.int 33) (.cons (.int 36) (.cons (.int 37) (.cons (.bin .add (.int 1) (.callo 0 0 (.cons (.v 1) .nil))) .nil)))))))))))))))))))) (.ret (.callo 1 0 (.cons (.lc [3] (.v 3) (.v 2) (.cmp .le (.v 3) (.v 1)) (.v 3)) .nil))))

def ph_law_level_drawn (κ : Xn → List Sl → Prop) : Ph := ⟨fun _ => rNo, fun | 0 => lfO R_law_roll | 1 => lfO R_law_pick | _ => oNo, fun _ => lNo, κ⟩
theorem w_law_level_drawn (κ : Xn → List Sl → Prop) (ds as : List Dt) (G : Dt → List Dt → Prop) (h : R_law_level_drawn ds as G) : as.length + 1 = 2 ∧ wpB (ph_law_level_drawn κ) b_law_level_drawn (iniO C_law_level_drawn.N ds as) { nx := fun es => owAt es 0 fun b ds2 => b = false ∧ G .none ds2, rt := fun d es => owAt es 0 fun b ds2 => b = false ∧ G d ds2 } := by
  obtain ⟨most, m, rfl, hD, h1, h2, h3, hG⟩ := h
  refine ⟨rfl, ?_⟩
  show wpB _ _ [.own _ (.l _), .fz _, .no, .no] _
  unfold b_law_level_drawn ph_law_level_drawn
  walk_at "wp"
  try simp only [R_law_roll, R_law_pick]
  try walk_at "wp"
  refine ⟨m, hD, by omega, Bd.of (m := 300) (by omega) (by omega) (by decide), by omega, fun r ds r0 r1 hD => ?_⟩
  refine ⟨rfl, ?_⟩
  have hall : ∀ x ∈ [Dt.int 1, Dt.int 2, Dt.int 5, Dt.int 11, Dt.int 11, Dt.int 14, Dt.int 15, Dt.int 17, Dt.int 20, Dt.int 22, Dt.int 23, Dt.int 24, Dt.int 26, Dt.int 27, Dt.int 30, Dt.int 33, Dt.int 36, Dt.int 37, Dt.int (1 + r)], ∃ i : Int, x = .int i ∧ 1 ≤ i := fun x hx => by
    simp only [List.mem_cons, List.not_mem_nil, or_false] at hx
    rcases hx with hx | hx | hx | hx | hx | hx | hx | hx | hx | hx | hx | hx | hx | hx | hx | hx | hx | hx | hx <;> exact ⟨_, hx, by omega⟩
  refine runC_filter (leI most) (fun x hx k hk1 hk2 => ?_) ?_
  · walk_at "fo"
    obtain ⟨i, rfl, _⟩ := hall x hx
    walk_at "fo"
    exact ⟨fun h => hk1 (decide_eq_true h), fun h => hk2 (decide_eq_false h)⟩
  · rw [mrg_wipe (by rfl)]
    walk_at "wp"
    refine ⟨m + 1, hD, List.length_pos_of_mem (a := .int 1) (List.mem_filter.mpr ⟨by simp, (show leI most (.int 1) = true from decide_eq_true h1)⟩), Nat.le_trans (List.length_filter_le _ _) (Nat.le_of_ble_eq_true rfl), by omega, fun x hx ds hD => ?_⟩
    obtain ⟨f1, f2⟩ := List.mem_filter.mp hx
    obtain ⟨i, rfl, hi⟩ := hall x f1
    exact hG i ds hi (of_decide_eq_true f2) hD
def C_width : Ck := ⟨["level", "fraction"], [], [], [], [], true, []⟩
def b_width : Ax.S := (.ret (.bin .fdiv (.v 0) (.b2 .gcd (.v 0) (.bin .mul (.ix (.v 1) (.int 1)) (.ix (.v 1) (.int 1))))))

def ph_width (κ : Xn → List Sl → Prop) : Ph := ⟨fun _ => rNo, fun _ => oNo, fun _ => lNo, κ⟩
theorem w_width (κ : Xn → List Sl → Prop) (ds : List Dt) (G : Dt → Prop) (h : R_width ds G) : ds.length = 2 ∧ wpB (ph_width κ) b_width (ini C_width.N ds) { nx := fun _ => G .none, rt := fun d _ => G d } := by
  obtain ⟨N, p, q, rfl, h1, h2, hq, hG⟩ := h
  refine ⟨rfl, ?_⟩
  show wpB _ _ [.fz _, .fz _] _
  unfold b_width ph_width
  walk_at "wp"
  have gp := gcd_pos (t := N) (b := q * q) (by omega)
  have gb : Bd 200 ((Int.gcd N (q * q) : Nat) : Int) := gcd_bd (by omega) (Bd.of (m := 101) (by omega) (by omega) (by decide)) (by apply Bd.mono; (focus walk_at "bd"); decide)
  have e : N.fdiv ((Int.gcd N (q * q) : Nat) : Int) = wid N q := fdiv_pos gp
  rw [e]
  exact ⟨by walk_at "one", by walk_at "one", hG⟩
def C_law_width : Ck := ⟨["_law_level", "_law_fraction"], ["_law_gcd"], [], [], [], false, []⟩
def b_law_width : Ax.S := (.ret (.bin .fdiv (.v 0) (.call 0 (.cons (.v 0) (.cons (.bin .mul (.ix (.v 1) (.int 1)) (.ix (.v 1) (.int 1))) .nil)))))

def ph_law_width (κ : Xn → List Sl → Prop) : Ph := ⟨fun | 0 => lf R_law_gcd | _ => rNo, fun _ => oNo, fun _ => lNo, κ⟩
theorem w_law_width (κ : Xn → List Sl → Prop) (ds : List Dt) (G : Dt → Prop) (h : R_law_width ds G) : ds.length = 2 ∧ wpB (ph_law_width κ) b_law_width (ini C_law_width.N ds) { nx := fun _ => G .none, rt := fun d _ => G d } := by
  obtain ⟨N, p, q, rfl, h1, h2, hq, hG⟩ := h
  refine ⟨rfl, ?_⟩
  show wpB _ _ [.fz _, .fz _] _
  unfold b_law_width ph_law_width
  walk_at "wp"
  try simp only [R_law_gcd]
  try walk_at "wp"
  have gp := gcd_pos (t := N) (b := q * q) (by omega)
  have gb : Bd 200 ((Int.gcd N (q * q) : Nat) : Int) := gcd_bd (by omega) (Bd.of (m := 101) (by omega) (by omega) (by decide)) (by apply Bd.mono; (focus walk_at "bd"); decide)
  have e : N.fdiv ((Int.gcd N (q * q) : Nat) : Int) = wid N q := fdiv_pos gp
  rw [e]
  exact ⟨by walk_at "one", by walk_at "one", hG⟩
def C_law_dice : Ck := ⟨["_law_script", "_law_spot", "_law_cell", "_law_left"], [], [], [], ["len", "int", "max", "abs"], false, []⟩
def b_law_dice : Ax.S := (.set 2 (.ife (.cmp .lt (.v 1) (.b1 .len (.v 0))) (.b1 .int (.ix (.v 0) (.v 1))) (.bin .add (.bin .mul (.int 71) (.v 1)) (.int 23))) (.set 3 (.bin .mod (.b2 .max (.int 0) (.bin .sub (.b1 .abs (.v 2)) (.bin .pow (.int 10) (.int 17)))) (.bin .mul (.bin .pow (.int 10) (.int 59)) (.bin .pow (.int 10) (.int 60)))) (.retL (.lst (.cons (.v 3) (.cons (.bin .add (.bin .add (.bin .add (.bin .mul (.bin .mod (.b1 .abs (.v 2)) (.int 1152921504606846883)) (.int 61)) (.bin .mul (.int 877) (.v 1))) (.bin .mul (.int 37) (.b1 .int (.cmp .lt (.v 2) (.int 0))))) (.int 5)) (.cons (.int 0) .nil)))))))

def ph_law_dice (κ : Xn → List Sl → Prop) : Ph := ⟨fun _ => rNo, fun _ => oNo, fun _ => lNo, κ⟩
theorem w_law_dice (κ : Xn → List Sl → Prop) (ds : List Dt) (G : List Dt → Prop) (h : R_law_dice ds G) : ds.length = 2 ∧ wpB (ph_law_dice κ) b_law_dice (ini C_law_dice.N ds) { nx := fun _ => False, rt := fun _ _ => False, rl := fun d _ => G d } := by
  obtain ⟨ns, s0, rfl, h0, h1, hG⟩ := h
  refine ⟨rfl, ?_⟩
  show wpB _ _ [.fz _, .fz _, .no, .no] _
  unfold b_law_dice ph_law_dice
  walk_at "wp"
  have c17 : CPow 10 17 := ⟨by decide, by decide, by decide⟩
  have c59 : CPow 10 59 := ⟨by decide, by decide, by decide⟩
  have c60 : CPow 10 60 := ⟨by decide, by decide, by decide⟩
  have bs : Bd 60 s0 := Bd.of (m := 64) (by omega) (by omega) (by decide)
  have e17 : (10 : Int) ^ Int.toNat 17 = 100000000000000000 := by decide +kernel
  have e59 : (10 : Int) ^ Int.toNat 59 = 100000000000000000000000000000000000000000000000000000000000 := by decide +kernel
  have e60 : (10 : Int) ^ Int.toNat 60 = 1000000000000000000000000000000000000000000000000000000000000 := by decide +kernel
  have b59 : Bd 220 ((10 : Int) ^ Int.toNat 59) := by rw [e59]; exact Bd.lit 220 (by decide +kernel)
  have b60 : Bd 220 ((10 : Int) ^ Int.toNat 60) := by rw [e60]; exact Bd.lit 220 (by decide +kernel)
  have bp : Bd 460 ((10 : Int) ^ Int.toNat 59 * (10 : Int) ^ Int.toNat 60) := by apply Bd.mono; exact Bd.mul b59 b60; decide
  have pp : (0 : Int) < (10 : Int) ^ Int.toNat 59 * (10 : Int) ^ Int.toNat 60 := by rw [e59, e60]; decide +kernel
  have key : ∀ c : Int, CPow 10 17 ∧ CPow 10 59 ∧ CPow 10 60 ∧ CMulX (10 ^ Int.toNat 59) (10 ^ Int.toNat 60) ∧ (0 : Int) < 10 ^ Int.toNat 59 * 10 ^ Int.toNat 60 ∧ (0 : Int) < 1152921504606846883 ∧ CMulX ((if c < 0 then -c else c) % 1152921504606846883) 61 ∧ CMulX 877 s0 ∧ CMulX 37 (if c < 0 then 1 else 0) ∧ G [Dt.int ((if (if c < 0 then -c else c) - 10 ^ Int.toNat 17 > 0 then (if c < 0 then -c else c) - 10 ^ Int.toNat 17 else 0) % (10 ^ Int.toNat 59 * 10 ^ Int.toNat 60)), Dt.int ((if c < 0 then -c else c) % 1152921504606846883 * 61 + 877 * s0 + 37 * (if c < 0 then 1 else 0) + 5), Dt.int 0] := fun c => by
    have h9 := Int.emod_nonneg (if c < 0 then -c else c) (show (1152921504606846883 : Int) ≠ 0 by omega)
    have h8 := Int.emod_lt_of_pos (if c < 0 then -c else c) (show (0 : Int) < 1152921504606846883 by omega)
    have b9 : Bd 64 ((if c < 0 then -c else c) % 1152921504606846883) := Bd.of (m := 1152921504606846883) (by omega) (by omega) (by decide +kernel)
    generalize (if c < 0 then -c else c) % 1152921504606846883 = r at *
    have b1 : Bd 2 (if c < 0 then (1 : Int) else 0) := by unfold Bd; split <;> decide
    have h7 : (0 : Int) ≤ (if c < 0 then (1 : Int) else 0) := by split <;> decide
    generalize (if c < 0 then (1 : Int) else 0) = t at *
    refine ⟨c17, c59, c60, by walk_at "one", pp, by omega, by walk_at "one", by walk_at "one", by walk_at "one", hG _ ⟨_, _, _, rfl, Int.emod_nonneg _ (by omega), ((bp.mod pp).mono (by decide)), by omega, ?_, by omega, by omega⟩⟩
    apply Bd.mono; (focus walk_at "bd"); decide
  refine ⟨fun h => ⟨.int (ns.getD s0.toNat 0), at_ints h0 h, ?_⟩, fun h => ?_⟩
  · walk_at "wp"
    exact key _
  · exact ⟨by walk_at "one", key _⟩
def C_law_divisors : Ck := ⟨["_law_number", "_law_one"], [], [], [], ["range"], false, []⟩
def b_law_divisors : Ax.S := (.ret (.lc [1] (.v 1) (.range2 (.int 1) (.bin .add (.v 0) (.int 1))) (.eq (.bin .mod (.v 0) (.v 1)) (.int 0)) (.v 1)))

def ph_law_divisors (κ : Xn → List Sl → Prop) : Ph := ⟨fun _ => rNo, fun _ => oNo, fun _ => lNo, κ⟩
theorem w_law_divisors (κ : Xn → List Sl → Prop) (ds : List Dt) (G : Dt → Prop) (h : R_law_divisors ds G) : ds.length = 1 ∧ wpB (ph_law_divisors κ) b_law_divisors (ini C_law_divisors.N ds) { nx := fun _ => G .none, rt := fun d _ => G d } := by
  obtain ⟨n, rfl, h1, h2, hG⟩ := h
  refine ⟨rfl, ?_⟩
  show wpB _ _ [.fz _, .no] _
  unfold b_law_divisors ph_law_divisors
  walk_at "wp"
  refine ⟨by decide, by decide, by omega, by omega, rfl, by rw [rng_len]; omega, ?_⟩
  rw [show n + 1 - 1 = n from by omega]
  refine runC_filter (dvB n) (fun x hx k hk1 hk2 => ?_) hG
  obtain ⟨i, hi, rfl⟩ := rng_mem hx
  walk_at "fo"
  refine ⟨by omega, fun h => hk1 (decide_eq_true h), fun h => hk2 (decide_eq_false h)⟩
def Ckeeper_of : Ck := ⟨["level", "fraction", "p", "q", "width"], ["check_level", "check_fraction", "_width"], [], [], [], false, []⟩
def bkeeper_of : Ax.S := (.exp (.call 0 (.cons (.v 0) .nil)) (.exp (.call 1 (.cons (.v 1) .nil)) (.asg (.tup (.cons (.v 2) (.cons (.v 3) .nil))) (.v 1) (.set 4 (.call 2 (.cons (.v 0) (.cons (.v 1) .nil))) (.ret (.tup (.cons (.bin .sub (.int 1) (.bin .mul (.bin .mul (.v 2) (.v 3)) (.v 4))) (.cons (.bin .mul (.bin .mul (.v 2) (.v 2)) (.v 4)) (.cons (.bin .mul (.bin .mul (.neg (.v 3)) (.v 3)) (.v 4)) (.cons (.bin .add (.int 1) (.bin .mul (.bin .mul (.v 2) (.v 3)) (.v 4))) .nil))))))))))

def phkeeper_of (κ : Xn → List Sl → Prop) : Ph := ⟨fun | 0 => lf Rcheck_level | 1 => lf Rcheck_fraction | 2 => lf R_width | _ => rNo, fun _ => oNo, fun _ => lNo, κ⟩
theorem wkeeper_of (κ : Xn → List Sl → Prop) (ds : List Dt) (G : Dt → Prop) (h : Rkeeper_of ds G) : ds.length = 2 ∧ wpB (phkeeper_of κ) bkeeper_of (ini Ckeeper_of.N ds) { nx := fun _ => G .none, rt := fun d _ => G d } := by
  obtain ⟨N, p, q, rfl, h1, h2, hF, hG⟩ := h
  refine ⟨rfl, ?_⟩
  show wpB _ _ [.fz _, .fz _, .no, .no, .no] _
  unfold bkeeper_of phkeeper_of
  walk_at "wp"
  try simp only [Rcheck_level, Rcheck_fraction, R_width]
  try walk_at "wp"
  have bp := hF.bp
  have bq := hF.bq
  have bN : Bd 70 N := Bd.of (m := 101) (by omega) (by omega) (by decide)
  have bw : Bd 70 (wid N q) := bN.div (gcd_pos (by omega))
  exact ⟨h1, h2, hF, h1, h2, bq, by walk_at "one", by walk_at "one", by walk_at "one", by walk_at "one", by walk_at "one", by walk_at "one", by walk_at "one", by walk_at "one", hG⟩
def Cis_member : Ck := ⟨["level", "value"], ["check_level", "matrix_determinant", "is_matrix"], [], [], [], false, []⟩
def bis_member : Ax.S := (.exp (.call 0 (.cons (.v 0) .nil)) (.ret (.and (.call 2 (.cons (.v 1) .nil)) (.and (.eq (.call 1 (.cons (.v 1) .nil)) (.int 1)) (.eq (.bin .mod (.ix (.v 1) (.int 2)) (.v 0)) (.int 0))))))

def phis_member (κ : Xn → List Sl → Prop) : Ph := ⟨fun | 0 => lf Rcheck_level | 1 => lf Rmatrix_determinant | 2 => lf Ris_matrix | _ => rNo, fun _ => oNo, fun _ => lNo, κ⟩
theorem wis_member (κ : Xn → List Sl → Prop) (ds : List Dt) (G : Dt → Prop) (h : Ris_member ds G) : ds.length = 2 ∧ wpB (phis_member κ) bis_member (ini Cis_member.N ds) { nx := fun _ => G .none, rt := fun d _ => G d } := by
  obtain ⟨N, v, rfl, h1, h2, hv, hb, hG⟩ := h
  refine ⟨rfl, ?_⟩
  show wpB _ _ [.fz _, .fz _] _
  unfold bis_member phis_member
  walk_at "wp"
  try simp only [Rcheck_level, Rmatrix_determinant, Ris_matrix]
  try walk_at "wp"
  refine ⟨h1, h2, hv, fun h => ?_, fun h => ?_⟩
  · obtain ⟨a, b, c, d, rfl⟩ := isM_of h
    obtain ⟨b1, b2, b3, b4⟩ := hb a b c d rfl
    simp only [R_determinant]
    walk_at "wp"
    refine ⟨b1, b2, b3, b4, fun e => ⟨by omega, ?_⟩, fun e => ?_⟩
    · have : isG N (.tuple [.int a, .int b, .int c, .int d]) = decide (c % N = 0) := by show (decide _ && decide _) = _; rw [decide_eq_true e, Bool.true_and]
      rw [← this]; exact hG
    · have : isG N (.tuple [.int a, .int b, .int c, .int d]) = false := by show (decide _ && decide _) = _; rw [decide_eq_false e, Bool.false_and]
      rw [← this]; exact hG
  · have : isG N v = false := by
      cases hg : isG N v with
      | false => rfl
      | true => obtain ⟨a, b, c, d, rfl⟩ := isG_tup hg; cases h
    rw [← this]; exact hG
def Cproduct_matrix : Ck := ⟨["one", "other", "a", "b", "c", "d", "x", "y", "z", "w"], [], [], [], [], false, []⟩
def bproduct_matrix : Ax.S := (.asg (.tup (.cons (.v 2) (.cons (.v 3) (.cons (.v 4) (.cons (.v 5) .nil))))) (.v 0) (.asg (.tup (.cons (.v 6) (.cons (.v 7) (.cons (.v 8) (.cons (.v 9) .nil))))) (.v 1) (.ret (.tup (.cons (.bin .add (.bin .mul (.v 2) (.v 6)) (.bin .mul (.v 3) (.v 8))) (.cons (.bin .add (.bin .mul (.v 2) (.v 7)) (.bin .mul (.v 3) (.v 9))) (.cons (.bin .add (.bin .mul (.v 4) (.v 6)) (.bin .mul (.v 5) (.v 8))) (.cons (.bin .add (.bin .mul (.v 4) (.v 7)) (.bin .mul (.v 5) (.v 9))) .nil))))))))

def phproduct_matrix (κ : Xn → List Sl → Prop) : Ph := ⟨fun _ => rNo, fun _ => oNo, fun _ => lNo, κ⟩
theorem wproduct_matrix (κ : Xn → List Sl → Prop) (ds : List Dt) (G : Dt → Prop) (h : Rproduct_matrix ds G) : ds.length = 2 ∧ wpB (phproduct_matrix κ) bproduct_matrix (ini Cproduct_matrix.N ds) { nx := fun _ => G .none, rt := fun d _ => G d } := by
  obtain ⟨a, b, c, d, e, f, g, hh, rfl, ⟨h1, h2, h3, h4⟩, ⟨h5, h6, h7, h8⟩, hG⟩ := h
  refine ⟨rfl, ?_⟩
  show wpB _ _ [.fz _, .fz _, .no, .no, .no, .no, .no, .no, .no, .no] _
  unfold bproduct_matrix phproduct_matrix
  walk_at "wp"
  walk_at "cj" <;> walk_at "one"
def C_law_matrix_times : Ck := ⟨["_law_one", "_law_other", "_law_a", "_law_b", "_law_c", "_law_d", "_law_e", "_law_f", "_law_g", "_law_h"], [], [], [], [], false, []⟩
def b_law_matrix_times : Ax.S := (.asg (.tup (.cons (.v 2) (.cons (.v 3) (.cons (.v 4) (.cons (.v 5) .nil))))) (.v 0) (.asg (.tup (.cons (.v 6) (.cons (.v 7) (.cons (.v 8) (.cons (.v 9) .nil))))) (.v 1) (.ret (.tup (.cons (.bin .add (.bin .mul (.v 2) (.v 6)) (.bin .mul (.v 3) (.v 8))) (.cons (.bin .add (.bin .mul (.v 2) (.v 7)) (.bin .mul (.v 3) (.v 9))) (.cons (.bin .add (.bin .mul (.v 4) (.v 6)) (.bin .mul (.v 5) (.v 8))) (.cons (.bin .add (.bin .mul (.v 4) (.v 7)) (.bin .mul (.v 5) (.v 9))) .nil))))))))

def ph_law_matrix_times (κ : Xn → List Sl → Prop) : Ph := ⟨fun _ => rNo, fun _ => oNo, fun _ => lNo, κ⟩
theorem w_law_matrix_times (κ : Xn → List Sl → Prop) (ds : List Dt) (G : Dt → Prop) (h : R_law_matrix_times ds G) : ds.length = 2 ∧ wpB (ph_law_matrix_times κ) b_law_matrix_times (ini C_law_matrix_times.N ds) { nx := fun _ => G .none, rt := fun d _ => G d } := by
  obtain ⟨a, b, c, d, e, f, g, hh, rfl, ⟨h1, h2, h3, h4⟩, ⟨h5, h6, h7, h8⟩, hG⟩ := h
  refine ⟨rfl, ?_⟩
  show wpB _ _ [.fz _, .fz _, .no, .no, .no, .no, .no, .no, .no, .no] _
  unfold b_law_matrix_times ph_law_matrix_times
  walk_at "wp"
  walk_at "cj" <;> walk_at "one"
def Cmatrix_product : Ck := ⟨["one", "other"], ["check_matrix", "product_matrix"], [], [], [], false, []⟩
def bmatrix_product : Ax.S := (.exp (.call 0 (.cons (.v 0) .nil)) (.exp (.call 0 (.cons (.v 1) .nil)) (.ret (.call 1 (.cons (.v 0) (.cons (.v 1) .nil))))))

def phmatrix_product (κ : Xn → List Sl → Prop) : Ph := ⟨fun | 0 => lf Rcheck_matrix | 1 => lf Rproduct_matrix | _ => rNo, fun _ => oNo, fun _ => lNo, κ⟩
theorem wmatrix_product (κ : Xn → List Sl → Prop) (ds : List Dt) (G : Dt → Prop) (h : Rmatrix_product ds G) : ds.length = 2 ∧ wpB (phmatrix_product κ) bmatrix_product (ini Cmatrix_product.N ds) { nx := fun _ => G .none, rt := fun d _ => G d } := by
  obtain ⟨a, b, c, d, e, f, g, hh, rfl, ⟨h1, h2, h3, h4⟩, ⟨h5, h6, h7, h8⟩, hG⟩ := h
  refine ⟨rfl, ?_⟩
  show wpB _ _ [.fz _, .fz _] _
  unfold bmatrix_product phmatrix_product
  walk_at "wp"
  try simp only [Rcheck_matrix, Rproduct_matrix]
  try walk_at "wp"
  simp only [R_law_matrix_times]
  walk_at "wp"
  refine ⟨h1, h2, h3, h4, h5, h6, h7, h8, jbd2 h1, jbd2 h2, jbd2 h3, jbd2 h4, jbd2 h5, jbd2 h6, jbd2 h7, jbd2 h8, hG⟩
def Cmatrix_back : Ck := ⟨["one", "a", "b", "c", "d"], ["check_matrix", "matrix_determinant"], [], [], [], false, []⟩
def bmatrix_back : Ax.S := (.exp (.call 0 (.cons (.v 0) .nil)) (.ife (.ne (.call 1 (.cons (.v 0) .nil)) (.int 1)) .dead .skip (.asg (.tup (.cons (.v 1) (.cons (.v 2) (.cons (.v 3) (.cons (.v 4) .nil))))) (.v 0) (.ret (.tup (.cons (.v 4) (.cons (.neg (.v 2)) (.cons (.neg (.v 3)) (.cons (.v 1) .nil)))))))))

def phmatrix_back (κ : Xn → List Sl → Prop) : Ph := ⟨fun | 0 => lf Rcheck_matrix | 1 => lf Rmatrix_determinant | _ => rNo, fun _ => oNo, fun _ => lNo, κ⟩
theorem wmatrix_back (κ : Xn → List Sl → Prop) (ds : List Dt) (G : Dt → Prop) (h : Rmatrix_back ds G) : ds.length = 1 ∧ wpB (phmatrix_back κ) bmatrix_back (ini Cmatrix_back.N ds) { nx := fun _ => G .none, rt := fun d _ => G d } := by
  obtain ⟨a, b, c, d, rfl, ⟨h1, h2, h3, h4⟩, hd, hG⟩ := h
  refine ⟨rfl, ?_⟩
  show wpB _ _ [.fz _, .no, .no, .no, .no] _
  unfold bmatrix_back phmatrix_back
  walk_at "wp"
  try simp only [Rcheck_matrix, Rmatrix_determinant]
  try walk_at "wp"
  simp only [R_determinant]
  walk_at "wp"
  refine ⟨h1, h2, h3, h4, jbd h1, jbd h2, jbd h3, jbd h4, hd, fun _ => hG⟩
def C_law_matrix_led : Ck := ⟨["_law_matrix", "_law_fraction", "_law_a", "_law_b", "_law_c", "_law_d"], ["_law_lowest"], [], [], [], false, []⟩
def b_law_matrix_led : Ax.S := (.asg (.tup (.cons (.v 2) (.cons (.v 3) (.cons (.v 4) (.cons (.v 5) .nil))))) (.v 0) (.ret (.call 0 (.cons (.bin .add (.bin .mul (.v 2) (.ix (.v 1) (.int 0))) (.bin .mul (.v 3) (.ix (.v 1) (.int 1)))) (.cons (.bin .add (.bin .mul (.v 4) (.ix (.v 1) (.int 0))) (.bin .mul (.v 5) (.ix (.v 1) (.int 1)))) .nil)))))

def ph_law_matrix_led (κ : Xn → List Sl → Prop) : Ph := ⟨fun | 0 => lf R_law_lowest | _ => rNo, fun _ => oNo, fun _ => lNo, κ⟩
theorem w_law_matrix_led (κ : Xn → List Sl → Prop) (ds : List Dt) (G : Dt → Prop) (h : R_law_matrix_led ds G) : ds.length = 2 ∧ wpB (ph_law_matrix_led κ) b_law_matrix_led (ini C_law_matrix_led.N ds) { nx := fun _ => G .none, rt := fun d _ => G d } := by
  obtain ⟨a, b, c, d, p, q, rfl, ⟨h1, h2, h3, h4⟩, h5, h6, h0, hG⟩ := h
  refine ⟨rfl, ?_⟩
  show wpB _ _ [.fz _, .fz _, .no, .no, .no, .no] _
  unfold b_law_matrix_led ph_law_matrix_led
  walk_at "wp"
  try simp only [R_law_lowest]
  try walk_at "wp"
  have ht : Bd 2000 (a * p + b * q) := by apply Bd.mono; (focus walk_at "bd"); decide
  have hb : Bd 2000 (c * p + d * q) := by apply Bd.mono; (focus walk_at "bd"); decide
  exact ⟨by walk_at "one", by walk_at "one", by walk_at "one", by walk_at "one", h0, ht, hb, hG⟩
def C_law_is_group : Ck := ⟨["_law_level", "_law_value", "_law_one"], [], [], [], ["len", "isinstance", "tuple", "bool", "int"], false, []⟩
def b_law_is_group : Ax.S := (.ife (.or (.not (.isi .tuple (.v 1))) (.ne (.b1 .len (.v 1)) (.int 4))) (.ret (.bool false)) .skip (.ife (.ne (.lc [2] (.v 2) (.v 1) (.or (.not (.isi .int (.v 2))) (.isi .bool (.v 2))) (.v 2)) (.lst .nil)) (.ret (.bool false)) .skip (.ret (.and (.eq (.bin .sub (.bin .mul (.ix (.v 1) (.int 0)) (.ix (.v 1) (.int 3))) (.bin .mul (.ix (.v 1) (.int 1)) (.ix (.v 1) (.int 2)))) (.int 1)) (.eq (.bin .mod (.ix (.v 1) (.int 2)) (.v 0)) (.int 0))))))

def ph_law_is_group (κ : Xn → List Sl → Prop) : Ph := ⟨fun _ => rNo, fun _ => oNo, fun _ => lNo, κ⟩
theorem w_law_is_group (κ : Xn → List Sl → Prop) (ds : List Dt) (G : Dt → Prop) (h : R_law_is_group ds G) : ds.length = 2 ∧ wpB (ph_law_is_group κ) b_law_is_group (ini C_law_is_group.N ds) { nx := fun _ => G .none, rt := fun d _ => G d } := by
  obtain ⟨N, v, rfl, h1, h2, hv, hb, hG⟩ := h
  refine ⟨rfl, ?_⟩
  show wpB _ _ [.fz _, .fz _, .no] _
  unfold b_law_is_group ph_law_is_group
  walk_at "wp"
  simp only [isi_tuple _ hv.1]
  walk_at "wp"
  refine ⟨fun h => ?_, fun h => ?_⟩
  · have e : isG N v = false := by cases v <;> first | rfl | cases h
    rw [← e]; exact hG
  · obtain ⟨l, rfl⟩ : ∃ l, v = .tuple l := by cases v <;> first | exact ⟨_, rfl⟩ | cases h
    walk_at "wp"
    obtain ⟨z1, z2⟩ := hv.2 l rfl
    refine ⟨fun hl => ?_, fun hl => ⟨rfl, by omega, ?_⟩⟩
    · rw [isG_no (by simpa using hl)] at hG
      exact hG
    · refine runC_filter (fun x => !isI x || isB x) (fun x hx k hk1 hk2 => ?_) ?_
      · walk_at "fo"
        have hno := (z2 x hx).1
        simp only [isi_int _ hno, isi_bool _ hno]
        walk_at "fo"
        refine ⟨fun h => hk1 (by simp [h]), fun h => ⟨fun h2 => hk1 (by simp [h2]), fun h2 => hk2 (by simp [h, h2])⟩⟩
      · rw [mrg_wipe (by rfl)]
        refine ⟨shD_list fun x hx => (z2 x (List.mem_filter.mp hx).1).2, ⟨rfl, rfl⟩, fun h => ?_, fun h => ?_⟩
        · have e : isG N (.tuple l) = false := by
            cases hg : isG N (.tuple l) with
            | false => rfl
            | true =>
              obtain ⟨a, b, c, d, e⟩ := isG_tup hg
              rw [Dt.tuple.injEq] at e
              subst e
              exact absurd h (by simp [isI, isB, eqz_00])
          rw [← e]; exact hG
        · obtain ⟨a, b, c, d, rfl⟩ : ∃ a b c d : Int, l = [.int a, .int b, .int c, .int d] := four_of hl (by rw [List.map_id']; simpa using h)
          obtain ⟨ha, hb, hc, hd⟩ := hb a b c d rfl
          walk_at "wp"
          refine ⟨by walk_at "one", by walk_at "one", fun e => ⟨by omega, ?_⟩, fun e => ?_⟩
          · have : isG N (.tuple [.int a, .int b, .int c, .int d]) = decide (c % N = 0) := by show (decide _ && decide _) = _; rw [decide_eq_true e, Bool.true_and]
            rw [← this]; exact hG
          · have : isG N (.tuple [.int a, .int b, .int c, .int d]) = false := by show (decide _ && decide _) = _; rw [decide_eq_false e, Bool.false_and]
            rw [← this]; exact hG
def C_law_bezout : Ck := ⟨["_law_one", "_law_other", "_law_here", "_law_there", "_law_left", "_law_right", "_law_turn", "_law_part", "_law_a", "_law_b"], [], [], [], ["range", "tuple", "zip"], false, []⟩
def b_law_bezout : Ax.S := (.asg (.tup (.cons (.v 2) (.cons (.v 3) (.cons (.v 4) (.cons (.v 5) .nil))))) (.tup (.cons (.tup (.cons (.v 0) (.cons (.int 1) (.cons (.int 0) .nil)))) (.cons (.tup (.cons (.v 1) (.cons (.int 0) (.cons (.int 1) .nil)))) (.cons (.int 0) (.cons (.int 0) .nil))))) (.fo (.v 6) (.range1 (.int 400)) (.ife (.eq (.ix (.v 3) (.int 0)) (.int 0)) .brk .skip (.set 7 (.bin .fdiv (.ix (.v 2) (.int 0)) (.ix (.v 3) (.int 0))) (.par 2 3 (.v 3) (.b1 .tuple (.lc [8, 9] (.tup (.cons (.v 8) (.cons (.v 9) .nil))) (.zip (.v 2) (.v 3)) .nil (.bin .sub (.v 8) (.bin .mul (.v 7) (.v 9))))) .skip))) (.par 4 5 (.bin .mul (.ix (.v 2) (.int 1)) (.ix (.v 2) (.int 0))) (.bin .mul (.ix (.v 2) (.int 2)) (.ix (.v 2) (.int 0))) (.ret (.tup (.cons (.v 4) (.cons (.v 5) .nil)))))))

def ph_law_bezout (κ : Xn → List Sl → Prop) : Ph := ⟨fun _ => rNo, fun _ => oNo, fun _ => lNo, κ⟩
theorem w_law_bezout (κ : Xn → List Sl → Prop) (ds : List Dt) (G : Dt → Prop) (h : R_law_bezout ds G) : ds.length = 2 ∧ wpB (ph_law_bezout κ) b_law_bezout (ini C_law_bezout.N ds) { nx := fun _ => G .none, rt := fun d _ => G d } := by
  obtain ⟨o1, o2, rfl, h1, h2, hG⟩ := h
  refine ⟨rfl, ?_⟩
  show wpB _ _ [.fz _, .fz _, .no, .no, .no, .no, .no, .no, .no, .no] _
  unfold b_law_bezout ph_law_bezout
  walk_at "wp"
  refine ⟨by decide, by decide, wp_fo (fun i es => ∃ (r0 s0 t0 r1 s1 t1 : Int) (x1 x2 x3 x4 : Sl), es = [.fz (.int o1), .fz (.int o2), .fz (.tuple [.int r0, .int s0, .int t0]), .fz (.tuple [.int r1, .int s1, .int t1]), .fz (.int 0), .fz (.int 0), x1, x2, x3, x4] ∧ (x3 = .no ∧ x4 = .no) ∧ Bz o1 o2 i r0 s0 t0 r1 s1 t1) ⟨_, _, _, _, _, _, _, _, _, _, rfl, ⟨rfl, rfl⟩, Bz.start o1 o2⟩ (fun i x es hx ⟨r0, s0, t0, r1, s1, t1, x1, x2, x3, x4, he, ⟨n3, n4⟩, I⟩ k hk => ?_) (fun es ⟨r0, s0, t0, r1, s1, t1, x1, x2, x3, x4, he, ⟨n3, n4⟩, I⟩ => ?_)⟩
  · subst he n3 n4
    walk_at "fo"
    refine ⟨fun hz => ?_, fun hz => ?_⟩
    · subst hz
      obtain ⟨br, bs, bt⟩ := I.bdr h1 h2
      refine ⟨by walk_at "one", by walk_at "one", hG _ _ ((bs.mul br).mono (by decide)) ((bt.mul br).mono (by decide)) fun hg => ?_⟩
      obtain ⟨d1, d2, d3⟩ := I.done hg
      have := I.bs0
      have := I.bt0
      exact ⟨d1, by omega, by omega⟩
    · obtain ⟨⟨b1, b2, b3⟩, b4, b5, b6⟩ := I.bds h1 h2 hz
      have J := I.step hz
      have bq := fdiv_bd hz b1 b4
      generalize r0.fdiv r1 = qq at *
      exact ⟨by walk_at "one", rfl, by walk_at "one", by walk_at "one", by walk_at "one", hk _ ⟨_, _, _, _, _, _, _, _, _, _, rfl, ⟨rfl, rfl⟩, J⟩⟩
  · rw [rng_len] at I
    have hz : r1 = 0 := I.fin (by decide) (by
      have := bd_nat h2
      have y3 : (o2.natAbs : Int) * o2.natAbs ≤ 2 ^ 160 * 2 ^ 160 := Int.mul_le_mul (by omega) (by omega) (by omega) (by omega)
      have e : (2 : Int) ^ 160 * 2 ^ 160 < 2 ^ ((400 : Int).toNat - 1) := by decide +kernel
      omega)
    subst he n3 n4 hz
    walk_at "wp"
    obtain ⟨br, bs, bt⟩ := I.bdr h1 h2
    refine ⟨by walk_at "one", by walk_at "one", hG _ _ ((bs.mul br).mono (by decide)) ((bt.mul br).mono (by decide)) fun hg => ?_⟩
    obtain ⟨d1, d2, d3⟩ := I.done hg
    have := I.bs0
    have := I.bt0
    exact ⟨d1, by omega, by omega⟩
def C_law_matrix_drawn : Ck := ⟨["_law_dice_here", "_law_level", "_law_most", "_law_c", "_law_d", "_law_x", "_law_y", "_law_m", "_law_one"], ["_law_gcd", "_law_bezout"], ["_law_roll", "_law_pick"], [], ["range"], false, []⟩
def b_law_matrix_drawn : Ax.S := (.set 3 (.bin .mul (.v 1) (.bin .sub (.callo 0 0 (.cons (.bin .add (.bin .mul (.int 2) (.v 2)) (.int 1)) .nil)) (.v 2))) (.set 4 (.callo 1 0 (.cons (.lc [8] (.v 8) (.range2 (.bin .sub (.bin .mul (.neg (.int 4)) (.v 2)) (.int 1)) (.bin .add (.bin .mul (.int 4) (.v 2)) (.int 2))) (.eq (.call 0 (.cons (.v 8) (.cons (.v 3) .nil))) (.int 1)) (.v 8)) .nil)) (.asg (.tup (.cons (.v 5) (.cons (.v 6) .nil))) (.call 1 (.cons (.v 4) (.cons (.v 3) .nil))) (.set 7 (.bin .sub (.callo 0 0 (.cons (.int 7) .nil)) (.int 3)) (.ret (.tup (.cons (.bin .add (.v 5) (.bin .mul (.v 7) (.v 3))) (.cons (.bin .sub (.bin .mul (.v 7) (.v 4)) (.v 6)) (.cons (.v 3) (.cons (.v 4) .nil))))))))))

def ph_law_matrix_drawn (κ : Xn → List Sl → Prop) : Ph := ⟨fun | 0 => lf R_law_gcd | 1 => lf R_law_bezout | _ => rNo, fun | 0 => lfO R_law_roll | 1 => lfO R_law_pick | _ => oNo, fun _ => lNo, κ⟩
theorem w_law_matrix_drawn (κ : Xn → List Sl → Prop) (ds as : List Dt) (G : Dt → List Dt → Prop) (h : R_law_matrix_drawn ds as G) : as.length + 1 = 3 ∧ wpB (ph_law_matrix_drawn κ) b_law_matrix_drawn (iniO C_law_matrix_drawn.N ds as) { nx := fun es => owAt es 0 fun b ds2 => b = false ∧ G .none ds2, rt := fun d es => owAt es 0 fun b ds2 => b = false ∧ G d ds2 } := by
  obtain ⟨N, most, m, rfl, hD, h1, h2, h3, h4, h5, hG⟩ := h
  refine ⟨rfl, ?_⟩
  show wpB _ _ [.own _ (.l _), .fz _, .fz _, .no, .no, .no, .no, .no, .no] _
  unfold b_law_matrix_drawn ph_law_matrix_drawn
  walk_at "wp"
  try simp only [R_law_gcd, R_law_bezout, R_law_roll, R_law_pick]
  try walk_at "wp"
  have bm : Bd 60 most := Bd.of (m := 101) (by omega) (by omega) (by decide)
  have bN : Bd 60 N := Bd.of (m := 101) (by omega) (by omega) (by decide)
  refine ⟨by walk_at "one", m, hD, by omega, Bd.of (m := 300) (by omega) (by omega) (by decide), by omega, fun r1 ds r0 r2 hD => ?_⟩
  have c1 : Bd 60 (r1 - most) := Bd.of (m := 101) (by omega) (by omega) (by decide)
  refine ⟨by walk_at "one", by walk_at "one", by walk_at "one", by omega, by omega, by omega, by omega, rfl, by rw [rng_len]; omega, ?_⟩
  have x1 : N * (r1 - most) ≤ 100 * 10 := by
    rcases ilt (r1 - most) 0 with h | h
    · have : N * (r1 - most) ≤ N * 0 := Int.mul_le_mul_of_nonneg_left (by omega) (by omega)
      omega
    · exact Int.mul_le_mul h2 (by omega) h (by omega)
  have x2 : N * (most - r1) ≤ 100 * 10 := by
    rcases ilt (most - r1) 0 with h | h
    · have : N * (most - r1) ≤ N * 0 := Int.mul_le_mul_of_nonneg_left (by omega) (by omega)
      omega
    · exact Int.mul_le_mul h2 (by omega) h (by omega)
  have x3 : N * (most - r1) = -(N * (r1 - most)) := by rw [← Int.mul_neg]; congr 1; omega
  have dv : N ∣ N * (r1 - most) := ⟨_, rfl⟩
  generalize N * (r1 - most) = c at *
  refine runC_filter (gc1 c) (fun x hx k hk1 hk2 => ?_) ?_
  · obtain ⟨i, hi, rfl⟩ := rng_mem hx
    walk_at "fo"
    simp only [R_law_gcd]
    walk_at "fo"
    exact ⟨fun h => hk1 (decide_eq_true h), fun h => hk2 (decide_eq_false h)⟩
  · rw [mrg_wipe (by rfl)]
    walk_at "wp"
    refine ⟨m + 1, hD, List.length_pos_of_mem (a := .int 1) (List.mem_filter.mpr ⟨rng_in (by omega) (by omega), (show gc1 c (.int 1) = true by show decide (((Int.gcd 1 c : Nat) : Int) = 1) = true; rw [Int.one_gcd]; rfl)⟩), Nat.le_trans (List.length_filter_le _ _) (by rw [rng_len]; omega), by omega, fun x hx ds hD => ?_⟩
    obtain ⟨f1, f2⟩ := List.mem_filter.mp hx
    obtain ⟨i, hi, rfl⟩ := rng_mem f1
    have hg : Int.gcd (-4 * most - 1 + (i : Int)) c = 1 := by have := of_decide_eq_true f2; exact_mod_cast this
    have d1 : -41 ≤ -4 * most - 1 + (i : Int) := by omega
    have d2 : -4 * most - 1 + (i : Int) ≤ 41 := by omega
    generalize -4 * most - 1 + (i : Int) = d at *
    walk_at "wp"
    refine ⟨Bd.of (m := 101) (by omega) (by omega) (by decide +kernel), Bd.of (m := 2000) (by omega) (by omega) (by decide +kernel), fun x y bx by1 hxy => ⟨m + 2, hD, by decide, Bd.lit 60 (by decide +kernel), by omega, fun r ds r3 r4 hD => ?_⟩⟩
    obtain ⟨y1, y2, y3⟩ := hxy hg
    have bmm : Bd 60 (r - 3) := Bd.of (m := 101) (by omega) (by omega) (by decide)
    have bc : Bd 60 c := Bd.of (m := 2000) (by omega) (by omega) (by decide)
    have bd : Bd 60 d := Bd.of (m := 2000) (by omega) (by omega) (by decide)
    refine ⟨by walk_at "one", by walk_at "one", ?_⟩
    generalize hmm : r - 3 = mm at *
    have k1 : (mm * c).natAbs ≤ 3 * 1000 := by rw [Int.natAbs_mul]; exact Nat.mul_le_mul (by omega) (by omega)
    have k2 : (mm * d).natAbs ≤ 3 * 41 := by rw [Int.natAbs_mul]; exact Nat.mul_le_mul (by omega) (by omega)
    refine hG _ _ _ _ _ ?_ dv (by omega) (by omega) (by omega) (by omega) hD
    have : (x + mm * c) * d - (mm * d - y) * c = x * d + y * c := by grind
    rw [this, y1]
end Pf

set_option Elab.async false
set_option linter.all false
set_option maxRecDepth 100000
set_option maxHeartbeats 4000000
namespace Pf
open PySem PySem.Spec PyProof.Rows L2 Lv Ax
theorem dvd_of_gcd {a b c : Int} (h : Int.gcd a b = 1) (hd : b ∣ a * c) : b ∣ c := by
  obtain ⟨u, v, e⟩ := bezI a b
  rw [h] at e
  obtain ⟨k, hk⟩ := hd
  exact ⟨u * k + v * c, by
    have : c = (u * a + v * b) * c := by rw [e]; simp
    rw [this]; grind⟩
theorem fr_uniq {p q p' q' : Int} (h : IsFr p q) (h' : IsFr p' q') (e : p * q' = p' * q) : p = p' ∧ q = q' := by
  obtain ⟨a1, a2, a3⟩ := h
  obtain ⟨b1, b2, b3⟩ := h'
  have d1 : q ∣ q' := dvd_of_gcd a2 ⟨p', by rw [e]; exact Int.mul_comm _ _⟩
  have d2 : q' ∣ q := dvd_of_gcd b2 ⟨p, by rw [← e]; exact Int.mul_comm _ _⟩
  have eq : q = q' := Int.dvd_antisymm a1 b1 d1 d2
  subst eq
  refine ⟨?_, rfl⟩
  by_cases z : q = 0
  · rw [a3 z, b3 z]
  · exact Int.eq_of_mul_eq_mul_right z e
theorem nrm_uniq {A B p q k : Int} (h : IsFr p q) (hk : k ≠ 0) (h1 : A = k * p) (h2 : B = k * q) : nrm A B = (p, q) := by
  have hn : ¬(A = 0 ∧ B = 0) := fun ⟨z1, z2⟩ => by
    rw [h1] at z1; rw [h2] at z2
    have e1 := (Int.mul_eq_zero.mp z1).resolve_left hk
    have e2 := (Int.mul_eq_zero.mp z2).resolve_left hk
    have := h.2.2 e2
    omega
  obtain ⟨e, he, f1, f2, f3⟩ := nrm_fr hn
  have gp := gcd_pos hn
  have hk2 : e * ((Int.gcd A B : Nat) : Int) ≠ 0 := by
    rcases he with he | he <;> subst he <;> omega
  obtain ⟨u1, u2⟩ := fr_uniq f3 h (by
    have : e * ((Int.gcd A B : Nat) : Int) * k * ((nrm A B).1 * q) = e * ((Int.gcd A B : Nat) : Int) * k * (p * (nrm A B).2) := by
      have x1 : e * ((Int.gcd A B : Nat) : Int) * k * ((nrm A B).1 * q) = (e * ((Int.gcd A B : Nat) : Int) * (nrm A B).1) * (k * q) := by grind
      have x2 : e * ((Int.gcd A B : Nat) : Int) * k * (p * (nrm A B).2) = (k * p) * (e * ((Int.gcd A B : Nat) : Int) * (nrm A B).2) := by grind
      rw [x1, x2, ← f1, ← f2, ← h1, ← h2]
    exact Int.eq_of_mul_eq_mul_left (Int.mul_ne_zero hk2 hk) this)
  exact Prod.ext u1 u2
theorem nrm_scale {k A B : Int} (hk : k ≠ 0) (h : ¬(A = 0 ∧ B = 0)) : nrm (k * A) (k * B) = nrm A B := by
  obtain ⟨e, he, f1, f2, f3⟩ := nrm_fr h
  have gp := gcd_pos h
  have hk1 : e * ((Int.gcd A B : Nat) : Int) ≠ 0 := by rcases he with he | he <;> subst he <;> omega
  have := nrm_uniq (A := k * A) (B := k * B) (p := (nrm A B).1) (q := (nrm A B).2) (k := k * (e * ((Int.gcd A B : Nat) : Int))) f3 (Int.mul_ne_zero hk hk1) (by rw [Int.mul_assoc, ← f1]) (by rw [Int.mul_assoc, ← f2])
  exact this
/-- leading by a product -/
theorem nrm_lead {a b c d t u : Int} (h : ¬(t = 0 ∧ u = 0)) (h2 : ¬(a * (nrm t u).1 + b * (nrm t u).2 = 0 ∧ c * (nrm t u).1 + d * (nrm t u).2 = 0)) : nrm (a * t + b * u) (c * t + d * u) = nrm (a * (nrm t u).1 + b * (nrm t u).2) (c * (nrm t u).1 + d * (nrm t u).2) := by
  obtain ⟨e, he, f1, f2, f3⟩ := nrm_fr h
  have gp := gcd_pos h
  have hk1 : e * ((Int.gcd t u : Nat) : Int) ≠ 0 := by rcases he with he | he <;> subst he <;> omega
  have e1 : a * t + b * u = e * ((Int.gcd t u : Nat) : Int) * (a * (nrm t u).1 + b * (nrm t u).2) := by
    calc a * t + b * u = a * (e * ((Int.gcd t u : Nat) : Int) * (nrm t u).1) + b * (e * ((Int.gcd t u : Nat) : Int) * (nrm t u).2) := by rw [← f1, ← f2]
      _ = _ := by grind
  have e2 : c * t + d * u = e * ((Int.gcd t u : Nat) : Int) * (c * (nrm t u).1 + d * (nrm t u).2) := by
    calc c * t + d * u = c * (e * ((Int.gcd t u : Nat) : Int) * (nrm t u).1) + d * (e * ((Int.gcd t u : Nat) : Int) * (nrm t u).2) := by rw [← f1, ← f2]
      _ = _ := by grind
  rw [e1, e2]
  exact nrm_scale hk1 h2
theorem mul_abs {a b : Int} {m n : Nat} (h1 : a.natAbs ≤ m) (h2 : b.natAbs ≤ n) : (a * b).natAbs ≤ m * n := by rw [Int.natAbs_mul]; exact Nat.mul_le_mul h1 h2
theorem jOf2 {a : Int} (h : a.natAbs ≤ 1000000000000) : isJ (.int a) = true := by
  have h1 : (-1000000000000000000000000000000000000000000000000000000000000 : Int) < a := by omega
  have h2 : a < 1000000000000000000000000000000000000000000000000000000000000 := by omega
  simp [isJ, h1, h2]
theorem bOf2 {a : Int} (h : a.natAbs ≤ 1000000000000) : Bd 1000 a := Bd.mono (n := 60) (by unfold Bd; omega) (by decide)
theorem isG_of {N a b c d : Int} (h : a * d - b * c = 1) (hn : N ∣ c) : isG N (.tuple [.int a, .int b, .int c, .int d]) = true := by
  show (decide _ && decide _) = true
  rw [decide_eq_true h, decide_eq_true (Int.emod_eq_zero_of_dvd hn)]; rfl
theorem fine_of {a b c d : Int} (h1 : a.natAbs ≤ 1000000000000) (h2 : b.natAbs ≤ 1000000000000) (h3 : c.natAbs ≤ 1000000000000) (h4 : d.natAbs ≤ 1000000000000) : Fine (.tuple [.int a, .int b, .int c, .int d]) := fine_M (bOf2 h1) (bOf2 h2) (bOf2 h3) (bOf2 h4)
end Pf

set_option Elab.async false
set_option linter.all false
set_option maxRecDepth 100000
set_option maxHeartbeats 16000000
namespace Pf
open PySem PySem.Spec PyProof.Rows L2 Lv Ax
local macro_rules | `(tactic| walk_at "wp") => `(tactic| simp only [false_or, or_false, Sl.fz.injEq, isi_tt, isi_tl, isi_ti, isi_tn, isi_ii, isi_bi, some_eq, Int.cast_ofNat_Int, Int.reduceEq, eq_self, not_true_eq_false, shD_i', shD_2, shD_3, shD_4, shD_b', shD_n', at0, at1, at2, at3, ix30, ix31, ix32, eqz_ii, eqz_tt, eqz_ll, eqz_00, eqz_l0, eqz_0l, eqz_bb, eqz_nn, eqz_nt, eqz_tn, not_ex, exists_eq', len4, len2, wpB_dead, Bool.and_eq_true, Bool.or_eq_true, Bool.and_true, Bool.true_and, Bool.and_false, Bool.false_and, imp_false, Bool.and_eq_false_imp, Int.reduceNeg, wpE_v, wpE_gi, wpE_int, wpE_bool, wpE_non, wpE_str, wpE_bin, wpE_neg, wpE_cmp, wpE_eq, wpE_ne, wpE_isn, wpE_isnt, wpE_chain, wpE_chain3, wpE_and, wpE_or, wpE_not, wpE_ife, wpE_tup, wpE_lst, wpE_dnew, wpE_call, wpE_callo, wpE_b1, wpE_b2, wpE_isi, wpE_ix, wpE_ixo, wpE_sl, wpE_slt, wpE_inn, wpE_lc, wpA_nil, wpA_cons, wpT_nil, wpT_cmp, wpT_eq, wpT_ne, wpT_isn, wpT_isnt, wpT_chain, wpT_chain3, wpT_and, wpT_or, wpT_not, wpT_inn, wpT_call, wpT_callo, wpT_v, wpT_b1, wpT_isi, wpT_bin, wpO_nil, wpO_v, wpO_int, wpO_neg, wpO_bin, wpI_range1, wpI_range2, wpI_zip, wpI_enum, wpI_v, wpI_call, wpI_callo, wpI_tup, wpI_lst, wpI_b1, wpI_ix, wpI_bin, wpI_sl, wpL_lst, wpL_calll, wpL_lc, wpB_skip, wpB_frz, wpB_pass, wpB_exp, wpB_set, wpB_setL, wpB_asg, wpB_par, wpB_par3, wpB_ret, wpB_retN, wpB_retL, wpB_retO, wpB_ife, wpB_app, wpB_sto, wpB_aug, wpB_augo, wpB_brk, wpB_cont, wpE_p1, wpE_p2, wpE_p3g, wpE_dino, wpE_dgeto, wpE_dvals, wpT_p1, wpT_p2, wpT_dino, wpI_p1, wpI_p2, wpI_dkeys, wpI_ditems, wpB_dnewK, wpB_dnewT, wpB_dput, wpB_dputT, p1_boolI, p1_boolB, p1_min, p1_max, p2P_g, p2P_ix, p2P_in, p2P_ni, p2P_iq, p2P_nq, p2P_dm, p2_ix, p2_in, p2_ni, p2_g, p2_iq, p2_nq, p2_dm, p3_g, ownAt_z, ownAt_s, vals_K, vals_T, dk_K, isDt_K, isDt_T, owdt_K, owdt_T, dget_K, keyOf_i, Option.isSome_some, Option.isSome_none, Ow.dK.injEq, Ow.dT.injEq, fzAt_z, fzAt_s, owAt_z, owAt_s, bin_add, bin_cat, bin_catT, bin_sub, bin_mul, bin_rep, bin_mod, bin_fdiv, bin_pow, cmp_ii, cm_lt, cm_le, cm_gt, cm_ge, neg_i, seq_l, seq_t, seq_s, bool_b, int_i, tru_b, tru_i, tru_n, tru_l, tru_t, b1_abs, b1_int, b1_intb, b1_len, b1_sum, b1_all, b1_any, b1_tuple, b1_list, b1_str, b1_repr, b1_sorted, b2_gcd, b2_max, b2_min, ix_, inn_, bindT_v, bindT_t, bindTs_n, bindTs_c, aug_a, aug_s, wpB_fo, lf_, lfO_, lfL_, ph_k, nk_, ph_r, ph_o, ph_l, List.getElem?_cons_zero, List.getElem?_cons_succ, List.set_cons_zero, List.set_cons_succ, Option.some.injEq, exists_eq_left', exists_eq_left, exists_eq, exists_and_left, decide_eq_true_eq, decide_eq_false_iff_not, true_and, and_true, Dt.int.injEq, Dt.tuple.injEq, Dt.list.injEq, Dt.bool.injEq, List.cons.injEq, and_assoc, Sl.ow.injEq, Bool.not_eq_true, Bool.not_eq_eq_eq_not, Bool.not_true, Bool.not_false, List.length_cons, List.length_nil, Bool.true_eq_false, Bool.false_eq_true, false_implies, true_implies, reduceCtorEq, forall_const, implies_true, not_false_eq_true, not_true_eq_false, if_true, if_false, ite_true, ite_false, Nat.zero_add, Nat.reduceAdd, Nat.reduceLeDiff, Nat.reduceLT, false_and, and_false])
local macro_rules | `(tactic| walk_at "fo") => `(tactic| simp only [false_or, or_false, mrg, fzOnly, List.contains_cons, List.contains_nil, Nat.reduceBEq, Bool.or_false, Bool.or_true, Bool.false_or, Bool.true_or, List.nil_append, List.cons_append, zips, enums, wipe1, wipe2, wipe4, Sl.fz.injEq, shD_i', shD_2, shD_3, shD_4, shD_b', shD_n', at0, at1, at2, at3, ix30, ix31, ix32, eqz_ii, eqz_tt, eqz_ll, eqz_00, eqz_l0, eqz_0l, eqz_bb, eqz_nn, eqz_nt, eqz_tn, not_ex, exists_eq', len4, len2, wpB_dead, Bool.and_eq_true, Bool.or_eq_true, Bool.and_true, Bool.true_and, Bool.and_false, Bool.false_and, imp_false, Bool.and_eq_false_imp, Int.reduceNeg, foB_, lcB_, runF_n, runF_c, runC_n, runC_c, wpE_v, wpE_gi, wpE_int, wpE_bool, wpE_non, wpE_str, wpE_bin, wpE_neg, wpE_cmp, wpE_eq, wpE_ne, wpE_isn, wpE_isnt, wpE_chain, wpE_chain3, wpE_and, wpE_or, wpE_not, wpE_ife, wpE_tup, wpE_lst, wpE_dnew, wpE_call, wpE_callo, wpE_b1, wpE_b2, wpE_isi, wpE_ix, wpE_ixo, wpE_sl, wpE_slt, wpE_inn, wpE_lc, wpA_nil, wpA_cons, wpT_nil, wpT_cmp, wpT_eq, wpT_ne, wpT_isn, wpT_isnt, wpT_chain, wpT_chain3, wpT_and, wpT_or, wpT_not, wpT_inn, wpT_call, wpT_callo, wpT_v, wpT_b1, wpT_isi, wpT_bin, wpO_nil, wpO_v, wpO_int, wpO_neg, wpO_bin, wpI_range1, wpI_range2, wpI_zip, wpI_enum, wpI_v, wpI_call, wpI_callo, wpI_tup, wpI_lst, wpI_b1, wpI_ix, wpI_bin, wpI_sl, wpL_lst, wpL_calll, wpL_lc, wpB_skip, wpB_frz, wpB_pass, wpB_exp, wpB_set, wpB_setL, wpB_asg, wpB_par, wpB_par3, wpB_ret, wpB_retN, wpB_retL, wpB_retO, wpB_ife, wpB_app, wpB_sto, wpB_aug, wpB_augo, wpB_brk, wpB_cont, wpE_p1, wpE_p2, wpE_p3g, wpE_dino, wpE_dgeto, wpE_dvals, wpT_p1, wpT_p2, wpT_dino, wpI_p1, wpI_p2, wpI_dkeys, wpI_ditems, wpB_dnewK, wpB_dnewT, wpB_dput, wpB_dputT, p1_boolI, p1_boolB, p1_min, p1_max, p2P_g, p2P_ix, p2P_in, p2P_ni, p2P_iq, p2P_nq, p2P_dm, p2_ix, p2_in, p2_ni, p2_g, p2_iq, p2_nq, p2_dm, p3_g, ownAt_z, ownAt_s, vals_K, vals_T, dk_K, isDt_K, isDt_T, owdt_K, owdt_T, dget_K, keyOf_i, Option.isSome_some, Option.isSome_none, Ow.dK.injEq, Ow.dT.injEq, fzAt_z, fzAt_s, owAt_z, owAt_s, bin_add, bin_cat, bin_catT, bin_sub, bin_mul, bin_rep, bin_mod, bin_fdiv, bin_pow, cmp_ii, cm_lt, cm_le, cm_gt, cm_ge, neg_i, seq_l, seq_t, seq_s, bool_b, int_i, tru_b, tru_i, tru_n, tru_l, tru_t, b1_abs, b1_int, b1_intb, b1_len, b1_sum, b1_all, b1_any, b1_tuple, b1_list, b1_str, b1_repr, b1_sorted, b2_gcd, b2_max, b2_min, ix_, inn_, bindT_v, bindT_t, bindTs_n, bindTs_c, aug_a, aug_s, wpB_fo, lf_, lfO_, lfL_, ph_k, nk_, ph_r, ph_o, ph_l, List.getElem?_cons_zero, List.getElem?_cons_succ, List.set_cons_zero, List.set_cons_succ, Option.some.injEq, exists_eq_left', exists_eq_left, exists_eq, exists_and_left, decide_eq_true_eq, decide_eq_false_iff_not, true_and, and_true, Dt.int.injEq, Dt.tuple.injEq, Dt.list.injEq, Dt.bool.injEq, List.cons.injEq, and_assoc, Sl.ow.injEq, Bool.not_eq_true, Bool.not_eq_eq_eq_not, Bool.not_true, Bool.not_false, List.length_cons, List.length_nil, Bool.true_eq_false, Bool.false_eq_true, false_implies, true_implies, reduceCtorEq, forall_const, implies_true, not_false_eq_true, not_true_eq_false, if_true, if_false, ite_true, ite_false, Nat.zero_add, Nat.reduceAdd, Nat.reduceLeDiff, Nat.reduceLT, false_and, and_false])

local macro_rules | `(tactic| walk_at "bd") => `(tactic| repeat (first | with_reducible assumption | exact Bd.lit 12 (by decide +kernel) | exact Bd.lit 80 (by decide +kernel) | exact Bd.lit 500 (by decide +kernel) | with_reducible apply Bd.mod | with_reducible apply Bd.mul | with_reducible apply Bd.add | with_reducible apply Bd.sub | with_reducible apply Bd.neg | with_reducible apply Bd.div | with_reducible apply Bd.ite | decide | omega))
local macro_rules | `(tactic| walk_at "mul_ok") => `(tactic| (apply Bd.cmul; (focus walk_at "bd"); (focus walk_at "bd"); decide))
local macro_rules | `(tactic| walk_at "pos_ok") => `(tactic| first | assumption | decide | omega)
local macro_rules | `(tactic| walk_at "divv_ok") => `(tactic| (apply Bd.cdivV; (focus (first | assumption | omega)); (focus walk_at "bd"); decide; decide))
local macro_rules | `(tactic| walk_at "one") => `(tactic| first | with_reducible assumption | exact shD_dep rfl | exact Nat.le_of_ble_eq_true rfl | (with_reducible show CMulX _ _; walk_at "mul_ok") | (with_reducible show CDivV _ _; walk_at "divv_ok") | (with_reducible show Bd _ _; walk_at "bd") | omega | rfl | decide)
local macro_rules | `(tactic| walk_at "cj") => `(tactic| repeat' (apply And.intro))


/-- powers of the keeper -/
def R_law_matrix_power : List Dt → (Dt → Prop) → Prop := fun ds G => ∃ p q h k : Int, ds = [.tuple [.int (1 - p * q * h), .int (p * p * h), .int (-q * q * h), .int (1 + p * q * h)], .int k] ∧ Bd 20 p ∧ Bd 20 q ∧ Bd 20 h ∧ k.natAbs ≤ 3 ∧ G (.tuple [.int (1 - k * (p * q * h)), .int (k * (p * p * h)), .int (-(k * (q * q * h))), .int (1 + k * (p * q * h))])
def R_law_products_right : List Dt → List Dt → (Dt → List Dt → Prop) → Prop := fun ds as G => ∃ (N : Int) (m : Nat), as = [.int N] ∧ Dice m ds ∧ 1 ≤ N ∧ N ≤ 100 ∧ m + 4000 < 2 ^ 60 ∧ ∀ ds : List Dt, Dice (m + 50) ds → G (.bool true) ds
def R_law_keeper_right := R_law_products_right
def R_law_judged_right := R_law_products_right

def C_law_matrix_power : Ck := ⟨["_law_matrix", "_law_many", "_law_a", "_law_b", "_law_c", "_law_d", "_law_part", "_law_found", "_law_turn"], ["_law_matrix_times"], [], [], ["range", "abs"], false, []⟩
def b_law_matrix_power : Ax.S := (.asg (.tup (.cons (.v 2) (.cons (.v 3) (.cons (.v 4) (.cons (.v 5) .nil))))) (.v 0) (.par 6 7 (.ife (.cmp .ge (.v 1) (.int 0)) (.v 0) (.tup (.cons (.v 5) (.cons (.neg (.v 3)) (.cons (.neg (.v 4)) (.cons (.v 2) .nil)))))) (.tup (.cons (.int 1) (.cons (.int 0) (.cons (.int 0) (.cons (.int 1) .nil))))) (.fo (.v 8) (.range1 (.b1 .abs (.v 1))) (.set 7 (.call 0 (.cons (.v 7) (.cons (.v 6) .nil))) .skip) (.ret (.v 7)))))

def ph_law_matrix_power (κ : Xn → List Sl → Prop) : Ph := ⟨fun | 0 => lf R_law_matrix_times | _ => rNo, fun _ => oNo, fun _ => lNo, κ⟩
theorem w_law_matrix_power (κ : Xn → List Sl → Prop) (ds : List Dt) (G : Dt → Prop) (h : R_law_matrix_power ds G) : ds.length = 2 ∧ wpB (ph_law_matrix_power κ) b_law_matrix_power (ini C_law_matrix_power.N ds) { nx := fun _ => G .none, rt := fun d _ => G d } := by
  obtain ⟨p, q, h, k, rfl, bp, bq, bh, hk, hG⟩ := h
  refine ⟨rfl, ?_⟩
  show wpB _ _ [.fz _, .fz _, .no, .no, .no, .no, .no, .no, .no] _
  unfold b_law_matrix_power ph_law_matrix_power
  walk_at "wp"
  try simp only [R_law_matrix_times]
  try walk_at "wp"
  have key : ∀ (n : Nat) (P H Q : Int), Bd 100 P → Bd 100 H → Bd 100 Q → H * (-Q) = -(P * P) → n ≤ 3 → (∀ es x, es = [Sl.fz (Dt.tuple [Dt.int (1 - p * q * h), Dt.int (p * p * h), Dt.int (-q * q * h), Dt.int (1 + p * q * h)]), Sl.fz (Dt.int k), Sl.fz (Dt.int (1 - p * q * h)), Sl.fz (Dt.int (p * p * h)), Sl.fz (Dt.int (-q * q * h)), Sl.fz (Dt.int (1 + p * q * h)), Sl.fz (Dt.tuple [Dt.int (1 - P), Dt.int H, Dt.int (-Q), Dt.int (1 + P)]), Sl.fz (Dt.tuple [Dt.int (1 - n * P), Dt.int (n * H), Dt.int (-(n * Q)), Dt.int (1 + n * P)]), x] → fzAt es 7 fun d => G d) → runF (foBody (ph_law_matrix_power κ) (E.v 8) (S.set 7 (E.call 0 ((E.v 7).cons ((E.v 6).cons E.nil))) S.skip) (S.ret (E.v 7)) { nx := fun x => G Dt.none, rt := fun d x => G d }) (rng 0 n) [Sl.fz (Dt.tuple [Dt.int (1 - p * q * h), Dt.int (p * p * h), Dt.int (-q * q * h), Dt.int (1 + p * q * h)]), Sl.fz (Dt.int k), Sl.fz (Dt.int (1 - p * q * h)), Sl.fz (Dt.int (p * p * h)), Sl.fz (Dt.int (-q * q * h)), Sl.fz (Dt.int (1 + p * q * h)), Sl.fz (Dt.tuple [Dt.int (1 - P), Dt.int H, Dt.int (-Q), Dt.int (1 + P)]), Sl.fz (Dt.tuple [Dt.int 1, Dt.int 0, Dt.int 0, Dt.int 1]), Sl.no] (fun es2 => fzAt es2 7 fun d => G d) := fun n P H Q b1 b2 b3 hQ hn hend => by
    refine wp_fo (fun i es => ∃ x : Sl, es = [Sl.fz (Dt.tuple [Dt.int (1 - p * q * h), Dt.int (p * p * h), Dt.int (-q * q * h), Dt.int (1 + p * q * h)]), Sl.fz (Dt.int k), Sl.fz (Dt.int (1 - p * q * h)), Sl.fz (Dt.int (p * p * h)), Sl.fz (Dt.int (-q * q * h)), Sl.fz (Dt.int (1 + p * q * h)), Sl.fz (Dt.tuple [Dt.int (1 - P), Dt.int H, Dt.int (-Q), Dt.int (1 + P)]), Sl.fz (Dt.tuple [Dt.int (1 - i * P), Dt.int (i * H), Dt.int (-(i * Q)), Dt.int (1 + i * P)]), x]) ⟨.no, by simp⟩ (fun i x es hx ⟨y, he⟩ k0 hk0 => ?_) (fun es ⟨y, he⟩ => ?_)
    · subst he
      have hi : i < n := by
        have := (List.getElem?_eq_some_iff.mp hx).1
        rwa [rng_len] at this
      have bi : Bd 20 (i : Int) := Bd.of (m := 10) (by omega) (by omega) (by decide)
      unfold ph_law_matrix_power
      walk_at "fo"
      simp only [R_law_matrix_times]
      walk_at "fo"
      have c1 : Bd 490 (1 - (i : Int) * P) := by apply Bd.mono; (focus walk_at "bd"); decide
      have c2 : Bd 490 ((i : Int) * H) := by apply Bd.mono; (focus walk_at "bd"); decide
      have c3 : Bd 490 (-((i : Int) * Q)) := by apply Bd.mono; (focus walk_at "bd"); decide
      have c4 : Bd 490 (1 + (i : Int) * P) := by apply Bd.mono; (focus walk_at "bd"); decide
      have c5 : Bd 490 (1 - P) := by apply Bd.mono; (focus walk_at "bd"); decide
      have c6 : Bd 490 (1 + P) := by apply Bd.mono; (focus walk_at "bd"); decide
      refine ⟨c1, c2, c3, c4, c5, b2.mono (by decide), b3.neg.mono (by decide), c6, hk0 _ ⟨.fz x, ?_⟩⟩
      have q1 : (1 - (i : Int) * P) * (1 - P) + i * H * -Q = 1 - ((i + 1 : Nat) : Int) * P := by
        have : (i : Int) * H * -Q = i * (H * -Q) := by rw [Int.mul_assoc]
        rw [this, hQ]; push_cast; grind
      have q2 : (1 - (i : Int) * P) * H + i * H * (1 + P) = ((i + 1 : Nat) : Int) * H := by push_cast; grind
      have q3 : -((i : Int) * Q) * (1 - P) + (1 + i * P) * -Q = -(((i + 1 : Nat) : Int) * Q) := by push_cast; grind
      have q4 : -((i : Int) * Q) * H + (1 + i * P) * (1 + P) = 1 + ((i + 1 : Nat) : Int) * P := by
        have : -((i : Int) * Q) * H = i * (H * -Q) := by grind
        rw [this, hQ]; push_cast; grind
      rw [q1, q2, q3, q4]
    · rw [rng_len] at he
      exact hend es y he
  have bP : Bd 100 (p * q * h) := by apply Bd.mono; (focus walk_at "bd"); decide
  have bH : Bd 100 (p * p * h) := by apply Bd.mono; (focus walk_at "bd"); decide
  have bQ : Bd 100 (q * q * h) := by apply Bd.mono; (focus walk_at "bd"); decide
  have eQ : -q * q * h = -(q * q * h) := by grind
  refine ⟨fun h0 => ?_, fun h0 => ?_⟩
  · have e : (if k < 0 then -k else k) = k := by rw [if_neg (by omega)]
    rw [e]
    refine ⟨by omega, by omega, ?_⟩
    have := key k.toNat (p * q * h) (p * p * h) (q * q * h) bP bH bQ (by grind) (by omega) (fun es x he => by
      subst he
      walk_at "wp"
      rw [show ((k.toNat : Nat) : Int) = k from by omega]
      exact hG)
    rw [eQ] at this ⊢
    exact this
  · have e : (if k < 0 then -k else k) = -k := by rw [if_pos (by omega)]
    rw [e]
    refine ⟨by omega, by omega, ?_⟩
    have := key (-k).toNat (-(p * q * h)) (-(p * p * h)) (-(q * q * h)) bP.neg bH.neg bQ.neg (by grind) (by omega) (fun es x he => by
      subst he
      walk_at "wp"
      rw [show (((-k).toNat : Nat) : Int) = -k from by omega, show 1 - -k * -(p * q * h) = 1 - k * (p * q * h) from by grind, show -k * -(p * p * h) = k * (p * p * h) from by grind, show -(-k * -(q * q * h)) = -(k * (q * q * h)) from by grind, show 1 + -k * -(p * q * h) = 1 + k * (p * q * h) from by grind]
      exact hG)
    rw [show 1 - -(p * q * h) = 1 + p * q * h from by omega, show 1 + -(p * q * h) = 1 - p * q * h from by omega, ← eQ] at this
    exact this
def C_law_products_right : Ck := ⟨["_law_dice_here", "_law_level", "_law_one", "_law_other", "_law_both", "_law_fraction", "_law_back"], ["matrix_product", "is_member", "matrix_back", "_law_matrix_times", "led_fraction"], ["_law_matrix_drawn", "_law_fraction_drawn"], [], [], false, []⟩
def b_law_products_right : Ax.S := (.par 2 3 (.callo 0 0 (.cons (.v 1) (.cons (.int 5) .nil))) (.callo 0 0 (.cons (.v 1) (.cons (.int 5) .nil))) (.par 4 5 (.call 0 (.cons (.v 2) (.cons (.v 3) .nil))) (.callo 1 0 (.cons (.int 50) .nil)) (.ife (.or (.ne (.v 4) (.call 3 (.cons (.v 2) (.cons (.v 3) .nil)))) (.or (.not (.call 1 (.cons (.v 1) (.cons (.v 4) .nil)))) (.not (.call 1 (.cons (.v 1) (.cons (.call 2 (.cons (.v 2) .nil)) .nil)))))) (.ret (.bool false)) .skip (.ife (.ne (.call 4 (.cons (.v 4) (.cons (.v 5) .nil))) (.call 4 (.cons (.v 2) (.cons (.call 4 (.cons (.v 3) (.cons (.v 5) .nil))) .nil)))) (.ret (.bool false)) .skip (.set 6 (.call 2 (.cons (.v 2) .nil)) (.ret (.and (.eq (.call 0 (.cons (.v 2) (.cons (.v 6) .nil))) (.tup (.cons (.int 1) (.cons (.int 0) (.cons (.int 0) (.cons (.int 1) .nil)))))) (.eq (.v 6) (.tup (.cons (.ix (.v 2) (.int 3)) (.cons (.neg (.ix (.v 2) (.int 1))) (.cons (.neg (.ix (.v 2) (.int 2))) (.cons (.ix (.v 2) (.int 0)) .nil)))))))))))))

def ph_law_products_right (κ : Xn → List Sl → Prop) : Ph := ⟨fun | 0 => lf Rmatrix_product | 1 => lf Ris_member | 2 => lf Rmatrix_back | 3 => lf R_law_matrix_times | 4 => lf Rled_fraction | _ => rNo, fun | 0 => lfO R_law_matrix_drawn | 1 => lfO R_law_fraction_drawn | _ => oNo, fun _ => lNo, κ⟩
theorem w_law_products_right (κ : Xn → List Sl → Prop) (ds as : List Dt) (G : Dt → List Dt → Prop) (h : R_law_products_right ds as G) : as.length + 1 = 2 ∧ wpB (ph_law_products_right κ) b_law_products_right (iniO C_law_products_right.N ds as) { nx := fun es => owAt es 0 fun b ds2 => b = false ∧ G .none ds2, rt := fun d es => owAt es 0 fun b ds2 => b = false ∧ G d ds2 } := by
  obtain ⟨N, m, rfl, hD, h1, h2, h3, hG⟩ := h
  refine ⟨rfl, ?_⟩
  show wpB _ _ [.own _ (.l _), .fz _, .no, .no, .no, .no, .no] _
  unfold b_law_products_right ph_law_products_right
  walk_at "wp"
  try simp only [Rmatrix_product, Ris_member, Rmatrix_back, R_law_matrix_times, Rled_fraction, R_law_matrix_drawn, R_law_fraction_drawn]
  try walk_at "wp"
  refine ⟨m, hD, h1, h2, by decide, by decide, by omega, fun a b c d ds dt nc sa sb sc sd hD => ⟨m + 3, hD, h1, h2, by decide, by decide, by omega, fun e f g h ds dt2 nc2 se sf sg sh hD => ?_⟩⟩
  have j1 : isJ (.int a) = true := jOf (by omega)
  have j2 : isJ (.int b) = true := jOf (by omega)
  have j3 : isJ (.int c) = true := jOf (by omega)
  have j4 : isJ (.int d) = true := jOf (by omega)
  have j5 : isJ (.int e) = true := jOf (by omega)
  have j6 : isJ (.int f) = true := jOf (by omega)
  have j7 : isJ (.int g) = true := jOf (by omega)
  have j8 : isJ (.int h) = true := jOf (by omega)
  refine ⟨j1, j2, j3, j4, j5, j6, j7, j8, m + 6, hD, by decide, by decide, by omega, fun p q ds hF sp sq hD => ?_⟩
  have FB : Fine (.tuple [.int d, .int (-b), .int (-c), .int a]) := fine_of (by omega) (by omega) (by omega) (by omega)
  have m1 := mul_abs sa se
  have m2 := mul_abs sb sg
  have m3 := mul_abs sa sf
  have m4 := mul_abs sb sh
  have m5 := mul_abs sc se
  have m6 := mul_abs sd sg
  have m7 := mul_abs sc sf
  have m8 := mul_abs sd sh
  have s1 : (a * e + b * g).natAbs ≤ 1000000000000 := by omega
  have s2 : (a * f + b * h).natAbs ≤ 1000000000000 := by omega
  have s3 : (c * e + d * g).natAbs ≤ 1000000000000 := by omega
  have s4 : (c * f + d * h).natAbs ≤ 1000000000000 := by omega
  have dd : (a * e + b * g) * (c * f + d * h) - (a * f + b * h) * (c * e + d * g) = 1 := by
    have : (a * e + b * g) * (c * f + d * h) - (a * f + b * h) * (c * e + d * g) = (a * d - b * c) * (e * h - f * g) := by grind
    rw [this, dt, dt2]; rfl
  have nn : N ∣ c * e + d * g := by
    obtain ⟨u, rfl⟩ := nc
    obtain ⟨v, rfl⟩ := nc2
    exact ⟨u * e + d * v, by grind⟩
  have d3 : d * a - -b * -c = 1 := by rw [← dt]; grind
  have n3 : N ∣ -c := Int.dvd_neg.mpr nc
  have FM := fine_of s1 s2 s3 s4
  have g1 := isG_of dd nn
  have g2 := isG_of d3 n3
  have dne : (a * e + b * g) * (c * f + d * h) - (a * f + b * h) * (c * e + d * g) ≠ 0 := by rw [dd]; decide
  have ene : e * h - f * g ≠ 0 := by rw [dt2]; decide
  have ane : a * d - b * c ≠ 0 := by rw [dt]; decide
  have dD : Dice (m + 50) ds := hD.up (by omega)
  have L1 := lead0 (p := p) (q := q) (a := a * e + b * g) (b := a * f + b * h) (c := c * e + d * g) (d := c * f + d * h) dne hF
  have L2 := lead0 (p := p) (q := q) (a := e) (b := f) (c := g) (d := h) ene hF
  have F2 := frLed L2 se sf sg sh sp sq
  have L3 := lead0 (a := a) (b := b) (c := c) (d := d) ane F2
  have eL : nrm ((a * e + b * g) * p + (a * f + b * h) * q) ((c * e + d * g) * p + (c * f + d * h) * q) = nrm (a * (nrm (e * p + f * q) (g * p + h * q)).1 + b * (nrm (e * p + f * q) (g * p + h * q)).2) (c * (nrm (e * p + f * q) (g * p + h * q)).1 + d * (nrm (e * p + f * q) (g * p + h * q)).2) := by
    rw [← nrm_lead L2 L3]
    congr 1 <;> grind
  refine ⟨jbd2 j1, jbd2 j2, jbd2 j3, jbd2 j4, jbd2 j5, jbd2 j6, jbd2 j7, jbd2 j8, h1, h2, FM.1, FM.2, fun z => (by rw [g1] at z; cases z), fun _ => ⟨j1, j2, j3, j4, dt, h1, h2, FB.1, FB.2, fun z => (by rw [g2] at z; cases z), fun _ => ?_⟩⟩
  refine ⟨jOf2 s1, jOf2 s2, jOf2 s3, jOf2 s4, hF, dne, L1, j5, j6, j7, j8, hF, ene, L2, j1, j2, j3, j4, F2, ane, L3, ?_⟩
  rw [eL]
  refine ⟨fun z => absurd rfl (z rfl), fun _ => ⟨j1, j2, j3, j4, dt, j1, j2, j3, j4, j4, jOf2 (by rw [Int.natAbs_neg]; exact Nat.le_trans sb (by decide)), jOf2 (by rw [Int.natAbs_neg]; exact Nat.le_trans sc (by decide)), j1, fun _ => ?_, fun z => ?_⟩⟩
  · simp only [decide_true, Bool.and_true]
    exact hG _ dD
  · exact absurd (by rw [← dt]; grind) (z (by rw [← dt]; grind) (by grind) (by grind))

theorem wid_pos {N q : Int} (h : 1 ≤ N) : 1 ≤ wid N q := by
  have g : (0 : Int) < ((Int.gcd N (q * q) : Nat) : Int) := by
    have := Int.gcd_pos_of_ne_zero_left (q * q) (show N ≠ 0 by omega)
    omega
  obtain ⟨k, hk⟩ : ((Int.gcd N (q * q) : Nat) : Int) ∣ N := Int.gcd_dvd_left ..
  have e : wid N q = k := Int.ediv_eq_of_eq_mul_right (by omega) hk
  rw [e]
  rcases Int.lt_or_le k 1 with z | z
  · exfalso
    have : ((Int.gcd N (q * q) : Nat) : Int) * k ≤ 0 := Int.mul_nonpos_of_nonneg_of_nonpos (by omega) (by omega)
    omega
  · exact z
theorem wid_le {N q : Int} (h : 1 ≤ N) : wid N q ≤ N := by
  show N / _ ≤ N
  exact Int.ediv_le_self _ (by omega)
theorem wid_dvd {N q : Int} (h : 1 ≤ N) : N ∣ q * q * wid N q := by
  have g : (0 : Int) < ((Int.gcd N (q * q) : Nat) : Int) := by
    have := Int.gcd_pos_of_ne_zero_left (q * q) (show N ≠ 0 by omega)
    omega
  obtain ⟨k, hk⟩ : ((Int.gcd N (q * q) : Nat) : Int) ∣ N := Int.gcd_dvd_left ..
  obtain ⟨l, hl⟩ : ((Int.gcd N (q * q) : Nat) : Int) ∣ q * q := Int.gcd_dvd_right ..
  have e : wid N q = k := Int.ediv_eq_of_eq_mul_right (by omega) hk
  rw [e]
  exact ⟨l, by
    generalize ((Int.gcd N (q * q) : Nat) : Int) = z at hk hl
    rw [hk, hl]; grind⟩
theorem wid_min {N q x : Int} (h : 1 ≤ N) (hd : N ∣ q * q * x) : wid N q ∣ x := by
  have g : (0 : Int) < ((Int.gcd N (q * q) : Nat) : Int) := by
    have := Int.gcd_pos_of_ne_zero_left (q * q) (show N ≠ 0 by omega)
    omega
  obtain ⟨u, v, e2⟩ := bezI N (q * q)
  obtain ⟨k, hk⟩ : ((Int.gcd N (q * q) : Nat) : Int) ∣ N := Int.gcd_dvd_left ..
  have e : wid N q = k := Int.ediv_eq_of_eq_mul_right (by omega) hk
  rw [e]
  obtain ⟨y, hy⟩ := hd
  generalize ((Int.gcd N (q * q) : Nat) : Int) = z at hk e2 g
  have : z * x = z * (k * (u * x + v * y)) := by
    have a1 : z * x = (u * N + v * (q * q)) * x := by rw [e2]
    have a2 : (u * N + v * (q * q)) * x = u * N * x + v * (q * q * x) := by grind
    rw [a1, a2, hy]
    conv => lhs; rw [hk]
    grind
  exact ⟨_, Int.eq_of_mul_eq_mul_left (by omega) this⟩


theorem cut_last {xs : List Dt} {x : Dt} : Lv.cutD (xs ++ [x]) none (some (-1)) = xs := by
  unfold Lv.cutD HT.sIx
  simp
  rw [show (-1 + ((xs.length : Int) + 1)).toNat = xs.length from by omega]
  exact List.take_left
theorem div_last {h : Int} (w : 1 ≤ h) : Lv.cutD (List.filter (dvB h) (rng 1 h.toNat)) none (some (-1)) = List.filter (dvB h) (rng 1 (h - 1).toNat) := by
  have e : rng 1 h.toNat = rng 1 (h - 1).toNat ++ [.int h] := by
    have : h.toNat = (h - 1).toNat + 1 := by omega
    unfold rng
    rw [this, List.range_succ, List.map_append]
    simp only [List.map_cons, List.map_nil]
    rw [show (1 : Int) + ((h - 1).toNat : Int) = h from by omega]
  have e2 : List.filter (dvB h) [.int h] = [.int h] := by simp [dvB]
  rw [e, List.filter_append, e2, cut_last]
theorem mem_divs {h : Int} {x : Dt} (hx : x ∈ List.filter (dvB h) (rng 1 (h - 1).toNat)) : ∃ j : Int, x = .int j ∧ 1 ≤ j ∧ j < h ∧ h % j = 0 := by
  obtain ⟨h1, h2⟩ := List.mem_filter.mp hx
  obtain ⟨i, hi, rfl⟩ := rng_mem h1
  exact ⟨_, rfl, by omega, by omega, of_decide_eq_true h2⟩

def C_law_keeper_right : Ck := ⟨["_law_dice_here", "_law_level", "_law_fraction", "_law_p", "_law_q", "_law_h", "_law_told", "_law_turn", "_law_many", "_law_power", "_law_less", "_law_some"], ["_law_width", "keeper_of", "_law_is_group", "_law_matrix_led", "_law_matrix_power", "_law_divisors", "is_member", "led_fraction"], ["_law_fraction_drawn", "_law_roll"], [], [], false, []⟩
def b_law_keeper_right : Ax.S := (.set 2 (.callo 0 0 (.cons (.int 30) .nil)) (.asg (.tup (.cons (.v 3) (.cons (.v 4) .nil))) (.v 2) (.set 5 (.call 0 (.cons (.v 1) (.cons (.v 2) .nil))) (.par 6 7 (.call 1 (.cons (.v 1) (.cons (.v 2) .nil))) (.bin .mul (.bin .mul (.v 3) (.v 4)) (.v 5)) (.ife (.or (.ne (.v 6) (.tup (.cons (.bin .sub (.int 1) (.v 7)) (.cons (.bin .mul (.bin .mul (.v 3) (.v 3)) (.v 5)) (.cons (.bin .mul (.bin .mul (.neg (.v 4)) (.v 4)) (.v 5)) (.cons (.bin .add (.int 1) (.v 7)) .nil)))))) (.not (.call 2 (.cons (.v 1) (.cons (.v 6) .nil))))) (.ret (.bool false)) .skip (.ife (.ne (.call 3 (.cons (.v 6) (.cons (.v 2) .nil))) (.v 2)) (.ret (.bool false)) .skip (.set 8 (.bin .sub (.callo 1 0 (.cons (.int 7) .nil)) (.int 3)) (.set 9 (.call 4 (.cons (.v 6) (.cons (.v 8) .nil))) (.ife (.ne (.v 9) (.tup (.cons (.bin .sub (.int 1) (.bin .mul (.v 8) (.v 7))) (.cons (.bin .mul (.bin .mul (.bin .mul (.v 8) (.v 3)) (.v 3)) (.v 5)) (.cons (.bin .mul (.bin .mul (.bin .mul (.neg (.v 8)) (.v 4)) (.v 4)) (.v 5)) (.cons (.bin .add (.int 1) (.bin .mul (.v 8) (.v 7))) .nil)))))) (.ret (.bool false)) .skip (.fo (.v 10) (.sl (.call 5 (.cons (.v 5) .nil)) .nil (.neg (.int 1))) (.set 11 (.tup (.cons (.bin .sub (.int 1) (.bin .mul (.bin .mul (.v 3) (.v 4)) (.v 10))) (.cons (.bin .mul (.bin .mul (.v 3) (.v 3)) (.v 10)) (.cons (.bin .mul (.bin .mul (.neg (.v 4)) (.v 4)) (.v 10)) (.cons (.bin .add (.int 1) (.bin .mul (.bin .mul (.v 3) (.v 4)) (.v 10))) .nil))))) (.ife (.call 6 (.cons (.v 1) (.cons (.v 11) .nil))) (.ret (.bool false)) .skip .skip)) (.ret (.and (.call 6 (.cons (.v 1) (.cons (.v 9) .nil))) (.eq (.call 7 (.cons (.v 9) (.cons (.v 2) .nil))) (.v 2))))))))))))))

def ph_law_keeper_right (κ : Xn → List Sl → Prop) : Ph := ⟨fun | 0 => lf R_law_width | 1 => lf Rkeeper_of | 2 => lf R_law_is_group | 3 => lf R_law_matrix_led | 4 => lf R_law_matrix_power | 5 => lf R_law_divisors | 6 => lf Ris_member | 7 => lf Rled_fraction | _ => rNo, fun | 0 => lfO R_law_fraction_drawn | 1 => lfO R_law_roll | _ => oNo, fun _ => lNo, κ⟩
theorem w_law_keeper_right (κ : Xn → List Sl → Prop) (ds as : List Dt) (G : Dt → List Dt → Prop) (h : R_law_keeper_right ds as G) : as.length + 1 = 2 ∧ wpB (ph_law_keeper_right κ) b_law_keeper_right (iniO C_law_keeper_right.N ds as) { nx := fun es => owAt es 0 fun b ds2 => b = false ∧ G .none ds2, rt := fun d es => owAt es 0 fun b ds2 => b = false ∧ G d ds2 } := by
  obtain ⟨N, m, rfl, hD, h1, h2, h3, hG⟩ := h
  refine ⟨rfl, ?_⟩
  show wpB _ _ [.own _ (.l _), .fz _, .no, .no, .no, .no, .no, .no, .no, .no, .no, .no] _
  unfold b_law_keeper_right ph_law_keeper_right
  walk_at "wp"
  try simp only [R_law_width, Rkeeper_of, R_law_is_group, R_law_matrix_led, R_law_matrix_power, R_law_divisors, Ris_member, Rled_fraction, R_law_fraction_drawn, R_law_roll]
  try walk_at "wp"
  simp only [R_width]
  walk_at "wp"
  refine ⟨m, hD, by decide, by decide, by omega, fun p q ds hF sp sq hD => ?_⟩
  have w1 := wid_pos (q := q) h1
  have w2 := wid_le (q := q) h1
  have w3 := wid_dvd (q := q) h1
  have w4 := fun x => wid_min (q := q) (x := x) h1
  generalize wid N q = h at w1 w2 w3 w4 ⊢
  have h100 : h.natAbs ≤ 100 := by omega
  have m1 := mul_abs (mul_abs sp sq) h100
  have m2 := mul_abs (mul_abs sp sp) h100
  have m3 := mul_abs (mul_abs sq sq) h100
  have e3 : -q * q * h = -(q * q * h) := by grind
  have s1 : (1 - p * q * h).natAbs ≤ 1000000000000 := by omega
  have s2 : (p * p * h).natAbs ≤ 1000000000000 := by omega
  have s3 : (-q * q * h).natAbs ≤ 1000000000000 := by omega
  have s4 : (1 + p * q * h).natAbs ≤ 1000000000000 := by omega
  have b20p : Bd 20 p := Bd.of (m := 101) (by omega) (by omega) (by decide)
  have b20q : Bd 20 q := Bd.of (m := 101) (by omega) (by omega) (by decide)
  have b20h : Bd 20 h := Bd.of (m := 101) (by omega) (by omega) (by decide)
  have F := fine_of s1 s2 s3 s4
  have dt : (1 - p * q * h) * (1 + p * q * h) - p * p * h * (-q * q * h) = 1 := by grind
  have nn : N ∣ -q * q * h := by rw [e3]; exact Int.dvd_neg.mpr w3
  have g1 := isG_of dt nn
  have l1 : (1 - p * q * h) * p + p * p * h * q = p := by grind
  have l2 : -q * q * h * p + (1 + p * q * h) * q = q := by grind
  have fr := hF.1
  have nF : nrm p q = (p, q) := nrm_uniq (k := 1) fr (by decide) (by rw [Int.one_mul]) (by rw [Int.one_mul])
  rw [l1, l2, nF]
  have pq0 : ¬(p = 0 ∧ q = 0) := fun ⟨z1, z2⟩ => by have := fr.2.2 z2; omega
  refine ⟨h1, h2, hF.bq, h1, h2, hF, by walk_at "mul_ok", by walk_at "mul_ok", by walk_at "mul_ok", by walk_at "mul_ok", by walk_at "mul_ok", by walk_at "mul_ok", h1, h2, F.1, F.2, fun z => (by rw [g1] at z; cases z), fun _ => ⟨bOf2 s1, bOf2 s2, bOf2 s3, bOf2 s4, hF.bp, hF.bq, pq0, fun z => absurd rfl (z rfl), fun _ => ⟨m + 3, hD, by decide, Bd.lit 60 (by decide), by omega, fun r ds r0 r7 hD => ?_⟩⟩⟩
  have br : Bd 20 (r - 3) := Bd.of (m := 7) (by omega) (by omega) (by decide)
  have r3 : (r - 3).natAbs ≤ 3 := by omega
  generalize r - 3 = k at br r3 ⊢
  clear r0 r7
  have dD : Dice (m + 50) ds := hD.up (by omega)
  have n1 := mul_abs r3 m1
  have n2 := mul_abs r3 m2
  have n3 := mul_abs r3 m3
  have t1 : (1 - k * (p * q * h)).natAbs ≤ 1000000000000 := by omega
  have t2 : (k * (p * p * h)).natAbs ≤ 1000000000000 := by omega
  have t3 : (-(k * (q * q * h))).natAbs ≤ 1000000000000 := by omega
  have t4 : (1 + k * (p * q * h)).natAbs ≤ 1000000000000 := by omega
  have FT := fine_of t1 t2 t3 t4
  have dt2 : (1 - k * (p * q * h)) * (1 + k * (p * q * h)) - k * (p * p * h) * -(k * (q * q * h)) = 1 := by grind
  have nn2 : N ∣ -(k * (q * q * h)) := Int.dvd_neg.mpr (Int.dvd_trans w3 (Int.dvd_mul_left ..))
  have g2 := isG_of dt2 nn2
  have l3 : (1 - k * (p * q * h)) * p + k * (p * p * h) * q = p := by grind
  have l4 : -(k * (q * q * h)) * p + (1 + k * (p * q * h)) * q = q := by grind
  refine ⟨p, q, h, rfl, rfl, rfl, rfl, b20p, b20q, b20h, r3, by walk_at "mul_ok", by walk_at "mul_ok", by walk_at "mul_ok", by walk_at "mul_ok", by walk_at "mul_ok", by walk_at "mul_ok", by walk_at "mul_ok", by walk_at "mul_ok", fun z => absurd rfl (z rfl (by grind) (by grind)), fun _ => ⟨w1, by omega, ?_⟩⟩
  rw [div_last w1]
  refine wp_fo (fun i es => ∃ x y : Sl, es = [Sl.own false (.l ds), Sl.fz (Dt.int N), Sl.fz (Dt.tuple [Dt.int p, Dt.int q]), Sl.fz (Dt.int p), Sl.fz (Dt.int q), Sl.fz (Dt.int h), Sl.fz (Dt.tuple [Dt.int (1 - p * q * h), Dt.int (p * p * h), Dt.int (-q * q * h), Dt.int (1 + p * q * h)]), Sl.fz (Dt.int (p * q * h)), Sl.fz (Dt.int k), Sl.fz (Dt.tuple [Dt.int (1 - k * (p * q * h)), Dt.int (k * (p * p * h)), Dt.int (-(k * (q * q * h))), Dt.int (1 + k * (p * q * h))]), x, y]) ⟨.no, .no, by simp⟩ (fun i x es hx ⟨y, z, he⟩ k0 hk0 => ?_) (fun es ⟨y, z, he⟩ => ?_)
  · subst he
    obtain ⟨j, e, j1, j2, j3⟩ := mem_divs (List.mem_of_getElem? hx)
    subst e
    have bj : Bd 20 j := Bd.of (m := 101) (by omega) (by omega) (by decide)
    have jj : j.natAbs ≤ 100 := by omega
    have o1 := mul_abs (mul_abs sp sq) jj
    have o2 := mul_abs (mul_abs sp sp) jj
    have o3 := mul_abs (mul_abs sq sq) jj
    have e4 : -q * q * j = -(q * q * j) := by grind
    have FJ : Fine (.tuple [.int (1 - p * q * j), .int (p * p * j), .int (-q * q * j), .int (1 + p * q * j)]) := fine_of (by omega) (by omega) (by omega) (by omega)
    have gJ : isG N (.tuple [.int (1 - p * q * j), .int (p * p * j), .int (-q * q * j), .int (1 + p * q * j)]) = false := by
      show (decide _ && decide _) = false
      rw [decide_eq_false (p := -q * q * j % N = 0)]
      · exact Bool.and_false _
      · intro z
        have dv : N ∣ q * q * j := by
          have := Int.dvd_of_emod_eq_zero z
          rw [e4] at this
          exact Int.dvd_neg.mp this
        have := Int.le_of_dvd (by omega) (w4 j dv)
        omega
    walk_at "fo"
    simp only [Ris_member]
    walk_at "fo"
    refine ⟨by walk_at "mul_ok", by walk_at "mul_ok", by walk_at "mul_ok", by walk_at "mul_ok", by walk_at "mul_ok", by walk_at "mul_ok", by walk_at "mul_ok", by walk_at "mul_ok", h1, h2, FJ.1, FJ.2, fun z => (by rw [gJ] at z; cases z), fun _ => hk0 _ ⟨_, _, rfl⟩⟩
  · subst he
    walk_at "wp"
    rw [l3, l4, nF]
    refine ⟨h1, h2, FT.1, FT.2, fun _ => ⟨jOf2 t1, jOf2 t2, jOf2 t3, jOf2 t4, hF, by rw [dt2]; decide, pq0, ?_⟩, fun z => (by rw [g2] at z; cases z)⟩
    simp only [decide_true, Bool.and_true]
    exact hG _ dD

def jv (N P a b c d : Int) : List Dt := [Dt.tuple [Dt.int a, Dt.int b, Dt.int c, Dt.int d], Dt.tuple [Dt.int a, Dt.int b, Dt.int c, Dt.int (d + 1)], Dt.tuple [Dt.int a, Dt.int b, Dt.int c], Dt.list [Dt.int a, Dt.int b, Dt.int c, Dt.int d], Dt.none, Dt.tuple [Dt.int a, Dt.int b, Dt.int c, Dt.none], Dt.tuple [Dt.int a, Dt.int b, Dt.int c, Dt.str (Str.ofString "1")], Dt.tuple [Dt.bool true, Dt.int 0, Dt.int 0, Dt.bool true]] ++ [Dt.tuple [Dt.int 1, Dt.int 0, Dt.int (N * P), Dt.int 1], Dt.tuple [Dt.int 1, Dt.int 0, Dt.int (P * N + 1), Dt.int 1], Dt.tuple [Dt.int d, Dt.int b, Dt.int c, Dt.int a], Dt.tuple [Dt.int 0, Dt.int 0, Dt.int 0, Dt.int 0], Dt.tuple [Dt.int 1, Dt.int 1, Dt.int 1, Dt.int 2], Dt.dK [] []]
theorem jv_fine {N P a b c d : Int} (h1 : Bd 1000 (N * P)) (h2 : Bd 1000 (P * N + 1)) (ha : Bd 900 a) (hb : Bd 900 b) (hc : Bd 900 c) (hd : Bd 900 d) : ∀ x ∈ jv N P a b c d, Fine x := fun x hx => by
  have b0 : Bd 1000 (0 : Int) := Bd.lit 1000 (by decide +kernel)
  have b1 : Bd 1000 (1 : Int) := Bd.lit 1000 (by decide +kernel)
  have b2 : Bd 1000 (2 : Int) := Bd.lit 1000 (by decide +kernel)
  have hd1 : Bd 1000 (d + 1) := by apply Bd.mono; (focus exact Bd.add hd (Bd.lit 2 (by decide))); decide
  have ha := ha.mono (show 900 ≤ 1000 by decide)
  have hb := hb.mono (show 900 ≤ 1000 by decide)
  have hc := hc.mono (show 900 ≤ 1000 by decide)
  have hd := hd.mono (show 900 ≤ 1000 by decide)
  simp only [jv, List.cons_append, List.nil_append, List.mem_cons, List.not_mem_nil, or_false] at hx
  rcases hx with h | h | h | h | h | h | h | h | h | h | h | h | h | h <;> subst h
  · exact fine_M ha hb hc hd
  · exact fine_M ha hb hc hd1
  · exact fine_3
  · exact fine_o rfl rfl
  · exact fine_o rfl rfl
  · exact fine_x rfl atD_none rfl
  · exact fine_x rfl (atD_str _) rfl
  · exact ⟨okV_tup (Nat.le_of_ble_eq_true rfl) (fun x hx => by
      simp only [List.mem_cons, List.not_mem_nil, or_false] at hx
      rcases hx with h | h | h | h <;> subst h <;> first | exact ⟨rfl, atD_int _⟩ | exact ⟨rfl, atD_bool _⟩), fun a' b' c' d' e => by cases e⟩
  · exact fine_M b1 b0 h1 b1
  · exact fine_M b1 b0 h2 b1
  · exact fine_M hd hb hc ha
  · exact fine_M b0 b0 b0 b0
  · exact fine_M b1 b1 b1 b2
  · exact fine_o rfl rfl
theorem jv_map (N P a b c d : Int) : (jv N P a b c d).map (fun x => Dt.bool (isM x)) = [.bool true, .bool true] ++ (List.replicate (Int.toNat 6) [Dt.bool false]).flatten ++ (List.replicate (Int.toNat 5) [Dt.bool true]).flatten ++ [.bool false] := rfl

def C_law_judged_right : Ck := ⟨["_law_dice_here", "_law_level", "_law_a", "_law_b", "_law_c", "_law_d", "_law_values", "_law_value"], ["is_member", "_law_is_group", "is_matrix"], ["_law_matrix_drawn"], [], ["repr"], false, []⟩
def b_law_judged_right : Ax.S := (.asg (.tup (.cons (.v 2) (.cons (.v 3) (.cons (.v 4) (.cons (.v 5) .nil))))) (.callo 0 0 (.cons (.v 1) (.cons (.int 3) .nil))) (.set 6 (.lst (.cons (.tup (.cons (.v 2) (.cons (.v 3) (.cons (.v 4) (.cons (.v 5) .nil))))) (.cons (.tup (.cons (.v 2) (.cons (.v 3) (.cons (.v 4) (.cons (.bin .add (.v 5) (.int 1)) .nil))))) (.cons (.tup (.cons (.v 2) (.cons (.v 3) (.cons (.v 4) .nil)))) (.cons (.lst (.cons (.v 2) (.cons (.v 3) (.cons (.v 4) (.cons (.v 5) .nil))))) (.cons .non (.cons (.tup (.cons (.v 2) (.cons (.v 3) (.cons (.v 4) (.cons .non .nil))))) (.cons (.tup (.cons (.v 2) (.cons (.v 3) (.cons (.v 4) (.cons (.str "1") .nil))))) (.cons (.tup (.cons (.bool true) (.cons (.int 0) (.cons (.int 0) (.cons (.bool true) .nil))))) .nil))))))))) (.set 6 (.bin .add (.v 6) (.lst (.cons (.tup (.cons (.int 1) (.cons (.int 0) (.cons (.bin .mul (.v 1) (.bin .pow (.int 10) (.int 60))) (.cons (.int 1) .nil))))) (.cons (.tup (.cons (.int 1) (.cons (.int 0) (.cons (.bin .add (.bin .mul (.bin .pow (.int 10) (.int 60)) (.v 1)) (.int 1)) (.cons (.int 1) .nil))))) (.cons (.tup (.cons (.v 5) (.cons (.v 3) (.cons (.v 4) (.cons (.v 2) .nil))))) (.cons (.tup (.cons (.int 0) (.cons (.int 0) (.cons (.int 0) (.cons (.int 0) .nil))))) (.cons (.tup (.cons (.int 1) (.cons (.int 1) (.cons (.int 1) (.cons (.int 2) .nil))))) (.cons .dnew .nil)))))))) (.fo (.v 7) (.v 6) (.ife (.ne (.b1 .repr (.call 0 (.cons (.v 1) (.cons (.v 7) .nil)))) (.b1 .repr (.call 1 (.cons (.v 1) (.cons (.v 7) .nil))))) (.ret (.bool false)) .skip .skip) (.ret (.eq (.lc [7] (.v 7) (.v 6) .nil (.call 2 (.cons (.v 7) .nil))) (.bin .add (.bin .add (.bin .add (.lst (.cons (.bool true) (.cons (.bool true) .nil))) (.bin .mul (.lst (.cons (.bool false) .nil)) (.int 6))) (.bin .mul (.lst (.cons (.bool true) .nil)) (.int 5))) (.lst (.cons (.bool false) .nil)))))))))

def ph_law_judged_right (κ : Xn → List Sl → Prop) : Ph := ⟨fun | 0 => lf Ris_member | 1 => lf R_law_is_group | 2 => lf Ris_matrix | _ => rNo, fun | 0 => lfO R_law_matrix_drawn | _ => oNo, fun _ => lNo, κ⟩
theorem w_law_judged_right (κ : Xn → List Sl → Prop) (ds as : List Dt) (G : Dt → List Dt → Prop) (h : R_law_judged_right ds as G) : as.length + 1 = 2 ∧ wpB (ph_law_judged_right κ) b_law_judged_right (iniO C_law_judged_right.N ds as) { nx := fun es => owAt es 0 fun b ds2 => b = false ∧ G .none ds2, rt := fun d es => owAt es 0 fun b ds2 => b = false ∧ G d ds2 } := by
  obtain ⟨N, m, rfl, hD, h1, h2, h3, hG⟩ := h
  refine ⟨rfl, ?_⟩
  show wpB _ _ [.own _ (.l _), .fz _, .no, .no, .no, .no, .no, .no] _
  unfold b_law_judged_right ph_law_judged_right
  walk_at "wp"
  try simp only [Ris_member, R_law_is_group, Ris_matrix, R_law_matrix_drawn]
  try walk_at "wp"
  refine ⟨m, hD, h1, h2, by decide, by decide, by omega, fun a b c d ds dt nc sa sb sc sd hD => ?_⟩
  have e60 : (10 : Int) ^ Int.toNat 60 = 1000000000000000000000000000000000000000000000000000000000000 := by decide +kernel
  have c60 : CPow 10 60 := ⟨by decide, by decide, by decide⟩
  have b60 : Bd 220 ((10 : Int) ^ Int.toNat 60) := by rw [e60]; exact Bd.lit 220 (by decide +kernel)
  clear e60
  generalize (10 : Int) ^ Int.toNat 60 = P at b60 ⊢
  have bN : Bd 20 N := Bd.of (m := 101) (by omega) (by omega) (by decide)
  have x1 : Bd 1000 (N * P) := by apply Bd.mono; (focus exact Bd.mul bN b60); decide
  have x2 : Bd 1000 (P * N + 1) := by apply Bd.mono; (focus exact Bd.add (Bd.mul b60 bN) (Bd.lit 2 (by decide))); decide
  have ja : Bd 900 a := Bd.of (m := 10001) (by omega) (by omega) (by decide)
  have jb : Bd 900 b := Bd.of (m := 10001) (by omega) (by omega) (by decide)
  have jc : Bd 900 c := Bd.of (m := 10001) (by omega) (by omega) (by decide)
  have jd : Bd 900 d := Bd.of (m := 10001) (by omega) (by omega) (by decide)
  have FV := jv_fine x1 x2 ja jb jc jd
  have MV := jv_map N P a b c d
  refine ⟨c60, by walk_at "mul_ok", c60, by walk_at "mul_ok", ?_⟩
  rw [show ([Dt.tuple [Dt.int a, Dt.int b, Dt.int c, Dt.int d], Dt.tuple [Dt.int a, Dt.int b, Dt.int c, Dt.int (d + 1)], Dt.tuple [Dt.int a, Dt.int b, Dt.int c], Dt.list [Dt.int a, Dt.int b, Dt.int c, Dt.int d], Dt.none, Dt.tuple [Dt.int a, Dt.int b, Dt.int c, Dt.none], Dt.tuple [Dt.int a, Dt.int b, Dt.int c, Dt.str (Str.ofString "1")], Dt.tuple [Dt.bool true, Dt.int 0, Dt.int 0, Dt.bool true]] ++ [Dt.tuple [Dt.int 1, Dt.int 0, Dt.int (N * P), Dt.int 1], Dt.tuple [Dt.int 1, Dt.int 0, Dt.int (P * N + 1), Dt.int 1], Dt.tuple [Dt.int d, Dt.int b, Dt.int c, Dt.int a], Dt.tuple [Dt.int 0, Dt.int 0, Dt.int 0, Dt.int 0], Dt.tuple [Dt.int 1, Dt.int 1, Dt.int 1, Dt.int 2], Dt.dK [] []] : List Dt) = jv N P a b c d from rfl]
  have LV : (jv N P a b c d).length ≤ 100 := Nat.le_of_ble_eq_true rfl
  generalize jv N P a b c d = vs at FV MV LV ⊢
  have dD : Dice (m + 50) ds := hD.up (by omega)
  refine wp_fo (fun i es => ∃ x : Sl, (x = .no ∨ ∃ d, x = .fz d) ∧ es = [Sl.own false (.l ds), Sl.fz (Dt.int N), Sl.fz (Dt.int a), Sl.fz (Dt.int b), Sl.fz (Dt.int c), Sl.fz (Dt.int d), Sl.fz (Dt.list vs), x]) ⟨.no, .inl rfl, by simp⟩ (fun i x es hx ⟨y, hy, he⟩ k0 hk0 => ?_) (fun es ⟨y, hy, he⟩ => ?_)
  · subst he
    have fx := FV x (List.mem_of_getElem? hx)
    walk_at "fo"
    simp only [Ris_member, R_law_is_group]
    walk_at "fo"
    refine ⟨h1, h2, fx.1, fx.2, h1, h2, fx.1, fx.2, shD_ite _, shD_ite _, fun z => ?_, fun _ => hk0 _ ⟨_, .inr ⟨_, rfl⟩, rfl⟩⟩
    have : eqD (Dt.str (if isG N x = true then Str.ofString "True" else Str.ofString "False")) (Dt.str (if isG N x = true then Str.ofString "True" else Str.ofString "False")) = true := decide_eq_true rfl
    rw [this] at z
    cases z
  · subst he
    walk_at "wp"
    have hn : noOwB [Sl.own false (.l ds), Sl.fz (Dt.int N), Sl.fz (Dt.int a), Sl.fz (Dt.int b), Sl.fz (Dt.int c), Sl.fz (Dt.int d), Sl.fz (Dt.list vs), y] [7] = true := by
      rcases hy with h | ⟨d, h⟩ <;> subst h <;> rfl
    refine ⟨hn, by omega, ?_⟩
    refine runC_map (fun _ => true) (fun x => .bool (isM x)) (fun x hx k hk1 hk2 => ?_) ?_
    · have fx := FV x hx
      walk_at "fo"
      simp only [Ris_matrix]
      walk_at "fo"
      exact ⟨fx.1, hk1 rfl⟩
    · rw [mrg_wipe hn, List.filter_eq_self.mpr (fun _ _ => rfl), MV]
      refine ⟨by decide, by decide, by decide, by decide, by decide, by decide, by decide, by decide, by decide, shD_dep rfl, shD_dep rfl, ?_⟩
      walk_at "wp"
      rw [show eqD (Dt.list ([Dt.bool true, Dt.bool true] ++ (List.replicate (Int.toNat 6) [Dt.bool false]).flatten ++ (List.replicate (Int.toNat 5) [Dt.bool true]).flatten ++ [Dt.bool false])) (Dt.list ([Dt.bool true, Dt.bool true] ++ (List.replicate (Int.toNat 6) [Dt.bool false]).flatten ++ (List.replicate (Int.toNat 5) [Dt.bool true]).flatten ++ [Dt.bool false])) = true from by decide +kernel]
      exact hG _ dD
def Claw : Ck := ⟨["_law_script", "_law_spot", "_law_dice_here", "_law_level", "_law_told"], ["matrix_back", "matrix_product", "keeper_of", "is_member"], ["_law_level_drawn", "_law_judged_right", "_law_keeper_right", "_law_products_right"], ["_law_dice"], ["range", "max", "min", "len"], false, []⟩
def blaw : Ax.S := (.fo (.v 1) (.range1 (.b2 .max (.int 1) (.b2 .min (.int 3) (.b1 .len (.v 0))))) (.setL 2 (.calll 0 (.cons (.v 0) (.cons (.v 1) .nil))) (.set 3 (.callo 0 2 (.cons (.int 100) .nil)) (.ife (.or (.not (.callo 3 2 (.cons (.v 3) .nil))) (.or (.not (.callo 2 2 (.cons (.v 3) .nil))) (.not (.callo 1 2 (.cons (.v 3) .nil))))) (.ret (.bool false)) .skip .skip))) (.set 4 (.lst (.cons (.call 2 (.cons (.int 6) (.cons (.tup (.cons (.int 1) (.cons (.int 2) .nil))) .nil))) (.cons (.call 2 (.cons (.int 6) (.cons (.tup (.cons (.int 1) (.cons (.int 0) .nil))) .nil))) (.cons (.call 1 (.cons (.tup (.cons (.int 1) (.cons (.int 1) (.cons (.int 0) (.cons (.int 1) .nil))))) (.cons (.tup (.cons (.int 1) (.cons (.int 0) (.cons (.int 6) (.cons (.int 1) .nil))))) .nil))) (.cons (.call 0 (.cons (.tup (.cons (.int 8) (.cons (.neg (.int 1)) (.cons (.int 9) (.cons (.neg (.int 1)) .nil))))) .nil)) .nil))))) (.ret (.and (.eq (.v 4) (.lst (.cons (.tup (.cons (.neg (.int 5)) (.cons (.int 3) (.cons (.neg (.int 12)) (.cons (.int 7) .nil))))) (.cons (.tup (.cons (.int 1) (.cons (.int 1) (.cons (.int 0) (.cons (.int 1) .nil))))) (.cons (.tup (.cons (.int 7) (.cons (.int 1) (.cons (.int 6) (.cons (.int 1) .nil))))) (.cons (.tup (.cons (.neg (.int 1)) (.cons (.int 1) (.cons (.neg (.int 9)) (.cons (.int 8) .nil))))) .nil)))))) (.call 3 (.cons (.int 9) (.cons (.tup (.cons (.int 8) (.cons (.neg (.int 1)) (.cons (.int 9) (.cons (.neg (.int 1)) .nil))))) .nil)))))))

def phlaw (κ : Xn → List Sl → Prop) : Ph := ⟨fun | 0 => lf Rmatrix_back | 1 => lf Rmatrix_product | 2 => lf Rkeeper_of | 3 => lf Ris_member | _ => rNo, fun | 0 => lfO R_law_level_drawn | 1 => lfO R_law_judged_right | 2 => lfO R_law_keeper_right | 3 => lfO R_law_products_right | _ => oNo, fun | 0 => lfL R_law_dice | _ => lNo, κ⟩
theorem wlaw (κ : Xn → List Sl → Prop) (ds : List Dt) (G : Dt → Prop) (h : Rlaw ds G) : ds.length = 1 ∧ wpB (phlaw κ) blaw (ini Claw.N ds) { nx := fun _ => G .none, rt := fun d _ => G d } := by
  obtain ⟨ns, rfl, hl, hG⟩ := h
  refine ⟨rfl, ?_⟩
  show wpB _ _ [.fz _, .no, .no, .no, .no] _
  unfold blaw phlaw
  walk_at "wp"
  try simp only [Rmatrix_back, Rmatrix_product, Rkeeper_of, Ris_member, R_law_level_drawn, R_law_judged_right, R_law_keeper_right, R_law_products_right, R_law_dice]
  try walk_at "wp"
  rw [List.length_map]
  have key : ∀ M : Int, M ≤ 3 → 0 ≤ M → M < 2 ^ 62 ∧ -2 ^ 62 ≤ M := fun M h h2 => ⟨by omega, by omega⟩
  have hM : (if (if (ns.length : Int) < 3 then (ns.length : Int) else 3) > 1 then if (ns.length : Int) < 3 then (ns.length : Int) else 3 else 1) ≤ 3 ∧ 0 ≤ (if (if (ns.length : Int) < 3 then (ns.length : Int) else 3) > 1 then if (ns.length : Int) < 3 then (ns.length : Int) else 3 else 1) := by
    split <;> split <;> omega
  generalize (if (if (ns.length : Int) < 3 then (ns.length : Int) else 3) > 1 then if (ns.length : Int) < 3 then (ns.length : Int) else 3 else 1) = M at hM ⊢
  refine ⟨(key M hM.1 hM.2).1, (key M hM.1 hM.2).2, ?_⟩
  rw [show wid 6 2 = 3 from by decide +kernel, show wid 6 0 = 1 from by decide +kernel]
  refine wp_fo (fun i es => ∃ x y z : Sl, es = [Sl.fz (Dt.scr (List.map Dt.int ns)), x, y, z, .no]) ⟨.no, .no, .no, by simp⟩ (fun i x es hx ⟨y, z, u, he⟩ k0 hk0 => ?_) (fun es ⟨y, z, u, he⟩ => ?_)
  · subst he
    obtain ⟨j, hj, e⟩ := rng_mem (List.mem_of_getElem? hx)
    subst e
    walk_at "fo"
    simp only [R_law_dice, R_law_level_drawn, R_law_judged_right, R_law_keeper_right, R_law_products_right]
    walk_at "fo"
    exact ⟨ns, rfl, by omega, by omega, fun ds hD => ⟨_, hD, by decide, by decide, by decide, fun N ds n1 n2 hD => ⟨_, hD, n1, n2, by decide, fun ds hD => ⟨_, hD, n1, n2, by decide, fun ds hD => ⟨_, hD, n1, n2, by decide, fun ds hD => hk0 _ ⟨_, _, _, rfl⟩⟩⟩⟩⟩⟩
  · subst he
    walk_at "wp"
    have o1 : OkFr 1 2 := ⟨⟨by decide, by decide +kernel, by decide⟩, by decide, by decide, by decide⟩
    have o2 : OkFr 1 0 := ⟨⟨by decide, by decide +kernel, by decide⟩, by decide, by decide, by decide⟩
    have FM : Fine (Dt.tuple [Dt.int 8, Dt.int (-1), Dt.int 9, Dt.int (-1)]) := fine_of (by decide) (by decide) (by decide) (by decide)
    refine ⟨by decide, by decide, o1, by decide, by decide, o2, jOf (by decide), jOf (by decide), jOf (by decide), jOf (by decide), jOf (by decide), jOf (by decide), jOf (by decide), jOf (by decide), jOf (by decide), jOf (by decide), jOf (by decide), jOf (by decide), by decide, shD_dep rfl, shD_dep rfl, fun _ => ⟨by decide, by decide, FM.1, FM.2, ?_⟩, fun z => absurd ⟨by decide, by decide, by decide, by decide⟩ (z ⟨by decide, by decide, by decide, by decide⟩ ⟨by decide, by decide, by decide, by decide⟩)⟩
    rw [isG_of (by decide) (by decide)]
    exact hG
end Pf

set_option Elab.async false
set_option linter.all false
set_option maxRecDepth 100000
set_option maxHeartbeats 4000000
namespace Pf
open PySem PySem.Spec PyProof.Rows L2 Lv Ax

def top (i : Nat) : Stmt := PySem.Challenge.pw_levelroads_k16_whole_groups_and_keepers.main.body.getD i (.Pass ⟨0, 0, 0, 0⟩)

theorem al0 {p : Str → Prop} : ∀ x ∈ ([] : List Str), p x := fun _ h => nomatch h
theorem al1 {p : Str → Prop} {a : Str} {l : List Str} (h : p a) (t : ∀ x ∈ l, p x) : ∀ x ∈ a :: l, p x := List.forall_mem_cons.mpr ⟨h, t⟩
theorem ag0 {p : Str × Int → Prop} : ∀ x ∈ ([] : List (Str × Int)), p x := fun _ h => nomatch h
theorem ag1 {p : Str × Int → Prop} {a : Str × Int} {l : List (Str × Int)} (h : p a) (t : ∀ x ∈ l, p x) : ∀ x ∈ a :: l, p x := List.forall_mem_cons.mpr ⟨h, t⟩
theorem ix0 {p : Nat → Str → Prop} : ∀ f x, ([] : List Str)[f]? = some x → p f x := fun f x h => by simp at h
theorem ix1 {p : Nat → Str → Prop} {a : Str} {l : List Str} (h : p 0 a) (t : ∀ f x, l[f]? = some x → p (f + 1) x) : ∀ f x, (a :: l)[f]? = some x → p f x
  | 0, x, e => by
    have : a = x := by simpa using e
    exact this ▸ h
  | f + 1, x, e => t f x (by simpa using e)

abbrev sis_integer : Stmt := top 10
theorem scis_integer : FnScope Cis_integer.N ["value"] (defScope sis_integer) := ⟨rfl, rfl, rfl, by decide +kernel, rfl, by decide +kernel, by decide +kernel⟩
theorem ckis_integer : chkB Cis_integer bis_integer (defScope sis_integer) (defBody sis_integer) = true := by decide +kernel

theorem okis_integer {P : Program} {w : World} {K : PySem.W.Frag} {mg : Str → Option Value} {base : Heap} {f : Addr} {fd : FuncData} (F : Fun K "is_integer" "is_integer" sis_integer f fd) (M : ∀ κ, Md P w K mg base (phis_integer κ) Cis_integer 0) : FnOk P w K mg base (L2.CX P w) 1 f fd ["value"] (spR K mg (lf Ris_integer)) := def_R F scis_integer M (fun _ => rfl) bis_integer ckis_integer (by decide) (fun ds G Gx h => wis_integer _ ds G h)
abbrev scheck_matrix : Stmt := top 13
theorem sccheck_matrix : FnScope Ccheck_matrix.N ["matrix"] (defScope scheck_matrix) := ⟨rfl, rfl, rfl, by decide +kernel, rfl, by decide +kernel, by decide +kernel⟩
theorem ckcheck_matrix : chkB Ccheck_matrix bcheck_matrix (defScope scheck_matrix) (defBody scheck_matrix) = true := by decide +kernel

theorem okcheck_matrix {P : Program} {w : World} {K : PySem.W.Frag} {mg : Str → Option Value} {base : Heap} {f : Addr} {fd : FuncData} (F : Fun K "check_matrix" "check_matrix" scheck_matrix f fd) (M : ∀ κ, Md P w K mg base (phcheck_matrix κ) Ccheck_matrix 1) : FnOk P w K mg base (L2.CX P w) 2 f fd ["matrix"] (spR K mg (lf Rcheck_matrix)) := def_R F sccheck_matrix M (fun _ => rfl) bcheck_matrix ckcheck_matrix (by decide) (fun ds G Gx h => wcheck_matrix _ ds G h)
abbrev smatrix_determinant : Stmt := top 19
theorem scmatrix_determinant : FnScope Cmatrix_determinant.N ["matrix"] (defScope smatrix_determinant) := ⟨rfl, rfl, rfl, by decide +kernel, rfl, by decide +kernel, by decide +kernel⟩
theorem ckmatrix_determinant : chkB Cmatrix_determinant bmatrix_determinant (defScope smatrix_determinant) (defBody smatrix_determinant) = true := by decide +kernel

theorem okmatrix_determinant {P : Program} {w : World} {K : PySem.W.Frag} {mg : Str → Option Value} {base : Heap} {f : Addr} {fd : FuncData} (F : Fun K "matrix_determinant" "matrix_determinant" smatrix_determinant f fd) (M : ∀ κ, Md P w K mg base (phmatrix_determinant κ) Cmatrix_determinant 0) : FnOk P w K mg base (L2.CX P w) 1 f fd ["matrix"] (spR K mg (lf Rmatrix_determinant)) := def_R F scmatrix_determinant M (fun _ => rfl) bmatrix_determinant ckmatrix_determinant (by decide) (fun ds G Gx h => wmatrix_determinant _ ds G h)
abbrev smatrix_back : Stmt := top 28
theorem scmatrix_back : FnScope Cmatrix_back.N ["one"] (defScope smatrix_back) := ⟨rfl, rfl, rfl, by decide +kernel, rfl, by decide +kernel, by decide +kernel⟩
theorem ckmatrix_back : chkB Cmatrix_back bmatrix_back (defScope smatrix_back) (defBody smatrix_back) = true := by decide +kernel

theorem okmatrix_back {P : Program} {w : World} {K : PySem.W.Frag} {mg : Str → Option Value} {base : Heap} {f : Addr} {fd : FuncData} (F : Fun K "matrix_back" "matrix_back" smatrix_back f fd) (M : ∀ κ, Md P w K mg base (phmatrix_back κ) Cmatrix_back 2) : FnOk P w K mg base (L2.CX P w) 3 f fd ["one"] (spR K mg (lf Rmatrix_back)) := def_R F scmatrix_back M (fun _ => rfl) bmatrix_back ckmatrix_back (by decide) (fun ds G Gx h => wmatrix_back _ ds G h)
abbrev sproduct_matrix : Stmt := top 27
theorem scproduct_matrix : FnScope Cproduct_matrix.N ["one", "other"] (defScope sproduct_matrix) := ⟨rfl, rfl, rfl, by decide +kernel, rfl, by decide +kernel, by decide +kernel⟩
theorem ckproduct_matrix : chkB Cproduct_matrix bproduct_matrix (defScope sproduct_matrix) (defBody sproduct_matrix) = true := by decide +kernel

theorem okproduct_matrix {P : Program} {w : World} {K : PySem.W.Frag} {mg : Str → Option Value} {base : Heap} {f : Addr} {fd : FuncData} (F : Fun K "product_matrix" "product_matrix" sproduct_matrix f fd) (M : ∀ κ, Md P w K mg base (phproduct_matrix κ) Cproduct_matrix 0) : FnOk P w K mg base (L2.CX P w) 1 f fd ["one", "other"] (spR K mg (lf Rproduct_matrix)) := def_R F scproduct_matrix M (fun _ => rfl) bproduct_matrix ckproduct_matrix (by decide) (fun ds G Gx h => wproduct_matrix _ ds G h)
abbrev smatrix_product : Stmt := top 26
theorem scmatrix_product : FnScope Cmatrix_product.N ["one", "other"] (defScope smatrix_product) := ⟨rfl, rfl, rfl, by decide +kernel, rfl, by decide +kernel, by decide +kernel⟩
theorem ckmatrix_product : chkB Cmatrix_product bmatrix_product (defScope smatrix_product) (defBody smatrix_product) = true := by decide +kernel

theorem okmatrix_product {P : Program} {w : World} {K : PySem.W.Frag} {mg : Str → Option Value} {base : Heap} {f : Addr} {fd : FuncData} (F : Fun K "matrix_product" "matrix_product" smatrix_product f fd) (M : ∀ κ, Md P w K mg base (phmatrix_product κ) Cmatrix_product 2) : FnOk P w K mg base (L2.CX P w) 3 f fd ["one", "other"] (spR K mg (lf Rmatrix_product)) := def_R F scmatrix_product M (fun _ => rfl) bmatrix_product ckmatrix_product (by decide) (fun ds G Gx h => wmatrix_product _ ds G h)
abbrev sis_level : Stmt := top 11
theorem scis_level : FnScope Cis_level.N ["value"] (defScope sis_level) := ⟨rfl, rfl, rfl, by decide +kernel, rfl, by decide +kernel, by decide +kernel⟩
theorem ckis_level : chkB Cis_level bis_level (defScope sis_level) (defBody sis_level) = true := by decide +kernel

theorem okis_level {P : Program} {w : World} {K : PySem.W.Frag} {mg : Str → Option Value} {base : Heap} {f : Addr} {fd : FuncData} (F : Fun K "is_level" "is_level" sis_level f fd) (M : ∀ κ, Md P w K mg base (phis_level κ) Cis_level 1) : FnOk P w K mg base (L2.CX P w) 2 f fd ["value"] (spR K mg (lf Ris_level)) := def_R F scis_level M (fun _ => rfl) bis_level ckis_level (by decide) (fun ds G Gx h => wis_level _ ds G h)
abbrev scheck_level : Stmt := top 12
theorem sccheck_level : FnScope Ccheck_level.N ["level"] (defScope scheck_level) := ⟨rfl, rfl, rfl, by decide +kernel, rfl, by decide +kernel, by decide +kernel⟩
theorem ckcheck_level : chkB Ccheck_level bcheck_level (defScope scheck_level) (defBody scheck_level) = true := by decide +kernel

theorem okcheck_level {P : Program} {w : World} {K : PySem.W.Frag} {mg : Str → Option Value} {base : Heap} {f : Addr} {fd : FuncData} (F : Fun K "check_level" "check_level" scheck_level f fd) (M : ∀ κ, Md P w K mg base (phcheck_level κ) Ccheck_level 2) : FnOk P w K mg base (L2.CX P w) 3 f fd ["level"] (spR K mg (lf Rcheck_level)) := def_R F sccheck_level M (fun _ => rfl) bcheck_level ckcheck_level (by decide) (fun ds G Gx h => wcheck_level _ ds G h)
abbrev sis_whole : Stmt := top 9
theorem scis_whole : FnScope Cis_whole.N ["value"] (defScope sis_whole) := ⟨rfl, rfl, rfl, by decide +kernel, rfl, by decide +kernel, by decide +kernel⟩
theorem ckis_whole : chkB Cis_whole bis_whole (defScope sis_whole) (defBody sis_whole) = true := by decide +kernel

theorem okis_whole {P : Program} {w : World} {K : PySem.W.Frag} {mg : Str → Option Value} {base : Heap} {f : Addr} {fd : FuncData} (F : Fun K "is_whole" "is_whole" sis_whole f fd) (M : ∀ κ, Md P w K mg base (phis_whole κ) Cis_whole 0) : FnOk P w K mg base (L2.CX P w) 1 f fd ["value"] (spR K mg (lf Ris_whole)) := def_R F scis_whole M (fun _ => rfl) bis_whole ckis_whole (by decide) (fun ds G Gx h => wis_whole _ ds G h)
abbrev sis_fraction : Stmt := top 16
theorem scis_fraction : FnScope Cis_fraction.N ["value"] (defScope sis_fraction) := ⟨rfl, rfl, rfl, by decide +kernel, rfl, by decide +kernel, by decide +kernel⟩
theorem ckis_fraction : chkB Cis_fraction bis_fraction (defScope sis_fraction) (defBody sis_fraction) = true := by decide +kernel

theorem okis_fraction {P : Program} {w : World} {K : PySem.W.Frag} {mg : Str → Option Value} {base : Heap} {f : Addr} {fd : FuncData} (F : Fun K "is_fraction" "is_fraction" sis_fraction f fd) (M : ∀ κ, Md P w K mg base (phis_fraction κ) Cis_fraction 1) : FnOk P w K mg base (L2.CX P w) 2 f fd ["value"] (spR K mg (lf Ris_fraction)) := def_R F scis_fraction M (fun _ => rfl) bis_fraction ckis_fraction (by decide) (fun ds G Gx h => wis_fraction _ ds G h)
abbrev scheck_fraction : Stmt := top 18
theorem sccheck_fraction : FnScope Ccheck_fraction.N ["fraction"] (defScope scheck_fraction) := ⟨rfl, rfl, rfl, by decide +kernel, rfl, by decide +kernel, by decide +kernel⟩
theorem ckcheck_fraction : chkB Ccheck_fraction bcheck_fraction (defScope scheck_fraction) (defBody scheck_fraction) = true := by decide +kernel

theorem okcheck_fraction {P : Program} {w : World} {K : PySem.W.Frag} {mg : Str → Option Value} {base : Heap} {f : Addr} {fd : FuncData} (F : Fun K "check_fraction" "check_fraction" scheck_fraction f fd) (M : ∀ κ, Md P w K mg base (phcheck_fraction κ) Ccheck_fraction 2) : FnOk P w K mg base (L2.CX P w) 3 f fd ["fraction"] (spR K mg (lf Rcheck_fraction)) := def_R F sccheck_fraction M (fun _ => rfl) bcheck_fraction ckcheck_fraction (by decide) (fun ds G Gx h => wcheck_fraction _ ds G h)
abbrev s_width : Stmt := top 22
theorem sc_width : FnScope C_width.N ["level", "fraction"] (defScope s_width) := ⟨rfl, rfl, rfl, by decide +kernel, rfl, by decide +kernel, by decide +kernel⟩
theorem ck_width : chkB C_width b_width (defScope s_width) (defBody s_width) = true := by decide +kernel

theorem ok_width {P : Program} {w : World} {K : PySem.W.Frag} {mg : Str → Option Value} {base : Heap} {f : Addr} {fd : FuncData} (F : Fun K "_width" "_width" s_width f fd) (M : ∀ κ, Md P w K mg base (ph_width κ) C_width 0) : FnOk P w K mg base (L2.CX P w) 1 f fd ["level", "fraction"] (spR K mg (lf R_width)) := def_R F sc_width M (fun _ => rfl) b_width ck_width (by decide) (fun ds G Gx h => w_width _ ds G h)
abbrev skeeper_of : Stmt := top 23
theorem sckeeper_of : FnScope Ckeeper_of.N ["level", "fraction"] (defScope skeeper_of) := ⟨rfl, rfl, rfl, by decide +kernel, rfl, by decide +kernel, by decide +kernel⟩
theorem ckkeeper_of : chkB Ckeeper_of bkeeper_of (defScope skeeper_of) (defBody skeeper_of) = true := by decide +kernel

theorem okkeeper_of {P : Program} {w : World} {K : PySem.W.Frag} {mg : Str → Option Value} {base : Heap} {f : Addr} {fd : FuncData} (F : Fun K "keeper_of" "keeper_of" skeeper_of f fd) (M : ∀ κ, Md P w K mg base (phkeeper_of κ) Ckeeper_of 3) : FnOk P w K mg base (L2.CX P w) 4 f fd ["level", "fraction"] (spR K mg (lf Rkeeper_of)) := def_R F sckeeper_of M (fun _ => rfl) bkeeper_of ckkeeper_of (by decide) (fun ds G Gx h => wkeeper_of _ ds G h)
abbrev sis_matrix : Stmt := top 17
theorem scis_matrix : FnScope Cis_matrix.N ["value"] (defScope sis_matrix) := ⟨rfl, rfl, rfl, by decide +kernel, rfl, by decide +kernel, by decide +kernel⟩
theorem ckis_matrix : chkB Cis_matrix bis_matrix (defScope sis_matrix) (defBody sis_matrix) = true := by decide +kernel

theorem okis_matrix {P : Program} {w : World} {K : PySem.W.Frag} {mg : Str → Option Value} {base : Heap} {f : Addr} {fd : FuncData} (F : Fun K "is_matrix" "is_matrix" sis_matrix f fd) (M : ∀ κ, Md P w K mg base (phis_matrix κ) Cis_matrix 1) : FnOk P w K mg base (L2.CX P w) 2 f fd ["value"] (spR K mg (lf Ris_matrix)) := def_R F scis_matrix M (fun _ => rfl) bis_matrix ckis_matrix (by decide) (fun ds G Gx h => wis_matrix _ ds G h)
abbrev sis_member : Stmt := top 25
theorem scis_member : FnScope Cis_member.N ["level", "value"] (defScope sis_member) := ⟨rfl, rfl, rfl, by decide +kernel, rfl, by decide +kernel, by decide +kernel⟩
theorem ckis_member : chkB Cis_member bis_member (defScope sis_member) (defBody sis_member) = true := by decide +kernel

theorem okis_member {P : Program} {w : World} {K : PySem.W.Frag} {mg : Str → Option Value} {base : Heap} {f : Addr} {fd : FuncData} (F : Fun K "is_member" "is_member" sis_member f fd) (M : ∀ κ, Md P w K mg base (phis_member κ) Cis_member 3) : FnOk P w K mg base (L2.CX P w) 4 f fd ["level", "value"] (spR K mg (lf Ris_member)) := def_R F scis_member M (fun _ => rfl) bis_member ckis_member (by decide) (fun ds G Gx h => wis_member _ ds G h)
abbrev s_law_roll : Stmt := top 31
theorem sc_law_roll : FnScope C_law_roll.N ["_law_dice_here", "_law_total"] (defScope s_law_roll) := ⟨rfl, rfl, rfl, by decide +kernel, rfl, by decide +kernel, by decide +kernel⟩
theorem ck_law_roll : chkB C_law_roll b_law_roll (defScope s_law_roll) (defBody s_law_roll) = true := by decide +kernel

theorem ok_law_roll {P : Program} {w : World} {K : PySem.W.Frag} {mg : Str → Option Value} {base : Heap} {f : Addr} {fd : FuncData} (F : Fun K "_law_roll" "_law_roll" s_law_roll f fd) (M : ∀ κ, Md P w K mg base (ph_law_roll κ) C_law_roll 0) : FnOk P w K mg base (L2.CX P w) 1 f fd ["_law_dice_here", "_law_total"] (spO K mg (lfO R_law_roll)) := def_O F sc_law_roll M (fun _ => rfl) b_law_roll ck_law_roll (by decide) (fun ds as G Gx h => w_law_roll _ ds as G h)
abbrev s_law_pick : Stmt := top 32
theorem sc_law_pick : FnScope C_law_pick.N ["_law_dice_here", "_law_items"] (defScope s_law_pick) := ⟨rfl, rfl, rfl, by decide +kernel, rfl, by decide +kernel, by decide +kernel⟩
theorem ck_law_pick : chkB C_law_pick b_law_pick (defScope s_law_pick) (defBody s_law_pick) = true := by decide +kernel

theorem ok_law_pick {P : Program} {w : World} {K : PySem.W.Frag} {mg : Str → Option Value} {base : Heap} {f : Addr} {fd : FuncData} (F : Fun K "_law_pick" "_law_pick" s_law_pick f fd) (M : ∀ κ, Md P w K mg base (ph_law_pick κ) C_law_pick 1) : FnOk P w K mg base (L2.CX P w) 2 f fd ["_law_dice_here", "_law_items"] (spO K mg (lfO R_law_pick)) := def_O F sc_law_pick M (fun _ => rfl) b_law_pick ck_law_pick (by decide) (fun ds as G Gx h => w_law_pick _ ds as G h)
abbrev s_law_level_drawn : Stmt := top 35
theorem sc_law_level_drawn : FnScope C_law_level_drawn.N ["_law_dice_here", "_law_most"] (defScope s_law_level_drawn) := ⟨rfl, rfl, rfl, by decide +kernel, rfl, by decide +kernel, by decide +kernel⟩
theorem ck_law_level_drawn : chkB C_law_level_drawn b_law_level_drawn (defScope s_law_level_drawn) (defBody s_law_level_drawn) = true := by decide +kernel

theorem ok_law_level_drawn {P : Program} {w : World} {K : PySem.W.Frag} {mg : Str → Option Value} {base : Heap} {f : Addr} {fd : FuncData} (F : Fun K "_law_level_drawn" "_law_level_drawn" s_law_level_drawn f fd) (M : ∀ κ, Md P w K mg base (ph_law_level_drawn κ) C_law_level_drawn 2) : FnOk P w K mg base (L2.CX P w) 3 f fd ["_law_dice_here", "_law_most"] (spO K mg (lfO R_law_level_drawn)) := def_O F sc_law_level_drawn M (fun _ => rfl) b_law_level_drawn ck_law_level_drawn (by decide) (fun ds as G Gx h => w_law_level_drawn _ ds as G h)
abbrev s_law_is_group : Stmt := top 42
theorem sc_law_is_group : FnScope C_law_is_group.N ["_law_level", "_law_value"] (defScope s_law_is_group) := ⟨rfl, rfl, rfl, by decide +kernel, rfl, by decide +kernel, by decide +kernel⟩
theorem ck_law_is_group : chkB C_law_is_group b_law_is_group (defScope s_law_is_group) (defBody s_law_is_group) = true := by decide +kernel

theorem ok_law_is_group {P : Program} {w : World} {K : PySem.W.Frag} {mg : Str → Option Value} {base : Heap} {f : Addr} {fd : FuncData} (F : Fun K "_law_is_group" "_law_is_group" s_law_is_group f fd) (M : ∀ κ, Md P w K mg base (ph_law_is_group κ) C_law_is_group 0) : FnOk P w K mg base (L2.CX P w) 1 f fd ["_law_level", "_law_value"] (spR K mg (lf R_law_is_group)) := def_R F sc_law_is_group M (fun _ => rfl) b_law_is_group ck_law_is_group (by decide) (fun ds G Gx h => w_law_is_group _ ds G h)
abbrev s_law_gcd : Stmt := top 33
theorem sc_law_gcd : FnScope C_law_gcd.N ["_law_one", "_law_other"] (defScope s_law_gcd) := ⟨rfl, rfl, rfl, by decide +kernel, rfl, by decide +kernel, by decide +kernel⟩
theorem ck_law_gcd : chkB C_law_gcd b_law_gcd (defScope s_law_gcd) (defBody s_law_gcd) = true := by decide +kernel

theorem ok_law_gcd {P : Program} {w : World} {K : PySem.W.Frag} {mg : Str → Option Value} {base : Heap} {f : Addr} {fd : FuncData} (F : Fun K "_law_gcd" "_law_gcd" s_law_gcd f fd) (M : ∀ κ, Md P w K mg base (ph_law_gcd κ) C_law_gcd 0) : FnOk P w K mg base (L2.CX P w) 1 f fd ["_law_one", "_law_other"] (spR K mg (lf R_law_gcd)) := def_R F sc_law_gcd M (fun _ => rfl) b_law_gcd ck_law_gcd (by decide) (fun ds G Gx h => w_law_gcd _ ds G h)
abbrev s_law_bezout : Stmt := top 40
theorem sc_law_bezout : FnScope C_law_bezout.N ["_law_one", "_law_other"] (defScope s_law_bezout) := ⟨rfl, rfl, rfl, by decide +kernel, rfl, by decide +kernel, by decide +kernel⟩
theorem ck_law_bezout : chkB C_law_bezout b_law_bezout (defScope s_law_bezout) (defBody s_law_bezout) = true := by decide +kernel

theorem ok_law_bezout {P : Program} {w : World} {K : PySem.W.Frag} {mg : Str → Option Value} {base : Heap} {f : Addr} {fd : FuncData} (F : Fun K "_law_bezout" "_law_bezout" s_law_bezout f fd) (M : ∀ κ, Md P w K mg base (ph_law_bezout κ) C_law_bezout 0) : FnOk P w K mg base (L2.CX P w) 1 f fd ["_law_one", "_law_other"] (spR K mg (lf R_law_bezout)) := def_R F sc_law_bezout M (fun _ => rfl) b_law_bezout ck_law_bezout (by decide) (fun ds G Gx h => w_law_bezout _ ds G h)
abbrev s_law_matrix_drawn : Stmt := top 41
theorem sc_law_matrix_drawn : FnScope C_law_matrix_drawn.N ["_law_dice_here", "_law_level", "_law_most"] (defScope s_law_matrix_drawn) := ⟨rfl, rfl, rfl, by decide +kernel, rfl, by decide +kernel, by decide +kernel⟩
theorem ck_law_matrix_drawn : chkB C_law_matrix_drawn b_law_matrix_drawn (defScope s_law_matrix_drawn) (defBody s_law_matrix_drawn) = true := by decide +kernel

theorem ok_law_matrix_drawn {P : Program} {w : World} {K : PySem.W.Frag} {mg : Str → Option Value} {base : Heap} {f : Addr} {fd : FuncData} (F : Fun K "_law_matrix_drawn" "_law_matrix_drawn" s_law_matrix_drawn f fd) (M : ∀ κ, Md P w K mg base (ph_law_matrix_drawn κ) C_law_matrix_drawn 2) : FnOk P w K mg base (L2.CX P w) 3 f fd ["_law_dice_here", "_law_level", "_law_most"] (spO K mg (lfO R_law_matrix_drawn)) := def_O F sc_law_matrix_drawn M (fun _ => rfl) b_law_matrix_drawn ck_law_matrix_drawn (by decide) (fun ds as G Gx h => w_law_matrix_drawn _ ds as G h)
abbrev s_law_judged_right : Stmt := top 47
theorem sc_law_judged_right : FnScope C_law_judged_right.N ["_law_dice_here", "_law_level"] (defScope s_law_judged_right) := ⟨rfl, rfl, rfl, by decide +kernel, rfl, by decide +kernel, by decide +kernel⟩
theorem ck_law_judged_right : chkB C_law_judged_right b_law_judged_right (defScope s_law_judged_right) (defBody s_law_judged_right) = true := by decide +kernel

theorem ok_law_judged_right {P : Program} {w : World} {K : PySem.W.Frag} {mg : Str → Option Value} {base : Heap} {f : Addr} {fd : FuncData} (F : Fun K "_law_judged_right" "_law_judged_right" s_law_judged_right f fd) (M : ∀ κ, Md P w K mg base (ph_law_judged_right κ) C_law_judged_right 4) : FnOk P w K mg base (L2.CX P w) 5 f fd ["_law_dice_here", "_law_level"] (spO K mg (lfO R_law_judged_right)) := def_O F sc_law_judged_right M (fun _ => rfl) b_law_judged_right ck_law_judged_right (by decide) (fun ds as G Gx h => w_law_judged_right _ ds as G h)
abbrev s_law_width : Stmt := top 43
theorem sc_law_width : FnScope C_law_width.N ["_law_level", "_law_fraction"] (defScope s_law_width) := ⟨rfl, rfl, rfl, by decide +kernel, rfl, by decide +kernel, by decide +kernel⟩
theorem ck_law_width : chkB C_law_width b_law_width (defScope s_law_width) (defBody s_law_width) = true := by decide +kernel

theorem ok_law_width {P : Program} {w : World} {K : PySem.W.Frag} {mg : Str → Option Value} {base : Heap} {f : Addr} {fd : FuncData} (F : Fun K "_law_width" "_law_width" s_law_width f fd) (M : ∀ κ, Md P w K mg base (ph_law_width κ) C_law_width 1) : FnOk P w K mg base (L2.CX P w) 2 f fd ["_law_level", "_law_fraction"] (spR K mg (lf R_law_width)) := def_R F sc_law_width M (fun _ => rfl) b_law_width ck_law_width (by decide) (fun ds G Gx h => w_law_width _ ds G h)
abbrev s_law_lowest : Stmt := top 36
theorem sc_law_lowest : FnScope C_law_lowest.N ["_law_top", "_law_bottom"] (defScope s_law_lowest) := ⟨rfl, rfl, rfl, by decide +kernel, rfl, by decide +kernel, by decide +kernel⟩
theorem ck_law_lowest : chkB C_law_lowest b_law_lowest (defScope s_law_lowest) (defBody s_law_lowest) = true := by decide +kernel

theorem ok_law_lowest {P : Program} {w : World} {K : PySem.W.Frag} {mg : Str → Option Value} {base : Heap} {f : Addr} {fd : FuncData} (F : Fun K "_law_lowest" "_law_lowest" s_law_lowest f fd) (M : ∀ κ, Md P w K mg base (ph_law_lowest κ) C_law_lowest 1) : FnOk P w K mg base (L2.CX P w) 2 f fd ["_law_top", "_law_bottom"] (spR K mg (lf R_law_lowest)) := def_R F sc_law_lowest M (fun _ => rfl) b_law_lowest ck_law_lowest (by decide) (fun ds G Gx h => w_law_lowest _ ds G h)
abbrev s_law_matrix_led : Stmt := top 39
theorem sc_law_matrix_led : FnScope C_law_matrix_led.N ["_law_matrix", "_law_fraction"] (defScope s_law_matrix_led) := ⟨rfl, rfl, rfl, by decide +kernel, rfl, by decide +kernel, by decide +kernel⟩
theorem ck_law_matrix_led : chkB C_law_matrix_led b_law_matrix_led (defScope s_law_matrix_led) (defBody s_law_matrix_led) = true := by decide +kernel

theorem ok_law_matrix_led {P : Program} {w : World} {K : PySem.W.Frag} {mg : Str → Option Value} {base : Heap} {f : Addr} {fd : FuncData} (F : Fun K "_law_matrix_led" "_law_matrix_led" s_law_matrix_led f fd) (M : ∀ κ, Md P w K mg base (ph_law_matrix_led κ) C_law_matrix_led 2) : FnOk P w K mg base (L2.CX P w) 3 f fd ["_law_matrix", "_law_fraction"] (spR K mg (lf R_law_matrix_led)) := def_R F sc_law_matrix_led M (fun _ => rfl) b_law_matrix_led ck_law_matrix_led (by decide) (fun ds G Gx h => w_law_matrix_led _ ds G h)
abbrev s_law_matrix_times : Stmt := top 38
theorem sc_law_matrix_times : FnScope C_law_matrix_times.N ["_law_one", "_law_other"] (defScope s_law_matrix_times) := ⟨rfl, rfl, rfl, by decide +kernel, rfl, by decide +kernel, by decide +kernel⟩
theorem ck_law_matrix_times : chkB C_law_matrix_times b_law_matrix_times (defScope s_law_matrix_times) (defBody s_law_matrix_times) = true := by decide +kernel

theorem ok_law_matrix_times {P : Program} {w : World} {K : PySem.W.Frag} {mg : Str → Option Value} {base : Heap} {f : Addr} {fd : FuncData} (F : Fun K "_law_matrix_times" "_law_matrix_times" s_law_matrix_times f fd) (M : ∀ κ, Md P w K mg base (ph_law_matrix_times κ) C_law_matrix_times 0) : FnOk P w K mg base (L2.CX P w) 1 f fd ["_law_one", "_law_other"] (spR K mg (lf R_law_matrix_times)) := def_R F sc_law_matrix_times M (fun _ => rfl) b_law_matrix_times ck_law_matrix_times (by decide) (fun ds G Gx h => w_law_matrix_times _ ds G h)
abbrev s_law_matrix_power : Stmt := top 44
theorem sc_law_matrix_power : FnScope C_law_matrix_power.N ["_law_matrix", "_law_many"] (defScope s_law_matrix_power) := ⟨rfl, rfl, rfl, by decide +kernel, rfl, by decide +kernel, by decide +kernel⟩
theorem ck_law_matrix_power : chkB C_law_matrix_power b_law_matrix_power (defScope s_law_matrix_power) (defBody s_law_matrix_power) = true := by decide +kernel

theorem ok_law_matrix_power {P : Program} {w : World} {K : PySem.W.Frag} {mg : Str → Option Value} {base : Heap} {f : Addr} {fd : FuncData} (F : Fun K "_law_matrix_power" "_law_matrix_power" s_law_matrix_power f fd) (M : ∀ κ, Md P w K mg base (ph_law_matrix_power κ) C_law_matrix_power 1) : FnOk P w K mg base (L2.CX P w) 2 f fd ["_law_matrix", "_law_many"] (spR K mg (lf R_law_matrix_power)) := def_R F sc_law_matrix_power M (fun _ => rfl) b_law_matrix_power ck_law_matrix_power (by decide) (fun ds G Gx h => w_law_matrix_power _ ds G h)
abbrev s_law_divisors : Stmt := top 34
theorem sc_law_divisors : FnScope C_law_divisors.N ["_law_number"] (defScope s_law_divisors) := ⟨rfl, rfl, rfl, by decide +kernel, rfl, by decide +kernel, by decide +kernel⟩
theorem ck_law_divisors : chkB C_law_divisors b_law_divisors (defScope s_law_divisors) (defBody s_law_divisors) = true := by decide +kernel

theorem ok_law_divisors {P : Program} {w : World} {K : PySem.W.Frag} {mg : Str → Option Value} {base : Heap} {f : Addr} {fd : FuncData} (F : Fun K "_law_divisors" "_law_divisors" s_law_divisors f fd) (M : ∀ κ, Md P w K mg base (ph_law_divisors κ) C_law_divisors 0) : FnOk P w K mg base (L2.CX P w) 1 f fd ["_law_number"] (spR K mg (lf R_law_divisors)) := def_R F sc_law_divisors M (fun _ => rfl) b_law_divisors ck_law_divisors (by decide) (fun ds G Gx h => w_law_divisors _ ds G h)
abbrev s_led : Stmt := top 21
theorem sc_led : FnScope C_led.N ["matrix", "fraction"] (defScope s_led) := ⟨rfl, rfl, rfl, by decide +kernel, rfl, by decide +kernel, by decide +kernel⟩
theorem ck_led : chkB C_led b_led (defScope s_led) (defBody s_led) = true := by decide +kernel

theorem ok_led {P : Program} {w : World} {K : PySem.W.Frag} {mg : Str → Option Value} {base : Heap} {f : Addr} {fd : FuncData} (F : Fun K "_led" "_led" s_led f fd) (M : ∀ κ, Md P w K mg base (ph_led κ) C_led 0) : FnOk P w K mg base (L2.CX P w) 1 f fd ["matrix", "fraction"] (spR K mg (lf R_led)) := def_R F sc_led M (fun _ => rfl) b_led ck_led (by decide) (fun ds G Gx h => w_led _ ds G h)
abbrev sled_fraction : Stmt := top 20
theorem scled_fraction : FnScope Cled_fraction.N ["matrix", "fraction"] (defScope sled_fraction) := ⟨rfl, rfl, rfl, by decide +kernel, rfl, by decide +kernel, by decide +kernel⟩
theorem ckled_fraction : chkB Cled_fraction bled_fraction (defScope sled_fraction) (defBody sled_fraction) = true := by decide +kernel

theorem okled_fraction {P : Program} {w : World} {K : PySem.W.Frag} {mg : Str → Option Value} {base : Heap} {f : Addr} {fd : FuncData} (F : Fun K "led_fraction" "led_fraction" sled_fraction f fd) (M : ∀ κ, Md P w K mg base (phled_fraction κ) Cled_fraction 3) : FnOk P w K mg base (L2.CX P w) 4 f fd ["matrix", "fraction"] (spR K mg (lf Rled_fraction)) := def_R F scled_fraction M (fun _ => rfl) bled_fraction ckled_fraction (by decide) (fun ds G Gx h => wled_fraction _ ds G h)
abbrev s_law_fraction_drawn : Stmt := top 37
theorem sc_law_fraction_drawn : FnScope C_law_fraction_drawn.N ["_law_dice_here", "_law_most"] (defScope s_law_fraction_drawn) := ⟨rfl, rfl, rfl, by decide +kernel, rfl, by decide +kernel, by decide +kernel⟩
theorem ck_law_fraction_drawn : chkB C_law_fraction_drawn b_law_fraction_drawn (defScope s_law_fraction_drawn) (defBody s_law_fraction_drawn) = true := by decide +kernel

theorem ok_law_fraction_drawn {P : Program} {w : World} {K : PySem.W.Frag} {mg : Str → Option Value} {base : Heap} {f : Addr} {fd : FuncData} (F : Fun K "_law_fraction_drawn" "_law_fraction_drawn" s_law_fraction_drawn f fd) (M : ∀ κ, Md P w K mg base (ph_law_fraction_drawn κ) C_law_fraction_drawn 2) : FnOk P w K mg base (L2.CX P w) 3 f fd ["_law_dice_here", "_law_most"] (spO K mg (lfO R_law_fraction_drawn)) := def_O F sc_law_fraction_drawn M (fun _ => rfl) b_law_fraction_drawn ck_law_fraction_drawn (by decide) (fun ds as G Gx h => w_law_fraction_drawn _ ds as G h)
abbrev s_law_keeper_right : Stmt := top 46
theorem sc_law_keeper_right : FnScope C_law_keeper_right.N ["_law_dice_here", "_law_level"] (defScope s_law_keeper_right) := ⟨rfl, rfl, rfl, by decide +kernel, rfl, by decide +kernel, by decide +kernel⟩
theorem ck_law_keeper_right : chkB C_law_keeper_right b_law_keeper_right (defScope s_law_keeper_right) (defBody s_law_keeper_right) = true := by decide +kernel

theorem ok_law_keeper_right {P : Program} {w : World} {K : PySem.W.Frag} {mg : Str → Option Value} {base : Heap} {f : Addr} {fd : FuncData} (F : Fun K "_law_keeper_right" "_law_keeper_right" s_law_keeper_right f fd) (M : ∀ κ, Md P w K mg base (ph_law_keeper_right κ) C_law_keeper_right 4) : FnOk P w K mg base (L2.CX P w) 5 f fd ["_law_dice_here", "_law_level"] (spO K mg (lfO R_law_keeper_right)) := def_O F sc_law_keeper_right M (fun _ => rfl) b_law_keeper_right ck_law_keeper_right (by decide) (fun ds as G Gx h => w_law_keeper_right _ ds as G h)
abbrev s_law_products_right : Stmt := top 45
theorem sc_law_products_right : FnScope C_law_products_right.N ["_law_dice_here", "_law_level"] (defScope s_law_products_right) := ⟨rfl, rfl, rfl, by decide +kernel, rfl, by decide +kernel, by decide +kernel⟩
theorem ck_law_products_right : chkB C_law_products_right b_law_products_right (defScope s_law_products_right) (defBody s_law_products_right) = true := by decide +kernel

theorem ok_law_products_right {P : Program} {w : World} {K : PySem.W.Frag} {mg : Str → Option Value} {base : Heap} {f : Addr} {fd : FuncData} (F : Fun K "_law_products_right" "_law_products_right" s_law_products_right f fd) (M : ∀ κ, Md P w K mg base (ph_law_products_right κ) C_law_products_right 4) : FnOk P w K mg base (L2.CX P w) 5 f fd ["_law_dice_here", "_law_level"] (spO K mg (lfO R_law_products_right)) := def_O F sc_law_products_right M (fun _ => rfl) b_law_products_right ck_law_products_right (by decide) (fun ds as G Gx h => w_law_products_right _ ds as G h)
abbrev s_law_dice : Stmt := top 30
theorem sc_law_dice : FnScope C_law_dice.N ["_law_script", "_law_spot"] (defScope s_law_dice) := ⟨rfl, rfl, rfl, by decide +kernel, rfl, by decide +kernel, by decide +kernel⟩
theorem ck_law_dice : chkB C_law_dice b_law_dice (defScope s_law_dice) (defBody s_law_dice) = true := by decide +kernel

theorem ok_law_dice {P : Program} {w : World} {K : PySem.W.Frag} {mg : Str → Option Value} {base : Heap} {f : Addr} {fd : FuncData} (F : Fun K "_law_dice" "_law_dice" s_law_dice f fd) (M : ∀ κ, Md P w K mg base (ph_law_dice κ) C_law_dice 0) : FnOk P w K mg base (L2.CX P w) 1 f fd ["_law_script", "_law_spot"] (spL K mg (lfL R_law_dice)) := def_L F sc_law_dice M (fun _ => rfl) b_law_dice ck_law_dice (by decide) (fun ds G Gx h => w_law_dice _ ds G h)
abbrev slaw : Stmt := top 48
theorem sclaw : FnScope Claw.N ["_law_script"] (defScope slaw) := ⟨rfl, rfl, rfl, by decide +kernel, rfl, by decide +kernel, by decide +kernel⟩
theorem cklaw : chkB Claw blaw (defScope slaw) (defBody slaw) = true := by decide +kernel

theorem oklaw {P : Program} {w : World} {K : PySem.W.Frag} {mg : Str → Option Value} {base : Heap} {f : Addr} {fd : FuncData} (F : Fun K "law" "law" slaw f fd) (M : ∀ κ, Md P w K mg base (phlaw κ) Claw 5) : FnOk P w K mg base (L2.CX P w) 6 f fd ["_law_script"] (spR K mg RLaw) := def_R F sclaw M (fun _ => rfl) blaw cklaw (by decide) (fun ds G Gx h => wlaw _ ds G h)
theorem all_mk {l : PySem.W.OpenLaw} {w : World} {K : PySem.W.Frag} {h : Heap} {mg : Str → Option Value} {fa : Addr} (X : K.In h) (G : h.Ns mainGlobals mg) (hfa : mg "law" = some (.ref fa))
    {f0 f1 f2 f3 f4 f5 f6 f7 f8 f9 f10 f11 f12 f13 f14 f15 f16 f17 f18 f19 f20 f21 f22 f23 f24 f25 f26 f27 f28 f29 f30 f31 f32 f33 f34 f35 : Addr}
    {od0 an0 : Option Addr} {sl0 : Array (Option Value)} {oc0 kV0 dc0 pm0 cd0 ct0 : Value}
    {od1 an1 : Option Addr} {sl1 : Array (Option Value)} {oc1 kV1 dc1 pm1 cd1 ct1 : Value}
    {od2 an2 : Option Addr} {sl2 : Array (Option Value)} {oc2 kV2 dc2 pm2 cd2 ct2 : Value}
    {od3 an3 : Option Addr} {sl3 : Array (Option Value)} {oc3 kV3 dc3 pm3 cd3 ct3 : Value}
    {od4 an4 : Option Addr} {sl4 : Array (Option Value)} {oc4 kV4 dc4 pm4 cd4 ct4 : Value}
    {od5 an5 : Option Addr} {sl5 : Array (Option Value)} {oc5 kV5 dc5 pm5 cd5 ct5 : Value}
    {od6 an6 : Option Addr} {sl6 : Array (Option Value)} {oc6 kV6 dc6 pm6 cd6 ct6 : Value}
    {od7 an7 : Option Addr} {sl7 : Array (Option Value)} {oc7 kV7 dc7 pm7 cd7 ct7 : Value}
    {od8 an8 : Option Addr} {sl8 : Array (Option Value)} {oc8 kV8 dc8 pm8 cd8 ct8 : Value}
    {od9 an9 : Option Addr} {sl9 : Array (Option Value)} {oc9 kV9 dc9 pm9 cd9 ct9 : Value}
    {od10 an10 : Option Addr} {sl10 : Array (Option Value)} {oc10 kV10 dc10 pm10 cd10 ct10 : Value}
    {od11 an11 : Option Addr} {sl11 : Array (Option Value)} {oc11 kV11 dc11 pm11 cd11 ct11 : Value}
    {od12 an12 : Option Addr} {sl12 : Array (Option Value)} {oc12 kV12 dc12 pm12 cd12 ct12 : Value}
    {od13 an13 : Option Addr} {sl13 : Array (Option Value)} {oc13 kV13 dc13 pm13 cd13 ct13 : Value}
    {od14 an14 : Option Addr} {sl14 : Array (Option Value)} {oc14 kV14 dc14 pm14 cd14 ct14 : Value}
    {od15 an15 : Option Addr} {sl15 : Array (Option Value)} {oc15 kV15 dc15 pm15 cd15 ct15 : Value}
    {od16 an16 : Option Addr} {sl16 : Array (Option Value)} {oc16 kV16 dc16 pm16 cd16 ct16 : Value}
    {od17 an17 : Option Addr} {sl17 : Array (Option Value)} {oc17 kV17 dc17 pm17 cd17 ct17 : Value}
    {od18 an18 : Option Addr} {sl18 : Array (Option Value)} {oc18 kV18 dc18 pm18 cd18 ct18 : Value}
    {od19 an19 : Option Addr} {sl19 : Array (Option Value)} {oc19 kV19 dc19 pm19 cd19 ct19 : Value}
    {od20 an20 : Option Addr} {sl20 : Array (Option Value)} {oc20 kV20 dc20 pm20 cd20 ct20 : Value}
    {od21 an21 : Option Addr} {sl21 : Array (Option Value)} {oc21 kV21 dc21 pm21 cd21 ct21 : Value}
    {od22 an22 : Option Addr} {sl22 : Array (Option Value)} {oc22 kV22 dc22 pm22 cd22 ct22 : Value}
    {od23 an23 : Option Addr} {sl23 : Array (Option Value)} {oc23 kV23 dc23 pm23 cd23 ct23 : Value}
    {od24 an24 : Option Addr} {sl24 : Array (Option Value)} {oc24 kV24 dc24 pm24 cd24 ct24 : Value}
    {od25 an25 : Option Addr} {sl25 : Array (Option Value)} {oc25 kV25 dc25 pm25 cd25 ct25 : Value}
    {od26 an26 : Option Addr} {sl26 : Array (Option Value)} {oc26 kV26 dc26 pm26 cd26 ct26 : Value}
    {od27 an27 : Option Addr} {sl27 : Array (Option Value)} {oc27 kV27 dc27 pm27 cd27 ct27 : Value}
    {od28 an28 : Option Addr} {sl28 : Array (Option Value)} {oc28 kV28 dc28 pm28 cd28 ct28 : Value}
    {od29 an29 : Option Addr} {sl29 : Array (Option Value)} {oc29 kV29 dc29 pm29 cd29 ct29 : Value}
    {od30 an30 : Option Addr} {sl30 : Array (Option Value)} {oc30 kV30 dc30 pm30 cd30 ct30 : Value}
    {od31 an31 : Option Addr} {sl31 : Array (Option Value)} {oc31 kV31 dc31 pm31 cd31 ct31 : Value}
    {od32 an32 : Option Addr} {sl32 : Array (Option Value)} {oc32 kV32 dc32 pm32 cd32 ct32 : Value}
    {od33 an33 : Option Addr} {sl33 : Array (Option Value)} {oc33 kV33 dc33 pm33 cd33 ct33 : Value}
    {od34 an34 : Option Addr} {sl34 : Array (Option Value)} {oc34 kV34 dc34 pm34 cd34 ct34 : Value}
    {od35 an35 : Option Addr} {sl35 : Array (Option Value)} {oc35 kV35 dc35 pm35 cd35 ct35 : Value}
    {t_TOO_LONG : Tok}
    {tMAX_LEVEL : Tok}
    {tMAX_PART : Tok}
    (a0 : PySem.W.nsIn K mainGlobals "is_integer" = some (some (.ref f0))) (l0 : K.lookup f0 = some ⟨oc0, od0, .func (PySem.W.fnOf "is_integer" "is_integer" (defArgs sis_integer) (defBody sis_integer) (defScope sis_integer) .none kV0 dc0 pm0 an0 cd0 ct0), sl0⟩) (c0 : PySem.W.codeIn K cd0 "is_integer" = true) (k0 : PySem.W.keepIn K (.ref f0) = true)
    (a1 : PySem.W.nsIn K mainGlobals "check_matrix" = some (some (.ref f1))) (l1 : K.lookup f1 = some ⟨oc1, od1, .func (PySem.W.fnOf "check_matrix" "check_matrix" (defArgs scheck_matrix) (defBody scheck_matrix) (defScope scheck_matrix) .none kV1 dc1 pm1 an1 cd1 ct1), sl1⟩) (c1 : PySem.W.codeIn K cd1 "check_matrix" = true) (k1 : PySem.W.keepIn K (.ref f1) = true)
    (a2 : PySem.W.nsIn K mainGlobals "matrix_determinant" = some (some (.ref f2))) (l2 : K.lookup f2 = some ⟨oc2, od2, .func (PySem.W.fnOf "matrix_determinant" "matrix_determinant" (defArgs smatrix_determinant) (defBody smatrix_determinant) (defScope smatrix_determinant) .none kV2 dc2 pm2 an2 cd2 ct2), sl2⟩) (c2 : PySem.W.codeIn K cd2 "matrix_determinant" = true) (k2 : PySem.W.keepIn K (.ref f2) = true)
    (a3 : PySem.W.nsIn K mainGlobals "matrix_back" = some (some (.ref f3))) (l3 : K.lookup f3 = some ⟨oc3, od3, .func (PySem.W.fnOf "matrix_back" "matrix_back" (defArgs smatrix_back) (defBody smatrix_back) (defScope smatrix_back) .none kV3 dc3 pm3 an3 cd3 ct3), sl3⟩) (c3 : PySem.W.codeIn K cd3 "matrix_back" = true) (k3 : PySem.W.keepIn K (.ref f3) = true)
    (a4 : PySem.W.nsIn K mainGlobals "product_matrix" = some (some (.ref f4))) (l4 : K.lookup f4 = some ⟨oc4, od4, .func (PySem.W.fnOf "product_matrix" "product_matrix" (defArgs sproduct_matrix) (defBody sproduct_matrix) (defScope sproduct_matrix) .none kV4 dc4 pm4 an4 cd4 ct4), sl4⟩) (c4 : PySem.W.codeIn K cd4 "product_matrix" = true) (k4 : PySem.W.keepIn K (.ref f4) = true)
    (a5 : PySem.W.nsIn K mainGlobals "matrix_product" = some (some (.ref f5))) (l5 : K.lookup f5 = some ⟨oc5, od5, .func (PySem.W.fnOf "matrix_product" "matrix_product" (defArgs smatrix_product) (defBody smatrix_product) (defScope smatrix_product) .none kV5 dc5 pm5 an5 cd5 ct5), sl5⟩) (c5 : PySem.W.codeIn K cd5 "matrix_product" = true) (k5 : PySem.W.keepIn K (.ref f5) = true)
    (a6 : PySem.W.nsIn K mainGlobals "is_level" = some (some (.ref f6))) (l6 : K.lookup f6 = some ⟨oc6, od6, .func (PySem.W.fnOf "is_level" "is_level" (defArgs sis_level) (defBody sis_level) (defScope sis_level) .none kV6 dc6 pm6 an6 cd6 ct6), sl6⟩) (c6 : PySem.W.codeIn K cd6 "is_level" = true) (k6 : PySem.W.keepIn K (.ref f6) = true)
    (a7 : PySem.W.nsIn K mainGlobals "check_level" = some (some (.ref f7))) (l7 : K.lookup f7 = some ⟨oc7, od7, .func (PySem.W.fnOf "check_level" "check_level" (defArgs scheck_level) (defBody scheck_level) (defScope scheck_level) .none kV7 dc7 pm7 an7 cd7 ct7), sl7⟩) (c7 : PySem.W.codeIn K cd7 "check_level" = true) (k7 : PySem.W.keepIn K (.ref f7) = true)
    (a8 : PySem.W.nsIn K mainGlobals "is_whole" = some (some (.ref f8))) (l8 : K.lookup f8 = some ⟨oc8, od8, .func (PySem.W.fnOf "is_whole" "is_whole" (defArgs sis_whole) (defBody sis_whole) (defScope sis_whole) .none kV8 dc8 pm8 an8 cd8 ct8), sl8⟩) (c8 : PySem.W.codeIn K cd8 "is_whole" = true) (k8 : PySem.W.keepIn K (.ref f8) = true)
    (a9 : PySem.W.nsIn K mainGlobals "is_fraction" = some (some (.ref f9))) (l9 : K.lookup f9 = some ⟨oc9, od9, .func (PySem.W.fnOf "is_fraction" "is_fraction" (defArgs sis_fraction) (defBody sis_fraction) (defScope sis_fraction) .none kV9 dc9 pm9 an9 cd9 ct9), sl9⟩) (c9 : PySem.W.codeIn K cd9 "is_fraction" = true) (k9 : PySem.W.keepIn K (.ref f9) = true)
    (a10 : PySem.W.nsIn K mainGlobals "check_fraction" = some (some (.ref f10))) (l10 : K.lookup f10 = some ⟨oc10, od10, .func (PySem.W.fnOf "check_fraction" "check_fraction" (defArgs scheck_fraction) (defBody scheck_fraction) (defScope scheck_fraction) .none kV10 dc10 pm10 an10 cd10 ct10), sl10⟩) (c10 : PySem.W.codeIn K cd10 "check_fraction" = true) (k10 : PySem.W.keepIn K (.ref f10) = true)
    (a11 : PySem.W.nsIn K mainGlobals "_width" = some (some (.ref f11))) (l11 : K.lookup f11 = some ⟨oc11, od11, .func (PySem.W.fnOf "_width" "_width" (defArgs s_width) (defBody s_width) (defScope s_width) .none kV11 dc11 pm11 an11 cd11 ct11), sl11⟩) (c11 : PySem.W.codeIn K cd11 "_width" = true) (k11 : PySem.W.keepIn K (.ref f11) = true)
    (a12 : PySem.W.nsIn K mainGlobals "keeper_of" = some (some (.ref f12))) (l12 : K.lookup f12 = some ⟨oc12, od12, .func (PySem.W.fnOf "keeper_of" "keeper_of" (defArgs skeeper_of) (defBody skeeper_of) (defScope skeeper_of) .none kV12 dc12 pm12 an12 cd12 ct12), sl12⟩) (c12 : PySem.W.codeIn K cd12 "keeper_of" = true) (k12 : PySem.W.keepIn K (.ref f12) = true)
    (a13 : PySem.W.nsIn K mainGlobals "is_matrix" = some (some (.ref f13))) (l13 : K.lookup f13 = some ⟨oc13, od13, .func (PySem.W.fnOf "is_matrix" "is_matrix" (defArgs sis_matrix) (defBody sis_matrix) (defScope sis_matrix) .none kV13 dc13 pm13 an13 cd13 ct13), sl13⟩) (c13 : PySem.W.codeIn K cd13 "is_matrix" = true) (k13 : PySem.W.keepIn K (.ref f13) = true)
    (a14 : PySem.W.nsIn K mainGlobals "is_member" = some (some (.ref f14))) (l14 : K.lookup f14 = some ⟨oc14, od14, .func (PySem.W.fnOf "is_member" "is_member" (defArgs sis_member) (defBody sis_member) (defScope sis_member) .none kV14 dc14 pm14 an14 cd14 ct14), sl14⟩) (c14 : PySem.W.codeIn K cd14 "is_member" = true) (k14 : PySem.W.keepIn K (.ref f14) = true)
    (a15 : PySem.W.nsIn K mainGlobals "_law_roll" = some (some (.ref f15))) (l15 : K.lookup f15 = some ⟨oc15, od15, .func (PySem.W.fnOf "_law_roll" "_law_roll" (defArgs s_law_roll) (defBody s_law_roll) (defScope s_law_roll) .none kV15 dc15 pm15 an15 cd15 ct15), sl15⟩) (c15 : PySem.W.codeIn K cd15 "_law_roll" = true) (k15 : PySem.W.keepIn K (.ref f15) = true)
    (a16 : PySem.W.nsIn K mainGlobals "_law_pick" = some (some (.ref f16))) (l16 : K.lookup f16 = some ⟨oc16, od16, .func (PySem.W.fnOf "_law_pick" "_law_pick" (defArgs s_law_pick) (defBody s_law_pick) (defScope s_law_pick) .none kV16 dc16 pm16 an16 cd16 ct16), sl16⟩) (c16 : PySem.W.codeIn K cd16 "_law_pick" = true) (k16 : PySem.W.keepIn K (.ref f16) = true)
    (a17 : PySem.W.nsIn K mainGlobals "_law_level_drawn" = some (some (.ref f17))) (l17 : K.lookup f17 = some ⟨oc17, od17, .func (PySem.W.fnOf "_law_level_drawn" "_law_level_drawn" (defArgs s_law_level_drawn) (defBody s_law_level_drawn) (defScope s_law_level_drawn) .none kV17 dc17 pm17 an17 cd17 ct17), sl17⟩) (c17 : PySem.W.codeIn K cd17 "_law_level_drawn" = true) (k17 : PySem.W.keepIn K (.ref f17) = true)
    (a18 : PySem.W.nsIn K mainGlobals "_law_is_group" = some (some (.ref f18))) (l18 : K.lookup f18 = some ⟨oc18, od18, .func (PySem.W.fnOf "_law_is_group" "_law_is_group" (defArgs s_law_is_group) (defBody s_law_is_group) (defScope s_law_is_group) .none kV18 dc18 pm18 an18 cd18 ct18), sl18⟩) (c18 : PySem.W.codeIn K cd18 "_law_is_group" = true) (k18 : PySem.W.keepIn K (.ref f18) = true)
    (a19 : PySem.W.nsIn K mainGlobals "_law_gcd" = some (some (.ref f19))) (l19 : K.lookup f19 = some ⟨oc19, od19, .func (PySem.W.fnOf "_law_gcd" "_law_gcd" (defArgs s_law_gcd) (defBody s_law_gcd) (defScope s_law_gcd) .none kV19 dc19 pm19 an19 cd19 ct19), sl19⟩) (c19 : PySem.W.codeIn K cd19 "_law_gcd" = true) (k19 : PySem.W.keepIn K (.ref f19) = true)
    (a20 : PySem.W.nsIn K mainGlobals "_law_bezout" = some (some (.ref f20))) (l20 : K.lookup f20 = some ⟨oc20, od20, .func (PySem.W.fnOf "_law_bezout" "_law_bezout" (defArgs s_law_bezout) (defBody s_law_bezout) (defScope s_law_bezout) .none kV20 dc20 pm20 an20 cd20 ct20), sl20⟩) (c20 : PySem.W.codeIn K cd20 "_law_bezout" = true) (k20 : PySem.W.keepIn K (.ref f20) = true)
    (a21 : PySem.W.nsIn K mainGlobals "_law_matrix_drawn" = some (some (.ref f21))) (l21 : K.lookup f21 = some ⟨oc21, od21, .func (PySem.W.fnOf "_law_matrix_drawn" "_law_matrix_drawn" (defArgs s_law_matrix_drawn) (defBody s_law_matrix_drawn) (defScope s_law_matrix_drawn) .none kV21 dc21 pm21 an21 cd21 ct21), sl21⟩) (c21 : PySem.W.codeIn K cd21 "_law_matrix_drawn" = true) (k21 : PySem.W.keepIn K (.ref f21) = true)
    (a22 : PySem.W.nsIn K mainGlobals "_law_judged_right" = some (some (.ref f22))) (l22 : K.lookup f22 = some ⟨oc22, od22, .func (PySem.W.fnOf "_law_judged_right" "_law_judged_right" (defArgs s_law_judged_right) (defBody s_law_judged_right) (defScope s_law_judged_right) .none kV22 dc22 pm22 an22 cd22 ct22), sl22⟩) (c22 : PySem.W.codeIn K cd22 "_law_judged_right" = true) (k22 : PySem.W.keepIn K (.ref f22) = true)
    (a23 : PySem.W.nsIn K mainGlobals "_law_width" = some (some (.ref f23))) (l23 : K.lookup f23 = some ⟨oc23, od23, .func (PySem.W.fnOf "_law_width" "_law_width" (defArgs s_law_width) (defBody s_law_width) (defScope s_law_width) .none kV23 dc23 pm23 an23 cd23 ct23), sl23⟩) (c23 : PySem.W.codeIn K cd23 "_law_width" = true) (k23 : PySem.W.keepIn K (.ref f23) = true)
    (a24 : PySem.W.nsIn K mainGlobals "_law_lowest" = some (some (.ref f24))) (l24 : K.lookup f24 = some ⟨oc24, od24, .func (PySem.W.fnOf "_law_lowest" "_law_lowest" (defArgs s_law_lowest) (defBody s_law_lowest) (defScope s_law_lowest) .none kV24 dc24 pm24 an24 cd24 ct24), sl24⟩) (c24 : PySem.W.codeIn K cd24 "_law_lowest" = true) (k24 : PySem.W.keepIn K (.ref f24) = true)
    (a25 : PySem.W.nsIn K mainGlobals "_law_matrix_led" = some (some (.ref f25))) (l25 : K.lookup f25 = some ⟨oc25, od25, .func (PySem.W.fnOf "_law_matrix_led" "_law_matrix_led" (defArgs s_law_matrix_led) (defBody s_law_matrix_led) (defScope s_law_matrix_led) .none kV25 dc25 pm25 an25 cd25 ct25), sl25⟩) (c25 : PySem.W.codeIn K cd25 "_law_matrix_led" = true) (k25 : PySem.W.keepIn K (.ref f25) = true)
    (a26 : PySem.W.nsIn K mainGlobals "_law_matrix_times" = some (some (.ref f26))) (l26 : K.lookup f26 = some ⟨oc26, od26, .func (PySem.W.fnOf "_law_matrix_times" "_law_matrix_times" (defArgs s_law_matrix_times) (defBody s_law_matrix_times) (defScope s_law_matrix_times) .none kV26 dc26 pm26 an26 cd26 ct26), sl26⟩) (c26 : PySem.W.codeIn K cd26 "_law_matrix_times" = true) (k26 : PySem.W.keepIn K (.ref f26) = true)
    (a27 : PySem.W.nsIn K mainGlobals "_law_matrix_power" = some (some (.ref f27))) (l27 : K.lookup f27 = some ⟨oc27, od27, .func (PySem.W.fnOf "_law_matrix_power" "_law_matrix_power" (defArgs s_law_matrix_power) (defBody s_law_matrix_power) (defScope s_law_matrix_power) .none kV27 dc27 pm27 an27 cd27 ct27), sl27⟩) (c27 : PySem.W.codeIn K cd27 "_law_matrix_power" = true) (k27 : PySem.W.keepIn K (.ref f27) = true)
    (a28 : PySem.W.nsIn K mainGlobals "_law_divisors" = some (some (.ref f28))) (l28 : K.lookup f28 = some ⟨oc28, od28, .func (PySem.W.fnOf "_law_divisors" "_law_divisors" (defArgs s_law_divisors) (defBody s_law_divisors) (defScope s_law_divisors) .none kV28 dc28 pm28 an28 cd28 ct28), sl28⟩) (c28 : PySem.W.codeIn K cd28 "_law_divisors" = true) (k28 : PySem.W.keepIn K (.ref f28) = true)
    (a29 : PySem.W.nsIn K mainGlobals "_led" = some (some (.ref f29))) (l29 : K.lookup f29 = some ⟨oc29, od29, .func (PySem.W.fnOf "_led" "_led" (defArgs s_led) (defBody s_led) (defScope s_led) .none kV29 dc29 pm29 an29 cd29 ct29), sl29⟩) (c29 : PySem.W.codeIn K cd29 "_led" = true) (k29 : PySem.W.keepIn K (.ref f29) = true)
    (a30 : PySem.W.nsIn K mainGlobals "led_fraction" = some (some (.ref f30))) (l30 : K.lookup f30 = some ⟨oc30, od30, .func (PySem.W.fnOf "led_fraction" "led_fraction" (defArgs sled_fraction) (defBody sled_fraction) (defScope sled_fraction) .none kV30 dc30 pm30 an30 cd30 ct30), sl30⟩) (c30 : PySem.W.codeIn K cd30 "led_fraction" = true) (k30 : PySem.W.keepIn K (.ref f30) = true)
    (a31 : PySem.W.nsIn K mainGlobals "_law_fraction_drawn" = some (some (.ref f31))) (l31 : K.lookup f31 = some ⟨oc31, od31, .func (PySem.W.fnOf "_law_fraction_drawn" "_law_fraction_drawn" (defArgs s_law_fraction_drawn) (defBody s_law_fraction_drawn) (defScope s_law_fraction_drawn) .none kV31 dc31 pm31 an31 cd31 ct31), sl31⟩) (c31 : PySem.W.codeIn K cd31 "_law_fraction_drawn" = true) (k31 : PySem.W.keepIn K (.ref f31) = true)
    (a32 : PySem.W.nsIn K mainGlobals "_law_keeper_right" = some (some (.ref f32))) (l32 : K.lookup f32 = some ⟨oc32, od32, .func (PySem.W.fnOf "_law_keeper_right" "_law_keeper_right" (defArgs s_law_keeper_right) (defBody s_law_keeper_right) (defScope s_law_keeper_right) .none kV32 dc32 pm32 an32 cd32 ct32), sl32⟩) (c32 : PySem.W.codeIn K cd32 "_law_keeper_right" = true) (k32 : PySem.W.keepIn K (.ref f32) = true)
    (a33 : PySem.W.nsIn K mainGlobals "_law_products_right" = some (some (.ref f33))) (l33 : K.lookup f33 = some ⟨oc33, od33, .func (PySem.W.fnOf "_law_products_right" "_law_products_right" (defArgs s_law_products_right) (defBody s_law_products_right) (defScope s_law_products_right) .none kV33 dc33 pm33 an33 cd33 ct33), sl33⟩) (c33 : PySem.W.codeIn K cd33 "_law_products_right" = true) (k33 : PySem.W.keepIn K (.ref f33) = true)
    (a34 : PySem.W.nsIn K mainGlobals "_law_dice" = some (some (.ref f34))) (l34 : K.lookup f34 = some ⟨oc34, od34, .func (PySem.W.fnOf "_law_dice" "_law_dice" (defArgs s_law_dice) (defBody s_law_dice) (defScope s_law_dice) .none kV34 dc34 pm34 an34 cd34 ct34), sl34⟩) (c34 : PySem.W.codeIn K cd34 "_law_dice" = true) (k34 : PySem.W.keepIn K (.ref f34) = true)
    (a35 : PySem.W.nsIn K mainGlobals "law" = some (some (.ref f35))) (l35 : K.lookup f35 = some ⟨oc35, od35, .func (PySem.W.fnOf "law" "law" (defArgs slaw) (defBody slaw) (defScope slaw) .none kV35 dc35 pm35 an35 cd35 ct35), sl35⟩) (c35 : PySem.W.codeIn K cd35 "law" = true) (k35 : PySem.W.keepIn K (.ref f35) = true)
    (zisinstance : PySem.W.nsIn K mainGlobals "isinstance" = some none)
    (zbool : PySem.W.nsIn K mainGlobals "bool" = some none)
    (zint : PySem.W.nsIn K mainGlobals "int" = some none)
    (zall : PySem.W.nsIn K mainGlobals "all" = some none)
    (zlen : PySem.W.nsIn K mainGlobals "len" = some none)
    (ztuple : PySem.W.nsIn K mainGlobals "tuple" = some none)
    (zabs : PySem.W.nsIn K mainGlobals "abs" = some none)
    (zrange : PySem.W.nsIn K mainGlobals "range" = some none)
    (zzip : PySem.W.nsIn K mainGlobals "zip" = some none)
    (zrepr : PySem.W.nsIn K mainGlobals "repr" = some none)
    (zmax : PySem.W.nsIn K mainGlobals "max" = some none)
    (zmin : PySem.W.nsIn K mainGlobals "min" = some none)
    (zgcd : PySem.W.nsIn K mainGlobals "gcd" = some (some (.builtin "math.gcd")))
    (g_TOO_LONG : PySem.W.nsIn K mainGlobals "_TOO_LONG" = some (some (.int 1000000000000000000000000000000000000000000000000000000000000 t_TOO_LONG)))
    (gMAX_LEVEL : PySem.W.nsIn K mainGlobals "MAX_LEVEL" = some (some (.int 100 tMAX_LEVEL)))
    (gMAX_PART : PySem.W.nsIn K mainGlobals "MAX_PART" = some (some (.int 100000000000000000000 tMAX_PART))) :
    ∃ fd : FuncData, (∀ (s : Shared) (v : Value), BindsTo s fd ⟨[v], []⟩ [("_law_script", v)]) ∧ ∀ base : Heap, K.In base → base.Ns mainGlobals mg → FnOk l.prog w K mg base CX0 6 fa fd ["_law_script"] (spLaw K) := by
  have e := hfa.symm.trans (PySem.W.mg_of X G a35)
  cases e
  have F0 := fun_mk (st := sis_integer) l0 c0 k0
  have b0 := F0.binds (ps := ["value"]) fun _ _ _ _ _ _ us hl => match us, hl with | [_], _ => rfl
  have F1 := fun_mk (st := scheck_matrix) l1 c1 k1
  have b1 := F1.binds (ps := ["matrix"]) fun _ _ _ _ _ _ us hl => match us, hl with | [_], _ => rfl
  have F2 := fun_mk (st := smatrix_determinant) l2 c2 k2
  have b2 := F2.binds (ps := ["matrix"]) fun _ _ _ _ _ _ us hl => match us, hl with | [_], _ => rfl
  have F3 := fun_mk (st := smatrix_back) l3 c3 k3
  have b3 := F3.binds (ps := ["one"]) fun _ _ _ _ _ _ us hl => match us, hl with | [_], _ => rfl
  have F4 := fun_mk (st := sproduct_matrix) l4 c4 k4
  have b4 := F4.binds (ps := ["one", "other"]) fun _ _ _ _ _ _ us hl => match us, hl with | [_, _], _ => rfl
  have F5 := fun_mk (st := smatrix_product) l5 c5 k5
  have b5 := F5.binds (ps := ["one", "other"]) fun _ _ _ _ _ _ us hl => match us, hl with | [_, _], _ => rfl
  have F6 := fun_mk (st := sis_level) l6 c6 k6
  have b6 := F6.binds (ps := ["value"]) fun _ _ _ _ _ _ us hl => match us, hl with | [_], _ => rfl
  have F7 := fun_mk (st := scheck_level) l7 c7 k7
  have b7 := F7.binds (ps := ["level"]) fun _ _ _ _ _ _ us hl => match us, hl with | [_], _ => rfl
  have F8 := fun_mk (st := sis_whole) l8 c8 k8
  have b8 := F8.binds (ps := ["value"]) fun _ _ _ _ _ _ us hl => match us, hl with | [_], _ => rfl
  have F9 := fun_mk (st := sis_fraction) l9 c9 k9
  have b9 := F9.binds (ps := ["value"]) fun _ _ _ _ _ _ us hl => match us, hl with | [_], _ => rfl
  have F10 := fun_mk (st := scheck_fraction) l10 c10 k10
  have b10 := F10.binds (ps := ["fraction"]) fun _ _ _ _ _ _ us hl => match us, hl with | [_], _ => rfl
  have F11 := fun_mk (st := s_width) l11 c11 k11
  have b11 := F11.binds (ps := ["level", "fraction"]) fun _ _ _ _ _ _ us hl => match us, hl with | [_, _], _ => rfl
  have F12 := fun_mk (st := skeeper_of) l12 c12 k12
  have b12 := F12.binds (ps := ["level", "fraction"]) fun _ _ _ _ _ _ us hl => match us, hl with | [_, _], _ => rfl
  have F13 := fun_mk (st := sis_matrix) l13 c13 k13
  have b13 := F13.binds (ps := ["value"]) fun _ _ _ _ _ _ us hl => match us, hl with | [_], _ => rfl
  have F14 := fun_mk (st := sis_member) l14 c14 k14
  have b14 := F14.binds (ps := ["level", "value"]) fun _ _ _ _ _ _ us hl => match us, hl with | [_, _], _ => rfl
  have F15 := fun_mk (st := s_law_roll) l15 c15 k15
  have b15 := F15.binds (ps := ["_law_dice_here", "_law_total"]) fun _ _ _ _ _ _ us hl => match us, hl with | [_, _], _ => rfl
  have F16 := fun_mk (st := s_law_pick) l16 c16 k16
  have b16 := F16.binds (ps := ["_law_dice_here", "_law_items"]) fun _ _ _ _ _ _ us hl => match us, hl with | [_, _], _ => rfl
  have F17 := fun_mk (st := s_law_level_drawn) l17 c17 k17
  have b17 := F17.binds (ps := ["_law_dice_here", "_law_most"]) fun _ _ _ _ _ _ us hl => match us, hl with | [_, _], _ => rfl
  have F18 := fun_mk (st := s_law_is_group) l18 c18 k18
  have b18 := F18.binds (ps := ["_law_level", "_law_value"]) fun _ _ _ _ _ _ us hl => match us, hl with | [_, _], _ => rfl
  have F19 := fun_mk (st := s_law_gcd) l19 c19 k19
  have b19 := F19.binds (ps := ["_law_one", "_law_other"]) fun _ _ _ _ _ _ us hl => match us, hl with | [_, _], _ => rfl
  have F20 := fun_mk (st := s_law_bezout) l20 c20 k20
  have b20 := F20.binds (ps := ["_law_one", "_law_other"]) fun _ _ _ _ _ _ us hl => match us, hl with | [_, _], _ => rfl
  have F21 := fun_mk (st := s_law_matrix_drawn) l21 c21 k21
  have b21 := F21.binds (ps := ["_law_dice_here", "_law_level", "_law_most"]) fun _ _ _ _ _ _ us hl => match us, hl with | [_, _, _], _ => rfl
  have F22 := fun_mk (st := s_law_judged_right) l22 c22 k22
  have b22 := F22.binds (ps := ["_law_dice_here", "_law_level"]) fun _ _ _ _ _ _ us hl => match us, hl with | [_, _], _ => rfl
  have F23 := fun_mk (st := s_law_width) l23 c23 k23
  have b23 := F23.binds (ps := ["_law_level", "_law_fraction"]) fun _ _ _ _ _ _ us hl => match us, hl with | [_, _], _ => rfl
  have F24 := fun_mk (st := s_law_lowest) l24 c24 k24
  have b24 := F24.binds (ps := ["_law_top", "_law_bottom"]) fun _ _ _ _ _ _ us hl => match us, hl with | [_, _], _ => rfl
  have F25 := fun_mk (st := s_law_matrix_led) l25 c25 k25
  have b25 := F25.binds (ps := ["_law_matrix", "_law_fraction"]) fun _ _ _ _ _ _ us hl => match us, hl with | [_, _], _ => rfl
  have F26 := fun_mk (st := s_law_matrix_times) l26 c26 k26
  have b26 := F26.binds (ps := ["_law_one", "_law_other"]) fun _ _ _ _ _ _ us hl => match us, hl with | [_, _], _ => rfl
  have F27 := fun_mk (st := s_law_matrix_power) l27 c27 k27
  have b27 := F27.binds (ps := ["_law_matrix", "_law_many"]) fun _ _ _ _ _ _ us hl => match us, hl with | [_, _], _ => rfl
  have F28 := fun_mk (st := s_law_divisors) l28 c28 k28
  have b28 := F28.binds (ps := ["_law_number"]) fun _ _ _ _ _ _ us hl => match us, hl with | [_], _ => rfl
  have F29 := fun_mk (st := s_led) l29 c29 k29
  have b29 := F29.binds (ps := ["matrix", "fraction"]) fun _ _ _ _ _ _ us hl => match us, hl with | [_, _], _ => rfl
  have F30 := fun_mk (st := sled_fraction) l30 c30 k30
  have b30 := F30.binds (ps := ["matrix", "fraction"]) fun _ _ _ _ _ _ us hl => match us, hl with | [_, _], _ => rfl
  have F31 := fun_mk (st := s_law_fraction_drawn) l31 c31 k31
  have b31 := F31.binds (ps := ["_law_dice_here", "_law_most"]) fun _ _ _ _ _ _ us hl => match us, hl with | [_, _], _ => rfl
  have F32 := fun_mk (st := s_law_keeper_right) l32 c32 k32
  have b32 := F32.binds (ps := ["_law_dice_here", "_law_level"]) fun _ _ _ _ _ _ us hl => match us, hl with | [_, _], _ => rfl
  have F33 := fun_mk (st := s_law_products_right) l33 c33 k33
  have b33 := F33.binds (ps := ["_law_dice_here", "_law_level"]) fun _ _ _ _ _ _ us hl => match us, hl with | [_, _], _ => rfl
  have F34 := fun_mk (st := s_law_dice) l34 c34 k34
  have b34 := F34.binds (ps := ["_law_script", "_law_spot"]) fun _ _ _ _ _ _ us hl => match us, hl with | [_, _], _ => rfl
  have F35 := fun_mk (st := slaw) l35 c35 k35
  refine ⟨PySem.W.fnOf "law" "law" (defArgs slaw) (defBody slaw) (defScope slaw) .none kV35 dc35 pm35 an35 cd35 ct35, fun s v => .of_eq rfl, fun base _ _ => ?_⟩
  have M0 : ∀ κ, Md l.prog w K mg base (phis_integer κ) Cis_integer 0 := fun κ => ⟨(al1 (PySem.W.mg_none_of X G zisinstance) (al1 (PySem.W.mg_none_of X G zbool) (al1 (PySem.W.mg_none_of X G zint) al0))), (fun z => nomatch z), (ag1 ⟨_, PySem.W.mg_of X G g_TOO_LONG⟩ ag0), ix0, ix0, ix0⟩
  have n0 : Fn l.prog w K mg base "is_integer" 1 (spR K mg (lf Ris_integer)) := ⟨⟨_, _, _, okis_integer F0 M0, PySem.W.mg_of X G a0, k0, b0⟩⟩
  have M1 : ∀ κ, Md l.prog w K mg base (phcheck_matrix κ) Ccheck_matrix 1 := fun κ => ⟨(al1 (PySem.W.mg_none_of X G zall) (al1 (PySem.W.mg_none_of X G zlen) (al1 (PySem.W.mg_none_of X G zisinstance) (al1 (PySem.W.mg_none_of X G ztuple) al0)))), (fun z => nomatch z), ag0, (ix1 ⟨_, by decide, n0⟩ ix0), ix0, ix0⟩
  have n1 : Fn l.prog w K mg base "check_matrix" 2 (spR K mg (lf Rcheck_matrix)) := ⟨⟨_, _, _, okcheck_matrix F1 M1, PySem.W.mg_of X G a1, k1, b1⟩⟩
  have M2 : ∀ κ, Md l.prog w K mg base (phmatrix_determinant κ) Cmatrix_determinant 0 := fun κ => ⟨al0, (fun z => nomatch z), ag0, ix0, ix0, ix0⟩
  have n2 : Fn l.prog w K mg base "matrix_determinant" 1 (spR K mg (lf Rmatrix_determinant)) := ⟨⟨_, _, _, okmatrix_determinant F2 M2, PySem.W.mg_of X G a2, k2, b2⟩⟩
  have M3 : ∀ κ, Md l.prog w K mg base (phmatrix_back κ) Cmatrix_back 2 := fun κ => ⟨al0, (fun z => nomatch z), ag0, (ix1 ⟨_, by decide, n1⟩ (ix1 ⟨_, by decide, n2⟩ ix0)), ix0, ix0⟩
  have n3 : Fn l.prog w K mg base "matrix_back" 3 (spR K mg (lf Rmatrix_back)) := ⟨⟨_, _, _, okmatrix_back F3 M3, PySem.W.mg_of X G a3, k3, b3⟩⟩
  have M4 : ∀ κ, Md l.prog w K mg base (phproduct_matrix κ) Cproduct_matrix 0 := fun κ => ⟨al0, (fun z => nomatch z), ag0, ix0, ix0, ix0⟩
  have n4 : Fn l.prog w K mg base "product_matrix" 1 (spR K mg (lf Rproduct_matrix)) := ⟨⟨_, _, _, okproduct_matrix F4 M4, PySem.W.mg_of X G a4, k4, b4⟩⟩
  have M5 : ∀ κ, Md l.prog w K mg base (phmatrix_product κ) Cmatrix_product 2 := fun κ => ⟨al0, (fun z => nomatch z), ag0, (ix1 ⟨_, by decide, n1⟩ (ix1 ⟨_, by decide, n4⟩ ix0)), ix0, ix0⟩
  have n5 : Fn l.prog w K mg base "matrix_product" 3 (spR K mg (lf Rmatrix_product)) := ⟨⟨_, _, _, okmatrix_product F5 M5, PySem.W.mg_of X G a5, k5, b5⟩⟩
  have M6 : ∀ κ, Md l.prog w K mg base (phis_level κ) Cis_level 1 := fun κ => ⟨al0, (fun z => nomatch z), (ag1 ⟨_, PySem.W.mg_of X G gMAX_LEVEL⟩ ag0), (ix1 ⟨_, by decide, n0⟩ ix0), ix0, ix0⟩
  have n6 : Fn l.prog w K mg base "is_level" 2 (spR K mg (lf Ris_level)) := ⟨⟨_, _, _, okis_level F6 M6, PySem.W.mg_of X G a6, k6, b6⟩⟩
  have M7 : ∀ κ, Md l.prog w K mg base (phcheck_level κ) Ccheck_level 2 := fun κ => ⟨al0, (fun z => nomatch z), ag0, (ix1 ⟨_, by decide, n6⟩ ix0), ix0, ix0⟩
  have n7 : Fn l.prog w K mg base "check_level" 3 (spR K mg (lf Rcheck_level)) := ⟨⟨_, _, _, okcheck_level F7 M7, PySem.W.mg_of X G a7, k7, b7⟩⟩
  have M8 : ∀ κ, Md l.prog w K mg base (phis_whole κ) Cis_whole 0 := fun κ => ⟨(al1 (PySem.W.mg_none_of X G zisinstance) (al1 (PySem.W.mg_none_of X G zbool) (al1 (PySem.W.mg_none_of X G zint) al0))), (fun z => nomatch z), ag0, ix0, ix0, ix0⟩
  have n8 : Fn l.prog w K mg base "is_whole" 1 (spR K mg (lf Ris_whole)) := ⟨⟨_, _, _, okis_whole F8 M8, PySem.W.mg_of X G a8, k8, b8⟩⟩
  have M9 : ∀ κ, Md l.prog w K mg base (phis_fraction κ) Cis_fraction 1 := fun κ => ⟨(al1 (PySem.W.mg_none_of X G zall) (al1 (PySem.W.mg_none_of X G zlen) (al1 (PySem.W.mg_none_of X G zisinstance) (al1 (PySem.W.mg_none_of X G ztuple) al0)))), (fun _ => PySem.W.mg_of X G zgcd), (ag1 ⟨_, PySem.W.mg_of X G gMAX_PART⟩ ag0), (ix1 ⟨_, by decide, n8⟩ ix0), ix0, ix0⟩
  have n9 : Fn l.prog w K mg base "is_fraction" 2 (spR K mg (lf Ris_fraction)) := ⟨⟨_, _, _, okis_fraction F9 M9, PySem.W.mg_of X G a9, k9, b9⟩⟩
  have M10 : ∀ κ, Md l.prog w K mg base (phcheck_fraction κ) Ccheck_fraction 2 := fun κ => ⟨al0, (fun z => nomatch z), ag0, (ix1 ⟨_, by decide, n9⟩ ix0), ix0, ix0⟩
  have n10 : Fn l.prog w K mg base "check_fraction" 3 (spR K mg (lf Rcheck_fraction)) := ⟨⟨_, _, _, okcheck_fraction F10 M10, PySem.W.mg_of X G a10, k10, b10⟩⟩
  have M11 : ∀ κ, Md l.prog w K mg base (ph_width κ) C_width 0 := fun κ => ⟨al0, (fun _ => PySem.W.mg_of X G zgcd), ag0, ix0, ix0, ix0⟩
  have n11 : Fn l.prog w K mg base "_width" 1 (spR K mg (lf R_width)) := ⟨⟨_, _, _, ok_width F11 M11, PySem.W.mg_of X G a11, k11, b11⟩⟩
  have M12 : ∀ κ, Md l.prog w K mg base (phkeeper_of κ) Ckeeper_of 3 := fun κ => ⟨al0, (fun z => nomatch z), ag0, (ix1 ⟨_, by decide, n7⟩ (ix1 ⟨_, by decide, n10⟩ (ix1 ⟨_, by decide, n11⟩ ix0))), ix0, ix0⟩
  have n12 : Fn l.prog w K mg base "keeper_of" 4 (spR K mg (lf Rkeeper_of)) := ⟨⟨_, _, _, okkeeper_of F12 M12, PySem.W.mg_of X G a12, k12, b12⟩⟩
  have M13 : ∀ κ, Md l.prog w K mg base (phis_matrix κ) Cis_matrix 1 := fun κ => ⟨(al1 (PySem.W.mg_none_of X G zall) (al1 (PySem.W.mg_none_of X G zlen) (al1 (PySem.W.mg_none_of X G zisinstance) (al1 (PySem.W.mg_none_of X G ztuple) al0)))), (fun z => nomatch z), ag0, (ix1 ⟨_, by decide, n8⟩ ix0), ix0, ix0⟩
  have n13 : Fn l.prog w K mg base "is_matrix" 2 (spR K mg (lf Ris_matrix)) := ⟨⟨_, _, _, okis_matrix F13 M13, PySem.W.mg_of X G a13, k13, b13⟩⟩
  have M14 : ∀ κ, Md l.prog w K mg base (phis_member κ) Cis_member 3 := fun κ => ⟨al0, (fun z => nomatch z), ag0, (ix1 ⟨_, by decide, n7⟩ (ix1 ⟨_, by decide, n2⟩ (ix1 ⟨_, by decide, n13⟩ ix0))), ix0, ix0⟩
  have n14 : Fn l.prog w K mg base "is_member" 4 (spR K mg (lf Ris_member)) := ⟨⟨_, _, _, okis_member F14 M14, PySem.W.mg_of X G a14, k14, b14⟩⟩
  have M15 : ∀ κ, Md l.prog w K mg base (ph_law_roll κ) C_law_roll 0 := fun κ => ⟨(al1 (PySem.W.mg_none_of X G zint) al0), (fun z => nomatch z), ag0, ix0, ix0, ix0⟩
  have n15 : Fn l.prog w K mg base "_law_roll" 1 (spO K mg (lfO R_law_roll)) := ⟨⟨_, _, _, ok_law_roll F15 M15, PySem.W.mg_of X G a15, k15, b15⟩⟩
  have M16 : ∀ κ, Md l.prog w K mg base (ph_law_pick κ) C_law_pick 1 := fun κ => ⟨(al1 (PySem.W.mg_none_of X G zlen) al0), (fun z => nomatch z), ag0, ix0, (ix1 ⟨_, by decide, n15⟩ ix0), ix0⟩
  have n16 : Fn l.prog w K mg base "_law_pick" 2 (spO K mg (lfO R_law_pick)) := ⟨⟨_, _, _, ok_law_pick F16 M16, PySem.W.mg_of X G a16, k16, b16⟩⟩
  have M17 : ∀ κ, Md l.prog w K mg base (ph_law_level_drawn κ) C_law_level_drawn 2 := fun κ => ⟨al0, (fun z => nomatch z), ag0, ix0, (ix1 ⟨_, by decide, n15⟩ (ix1 ⟨_, by decide, n16⟩ ix0)), ix0⟩
  have n17 : Fn l.prog w K mg base "_law_level_drawn" 3 (spO K mg (lfO R_law_level_drawn)) := ⟨⟨_, _, _, ok_law_level_drawn F17 M17, PySem.W.mg_of X G a17, k17, b17⟩⟩
  have M18 : ∀ κ, Md l.prog w K mg base (ph_law_is_group κ) C_law_is_group 0 := fun κ => ⟨(al1 (PySem.W.mg_none_of X G zlen) (al1 (PySem.W.mg_none_of X G zisinstance) (al1 (PySem.W.mg_none_of X G ztuple) (al1 (PySem.W.mg_none_of X G zbool) (al1 (PySem.W.mg_none_of X G zint) al0))))), (fun z => nomatch z), ag0, ix0, ix0, ix0⟩
  have n18 : Fn l.prog w K mg base "_law_is_group" 1 (spR K mg (lf R_law_is_group)) := ⟨⟨_, _, _, ok_law_is_group F18 M18, PySem.W.mg_of X G a18, k18, b18⟩⟩
  have M19 : ∀ κ, Md l.prog w K mg base (ph_law_gcd κ) C_law_gcd 0 := fun κ => ⟨(al1 (PySem.W.mg_none_of X G zabs) (al1 (PySem.W.mg_none_of X G zint) al0)), (fun z => nomatch z), ag0, ix0, ix0, ix0⟩
  have n19 : Fn l.prog w K mg base "_law_gcd" 1 (spR K mg (lf R_law_gcd)) := ⟨⟨_, _, _, ok_law_gcd F19 M19, PySem.W.mg_of X G a19, k19, b19⟩⟩
  have M20 : ∀ κ, Md l.prog w K mg base (ph_law_bezout κ) C_law_bezout 0 := fun κ => ⟨(al1 (PySem.W.mg_none_of X G zrange) (al1 (PySem.W.mg_none_of X G ztuple) (al1 (PySem.W.mg_none_of X G zzip) al0))), (fun z => nomatch z), ag0, ix0, ix0, ix0⟩
  have n20 : Fn l.prog w K mg base "_law_bezout" 1 (spR K mg (lf R_law_bezout)) := ⟨⟨_, _, _, ok_law_bezout F20 M20, PySem.W.mg_of X G a20, k20, b20⟩⟩
  have M21 : ∀ κ, Md l.prog w K mg base (ph_law_matrix_drawn κ) C_law_matrix_drawn 2 := fun κ => ⟨(al1 (PySem.W.mg_none_of X G zrange) al0), (fun z => nomatch z), ag0, (ix1 ⟨_, by decide, n19⟩ (ix1 ⟨_, by decide, n20⟩ ix0)), (ix1 ⟨_, by decide, n15⟩ (ix1 ⟨_, by decide, n16⟩ ix0)), ix0⟩
  have n21 : Fn l.prog w K mg base "_law_matrix_drawn" 3 (spO K mg (lfO R_law_matrix_drawn)) := ⟨⟨_, _, _, ok_law_matrix_drawn F21 M21, PySem.W.mg_of X G a21, k21, b21⟩⟩
  have M22 : ∀ κ, Md l.prog w K mg base (ph_law_judged_right κ) C_law_judged_right 4 := fun κ => ⟨(al1 (PySem.W.mg_none_of X G zrepr) al0), (fun z => nomatch z), ag0, (ix1 ⟨_, by decide, n14⟩ (ix1 ⟨_, by decide, n18⟩ (ix1 ⟨_, by decide, n13⟩ ix0))), (ix1 ⟨_, by decide, n21⟩ ix0), ix0⟩
  have n22 : Fn l.prog w K mg base "_law_judged_right" 5 (spO K mg (lfO R_law_judged_right)) := ⟨⟨_, _, _, ok_law_judged_right F22 M22, PySem.W.mg_of X G a22, k22, b22⟩⟩
  have M23 : ∀ κ, Md l.prog w K mg base (ph_law_width κ) C_law_width 1 := fun κ => ⟨al0, (fun z => nomatch z), ag0, (ix1 ⟨_, by decide, n19⟩ ix0), ix0, ix0⟩
  have n23 : Fn l.prog w K mg base "_law_width" 2 (spR K mg (lf R_law_width)) := ⟨⟨_, _, _, ok_law_width F23 M23, PySem.W.mg_of X G a23, k23, b23⟩⟩
  have M24 : ∀ κ, Md l.prog w K mg base (ph_law_lowest κ) C_law_lowest 1 := fun κ => ⟨al0, (fun z => nomatch z), ag0, (ix1 ⟨_, by decide, n19⟩ ix0), ix0, ix0⟩
  have n24 : Fn l.prog w K mg base "_law_lowest" 2 (spR K mg (lf R_law_lowest)) := ⟨⟨_, _, _, ok_law_lowest F24 M24, PySem.W.mg_of X G a24, k24, b24⟩⟩
  have M25 : ∀ κ, Md l.prog w K mg base (ph_law_matrix_led κ) C_law_matrix_led 2 := fun κ => ⟨al0, (fun z => nomatch z), ag0, (ix1 ⟨_, by decide, n24⟩ ix0), ix0, ix0⟩
  have n25 : Fn l.prog w K mg base "_law_matrix_led" 3 (spR K mg (lf R_law_matrix_led)) := ⟨⟨_, _, _, ok_law_matrix_led F25 M25, PySem.W.mg_of X G a25, k25, b25⟩⟩
  have M26 : ∀ κ, Md l.prog w K mg base (ph_law_matrix_times κ) C_law_matrix_times 0 := fun κ => ⟨al0, (fun z => nomatch z), ag0, ix0, ix0, ix0⟩
  have n26 : Fn l.prog w K mg base "_law_matrix_times" 1 (spR K mg (lf R_law_matrix_times)) := ⟨⟨_, _, _, ok_law_matrix_times F26 M26, PySem.W.mg_of X G a26, k26, b26⟩⟩
  have M27 : ∀ κ, Md l.prog w K mg base (ph_law_matrix_power κ) C_law_matrix_power 1 := fun κ => ⟨(al1 (PySem.W.mg_none_of X G zrange) (al1 (PySem.W.mg_none_of X G zabs) al0)), (fun z => nomatch z), ag0, (ix1 ⟨_, by decide, n26⟩ ix0), ix0, ix0⟩
  have n27 : Fn l.prog w K mg base "_law_matrix_power" 2 (spR K mg (lf R_law_matrix_power)) := ⟨⟨_, _, _, ok_law_matrix_power F27 M27, PySem.W.mg_of X G a27, k27, b27⟩⟩
  have M28 : ∀ κ, Md l.prog w K mg base (ph_law_divisors κ) C_law_divisors 0 := fun κ => ⟨(al1 (PySem.W.mg_none_of X G zrange) al0), (fun z => nomatch z), ag0, ix0, ix0, ix0⟩
  have n28 : Fn l.prog w K mg base "_law_divisors" 1 (spR K mg (lf R_law_divisors)) := ⟨⟨_, _, _, ok_law_divisors F28 M28, PySem.W.mg_of X G a28, k28, b28⟩⟩
  have M29 : ∀ κ, Md l.prog w K mg base (ph_led κ) C_led 0 := fun κ => ⟨al0, (fun _ => PySem.W.mg_of X G zgcd), ag0, ix0, ix0, ix0⟩
  have n29 : Fn l.prog w K mg base "_led" 1 (spR K mg (lf R_led)) := ⟨⟨_, _, _, ok_led F29 M29, PySem.W.mg_of X G a29, k29, b29⟩⟩
  have M30 : ∀ κ, Md l.prog w K mg base (phled_fraction κ) Cled_fraction 3 := fun κ => ⟨al0, (fun z => nomatch z), ag0, (ix1 ⟨_, by decide, n1⟩ (ix1 ⟨_, by decide, n2⟩ (ix1 ⟨_, by decide, n10⟩ (ix1 ⟨_, by decide, n29⟩ ix0)))), ix0, ix0⟩
  have n30 : Fn l.prog w K mg base "led_fraction" 4 (spR K mg (lf Rled_fraction)) := ⟨⟨_, _, _, okled_fraction F30 M30, PySem.W.mg_of X G a30, k30, b30⟩⟩
  have M31 : ∀ κ, Md l.prog w K mg base (ph_law_fraction_drawn κ) C_law_fraction_drawn 2 := fun κ => ⟨al0, (fun z => nomatch z), ag0, (ix1 ⟨_, by decide, n24⟩ ix0), (ix1 ⟨_, by decide, n15⟩ ix0), ix0⟩
  have n31 : Fn l.prog w K mg base "_law_fraction_drawn" 3 (spO K mg (lfO R_law_fraction_drawn)) := ⟨⟨_, _, _, ok_law_fraction_drawn F31 M31, PySem.W.mg_of X G a31, k31, b31⟩⟩
  have M32 : ∀ κ, Md l.prog w K mg base (ph_law_keeper_right κ) C_law_keeper_right 4 := fun κ => ⟨al0, (fun z => nomatch z), ag0, (ix1 ⟨_, by decide, n23⟩ (ix1 ⟨_, by decide, n12⟩ (ix1 ⟨_, by decide, n18⟩ (ix1 ⟨_, by decide, n25⟩ (ix1 ⟨_, by decide, n27⟩ (ix1 ⟨_, by decide, n28⟩ (ix1 ⟨_, by decide, n14⟩ (ix1 ⟨_, by decide, n30⟩ ix0)))))))), (ix1 ⟨_, by decide, n31⟩ (ix1 ⟨_, by decide, n15⟩ ix0)), ix0⟩
  have n32 : Fn l.prog w K mg base "_law_keeper_right" 5 (spO K mg (lfO R_law_keeper_right)) := ⟨⟨_, _, _, ok_law_keeper_right F32 M32, PySem.W.mg_of X G a32, k32, b32⟩⟩
  have M33 : ∀ κ, Md l.prog w K mg base (ph_law_products_right κ) C_law_products_right 4 := fun κ => ⟨al0, (fun z => nomatch z), ag0, (ix1 ⟨_, by decide, n5⟩ (ix1 ⟨_, by decide, n14⟩ (ix1 ⟨_, by decide, n3⟩ (ix1 ⟨_, by decide, n26⟩ (ix1 ⟨_, by decide, n30⟩ ix0))))), (ix1 ⟨_, by decide, n21⟩ (ix1 ⟨_, by decide, n31⟩ ix0)), ix0⟩
  have n33 : Fn l.prog w K mg base "_law_products_right" 5 (spO K mg (lfO R_law_products_right)) := ⟨⟨_, _, _, ok_law_products_right F33 M33, PySem.W.mg_of X G a33, k33, b33⟩⟩
  have M34 : ∀ κ, Md l.prog w K mg base (ph_law_dice κ) C_law_dice 0 := fun κ => ⟨(al1 (PySem.W.mg_none_of X G zlen) (al1 (PySem.W.mg_none_of X G zint) (al1 (PySem.W.mg_none_of X G zmax) (al1 (PySem.W.mg_none_of X G zabs) al0)))), (fun z => nomatch z), ag0, ix0, ix0, ix0⟩
  have n34 : Fn l.prog w K mg base "_law_dice" 1 (spL K mg (lfL R_law_dice)) := ⟨⟨_, _, _, ok_law_dice F34 M34, PySem.W.mg_of X G a34, k34, b34⟩⟩
  have M35 : ∀ κ, Md l.prog w K mg base (phlaw κ) Claw 5 := fun κ => ⟨(al1 (PySem.W.mg_none_of X G zrange) (al1 (PySem.W.mg_none_of X G zmax) (al1 (PySem.W.mg_none_of X G zmin) (al1 (PySem.W.mg_none_of X G zlen) al0)))), (fun z => nomatch z), ag0, (ix1 ⟨_, by decide, n3⟩ (ix1 ⟨_, by decide, n5⟩ (ix1 ⟨_, by decide, n12⟩ (ix1 ⟨_, by decide, n14⟩ ix0)))), (ix1 ⟨_, by decide, n17⟩ (ix1 ⟨_, by decide, n22⟩ (ix1 ⟨_, by decide, n32⟩ (ix1 ⟨_, by decide, n33⟩ ix0)))), (ix1 ⟨_, by decide, n34⟩ ix0)⟩
  exact law_of (oklaw F35 M35)
theorem walk {l : PySem.W.OpenLaw} {q : Program} {loose : List Str} {XP : (Str → Option Value) → Heap → Prop} {YP : World → Heap → Prop} {d : DefRec} {K : Params → PySem.W.Frag} (hn : l.most = some 63) (hdf : d.params.defaults = [])
    (hY : ∀ (w : World) (h : Heap), YP w h → (K w.params).In h)
    (F : ∀ (w : World) (mg : Str → Option Value) (fa : Addr) (h : Heap), (K w.params).In h → h.Ns mainGlobals mg → mg d.name = some (.ref fa) →
      ∃ fd : FuncData, (∀ (s : Shared) (u : Value), BindsTo s fd ⟨[u], []⟩ [("_law_script", u)]) ∧ ∀ base : Heap, (K w.params).In base → base.Ns mainGlobals mg → FnOk l.prog w (K w.params) mg base CX0 6 fa fd ["_law_script"] (spLaw (K w.params))) :
    PySem.W.WalkO q loose XP YP l.row.toRowW d [] (fun f vs => PySem.call f vs) :=
  L2.walk_of (n := 63) (k := 6) (x := "_law_script") (CX := fun _ => CX0) (sp := fun w => spLaw (K w.params)) hn (by decide) hdf ⟨rfl, by decide, by decide⟩ hY F (fun _ _ a ns hl _ hS => ⟨a, ns, rfl, hS, hl, fun _ => rfl⟩) fun _ _ _ _ _ z => z
end Pf

open PySem PySem.W PyProof.Rows
set_option maxRecDepth 100000 in
set_option maxHeartbeats 0 in
theorem PySem.Challenge.cw_levelroads_k16_whole_groups_and_keepers_holds : PySem.Challenge.rw_levelroads_k16_whole_groups_and_keepers.Holds := by
  w_on; o_law; k_head; (case hw => w_witness2)
  k_fill
  refine Pf.walk (l := PySem.Challenge.rw_levelroads_k16_whole_groups_and_keepers) rfl rfl (fun w h Y => PySem.W.kIn_of Y) ?F
  case F =>
    intro w mg fa h KX G hmg
    refine' Pf.all_mk KX G hmg ?a0 ?l0 ?c0 ?k0 ?a1 ?l1 ?c1 ?k1 ?a2 ?l2 ?c2 ?k2 ?a3 ?l3 ?c3 ?k3 ?a4 ?l4 ?c4 ?k4 ?a5 ?l5 ?c5 ?k5 ?a6 ?l6 ?c6 ?k6 ?a7 ?l7 ?c7 ?k7 ?a8 ?l8 ?c8 ?k8 ?a9 ?l9 ?c9 ?k9 ?a10 ?l10 ?c10 ?k10 ?a11 ?l11 ?c11 ?k11 ?a12 ?l12 ?c12 ?k12 ?a13 ?l13 ?c13 ?k13 ?a14 ?l14 ?c14 ?k14 ?a15 ?l15 ?c15 ?k15 ?a16 ?l16 ?c16 ?k16 ?a17 ?l17 ?c17 ?k17 ?a18 ?l18 ?c18 ?k18 ?a19 ?l19 ?c19 ?k19 ?a20 ?l20 ?c20 ?k20 ?a21 ?l21 ?c21 ?k21 ?a22 ?l22 ?c22 ?k22 ?a23 ?l23 ?c23 ?k23 ?a24 ?l24 ?c24 ?k24 ?a25 ?l25 ?c25 ?k25 ?a26 ?l26 ?c26 ?k26 ?a27 ?l27 ?c27 ?k27 ?a28 ?l28 ?c28 ?k28 ?a29 ?l29 ?c29 ?k29 ?a30 ?l30 ?c30 ?k30 ?a31 ?l31 ?c31 ?k31 ?a32 ?l32 ?c32 ?k32 ?a33 ?l33 ?c33 ?k33 ?a34 ?l34 ?c34 ?k34 ?a35 ?l35 ?c35 ?k35 ?zisinstance ?zbool ?zint ?zall ?zlen ?ztuple ?zabs ?zrange ?zzip ?zrepr ?zmax ?zmin ?zgcd ?g_TOO_LONG ?gMAX_LEVEL ?gMAX_PART
    (case a0 => k_is)
    (case l0 => k_is)
    (case c0 => k_is)
    (case k0 => k_is)
    (case a1 => k_is)
    (case l1 => k_is)
    (case c1 => k_is)
    (case k1 => k_is)
    (case a2 => k_is)
    (case l2 => k_is)
    (case c2 => k_is)
    (case k2 => k_is)
    (case a3 => k_is)
    (case l3 => k_is)
    (case c3 => k_is)
    (case k3 => k_is)
    (case a4 => k_is)
    (case l4 => k_is)
    (case c4 => k_is)
    (case k4 => k_is)
    (case a5 => k_is)
    (case l5 => k_is)
    (case c5 => k_is)
    (case k5 => k_is)
    (case a6 => k_is)
    (case l6 => k_is)
    (case c6 => k_is)
    (case k6 => k_is)
    (case a7 => k_is)
    (case l7 => k_is)
    (case c7 => k_is)
    (case k7 => k_is)
    (case a8 => k_is)
    (case l8 => k_is)
    (case c8 => k_is)
    (case k8 => k_is)
    (case a9 => k_is)
    (case l9 => k_is)
    (case c9 => k_is)
    (case k9 => k_is)
    (case a10 => k_is)
    (case l10 => k_is)
    (case c10 => k_is)
    (case k10 => k_is)
    (case a11 => k_is)
    (case l11 => k_is)
    (case c11 => k_is)
    (case k11 => k_is)
    (case a12 => k_is)
    (case l12 => k_is)
    (case c12 => k_is)
    (case k12 => k_is)
    (case a13 => k_is)
    (case l13 => k_is)
    (case c13 => k_is)
    (case k13 => k_is)
    (case a14 => k_is)
    (case l14 => k_is)
    (case c14 => k_is)
    (case k14 => k_is)
    (case a15 => k_is)
    (case l15 => k_is)
    (case c15 => k_is)
    (case k15 => k_is)
    (case a16 => k_is)
    (case l16 => k_is)
    (case c16 => k_is)
    (case k16 => k_is)
    (case a17 => k_is)
    (case l17 => k_is)
    (case c17 => k_is)
    (case k17 => k_is)
    (case a18 => k_is)
    (case l18 => k_is)
    (case c18 => k_is)
    (case k18 => k_is)
    (case a19 => k_is)
    (case l19 => k_is)
    (case c19 => k_is)
    (case k19 => k_is)
    (case a20 => k_is)
    (case l20 => k_is)
    (case c20 => k_is)
    (case k20 => k_is)
    (case a21 => k_is)
    (case l21 => k_is)
    (case c21 => k_is)
    (case k21 => k_is)
    (case a22 => k_is)
    (case l22 => k_is)
    (case c22 => k_is)
    (case k22 => k_is)
    (case a23 => k_is)
    (case l23 => k_is)
    (case c23 => k_is)
    (case k23 => k_is)
    (case a24 => k_is)
    (case l24 => k_is)
    (case c24 => k_is)
    (case k24 => k_is)
    (case a25 => k_is)
    (case l25 => k_is)
    (case c25 => k_is)
    (case k25 => k_is)
    (case a26 => k_is)
    (case l26 => k_is)
    (case c26 => k_is)
    (case k26 => k_is)
    (case a27 => k_is)
    (case l27 => k_is)
    (case c27 => k_is)
    (case k27 => k_is)
    (case a28 => k_is)
    (case l28 => k_is)
    (case c28 => k_is)
    (case k28 => k_is)
    (case a29 => k_is)
    (case l29 => k_is)
    (case c29 => k_is)
    (case k29 => k_is)
    (case a30 => k_is)
    (case l30 => k_is)
    (case c30 => k_is)
    (case k30 => k_is)
    (case a31 => k_is)
    (case l31 => k_is)
    (case c31 => k_is)
    (case k31 => k_is)
    (case a32 => k_is)
    (case l32 => k_is)
    (case c32 => k_is)
    (case k32 => k_is)
    (case a33 => k_is)
    (case l33 => k_is)
    (case c33 => k_is)
    (case k33 => k_is)
    (case a34 => k_is)
    (case l34 => k_is)
    (case c34 => k_is)
    (case k34 => k_is)
    (case a35 => k_is)
    (case l35 => k_is)
    (case c35 => k_is)
    (case k35 => k_is)
    (case zisinstance => k_is)
    (case zbool => k_is)
    (case zint => k_is)
    (case zall => k_is)
    (case zlen => k_is)
    (case ztuple => k_is)
    (case zabs => k_is)
    (case zrange => k_is)
    (case zzip => k_is)
    (case zrepr => k_is)
    (case zmax => k_is)
    (case zmin => k_is)
    (case zgcd => k_is)
    (case g_TOO_LONG => k_is)
    (case gMAX_LEVEL => k_is)
    (case gMAX_PART => k_is)
