import PyProof.Rows.All
import Wide.All
import OpenK.AllK
import Wide.FinOn
import HandS.ForMost
import HandS.Gcd
import HandS.Wide
import HandS.WideMore
import HandS.WideBits
import HandS.IsInst
import HandS.SortInts
import HandS.Style
import HandS.Flow
import HandS.Conv
import HandS.Zip
import HandS.RaiseMore
import PySem.Challenge.RW_levelroads_k14_whole_classes_by_matrices
set_option Elab.async false
set_option linter.all false
set_option maxRecDepth 100000
set_option maxHeartbeats 4000000
/-! A layer of our own: data in frozen slots, lists that a def owns. -/
namespace Lv
open PySem PySem.Spec PyProof.Rows L2

/-! ### heaps -/
def Ext (H H' : Hp) : Prop := ∀ a o, H a = some o → H' a = some o
theorem Ext.rfl' (H : Hp) : Ext H H := fun _ _ h => h
theorem Ext.tr {H H1 H2 : Hp} (a : Ext H H1) (b : Ext H1 H2) : Ext H H2 := fun x o h => b x o (a x o h)
theorem Ext.none {H H' : Hp} {a : Addr} (e : Ext H H') (h : H' a = none) : H a = none := by
  cases q : H a with
  | none => rfl
  | some o => rw [e a o q] at h; cases h
theorem Ext.sql {K : PySem.W.Frag} {H H' : Hp} {a : Addr} {xs : List V} (e : Ext H H') (h : SqL K H a xs) : SqL K H' a xs := by
  rcases h with (h | ⟨o, h⟩) | h
  · exact .inl (.inl (e _ _ h))
  · exact .inl (.inr ⟨o, e _ _ h⟩)
  · exact .inr h
theorem Ext.sqt {K : PySem.W.Frag} {H H' : Hp} {a : Addr} {xs : List V} (e : Ext H H') (h : SqT K H a xs) : SqT K H' a xs := by
  rcases h with (h | ⟨o, h⟩) | h
  · exact .inl (.inl (e _ _ h))
  · exact .inl (.inr ⟨o, e _ _ h⟩)
  · exact .inr h
/-! ### data -/
inductive Dt where
  | none
  | bool (b : Bool)
  | int (i : Int)
  | str (x : Str)
  | list (l : List Dt)
  | tuple (l : List Dt)
  | dK (ks : List Key) (l : List Dt)
  | dT (ks : List (List Key)) (l : List Dt)
  | obj (C : Addr) (fs : List Str) (l : List Dt)
  | scr (l : List Dt)
mutual
inductive Dq (K : PySem.W.Frag) (H : Hp) : V → Dt → Prop
  | non : Dq K H .non .none
  | bl (b : Bool) : Dq K H (.bl b) (.bool b)
  | int (i : Int) : Dq K H (.int i) (.int i)
  | str (x : Str) : Dq K H (.str x) (.str x)
  | lst {a : Addr} {xs : List V} {ds : List Dt} : H a = some (.lst xs) → DqAll K H xs ds → Dq K H (.ref a) (.list ds)
  | scr {a : Addr} {xs : List V} {ds : List Dt} : SqL K H a xs → DqAll K H xs ds → Dq K H (.ref a) (.scr ds)
  | tup {a : Addr} {xs : List V} {ds : List Dt} : SqT K H a xs → DqAll K H xs ds → Dq K H (.ref a) (.tuple ds)
  | dK {a : Addr} {ks : List Key} {xs : List V} {ds : List Dt} : ks.length = xs.length → H a = some (.dK (ks.zip xs)) → DqAll K H xs ds → Dq K H (.ref a) (.dK ks ds)
  | dT {a : Addr} {ks : List (List Key)} {xs : List V} {ds : List Dt} : ks.length = xs.length → H a = some (.dT (ks.zip xs)) → DqAll K H xs ds → Dq K H (.ref a) (.dT ks ds)
  | obj {a C dx : Addr} {fs : List Str} {xs : List V} {ds : List Dt} : fs.length = xs.length → H a = some (.ins C dx (fs.zip xs)) → DqAll K H xs ds → Dq K H (.ref a) (.obj C fs ds)
inductive DqAll (K : PySem.W.Frag) (H : Hp) : List V → List Dt → Prop
  | nil : DqAll K H [] []
  | cons {v : V} {vs : List V} {d : Dt} {ds : List Dt} : Dq K H v d → DqAll K H vs ds → DqAll K H (v :: vs) (d :: ds)
end
mutual
theorem Ext.dp {K : PySem.W.Frag} {H H' : Hp} (e : Ext H H') : ∀ (d : Dt) (v : V), Dq K H v d → Dq K H' v d
  | .none, _, h => by cases h; exact .non
  | .bool b, _, h => by cases h; exact .bl b
  | .int i, _, h => by cases h; exact .int i
  | .str x, _, h => by cases h; exact .str x
  | .list ds, _, h => by
    cases h with
    | lst hs ha => exact .lst (e _ _ hs) (Ext.dpa e ds _ ha)
  | .tuple ds, _, h => by
    cases h with
    | tup hs ha => exact .tup (e.sqt hs) (Ext.dpa e ds _ ha)
  | .dK _ ds, _, h => by
    cases h with
    | dK hl hs ha => exact .dK hl (e _ _ hs) (Ext.dpa e ds _ ha)
  | .dT _ ds, _, h => by
    cases h with
    | dT hl hs ha => exact .dT hl (e _ _ hs) (Ext.dpa e ds _ ha)
  | .obj _ _ ds, _, h => by
    cases h with
    | obj hl hs ha => exact .obj hl (e _ _ hs) (Ext.dpa e ds _ ha)
  | .scr ds, _, h => by
    cases h with
    | scr hs ha => exact .scr (e.sql hs) (Ext.dpa e ds _ ha)
theorem Ext.dpa {K : PySem.W.Frag} {H H' : Hp} (e : Ext H H') : ∀ (ds : List Dt) (vs : List V), DqAll K H vs ds → DqAll K H' vs ds
  | [], _, h => by cases h; exact .nil
  | d :: ds, _, h => by
    cases h with
    | cons h1 h2 => exact .cons (Ext.dp e d _ h1) (Ext.dpa e ds _ h2)
end
mutual
/-- as the library's data, where == tells it apart -/
def toPy : Dt → PyData
  | .none => .none
  | .bool b => .bool b
  | .int i => .int i
  | .str x => .str x
  | .list l => .list (toPys l)
  | .tuple l => .tuple (toPys l)
  | .dK _ _ => .dict []
  | .dT _ _ => .dict []
  | .obj _ _ _ => .dict []
  | .scr _ => .dict []
def toPys : List Dt → List PyData
  | [] => []
  | d :: r => toPy d :: toPys r
end
mutual
def plain : Dt → Bool
  | .list l => plains l
  | .tuple l => plains l
  | .dK _ _ => false
  | .dT _ _ => false
  | .obj _ _ _ => false
  | .scr _ => false
  | _ => true
def plains : List Dt → Bool
  | [] => true
  | d :: r => plain d && plains r
end
mutual
theorem dq_dp {K : PySem.W.Frag} {H : Hp} : ∀ (d : Dt) (v : V), plain d = true → Dq K H v d → Dp K H v (toPy d)
  | .none, _, _, h => by cases h; exact .non
  | .bool b, _, _, h => by cases h; exact .bl b
  | .int i, _, _, h => by cases h; exact .int i
  | .str x, _, _, h => by cases h; exact .str x
  | .list ds, _, p, h => by
    cases h with
    | lst hs ha => exact .lst (.inl (.inl hs)) (dqa_dpa ds _ p ha)
  | .tuple ds, _, p, h => by
    cases h with
    | tup hs ha => exact .tup hs (dqa_dpa ds _ p ha)
  | .dK _ ds, _, p, h => by cases p
  | .dT _ ds, _, p, h => by cases p
  | .obj _ _ ds, _, p, h => by cases p
  | .scr _, _, p, h => by cases p
theorem dqa_dpa {K : PySem.W.Frag} {H : Hp} : ∀ (ds : List Dt) (vs : List V), plains ds = true → DqAll K H vs ds → DpAll K H vs (toPys ds)
  | [], _, _, h => by cases h; exact .nil
  | d :: ds, _, p, h => by
    have p' : (plain d && plains ds) = true := p
    rw [Bool.and_eq_true] at p'
    cases h with
    | cons h1 h2 => exact .cons (dq_dp d _ p'.1 h1) (dqa_dpa ds _ p'.2 h2)
end
/-- == of data -/
def eqD (d e : Dt) : Bool := PyData.eqv (toPy d) (toPy e)
/-- what == may be asked of -/
def shD (d : Dt) : Prop := plain d = true ∧ SeqAt.shaped (toPy d) = true
section
variable {K : PySem.W.Frag} {H : Hp}
theorem dpa_len : ∀ {vs : List V} {ds : List Dt}, DqAll K H vs ds → vs.length = ds.length
  | _, _, .nil => rfl
  | _, _, .cons _ t => congrArg (· + 1) (dpa_len t)
theorem dpa_get : ∀ {vs : List V} {ds : List Dt} {i : Nat} {d : Dt}, DqAll K H vs ds → ds[i]? = some d → ∃ v, vs[i]? = some v ∧ Dq K H v d
  | _, _, _, _, .nil, h => by simp at h
  | _, _, 0, _, .cons r _, h => by simp at h; subst h; exact ⟨_, rfl, r⟩
  | _, _, i + 1, _, .cons _ t, h => by
    obtain ⟨v, h1, h2⟩ := dpa_get (i := i) t (by simpa using h)
    exact ⟨v, by simpa using h1, h2⟩
theorem dpa_getv : ∀ {vs : List V} {ds : List Dt} {i : Nat} {v : V}, DqAll K H vs ds → vs[i]? = some v → ∃ d, ds[i]? = some d ∧ Dq K H v d
  | _, _, _, _, .nil, h => by simp at h
  | _, _, 0, _, .cons r _, h => by simp at h; subst h; exact ⟨_, rfl, r⟩
  | _, _, i + 1, _, .cons _ t, h => by
    obtain ⟨v, h1, h2⟩ := dpa_getv (i := i) t (by simpa using h)
    exact ⟨v, by simpa using h1, h2⟩
theorem dpa_app : ∀ {vs us : List V} {ds es : List Dt}, DqAll K H vs ds → DqAll K H us es → DqAll K H (vs ++ us) (ds ++ es)
  | _, _, _, _, .nil, s => s
  | _, _, _, _, .cons r t, s => .cons r (dpa_app t s)
theorem dpa_ints : ∀ {vs : List V} {ns : List Int}, DqAll K H vs (ns.map Dt.int) → vs = ns.map V.int
  | _, [], .nil => rfl
  | _, n :: ns, .cons r t => by
    cases r
    rw [dpa_ints t]; rfl
theorem dpa_of_ints : ∀ (ns : List Int), DqAll K H (ns.map V.int) (ns.map Dt.int)
  | [] => .nil
  | n :: ns => .cons (.int n) (dpa_of_ints ns)
theorem dpa_bools : ∀ {vs : List V} {ns : List Bool}, DqAll K H vs (ns.map Dt.bool) → vs = ns.map V.bl
  | _, [], .nil => rfl
  | _, n :: ns, .cons r t => by
    cases r
    rw [dpa_bools t]; rfl
end

/-! ### slots: nothing known, frozen data, a list that the def owns -/
inductive Sl where
  | no
  | fz (d : Dt)
  | ow (b : Bool) (ds : List Dt)
/-- a frame's entry: what was frozen, what was there, which lists were handed over -/
structure Fm where
  B : Hp
  H : Hp
  S : List Addr
structure En (K : PySem.W.Frag) (F : Fm) (B H : Hp) (σ : L2.St) (es : List Sl) : Prop where
  bh : Ext B H
  fb : Ext F.B B
  fh : ∀ a o, F.H a = some o → a ∉ F.S → H a = some o
  fr : ∀ a, F.H a ≠ none → B a = F.B a
  st : ∀ a ∈ F.S, H a ≠ none
  len : σ.length = es.length
  fz : ∀ (i : Nat) (d : Dt), es[i]? = some (.fz d) → ∃ v, σ[i]? = some (some v) ∧ Dq K B v d
  ow : ∃ ad : Nat → Addr, (∀ (i : Nat) (b : Bool) (ds : List Dt), es[i]? = some (.ow b ds) → σ[i]? = some (some (.ref (ad i))) ∧ B (ad i) = none ∧ ((b = true → F.H (ad i) = none) ∧ (b = false → ad i ∈ F.S)) ∧ ∃ xs, H (ad i) = some (.lst xs) ∧ DqAll K B xs ds) ∧
    ∀ (i j : Nat) (b c : Bool) (ds es' : List Dt), es[i]? = some (.ow b ds) → es[j]? = some (.ow c es') → ad i = ad j → i = j
section
variable {K : PySem.W.Frag} {F : Fm} {B H : Hp} {σ : L2.St} {es : List Sl}
theorem En.bnone (I : En K F B H σ es) {p : Addr} (h : H p = none) : B p = none := I.bh.none h
theorem En.fnone (I : En K F B H σ es) {p : Addr} (h : H p = none) : F.H p = none := by
  cases q : F.H p with
  | none => rfl
  | some o =>
    by_cases hp : p ∈ F.S
    · exact absurd h (I.st p hp)
    · rw [I.fh p o q hp] at h; cases h
/-- the heaps grow: what is new is frozen or nobody's -/
theorem En.grow (I : En K F B H σ es) {B' H' : Hp} (eb : Ext B B') (eh : Ext H H') (bh : Ext B' H') (n : ∀ a, H a ≠ none → B' a = B a) : En K F B' H' σ es where
  bh := bh
  fb := I.fb.tr eb
  fh := fun a o h hs => eh a o (I.fh a o h hs)
  fr := fun a h => by
    have : H a ≠ none := fun z => h (I.fnone z)
    rw [n a this, I.fr a h]
  st := fun a h z => I.st a h (eh.none z)
  len := I.len
  fz := fun i d h => by
    obtain ⟨v, h1, h2⟩ := I.fz i d h
    exact ⟨v, h1, eb.dp d v h2⟩
  ow := by
    obtain ⟨ad, h1, h2⟩ := I.ow
    refine ⟨ad, fun i b ds h => ?_, h2⟩
    obtain ⟨a1, a2, a3, xs, a4, a5⟩ := h1 i b ds h
    exact ⟨a1, by rw [n _ (by rw [a4]; simp)]; exact a2, a3, xs, eh _ _ a4, eb.dpa ds xs a5⟩
/-- a new frozen object -/
theorem En.new (I : En K F B H σ es) {p : Addr} {o : HO} (h : H p = none) : En K F (upd B p o) (upd H p o) σ es := by
  have hb := I.bnone h
  refine I.grow (fun a u e => ?_) (fun a u e => ?_) (fun a u e => ?_) (fun a e => ?_)
  · rw [upd_ne (ne_of_none e hb)]; exact e
  · rw [upd_ne (ne_of_none e h)]; exact e
  · by_cases ha : a = p
    · subst ha; rw [upd_same] at e ⊢; exact e
    · rw [upd_ne ha] at e ⊢; exact I.bh a u e
  · rw [upd_ne (fun z => e (by rw [z]; exact h))]
theorem En.newB (I : En K F B H σ es) {p : Addr} {o : HO} (h : H p = none) : Ext B (upd B p o) := fun a u e => by
  rw [upd_ne (ne_of_none e (I.bnone h))]; exact e
/-- a new object that stays nobody's: the ghost does not know it -/
theorem En.newO (I : En K F B H σ es) {p : Addr} {o : HO} (h : H p = none) : En K F B (upd H p o) σ es := by
  refine I.grow (Ext.rfl' B) (fun a u e => ?_) (fun a u e => ?_) (fun a e => rfl)
  · rw [upd_ne (ne_of_none e h)]; exact e
  · rw [upd_ne (ne_of_none (I.bh a u e) h)]; exact I.bh a u e
theorem set_get {α : Type} {l : List α} {i j : Nat} {x y : α} (h : (l.set i x)[j]? = some y) : (i = j ∧ y = x) ∨ (i ≠ j ∧ l[j]? = some y) := by
  by_cases e : i = j
  · subst e
    by_cases hi : i < l.length
    · rw [List.getElem?_set_self hi] at h; exact .inl ⟨rfl, (Option.some.inj h).symm⟩
    · rw [List.getElem?_eq_none (by simpa using hi)] at h; cases h
  · rw [List.getElem?_set_ne e] at h; exact .inr ⟨e, h⟩
/-- a slot takes frozen data -/
theorem En.put (I : En K F B H σ es) {i : Nat} {v : V} {d : Dt} (h : Dq K B v d) : En K F B H (σ.set i (some v)) (es.set i (.fz d)) where
  bh := I.bh
  fb := I.fb
  fh := I.fh
  fr := I.fr
  st := I.st
  len := by rw [List.length_set, List.length_set]; exact I.len
  fz := fun j d' hj => by
    rcases set_get hj with ⟨e, e2⟩ | ⟨e, e2⟩
    · subst e; cases e2
      have hi : i < es.length := by
        have := (List.getElem?_eq_some_iff.mp hj).1
        simpa using this
      exact ⟨v, List.getElem?_set_self (by rw [I.len]; exact hi), h⟩
    · obtain ⟨u, h1, h2⟩ := I.fz j d' e2
      exact ⟨u, by rw [List.getElem?_set_ne e]; exact h1, h2⟩
  ow := by
    obtain ⟨ad, h1, h2⟩ := I.ow
    refine ⟨ad, fun j b ds hj => ?_, fun j k b c ds ds' hj hk => ?_⟩
    · rcases set_get hj with ⟨e, e2⟩ | ⟨e, e2⟩
      · cases e2
      · obtain ⟨a1, a2⟩ := h1 j b ds e2
        exact ⟨by rw [List.getElem?_set_ne e]; exact a1, a2⟩
    · rcases set_get hj with ⟨_, e2⟩ | ⟨_, e2⟩
      · cases e2
      · rcases set_get hk with ⟨_, e3⟩ | ⟨_, e3⟩
        · cases e3
        · exact h2 j k b c ds ds' e2 e3
/-- a slot is forgotten -/
theorem En.drop (I : En K F B H σ es) {i : Nat} {x : Option V} : En K F B H (σ.set i x) (es.set i .no) where
  bh := I.bh
  fb := I.fb
  fh := I.fh
  fr := I.fr
  st := I.st
  len := by rw [List.length_set, List.length_set]; exact I.len
  fz := fun j d' hj => by
    rcases set_get hj with ⟨e, e2⟩ | ⟨e, e2⟩
    · cases e2
    · obtain ⟨u, h1, h2⟩ := I.fz j d' e2
      exact ⟨u, by rw [List.getElem?_set_ne e]; exact h1, h2⟩
  ow := by
    obtain ⟨ad, h1, h2⟩ := I.ow
    refine ⟨ad, fun j b ds hj => ?_, fun j k b c ds ds' hj hk => ?_⟩
    · rcases set_get hj with ⟨e, e2⟩ | ⟨e, e2⟩
      · cases e2
      · obtain ⟨a1, a2⟩ := h1 j b ds e2
        exact ⟨by rw [List.getElem?_set_ne e]; exact a1, a2⟩
    · rcases set_get hj with ⟨_, e2⟩ | ⟨_, e2⟩
      · cases e2
      · rcases set_get hk with ⟨_, e3⟩ | ⟨_, e3⟩
        · cases e3
        · exact h2 j k b c ds ds' e2 e3
/-- a slot takes a new list that the def owns -/
theorem En.putO (I : En K F B H σ es) {i : Nat} {p : Addr} {xs : List V} {ds : List Dt} (hp : H p = none) (h : DqAll K B xs ds) : En K F B (upd H p (.lst xs)) (σ.set i (some (.ref p))) (es.set i (.ow true ds)) := by
  have J := I.newO (o := .lst xs) hp
  have hB := I.bnone hp
  refine ⟨J.bh, J.fb, J.fh, J.fr, J.st, by rw [List.length_set, List.length_set]; exact J.len, fun j d' hj => ?_, ?_⟩
  · rcases set_get hj with ⟨e, e2⟩ | ⟨e, e2⟩
    · cases e2
    · obtain ⟨u, h1, h2⟩ := J.fz j d' e2
      exact ⟨u, by rw [List.getElem?_set_ne e]; exact h1, h2⟩
  · obtain ⟨ad, h1, h2⟩ := I.ow
    refine ⟨fun j => if j = i then p else ad j, fun j b ds' hj => ?_, fun j k b c ds' ds'' hj hk => ?_⟩
    · rcases set_get hj with ⟨e, e2⟩ | ⟨e, e2⟩
      · subst e; cases e2
        have hi : i < es.length := by
          have := (List.getElem?_eq_some_iff.mp hj).1
          simpa using this
        refine ⟨?_, ?_, ?_, xs, ?_, h⟩ <;> simp only [if_true]
        · exact List.getElem?_set_self (by rw [I.len]; exact hi)
        · exact hB
        · exact ⟨fun _ => I.fnone hp, fun z => by cases z⟩
        · exact upd_same
      · obtain ⟨a1, a2, a3, ys, a4, a5⟩ := h1 j b ds' e2
        have ej : j ≠ i := fun z => e z.symm
        refine ⟨?_, ?_, ?_, ys, ?_, a5⟩ <;> simp only [if_neg ej]
        · rw [List.getElem?_set_ne e]; exact a1
        · exact a2
        · exact a3
        · rw [upd_ne (ne_of_none a4 hp)]; exact a4
    · have key : ∀ (j : Nat) (b : Bool) (ds : List Dt), j ≠ i → es[j]? = some (.ow b ds) → ad j ≠ p := fun j b ds _ hj z => by
        obtain ⟨_, _, _, ys, a4, _⟩ := h1 j b ds hj
        rw [z, hp] at a4; cases a4
      rcases set_get hj with ⟨e, e2⟩ | ⟨e, e2⟩ <;> rcases set_get hk with ⟨f, f2⟩ | ⟨f, f2⟩
      · intro _; rw [← e, ← f]
      · subst e
        have fk : k ≠ i := fun z => f z.symm
        simp only [if_true, if_neg fk]
        intro z; exact absurd z.symm (key k c ds'' fk f2)
      · subst f
        have ej : j ≠ i := fun z => e z.symm
        simp only [if_true, if_neg ej]
        intro z; exact absurd z (key j b ds' ej e2)
      · have ej : j ≠ i := fun z => e z.symm
        have fk : k ≠ i := fun z => f z.symm
        simp only [if_neg ej, if_neg fk]
        exact h2 j k b c ds' ds'' e2 f2
/-- an owned list changes -/
theorem En.mut (I : En K F B H σ es) {i : Nat} {p : Addr} {b : Bool} {ds : List Dt} (he : es[i]? = some (.ow b ds)) (hs : σ[i]? = some (some (.ref p))) {xs' : List V} {ds' : List Dt} (h : DqAll K B xs' ds') :
    En K F B (upd H p (.lst xs')) σ (es.set i (.ow b ds')) := by
  obtain ⟨ad, h1, h2⟩ := I.ow
  obtain ⟨a1, a2, a3, xs, a4, a5⟩ := h1 i b ds he
  have ep : ad i = p := by rw [a1] at hs; injection hs with hs; injection hs with hs; injection hs
  have hB : B p = none := by rw [← ep]; exact a2
  have hi : i < es.length := (List.getElem?_eq_some_iff.mp he).1
  refine ⟨fun a u e => ?_, I.fb, fun a o hf hS => ?_, I.fr, fun a hf z => ?_, by rw [List.length_set]; exact I.len, fun j d' hj => ?_, ad, fun j b' ds'' hj => ?_, fun j k b1 b2 d1 d2 hj hk => ?_⟩
  · rw [upd_ne (ne_of_none e hB)]; exact I.bh a u e
  · have : a ≠ p := fun z => by
      subst z
      cases b with
      | true =>
        have z := a3.1 rfl
        rw [ep, hf] at z; cases z
      | false =>
        have z := a3.2 rfl
        rw [ep] at z; exact hS z
    rw [upd_ne this]; exact I.fh a o hf hS
  · by_cases ha : a = p
    · subst ha; rw [upd_same] at z; cases z
    · rw [upd_ne ha] at z; exact I.st a hf z
  · rcases set_get hj with ⟨e, e2⟩ | ⟨e, e2⟩
    · cases e2
    · exact I.fz j d' e2
  · rcases set_get hj with ⟨e, e2⟩ | ⟨e, e2⟩
    · subst e; cases e2
      exact ⟨a1, a2, a3, xs', by rw [ep]; exact upd_same, h⟩
    · obtain ⟨b1, b2, b3, ys, b4, b5⟩ := h1 j b' ds'' e2
      have ne : ad j ≠ p := fun z => e (h2 i j b b' ds ds'' he e2 (ep.trans z.symm))
      exact ⟨b1, b2, b3, ys, by rw [upd_ne ne]; exact b4, b5⟩
  · have old : ∀ (m : Nat) (bm : Bool) (dm : List Dt), (es.set i (.ow b ds'))[m]? = some (.ow bm dm) → ∃ bm' dm', es[m]? = some (.ow bm' dm') := fun m bm dm hm => by
      rcases set_get hm with ⟨e, e2⟩ | ⟨e, e2⟩
      · exact ⟨b, ds, by rw [← e]; exact he⟩
      · exact ⟨bm, dm, e2⟩
    obtain ⟨_, d1', q1⟩ := old j b1 d1 hj
    obtain ⟨_, d2', q2⟩ := old k b2 d2 hk
    exact h2 j k _ _ d1' d2' q1 q2
/-- an owned list is frozen, if it was made in this frame -/
theorem En.freeze (I : En K F B H σ es) {i : Nat} {ds : List Dt} (he : es[i]? = some (.ow true ds)) : ∃ B', Ext B B' ∧ En K F B' H σ (es.set i (.fz (.list ds))) := by
  obtain ⟨ad, h1, h2⟩ := I.ow
  obtain ⟨a1, a2, a3, xs, a4, a5⟩ := h1 i true ds he
  have eB : Ext B (upd B (ad i) (.lst xs)) := fun a u e => by rw [upd_ne (ne_of_none e a2)]; exact e
  have hF : F.H (ad i) = none := a3.1 rfl
  refine ⟨upd B (ad i) (.lst xs), eB, fun a u e => ?_, I.fb.tr eB, I.fh, fun a h => ?_, I.st, by rw [List.length_set]; exact I.len, fun j d' hj => ?_, ad, fun j b' ds'' hj => ?_, fun j k b1 b2 d1 d2 hj hk => ?_⟩
  · by_cases ha : a = ad i
    · subst ha; rw [upd_same] at e; rw [a4]; exact e
    · rw [upd_ne ha] at e; exact I.bh a u e
  · rw [upd_ne (fun z => h (by rw [z]; exact hF))]; exact I.fr a h
  · rcases set_get hj with ⟨e, e2⟩ | ⟨e, e2⟩
    · subst e; cases e2
      exact ⟨_, a1, .lst upd_same (eB.dpa ds xs a5)⟩
    · obtain ⟨u, q1, q2⟩ := I.fz j d' e2
      exact ⟨u, q1, eB.dp d' u q2⟩
  · rcases set_get hj with ⟨e, e2⟩ | ⟨e, e2⟩
    · cases e2
    · obtain ⟨b1, b2, b3, ys, b4, b5⟩ := h1 j b' ds'' e2
      have ne : ad j ≠ ad i := fun z => e (h2 i j true b' ds ds'' he e2 z.symm)
      exact ⟨b1, by rw [upd_ne ne]; exact b2, b3, ys, b4, eB.dpa ds'' ys b5⟩
  · rcases set_get hj with ⟨_, e2⟩ | ⟨_, e2⟩
    · cases e2
    · rcases set_get hk with ⟨_, e3⟩ | ⟨_, e3⟩
      · cases e3
      · exact h2 j k b1 b2 d1 d2 e2 e3
end
end Lv

set_option Elab.async false
set_option linter.all false
set_option maxRecDepth 100000
set_option maxHeartbeats 4000000
namespace Lv
open PySem PySem.Spec PyProof.Rows L2

/-! ### a step of an expression -/
def NotOwn (σ : L2.St) (es : List Sl) (a : Addr) : Prop := ∀ (i : Nat) (b : Bool) (ds : List Dt), es[i]? = some (.ow b ds) → σ[i]? ≠ some (some (V.ref a))
structure Stp (σ : L2.St) (B H : Hp) (es : List Sl) (B' H' : Hp) (es' : List Sl) : Prop where
  shp : ∀ (i : Nat) (b : Bool), (∃ ds, es'[i]? = some (.ow b ds)) ↔ ∃ ds, es[i]? = some (.ow b ds)
  eb : Ext B B'
  keep : ∀ a o, H a = some o → NotOwn σ es a → H' a = some o
  som : ∀ a, H a ≠ none → H' a ≠ none
  fr : ∀ a, H a ≠ none → B' a = B a
section
variable {σ : L2.St} {B H B1 H1 B2 H2 : Hp} {es es1 es2 : List Sl}
theorem NotOwn.to (h : NotOwn σ es a) (s : ∀ (i : Nat) (b : Bool), (∃ ds, es1[i]? = some (.ow b ds)) ↔ ∃ ds, es[i]? = some (.ow b ds)) : NotOwn σ es1 a := fun i b ds e => by
  obtain ⟨ds', e'⟩ := (s i b).mp ⟨ds, e⟩
  exact h i b ds' e'
theorem Stp.rfl' : Stp σ B H es B H es := ⟨fun _ _ => Iff.rfl, Ext.rfl' B, fun _ _ h _ => h, fun _ h => h, fun _ _ => rfl⟩
theorem Stp.tr (s : Stp σ B H es B1 H1 es1) (t : Stp σ B1 H1 es1 B2 H2 es2) : Stp σ B H es B2 H2 es2 where
  shp := fun i b => (t.shp i b).trans (s.shp i b)
  eb := s.eb.tr t.eb
  keep := fun a o h n => t.keep a o (s.keep a o h n) (n.to s.shp)
  som := fun a h => t.som a (s.som a h)
  fr := fun a h => (t.fr a (s.som a h)).trans (s.fr a h)
theorem Stp.new {K : PySem.W.Frag} {F : Fm} (I : En K F B H σ es) {p : Addr} {o : HO} (h : H p = none) : Stp σ B H es (upd B p o) (upd H p o) es :=
  ⟨fun _ _ => Iff.rfl, I.newB h, fun a u e _ => by rw [upd_ne (ne_of_none e h)]; exact e, fun a e => by rw [upd_ne (fun z => e (by rw [z]; exact h))]; exact e,
    fun a e => by rw [upd_ne (fun z => e (by rw [z]; exact h))]⟩
end

/-! ### the judgements -/
def EX (X : Cx) (e : Expr) : TE := fun σ H Q => ∀ (pins : List (Addr × Obj)) (s : Shared), Inv X pins σ H s → wpAny (model X.prog X.w) X.A (eval e X.env) (EP X pins σ Q) X.xe s
def TX (X : Cx) (e : Expr) : TT := fun σ H Q => ∀ (pins : List (Addr × Obj)) (s : Shared), Inv X pins σ H s → wpAny (model X.prog X.w) X.A (isTrue e X.env (eval e X.env)) (L2.TP X pins σ Q) X.xe s
def WX (X : Cx) (e : Expr) : TT := fun σ H Q => ∀ (whole : Sem Value) (pins : List (Addr × Obj)) (s : Shared), Inv X pins σ H s → wpAny (model X.prog X.w) X.A (isTrue e X.env whole) (L2.TP X pins σ Q) X.xe s
def AX (X : Cx) (es : List Expr) : TA := fun σ H Q => ∀ (pos : Pos) (pins : List (Addr × Obj)) (s : Shared), Inv X pins σ H s → wpAny (model X.prog X.w) X.A (spliced (backTo pos (starEach es X.env))) (AP X pins σ Q) X.xe s
def SX (X : Cx) (st : Stmt) : TS := fun D σ H => ∀ (pins : List (Addr × Obj)) (s : Shared), Inv X pins σ H s → wpAny (model X.prog X.w) X.A (exec st X.env) (SP X pins D) X.xe s
def SSX (X : Cx) (st : List Stmt) : TS := fun D σ H => ∀ (pins : List (Addr × Obj)) (s : Shared), Inv X pins σ H s → wpAny (model X.prog X.w) X.A (execs st X.env) (SP X pins D) X.xe s
section
variable {X : Cx}
theorem pe_self {e : Expr} : PE X e (EX X e) := ⟨fun pins s _ _ _ I h => h pins s I⟩
theorem pt_self {e : Expr} : PT X e (TX X e) := ⟨fun pins s _ _ _ I h => h pins s I⟩
theorem pw_self {e : Expr} : PW X e (WX X e) := ⟨fun w pins s _ _ _ I h => h w pins s I⟩
theorem pa_self {es : List Expr} : PA X es (AX X es) := ⟨fun pos pins s _ _ _ I h => h pos pins s I⟩
theorem ps_self {st : Stmt} : PS X st (SX X st) := ⟨fun pins s _ _ _ I h => h pins s I⟩
theorem pss_self {st : List Stmt} : PSs X st (SSX X st) := ⟨fun pins s _ _ _ I h => h pins s I⟩
theorem EX.of {e : Expr} {t : TE} {σ : L2.St} {H : Hp} {Q : VK} (h : PE X e t) (q : t σ H Q) : EX X e σ H Q := fun pins s I => h.run pins s σ H Q I q
theorem TX.of {e : Expr} {t : TT} {σ : L2.St} {H : Hp} {Q : Bool → Hp → Prop} (h : PT X e t) (q : t σ H Q) : TX X e σ H Q := fun pins s I => h.run pins s σ H Q I q
theorem WX.of {e : Expr} {t : TT} {σ : L2.St} {H : Hp} {Q : Bool → Hp → Prop} (h : PW X e t) (q : t σ H Q) : WX X e σ H Q := fun w pins s I => h.run w pins s σ H Q I q
theorem AX.of {es : List Expr} {t : TA} {σ : L2.St} {H : Hp} {Q : List V → Hp → Prop} (h : PA X es t) (q : t σ H Q) : AX X es σ H Q := fun pos pins s I => h.run pos pins s σ H Q I q
theorem SX.of {st : Stmt} {t : TS} {D : Ends} {σ : L2.St} {H : Hp} (h : PS X st t) (q : t D σ H) : SX X st D σ H := fun pins s I => h.run pins s σ H D I q
theorem SSX.of {st : List Stmt} {t : TS} {D : Ends} {σ : L2.St} {H : Hp} (h : PSs X st t) (q : t D σ H) : SSX X st D σ H := fun pins s I => h.run pins s σ H D I q

/-- an expression, from slots that hold es: it comes to data d and slots es' with Ψ d es' -/
def VP (X : Cx) (es : List Sl) (e : Expr) (Ψ : Dt → List Sl → Prop) : Prop :=
  ∀ (F : Fm) (B H : Hp) (σ : L2.St), En X.K F B H σ es → ∀ Q : VK, (∀ (v : V) (d : Dt) (B' H' : Hp) (es' : List Sl), Ψ d es' → En X.K F B' H' σ es' → Stp σ B H es B' H' es' → Dq X.K B' v d → Q v H') → EX X e σ H Q
def VT (X : Cx) (es : List Sl) (e : Expr) (Ψ : Bool → List Sl → Prop) : Prop :=
  ∀ (F : Fm) (B H : Hp) (σ : L2.St), En X.K F B H σ es → ∀ Q : Bool → Hp → Prop, (∀ (b : Bool) (B' H' : Hp) (es' : List Sl), Ψ b es' → En X.K F B' H' σ es' → Stp σ B H es B' H' es' → Q b H') → TX X e σ H Q
def VW (X : Cx) (es : List Sl) (e : Expr) (Ψ : Bool → List Sl → Prop) : Prop :=
  ∀ (F : Fm) (B H : Hp) (σ : L2.St), En X.K F B H σ es → ∀ Q : Bool → Hp → Prop, (∀ (b : Bool) (B' H' : Hp) (es' : List Sl), Ψ b es' → En X.K F B' H' σ es' → Stp σ B H es B' H' es' → Q b H') → WX X e σ H Q
def VA (X : Cx) (es : List Sl) (as : List Expr) (Ψ : List Dt → List Sl → Prop) : Prop :=
  ∀ (F : Fm) (B H : Hp) (σ : L2.St), En X.K F B H σ es → ∀ Q : List V → Hp → Prop, (∀ (vs : List V) (ds : List Dt) (B' H' : Hp) (es' : List Sl), Ψ ds es' → En X.K F B' H' σ es' → Stp σ B H es B' H' es' → DqAll X.K B' vs ds → Q vs H') → AX X as σ H Q

variable {es : List Sl} {Ψ Φ : Dt → List Sl → Prop} {a b c e : Expr} {pos : Pos}
theorem VP.imp (h : VP X es e Ψ) (k : ∀ d es', Ψ d es' → Φ d es') : VP X es e Φ := fun F B H σ I Q q => h F B H σ I Q fun v d B' H' es' p => q v d B' H' es' (k d es' p)
theorem VT.imp {Ψ Φ : Bool → List Sl → Prop} (h : VT X es e Ψ) (k : ∀ d es', Ψ d es' → Φ d es') : VT X es e Φ := fun F B H σ I Q q => h F B H σ I Q fun d B' H' es' p => q d B' H' es' (k d es' p)

/-! ### leaves -/
theorem vp_var {x : Str} (i : Nat) {d : Dt} (hN : X.N[i]? = some x) (hv : Vis X.env.scope x) (he : es[i]? = some (.fz d)) (h : Ψ d es)
    (hd : (x == ("__debug__" : Str)) = false := by decide) (hcd : (x == ("__classdict__" : Str)) = false := by decide) : VP X es (.Name x pos) Ψ := fun F B H σ I Q q => by
  refine EX.of (pe_var hN hv hd hcd) ?_
  obtain ⟨v, h1, h2⟩ := I.fz i d he
  exact ⟨v, h1, q v d B H es h I Stp.rfl' h2⟩
theorem vp_int {i j} (h : Ψ (.int i) es) : VP X es (.Constant (.int i) j pos) Ψ := fun F B H σ I Q q => EX.of pe_int (q _ _ B H es h I Stp.rfl' (.int i))
theorem vp_bool {i j} (h : Ψ (.bool i) es) : VP X es (.Constant (.bool i) j pos) Ψ := fun F B H σ I Q q => EX.of pe_bl (q _ _ B H es h I Stp.rfl' (.bl i))
theorem vp_none {j} (h : Ψ .none es) : VP X es (.Constant .none j pos) Ψ := fun F B H σ I Q q => EX.of pe_non (q _ _ B H es h I Stp.rfl' .non)
theorem vp_str {x j} (h : Ψ (.str x) es) : VP X es (.Constant (.str x) j pos) Ψ := fun F B H σ I Q q => EX.of pe_str (q _ _ B H es h I Stp.rfl' (.str x))
/-- a module's int -/
theorem vp_globI {x : Str} {n : Int} {t : Tok} (hg : Gl X x) (hm : X.mg x = some (.int n t)) (h : Ψ (.int n) es) (hd : (x == ("__debug__" : Str)) = false := by decide) : VP X es (.Name x pos) Ψ := fun F B H σ I Q q =>
  EX.of (pe_glob (v := .int n) hg hm ⟨t, rfl⟩ hd) (q _ _ B H es h I Stp.rfl' (.int n))

/-! ### ints -/
theorem vp_ii {op : Operator} {C : Int → Int → Prop} {g : Int → Int → Int} (ho : OpR X (binaryOp op) (rI C fun i j => .int (g i j)))
    (h : VP X es a fun d es1 => ∃ i, d = .int i ∧ VP X es1 b fun d2 es2 => ∃ j, d2 = .int j ∧ C i j ∧ Ψ (.int (g i j)) es2) : VP X es (.BinOp a op b pos) Ψ := fun F B H σ I Q q => by
  refine EX.of (pe_op ho pe_self pe_self) ?_
  refine h F B H σ I _ fun v d B1 H1 es1 ⟨i, hd, hb⟩ I1 S1 D1 => ?_
  subst hd; cases D1
  refine hb F B1 H1 σ I1 _ fun v2 d2 B2 H2 es2 ⟨j, hd2, hc, hq⟩ I2 S2 D2 => ?_
  subst hd2; cases D2
  exact ⟨i, j, rfl, rfl, hc, q _ _ B2 H2 es2 hq I2 (S1.tr S2) (.int _)⟩
theorem vp_i0 {op : Operator} {g : Int → Int → Int} (ho : OpR X (binaryOp op) (rI0 fun i j => .int (g i j)))
    (h : VP X es a fun d es1 => ∃ i, d = .int i ∧ VP X es1 b fun d2 es2 => ∃ j, d2 = .int j ∧ Ψ (.int (g i j)) es2) : VP X es (.BinOp a op b pos) Ψ := fun F B H σ I Q q => by
  refine EX.of (pe_op ho pe_self pe_self) ?_
  refine h F B H σ I _ fun v d B1 H1 es1 ⟨i, hd, hb⟩ I1 S1 D1 => ?_
  subst hd; cases D1
  refine hb F B1 H1 σ I1 _ fun v2 d2 B2 H2 es2 ⟨j, hd2, hq⟩ I2 S2 D2 => ?_
  subst hd2; cases D2
  exact ⟨i, j, rfl, rfl, q _ _ B2 H2 es2 hq I2 (S1.tr S2) (.int _)⟩
theorem vp_add (h : VP X es a fun d es1 => ∃ i, d = .int i ∧ VP X es1 b fun d2 es2 => ∃ j, d2 = .int j ∧ Ψ (.int (i + j)) es2) : VP X es (.BinOp a .Add b pos) Ψ := vp_i0 (g := fun i j => i + j) op_add h
theorem vp_sub (h : VP X es a fun d es1 => ∃ i, d = .int i ∧ VP X es1 b fun d2 es2 => ∃ j, d2 = .int j ∧ Ψ (.int (i - j)) es2) : VP X es (.BinOp a .Sub b pos) Ψ := vp_i0 (g := fun i j => i - j) op_sub h
theorem vp_mul (h : VP X es a fun d es1 => ∃ i, d = .int i ∧ VP X es1 b fun d2 es2 => ∃ j, d2 = .int j ∧ CMulX i j ∧ Ψ (.int (i * j)) es2) : VP X es (.BinOp a .Mult b pos) Ψ := vp_ii (C := CMulX) (g := fun i j => i * j) op_mulX h
theorem vp_mod (h : VP X es a fun d es1 => ∃ i, d = .int i ∧ VP X es1 b fun d2 es2 => ∃ j, d2 = .int j ∧ 0 < j ∧ Ψ (.int (i % j)) es2) : VP X es (.BinOp a .Mod b pos) Ψ := vp_ii (C := fun _ j => 0 < j) (g := fun i j => i % j) op_mod h
theorem vp_fdiv (h : VP X es a fun d es1 => ∃ i, d = .int i ∧ VP X es1 b fun d2 es2 => ∃ j, d2 = .int j ∧ CDivW i j ∧ Ψ (.int (i / j)) es2) : VP X es (.BinOp a .FloorDiv b pos) Ψ := vp_ii (C := CDivW) (g := fun i j => i / j) op_fdivW h
theorem vp_pow (h : VP X es a fun d es1 => ∃ i, d = .int i ∧ VP X es1 b fun d2 es2 => ∃ j, d2 = .int j ∧ CPow i j ∧ Ψ (.int (i ^ j.toNat)) es2) : VP X es (.BinOp a .Pow b pos) Ψ := vp_ii (C := CPow) (g := fun i j => i ^ j.toNat) op_pow h
theorem vp_neg (h : VP X es a fun d es1 => ∃ i, d = .int i ∧ Ψ (.int (-i)) es1) : VP X es (.UnaryOp .USub a pos) Ψ := fun F B H σ I Q q => by
  refine EX.of (pe_un un_neg pe_self) ?_
  refine h F B H σ I _ fun v d B1 H1 es1 ⟨i, hd, hq⟩ I1 S1 D1 => ?_
  subst hd; cases D1
  exact ⟨i, rfl, q _ _ B1 H1 es1 hq I1 S1 (.int _)⟩

/-! ### comparisons of ints -/
theorem vp_cmp {op : CmpOp} {g : Int → Int → Bool} (ho : OpR X (compareOp op) (rI0 fun i j => .bl (g i j))) (hm : behindInMarks op b = false)
    (h : VP X es a fun d es1 => ∃ i, d = .int i ∧ VP X es1 b fun d2 es2 => ∃ j, d2 = .int j ∧ Ψ (.bool (g i j)) es2) : VP X es (.Compare a [op] [b] pos) Ψ := fun F B H σ I Q q => by
  refine EX.of (pe_cmpR ho pe_self pe_self hm) ?_
  refine h F B H σ I _ fun v d B1 H1 es1 ⟨i, hd, hb⟩ I1 S1 D1 => ?_
  subst hd; cases D1
  refine hb F B1 H1 σ I1 _ fun v2 d2 B2 H2 es2 ⟨j, hd2, hq⟩ I2 S2 D2 => ?_
  subst hd2; cases D2
  exact ⟨i, j, rfl, rfl, q _ _ B2 H2 es2 hq I2 (S1.tr S2) (.bl _)⟩
theorem vp_lt (h : VP X es a fun d es1 => ∃ i, d = .int i ∧ VP X es1 b fun d2 es2 => ∃ j, d2 = .int j ∧ Ψ (.bool (decide (i < j))) es2) : VP X es (.Compare a [.Lt] [b] pos) Ψ := vp_cmp (g := fun i j => decide (i < j)) op_lt (nomark b) h
theorem vp_le (h : VP X es a fun d es1 => ∃ i, d = .int i ∧ VP X es1 b fun d2 es2 => ∃ j, d2 = .int j ∧ Ψ (.bool (decide (i ≤ j))) es2) : VP X es (.Compare a [.LtE] [b] pos) Ψ := vp_cmp (g := fun i j => decide (i ≤ j)) op_le (nomark b) h
theorem vp_gt (h : VP X es a fun d es1 => ∃ i, d = .int i ∧ VP X es1 b fun d2 es2 => ∃ j, d2 = .int j ∧ Ψ (.bool (decide (j < i))) es2) : VP X es (.Compare a [.Gt] [b] pos) Ψ := vp_cmp (g := fun i j => decide (j < i)) op_gt (nomark b) h
theorem vp_ge (h : VP X es a fun d es1 => ∃ i, d = .int i ∧ VP X es1 b fun d2 es2 => ∃ j, d2 = .int j ∧ Ψ (.bool (decide (j ≤ i))) es2) : VP X es (.Compare a [.GtE] [b] pos) Ψ := vp_cmp (g := fun i j => decide (j ≤ i)) op_ge (nomark b) h
/-- == and != of data -/
theorem vp_eqD (hu : X.A.units + 64 < cLine) (h : VP X es a fun d es1 => VP X es1 b fun d2 es2 => shD d ∧ shD d2 ∧ Ψ (.bool (eqD d d2)) es2) : VP X es (.Compare a [.Eq] [b] pos) Ψ := fun F B H σ I Q q => by
  refine EX.of (pe_cmpR (op_eqD hu) pe_self pe_self (nomark b)) ?_
  refine h F B H σ I _ fun v d B1 H1 es1 hb I1 S1 D1 => ?_
  refine hb F B1 H1 σ I1 _ fun v2 d2 B2 H2 es2 ⟨s1, s2, hq⟩ I2 S2 D2 => ?_
  exact ⟨toPy d, toPy d2, dq_dp _ _ s1.1 (I2.bh.dp _ _ (S2.eb.dp _ _ D1)), dq_dp _ _ s2.1 (I2.bh.dp _ _ D2), s1.2, s2.2, q _ _ B2 H2 es2 hq I2 (S1.tr S2) (.bl _)⟩
theorem vp_neD (hu : X.A.units + 64 < cLine) (h : VP X es a fun d es1 => VP X es1 b fun d2 es2 => shD d ∧ shD d2 ∧ Ψ (.bool (!eqD d d2)) es2) : VP X es (.Compare a [.NotEq] [b] pos) Ψ := fun F B H σ I Q q => by
  refine EX.of (pe_cmpR (op_neD hu) pe_self pe_self (nomark b)) ?_
  refine h F B H σ I _ fun v d B1 H1 es1 hb I1 S1 D1 => ?_
  refine hb F B1 H1 σ I1 _ fun v2 d2 B2 H2 es2 ⟨s1, s2, hq⟩ I2 S2 D2 => ?_
  exact ⟨toPy d, toPy d2, dq_dp _ _ s1.1 (I2.bh.dp _ _ (S2.eb.dp _ _ D1)), dq_dp _ _ s2.1 (I2.bh.dp _ _ D2), s1.2, s2.2, q _ _ B2 H2 es2 hq I2 (S1.tr S2) (.bl _)⟩
def isN : Dt → Bool
  | .none => true
  | _ => false
theorem dp_isN {K : PySem.W.Frag} {B : Hp} {v : V} {d : Dt} (h : Dq K B v d) : decide (v = V.non) = isN d := by
  cases h <;> first | rfl | (simp [isN])
theorem vp_is {j p'} (h : VP X es a fun d es1 => Ψ (.bool (isN d)) es1) : VP X es (.Compare a [.Is] [.Constant .none j p'] pos) Ψ := fun F B H σ I Q q => by
  refine EX.of (pe_cmp (pc_isN pe_self)) ?_
  refine h F B H σ I _ fun v d B1 H1 es1 hb I1 S1 D1 => ?_
  show Q (.bl (decide (v = V.non))) H1
  rw [dp_isN D1]
  exact q _ _ B1 H1 es1 hb I1 S1 (.bl _)
theorem vp_isnot {j p'} (h : VP X es a fun d es1 => Ψ (.bool (!isN d)) es1) : VP X es (.Compare a [.IsNot] [.Constant .none j p'] pos) Ψ := fun F B H σ I Q q => by
  refine EX.of (pe_cmp (pc_notN pe_self)) ?_
  refine h F B H σ I _ fun v d B1 H1 es1 hb I1 S1 D1 => ?_
  show Q (.bl (!decide (v = V.non))) H1
  rw [dp_isN D1]
  exact q _ _ B1 H1 es1 hb I1 S1 (.bl _)
/-- a chain of two comparisons of ints -/
theorem vp_chain {op op' : CmpOp} {g g' : Int → Int → Bool} (ho : OpR X (compareOp op) (rI0 fun i j => .bl (g i j))) (ho' : OpR X (compareOp op') (rI0 fun i j => .bl (g' i j)))
    (h : VP X es a fun d es1 => ∃ i, d = .int i ∧ VP X es1 b fun d2 es2 => ∃ j, d2 = .int j ∧ (g i j = true → VP X es2 c fun d3 es3 => ∃ k, d3 = .int k ∧ Ψ (.bool (g' j k)) es3) ∧ (g i j = false → Ψ (.bool false) es2))
    (hm : lastMarks [op, op'] [b, c] = false := by with_unfolding_all rfl) : VP X es (.Compare a [op, op'] [b, c] pos) Ψ := fun F B H σ I Q q => by
  refine EX.of (pe_chain ho ho' pe_self pe_self pe_self hm) ?_
  refine h F B H σ I _ fun v d B1 H1 es1 ⟨i, hd, hb⟩ I1 S1 D1 => ?_
  subst hd; cases D1
  refine hb F B1 H1 σ I1 _ fun v2 d2 B2 H2 es2 ⟨j, hd2, ht, hf⟩ I2 S2 D2 => ?_
  subst hd2; cases D2
  refine ⟨i, j, rfl, rfl, g i j, rfl, ?_⟩
  cases eg : g i j with
  | true =>
    refine iteT ?_
    refine ht eg F B2 H2 σ I2 _ fun v3 d3 B3 H3 es3 ⟨k, hd3, hq⟩ I3 S3 D3 => ?_
    subst hd3; cases D3
    exact ⟨j, k, rfl, rfl, q _ _ B3 H3 es3 hq I3 ((S1.tr S2).tr S3) (.bl _)⟩
  | false =>
    refine iteF ?_
    exact q _ _ B2 H2 es2 (hf eg) I2 (S1.tr S2) (.bl _)

/-! ### and, or, not, if as values -/
theorem vp_one {op} (h : VP X es a Ψ) : VP X es (.BoolOp op [a] pos) Ψ := fun F B H σ I Q q => EX.of (pe_one pe_self) (h F B H σ I Q q)
theorem vp_and {rest : List Expr} (h : VP X es a fun d es1 => ∃ p, d = .bool p ∧ (p = true → VP X es1 (.BoolOp .And (b :: rest) pos) Ψ) ∧ (p = false → Ψ (.bool false) es1)) : VP X es (.BoolOp .And (a :: b :: rest) pos) Ψ := fun F B H σ I Q q => by
  refine EX.of (pe_and pe_self pe_self) ?_
  refine h F B H σ I _ fun v d B1 H1 es1 ⟨p, hd, ht, hf⟩ I1 S1 D1 => ?_
  subst hd; cases D1
  refine ⟨p, rfl, ?_⟩
  cases p with
  | true => exact iteT (ht rfl F B1 H1 σ I1 _ fun v2 d2 B2 H2 es2 hq I2 S2 D2 => q _ _ B2 H2 es2 hq I2 (S1.tr S2) D2)
  | false => exact iteF (q _ _ B1 H1 es1 (hf rfl) I1 S1 (.bl _))
theorem vp_or {rest : List Expr} (h : VP X es a fun d es1 => ∃ p, d = .bool p ∧ (p = true → Ψ (.bool true) es1) ∧ (p = false → VP X es1 (.BoolOp .Or (b :: rest) pos) Ψ)) : VP X es (.BoolOp .Or (a :: b :: rest) pos) Ψ := fun F B H σ I Q q => by
  refine EX.of (pe_or pe_self pe_self) ?_
  refine h F B H σ I _ fun v d B1 H1 es1 ⟨p, hd, ht, hf⟩ I1 S1 D1 => ?_
  subst hd; cases D1
  refine ⟨p, rfl, ?_⟩
  cases p with
  | true => exact iteT (q _ _ B1 H1 es1 (ht rfl) I1 S1 (.bl _))
  | false => exact iteF (hf rfl F B1 H1 σ I1 _ fun v2 d2 B2 H2 es2 hq I2 S2 D2 => q _ _ B2 H2 es2 hq I2 (S1.tr S2) D2)
theorem vp_not (h : VP X es a fun d es1 => ∃ p, d = .bool p ∧ Ψ (.bool (!p)) es1) : VP X es (.UnaryOp .Not a pos) Ψ := fun F B H σ I Q q => by
  refine EX.of (pe_not pe_self) ?_
  refine h F B H σ I _ fun v d B1 H1 es1 ⟨p, hd, hq⟩ I1 S1 D1 => ?_
  subst hd; cases D1
  exact ⟨p, rfl, q _ _ B1 H1 es1 hq I1 S1 (.bl _)⟩
theorem vp_ife (h : VT X es c fun p es1 => (p = true → VP X es1 a Ψ) ∧ (p = false → VP X es1 b Ψ)) : VP X es (.IfExp c a b pos) Ψ := fun F B H σ I Q q => by
  refine EX.of (pe_ifExp pt_self pe_self pe_self) ?_
  refine h F B H σ I _ fun p B1 H1 es1 ⟨ht, hf⟩ I1 S1 => ?_
  cases p with
  | true => exact iteT (ht rfl F B1 H1 σ I1 _ fun v2 d2 B2 H2 es2 hq I2 S2 D2 => q _ _ B2 H2 es2 hq I2 (S1.tr S2) D2)
  | false => exact iteF (hf rfl F B1 H1 σ I1 _ fun v2 d2 B2 H2 es2 hq I2 S2 D2 => q _ _ B2 H2 es2 hq I2 (S1.tr S2) D2)

/-! ### tests -/
variable {Θ : Bool → List Sl → Prop}
theorem vt_val (h : VP X es e fun d es1 => ∃ p, d = .bool p ∧ Θ p es1) (he : ∀ whole, isTrue e X.env whole = (do let v ← whole; standAt e.pos; holding [v] (truthy v)) := by intro _; rfl) : VT X es e Θ := fun F B H σ I Q q => by
  refine TX.of (pt_val pe_self he) ?_
  refine h F B H σ I _ fun v d B1 H1 es1 ⟨p, hd, hq⟩ I1 S1 D1 => ?_
  subst hd; cases D1
  exact ⟨p, rfl, q _ B1 H1 es1 hq I1 S1⟩
/-- an int as a test -/
theorem vt_int (h : VP X es e fun d es1 => ∃ i, d = .int i ∧ Θ (i != 0) es1) (he : ∀ whole, isTrue e X.env whole = (do let v ← whole; standAt e.pos; holding [v] (truthy v)) := by intro _; rfl) : VT X es e Θ := fun F B H σ I Q q => by
  refine TX.of (pt_truth pe_self he) ?_
  refine h F B H σ I _ fun v d B1 H1 es1 ⟨i, hd, hq⟩ I1 S1 D1 => ?_
  subst hd; cases D1
  exact ⟨i != 0, rfl, q _ B1 H1 es1 hq I1 S1⟩
theorem vt_cmp {op : CmpOp} {g : Int → Int → Bool} (ho : OpR X (compareOp op) (rI0 fun i j => .bl (g i j))) (hm : behindInMarks op b = false)
    (h : VP X es a fun d es1 => ∃ i, d = .int i ∧ VP X es1 b fun d2 es2 => ∃ j, d2 = .int j ∧ Θ (g i j) es2) : VT X es (.Compare a [op] [b] pos) Θ := fun F B H σ I Q q => by
  refine TX.of (pt_cmpR ho pe_self pe_self hm) ?_
  refine h F B H σ I _ fun v d B1 H1 es1 ⟨i, hd, hb⟩ I1 S1 D1 => ?_
  subst hd; cases D1
  refine hb F B1 H1 σ I1 _ fun v2 d2 B2 H2 es2 ⟨j, hd2, hq⟩ I2 S2 D2 => ?_
  subst hd2; cases D2
  exact ⟨i, j, rfl, rfl, _, rfl, q _ B2 H2 es2 hq I2 (S1.tr S2)⟩
theorem vt_lt (h : VP X es a fun d es1 => ∃ i, d = .int i ∧ VP X es1 b fun d2 es2 => ∃ j, d2 = .int j ∧ Θ (decide (i < j)) es2) : VT X es (.Compare a [.Lt] [b] pos) Θ := vt_cmp (g := fun i j => decide (i < j)) op_lt (nomark b) h
theorem vt_le (h : VP X es a fun d es1 => ∃ i, d = .int i ∧ VP X es1 b fun d2 es2 => ∃ j, d2 = .int j ∧ Θ (decide (i ≤ j)) es2) : VT X es (.Compare a [.LtE] [b] pos) Θ := vt_cmp (g := fun i j => decide (i ≤ j)) op_le (nomark b) h
theorem vt_gt (h : VP X es a fun d es1 => ∃ i, d = .int i ∧ VP X es1 b fun d2 es2 => ∃ j, d2 = .int j ∧ Θ (decide (j < i)) es2) : VT X es (.Compare a [.Gt] [b] pos) Θ := vt_cmp (g := fun i j => decide (j < i)) op_gt (nomark b) h
theorem vt_ge (h : VP X es a fun d es1 => ∃ i, d = .int i ∧ VP X es1 b fun d2 es2 => ∃ j, d2 = .int j ∧ Θ (decide (j ≤ i)) es2) : VT X es (.Compare a [.GtE] [b] pos) Θ := vt_cmp (g := fun i j => decide (j ≤ i)) op_ge (nomark b) h
theorem vt_eqD (hu : X.A.units + 64 < cLine) (h : VP X es a fun d es1 => VP X es1 b fun d2 es2 => shD d ∧ shD d2 ∧ Θ (eqD d d2) es2) : VT X es (.Compare a [.Eq] [b] pos) Θ := fun F B H σ I Q q => by
  refine TX.of (pt_cmpR (op_eqD hu) pe_self pe_self (nomark b)) ?_
  refine h F B H σ I _ fun v d B1 H1 es1 hb I1 S1 D1 => ?_
  refine hb F B1 H1 σ I1 _ fun v2 d2 B2 H2 es2 ⟨s1, s2, hq⟩ I2 S2 D2 => ?_
  exact ⟨toPy d, toPy d2, dq_dp _ _ s1.1 (I2.bh.dp _ _ (S2.eb.dp _ _ D1)), dq_dp _ _ s2.1 (I2.bh.dp _ _ D2), s1.2, s2.2, _, rfl, q _ B2 H2 es2 hq I2 (S1.tr S2)⟩
theorem vt_neD (hu : X.A.units + 64 < cLine) (h : VP X es a fun d es1 => VP X es1 b fun d2 es2 => shD d ∧ shD d2 ∧ Θ (!eqD d d2) es2) : VT X es (.Compare a [.NotEq] [b] pos) Θ := fun F B H σ I Q q => by
  refine TX.of (pt_cmpR (op_neD hu) pe_self pe_self (nomark b)) ?_
  refine h F B H σ I _ fun v d B1 H1 es1 hb I1 S1 D1 => ?_
  refine hb F B1 H1 σ I1 _ fun v2 d2 B2 H2 es2 ⟨s1, s2, hq⟩ I2 S2 D2 => ?_
  exact ⟨toPy d, toPy d2, dq_dp _ _ s1.1 (I2.bh.dp _ _ (S2.eb.dp _ _ D1)), dq_dp _ _ s2.1 (I2.bh.dp _ _ D2), s1.2, s2.2, _, rfl, q _ B2 H2 es2 hq I2 (S1.tr S2)⟩
theorem vt_is {j p'} (h : VP X es a fun d es1 => Θ (isN d) es1) : VT X es (.Compare a [.Is] [.Constant .none j p'] pos) Θ := fun F B H σ I Q q => by
  refine TX.of (pt_cmp (pc_isN pe_self)) ?_
  refine h F B H σ I _ fun v d B1 H1 es1 hb I1 S1 D1 => ?_
  exact ⟨_, rfl, by rw [dp_isN D1]; exact q _ B1 H1 es1 hb I1 S1⟩
theorem vt_isnot {j p'} (h : VP X es a fun d es1 => Θ (!isN d) es1) : VT X es (.Compare a [.IsNot] [.Constant .none j p'] pos) Θ := fun F B H σ I Q q => by
  refine TX.of (pt_cmp (pc_notN pe_self)) ?_
  refine h F B H σ I _ fun v d B1 H1 es1 hb I1 S1 D1 => ?_
  exact ⟨_, rfl, by rw [dp_isN D1]; exact q _ B1 H1 es1 hb I1 S1⟩
theorem vt_chain {op op' : CmpOp} {g g' : Int → Int → Bool} (ho : OpR X (compareOp op) (rI0 fun i j => .bl (g i j))) (ho' : OpR X (compareOp op') (rI0 fun i j => .bl (g' i j)))
    (h : VP X es a fun d es1 => ∃ i, d = .int i ∧ VP X es1 b fun d2 es2 => ∃ j, d2 = .int j ∧ (g i j = true → VP X es2 c fun d3 es3 => ∃ k, d3 = .int k ∧ Θ (g' j k) es3) ∧ (g i j = false → Θ false es2))
    (hm : lastMarks [op, op'] [b, c] = false := by with_unfolding_all rfl) : VT X es (.Compare a [op, op'] [b, c] pos) Θ := fun F B H σ I Q q => by
  refine TX.of (pt_chain ho ho' pe_self pe_self pe_self hm) ?_
  refine h F B H σ I _ fun v d B1 H1 es1 ⟨i, hd, hb⟩ I1 S1 D1 => ?_
  subst hd; cases D1
  refine hb F B1 H1 σ I1 _ fun v2 d2 B2 H2 es2 ⟨j, hd2, ht, hf⟩ I2 S2 D2 => ?_
  subst hd2; cases D2
  refine ⟨i, j, rfl, rfl, g i j, rfl, ?_⟩
  cases eg : g i j with
  | true =>
    refine iteT ?_
    refine ht eg F B2 H2 σ I2 _ fun v3 d3 B3 H3 es3 ⟨k, hd3, hq⟩ I3 S3 D3 => ?_
    subst hd3; cases D3
    exact ⟨j, k, rfl, rfl, _, rfl, q _ B3 H3 es3 hq I3 ((S1.tr S2).tr S3)⟩
  | false =>
    refine iteF ?_
    exact ⟨_, rfl, q _ B2 H2 es2 (hf eg) I2 (S1.tr S2)⟩
theorem vt_not (h : VT X es a fun p es1 => Θ (!p) es1) : VT X es (.UnaryOp .Not a pos) Θ := fun F B H σ I Q q => by
  refine TX.of (pt_not pt_self) ?_
  exact h F B H σ I _ fun p B1 H1 es1 hq I1 S1 => q _ B1 H1 es1 hq I1 S1
theorem vt_w (h : VW X es e Θ) : VT X es e Θ := fun F B H σ I Q q => TX.of (pw_self.pt) (h F B H σ I Q q)
theorem vw_and1 (h : VT X es a Θ) : VW X es (.BoolOp .And [a] pos) Θ := fun F B H σ I Q q => WX.of (pw_and1 pt_self) (h F B H σ I Q q)
theorem vw_or1 (h : VT X es a Θ) : VW X es (.BoolOp .Or [a] pos) Θ := fun F B H σ I Q q => WX.of (pw_or1 pt_self) (h F B H σ I Q q)
theorem vw_and {rest : List Expr} (h : VT X es a fun p es1 => (p = true → VW X es1 (.BoolOp .And (b :: rest) pos) Θ) ∧ (p = false → Θ false es1)) : VW X es (.BoolOp .And (a :: b :: rest) pos) Θ := fun F B H σ I Q q => by
  refine WX.of (pw_and pt_self pw_self) ?_
  refine h F B H σ I _ fun p B1 H1 es1 ⟨ht, hf⟩ I1 S1 => ?_
  cases p with
  | true => exact iteT (ht rfl F B1 H1 σ I1 _ fun p2 B2 H2 es2 hq I2 S2 => q _ B2 H2 es2 hq I2 (S1.tr S2))
  | false => exact iteF (q _ B1 H1 es1 (hf rfl) I1 S1)
theorem vw_or {rest : List Expr} (h : VT X es a fun p es1 => (p = true → Θ true es1) ∧ (p = false → VW X es1 (.BoolOp .Or (b :: rest) pos) Θ)) : VW X es (.BoolOp .Or (a :: b :: rest) pos) Θ := fun F B H σ I Q q => by
  refine WX.of (pw_or pt_self pw_self) ?_
  refine h F B H σ I _ fun p B1 H1 es1 ⟨ht, hf⟩ I1 S1 => ?_
  cases p with
  | true => exact iteT (q _ B1 H1 es1 (ht rfl) I1 S1)
  | false => exact iteF (hf rfl F B1 H1 σ I1 _ fun p2 B2 H2 es2 hq I2 S2 => q _ B2 H2 es2 hq I2 (S1.tr S2))

/-! ### arguments, tuples, lists, items -/
theorem va_nil {Λ : List Dt → List Sl → Prop} (h : Λ [] es) : VA X es [] Λ := fun F B H σ I Q q => AX.of pa_nil (q [] [] B H es h I Stp.rfl' .nil)
theorem va_cons {Λ : List Dt → List Sl → Prop} {as : List Expr} (h : VP X es a fun d es1 => VA X es1 as fun ds es2 => Λ (d :: ds) es2)
    (hs : starEach (a :: as) X.env = (false, eval a X.env) :: starEach as X.env := by rfl) : VA X es (a :: as) Λ := fun F B H σ I Q q => by
  refine AX.of (pa_cons pe_self pa_self hs) ?_
  refine h F B H σ I _ fun v d B1 H1 es1 hr I1 S1 D1 => ?_
  refine hr F B1 H1 σ I1 _ fun vs ds B2 H2 es2 hq I2 S2 D2 => ?_
  exact q _ _ B2 H2 es2 hq I2 (S1.tr S2) (.cons (S2.eb.dp _ _ D1) D2)
theorem vp_tup {as : List Expr} {x1} (h : VA X es as fun ds es1 => ds.length ≤ 100000 ∧ Ψ (.tuple ds) es1) : VP X es (.Tuple as x1 pos) Ψ := fun F B H σ I Q q => by
  refine EX.of (pe_tup pa_self) ?_
  refine h F B H σ I _ fun vs ds B1 H1 es1 ⟨hl, hq⟩ I1 S1 D1 => ⟨by rw [dpa_len D1]; exact Nat.le_trans hl (by decide), fun p hp => ?_⟩
  exact q _ _ (upd B1 p (.tup vs)) _ es1 hq (I1.new hp) (S1.tr (Stp.new I1 hp)) (.tup (.inl (.inl upd_same)) ((I1.newB hp).dpa ds vs D1))
theorem vp_list {as : List Expr} (h : VA X es as fun ds es1 => ds.length ≤ 100000 ∧ Ψ (.list ds) es1) : VP X es (.List as pos) Ψ := fun F B H σ I Q q => by
  refine EX.of (pe_lst pa_self) ?_
  refine h F B H σ I _ fun vs ds B1 H1 es1 ⟨hl, hq⟩ I1 S1 D1 => ⟨by rw [dpa_len D1]; exact Nat.le_trans hl (by decide), fun p hp => ?_⟩
  exact q _ _ (upd B1 p (.lst vs)) _ es1 hq (I1.new hp) (S1.tr (Stp.new I1 hp)) (.lst upd_same ((I1.newB hp).dpa ds vs D1))
theorem ixN_lt {n k : Nat} {i : Int} (h : ixN n i = some k) : k < n := by
  unfold ixN at h
  split at h
  · split at h
    · injection h with h; omega
    · cases h
  · split at h
    · injection h with h; omega
    · cases h
theorem dpa_atI {K : PySem.W.Frag} {B : Hp} {vs : List V} {ds : List Dt} {i : Int} {d : Dt} (h : DqAll K B vs ds) (e : atI ds i = some d) : ∃ v, atI vs i = some v ∧ Dq K B v d := by
  unfold atI at e ⊢
  rw [dpa_len h]
  cases z : ixN ds.length i with
  | none => rw [z] at e; cases e
  | some k =>
    rw [z] at e
    exact dpa_get h e
/-- what is read as a sequence -/
def SeqD (d : Dt) (xs : List Dt) : Prop := d = .list xs ∨ d = .tuple xs ∨ d = .scr xs
theorem SeqD.l {xs : List Dt} : SeqD (.list xs) xs := .inl rfl
theorem SeqD.t {xs : List Dt} : SeqD (.tuple xs) xs := .inr (.inl rfl)
theorem SeqD.s {xs : List Dt} : SeqD (.scr xs) xs := .inr (.inr rfl)
theorem seq_of {K : PySem.W.Frag} {H : Hp} {v : V} {d : Dt} {xs : List Dt} (h : Dq K H v d) (s : SeqD d xs) : ∃ a ys, v = .ref a ∧ (SqL K H a ys ∨ SqT K H a ys) ∧ DqAll K H ys xs := by
  rcases s with s | s | s <;> subst s
  · cases h with
    | lst h1 h2 => exact ⟨_, _, rfl, .inl (.inl (.inl h1)), h2⟩
  · cases h with
    | tup h1 h2 => exact ⟨_, _, rfl, .inr h1, h2⟩
  · cases h with
    | scr h1 h2 => exact ⟨_, _, rfl, .inl h1, h2⟩
/-- xs[i], t[i] -/
theorem vp_ix (h : VP X es a fun d es1 => VP X es1 b fun d2 es2 => ∃ xs i x, SeqD d xs ∧ d2 = .int i ∧ atI xs i = some x ∧ Ψ x es2) (hs : PlainIx b := by intro _ _; rfl) : VP X es (.Subscript a b pos) Ψ := fun F B H σ I Q q => by
  refine EX.of (pe_ix ix_seq pe_self pe_self hs) ?_
  refine h F B H σ I _ fun v d B1 H1 es1 hb I1 S1 D1 => ?_
  refine hb F B1 H1 σ I1 _ fun v2 d2 B2 H2 es2 ⟨xs, i, x, hd, hd2, hx, hq⟩ I2 S2 D2 => ?_
  subst hd2; cases D2
  obtain ⟨a, ys, rfl, hsq, D⟩ := seq_of (S2.eb.dp _ _ D1) hd
  obtain ⟨u, h3, h4⟩ := dpa_atI D hx
  rcases hsq with hsq | hsq
  · exact .inl ⟨_, _, _, u, rfl, rfl, I2.bh.sql hsq, h3, q _ _ B2 H2 es2 hq I2 (S1.tr S2) h4⟩
  · exact .inr (.inl ⟨_, _, _, u, rfl, rfl, I2.bh.sqt hsq, h3, q _ _ B2 H2 es2 hq I2 (S1.tr S2) h4⟩)
end
end Lv

set_option Elab.async false
set_option linter.all false
set_option maxRecDepth 100000
set_option maxHeartbeats 4000000
namespace Lv
open PySem PySem.Spec PyProof.Rows L2

/-! ### promises -/
/-- data in, data out, nothing changed: R tells for the arguments what is told of the result -/
def spR (K : PySem.W.Frag) (R : List Dt → (Dt → Prop) → Prop) : Sp := fun vs H Q _ => ∃ (B : Hp) (ds : List Dt) (G : Dt → Prop), Ext B H ∧ DqAll K B vs ds ∧ R ds G ∧
  ∀ (v : V) (d : Dt) (B' H' : Hp), G d → Ext B B' → Ext H H' → Ext B' H' → (∀ a, H a ≠ none → B' a = B a) → Dq K B' v d → Q v H'
/-- the first argument a list that the def changes -/
def spO (K : PySem.W.Frag) (R : List Dt → List Dt → (Dt → List Dt → Prop) → Prop) : Sp := fun vs H Q _ => ∃ (B : Hp) (p : Addr) (rest xs : List V) (ds as : List Dt) (G : Dt → List Dt → Prop),
  vs = .ref p :: rest ∧ Ext B H ∧ B p = none ∧ H p = some (.lst xs) ∧ DqAll K B xs ds ∧ DqAll K B rest as ∧ R ds as G ∧
  ∀ (v : V) (d : Dt) (ds' : List Dt) (xs' : List V) (B' H' : Hp), G d ds' → Ext B B' → (∀ a o, H a = some o → a ≠ p → H' a = some o) → H' p = some (.lst xs') → DqAll K B' xs' ds' → Ext B' H' → (∀ a, H a ≠ none → B' a = B a) → Dq K B' v d → Q v H'
structure Fn (P : Program) (w : World) (K : PySem.W.Frag) (mg : Str → Option Value) (base : Heap) (x : Str) (k : Nat) (sp : Sp) : Prop where
  ex : ∃ (f : Addr) (fd : FuncData) (ps : List Str), FnOk P w K mg base CX0 k f fd ps sp ∧ mg x = some (.ref f) ∧ PySem.W.keepIn K (.ref f) = true ∧ Binds K fd ps []
section
variable {X : Cx} {es : List Sl} {Ψ : Dt → List Sl → Prop} {a b c e : Expr} {as : List Expr} {pos p : Pos} {x : Str} {k j : Nat}
theorem vp_call {R : List Dt → (Dt → Prop) → Prop} (F : Fn X.prog X.w X.K X.mg X.base x k (spR X.K R)) (hr : Room j X.A) (hk : k ≤ j) (hg : Gl X x)
    (h : VA X es (e :: as) fun ds es1 => R ds fun d => Ψ d es1) (hdb : (x == ("__debug__" : Str)) = false := by decide)
    (he : starEach (e :: as) X.env = (false, eval e X.env) :: starEach as X.env := by rfl) (hpl : (backTo pos (starEach as X.env)).any (·.1) = false := by rfl) :
    VP X es (.Call (.Name x p) (e :: as) [] pos) Ψ := fun Fm B H σ I Q q => by
  obtain ⟨f, fd, ps, FO, hm, hkp, hb⟩ := F.ex
  refine EX.of (pe_call FO (hr.mono hk) hg hm hkp hb .nil (pass0 (X := X)) pa_self hdb he hpl) ?_
  refine h Fm B H σ I _ fun vs ds B1 H1 es1 hR I1 S1 D1 => ?_
  rw [List.append_nil]
  refine ⟨B1, ds, _, I1.bh, D1, hR, fun v d B2 H2 hd eb eh bh n Dv => ?_⟩
  exact q v d B2 H2 es1 hd (I1.grow eb eh bh n) (S1.tr ⟨fun _ _ => Iff.rfl, eb, fun a o h _ => eh a o h, fun a h z => h (eh.none z), n⟩) Dv
/-- f(xs, ..), xs a list that we own and f changes -/
theorem vp_callO {R : List Dt → List Dt → (Dt → List Dt → Prop) → Prop} {y : Str} {py : Pos} (i : Nat) (F : Fn X.prog X.w X.K X.mg X.base x k (spO X.K R)) (hr : Room j X.A) (hk : k ≤ j) (hg : Gl X x)
    (hN : X.N[i]? = some y) (hv : Vis X.env.scope y)
    (h : VA X es as fun rest es1 => ∃ b ds, es1[i]? = some (.ow b ds) ∧ R ds rest fun d ds' => Ψ d (es1.set i (.ow b ds'))) (hi : ∃ b ds, es[i]? = some (.ow b ds)) (hdb : (x == ("__debug__" : Str)) = false := by decide)
    (he : starEach (.Name y py :: as) X.env = (false, eval (.Name y py) X.env) :: starEach as X.env := by rfl) (hpl : (backTo pos (starEach as X.env)).any (·.1) = false := by rfl)
    (hd : (y == ("__debug__" : Str)) = false := by decide) (hcd : (y == ("__classdict__" : Str)) = false := by decide) :
    VP X es (.Call (.Name x p) (.Name y py :: as) [] pos) Ψ := fun Fm B H σ I Q q => by
  obtain ⟨f, fd, ps, FO, hm, hkp, hb⟩ := F.ex
  refine EX.of (pe_call FO (hr.mono hk) hg hm hkp hb .nil (pass0 (X := X)) (pa_cons (pe_var hN hv hd hcd) pa_self he) hdb he hpl) ?_
  obtain ⟨b0, ds0, h0⟩ := hi
  obtain ⟨ad0, a0, _⟩ := I.ow
  obtain ⟨s0, _⟩ := a0 i b0 ds0 h0
  refine ⟨_, s0, ?_⟩
  refine h Fm B H σ I _ fun vs rest B1 H1 es1 ⟨b, ds, h1, hR⟩ I1 S1 D1 => ?_
  obtain ⟨ad, a1, a2⟩ := I1.ow
  obtain ⟨s1, b1, f1, xs, g1, dx⟩ := a1 i b ds h1
  have ep : ad0 i = ad i := by rw [s0] at s1; injection s1 with s1; injection s1 with s1; injection s1
  rw [List.append_nil, ep]
  refine ⟨B1, ad i, vs, xs, ds, rest, _, rfl, I1.bh, b1, g1, dx, D1, hR, fun v d ds' xs' B2 H2 hd eb kp gp dx' bh n Dv => ?_⟩
  have som : ∀ a, H1 a ≠ none → H2 a ≠ none := fun a h z => by
    by_cases ha : a = ad i
    · rw [ha, gp] at z; cases z
    · cases q : H1 a with
      | none => exact h q
      | some o => rw [kp a o q ha] at z; cases z
  -- the slots again
  have I2 : En X.K Fm B2 H2 σ (es1.set i (.ow b ds')) := by
    have hil : i < es1.length := (List.getElem?_eq_some_iff.mp h1).1
    refine ⟨bh, I1.fb.tr eb, fun a o hf hS => ?_, fun a hf => ?_, fun a ha => som a (I1.st a ha), by rw [List.length_set]; exact I1.len, fun m d' hm => ?_, ad, fun m b' ds'' hm => ?_, fun m l c1 c2 d1 d2 hm hl => ?_⟩
    · refine kp a o (I1.fh a o hf hS) fun z => ?_
      cases b with
      | true => have z2 := f1.1 rfl; rw [← z, hf] at z2; cases z2
      | false => exact hS (z ▸ f1.2 rfl)
    · have : H1 a ≠ none := fun z => hf (I1.fnone z)
      rw [n a this, I1.fr a hf]
    · rcases set_get hm with ⟨e, e2⟩ | ⟨e, e2⟩
      · cases e2
      · obtain ⟨u, q1, q2⟩ := I1.fz m d' e2
        exact ⟨u, q1, eb.dp d' u q2⟩
    · rcases set_get hm with ⟨e, e2⟩ | ⟨e, e2⟩
      · subst e; cases e2
        exact ⟨s1, by rw [n _ (by rw [g1]; simp)]; exact b1, f1, xs', gp, dx'⟩
      · obtain ⟨c1, c2, c3, ys, c4, c5⟩ := a1 m b' ds'' e2
        have ne : ad m ≠ ad i := fun z => e (a2 i m b b' ds ds'' h1 e2 z.symm)
        exact ⟨c1, by rw [n _ (by rw [c4]; simp)]; exact c2, c3, ys, kp _ _ c4 ne, eb.dpa ds'' ys c5⟩
    · have old : ∀ (m : Nat) (bm : Bool) (dm : List Dt), (es1.set i (.ow b ds'))[m]? = some (.ow bm dm) → ∃ bm' dm', es1[m]? = some (.ow bm' dm') := fun m bm dm hm => by
        rcases set_get hm with ⟨e, e2⟩ | ⟨e, e2⟩
        · exact ⟨b, ds, by rw [← e]; exact h1⟩
        · exact ⟨bm, dm, e2⟩
      obtain ⟨_, d1', q1⟩ := old m c1 d1 hm
      obtain ⟨_, d2', q2⟩ := old l c2 d2 hl
      exact a2 m l _ _ d1' d2' q1 q2
  have S2 : Stp σ B1 H1 es1 B2 H2 (es1.set i (.ow b ds')) := by
    refine ⟨fun m b' => ?_, eb, fun a o h no => kp a o h fun z => no i b ds h1 (by rw [z]; exact s1), som, n⟩
    constructor
    · rintro ⟨d2, hm⟩
      rcases set_get hm with ⟨e, e2⟩ | ⟨e, e2⟩
      · subst e; cases e2; exact ⟨ds, h1⟩
      · exact ⟨d2, e2⟩
    · rintro ⟨d2, hm⟩
      by_cases e : i = m
      · subst e
        rw [h1] at hm; cases hm
        exact ⟨ds', List.getElem?_set_self (List.getElem?_eq_some_iff.mp h1).1⟩
      · exact ⟨d2, by rw [List.getElem?_set_ne e]; exact hm⟩
  exact q v d B2 H2 _ hd I2 (S1.tr S2) Dv

/-! ### built-in functions -/
theorem vals_dp1 {K : PySem.W.Frag} {B : Hp} {vs : List V} {d : Dt} (h : DqAll K B vs [d]) : ∃ v, vs = [v] ∧ Dq K B v d := by
  cases h with
  | cons h1 h2 => cases h2; exact ⟨_, rfl, h1⟩
theorem vals_dp2 {K : PySem.W.Frag} {B : Hp} {vs : List V} {d d2 : Dt} (h : DqAll K B vs [d, d2]) : ∃ v u, vs = [v, u] ∧ Dq K B v d ∧ Dq K B u d2 := by
  cases h with
  | cons h1 h2 =>
    obtain ⟨u, rfl, hu⟩ := vals_dp1 h2
    exact ⟨_, u, rfl, h1, hu⟩
/-- a built-in by its call rule, told on data -/
theorem vp_cb {id : String} {r : List V → Hp → VK → Prop} (hc : CallR X (.builtin id) r) (hg : Gl X x) (hm : X.mg x = none) (hv : bootBuiltins x = some (.builtin id)) (hn : x ≠ "__name__") (hdb : (x == ("__debug__" : Str)) = false)
    (h : VA X es (e :: as) fun ds es1 => ∀ (F : Fm) (σ : L2.St) (B H : Hp) (vs : List V), En X.K F B H σ es1 → DqAll X.K B vs ds → ∀ Q : VK, (∀ (v : V) (d : Dt) (B' H' : Hp), Ψ d es1 → En X.K F B' H' σ es1 → Stp σ B H es1 B' H' es1 → Dq X.K B' v d → Q v H') → r vs H Q)
    (he : starEach (e :: as) X.env = (false, eval e X.env) :: starEach as X.env := by rfl) (hpl : (backTo pos (starEach as X.env)).any (·.1) = false := by rfl) :
    VP X es (.Call (.Name x p) (e :: as) [] pos) Ψ := fun F B H σ I Q q => by
  refine EX.of (pe_callB hc hg hm hv pa_self hn hdb he hpl) ?_
  refine h F B H σ I _ fun vs ds B1 H1 es1 hr I1 S1 D1 => ?_
  exact hr F σ B1 H1 vs I1 D1 Q fun v d B2 H2 hd I2 S2 D2 => q v d B2 H2 es1 hd I2 (S1.tr S2) D2
theorem vp_ct {T : String} {r : List V → Hp → VK → Prop} (hc : CallR X (.type T) r) (hg : Gl X x) (hm : X.mg x = none) (hv : bootBuiltins x = some (.type T)) (hn : x ≠ "__name__") (hdb : (x == ("__debug__" : Str)) = false)
    (h : VA X es (e :: as) fun ds es1 => ∀ (F : Fm) (σ : L2.St) (B H : Hp) (vs : List V), En X.K F B H σ es1 → DqAll X.K B vs ds → ∀ Q : VK, (∀ (v : V) (d : Dt) (B' H' : Hp), Ψ d es1 → En X.K F B' H' σ es1 → Stp σ B H es1 B' H' es1 → Dq X.K B' v d → Q v H') → r vs H Q)
    (he : starEach (e :: as) X.env = (false, eval e X.env) :: starEach as X.env := by rfl) (hpl : (backTo pos (starEach as X.env)).any (·.1) = false := by rfl) :
    VP X es (.Call (.Name x p) (e :: as) [] pos) Ψ := fun F B H σ I Q q => by
  refine EX.of (pe_callTy hc hg hm hv pa_self hn hdb he hpl) ?_
  refine h F B H σ I _ fun vs ds B1 H1 es1 hr I1 S1 D1 => ?_
  exact hr F σ B1 H1 vs I1 D1 Q fun v d B2 H2 hd I2 S2 D2 => q v d B2 H2 es1 hd I2 (S1.tr S2) D2
theorem vp_abs (hm : X.mg "abs" = none) (hg : Gl X "abs") (h : VP X es e fun d es1 => ∃ i, d = .int i ∧ Ψ (.int (if i < 0 then -i else i)) es1)
    (he : starEach (e :: []) X.env = (false, eval e X.env) :: starEach [] X.env := by rfl) (hpl : (backTo pos (starEach [] X.env)).any (·.1) = false := by rfl) : VP X es (.Call (.Name "abs" p) [e] [] pos) Ψ :=
  vp_cb call_abs hg hm (by decide +kernel) (by decide) (by decide) (va_cons (h.imp fun d es1 ⟨i, hd, hq⟩ => va_nil fun F σ B H vs I D Q q => by
    obtain ⟨v, rfl, D1⟩ := vals_dp1 D
    subst hd; cases D1
    exact ⟨i, rfl, q _ _ B H hq I Stp.rfl' (.int _)⟩) he) he hpl
theorem vp_int1 (hm : X.mg "int" = none) (hg : Gl X "int") (h : VP X es e fun d es1 => (∃ i, d = .int i ∧ Ψ (.int i) es1) ∨ (∃ b, d = .bool b ∧ Ψ (.int (if b then 1 else 0)) es1))
    (he : starEach (e :: []) X.env = (false, eval e X.env) :: starEach [] X.env := by rfl) (hpl : (backTo pos (starEach [] X.env)).any (·.1) = false := by rfl) : VP X es (.Call (.Name "int" p) [e] [] pos) Ψ :=
  vp_ct call_int1 hg hm (by decide +kernel) (by decide) (by decide) (va_cons (h.imp fun d es1 hh => va_nil fun F σ B H vs I D Q q => by
    obtain ⟨v, rfl, D1⟩ := vals_dp1 D
    rcases hh with ⟨i, hd, hq⟩ | ⟨i, hd, hq⟩
    · subst hd; cases D1
      exact .inl ⟨i, rfl, q _ _ B H hq I Stp.rfl' (.int _)⟩
    · subst hd; cases D1
      exact .inr ⟨i, rfl, q _ _ B H hq I Stp.rfl' (.int _)⟩) he) he hpl
theorem vp_max2 (hm : X.mg "max" = none) (hg : Gl X "max") (hc : X.calm = true) (h : VP X es a fun d es1 => ∃ i, d = .int i ∧ VP X es1 b fun d2 es2 => ∃ j, d2 = .int j ∧ Ψ (.int (if j > i then j else i)) es2)
    (he : starEach (a :: [b]) X.env = (false, eval a X.env) :: starEach [b] X.env := by rfl) (he2 : starEach (b :: []) X.env = (false, eval b X.env) :: starEach [] X.env := by rfl) (hpl : (backTo pos (starEach [b] X.env)).any (·.1) = false := by rfl) : VP X es (.Call (.Name "max" p) [a, b] [] pos) Ψ :=
  vp_cb (call_max2 hc) hg hm (by decide +kernel) (by decide) (by decide) (va_cons (h.imp fun d es1 ⟨i, hd, hb⟩ => va_cons (hb.imp fun d2 es2 ⟨j, hd2, hq⟩ => va_nil fun F σ B H vs I D Q q => by
    obtain ⟨v, u, rfl, D1, D2⟩ := vals_dp2 D
    subst hd; cases D1
    subst hd2; cases D2
    exact ⟨i, j, rfl, q _ _ B H hq I Stp.rfl' (.int _)⟩) he2) he) he hpl
theorem vp_min2 (hm : X.mg "min" = none) (hg : Gl X "min") (hc : X.calm = true) (h : VP X es a fun d es1 => ∃ i, d = .int i ∧ VP X es1 b fun d2 es2 => ∃ j, d2 = .int j ∧ Ψ (.int (if j < i then j else i)) es2)
    (he : starEach (a :: [b]) X.env = (false, eval a X.env) :: starEach [b] X.env := by rfl) (he2 : starEach (b :: []) X.env = (false, eval b X.env) :: starEach [] X.env := by rfl) (hpl : (backTo pos (starEach [b] X.env)).any (·.1) = false := by rfl) : VP X es (.Call (.Name "min" p) [a, b] [] pos) Ψ :=
  vp_cb (call_min2 hc) hg hm (by decide +kernel) (by decide) (by decide) (va_cons (h.imp fun d es1 ⟨i, hd, hb⟩ => va_cons (hb.imp fun d2 es2 ⟨j, hd2, hq⟩ => va_nil fun F σ B H vs I D Q q => by
    obtain ⟨v, u, rfl, D1, D2⟩ := vals_dp2 D
    subst hd; cases D1
    subst hd2; cases D2
    exact ⟨i, j, rfl, q _ _ B H hq I Stp.rfl' (.int _)⟩) he2) he) he hpl
theorem vp_len (hm : X.mg "len" = none) (hg : Gl X "len") (h : VP X es e fun d es1 => ∃ xs, SeqD d xs ∧ Ψ (.int xs.length) es1)
    (he : starEach (e :: []) X.env = (false, eval e X.env) :: starEach [] X.env := by rfl) (hpl : (backTo pos (starEach [] X.env)).any (·.1) = false := by rfl) : VP X es (.Call (.Name "len" p) [e] [] pos) Ψ :=
  vp_cb call_len_seq hg hm (by decide +kernel) (by decide) (by decide) (va_cons (h.imp fun d es1 ⟨xs, hd, hq⟩ => va_nil fun F σ B H vs I D Q q => by
    obtain ⟨v, rfl, D1⟩ := vals_dp1 D
    obtain ⟨a, ys, rfl, hsq, D2⟩ := seq_of D1 hd
    exact ⟨_, _, rfl, hsq.imp I.bh.sql I.bh.sqt, by rw [dpa_len D2]; exact q _ _ B H hq I Stp.rfl' (.int _)⟩) he) he hpl
theorem vp_gcd (hm : X.mg "gcd" = some (.builtin "math.gcd")) (hg : Gl X "gcd") (h : VP X es a fun d es1 => ∃ i, d = .int i ∧ VP X es1 b fun d2 es2 => ∃ j, d2 = .int j ∧ Ψ (.int (Int.gcd i j : Nat)) es2)
    (he : starEach (a :: [b]) X.env = (false, eval a X.env) :: starEach [b] X.env := by rfl) (he2 : starEach (b :: []) X.env = (false, eval b X.env) :: starEach [] X.env := by rfl) (hpl : (backTo pos (starEach [b] X.env)).any (·.1) = false := by rfl) : VP X es (.Call (.Name "gcd" p) [a, b] [] pos) Ψ := fun F B H σ I Q q => by
  refine EX.of (pe_callBfun cr_gcd hg hm pa_self (by decide) he hpl) ?_
  have H0 : VA X es [a, b] (fun ds es2 => ∃ i j, ds = [.int i, .int j] ∧ Ψ (.int (Int.gcd i j : Nat)) es2) :=
    va_cons (h.imp fun d es1 ⟨i, hd, hb⟩ => va_cons (hb.imp fun d2 es2 ⟨j, hd2, hq⟩ => va_nil ⟨i, j, by rw [hd, hd2], hq⟩) he2) he
  refine H0 F B H σ I _ fun vs ds B1 H1 es1 ⟨i, j, hds, hq⟩ I1 S1 D1 => ?_
  subst hds
  obtain ⟨v, u, rfl, D1, D2⟩ := vals_dp2 D1
  cases D1; cases D2
  exact ⟨i, j, rfl, q _ _ B1 H1 es1 hq I1 S1 (.int _)⟩
theorem vp_sum (hm : X.mg "sum" = none) (hg : Gl X "sum") (hc : X.calm = true) (h : VP X es e fun d es1 => ∃ ns : List Int, d = .list (ns.map Dt.int) ∧ Ψ (.int ns.sum) es1)
    (he : starEach (e :: []) X.env = (false, eval e X.env) :: starEach [] X.env := by rfl) (hpl : (backTo pos (starEach [] X.env)).any (·.1) = false := by rfl) : VP X es (.Call (.Name "sum" p) [e] [] pos) Ψ :=
  vp_cb (cr_sum hc) hg hm (by decide +kernel) (by decide) (by decide) (va_cons (h.imp fun d es1 ⟨ns, hd, hq⟩ => va_nil fun F σ B H vs I D Q q => by
    obtain ⟨v, rfl, D1⟩ := vals_dp1 D
    subst hd
    cases D1 with
    | lst h1 h2 =>
      have := dpa_ints h2
      subst this
      exact ⟨_, ns, rfl, .inl (.inl (I.bh _ _ h1)), q _ _ B H hq I Stp.rfl' (.int _)⟩) he) he hpl
theorem vp_all (hm : X.mg "all" = none) (hg : Gl X "all") (hc : X.calm = true) (h : VP X es e fun d es1 => ∃ ns : List Bool, d = .list (ns.map Dt.bool) ∧ Ψ (.bool (ns.all id)) es1)
    (he : starEach (e :: []) X.env = (false, eval e X.env) :: starEach [] X.env := by rfl) (hpl : (backTo pos (starEach [] X.env)).any (·.1) = false := by rfl) : VP X es (.Call (.Name "all" p) [e] [] pos) Ψ :=
  vp_cb (cr_all hc) hg hm (by decide +kernel) (by decide) (by decide) (va_cons (h.imp fun d es1 ⟨ns, hd, hq⟩ => va_nil fun F σ B H vs I D Q q => by
    obtain ⟨v, rfl, D1⟩ := vals_dp1 D
    subst hd
    cases D1 with
    | lst h1 h2 =>
      have := dpa_bools h2
      subst this
      exact ⟨_, ns, rfl, .inl (.inl (I.bh _ _ h1)), q _ _ B H hq I Stp.rfl' (.bl _)⟩) he) he hpl
theorem vp_tuple (hm : X.mg "tuple" = none) (hg : Gl X "tuple") (h : VP X es e fun d es1 => ∃ xs, SeqD d xs ∧ Ψ (.tuple xs) es1)
    (he : starEach (e :: []) X.env = (false, eval e X.env) :: starEach [] X.env := by rfl) (hpl : (backTo pos (starEach [] X.env)).any (·.1) = false := by rfl) : VP X es (.Call (.Name "tuple" p) [e] [] pos) Ψ :=
  vp_ct call_tuple_of hg hm (by decide +kernel) (by decide) (by decide) (va_cons (h.imp fun d es1 ⟨xs, hd, hq⟩ => va_nil fun F σ B H vs I D Q q => by
    obtain ⟨v, rfl, D1⟩ := vals_dp1 D
    obtain ⟨a, ys, rfl, hsq, D2⟩ := seq_of D1 hd
    rcases hsq with h1 | h1
    · exact ⟨_, _, rfl, .inl ⟨I.bh.sql h1, fun l hl => q _ _ _ _ hq (I.new hl) (Stp.new I hl) (.tup (.inl (.inl upd_same)) ((I.newB hl).dpa _ _ D2))⟩⟩
    · exact ⟨_, _, rfl, .inr ⟨I.bh.sqt h1, q _ _ B H hq I Stp.rfl' (.tup h1 D2)⟩⟩) he) he hpl
theorem vp_listOf (hm : X.mg "list" = none) (hg : Gl X "list") (h : VP X es e fun d es1 => ∃ xs, SeqD d xs ∧ Ψ (.list xs) es1)
    (he : starEach (e :: []) X.env = (false, eval e X.env) :: starEach [] X.env := by rfl) (hpl : (backTo pos (starEach [] X.env)).any (·.1) = false := by rfl) : VP X es (.Call (.Name "list" p) [e] [] pos) Ψ :=
  vp_ct call_list_of hg hm (by decide +kernel) (by decide) (by decide) (va_cons (h.imp fun d es1 ⟨xs, hd, hq⟩ => va_nil fun F σ B H vs I D Q q => by
    obtain ⟨v, rfl, D1⟩ := vals_dp1 D
    obtain ⟨a, ys, rfl, hsq, D2⟩ := seq_of D1 hd
    exact ⟨_, _, rfl, hsq.imp I.bh.sql I.bh.sqt, fun l hl => q _ _ _ _ hq (I.new hl) (Stp.new I hl) (.lst upd_same ((I.newB hl).dpa _ _ D2))⟩) he) he hpl

/-! ### isinstance with a built-in class -/
def tyN : Dt → Option String
  | .none => some "NoneType"
  | .bool _ => some "bool"
  | .int _ => some "int"
  | .str _ => some "str"
  | .list _ => some "list"
  | .tuple _ => some "tuple"
  | .dK _ _ => some "dict"
  | .dT _ _ => some "dict"
  | .obj _ _ _ => Option.none
  | .scr _ => some "list"
theorem dp_ty {K : PySem.W.Frag} {H : Hp} {v : V} {d : Dt} {n : String} (h : Dq K H v d) (hn : tyN d = some n) : TyX K H v (.type n) := by
  cases h with
  | non => cases hn; exact .base .non
  | bl b => cases hn; exact .base (.bl b)
  | int i => cases hn; exact .base (.int i)
  | str x => cases hn; exact .base (.str x)
  | lst h1 _ =>
    cases hn
    exact .base (.lst h1)
  | scr h1 _ =>
    cases hn
    rcases h1 with (h | ⟨o, h⟩) | ⟨o, its, n, h, hc, _⟩
    · exact .base (.lst h)
    · exact .base (.frz h)
    · exact .kList h hc
  | tup h1 _ =>
    cases hn
    rcases h1 with (h | ⟨o, h⟩) | ⟨o, its, n, h, hc, _⟩
    · exact .base (.tup h)
    · exact .fTuple h
    · exact .kTuple h hc
  | dK _ h _ => cases hn; exact .base (.dK h)
  | dT _ h _ => cases hn; exact .base (.dT h)
  | obj _ h _ => cases hn
/-- isinstance(e, T), T a built-in class -/
theorem vp_isi {T : Str} {Tn : String} {p2 : Pos} (hm : X.mg "isinstance" = none) (hg : Gl X "isinstance") (hmT : X.mg T = none) (hgT : Gl X T) (hvT : bootBuiltins T = some (.type Tn)) (hnT : T ≠ "__name__") (hdT : (T == ("__debug__" : Str)) = false)
    (h : VP X es e fun d es1 => ∃ n k, tyN d = some n ∧ kitB n Tn = some k ∧ Ψ (.bool k) es1)
    (he : starEach (e :: [.Name T p2]) X.env = (false, eval e X.env) :: starEach [.Name T p2] X.env := by rfl) (he2 : starEach (.Name T p2 :: []) X.env = (false, eval (.Name T p2) X.env) :: starEach [] X.env := by rfl)
    (hpl : (backTo pos (starEach [.Name T p2] X.env)).any (·.1) = false := by rfl) : VP X es (.Call (.Name "isinstance" p) [e, .Name T p2] [] pos) Ψ := fun F B H σ I Q q => by
  refine EX.of (pe_callB call_isi hg hm (by decide +kernel) (pa_cons pe_self (pa_cons (pe_bltn (v := .ty Tn) hgT hmT hvT rfl hnT hdT) pa_nil he2) he) (by decide) (by decide) he hpl) ?_
  refine h F B H σ I _ fun v d B1 H1 es1 ⟨n, k, hn, hk, hq⟩ I1 S1 D1 => ?_
  exact ⟨v, .ty Tn, .type n, .type Tn, k, rfl, .ty Tn, dp_ty (I1.bh.dp _ _ D1) hn, kit_ty hk, q _ _ B1 H1 es1 hq I1 S1 (.bl _)⟩
end

/-! ### statements -/
structure Po where
  nx : List Sl → Prop
  rt : Dt → List Sl → Prop
  bk : List Sl → Prop := fun _ => False
  ct : List Sl → Prop := fun _ => False
  rl : List Dt → List Sl → Prop := fun _ _ => False
section
variable {X : Cx}
structure DoneAs (X : Cx) (F : Fm) (B : Hp) (P : Po) (D : Ends) : Prop where
  nx : ∀ (es' : List Sl) (B' H' : Hp) (σ' : L2.St), P.nx es' → En X.K F B' H' σ' es' → Ext B B' → D.nx σ' H'
  rt : ∀ (v : V) (d : Dt) (es' : List Sl) (B' H' : Hp) (σ' : L2.St), P.rt d es' → En X.K F B' H' σ' es' → Dq X.K B' v d → D.rt v H'
  bk : ∀ (es' : List Sl) (B' H' : Hp) (σ' : L2.St), P.bk es' → En X.K F B' H' σ' es' → Ext B B' → D.bk σ' H'
  ct : ∀ (es' : List Sl) (B' H' : Hp) (σ' : L2.St), P.ct es' → En X.K F B' H' σ' es' → Ext B B' → D.ct σ' H'
  rl : ∀ (p : Addr) (xs : List V) (ds : List Dt) (es' : List Sl) (B' H' : Hp) (σ' : L2.St), P.rl ds es' → En X.K F B' H' σ' es' → F.H p = none → B' p = none → H' p = some (.lst xs) → DqAll X.K B' xs ds → D.rt (.ref p) H'
theorem DoneAs.up {F : Fm} {B B1 : Hp} {P : Po} {D : Ends} (d : DoneAs X F B P D) (e : Ext B B1) : DoneAs X F B1 P D :=
  ⟨fun a b c f g h k => d.nx a b c f g h (e.tr k), d.rt, fun a b c f g h k => d.bk a b c f g h (e.tr k), fun a b c f g h k => d.ct a b c f g h (e.tr k), d.rl⟩
/-- a statement; a block -/
def WS (X : Cx) (es : List Sl) (st : Stmt) (P : Po) : Prop := ∀ (F : Fm) (B H : Hp) (σ : L2.St), En X.K F B H σ es → ∀ D : Ends, DoneAs X F B P D → SX X st D σ H
def WB (X : Cx) (es : List Sl) (sts : List Stmt) (P : Po) : Prop := ∀ (F : Fm) (B H : Hp) (σ : L2.St), En X.K F B H σ es → ∀ D : Ends, DoneAs X F B P D → SSX X sts D σ H
variable {es : List Sl} {P : Po} {st : Stmt} {rest body orelse : List Stmt} {e a b c : Expr} {pos p : Pos} {x : Str}
theorem wb_nil (h : P.nx es) : WB X es [] P := fun F B H σ I D d => SSX.of pss_nil (d.nx es B H σ h I (Ext.rfl' B))
theorem wb_cons (h : WS X es st { P with nx := fun es1 => WB X es1 rest P }) : WB X es (st :: rest) P := fun F B H σ I D d => by
  refine SSX.of (pss_cons ps_self pss_self) ?_
  exact h F B H σ I _ ⟨fun es' B' H' σ' w I' e' => w F B' H' σ' I' D (d.up e'), d.rt, d.bk, d.ct, d.rl⟩
theorem ws_pass (h : P.nx es) : WS X es (.Pass pos) P := fun F B H σ I D d => SX.of ps_pass (d.nx es B H σ h I (Ext.rfl' B))
theorem ws_break (h : P.bk es) : WS X es (.Break pos) P := fun F B H σ I D d => SX.of ps_break (d.bk es B H σ h I (Ext.rfl' B))
theorem ws_continue (h : P.ct es) : WS X es (.Continue pos) P := fun F B H σ I D d => SX.of ps_continue (d.ct es B H σ h I (Ext.rfl' B))
theorem ws_ret (h : VP X es e P.rt) : WS X es (.Return (some e) pos) P := fun F B H σ I D d => by
  refine SX.of (ps_ret pe_self) ?_
  exact h F B H σ I _ fun v dd B1 H1 es1 hq I1 S1 D1 => d.rt v dd es1 B1 H1 σ hq I1 D1
theorem ws_if (h : VT X es c fun p es1 => (p = true → WB X es1 body P) ∧ (p = false → WB X es1 orelse P)) : WS X es (.If c body orelse pos) P := fun F B H σ I D d => by
  refine SX.of (ps_if pt_self pss_self pss_self) ?_
  refine h F B H σ I _ fun p B1 H1 es1 ⟨ht, hf⟩ I1 S1 => ?_
  cases p with
  | true => exact iteT (ht rfl F B1 H1 σ I1 D (d.up S1.eb))
  | false => exact iteF (hf rfl F B1 H1 σ I1 D (d.up S1.eb))
/-- x = e -/
theorem ws_set (i : Nat) {p' : Pos} (hN : X.N.Nodup) (hi : X.N[i]? = some x) (hx : Loc X.env.scope x) (h : VP X es e fun d es1 => P.nx (es1.set i (.fz d))) (hs : swapsWith e (some (.Name x p')) pos.line X.env = pure false := by rfl)
    (hf : X.fn x = true ∨ X.env.scope.names.lookup x = some .local := by first | exact .inl rfl | exact .inr rfl) : WS X es (.Assign [.Name x p'] e pos) P := fun F B H σ I D d => by
  refine SX.of (ps_set hN hi hx pe_self hs hf) ?_
  exact h F B H σ I _ fun v dd B1 H1 es1 hq I1 S1 D1 => d.nx _ B1 H1 _ hq (I1.put D1) S1.eb
/-- x = [a, ..], the list the def's own -/
theorem ws_setO (i : Nat) {p' : Pos} {as : List Expr} {p2 : Pos} (hN : X.N.Nodup) (hi : X.N[i]? = some x) (hx : Loc X.env.scope x) (h : VA X es as fun ds es1 => ds.length ≤ 100000 ∧ P.nx (es1.set i (.ow true ds))) (hs : swapsWith (.List as p2) (some (.Name x p')) pos.line X.env = pure false := by rfl)
    (hf : X.fn x = true ∨ X.env.scope.names.lookup x = some .local := by first | exact .inl rfl | exact .inr rfl) : WS X es (.Assign [.Name x p'] (.List as p2) pos) P := fun F B H σ I D d => by
  refine SX.of (ps_set hN hi hx (pe_lst pa_self) hs hf) ?_
  refine h F B H σ I _ fun vs ds B1 H1 es1 ⟨hl, hq⟩ I1 S1 D1 => ⟨by rw [dpa_len D1]; exact Nat.le_trans hl (by decide), fun l hp => ?_⟩
  exact d.nx _ B1 _ _ hq (I1.putO hp D1) S1.eb
/-- a list of the def's own is from now on data -/
theorem ws_freeze (i : Nat) {ds : List Dt} (he : es[i]? = some (.ow true ds)) (h : WS X (es.set i (.fz (.list ds))) st P) : WS X es st P := fun F B H σ I D d => by
  obtain ⟨B', eB, I'⟩ := I.freeze he
  exact h F B' H σ I' D (d.up eB)
theorem wb_freeze (i : Nat) {ds : List Dt} (he : es[i]? = some (.ow true ds)) (h : WB X (es.set i (.fz (.list ds))) rest P) : WB X es rest P := fun F B H σ I D d => by
  obtain ⟨B', eB, I'⟩ := I.freeze he
  exact h F B' H σ I' D (d.up eB)
/-- a, b = x, y -/
theorem ws_par (i j : Nat) {y : Str} {px py pt : Pos} {kt k2 : Nat} {pt2 : Pos} (hc : X.calm = true) (hN : X.N.Nodup) (hi : X.N[i]? = some x) (hj : X.N[j]? = some y) (hij : i ≠ j)
    (hx : X.env.scope.names.lookup x = some .local) (hy : X.env.scope.names.lookup y = some .local) (h : VA X es [a, b] fun ds es1 => ∃ d1 d2, ds = [d1, d2] ∧ P.nx ((es1.set i (.fz d1)).set j (.fz d2)))
    (hw : swappedStores [.Tuple [.Name x px, .Name y py] kt pt] (.Tuple [a, b] k2 pt2) X.env = pure (some [x, y]))
    (hs : swapsWithSole [.Tuple [.Name x px, .Name y py] kt pt] (.Tuple [a, b] k2 pt2) pos.line X.env = pure false := by rfl) :
    WS X es (.Assign [.Tuple [.Name x px, .Name y py] kt pt] (.Tuple [a, b] k2 pt2) pos) P := fun F B H σ I D d => by
  refine SX.of (ps_par hc hN hi hj hij hx hy pa_self hw hs) ?_
  refine h F B H σ I _ fun vs ds B1 H1 es1 ⟨d1, d2, hd, hq⟩ I1 S1 D1 => ?_
  subst hd
  obtain ⟨v, u, rfl, Da, Db⟩ := vals_dp2 D1
  exact ⟨v, u, rfl, d.nx _ B1 H1 _ hq ((I1.put Da).put Db) S1.eb⟩

/-! ### targets: a name, names in a tuple -/
/-- the slots behind names that take items from the left -/
def putAll (es : List Sl) : List (Nat × Dt) → List Sl
  | [] => es
  | (i, d) :: r => putAll (es.set i (.fz d)) r
def GT (X : Cx) (tg : Expr) (f : Dt → List Sl → (List Sl → Prop) → Prop) : Prop :=
  ∃ t : TG, PG X tg t ∧ ∀ (F : Fm) (B H : Hp) (σ : L2.St) (es : List Sl) (v : V) (d : Dt), En X.K F B H σ es → Dq X.K B v d → ∀ (Q : L2.St → Hp → Prop) (N : List Sl → Prop), f d es N → (∀ (es' : List Sl) (σ' : L2.St), N es' → En X.K F B H σ' es' → Q σ' H) → t v σ H Q
theorem gt_name (i : Nat) {p' : Pos} (hN : X.N.Nodup) (hi : X.N[i]? = some x) (hx : Loc X.env.scope x) (hf : X.fn x = true ∨ X.env.scope.names.lookup x = some .local := by first | exact .inl rfl | exact .inr rfl) :
    GT X (.Name x p') fun d es N => N (es.set i (.fz d)) :=
  ⟨gName i, pg_name hN hi hx hf, fun F B H σ es v d I D Q N h k => k _ _ h (I.put D)⟩
def GTs (X : Cx) (ts : List Expr) (f : List Dt → List Sl → (List Sl → Prop) → Prop) : Prop :=
  ∃ t : TGs, PGs X ts t ∧ ∀ (F : Fm) (B H : Hp) (σ : L2.St) (es : List Sl) (vs : List V) (ds : List Dt), En X.K F B H σ es → DqAll X.K B vs ds → ∀ (Q : L2.St → Hp → Prop) (N : List Sl → Prop), f ds es N → (∀ (es' : List Sl) (σ' : L2.St), N es' → En X.K F B H σ' es' → Q σ' H) → t vs σ H Q
theorem gts_nil : GTs X [] fun ds es N => ds = [] ∧ N es :=
  ⟨gNil, pgs_nil, fun F B H σ es vs ds I D Q N h k => by
    obtain ⟨rfl, h⟩ := h
    cases D
    exact ⟨rfl, k _ _ h I⟩⟩
theorem gts_cons {t : Expr} {ts : List Expr} {f : Dt → List Sl → (List Sl → Prop) → Prop} {g : List Dt → List Sl → (List Sl → Prop) → Prop} (h1 : GT X t f) (h2 : GTs X ts g)
    (hs : (assignEach (t :: ts) X.env).map (·.2) = assign t X.env :: (assignEach ts X.env).map (·.2) := by rfl) : GTs X (t :: ts) fun ds es N => ∃ d r, ds = d :: r ∧ f d es fun es1 => g r es1 N := by
  obtain ⟨t1, p1, q1⟩ := h1
  obtain ⟨t2, p2, q2⟩ := h2
  refine ⟨gCons t1 t2, pgs_cons p1 p2 hs, fun F B H σ es vs ds I D Q N h k => ?_⟩
  obtain ⟨d, r, rfl, h⟩ := h
  cases D with
  | cons D1 D2 =>
    refine ⟨_, _, rfl, ?_⟩
    exact q1 F B H σ es _ d I D1 _ _ h fun es1 σ1 h1 I1 => q2 F B H σ1 es1 _ r I1 D2 Q N h1 k
theorem gt_tup {ts : List Expr} {n k : Nat} {p' : Pos} {g : List Dt → List Sl → (List Sl → Prop) → Prop} (hc : X.calm = true) (h : GTs X ts g) (hn : (assignEach ts X.env).length = n := by rfl) (hst : (assignEach ts X.env).findIdx? (·.1) = none := by rfl) :
    GT X (.Tuple ts k p') fun d es N => ∃ ds, d = .tuple ds ∧ ds.length = n ∧ g ds es N := by
  obtain ⟨t, p1, q1⟩ := h
  refine ⟨gTup X.K n t, pg_tup hc p1 hn hst, fun F B H σ es v d I D Q N h k => ?_⟩
  obtain ⟨ds, rfl, hl, h⟩ := h
  cases D with
  | tup h1 h2 => exact ⟨_, _, rfl, I.bh.sqt h1, by rw [dpa_len h2]; exact hl, q1 F B H σ es _ ds I h2 Q N h k⟩
/-- target = e -/
theorem ws_asg {tg : Expr} {f : Dt → List Sl → (List Sl → Prop) → Prop} (g : GT X tg f) (h : VP X es e fun d es1 => f d es1 P.nx) (hs : swapsWithSole [tg] e pos.line X.env = pure false := by rfl) (hw : swappedStores [tg] e X.env = pure none := by rfl)
    (h1 : (assignEach [tg] X.env).map (·.2) = [assign tg X.env] := by rfl) : WS X es (.Assign [tg] e pos) P := fun F B H σ I D d => by
  obtain ⟨t, p1, q1⟩ := g
  refine SX.of (ps_asg pe_self p1 hs hw h1) ?_
  exact h F B H σ I _ fun v dd B1 H1 es1 hq I1 S1 D1 => q1 F B1 H1 σ es1 v dd I1 D1 _ _ hq fun es' σ' hn I' => d.nx es' B1 H1 σ' hn I' S1.eb

/-! ### loops -/
theorem ws_while (Iv : Nat → List Sl → Prop) (m0 : Nat) (h0 : Iv m0 es) (hp : PassesOwn (model X.prog X.w) X.A X.env X.xe)
    (hs : ∀ m es1, Iv m es1 → VT X es1 c fun p es2 => (p = true → WB X es2 body { P with nx := fun es3 => ∃ m', m' < m ∧ Iv m' es3, ct := fun es3 => ∃ m', m' < m ∧ Iv m' es3, bk := P.nx }) ∧ (p = false → P.nx es2)) :
    WS X es (.While c body [] pos) P := fun F B H σ I D d => by
  refine SX.of (ps_while hp pt_self pss_self) ?_
  refine ⟨fun m σ1 H1 => ∃ B1 es1, Iv m es1 ∧ En X.K F B1 H1 σ1 es1 ∧ Ext B B1, ⟨m0, B, es, h0, I, Ext.rfl' B⟩, fun m σ1 H1 ⟨B1, es1, hi, I1, e1⟩ => ?_⟩
  refine hs m es1 hi F B1 H1 σ1 I1 _ fun p B2 H2 es2 ⟨ht, hf⟩ I2 S2 => ?_
  cases p with
  | true =>
    refine iteT ⟨fun σ3 H3 => ∃ B3 es3, (∃ m', m' < m ∧ Iv m' es3) ∧ En X.K F B3 H3 σ3 es3 ∧ Ext B B3, fun σ3 H3 ⟨B3, es3, ⟨m', hm, hi3⟩, I3, e3⟩ => ⟨m', hm, B3, es3, hi3, I3, e3⟩, ?_⟩
    exact ht rfl F B2 H2 σ1 I2 _ ⟨fun es3 B3 H3 σ3 h3 I3 e3 => ⟨B3, es3, h3, I3, (e1.tr S2.eb).tr e3⟩, d.rt, fun es3 B3 H3 σ3 h3 I3 e3 => d.nx es3 B3 H3 σ3 h3 I3 ((e1.tr S2.eb).tr e3), fun es3 B3 H3 σ3 h3 I3 e3 => ⟨B3, es3, h3, I3, (e1.tr S2.eb).tr e3⟩, d.rl⟩
  | false => exact iteF (d.nx es2 B2 H2 σ1 (hf rfl) I2 (e1.tr S2.eb))
/-- what a loop asks, over items xs -/
def LoopAsk (X : Cx) (body : List Stmt) (P : Po) (f : Dt → List Sl → (List Sl → Prop) → Prop) (xs : List Dt) (es1 : List Sl) : Prop :=
  ∃ Iv : Nat → List Sl → Prop, Iv 0 es1 ∧ (∀ (i : Nat) (x : Dt) (es2 : List Sl), xs[i]? = some x → Iv i es2 → f x es2 fun es3 => WB X es3 body { P with nx := Iv (i + 1), ct := Iv (i + 1), bk := P.nx }) ∧ (∀ es2, Iv xs.length es2 → P.nx es2)
/-- for target in a list -/
theorem ws_forL {tg : Expr} {f : Dt → List Sl → (List Sl → Prop) → Prop} (hp : PassesOwn (model X.prog X.w) X.A X.env X.xe) (hc : X.calm = true) (g : GT X tg f)
    (h : VP X es e fun d es1 => ∃ xs, d = .list xs ∧ LoopAsk X body P f xs es1)
    (hs : ∀ x, foldedSetIterable e X.env x = pure x := by intro _; rfl) : WS X es (.For tg e body [] pos) P := fun F B H σ I D d => by
  obtain ⟨t, p1, q1⟩ := g
  refine SX.of (ps_for hp hc (pi_list pe_self) p1 pss_self hs) ?_
  refine h F B H σ I _ fun v dd B1 H1 es1 ⟨xs, hd, Iv, h0, ht, hn⟩ I1 S1 D1 => ?_
  subst hd
  cases D1 with
  | lst l1 l2 =>
    rename_i la lv
    refine ⟨la, rfl, ⟨lv, .inl (.inl (I1.bh _ _ l1))⟩, for_list (K := X.K) (a := la) (xs := lv) (fun i σ2 H2 => ∃ B2 es2, Iv i es2 ∧ En X.K F B2 H2 σ2 es2 ∧ Ext B1 B2) ⟨B1, es1, h0, I1, Ext.rfl' B1⟩ (fun i σ2 H2 _ ⟨B2, es2, _, I2, e2⟩ => .inl (.inl (I2.bh _ _ (e2 _ _ l1)))) (fun i y σ2 H2 hy ⟨B2, es2, hi, I2, e2⟩ => ?_) (fun σ2 H2 ⟨B2, es2, hi, I2, e2⟩ => ?_)⟩
    · obtain ⟨dx, hx, Dx⟩ := dpa_getv l2 hy
      refine q1 F B2 H2 σ2 es2 y dx I2 (e2.dp _ _ Dx) _ _ (ht i dx es2 hx hi) fun es3 σ3 h3 I3 => ?_
      exact h3 F B2 H2 σ3 I3 _ ⟨fun es4 B4 H4 σ4 h4 I4 e4 => ⟨B4, es4, h4, I4, e2.tr e4⟩, d.rt, fun es4 B4 H4 σ4 h4 I4 e4 => d.nx es4 B4 H4 σ4 h4 I4 (S1.eb.tr (e2.tr e4)), fun es4 B4 H4 σ4 h4 I4 e4 => ⟨B4, es4, h4, I4, e2.tr e4⟩, d.rl⟩
    · rw [dpa_len l2] at hi
      exact d.nx es2 B2 H2 σ2 (hn es2 hi) I2 (S1.eb.tr e2)
/-- for target in a tuple -/
theorem ws_forT {tg : Expr} {f : Dt → List Sl → (List Sl → Prop) → Prop} (hp : PassesOwn (model X.prog X.w) X.A X.env X.xe) (hc : X.calm = true) (g : GT X tg f)
    (h : VP X es e fun d es1 => ∃ xs, d = .tuple xs ∧ LoopAsk X body P f xs es1)
    (hs : ∀ x, foldedSetIterable e X.env x = pure x := by intro _; rfl) : WS X es (.For tg e body [] pos) P := fun F B H σ I D d => by
  obtain ⟨t, p1, q1⟩ := g
  refine SX.of (ps_for hp hc (pi_tup pe_self) p1 pss_self hs) ?_
  refine h F B H σ I _ fun v dd B1 H1 es1 ⟨xs, hd, Iv, h0, ht, hn⟩ I1 S1 D1 => ?_
  subst hd
  cases D1 with
  | tup l1 l2 =>
    rename_i la lv
    refine ⟨la, rfl, ⟨lv, I1.bh.sqt l1⟩, for_tup (K := X.K) (a := la) (xs := lv) (fun i σ2 H2 => ∃ B2 es2, Iv i es2 ∧ En X.K F B2 H2 σ2 es2 ∧ Ext B1 B2) ⟨B1, es1, h0, I1, Ext.rfl' B1⟩ (fun i σ2 H2 _ ⟨B2, es2, _, I2, e2⟩ => I2.bh.sqt (e2.sqt l1)) (fun i y σ2 H2 hy ⟨B2, es2, hi, I2, e2⟩ => ?_) (fun σ2 H2 ⟨B2, es2, hi, I2, e2⟩ => ?_)⟩
    · obtain ⟨dx, hx, Dx⟩ := dpa_getv l2 hy
      refine q1 F B2 H2 σ2 es2 y dx I2 (e2.dp _ _ Dx) _ _ (ht i dx es2 hx hi) fun es3 σ3 h3 I3 => ?_
      exact h3 F B2 H2 σ3 I3 _ ⟨fun es4 B4 H4 σ4 h4 I4 e4 => ⟨B4, es4, h4, I4, e2.tr e4⟩, d.rt, fun es4 B4 H4 σ4 h4 I4 e4 => d.nx es4 B4 H4 σ4 h4 I4 (S1.eb.tr (e2.tr e4)), fun es4 B4 H4 σ4 h4 I4 e4 => ⟨B4, es4, h4, I4, e2.tr e4⟩, d.rl⟩
    · rw [dpa_len l2] at hi
      exact d.nx es2 B2 H2 σ2 (hn es2 hi) I2 (S1.eb.tr e2)
/-- for target in range(n), range(lo, hi): the turns by a number -/
def RangeAsk (X : Cx) (body : List Stmt) (P : Po) (f : Dt → List Sl → (List Sl → Prop) → Prop) (lo : Int) (n : Nat) (es1 : List Sl) : Prop :=
  ∃ Iv : Nat → List Sl → Prop, Iv 0 es1 ∧ (∀ (i : Nat) (es2 : List Sl), i < n → Iv i es2 → f (.int (lo + i)) es2 fun es3 => WB X es3 body { P with nx := Iv (i + 1), ct := Iv (i + 1), bk := P.nx }) ∧ (∀ es2, Iv n es2 → P.nx es2)
theorem range_go {F : Fm} {t : TG} {tg : Expr} {f : Dt → List Sl → (List Sl → Prop) → Prop} {B B1 H1 : Hp} {σ : L2.St} {D : Ends} {es1 : List Sl} {lo : Int} {n : Nat} (d : DoneAs X F B P D) (eB : Ext B B1)
    (q1 : ∀ (F : Fm) (B H : Hp) (σ : L2.St) (es : List Sl) (v : V) (d : Dt), En X.K F B H σ es → Dq X.K B v d → ∀ (Q : L2.St → Hp → Prop) (N : List Sl → Prop), f d es N → (∀ (es' : List Sl) (σ' : L2.St), N es' → En X.K F B H σ' es' → Q σ' H) → t v σ H Q)
    (I1 : En X.K F B1 H1 σ es1) (h : RangeAsk X body P f lo n es1) :
    ∃ W : Nat → Nat → L2.St → Hp → Prop, (∃ m, W 0 m σ H1) ∧ ∀ i m σ H, W i m σ H →
      ((Itr lo n).stop i H ∧ D.nx σ H) ∨ ((Itr lo n).go i H ∧ ∃ N : L2.St → Hp → Prop, (∀ σ' H', N σ' H' → ∃ m', m' < m ∧ W (i + 1) m' σ' H') ∧ ∀ x H', (Itr lo n).yld i H x H' → t x σ H' fun σ2 H2 => SSX X body { D with nx := N, ct := N, bk := D.nx } σ2 H2) := by
  obtain ⟨Iv, h0, ht, hn⟩ := h
  refine for_range (g := t) (tb := SSX X body) (fun i σ2 H2 => ∃ B2 es2, Iv i es2 ∧ En X.K F B2 H2 σ2 es2 ∧ Ext B1 B2) ⟨B1, es1, h0, I1, Ext.rfl' B1⟩ (fun i σ2 H2 hi2 ⟨B2, es2, hi, I2, e2⟩ => ?_) (fun σ2 H2 ⟨B2, es2, hi, I2, e2⟩ => ?_)
  · refine q1 F B2 H2 σ2 es2 _ _ I2 (.int _) _ _ (ht i es2 hi2 hi) fun es3 σ3 h3 I3 => ?_
    exact h3 F B2 H2 σ3 I3 _ ⟨fun es4 B4 H4 σ4 h4 I4 e4 => ⟨B4, es4, h4, I4, e2.tr e4⟩, d.rt, fun es4 B4 H4 σ4 h4 I4 e4 => d.nx es4 B4 H4 σ4 h4 I4 (eB.tr (e2.tr e4)), fun es4 B4 H4 σ4 h4 I4 e4 => ⟨B4, es4, h4, I4, e2.tr e4⟩, d.rl⟩
  · exact d.nx es2 B2 H2 σ2 (hn es2 hi) I2 (eB.tr e2)
theorem ws_forR1 {tg : Expr} {pr : Pos} {f : Dt → List Sl → (List Sl → Prop) → Prop} (hp : PassesOwn (model X.prog X.w) X.A X.env X.xe) (hc : X.calm = true) (hm : X.mg "range" = none) (hg : Gl X "range") (g : GT X tg f)
    (h : VP X es a fun d es1 => ∃ n, d = .int n ∧ n < 2 ^ 62 ∧ -(2 ^ 62) ≤ n ∧ RangeAsk X body P f 0 n.toNat es1)
    (he : starEach [a] X.env = [(false, eval a X.env)] := by rfl)
    (hs : ∀ x, foldedSetIterable (.Call (.Name "range" pr) [a] [] p) X.env x = pure x := by intro _; rfl) : WS X es (.For tg (.Call (.Name "range" pr) [a] [] p) body [] pos) P := fun F B H σ I D d => by
  obtain ⟨t, p1, q1⟩ := g
  refine SX.of (ps_for hp hc (pi_range1 hg hm (pa_cons pe_self pa_nil he) he) p1 pss_self hs) ?_
  refine h F B H σ I _ fun v dd B1 H1 es1 ⟨n, hd, n1, n2, hR⟩ I1 S1 D1 => ?_
  subst hd; cases D1
  exact ⟨n, rfl, n2, n1, range_go (tg := tg) d S1.eb q1 I1 hR⟩
theorem ws_forR2 {tg : Expr} {pr : Pos} {f : Dt → List Sl → (List Sl → Prop) → Prop} (hp : PassesOwn (model X.prog X.w) X.A X.env X.xe) (hc : X.calm = true) (hm : X.mg "range" = none) (hg : Gl X "range") (g : GT X tg f)
    (h : VP X es a fun d es1 => ∃ lo, d = .int lo ∧ VP X es1 b fun d2 es2 => ∃ n, d2 = .int n ∧ (-(2 ^ 62) ≤ lo ∧ lo < 2 ^ 62 ∧ -(2 ^ 62) ≤ n ∧ n < 2 ^ 62) ∧ RangeAsk X body P f lo (n - lo).toNat es2)
    (he : starEach [a, b] X.env = [(false, eval a X.env), (false, eval b X.env)] := by rfl) (he2 : starEach [b] X.env = [(false, eval b X.env)] := by rfl)
    (hs : ∀ x, foldedSetIterable (.Call (.Name "range" pr) [a, b] [] p) X.env x = pure x := by intro _; rfl) : WS X es (.For tg (.Call (.Name "range" pr) [a, b] [] p) body [] pos) P := fun F B H σ I D d => by
  obtain ⟨t, p1, q1⟩ := g
  refine SX.of (ps_for hp hc (pi_range2 hg hm (pa_cons pe_self (pa_cons pe_self pa_nil he2) (by rw [he, he2])) he he2) p1 pss_self hs) ?_
  refine h F B H σ I _ fun v dd B1 H1 es1 ⟨lo, hd, hb⟩ I1 S1 D1 => ?_
  subst hd; cases D1
  refine hb F B1 H1 σ I1 _ fun v2 d2 B2 H2 es2 ⟨n, hd2, hn, hR⟩ I2 S2 D2 => ?_
  subst hd2; cases D2
  exact ⟨lo, n, rfl, hn, range_go (tg := tg) d (S1.eb.tr S2.eb) q1 I2 hR⟩
/-- xs.append(e), xs a list of the def's own -/
theorem ws_app (i : Nat) {p2 p3 : Pos} {b : Bool} {ds : List Dt} (hN : X.N[i]? = some x) (hv : Vis X.env.scope x) (he : es[i]? = some (.ow b ds))
    (h : VP X es e fun d es1 => ∃ b ds, es1[i]? = some (.ow b ds) ∧ ds.length < 100000 ∧ P.nx (es1.set i (.ow b (ds ++ [d]))))
    (hpe : ∀ {t : TE}, PE X e t → PE X (.Call (.Attribute (.Name x p) "append" p2) [e] [] p3) (tBM X.K "list" rAppend (tVar i) (tCons t tNil)))
    (hs : swapsWith (.Call (.Attribute (.Name x p) "append" p2) [e] [] p3) none pos.line X.env = pure false := by rfl) : WS X es (.Expr (.Call (.Attribute (.Name x p) "append" p2) [e] [] p3) pos) P := fun F B H σ I D d => by
  refine SX.of (ps_expr (hpe pe_self) hs) ?_
  obtain ⟨ad, h1, _⟩ := I.ow
  obtain ⟨s1, _, _, xs, g1, _⟩ := h1 i b ds he
  refine ⟨_, s1, .inl ⟨rfl, xs, .inl (.inl g1)⟩, ?_⟩
  refine h F B H σ I _ fun v dd B1 H1 es1 ⟨b1, ds1, he1, hl, hq⟩ I1 S1 D1 => ?_
  obtain ⟨ad', h1', _⟩ := I1.ow
  obtain ⟨s1', _, _, xs', g1', dx⟩ := h1' i b1 ds1 he1
  have ea : ad i = ad' i := by rw [s1] at s1'; injection s1' with z; injection z with z; injection z
  refine ⟨ad i, xs', v, rfl, rfl, by rw [ea]; exact g1', by rw [dpa_len dx]; exact Nat.lt_of_lt_of_le hl (by decide), ?_⟩
  exact d.nx _ B1 _ σ hq (I1.mut he1 s1 (dpa_app dx (.cons D1 .nil))) S1.eb
end
end Lv

set_option Elab.async false
set_option linter.all false
set_option maxRecDepth 100000
set_option maxHeartbeats 4000000
namespace Lv
open PySem PySem.Spec PyProof.Rows L2

/-! ### slots of a comprehension's own names -/
def wipeE (es : List Sl) : List Nat → List Sl
  | [] => es
  | v :: vs => (wipeE es vs).set v .no
theorem wipeE_get (es : List Sl) : ∀ (vs : List Nat) (i : Nat), (wipeE es vs)[i]? = if i ∈ vs then (es[i]?).map (fun _ => Sl.no) else es[i]?
  | [], i => by simp [wipeE]
  | v :: vs, i => by
    unfold wipeE
    by_cases e : v = i
    · subst e
      rw [List.getElem?_set_self', wipeE_get es vs v]
      simp only [List.mem_cons, true_or, if_true]
      split <;> cases es[v]? <;> rfl
    · rw [List.getElem?_set_ne e, wipeE_get es vs i]
      have : (i ∈ v :: vs) = (i ∈ vs) := by
        rw [List.mem_cons]
        exact propext ⟨fun z => z.resolve_left fun q => e q.symm, .inr⟩
      simp only [this]
theorem wipe_get (σ : L2.St) : ∀ (vs : List Nat) (i : Nat), (wipe σ vs)[i]? = if i ∈ vs then (σ[i]?).map (fun _ => (none : Option V)) else σ[i]?
  | [], i => by simp [wipe]
  | v :: vs, i => by
    unfold wipe
    by_cases e : v = i
    · subst e
      rw [List.getElem?_set_self', wipe_get σ vs v]
      simp only [List.mem_cons, true_or, if_true]
      split <;> cases σ[v]? <;> rfl
    · rw [List.getElem?_set_ne e, wipe_get σ vs i]
      have : (i ∈ v :: vs) = (i ∈ vs) := by
        rw [List.mem_cons]
        exact propext ⟨fun z => z.resolve_left fun q => e q.symm, .inr⟩
      simp only [this]
theorem wipe_set {σ : L2.St} {vs : List Nat} {j : Nat} {x : Option V} (h : j ∈ vs) : wipe (σ.set j x) vs = wipe σ vs := by
  apply List.ext_getElem?
  intro i
  rw [wipe_get, wipe_get]
  by_cases e : j = i
  · subst e
    rw [if_pos h, if_pos h, List.getElem?_set_self']
    cases σ[j]? <;> rfl
  · rw [List.getElem?_set_ne e]
theorem wipe_wipe {σ : L2.St} {vs : List Nat} : wipe (wipe σ vs) vs = wipe σ vs := by
  apply List.ext_getElem?
  intro i
  rw [wipe_get, wipe_get]
  split
  · cases σ[i]? <;> rfl
  · rfl
theorem wipeE_len (es : List Sl) : ∀ vs : List Nat, (wipeE es vs).length = es.length
  | [] => rfl
  | v :: vs => by unfold wipeE; rw [List.length_set, wipeE_len es vs]
def fzOnly : Sl → Sl
  | .fz d => .fz d
  | _ => .no
/-- behind a comprehension: its own names' slots as they were -/
def mrg (vs : List Nat) (k : Nat) : List Sl → List Sl → List Sl
  | a :: as, b :: bs => (if vs.contains k then fzOnly b else a) :: mrg vs (k + 1) as bs
  | as, _ => as
theorem mrg_get (vs : List Nat) : ∀ (as bs : List Sl) (k i : Nat), as.length = bs.length → (mrg vs k as bs)[i]? = if (k + i) ∈ vs then (bs[i]?).map fzOnly else as[i]?
  | [], [], k, i, _ => by simp [mrg]
  | a :: as, b :: bs, k, 0, h => by
    unfold mrg
    simp only [List.getElem?_cons_zero, Nat.add_zero, List.contains_iff_mem, Option.map_some]
    split <;> rfl
  | a :: as, b :: bs, k, i + 1, h => by
    unfold mrg
    simp only [List.getElem?_cons_succ]
    rw [mrg_get vs as bs (k + 1) i (by simpa using h)]
    have e : k + 1 + i = k + (i + 1) := by omega
    rw [e]
  | [], b :: bs, k, i, h => by simp at h
  | a :: as, [], k, i, h => by simp at h
theorem mrg_len (vs : List Nat) : ∀ (as bs : List Sl) (k : Nat), as.length = bs.length → (mrg vs k as bs).length = as.length
  | [], [], k, _ => by simp [mrg]
  | a :: as, b :: bs, k, h => by
    unfold mrg
    simp only [List.length_cons]
    rw [mrg_len vs as bs (k + 1) (by simpa using h)]
  | [], b :: bs, k, h => by simp at h
  | a :: as, [], k, h => by simp at h
def noOw (es : List Sl) (vs : List Nat) : Prop := ∀ v ∈ vs, ∀ (b : Bool) (ds : List Dt), es[v]? ≠ some (.ow b ds)
def Shp (es es' : List Sl) : Prop := ∀ (i : Nat) (b : Bool), (∃ ds, es'[i]? = some (.ow b ds)) ↔ ∃ ds, es[i]? = some (.ow b ds)
section
variable {K : PySem.W.Frag} {F : Fm} {B H : Hp} {σ : L2.St} {es : List Sl}
theorem En.wipe' (I : En K F B H σ es) (vs : List Nat) : En K F B H (wipe σ vs) (wipeE es vs) := by
  induction vs with
  | nil => exact I
  | cons v vs ih => exact ih.drop
theorem En.side (I : En K F B H σ es) {p : Addr} {o : HO} (hB : B p = none) (hF : F.H p = none) (hS : H p ≠ none) (hn : NotOwn σ es p) : En K F B (upd H p o) σ es where
  bh := fun a u e => by rw [upd_ne (ne_of_none e hB)]; exact I.bh a u e
  fb := I.fb
  fh := fun a u e hs => by rw [upd_ne (ne_of_none e hF)]; exact I.fh a u e hs
  fr := I.fr
  st := fun a ha z => by
    by_cases e : a = p
    · subst e; rw [upd_same] at z; cases z
    · rw [upd_ne e] at z; exact I.st a ha z
  len := I.len
  fz := I.fz
  ow := by
    obtain ⟨ad, h1, h2⟩ := I.ow
    refine ⟨ad, fun i b ds h => ?_, h2⟩
    obtain ⟨a1, a2, a3, xs, a4, a5⟩ := h1 i b ds h
    refine ⟨a1, a2, a3, xs, ?_, a5⟩
    rw [upd_ne (fun z => hn i b ds h (by rw [a1, z]))]
    exact a4
theorem En.adopt (I : En K F B H σ es) {p : Addr} {o : HO} (hB : B p = none) (hF : F.H p = none) (hH : H p = some o) (hn : NotOwn σ es p) : En K F (upd B p o) H σ es ∧ Ext B (upd B p o) := by
  have eB : Ext B (upd B p o) := fun a u e => by rw [upd_ne (ne_of_none e hB)]; exact e
  refine ⟨⟨fun a u e => ?_, I.fb.tr eB, I.fh, fun a e => ?_, I.st, I.len, fun i d h => ?_, ?_⟩, eB⟩
  · by_cases ha : a = p
    · subst ha; rw [upd_same] at e; rw [hH]; exact e
    · rw [upd_ne ha] at e; exact I.bh a u e
  · rw [upd_ne (fun z => e (by rw [z]; exact hF))]; exact I.fr a e
  · obtain ⟨v, h1, h2⟩ := I.fz i d h
    exact ⟨v, h1, eB.dp d v h2⟩
  · obtain ⟨ad, h1, h2⟩ := I.ow
    refine ⟨ad, fun i b ds h => ?_, h2⟩
    obtain ⟨a1, a2, a3, xs, a4, a5⟩ := h1 i b ds h
    exact ⟨a1, by rw [upd_ne (fun z => hn i b ds h (by rw [a1, z]))]; exact a2, a3, xs, a4, eB.dpa ds xs a5⟩
end

/-! ### a comprehension's target, its parts in the block's context -/
section
variable {X : Cx}
def KX (X : Cx) (scope : Scope) (T : Cx → Prop) : Prop := ∀ (s : Shared) (H : Hp) (C : Addr) (cl : List (Str × Addr)) (fp : List Addr), T (X.blk s H scope (compEnvC scope cl C X.env) fp)
def GTk (X : Cx) (scope : Scope) (vs : List Nat) (tg : Expr) (f : Dt → List Sl → (List Sl → Prop) → Prop) : Prop :=
  ∃ t : TG, (KX X scope fun X' => PG X' tg t) ∧ ∀ (F : Fm) (B H : Hp) (σ : L2.St) (es : List Sl) (v : V) (d : Dt), En X.K F B H σ es → Dq X.K B v d → noOw es vs → ∀ (Q : L2.St → Hp → Prop) (N : List Sl → Prop), f d es N →
    (∀ (es' : List Sl) (σ' : L2.St), N es' → En X.K F B H σ' es' → wipe σ' vs = wipe σ vs → (∀ a, NotOwn σ es a → NotOwn σ' es' a) → Shp es es' → Q σ' H) → t v σ H Q
def GTks (X : Cx) (scope : Scope) (vs : List Nat) (ts : List Expr) (f : List Dt → List Sl → (List Sl → Prop) → Prop) : Prop :=
  ∃ t : TGs, (KX X scope fun X' => PGs X' ts t) ∧ ∀ (F : Fm) (B H : Hp) (σ : L2.St) (es : List Sl) (us : List V) (ds : List Dt), En X.K F B H σ es → DqAll X.K B us ds → noOw es vs → ∀ (Q : L2.St → Hp → Prop) (N : List Sl → Prop), f ds es N →
    (∀ (es' : List Sl) (σ' : L2.St), N es' → En X.K F B H σ' es' → wipe σ' vs = wipe σ vs → (∀ a, NotOwn σ es a → NotOwn σ' es' a) → Shp es es' → Q σ' H) → t us σ H Q
theorem notOwn_put {σ : L2.St} {es : List Sl} {a : Addr} {i : Nat} {x : Option V} {d : Dt} (h : NotOwn σ es a) : NotOwn (σ.set i x) (es.set i (.fz d)) a := fun m b ds hm => by
  rcases set_get hm with ⟨e, e2⟩ | ⟨e, e2⟩
  · cases e2
  · rw [List.getElem?_set_ne e]; exact h m b ds e2
theorem shp_put {es : List Sl} {i : Nat} {d : Dt} (h : ∀ (b : Bool) (ds : List Dt), es[i]? ≠ some (.ow b ds)) : Shp es (es.set i (.fz d)) := fun m b => by
  constructor
  · rintro ⟨ds, hm⟩
    rcases set_get hm with ⟨e, e2⟩ | ⟨e, e2⟩
    · cases e2
    · exact ⟨ds, e2⟩
  · rintro ⟨ds, hm⟩
    by_cases e : i = m
    · subst e; exact absurd hm (h b ds)
    · exact ⟨ds, by rw [List.getElem?_set_ne e]; exact hm⟩
theorem noOw.shp {es es' : List Sl} {vs : List Nat} (h : noOw es vs) (s : Shp es es') : noOw es' vs := fun v hv b ds e => by
  obtain ⟨ds', e'⟩ := (s v b).mp ⟨ds, e⟩
  exact h v hv b ds' e'
theorem gtk_name {scope : Scope} {vs : List Nat} {x : Str} (i : Nat) {p' : Pos} (hi : i ∈ vs) (h : KX X scope fun X' => PG X' (.Name x p') (gName i)) : GTk X scope vs (.Name x p') fun d es N => N (es.set i (.fz d)) :=
  ⟨gName i, h, fun F B H σ es v d I D nw Q N hN k => k _ _ hN (I.put D) (wipe_set hi) (fun a => notOwn_put) (shp_put (nw i hi))⟩
theorem gtks_nil {scope : Scope} {vs : List Nat} : GTks X scope vs [] fun ds es N => ds = [] ∧ N es :=
  ⟨gNil, fun _ _ _ _ _ => pgs_nil, fun F B H σ es us ds I D nw Q N h k => by
    obtain ⟨rfl, h⟩ := h
    cases D
    exact ⟨rfl, k _ _ h I rfl (fun _ z => z) (fun _ _ => Iff.rfl)⟩⟩
theorem gtks_cons {scope : Scope} {vs : List Nat} {t : Expr} {ts : List Expr} {f : Dt → List Sl → (List Sl → Prop) → Prop} {g : List Dt → List Sl → (List Sl → Prop) → Prop} (h1 : GTk X scope vs t f) (h2 : GTks X scope vs ts g)
    (hs : KX X scope fun X' => (assignEach (t :: ts) X'.env).map (·.2) = assign t X'.env :: (assignEach ts X'.env).map (·.2) := by intro _ _ _ _ _; rfl) : GTks X scope vs (t :: ts) fun ds es N => ∃ d r, ds = d :: r ∧ f d es fun es1 => g r es1 N := by
  obtain ⟨t1, p1, q1⟩ := h1
  obtain ⟨t2, p2, q2⟩ := h2
  refine ⟨gCons t1 t2, fun s H C cl fp => pgs_cons (p1 s H C cl fp) (p2 s H C cl fp) (hs s H C cl fp), fun F B H σ es us ds I D nw Q N h k => ?_⟩
  obtain ⟨d, r, rfl, h⟩ := h
  cases D with
  | cons D1 D2 =>
    refine ⟨_, _, rfl, ?_⟩
    refine q1 F B H σ es _ d I D1 nw _ _ h fun es1 σ1 h1 I1 w1 n1 s1 => ?_
    refine q2 F B H σ1 es1 _ r I1 D2 (nw.shp s1) Q N h1 fun es2 σ2 h2 I2 w2 n2 s2 => ?_
    exact k es2 σ2 h2 I2 (w2.trans w1) (fun a z => n2 a (n1 a z)) (fun i b => (s2 i b).trans (s1 i b))
theorem gtk_tup {scope : Scope} {vs : List Nat} {ts : List Expr} {n k : Nat} {p' : Pos} {g : List Dt → List Sl → (List Sl → Prop) → Prop} (hc : X.calm = true) (h : GTks X scope vs ts g)
    (hn : KX X scope fun X' => (assignEach ts X'.env).length = n := by intro _ _ _ _ _; rfl) (hst : KX X scope fun X' => (assignEach ts X'.env).findIdx? (·.1) = none := by intro _ _ _ _ _; rfl) :
    GTk X scope vs (.Tuple ts k p') fun d es N => ∃ ds, d = .tuple ds ∧ ds.length = n ∧ g ds es N := by
  obtain ⟨t, p1, q1⟩ := h
  refine ⟨gTup X.K n t, fun s H C cl fp => pg_tup hc (p1 s H C cl fp) (hn s H C cl fp) (hst s H C cl fp), fun F B H σ es v d I D nw Q N h k => ?_⟩
  obtain ⟨ds, rfl, hl, h⟩ := h
  cases D with
  | tup h1 h2 => exact ⟨_, _, rfl, I.bh.sqt h1, by rw [dpa_len h2]; exact hl, q1 F B H σ es _ ds I h2 nw Q N h k⟩
/-- the tests of a clause -/
def PTX (X : Cx) (ifs : List Expr) : TT := fun σ H Q => ∀ (pins : List (Addr × Obj)) (s : Shared), Inv X pins σ H s →
  wpAny (model X.prog X.w) X.A (forIn ifs true fun c r => if r = true then do let ok ← isTrue c X.env (eval c X.env); pure (ForInStep.yield ok) else pure (ForInStep.yield r)) (L2.TP X pins σ Q) X.xe s
def VTs (X : Cx) (es : List Sl) (ifs : List Expr) (Ψ : Bool → List Sl → Prop) : Prop :=
  ∀ (F : Fm) (B H : Hp) (σ : L2.St), En X.K F B H σ es → ∀ Q : Bool → Hp → Prop, (∀ (b : Bool) (B' H' : Hp) (es' : List Sl), Ψ b es' → En X.K F B' H' σ es' → Stp σ B H es B' H' es' → Q b H') → PTX X ifs σ H Q
theorem vts_nil {es : List Sl} {Ψ : Bool → List Sl → Prop} (h : Ψ true es) : VTs X es [] Ψ := fun F B H σ I Q q pins s J => pts_nil.run pins s σ H Q J (q true B H es h I Stp.rfl')
theorem vts_one {es : List Sl} {c : Expr} {Ψ : Bool → List Sl → Prop} (h : VT X es c Ψ) : VTs X es [c] Ψ := fun F B H σ I Q q pins s J => (pts_one pt_self).run pins s σ H Q J (h F B H σ I Q q)

def TEk (X : Cx) (scope : Scope) (elt : Expr) : TE := fun σ H Q => KX X scope fun X' => EX X' elt σ H Q
def TTk (X : Cx) (scope : Scope) (ifs : List Expr) : TT := fun σ H Q => KX X scope fun X' => PTX X' ifs σ H Q
/-- what a comprehension asks -/
def CompAsk (X : Cx) (scope : Scope) (vs : List Nat) (ifs : List Expr) (elt : Expr) (f : Dt → List Sl → (List Sl → Prop) → Prop) (xs : List Dt) (es1 : List Sl) (Ψ : Dt → List Sl → Prop) : Prop :=
  noOw es1 vs ∧ xs.length ≤ 100000 ∧ ∃ Iv : Nat → List Dt → List Sl → Prop, Iv 0 [] (wipeE es1 vs) ∧
  (∀ (i : Nat) (x : Dt) (acc : List Dt) (es2 : List Sl), xs[i]? = some x → Iv i acc es2 → f x es2 fun es3 => KX X scope fun X' => VTs X' es3 ifs fun b es4 =>
    (b = true → KX X scope fun X' => VP X' es4 elt fun y es5 => Iv (i + 1) (acc ++ [y]) (wipeE es5 vs)) ∧ (b = false → Iv (i + 1) acc (wipeE es4 vs))) ∧
  (∀ (acc : List Dt) (es2 : List Sl), Iv xs.length acc es2 → Ψ (.list acc) (mrg vs 0 es2 es1))
/-- the state of a comprehension: D the new list -/
structure CSB (X : Cx) (F : Fm) (vs : List Nat) (σ : L2.St) (B1 H1 : Hp) (es1 : List Sl) (D : Addr) (i : Nat) (H2 : Hp) (Iv : Nat → List Dt → List Sl → Prop) (B2 : Hp) : Prop where
  ex : ∃ (es2 : List Sl) (vsA : List V) (acc : List Dt), Iv i acc es2 ∧ En X.K F B2 H2 (wipe σ vs) es2 ∧ Ext B1 B2 ∧ H2 D = some (.lst vsA) ∧ DqAll X.K B2 vsA acc ∧ acc.length ≤ i ∧ Shp (wipeE es1 vs) es2 ∧
    (∀ a o, H1 a = some o → NotOwn σ es1 a → H2 a = some o) ∧ (∀ a, H1 a ≠ none → H2 a ≠ none) ∧ (∀ a, H1 a ≠ none → B2 a = B1 a) ∧ B2 D = none
structure CS (X : Cx) (F : Fm) (vs : List Nat) (σ : L2.St) (B1 H1 : Hp) (es1 : List Sl) (D : Addr) (i : Nat) (H2 : Hp) (Iv : Nat → List Dt → List Sl → Prop) : Prop where
  ex : ∃ B2 : Hp, CSB X F vs σ B1 H1 es1 D i H2 Iv B2
theorem CSB.ext {F : Fm} {vs : List Nat} {σ : L2.St} {B1 H1 : Hp} {es1 : List Sl} {D : Addr} {i : Nat} {H2 : Hp} {Iv : Nat → List Dt → List Sl → Prop} {B2 : Hp} (c : CSB X F vs σ B1 H1 es1 D i H2 Iv B2) : Ext B1 B2 ∧ Ext B2 H2 := by
  obtain ⟨es2, vsA, acc, hI, I2, e2, _⟩ := c.ex
  exact ⟨e2, I2.bh⟩
/-- something new and frozen in between -/
theorem CSB.new {F : Fm} {vs : List Nat} {σ : L2.St} {B1 H1 : Hp} {es1 : List Sl} {D : Addr} {i : Nat} {H2 : Hp} {Iv : Nat → List Dt → List Sl → Prop} {B2 : Hp} (c : CSB X F vs σ B1 H1 es1 D i H2 Iv B2) {p : Addr} {o : HO} (h : H2 p = none) :
    CSB X F vs σ B1 H1 es1 D i (upd H2 p o) Iv (upd B2 p o) ∧ Ext B2 (upd B2 p o) := by
  obtain ⟨es2, vsA, acc, hI, I2, e2, hd, Da, hl, sh, kp, sm, fr, bd⟩ := c.ex
  have eB := I2.newB (o := o) h
  have ne : D ≠ p := ne_of_none hd h
  refine ⟨⟨es2, vsA, acc, hI, I2.new h, e2.tr eB, by rw [upd_ne ne]; exact hd, eB.dpa _ _ Da, hl, sh, fun a u e n => ?_, fun a e z => ?_, fun a e => ?_, by rw [upd_ne ne]; exact bd⟩, eB⟩
  · have := kp a u e n
    rw [upd_ne (ne_of_none this h)]; exact this
  · by_cases ha : a = p
    · subst ha; rw [upd_same] at z; cases z
    · rw [upd_ne ha] at z; exact sm a e z
  · rw [upd_ne (fun z => sm a e (by rw [z]; exact h))]; exact fr a e
theorem notOwn_wipe {σ : L2.St} {es : List Sl} {vs : List Nat} {a : Addr} (h : NotOwn σ es a) : NotOwn (wipe σ vs) (wipeE es vs) a := fun i b ds e => by
  rw [wipeE_get] at e
  rw [wipe_get]
  split at e
  · cases z : es[i]? with
    | none => rw [z] at e; cases e
    | some x => rw [z] at e; cases e
  · rename_i ni
    rw [if_neg ni]
    exact h i b ds e
theorem noOw_wipe {es : List Sl} {vs : List Nat} : noOw (wipeE es vs) vs := fun v hv b ds e => by
  rw [wipeE_get, if_pos hv] at e
  cases z : es[v]? with
  | none => rw [z] at e; cases e
  | some x => rw [z] at e; cases e
theorem shp_wipe {es es' : List Sl} {vs : List Nat} (h : Shp es es') : Shp (wipeE es vs) (wipeE es' vs) := fun i b => by
  constructor
  · rintro ⟨ds, e⟩
    rw [wipeE_get] at e
    split at e
    · cases z : es'[i]? with
      | none => rw [z] at e; cases e
      | some x => rw [z] at e; cases e
    · rename_i ni
      obtain ⟨d2, e2⟩ := (h i b).mp ⟨ds, e⟩
      exact ⟨d2, by rw [wipeE_get, if_neg ni]; exact e2⟩
  · rintro ⟨ds, e⟩
    rw [wipeE_get] at e
    split at e
    · cases z : es[i]? with
      | none => rw [z] at e; cases e
      | some x => rw [z] at e; cases e
    · rename_i ni
      obtain ⟨d2, e2⟩ := (h i b).mpr ⟨ds, e⟩
      exact ⟨d2, by rw [wipeE_get, if_neg ni]; exact e2⟩
theorem wipeE_wipeE {es : List Sl} {vs : List Nat} : wipeE (wipeE es vs) vs = wipeE es vs := by
  apply List.ext_getElem?
  intro i
  rw [wipeE_get, wipeE_get]
  split
  · cases es[i]? <;> rfl
  · rfl
section
variable {scope : Scope} {vs : List Nat} {ifs : List Expr} {elt : Expr} {f : Dt → List Sl → (List Sl → Prop) → Prop} {xs : List Dt} {es1 : List Sl} {F : Fm} {B1 H1 : Hp} {σ : L2.St} {D : Addr} {Iv : Nat → List Dt → List Sl → Prop}
theorem cs_start (I : En X.K F B1 H1 σ es1) (hD : H1 D = none) (h0 : Iv 0 [] (wipeE es1 vs)) : CS X F vs σ B1 H1 es1 D 0 (upd H1 D (.lst [])) Iv := by
  refine ⟨B1,  wipeE es1 vs, [], [], h0, (I.newO hD).wipe' vs, Ext.rfl' B1, upd_same, .nil, Nat.le_refl _, fun _ _ => Iff.rfl, fun a o e _ => ?_, fun a e => ?_, fun _ _ => rfl, I.bnone hD⟩
  · rw [upd_ne (ne_of_none e hD)]; exact e
  · rw [upd_ne (fun z => e (by rw [z]; exact hD))]; exact e
/-- the new list is none of the def's own -/
theorem cs_notOwn (I : En X.K F B1 H1 σ es1) (hD : H1 D = none) : NotOwn σ es1 D := fun i b ds e z => by
  obtain ⟨ad, h1, _⟩ := I.ow
  obtain ⟨a1, _, _, ys, a4, _⟩ := h1 i b ds e
  rw [a1] at z
  injection z with z; injection z with z; injection z with z
  rw [z, hD] at a4; cases a4
/-- one turn -/
theorem cs_turnB {t : TG} (I : En X.K F B1 H1 σ es1) (hD : H1 D = none) (nw : noOw es1 vs)
    (q1 : ∀ (F : Fm) (B H : Hp) (σ : L2.St) (es : List Sl) (v : V) (d : Dt), En X.K F B H σ es → Dq X.K B v d → noOw es vs → ∀ (Q : L2.St → Hp → Prop) (N : List Sl → Prop), f d es N →
      (∀ (es' : List Sl) (σ' : L2.St), N es' → En X.K F B H σ' es' → wipe σ' vs = wipe σ vs → (∀ a, NotOwn σ es a → NotOwn σ' es' a) → Shp es es' → Q σ' H) → t v σ H Q)
    {i : Nat} {H2 B2 : Hp} (cs : CSB X F vs σ B1 H1 es1 D i H2 Iv B2) (hi : i < 100000) {x : Dt} {v : V} (hv : Dq X.K B2 v x)
    (ht : ∀ (acc : List Dt) (es2 : List Sl), Iv i acc es2 → f x es2 fun es3 => KX X scope fun X' => VTs X' es3 ifs fun b es4 =>
      (b = true → KX X scope fun X' => VP X' es4 elt fun y es5 => Iv (i + 1) (acc ++ [y]) (wipeE es5 vs)) ∧ (b = false → Iv (i + 1) acc (wipeE es4 vs))) :
    t v (wipe σ vs) H2 fun σ2 H2 => wipe σ2 vs = wipe σ vs ∧ TTk X scope ifs σ2 H2 fun b H3 => if b = true then TEk X scope elt σ2 H3 fun y H4 => ∃ acc, H4 D = some (.lst acc) ∧ acc.length < sizeLine ∧ CS X F vs σ B1 H1 es1 D (i + 1) (upd H4 D (.lst (acc ++ [y]))) Iv else CS X F vs σ B1 H1 es1 D (i + 1) H3 Iv := by
  obtain ⟨es2, vsA, acc, hI, I2, e2, hd, Da, hl, sh, kp, sm, fr, bd⟩ := cs.ex
  have hno : NotOwn σ es1 D := cs_notOwn I hD
  have hnw : NotOwn (wipe σ vs) es2 D := NotOwn.to (notOwn_wipe (vs := vs) hno) sh
  have fD : F.H D = none := I.fnone hD
  refine q1 F B2 H2 (wipe σ vs) es2 v x I2 hv (noOw.shp noOw_wipe sh) _ _ (ht acc es2 hI) fun es3 σ3 h3 I3 w3 n3 s3 => ?_
  have w3' : wipe σ3 vs = wipe σ vs := w3.trans wipe_wipe
  refine ⟨w3', fun s0 H0 C cl fp => ?_⟩
  refine h3 s0 H0 C cl fp F B2 H2 σ3 I3 _ fun b B3 H3 es4 ⟨hT, hF⟩ I4 S4 => ?_
  have hd3 : H3 D = some (.lst vsA) := S4.keep D _ hd (n3 D hnw)
  have bd3 : B3 D = none := by rw [S4.fr D (by rw [hd]; simp)]; exact bd
  have kp3 : ∀ a o, H1 a = some o → NotOwn σ es1 a → H3 a = some o := fun a o e n => S4.keep a o (kp a o e n) (n3 a (NotOwn.to (notOwn_wipe (vs := vs) n) sh))
  have sm3 : ∀ a, H1 a ≠ none → H3 a ≠ none := fun a e => S4.som a (sm a e)
  have fr3 : ∀ a, H1 a ≠ none → B3 a = B1 a := fun a e => (S4.fr a (sm a e)).trans (fr a e)
  have sh4 : Shp es2 es4 := fun i b => (S4.shp i b).trans (s3 i b)
  have sh4w : Shp (wipeE es1 vs) (wipeE es4 vs) := by
    have := shp_wipe (vs := vs) (fun i b => (sh4 i b).trans (sh i b) : Shp (wipeE es1 vs) es4)
    rw [wipeE_wipeE] at this
    exact this
  cases b with
  | false =>
    rw [if_neg Bool.false_ne_true]
    have J := I4.wipe' vs
    rw [w3'] at J
    exact ⟨B3,  wipeE es4 vs, vsA, acc, hF rfl, J, e2.tr S4.eb, hd3, S4.eb.dpa _ _ Da, Nat.le_succ_of_le hl, sh4w, kp3, sm3, fr3, bd3⟩
  | true =>
    rw [if_pos rfl]
    intro s0 H0 C cl fp
    refine hT rfl s0 H0 C cl fp F B3 H3 σ3 I4 _ fun y d B4 H4 es5 hy I5 S5 Dy => ?_
    have hn4 : NotOwn σ3 es4 D := NotOwn.to (n3 D hnw) S4.shp
    have hd4 : H4 D = some (.lst vsA) := S5.keep D _ hd3 hn4
    have bd4 : B4 D = none := by rw [S5.fr D (by rw [hd3]; simp)]; exact bd3
    refine ⟨vsA, hd4, ?_, ?_⟩
    · rw [dpa_len Da]
      exact Nat.lt_of_le_of_lt hl (Nat.lt_trans hi (by decide))
    · have J := I5.wipe' vs
      rw [w3'] at J
      have sh5w : Shp (wipeE es1 vs) (wipeE es5 vs) := by
        have := shp_wipe (vs := vs) (fun i b => (S5.shp i b).trans ((sh4 i b).trans (sh i b)) : Shp (wipeE es1 vs) es5)
        rw [wipeE_wipeE] at this
        exact this
      have hn5 : NotOwn (wipe σ vs) (wipeE es5 vs) D := NotOwn.to (notOwn_wipe (vs := vs) hno) sh5w
      refine ⟨B4, wipeE es5 vs, vsA ++ [y], acc ++ [d], hy, J.side bd4 fD (by rw [hd4]; simp) hn5, (e2.tr S4.eb).tr S5.eb, upd_same, dpa_app (S5.eb.dpa _ _ (S4.eb.dpa _ _ Da)) (.cons Dy .nil), by rw [List.length_append]; exact Nat.succ_le_succ hl, sh5w,
        fun a o e n => ?_, fun a e => ?_, fun a e => (S5.fr a (sm3 a e)).trans (fr3 a e), bd4⟩
      · rw [upd_ne (ne_of_none e hD)]
        exact S5.keep a o (kp3 a o e n) (NotOwn.to (n3 a (NotOwn.to (notOwn_wipe (vs := vs) n) sh)) S4.shp)
      · rw [upd_ne (fun z => e (by rw [z]; exact hD))]
        exact S5.som a (sm3 a e)
theorem cs_turn {t : TG} (I : En X.K F B1 H1 σ es1) (hD : H1 D = none) (nw : noOw es1 vs)
    (q1 : ∀ (F : Fm) (B H : Hp) (σ : L2.St) (es : List Sl) (v : V) (d : Dt), En X.K F B H σ es → Dq X.K B v d → noOw es vs → ∀ (Q : L2.St → Hp → Prop) (N : List Sl → Prop), f d es N →
      (∀ (es' : List Sl) (σ' : L2.St), N es' → En X.K F B H σ' es' → wipe σ' vs = wipe σ vs → (∀ a, NotOwn σ es a → NotOwn σ' es' a) → Shp es es' → Q σ' H) → t v σ H Q)
    {i : Nat} {H2 : Hp} (cs : CS X F vs σ B1 H1 es1 D i H2 Iv) (hi : i < 100000) {x : Dt} {v : V} (hv : ∀ B2, Ext B1 B2 → Dq X.K B2 v x)
    (ht : ∀ (acc : List Dt) (es2 : List Sl), Iv i acc es2 → f x es2 fun es3 => KX X scope fun X' => VTs X' es3 ifs fun b es4 =>
      (b = true → KX X scope fun X' => VP X' es4 elt fun y es5 => Iv (i + 1) (acc ++ [y]) (wipeE es5 vs)) ∧ (b = false → Iv (i + 1) acc (wipeE es4 vs))) :
    t v (wipe σ vs) H2 fun σ2 H2 => wipe σ2 vs = wipe σ vs ∧ TTk X scope ifs σ2 H2 fun b H3 => if b = true then TEk X scope elt σ2 H3 fun y H4 => ∃ acc, H4 D = some (.lst acc) ∧ acc.length < sizeLine ∧ CS X F vs σ B1 H1 es1 D (i + 1) (upd H4 D (.lst (acc ++ [y]))) Iv else CS X F vs σ B1 H1 es1 D (i + 1) H3 Iv := by
  obtain ⟨B2, c⟩ := cs.ex
  exact cs_turnB I hD nw q1 c hi (hv B2 c.ext.1) ht
/-- the end -/
theorem cs_end {B H : Hp} {es : List Sl} {Ψ : Dt → List Sl → Prop} {Q : VK} {n : Nat} (I : En X.K F B1 H1 σ es1) (hD : H1 D = none) (nw : noOw es1 vs) {H2 : Hp} (cs : CS X F vs σ B1 H1 es1 D n H2 Iv)
    (hn : ∀ (acc : List Dt) (es2 : List Sl), Iv n acc es2 → Ψ (.list acc) (mrg vs 0 es2 es1))
    (q : ∀ (v : V) (d : Dt) (B' H' : Hp) (es' : List Sl), Ψ d es' → En X.K F B' H' σ es' → Stp σ B H es B' H' es' → Dq X.K B' v d → Q v H') (S1 : Stp σ B H es B1 H1 es1) : Q (.ref D) H2 := by
  obtain ⟨B2, c⟩ := cs.ex
  obtain ⟨es2, vsA, acc, hI, I2, e2, hd, Da, hl, sh, kp, sm, fr, bd⟩ := c.ex
  have hlen : es2.length = es1.length := by
    have a := I2.len
    rw [wipe_length] at a
    rw [← a]; exact I.len
  have gt : ∀ i, (mrg vs 0 es2 es1)[i]? = if i ∈ vs then (es1[i]?).map fzOnly else es2[i]? := fun i => by
    have := mrg_get vs es2 es1 0 i hlen
    rw [Nat.zero_add] at this
    exact this
  have owm : ∀ {i b ds}, (mrg vs 0 es2 es1)[i]? = some (.ow b ds) → i ∉ vs ∧ es2[i]? = some (.ow b ds) := fun {i b ds} e => by
    rw [gt] at e
    split at e
    · cases z : es1[i]? with
      | none => rw [z] at e; cases e
      | some x => rw [z] at e; cases x <;> cases e
    · rename_i ni
      exact ⟨ni, e⟩
  have J : En X.K F B2 H2 σ (mrg vs 0 es2 es1) := by
    refine ⟨I2.bh, I2.fb, I2.fh, I2.fr, I2.st, by rw [mrg_len vs es2 es1 0 hlen, hlen]; exact I.len, fun i d e => ?_, ?_⟩
    · rw [gt] at e
      split at e
      · cases z : es1[i]? with
        | none => rw [z] at e; cases e
        | some x =>
          rw [z] at e
          cases x with
          | fz d' =>
            cases e
            obtain ⟨v, h1, h2⟩ := I.fz i d z
            exact ⟨v, h1, e2.dp _ _ h2⟩
          | no => cases e
          | ow _ _ => cases e
      · rename_i ni
        obtain ⟨v, h1, h2⟩ := I2.fz i d e
        rw [wipe_get, if_neg ni] at h1
        exact ⟨v, h1, h2⟩
    · obtain ⟨ad, h1, h2⟩ := I2.ow
      refine ⟨ad, fun i b ds e => ?_, fun i j b c d1 d2 e1 e2 => ?_⟩
      · obtain ⟨ni, e'⟩ := owm e
        obtain ⟨a1, a2⟩ := h1 i b ds e'
        rw [wipe_get, if_neg ni] at a1
        exact ⟨a1, a2⟩
      · exact h2 i j b c d1 d2 (owm e1).2 (owm e2).2
  have shE : Shp es1 (mrg vs 0 es2 es1) := fun i b => by
    constructor
    · rintro ⟨ds, e⟩
      obtain ⟨ni, e'⟩ := owm e
      obtain ⟨d2, z⟩ := (sh i b).mp ⟨ds, e'⟩
      rw [wipeE_get, if_neg ni] at z
      exact ⟨d2, z⟩
    · rintro ⟨ds, e⟩
      have ni : i ∉ vs := fun z => nw i z b ds e
      obtain ⟨d2, z⟩ := (sh i b).mpr ⟨ds, by rw [wipeE_get, if_neg ni]; exact e⟩
      exact ⟨d2, by rw [gt, if_neg ni]; exact z⟩
  have hno : NotOwn σ es1 D := cs_notOwn I hD
  obtain ⟨J2, eA⟩ := J.adopt bd (I.fnone hD) hd (NotOwn.to hno shE)
  have S2 : Stp σ B1 H1 es1 (upd B2 D (.lst vsA)) H2 (mrg vs 0 es2 es1) := ⟨shE, e2.tr eA, kp, sm, fun a e => by rw [upd_ne (fun z => e (by rw [z]; exact hD))]; exact fr a e⟩
  exact q _ _ _ H2 _ (hn acc es2 hI) J2 (S1.tr S2) (.lst upd_same (eA.dpa _ _ Da))
end
variable {es : List Sl} {Ψ : Dt → List Sl → Prop} {elt tg iter a b : Expr} {ifs : List Expr} {scope : Scope} {own : List (Str × Nat)} {pos p pr : Pos} {f : Dt → List Sl → (List Sl → Prop) → Prop}
theorem vp_lcL (own : List (Str × Nat)) (hc : X.calm = true) (hN : X.N.Nodup) (ok : BlkOk X.N X.env.scope scope own) (g : GTk X scope (own.map (·.2)) tg f)
    (h : VP X es iter fun d es1 => ∃ xs, d = .list xs ∧ CompAsk X scope (own.map (·.2)) ifs elt f xs es1 Ψ) (hs : ∀ x, foldedSetIterable iter X.env x = pure x := by intro _; rfl) :
    VP X es (.ListComp elt [⟨tg, iter, ifs, 0⟩] scope pos) Ψ := fun F B H σ I Q q => by
  obtain ⟨t, p1, q1⟩ := g
  refine EX.of (pe_lc (te := TEk X scope elt) (tt := TTk X scope ifs) hc hN (pi_list pe_self) ok p1 (fun s0 H0 C cl fp => ⟨fun pins s σ H Q I h => h s0 H0 C cl fp pins s I⟩) (fun s0 H0 C cl fp => ⟨fun pins s σ H Q I h => h s0 H0 C cl fp pins s I⟩) hs) ?_
  refine h F B H σ I _ fun v d B1 H1 es1 ⟨xs, hd, nw, hxs, Iv, h0, ht, hn⟩ I1 S1 D1 => ?_
  subst hd
  cases D1 with
  | lst l1 l2 =>
    rename_i la lv
    refine ⟨la, rfl, ⟨lv, .inl (.inl (I1.bh _ _ l1))⟩, fun D hD => lc_list (K := X.K) (a := la) (xs := lv) (g := t) (tt := TTk X scope ifs) (te := TEk X scope elt) (vs := own.map (·.2)) (σ := σ) (D := D) (Qd := fun H => Q (.ref D) H) (fun i H2 => CS X F (own.map (·.2)) σ B1 H1 es1 D i H2 Iv) (cs_start I1 hD h0) (fun i H2 _ cs => ?_) (fun i y H2 hy cs => ?_) (fun H2 cs => ?_)⟩
    · obtain ⟨B2, c⟩ := cs.ex
      exact .inl (.inl (c.ext.2 _ _ (c.ext.1 _ _ l1)))
    · obtain ⟨dx, hx, Dx⟩ := dpa_getv l2 hy
      have hi : i < 100000 := by
        have := (List.getElem?_eq_some_iff.mp hx).1
        omega
      exact cs_turn I1 hD nw q1 cs hi (fun B2 e2 => e2.dp _ _ Dx) (fun acc es2 hI => ht i dx acc es2 hx hI)
    · rw [dpa_len l2] at cs
      exact cs_end I1 hD nw cs hn q S1
theorem vp_lcT (own : List (Str × Nat)) (hc : X.calm = true) (hN : X.N.Nodup) (ok : BlkOk X.N X.env.scope scope own) (g : GTk X scope (own.map (·.2)) tg f)
    (h : VP X es iter fun d es1 => ∃ xs, d = .tuple xs ∧ CompAsk X scope (own.map (·.2)) ifs elt f xs es1 Ψ) (hs : ∀ x, foldedSetIterable iter X.env x = pure x := by intro _; rfl) :
    VP X es (.ListComp elt [⟨tg, iter, ifs, 0⟩] scope pos) Ψ := fun F B H σ I Q q => by
  obtain ⟨t, p1, q1⟩ := g
  refine EX.of (pe_lc (te := TEk X scope elt) (tt := TTk X scope ifs) hc hN (pi_tup pe_self) ok p1 (fun s0 H0 C cl fp => ⟨fun pins s σ H Q I h => h s0 H0 C cl fp pins s I⟩) (fun s0 H0 C cl fp => ⟨fun pins s σ H Q I h => h s0 H0 C cl fp pins s I⟩) hs) ?_
  refine h F B H σ I _ fun v d B1 H1 es1 ⟨xs, hd, nw, hxs, Iv, h0, ht, hn⟩ I1 S1 D1 => ?_
  subst hd
  cases D1 with
  | tup l1 l2 =>
    rename_i la lv
    refine ⟨la, rfl, ⟨lv, I1.bh.sqt l1⟩, fun D hD => lc_tup (K := X.K) (a := la) (xs := lv) (g := t) (tt := TTk X scope ifs) (te := TEk X scope elt) (vs := own.map (·.2)) (σ := σ) (D := D) (Qd := fun H => Q (.ref D) H) (fun i H2 => CS X F (own.map (·.2)) σ B1 H1 es1 D i H2 Iv) (cs_start I1 hD h0) (fun i H2 _ cs => ?_) (fun i y H2 hy cs => ?_) (fun H2 cs => ?_)⟩
    · obtain ⟨B2, c⟩ := cs.ex
      exact c.ext.2.sqt (c.ext.1.sqt l1)
    · obtain ⟨dx, hx, Dx⟩ := dpa_getv l2 hy
      have hi : i < 100000 := by
        have := (List.getElem?_eq_some_iff.mp hx).1
        omega
      exact cs_turn I1 hD nw q1 cs hi (fun B2 e2 => e2.dp _ _ Dx) (fun acc es2 hI => ht i dx acc es2 hx hI)
    · rw [dpa_len l2] at cs
      exact cs_end I1 hD nw cs hn q S1
/-- the ints of a range as data -/
def rng (lo : Int) (n : Nat) : List Dt := (List.range n).map fun (i : Nat) => .int (lo + (i : Int))
theorem rng_len (lo : Int) (n : Nat) : (rng lo n).length = n := by simp [rng]
theorem rng_get {lo : Int} {n i : Nat} (h : i < n) : (rng lo n)[i]? = some (.int (lo + i)) := by
  unfold rng
  rw [List.getElem?_map, List.getElem?_range h]; rfl
theorem vp_lcR1 (own : List (Str × Nat)) (hc : X.calm = true) (hN : X.N.Nodup) (hm : X.mg "range" = none) (hg : Gl X "range") (ok : BlkOk X.N X.env.scope scope own) (g : GTk X scope (own.map (·.2)) tg f)
    (h : VP X es a fun d es1 => ∃ n, d = .int n ∧ n < 2 ^ 62 ∧ -(2 ^ 62) ≤ n ∧ CompAsk X scope (own.map (·.2)) ifs elt f (rng 0 n.toNat) es1 Ψ)
    (he : starEach [a] X.env = [(false, eval a X.env)] := by rfl) (hs : ∀ x, foldedSetIterable (.Call (.Name "range" pr) [a] [] p) X.env x = pure x := by intro _; rfl) :
    VP X es (.ListComp elt [⟨tg, .Call (.Name "range" pr) [a] [] p, ifs, 0⟩] scope pos) Ψ := fun F B H σ I Q q => by
  obtain ⟨t, p1, q1⟩ := g
  refine EX.of (pe_lc (te := TEk X scope elt) (tt := TTk X scope ifs) hc hN (pi_range1 hg hm (pa_cons pe_self pa_nil he) he) ok p1 (fun s0 H0 C cl fp => ⟨fun pins s σ H Q I h => h s0 H0 C cl fp pins s I⟩) (fun s0 H0 C cl fp => ⟨fun pins s σ H Q I h => h s0 H0 C cl fp pins s I⟩) hs) ?_
  refine h F B H σ I _ fun v d B1 H1 es1 ⟨n, hd, b1, b2, nw, hxs, Iv, h0, ht, hn⟩ I1 S1 D1 => ?_
  subst hd; cases D1
  rw [rng_len] at hxs hn
  exact ⟨n, rfl, b2, b1, fun D hD => lc_range (lo := 0) (n := n.toNat) (g := t) (tt := TTk X scope ifs) (te := TEk X scope elt) (vs := own.map (·.2)) (σ := σ) (D := D) (Qd := fun H => Q (.ref D) H) (fun i H2 => CS X F (own.map (·.2)) σ B1 H1 es1 D i H2 Iv) (cs_start I1 hD h0)
    (fun i H2 hi cs => cs_turn I1 hD nw q1 cs (by omega) (fun B2 e2 => .int _) (fun acc es2 hI => ht i _ acc es2 (rng_get hi) hI)) (fun H2 cs => cs_end I1 hD nw cs hn q S1)⟩
theorem vp_lcR2 (own : List (Str × Nat)) (hc : X.calm = true) (hN : X.N.Nodup) (hm : X.mg "range" = none) (hg : Gl X "range") (ok : BlkOk X.N X.env.scope scope own) (g : GTk X scope (own.map (·.2)) tg f)
    (h : VP X es a fun d es1 => ∃ lo, d = .int lo ∧ VP X es1 b fun d2 es2 => ∃ n, d2 = .int n ∧ (-(2 ^ 62) ≤ lo ∧ lo < 2 ^ 62 ∧ -(2 ^ 62) ≤ n ∧ n < 2 ^ 62) ∧ CompAsk X scope (own.map (·.2)) ifs elt f (rng lo (n - lo).toNat) es2 Ψ)
    (he : starEach [a, b] X.env = [(false, eval a X.env), (false, eval b X.env)] := by rfl) (he2 : starEach [b] X.env = [(false, eval b X.env)] := by rfl) (hs : ∀ x, foldedSetIterable (.Call (.Name "range" pr) [a, b] [] p) X.env x = pure x := by intro _; rfl) :
    VP X es (.ListComp elt [⟨tg, .Call (.Name "range" pr) [a, b] [] p, ifs, 0⟩] scope pos) Ψ := fun F B H σ I Q q => by
  obtain ⟨t, p1, q1⟩ := g
  refine EX.of (pe_lc (te := TEk X scope elt) (tt := TTk X scope ifs) hc hN (pi_range2 hg hm (pa_cons pe_self (pa_cons pe_self pa_nil he2) (by rw [he, he2])) he he2) ok p1 (fun s0 H0 C cl fp => ⟨fun pins s σ H Q I h => h s0 H0 C cl fp pins s I⟩) (fun s0 H0 C cl fp => ⟨fun pins s σ H Q I h => h s0 H0 C cl fp pins s I⟩) hs) ?_
  refine h F B H σ I _ fun v d B1 H1 es1 ⟨lo, hd, hb⟩ I1 S1 D1 => ?_
  subst hd; cases D1
  refine hb F B1 H1 σ I1 _ fun v2 d2 B2 H2 es2 ⟨n, hd2, hbd, nw, hxs, Iv, h0, ht, hn⟩ I2 S2 D2 => ?_
  subst hd2; cases D2
  rw [rng_len] at hxs hn
  exact ⟨lo, n, rfl, hbd, fun D hD => lc_range (lo := lo) (n := (n - lo).toNat) (g := t) (tt := TTk X scope ifs) (te := TEk X scope elt) (vs := own.map (·.2)) (σ := σ) (D := D) (Qd := fun H => Q (.ref D) H) (fun i H3 => CS X F (own.map (·.2)) σ B2 H2 es2 D i H3 Iv) (cs_start I2 hD h0)
    (fun i H3 hi cs => cs_turn I2 hD nw q1 cs (by omega) (fun B2 e2 => .int _) (fun acc es2 hI => ht i _ acc es2 (rng_get hi) hI)) (fun H3 cs => cs_end I2 hD nw cs hn q (S1.tr S2))⟩

/-- where each item gives at most one datum, told by the item alone, and the slots stay -/
theorem comp_map {vs : List Nat} {xs : List Dt} {es1 : List Sl} (pt : Dt → Bool) (gv : Dt → Dt) (nw : noOw es1 vs) (hl : xs.length ≤ 100000)
    (ht : ∀ x ∈ xs, f x (wipeE es1 vs) fun es3 => KX X scope fun X' => VTs X' es3 ifs fun b es4 => b = pt x ∧ wipeE es4 vs = wipeE es1 vs ∧ (b = true → KX X scope fun X' => VP X' es4 elt fun y es5 => y = gv x ∧ wipeE es5 vs = wipeE es1 vs))
    (hmono : ∀ (x : Dt) (es : List Sl) (N N' : List Sl → Prop), f x es N → (∀ e, N e → N' e) → f x es N')
    (h : Ψ (.list ((xs.filter pt).map gv)) (mrg vs 0 (wipeE es1 vs) es1)) : CompAsk X scope vs ifs elt f xs es1 Ψ := by
  refine ⟨nw, hl, fun i acc es2 => es2 = wipeE es1 vs ∧ acc = ((xs.take i).filter pt).map gv, ⟨rfl, rfl⟩, fun i x acc es2 hx ⟨h1, h2⟩ => ?_, fun acc es2 ⟨h1, h2⟩ => ?_⟩
  · subst h1 h2
    have hm : x ∈ xs := List.mem_of_getElem? hx
    have tk : xs.take (i + 1) = xs.take i ++ [x] := by
      rw [List.take_add_one, hx]; rfl
    refine hmono _ _ _ _ (ht x hm) fun es3 h3 s0 H0 C cl fp F B H σ I Q q => ?_
    refine h3 s0 H0 C cl fp F B H σ I Q fun b B' H' es4 ⟨hb, hw, hy⟩ I' S' => q b B' H' es4 ⟨fun hb1 s1 H1 C1 cl1 fp1 => ?_, fun hb1 => ⟨hw, ?_⟩⟩ I' S'
    · refine (hy hb1 s1 H1 C1 cl1 fp1).imp fun y es5 ⟨h5, w5⟩ => ⟨w5, ?_⟩
      rw [tk, List.filter_append, List.map_append]
      have : ([x].filter pt) = [x] := by simp [← hb, hb1]
      rw [this, h5]; rfl
    · rw [tk, List.filter_append, List.map_append]
      have : ([x].filter pt) = [] := by simp [← hb, hb1]
      rw [this]; simp
  · subst h1 h2
    rw [List.take_length]
    exact h
end
end Lv

set_option Elab.async false
set_option linter.all false
set_option maxRecDepth 100000
set_option maxHeartbeats 4000000
namespace Lv
open PySem PySem.Spec PyProof.Rows L2
/-! ### a def's promise from its body -/
def ini (N : List Str) (ds : List Dt) : List Sl := ds.map Sl.fz ++ List.replicate (N.length - ds.length) Sl.no
def iniO (N : List Str) (ds : List Dt) (as : List Dt) : List Sl := Sl.ow false ds :: (as.map Sl.fz ++ List.replicate (N.length - (as.length + 1)) Sl.no)
section
variable {P : Program} {w : World} {K : PySem.W.Frag} {mg : Str → Option Value} {base : Heap}
theorem ini_fz {N : List Str} {ds : List Dt} {i : Nat} {d : Dt} (h : (ini N ds)[i]? = some (.fz d)) : ds[i]? = some d := by
  unfold ini at h
  by_cases hi : i < ds.length
  · rw [List.getElem?_append_left (by simpa using hi), List.getElem?_map] at h
    cases e : ds[i]? with
    | none => rw [e] at h; cases h
    | some x => rw [e] at h; cases h; rfl
  · rw [List.getElem?_append_right (by simpa using hi), List.getElem?_replicate] at h
    split at h <;> cases h
theorem ini_ow {N : List Str} {ds : List Dt} {i : Nat} {b : Bool} {d : List Dt} (h : (ini N ds)[i]? = some (.ow b d)) : False := by
  unfold ini at h
  by_cases hi : i < ds.length
  · rw [List.getElem?_append_left (by simpa using hi), List.getElem?_map] at h
    cases e : ds[i]? with
    | none => rw [e] at h; cases h
    | some x => rw [e] at h; cases h
  · rw [List.getElem?_append_right (by simpa using hi), List.getElem?_replicate] at h
    split at h <;> cases h
theorem start_get {N : List Str} {vs : List V} {i : Nat} {v : V} (h : vs[i]? = some v) : (L2.start N vs)[i]? = some (some v) := by
  unfold L2.start
  have hi := (List.getElem?_eq_some_iff.mp h).1
  rw [List.getElem?_append_left (by simpa using hi), List.getElem?_map, h]; rfl
theorem ok_R {x qual : Str} {st : Stmt} {f : Addr} {fd : FuncData} {N ps : List Str} {k : Nat} {R : List Dt → (Dt → Prop) → Prop} (F : Fun K x qual st f fd) (S : FnScope N ps (defScope st)) (hN : ps.length ≤ N.length)
    (hR : ∀ ds G, R ds G → ds.length = ps.length)
    (body : ∀ (cdv : Value) (A : Around) (outer : List Env) (s : Shared) (H : Hp) (E : XK), Room k (cxOf CX0 P w K mg base N qual (defScope st) f cdv A outer s H E).nox.A → ∀ (ds : List Dt) (G : Dt → Prop), R ds G →
      WB (cxOf CX0 P w K mg base N qual (defScope st) f cdv A outer s H E).nox (ini N ds) (defBody st) { nx := fun _ => G .none, rt := fun d _ => G d }) :
    FnOk P w K mg base CX0 (k + 1) f fd ps (spR K R) := by
  refine F.ok S (fun vs H Q E h => ?_) (fun cdv A outer s H vs Q E hr h => ?_)
  · obtain ⟨B, ds, G, _, D, hR1, _⟩ := h
    rw [dpa_len D]; exact hR ds G hR1
  · obtain ⟨B, ds, G, eb, D, hR1, q⟩ := h
    refine ⟨_, pss_self, ?_⟩
    have hl : vs.length = ps.length := by rw [dpa_len D]; exact hR ds G hR1
    have I : En K ⟨B, H, []⟩ B H (L2.start N vs) (ini N ds) := by
      refine ⟨eb, Ext.rfl' B, fun a o e _ => e, fun _ _ => rfl, fun a ha => (by cases ha), ?_, fun i d h => ?_, fun _ => 0, fun i b d h => (ini_ow h).elim, fun i j b c d1 d2 h _ _ => (ini_ow h).elim⟩
      · unfold L2.start ini
        rw [List.length_append, List.length_append, List.length_map, List.length_map, List.length_replicate, List.length_replicate, dpa_len D]
      · obtain ⟨v, h1, h2⟩ := dpa_get D (ini_fz h)
        exact ⟨v, start_get h1, h2⟩
    refine body cdv A outer s H E hr ds G hR1 _ B H _ I _ ⟨fun es' B' H' σ' hg I' e' => ?_, fun v d es' B' H' σ' hg I' D' => ?_, fun _ _ _ _ h => h.elim, fun _ _ _ _ h => h.elim, fun _ _ _ _ _ _ _ h => h.elim⟩
    · exact q .non .none B' H' hg I'.fb (fun a o e => I'.fh a o e (by simp)) I'.bh I'.fr .non
    · exact q v d B' H' hg I'.fb (fun a o e => I'.fh a o e (by simp)) I'.bh I'.fr D'
theorem ok_O {x qual : Str} {st : Stmt} {f : Addr} {fd : FuncData} {N ps : List Str} {k : Nat} {R : List Dt → List Dt → (Dt → List Dt → Prop) → Prop} (F : Fun K x qual st f fd) (S : FnScope N ps (defScope st)) (hN : ps.length ≤ N.length)
    (hR : ∀ ds as G, R ds as G → as.length + 1 = ps.length)
    (body : ∀ (cdv : Value) (A : Around) (outer : List Env) (s : Shared) (H : Hp) (E : XK), Room k (cxOf CX0 P w K mg base N qual (defScope st) f cdv A outer s H E).nox.A → ∀ (ds as : List Dt) (G : Dt → List Dt → Prop), R ds as G →
      WB (cxOf CX0 P w K mg base N qual (defScope st) f cdv A outer s H E).nox (iniO N ds as) (defBody st) { nx := fun es => ∃ ds', es[0]? = some (.ow false ds') ∧ G .none ds', rt := fun d es => ∃ ds', es[0]? = some (.ow false ds') ∧ G d ds' }) :
    FnOk P w K mg base CX0 (k + 1) f fd ps (spO K R) := by
  refine F.ok S (fun vs H Q E h => ?_) (fun cdv A outer s H vs Q E hr h => ?_)
  · obtain ⟨B, p, rest, xs, ds, as, G, rfl, _, _, _, _, D, hR1, _⟩ := h
    show rest.length + 1 = _
    rw [dpa_len D]; exact hR ds as G hR1
  · obtain ⟨B, p, rest, xs, ds, as, G, rfl, eb, hB, hp, Dx, D, hR1, q⟩ := h
    refine ⟨_, pss_self, ?_⟩
    have hl : rest.length + 1 = ps.length := by rw [dpa_len D]; exact hR ds as G hR1
    have hi : ∀ {i : Nat}, (iniO N ds as)[i + 1]? = (as.map Sl.fz ++ List.replicate (N.length - (as.length + 1)) Sl.no)[i]? := rfl
    have own : ∀ {i b d}, (iniO N ds as)[i]? = some (.ow b d) → i = 0 ∧ b = false ∧ d = ds := fun {i b d} h => by
      cases i with
      | zero => cases h; exact ⟨rfl, rfl, rfl⟩
      | succ i =>
        rw [hi] at h
        by_cases hh : i < as.length
        · rw [List.getElem?_append_left (by simpa using hh), List.getElem?_map] at h
          cases e : as[i]? with
          | none => rw [e] at h; cases h
          | some x => rw [e] at h; cases h
        · rw [List.getElem?_append_right (by simpa using hh), List.getElem?_replicate] at h
          split at h <;> cases h
    have I : En K ⟨B, H, [p]⟩ B H (L2.start N (.ref p :: rest)) (iniO N ds as) := by
      refine ⟨eb, Ext.rfl' B, fun a o e _ => e, fun _ _ => rfl, fun a ha => ?_, ?_, fun i d h => ?_, ⟨fun _ => p, fun i b d h => ?_, fun i j b c d1 d2 h1 h2 _ => ?_⟩⟩
      · simp only [List.mem_singleton] at ha
        rw [ha, hp]; simp
      · unfold L2.start iniO
        simp only [List.length_append, List.length_map, List.length_replicate, List.length_cons, dpa_len D]
        have := dpa_len D
        omega
      · cases i with
        | zero => cases h
        | succ i =>
          rw [hi] at h
          by_cases hh : i < as.length
          · rw [List.getElem?_append_left (by simpa using hh), List.getElem?_map] at h
            cases e : as[i]? with
            | none => rw [e] at h; cases h
            | some x =>
              rw [e] at h; cases h
              obtain ⟨v, h1, h2⟩ := dpa_get D e
              exact ⟨v, start_get (i := i + 1) (by simpa using h1), h2⟩
          · rw [List.getElem?_append_right (by simpa using hh), List.getElem?_replicate] at h
            split at h <;> cases h
      · obtain ⟨rfl, rfl, rfl⟩ := own h
        exact ⟨start_get (i := 0) rfl, hB, ⟨fun z => (by cases z), fun _ => (by simp)⟩, xs, hp, Dx⟩
      · obtain ⟨rfl, _, _⟩ := own h1
        obtain ⟨rfl, _, _⟩ := own h2
        rfl
    have fin : ∀ {es' : List Sl} {B' H' : Hp} {σ' : L2.St} {d : Dt} {v : V} {ds' : List Dt}, es'[0]? = some (.ow false ds') → G d ds' → En K ⟨B, H, [p]⟩ B' H' σ' es' → Dq K B' v d → Q v H' := fun {es' B' H' σ' d v ds'} h0 hg I' Dv => by
      obtain ⟨ad, h1, _⟩ := I'.ow
      obtain ⟨a1, a2, a3, xs', a4, a5⟩ := h1 0 false ds' h0
      have ep : ad 0 = p := by
        have := a3.2 rfl
        simpa using this
      rw [ep] at a4
      exact q v d ds' xs' B' H' hg I'.fb (fun a o e n => I'.fh a o e (by simpa using n)) a4 a5 I'.bh I'.fr Dv
    refine body cdv A outer s H E hr ds as G hR1 _ B H _ I _ ⟨fun es' B' H' σ' hg I' e' => ?_, fun v d es' B' H' σ' hg I' D' => ?_, fun _ _ _ _ h => h.elim, fun _ _ _ _ h => h.elim, fun _ _ _ _ _ _ _ h => h.elim⟩
    · obtain ⟨ds', h0, hg⟩ := hg
      exact fin h0 hg I' .non
    · obtain ⟨ds', h0, hg⟩ := hg
      exact fin h0 hg I' D'
end
/-! ### the law -/
def spLaw (K : PySem.W.Frag) : Sp := fun vs H Q _ => ∃ (a : Addr) (ns : List Int), vs = [.ref a] ∧ SqL K H a (ns.map V.int) ∧ ns.length ≤ 63 ∧ ∀ H', Q (.bl true) H'
def RLaw : List Dt → (Dt → Prop) → Prop := fun ds G => ∃ ns : List Int, ds = [.scr (ns.map Dt.int)] ∧ ns.length ≤ 63 ∧ G (.bool true)
theorem dqa_of_ints {K : PySem.W.Frag} {H : Hp} : ∀ (ns : List Int), DqAll K H (ns.map V.int) (ns.map Dt.int)
  | [] => .nil
  | n :: ns => .cons (.int n) (dqa_of_ints ns)
theorem law_of {P : Program} {w : World} {K : PySem.W.Frag} {mg : Str → Option Value} {base : Heap} {k : Nat} {f : Addr} {fd : FuncData} {ps : List Str} (F : FnOk P w K mg base CX0 k f fd ps (spR K RLaw)) : FnOk P w K mg base CX0 k f fd ps (spLaw K) :=
  F.imp fun vs H Q E h => by
    obtain ⟨a, ns, rfl, hS, hl, q⟩ := h
    refine ⟨H, [.scr (ns.map Dt.int)], fun d => d = .bool true, Ext.rfl' H, .cons (.scr hS (dqa_of_ints ns)) .nil, ⟨ns, rfl, hl, rfl⟩, fun v d B' H' hd _ _ _ _ Dv => ?_⟩
    subst hd
    cases Dv
    exact q H'
end Lv

set_option Elab.async false
set_option linter.all false
set_option maxRecDepth 100000
set_option maxHeartbeats 4000000
namespace Lv
open PySem PySem.Spec PyProof.Rows L2
section
variable {X : Cx} {es : List Sl} {Ψ : Dt → List Sl → Prop} {a b c e elt : Expr} {as ifs : List Expr} {pos p pr : Pos} {x : Str} {scope : Scope} {f : Dt → List Sl → (List Sl → Prop) → Prop}
/-! ### short forms: the slot's number alone -/
theorem vp_v (i : Nat) {d : Dt} (h : Ψ d es) (hN : X.N[i]? = some x := by rfl) (hv : Vis X.env.scope x := by first | exact Or.inl rfl | exact Or.inr (Or.inl rfl) | exact Or.inr (Or.inr rfl)) (he : es[i]? = some (.fz d) := by rfl)
    (hd : (x == ("__debug__" : Str)) = false := by decide) (hcd : (x == ("__classdict__" : Str)) = false := by decide) : VP X es (.Name x pos) Ψ := vp_var i hN hv he h hd hcd
/-! ### lists and tuples put together -/
theorem vp_cat (h : VP X es a fun d es1 => VP X es1 b fun d2 es2 => ∃ xs ys, d = .list xs ∧ d2 = .list ys ∧ xs.length + ys.length ≤ 100000 ∧ Ψ (.list (xs ++ ys)) es2) : VP X es (.BinOp a .Add b pos) Ψ := fun F B H σ I Q q => by
  refine EX.of (pe_op op_cat pe_self pe_self) ?_
  refine h F B H σ I _ fun v d B1 H1 es1 hb I1 S1 D1 => ?_
  refine hb F B1 H1 σ I1 _ fun v2 d2 B2 H2 es2 ⟨xs, ys, hd, hd2, hl, hq⟩ I2 S2 D2 => ?_
  subst hd hd2
  cases D1 with
  | lst h1 h2 =>
    cases D2 with
    | lst g1 g2 =>
      refine ⟨_, _, _, _, rfl, rfl, I2.bh _ _ (S2.eb _ _ h1), I2.bh _ _ g1, by rw [dpa_len h2, dpa_len g2]; exact Nat.le_trans hl (by decide), fun p hp => ?_⟩
      exact q _ _ _ _ es2 hq (I2.new hp) ((S1.tr S2).tr (Stp.new I2 hp)) (.lst upd_same ((I2.newB hp).dpa _ _ (dpa_app (S2.eb.dpa _ _ h2) g2)))
theorem dqa_rep {K : PySem.W.Frag} {B : Hp} {xs : List V} {ds : List Dt} (h : DqAll K B xs ds) : ∀ n : Nat, DqAll K B (List.replicate n xs).flatten (List.replicate n ds).flatten
  | 0 => .nil
  | n + 1 => by
    rw [List.replicate_succ, List.replicate_succ, List.flatten_cons, List.flatten_cons]
    exact dpa_app h (dqa_rep h n)
theorem vp_rep (h : VP X es a fun d es1 => VP X es1 b fun d2 es2 => ∃ xs k, d = .list xs ∧ d2 = .int k ∧ -(2 ^ 63) ≤ k ∧ k < 2 ^ 63 ∧ xs.length * k.toNat ≤ 100000 ∧ Ψ (.list (List.replicate k.toNat xs).flatten) es2) : VP X es (.BinOp a .Mult b pos) Ψ := fun F B H σ I Q q => by
  refine EX.of (pe_op op_rep pe_self pe_self) ?_
  refine h F B H σ I _ fun v d B1 H1 es1 hb I1 S1 D1 => ?_
  refine hb F B1 H1 σ I1 _ fun v2 d2 B2 H2 es2 ⟨xs, k, hd, hd2, k1, k2, hl, hq⟩ I2 S2 D2 => ?_
  subst hd hd2
  cases D2
  cases D1 with
  | lst h1 h2 =>
    refine ⟨_, _, _, rfl, rfl, I2.bh _ _ (S2.eb _ _ h1), k1, k2, by rw [dpa_len h2]; exact Nat.le_trans hl (by decide), fun p hp => ?_⟩
    exact q _ _ _ _ es2 hq (I2.new hp) ((S1.tr S2).tr (Stp.new I2 hp)) (.lst upd_same ((I2.newB hp).dpa _ _ (dqa_rep (S2.eb.dpa _ _ h2) _)))
theorem vp_catT (h : VP X es a fun d es1 => VP X es1 b fun d2 es2 => ∃ xs ys, d = .tuple xs ∧ d2 = .tuple ys ∧ xs ≠ [] ∧ ys ≠ [] ∧ xs.length + ys.length ≤ 100000 ∧ Ψ (.tuple (xs ++ ys)) es2) : VP X es (.BinOp a .Add b pos) Ψ := fun F B H σ I Q q => by
  refine EX.of (pe_op op_catT pe_self pe_self) ?_
  refine h F B H σ I _ fun v d B1 H1 es1 hb I1 S1 D1 => ?_
  refine hb F B1 H1 σ I1 _ fun v2 d2 B2 H2 es2 ⟨xs, ys, hd, hd2, hx, hy, hl, hq⟩ I2 S2 D2 => ?_
  subst hd hd2
  cases D1 with
  | tup h1 h2 =>
    cases D2 with
    | tup g1 g2 =>
      have n1 := dpa_len h2
      have n2 := dpa_len g2
      refine ⟨_, _, _, _, rfl, rfl, I2.bh.sqt (S2.eb.sqt h1), I2.bh.sqt g1, fun z => hx (List.eq_nil_of_length_eq_zero (by rw [← n1, z]; rfl)), by rw [n1, n2]; exact Nat.le_trans hl (by decide), fun z => absurd (List.eq_nil_of_length_eq_zero (by rw [← n2, z]; rfl)) hy, fun _ p hp => ?_⟩
      exact q _ _ _ _ es2 hq (I2.new hp) ((S1.tr S2).tr (Stp.new I2 hp)) (.tup (.inl (.inl upd_same)) ((I2.newB hp).dpa _ _ (dpa_app (S2.eb.dpa _ _ h2) g2)))
/-- {} -/
theorem vp_dnew {p : Pos} (h : Ψ (.dK [] []) es) : VP X es (.Dict [] [] p) Ψ := fun F B H σ I Q q => by
  refine EX.of pe_dnewK ?_
  exact fun l hl => q _ _ _ _ es h (I.new hl) (Stp.new I hl) (.dK rfl upd_same .nil)
/-- an int in a written tuple of ints -/
theorem inV_ints (i : Int) : ∀ ns : List Int, inV (.int i) (ns.map V.int) = ns.any (fun n => n == i)
  | [] => rfl
  | n :: ns => by
    show (eqV (.int n) (.int i) || inV (.int i) (ns.map V.int)) = _
    rw [inV_ints i ns]
    rfl
theorem vp_inI (h : VP X es a fun d es1 => VP X es1 b fun d2 es2 => ∃ (i : Int) (ns : List Int), d = .int i ∧ SeqD d2 (ns.map Dt.int) ∧ Ψ (.bool (ns.any fun n => n == i)) es2) (hm : behindInMarks .In b = false := by rfl) : VP X es (.Compare a [.In] [b] pos) Ψ := fun F B H σ I Q q => by
  refine EX.of (pe_cmpR op_in_seq pe_self pe_self hm) ?_
  refine h F B H σ I _ fun v d B1 H1 es1 hb I1 S1 D1 => ?_
  refine hb F B1 H1 σ I1 _ fun v2 d2 B2 H2 es2 ⟨i, ns, hd, hd2, hq⟩ I2 S2 D2 => ?_
  subst hd
  cases D1
  obtain ⟨l, ys, rfl, hsq, D⟩ := seq_of D2 hd2
  have := dpa_ints D
  subst this
  refine ⟨l, _, rfl, hsq.imp I2.bh.sql I2.bh.sqt, rfl, ?_, ?_⟩
  · rw [List.all_eq_true]
    intro z hz
    obtain ⟨n, _, rfl⟩ := List.mem_map.mp hz
    rfl
  · rw [if_neg Bool.false_ne_true, inV_ints]
    exact q _ _ B2 H2 es2 hq I2 (S1.tr S2) (.bl _)
theorem vt_inI {Θ : Bool → List Sl → Prop} (h : VP X es a fun d es1 => VP X es1 b fun d2 es2 => ∃ (i : Int) (ns : List Int), d = .int i ∧ SeqD d2 (ns.map Dt.int) ∧ Θ (ns.any fun n => n == i) es2) (hm : behindInMarks .In b = false := by rfl) : VT X es (.Compare a [.In] [b] pos) Θ := fun F B H σ I Q q => by
  refine TX.of (pt_cmpR op_in_seq pe_self pe_self hm) ?_
  refine h F B H σ I _ fun v d B1 H1 es1 hb I1 S1 D1 => ?_
  refine hb F B1 H1 σ I1 _ fun v2 d2 B2 H2 es2 ⟨i, ns, hd, hd2, hq⟩ I2 S2 D2 => ?_
  subst hd
  cases D1
  obtain ⟨l, ys, rfl, hsq, D⟩ := seq_of D2 hd2
  have := dpa_ints D
  subst this
  refine ⟨l, _, rfl, hsq.imp I2.bh.sql I2.bh.sqt, rfl, ?_, ?_⟩
  · rw [List.all_eq_true]
    intro z hz
    obtain ⟨n, _, rfl⟩ := List.mem_map.mp hz
    rfl
  · rw [if_neg Bool.false_ne_true, inV_ints]
    exact ⟨_, rfl, q _ B2 H2 es2 hq I2 (S1.tr S2)⟩
/-! ### texts of values -/
theorem vp_strI (hm : X.mg "str" = none) (hg : Gl X "str") (h : VP X es e fun d es1 => ∃ i, d = .int i ∧ i.natAbs.log2 < 1920 ∧ Ψ (.str (toString i)) es1)
    (he : starEach (e :: []) X.env = (false, eval e X.env) :: starEach [] X.env := by rfl) (hpl : (backTo pos (starEach [] X.env)).any (·.1) = false := by rfl) : VP X es (.Call (.Name "str" p) [e] [] pos) Ψ :=
  vp_ct call_str_int hg hm (by decide +kernel) (by decide) (by decide) (va_cons (h.imp fun d es1 ⟨i, hd, hl, hq⟩ => va_nil fun F σ B H vs I D Q q => by
    obtain ⟨v, rfl, D1⟩ := vals_dp1 D
    subst hd; cases D1
    exact ⟨i, rfl, hl, q _ _ B H hq I Stp.rfl' (.str _)⟩) he) he hpl
theorem cr_reprB : CallR X (.builtin "repr") (fun xs H Q => ∃ k : Bool, xs = [.bl k] ∧ Q (.str (if k then "True" else "False")) H) := by
  intro pins s σ H xs us Q I r h
  obtain ⟨k, rfl, q⟩ := h
  cases r with
  | cons r1 r2 =>
    cases r2
    cases r1
    exact PySem.P.repr_of_bool ⟨.str _, H, I.tok _, ⟨_, rfl⟩, q⟩
theorem vp_reprB (hm : X.mg "repr" = none) (hg : Gl X "repr") (h : VP X es e fun d es1 => ∃ k : Bool, d = .bool k ∧ Ψ (.str (if k then "True" else "False")) es1)
    (he : starEach (e :: []) X.env = (false, eval e X.env) :: starEach [] X.env := by rfl) (hpl : (backTo pos (starEach [] X.env)).any (·.1) = false := by rfl) : VP X es (.Call (.Name "repr" p) [e] [] pos) Ψ :=
  vp_cb cr_reprB hg hm (by decide +kernel) (by decide) (by decide) (va_cons (h.imp fun d es1 ⟨i, hd, hq⟩ => va_nil fun F σ B H vs I D Q q => by
    obtain ⟨v, rfl, D1⟩ := vals_dp1 D
    subst hd; cases D1
    exact ⟨i, rfl, q _ _ B H hq I Stp.rfl' (.str _)⟩) he) he hpl
/-! ### a comprehension over zip of two tuples of one length -/
theorem lc_zipT {K : PySem.W.Frag} {a b : Addr} {xs ys : List V} {g : TG} {tt : TT} {te : TE} {vs : List Nat} {σ : L2.St} {H1 : Hp} {D : Addr} {Qd : Hp → Prop} (hl : xs.length = ys.length) (Pv : Nat → Hp → Prop) (h0 : Pv 0 (upd H1 D (.lst [])))
    (hq : ∀ i H, Pv i H → SqT K H a xs ∧ SqT K H b ys)
    (hs : ∀ (i : Nat) (x y : V) (T : Addr) (H : Hp), xs[i]? = some x → ys[i]? = some y → Pv i H → H T = none → g (.ref T) (wipe σ vs) (upd H T (.tup [x, y])) fun σ2 H2 => wipe σ2 vs = wipe σ vs ∧ tt σ2 H2 fun b H3 =>
      if b = true then te σ2 H3 fun y H4 => ∃ acc, H4 D = some (.lst acc) ∧ acc.length < sizeLine ∧ Pv (i + 1) (upd H4 D (.lst (acc ++ [y]))) else Pv (i + 1) H3) (hd : ∀ H, Pv xs.length H → Qd H) :
    ∃ W : Nat → Nat → Hp → Prop, (∃ m, W 0 m (upd H1 D (.lst []))) ∧ ∀ i m H, W i m H →
      ((RZ.ItzT K a b).stop i H ∧ Qd H) ∨ ((RZ.ItzT K a b).go i H ∧ ∃ Nx : Hp → Prop, (∀ H', Nx H' → ∃ m', m' < m ∧ W (i + 1) m' H') ∧ ∀ x H', (RZ.ItzT K a b).yld i H x H' → g x (wipe σ vs) H' fun σ2 H2 => wipe σ2 vs = wipe σ vs ∧ tt σ2 H2 fun b H3 =>
        if b = true then te σ2 H3 fun y H4 => ∃ acc, H4 D = some (.lst acc) ∧ acc.length < sizeLine ∧ Nx (upd H4 D (.lst (acc ++ [y]))) else Nx H3) := by
  refine ⟨fun i m H => m = xs.length - i ∧ i ≤ xs.length ∧ Pv i H, ⟨xs.length, by simp, Nat.zero_le _, h0⟩, ?_⟩
  rintro i m H ⟨rfl, hi, p⟩
  obtain ⟨q1, q2⟩ := hq i H p
  by_cases hlt : i < xs.length
  · have hly : i < ys.length := by omega
    refine .inr ⟨⟨xs, ys, xs[i], ys[i], q1, q2, by simp [hlt], by simp [hly]⟩, Pv (i + 1), fun H' p' => ⟨xs.length - (i + 1), by omega, rfl, hlt, p'⟩, fun x H' y => ?_⟩
    obtain ⟨T, u, v, rfl, hT, rfl, e1, e2⟩ := y
    exact hs i u v T H (e1 xs q1) (e2 ys q2) p hT
  · have e : i = xs.length := by omega
    subst e
    exact .inl ⟨⟨xs, ys, q1, q2, .inl (Nat.le_refl _)⟩, hd H p⟩
theorem vp_lcZ (own : List (Str × Nat)) {ts : List Expr} {kk : Nat} {tpos : Pos} (hc : X.calm = true) (hN : X.N.Nodup) (hm : X.mg "zip" = none) (hg : Gl X "zip") (ok : BlkOk X.N X.env.scope scope own) (g : GTk X scope (own.map (·.2)) (.Tuple ts kk tpos) f)
    (h : VP X es a fun d es1 => VP X es1 b fun d2 es2 => ∃ xs ys, d = .tuple xs ∧ d2 = .tuple ys ∧ xs.length = ys.length ∧ CompAsk X scope (own.map (·.2)) ifs elt f ((xs.zip ys).map fun q => .tuple [q.1, q.2]) es2 Ψ)
    (he : starEach [a, b] X.env = (false, eval a X.env) :: starEach [b] X.env := by rfl) (he2 : starEach [b] X.env = (false, eval b X.env) :: starEach [] X.env := by rfl) (hpl : (backTo p (starEach [b] X.env)).any (·.1) = false := by rfl)
    (hs : ∀ x, foldedSetIterable (.Call (.Name "zip" pr) [a, b] [] p) X.env x = pure x := by intro _; rfl) :
    VP X es (.ListComp elt [⟨.Tuple ts kk tpos, .Call (.Name "zip" pr) [a, b] [] p, ifs, 0⟩] scope pos) Ψ := fun F B H σ I Q q => by
  obtain ⟨t, p1, q1⟩ := g
  refine EX.of (pe_lc (te := TEk X scope elt) (tt := TTk X scope ifs) hc hN (RZ.pi_zipA hg hm (pa_cons pe_self (pa_cons pe_self pa_nil he2) he) he hpl) ok p1 (fun s0 H0 C cl fp => ⟨fun pins s σ H Q I h => h s0 H0 C cl fp pins s I⟩) (fun s0 H0 C cl fp => ⟨fun pins s σ H Q I h => h s0 H0 C cl fp pins s I⟩) hs) ?_
  refine h F B H σ I _ fun v d B1 H1 es1 hb I1 S1 D1 => ?_
  refine hb F B1 H1 σ I1 _ fun v2 d2 B2 H2 es2 ⟨xs, ys, hd, hd2, hlen, nw, hxs, Iv, h0, ht, hn⟩ I2 S2 D2 => ?_
  subst hd hd2
  have D1' := S2.eb.dp _ _ D1
  cases D1' with
  | tup l1 l2 =>
    cases D2 with
    | tup m1 m2 =>
      rename_i la lv lb lw
      have n1 := dpa_len l2
      have n2 := dpa_len m2
      have zl : ((xs.zip ys).map fun q => Dt.tuple [q.1, q.2]).length = xs.length := by rw [List.length_map, List.length_zip]; omega
      rw [zl] at hxs hn
      refine ⟨la, lb, lv, lw, rfl, .inr ⟨I2.bh.sqt l1, I2.bh.sqt m1, fun D hD => lc_zipT (K := X.K) (a := la) (b := lb) (xs := lv) (ys := lw) (g := t) (tt := TTk X scope ifs) (te := TEk X scope elt) (vs := own.map (·.2)) (σ := σ) (D := D) (Qd := fun H => Q (.ref D) H) (by omega)
        (fun i H3 => CS X F (own.map (·.2)) σ B2 H2 es2 D i H3 Iv) (cs_start I2 hD h0) (fun i H3 cs => ?_) (fun i x y T H3 hx hy cs hT => ?_) (fun H3 cs => ?_)⟩⟩
      · obtain ⟨B3, c⟩ := cs.ex
        exact ⟨c.ext.2.sqt (c.ext.1.sqt l1), c.ext.2.sqt (c.ext.1.sqt m1)⟩
      · obtain ⟨B3, c⟩ := cs.ex
        obtain ⟨dx, hx2, Dx⟩ := dpa_getv l2 hx
        obtain ⟨dy, hy2, Dy⟩ := dpa_getv m2 hy
        obtain ⟨c2, e3⟩ := c.new (o := .tup [x, y]) hT
        have hi : i < xs.length := (List.getElem?_eq_some_iff.mp hx2).1
        have hz : ((xs.zip ys).map fun q => Dt.tuple [q.1, q.2])[i]? = some (.tuple [dx, dy]) := by
          rw [List.getElem?_map, (List.getElem?_zip_eq_some (z := (dx, dy))).mpr ⟨hx2, hy2⟩]; rfl
        have ee := c.ext.1.tr e3
        exact cs_turnB I2 hD nw q1 c2 (by omega) (.tup (.inl (.inl upd_same)) (.cons (ee.dp _ _ Dx) (.cons (ee.dp _ _ Dy) .nil))) (fun acc es3 hI => ht i _ acc es3 hz hI)
      · rw [n1] at cs
        exact cs_end I2 hD nw cs hn q (S1.tr S2)
end
end Lv

set_option Elab.async false
set_option linter.all false
set_option maxRecDepth 100000
set_option maxHeartbeats 4000000
namespace Lv
open PySem PySem.Spec PyProof.Rows L2
section
variable {X : Cx} {es : List Sl} {Ψ : Dt → List Sl → Prop} {Θ : Bool → List Sl → Prop} {P : Po} {a b c e : Expr} {rest body orelse : List Stmt} {pos p : Pos} {x : Str}
/-! ### where the second part is pure: one way on -/
theorem vp_andP {es2 : List Expr} (h : VP X es a fun d es1 => ∃ p, d = .bool p ∧ ∃ q, (p = true → VP X es1 (.BoolOp .And (b :: es2) pos) fun d e => d = .bool q ∧ e = es1) ∧ Ψ (.bool (p && q)) es1) : VP X es (.BoolOp .And (a :: b :: es2) pos) Ψ :=
  vp_and (h.imp fun d es1 ⟨p, hd, q, hb, hq⟩ => ⟨p, hd, fun hp => (hb hp).imp fun d2 e2 ⟨h1, h2⟩ => by subst h1 h2 hp; exact hq, fun hp => by subst hp; exact hq⟩)
theorem vp_orP {es2 : List Expr} (h : VP X es a fun d es1 => ∃ p, d = .bool p ∧ ∃ q, (p = false → VP X es1 (.BoolOp .Or (b :: es2) pos) fun d e => d = .bool q ∧ e = es1) ∧ Ψ (.bool (p || q)) es1) : VP X es (.BoolOp .Or (a :: b :: es2) pos) Ψ :=
  vp_or (h.imp fun d es1 ⟨p, hd, q, hb, hq⟩ => ⟨p, hd, fun hp => by subst hp; exact hq, fun hp => (hb hp).imp fun d2 e2 ⟨h1, h2⟩ => by subst h1 h2 hp; exact hq⟩)
theorem vw_andP {es2 : List Expr} (h : VT X es a fun p es1 => ∃ q, (p = true → VW X es1 (.BoolOp .And (b :: es2) pos) fun d e => d = q ∧ e = es1) ∧ Θ (p && q) es1) : VW X es (.BoolOp .And (a :: b :: es2) pos) Θ :=
  vw_and (h.imp fun p es1 ⟨q, hb, hq⟩ => ⟨fun hp => fun F B H σ I Q k => hb hp F B H σ I Q fun b' B' H' es' ⟨h1, h2⟩ => k b' B' H' es' (by subst h1 h2 hp; exact hq), fun hp => by subst hp; exact hq⟩)
theorem vw_orP {es2 : List Expr} (h : VT X es a fun p es1 => ∃ q, (p = false → VW X es1 (.BoolOp .Or (b :: es2) pos) fun d e => d = q ∧ e = es1) ∧ Θ (p || q) es1) : VW X es (.BoolOp .Or (a :: b :: es2) pos) Θ :=
  vw_or (h.imp fun p es1 ⟨q, hb, hq⟩ => ⟨fun hp => by subst hp; exact hq, fun hp => fun F B H σ I Q k => hb hp F B H σ I Q fun b' B' H' es' ⟨h1, h2⟩ => k b' B' H' es' (by subst h1 h2 hp; exact hq)⟩)
/-- chains of comparisons of ints whose third part is pure -/
theorem vp_chainP {op op' : CmpOp} {g g' : Int → Int → Bool} (ho : OpR X (compareOp op) (rI0 fun i j => .bl (g i j))) (ho' : OpR X (compareOp op') (rI0 fun i j => .bl (g' i j)))
    (h : VP X es a fun d es1 => ∃ i, d = .int i ∧ VP X es1 b fun d2 es2 => ∃ j, d2 = .int j ∧ ∃ k, (VP X es2 c fun d3 es3 => d3 = .int k ∧ es3 = es2) ∧ Ψ (.bool (g i j && g' j k)) es2)
    (hm : lastMarks [op, op'] [b, c] = false := by with_unfolding_all rfl) : VP X es (.Compare a [op, op'] [b, c] pos) Ψ :=
  vp_chain ho ho' (h.imp fun d es1 ⟨i, hd, hb⟩ => ⟨i, hd, hb.imp fun d2 es2 ⟨j, hd2, k, hc, hq⟩ => ⟨j, hd2, fun hg => hc.imp fun d3 es3 ⟨h1, h2⟩ => by subst h1 h2; exact ⟨k, rfl, by rw [hg] at hq; exact hq⟩, fun hg => by rw [hg] at hq; exact hq⟩⟩) hm
theorem vt_chainP {op op' : CmpOp} {g g' : Int → Int → Bool} (ho : OpR X (compareOp op) (rI0 fun i j => .bl (g i j))) (ho' : OpR X (compareOp op') (rI0 fun i j => .bl (g' i j)))
    (h : VP X es a fun d es1 => ∃ i, d = .int i ∧ VP X es1 b fun d2 es2 => ∃ j, d2 = .int j ∧ ∃ k, (VP X es2 c fun d3 es3 => d3 = .int k ∧ es3 = es2) ∧ Θ (g i j && g' j k) es2)
    (hm : lastMarks [op, op'] [b, c] = false := by with_unfolding_all rfl) : VT X es (.Compare a [op, op'] [b, c] pos) Θ :=
  vt_chain ho ho' (h.imp fun d es1 ⟨i, hd, hb⟩ => ⟨i, hd, hb.imp fun d2 es2 ⟨j, hd2, k, hc, hq⟩ => ⟨j, hd2, fun hg => hc.imp fun d3 es3 ⟨h1, h2⟩ => by subst h1 h2; exact ⟨k, rfl, by rw [hg] at hq; exact hq⟩, fun hg => by rw [hg] at hq; exact hq⟩⟩) hm
/-- an int of a power of written numbers -/
theorem vp_powN (h : VP X es a fun d es1 => ∃ i, d = .int i ∧ VP X es1 b fun d2 es2 => ∃ j, d2 = .int j ∧ CPow i j ∧ ∃ n, i ^ j.toNat = n ∧ Ψ (.int n) es2) : VP X es (.BinOp a .Pow b pos) Ψ :=
  vp_pow (h.imp fun d es1 ⟨i, hd, hb⟩ => ⟨i, hd, hb.imp fun d2 es2 ⟨j, hd2, hc, n, e, hq⟩ => ⟨j, hd2, hc, by rw [e]; exact hq⟩⟩)
/-- a value once for all that follows -/
theorem vp_det {d : Dt} {es' : List Sl} (h : VP X es e fun d' e' => d' = d ∧ e' = es') (k : Ψ d es') : VP X es e Ψ := h.imp fun d' e' ⟨h1, h2⟩ => by subst h1 h2; exact k
theorem vt_det {d : Bool} {es' : List Sl} (h : VT X es e fun d' e' => d' = d ∧ e' = es') (k : Θ d es') : VT X es e Θ := h.imp fun d' e' ⟨h1, h2⟩ => by subst h1 h2; exact k
/-- a if t else b, both pure ints -/
theorem vp_ifI {i j : Int} (h : VT X es c fun p es1 => (p = true → VP X es1 a fun d e => d = .int i ∧ e = es1) ∧ (p = false → VP X es1 b fun d e => d = .int j ∧ e = es1) ∧ Ψ (.int (if p = true then i else j)) es1) : VP X es (.IfExp c a b pos) Ψ :=
  vp_ife (h.imp fun p es1 ⟨h1, h2, hq⟩ => ⟨fun hp => (h1 hp).imp fun d e ⟨q1, q2⟩ => by subst q1 q2; rw [if_pos hp] at hq; exact hq, fun hp => (h2 hp).imp fun d e ⟨q1, q2⟩ => by subst q1 q2; rw [if_neg (by rw [hp]; decide)] at hq; exact hq⟩)
/-! ### statements with what follows: the slots written out -/
theorem wb_set (i : Nat) {p' : Pos} (h : VP X es e fun d es1 => ∃ es2, es1.set i (.fz d) = es2 ∧ WB X es2 rest P) (hN : X.N.Nodup := by assumption) (hi : X.N[i]? = some x := by rfl) (hx : Loc X.env.scope x := by first | exact Or.inl rfl | exact Or.inr rfl) (hs : swapsWith e (some (.Name x p')) pos.line X.env = pure false := by rfl)
    (hf : X.fn x = true ∨ X.env.scope.names.lookup x = some .local := by first | exact .inl rfl | exact .inr rfl) : WB X es (.Assign [.Name x p'] e pos :: rest) P :=
  wb_cons (ws_set i hN hi hx (h.imp fun d es1 ⟨es2, h1, h2⟩ => by subst h1; exact h2) hs hf)
theorem wb_setO (i : Nat) {p' p2 : Pos} {as : List Expr} (h : VA X es as fun ds es1 => ds.length ≤ 100000 ∧ ∃ es2, es1.set i (.ow true ds) = es2 ∧ WB X es2 rest P) (hN : X.N.Nodup := by assumption) (hi : X.N[i]? = some x := by rfl) (hx : Loc X.env.scope x := by first | exact Or.inl rfl | exact Or.inr rfl) (hs : swapsWith (.List as p2) (some (.Name x p')) pos.line X.env = pure false := by rfl)
    (hf : X.fn x = true ∨ X.env.scope.names.lookup x = some .local := by first | exact .inl rfl | exact .inr rfl) : WB X es (.Assign [.Name x p'] (.List as p2) pos :: rest) P :=
  wb_cons (ws_setO i hN hi hx (fun F B H σ I Q q => h F B H σ I Q fun vs ds B' H' es' ⟨hl, es2, h1, h2⟩ => q vs ds B' H' es' ⟨hl, by subst h1; exact h2⟩) hs hf)
theorem wb_if (h : VT X es c fun p es1 => (p = true → WB X es1 body { P with nx := fun es1 => WB X es1 rest P }) ∧ (p = false → WB X es1 orelse { P with nx := fun es1 => WB X es1 rest P })) : WB X es (.If c body orelse pos :: rest) P := wb_cons (ws_if h)
/-- if without else whose body leaves -/
theorem wb_ifR (h : VT X es c fun p es1 => (p = true → WB X es1 body { P with nx := fun es1 => WB X es1 rest P }) ∧ (p = false → WB X es1 rest P)) : WB X es (.If c body [] pos :: rest) P := wb_cons (ws_if (h.imp fun p es1 ⟨h1, h2⟩ => ⟨h1, fun hp => wb_nil (h2 hp)⟩))
theorem wb_ret (h : VP X es e P.rt) : WB X es (.Return (some e) pos :: rest) P := wb_cons (ws_ret h)
theorem wb_par (i j : Nat) {y : Str} {px py pt : Pos} {kt k2 : Nat} {pt2 : Pos} (h : VA X es [a, b] fun ds es1 => ∃ d1 d2, ds = [d1, d2] ∧ ∃ es2, (es1.set i (.fz d1)).set j (.fz d2) = es2 ∧ WB X es2 rest P)
    (hc : X.calm = true := by rfl) (hN : X.N.Nodup := by assumption) (hi : X.N[i]? = some x := by rfl) (hj : X.N[j]? = some y := by rfl) (hij : i ≠ j := by decide)
    (hx : X.env.scope.names.lookup x = some .local := by rfl) (hy : X.env.scope.names.lookup y = some .local := by rfl)
    (hw : swappedStores [.Tuple [.Name x px, .Name y py] kt pt] (.Tuple [a, b] k2 pt2) X.env = pure (some [x, y]) := by rfl)
    (hs : swapsWithSole [.Tuple [.Name x px, .Name y py] kt pt] (.Tuple [a, b] k2 pt2) pos.line X.env = pure false := by rfl) :
    WB X es (.Assign [.Tuple [.Name x px, .Name y py] kt pt] (.Tuple [a, b] k2 pt2) pos :: rest) P :=
  wb_cons (ws_par i j hc hN hi hj hij hx hy (fun F B H σ I Q q => h F B H σ I Q fun vs ds B' H' es' ⟨d1, d2, hd, es2, h1, h2⟩ => q vs ds B' H' es' ⟨d1, d2, hd, by subst h1; exact h2⟩) hw hs)
theorem wb_asg {tg : Expr} {f : Dt → List Sl → (List Sl → Prop) → Prop} (g : GT X tg f) (h : VP X es e fun d es1 => f d es1 fun es2 => WB X es2 rest P) (hs : swapsWithSole [tg] e pos.line X.env = pure false := by rfl) (hw : swappedStores [tg] e X.env = pure none := by rfl)
    (h1 : (assignEach [tg] X.env).map (·.2) = [assign tg X.env] := by rfl) : WB X es (.Assign [tg] e pos :: rest) P := wb_cons (ws_asg g h hs hw h1)
theorem gt_n (i : Nat) {p' : Pos} (hN : X.N.Nodup := by assumption) (hi : X.N[i]? = some x := by rfl) (hx : Loc X.env.scope x := by first | exact Or.inl rfl | exact Or.inr rfl) (hf : X.fn x = true ∨ X.env.scope.names.lookup x = some .local := by first | exact .inl rfl | exact .inr rfl) :
    GT X (.Name x p') fun d es N => N (es.set i (.fz d)) := gt_name i hN hi hx hf
theorem boot_tInt : bootBuiltins "int" = some (.type "int") := by decide +kernel
theorem boot_tBool : bootBuiltins "bool" = some (.type "bool") := by decide +kernel
theorem boot_tTuple : bootBuiltins "tuple" = some (.type "tuple") := by decide +kernel
theorem boot_tStr : bootBuiltins "str" = some (.type "str") := by decide +kernel
def isI : Dt → Bool
  | .int _ => true
  | .bool _ => true
  | _ => false
def isB : Dt → Bool
  | .bool _ => true
  | _ => false
def isT : Dt → Bool
  | .tuple _ => true
  | _ => false
/-- no instance of an own class -/
def notO : Dt → Bool
  | .obj _ _ _ => false
  | _ => true
theorem tyN_of {d : Dt} (h : notO d = true) : ∃ n, tyN d = some n := by
  cases d <;> first | exact ⟨_, rfl⟩ | cases h
theorem kit_int (n : String) (d : Dt) (h : tyN d = some n) : kitB n "int" = some (isI d) := by
  cases d <;> cases h <;> first | exact (show kitB _ "int" = some true by decide +kernel) | exact (show kitB _ "int" = some false by decide +kernel)
theorem kit_bool (n : String) (d : Dt) (h : tyN d = some n) : kitB n "bool" = some (isB d) := by
  cases d <;> cases h <;> first | exact (show kitB _ "bool" = some true by decide +kernel) | exact (show kitB _ "bool" = some false by decide +kernel)
theorem kit_tuple (n : String) (d : Dt) (h : tyN d = some n) : kitB n "tuple" = some (isT d) := by
  cases d <;> cases h <;> first | exact (show kitB _ "tuple" = some true by decide +kernel) | exact (show kitB _ "tuple" = some false by decide +kernel)
theorem vp_isInt {p2 : Pos} (hm : X.mg "isinstance" = none) (hmT : X.mg "int" = none) (hg : Gl X "isinstance") (hgT : Gl X "int") (h : VP X es e fun d es1 => notO d = true ∧ Ψ (.bool (isI d)) es1)
    (he : starEach (e :: [.Name "int" p2]) X.env = (false, eval e X.env) :: starEach [.Name "int" p2] X.env := by rfl) (he2 : starEach (.Name "int" p2 :: []) X.env = (false, eval (.Name "int" p2) X.env) :: starEach [] X.env := by rfl)
    (hpl : (backTo pos (starEach [.Name "int" p2] X.env)).any (·.1) = false := by rfl) : VP X es (.Call (.Name "isinstance" p) [e, .Name "int" p2] [] pos) Ψ :=
  vp_isi hm hg hmT hgT boot_tInt (by decide +kernel) (by decide +kernel) (h.imp fun d es1 ⟨h1, h2⟩ => (tyN_of h1).imp fun n hn => ⟨_, hn, kit_int n d hn, h2⟩) he he2 hpl
theorem vp_isBool {p2 : Pos} (hm : X.mg "isinstance" = none) (hmT : X.mg "bool" = none) (hg : Gl X "isinstance") (hgT : Gl X "bool") (h : VP X es e fun d es1 => notO d = true ∧ Ψ (.bool (isB d)) es1)
    (he : starEach (e :: [.Name "bool" p2]) X.env = (false, eval e X.env) :: starEach [.Name "bool" p2] X.env := by rfl) (he2 : starEach (.Name "bool" p2 :: []) X.env = (false, eval (.Name "bool" p2) X.env) :: starEach [] X.env := by rfl)
    (hpl : (backTo pos (starEach [.Name "bool" p2] X.env)).any (·.1) = false := by rfl) : VP X es (.Call (.Name "isinstance" p) [e, .Name "bool" p2] [] pos) Ψ :=
  vp_isi hm hg hmT hgT boot_tBool (by decide +kernel) (by decide +kernel) (h.imp fun d es1 ⟨h1, h2⟩ => (tyN_of h1).imp fun n hn => ⟨_, hn, kit_bool n d hn, h2⟩) he he2 hpl
theorem vp_isTuple {p2 : Pos} (hm : X.mg "isinstance" = none) (hmT : X.mg "tuple" = none) (hg : Gl X "isinstance") (hgT : Gl X "tuple") (h : VP X es e fun d es1 => notO d = true ∧ Ψ (.bool (isT d)) es1)
    (he : starEach (e :: [.Name "tuple" p2]) X.env = (false, eval e X.env) :: starEach [.Name "tuple" p2] X.env := by rfl) (he2 : starEach (.Name "tuple" p2 :: []) X.env = (false, eval (.Name "tuple" p2) X.env) :: starEach [] X.env := by rfl)
    (hpl : (backTo pos (starEach [.Name "tuple" p2] X.env)).any (·.1) = false := by rfl) : VP X es (.Call (.Name "isinstance" p) [e, .Name "tuple" p2] [] pos) Ψ :=
  vp_isi hm hg hmT hgT boot_tTuple (by decide +kernel) (by decide +kernel) (h.imp fun d es1 ⟨h1, h2⟩ => (tyN_of h1).imp fun n hn => ⟨_, hn, kit_tuple n d hn, h2⟩) he he2 hpl
/-! ### sizes of ints -/
def Bd (n : Nat) (i : Int) : Prop := i.natAbs < 2 ^ n
theorem Bd.mul {n m : Nat} {i j : Int} (h1 : Bd n i) (h2 : Bd m j) : Bd (n + m) (i * j) := by
  unfold Bd at *
  rw [Int.natAbs_mul, Nat.pow_add]
  exact Nat.mul_lt_mul'' h1 h2
theorem Bd.mono {n m : Nat} {i : Int} (h : Bd n i) (hn : n ≤ m) : Bd m i := Nat.lt_of_lt_of_le h (Nat.pow_le_pow_right (by decide) hn)
theorem Bd.add {n m : Nat} {i j : Int} (h1 : Bd n i) (h2 : Bd m j) : Bd (max n m + 1) (i + j) := by
  have a := h1.mono (Nat.le_max_left n m)
  have b := h2.mono (Nat.le_max_right n m)
  unfold Bd at *
  rw [Nat.pow_succ]
  omega
theorem Bd.neg {n : Nat} {i : Int} (h : Bd n i) : Bd n (-i) := by unfold Bd at *; omega
theorem Bd.sub {n m : Nat} {i j : Int} (h1 : Bd n i) (h2 : Bd m j) : Bd (max n m + 1) (i - j) := by
  rw [Int.sub_eq_add_neg]
  exact h1.add h2.neg
theorem Bd.of {n : Nat} {i m : Int} (h1 : -m < i) (h2 : i < m) (h : m ≤ 2 ^ n) : Bd n i := by
  unfold Bd
  have : ((2 ^ n : Nat) : Int) = 2 ^ n := by simp
  omega
theorem Bd.cmul {n m : Nat} {i j : Int} (h1 : Bd n i) (h2 : Bd m j) (h : n + m ≤ 134217728) : CMulX i j := mulx_ok h1 h2 h
theorem Bd.cdiv {n : Nat} {i j : Int} (h0 : 0 < j) (h1 : Bd n j) (hn : 0 < n) (h : n ≤ 9000) : CDivW i j := wide_div h0 h1 hn h
end
end Lv

set_option Elab.async false
set_option linter.all false
set_option maxRecDepth 100000
set_option maxHeartbeats 4000000
namespace Lv
open PySem PySem.Spec PyProof.Rows L2
section
variable {X : Cx} {es : List Sl} {Ψ : Dt → List Sl → Prop} {P : Po} {a b c e : Expr} {rest body : List Stmt} {pos p : Pos} {x : Str}
theorem dqa_set {K : PySem.W.Frag} {B : Hp} : ∀ {vs : List V} {ds : List Dt} {v : V} {d : Dt} (j : Nat), DqAll K B vs ds → Dq K B v d → DqAll K B (vs.set j v) (ds.set j d)
  | _, _, _, _, _, .nil, _ => .nil
  | _, _, _, _, 0, .cons _ t, r => .cons r t
  | _, _, _, _, j + 1, .cons s t, r => .cons s (dqa_set j t r)
/-- xs[e], xs a list of the def's own -/
theorem vp_ixO (i : Nat) {t : Pos} {b0 : Bool} {ds0 : List Dt} (h : VP X es b fun d2 es2 => ∃ bb ds n d, es2[i]? = some (.ow bb ds) ∧ d2 = .int n ∧ atI ds n = some d ∧ Ψ d es2) (h0 : es[i]? = some (.ow b0 ds0) := by rfl) (hN : X.N[i]? = some x := by rfl) (hv : Vis X.env.scope x := by first | exact Or.inl rfl | exact Or.inr (Or.inl rfl) | exact Or.inr (Or.inr rfl))
    (hs : PlainIx b := by intro _ _; rfl) (hd : (x == ("__debug__" : Str)) = false := by decide) (hcd : (x == ("__classdict__" : Str)) = false := by decide) : VP X es (.Subscript (.Name x t) b pos) Ψ := fun F B H σ I Q q => by
  refine EX.of (pe_ix ix_seq (pe_var hN hv hd hcd) pe_self hs) ?_
  obtain ⟨ad0, a0, _⟩ := I.ow
  obtain ⟨s0, _⟩ := a0 i b0 ds0 h0
  refine ⟨_, s0, ?_⟩
  refine h F B H σ I _ fun v2 d2 B2 H2 es2 ⟨bb, ds, n, d, h2, hd2, hx, hq⟩ I2 S2 D2 => ?_
  subst hd2; cases D2
  obtain ⟨ad, a1, _⟩ := I2.ow
  obtain ⟨s1, b1, f1, xs, g1, dx⟩ := a1 i bb ds h2
  have ep : ad0 i = ad i := by rw [s0] at s1; injection s1 with s1; injection s1 with s1; injection s1
  obtain ⟨u, h3, h4⟩ := dpa_atI dx hx
  rw [ep]
  exact .inl ⟨_, _, _, u, rfl, rfl, .inl (.inl g1), h3, q _ _ B2 H2 es2 hq I2 S2 h4⟩
/-- xs[i] = e, xs a list of the def's own -/
theorem ws_stO (i : Nat) {t p2 : Pos} (h : VP X es e fun d es1 => (∃ b ds, es1[i]? = some (.ow b ds)) ∧ VP X es1 c fun d2 es2 => ∃ b ds k j, es2[i]? = some (.ow b ds) ∧ d2 = .int k ∧ ixN ds.length k = some j ∧ P.nx (es2.set i (.ow b (ds.set j d)))) (hN : X.N[i]? = some x := by rfl) (hv : Vis X.env.scope x := by first | exact Or.inl rfl | exact Or.inr (Or.inl rfl) | exact Or.inr (Or.inr rfl))
    (ha : ∀ v, assign (.Subscript (.Name x t) c p2) X.env v = (do
      let ov ← holding [v] (eval (.Name x t) X.env)
      let iv ← holding [v, ov] (eval c X.env)
      standAt p2
      holding [v, ov, iv] (setItem ov iv v)
      release [v, ov, iv] []) := by intro _; rfl)
    (hs : swapsWithSole [.Subscript (.Name x t) c p2] e pos.line X.env = pure false := by rfl) (hw : swappedStores [.Subscript (.Name x t) c p2] e X.env = pure none := by rfl)
    (h1 : (assignEach [.Subscript (.Name x t) c p2] X.env).map (·.2) = [assign (.Subscript (.Name x t) c p2) X.env] := by rfl)
    (hd : (x == ("__debug__" : Str)) = false := by decide) (hcd : (x == ("__classdict__" : Str)) = false := by decide) : WS X es (.Assign [.Subscript (.Name x t) c p2] e pos) P := fun F B H σ I D dn => by
  refine SX.of (ps_asg pe_self (pg_sub (pe_var hN hv hd hcd) pe_self set_list ha) hs hw h1) ?_
  refine h F B H σ I _ fun v d B1 H1 es1 ⟨⟨b0, ds0, h0⟩, hb⟩ I1 S1 D1 => ?_
  obtain ⟨ad0, a0, _⟩ := I1.ow
  obtain ⟨s0, _⟩ := a0 i b0 ds0 h0
  refine ⟨_, s0, ?_⟩
  refine hb F B1 H1 σ I1 _ fun v2 d2 B2 H2 es2 ⟨bb, ds, k, j, h2, hd2, hx, hq⟩ I2 S2 D2 => ?_
  subst hd2; cases D2
  obtain ⟨ad, a1, _⟩ := I2.ow
  obtain ⟨s1, b1, f1, xs, g1, dx⟩ := a1 i bb ds h2
  have ep : ad0 i = ad i := by rw [s0] at s1; injection s1 with s1; injection s1 with s1; injection s1
  refine ⟨ad0 i, xs, k, j, rfl, rfl, by rw [ep]; exact g1, by rw [dpa_len dx]; exact hx, ?_⟩
  exact dn.nx _ B2 _ σ hq (I2.mut h2 s0 (dqa_set j dx (S2.eb.dp _ _ D1))) (S1.eb.tr S2.eb)
theorem wb_stO (i : Nat) {t p2 : Pos} {b0 : Bool} {ds0 : List Dt} (h : VP X es e fun d es1 => es1 = es ∧ VP X es c fun d2 es2 => es2 = es ∧ ∃ k j, d2 = .int k ∧ ixN ds0.length k = some j ∧ ∃ es3, es.set i (.ow b0 (ds0.set j d)) = es3 ∧ WB X es3 rest P) (h0 : es[i]? = some (.ow b0 ds0) := by rfl) (hN : X.N[i]? = some x := by rfl) (hv : Vis X.env.scope x := by first | exact Or.inl rfl | exact Or.inr (Or.inl rfl) | exact Or.inr (Or.inr rfl))
    (ha : ∀ v, assign (.Subscript (.Name x t) c p2) X.env v = (do
      let ov ← holding [v] (eval (.Name x t) X.env)
      let iv ← holding [v, ov] (eval c X.env)
      standAt p2
      holding [v, ov, iv] (setItem ov iv v)
      release [v, ov, iv] []) := by intro _; rfl)
    (hs : swapsWithSole [.Subscript (.Name x t) c p2] e pos.line X.env = pure false := by rfl) (hw : swappedStores [.Subscript (.Name x t) c p2] e X.env = pure none := by rfl)
    (h1 : (assignEach [.Subscript (.Name x t) c p2] X.env).map (·.2) = [assign (.Subscript (.Name x t) c p2) X.env] := by rfl)
    (hd : (x == ("__debug__" : Str)) = false := by decide) (hcd : (x == ("__classdict__" : Str)) = false := by decide) : WB X es (.Assign [.Subscript (.Name x t) c p2] e pos :: rest) P :=
  wb_cons (ws_stO i (h.imp fun d es1 ⟨e1, hb⟩ => ⟨⟨b0, ds0, by rw [e1]; exact h0⟩, by rw [e1]; exact hb.imp fun d2 es2 ⟨e2, k, j, hd, hj, es3, h3, h4⟩ => ⟨b0, ds0, k, j, by rw [e2]; exact h0, hd, hj, by rw [e2, h3]; exact h4⟩⟩) hN hv ha hs hw h1 hd hcd)
end
/-! ### new lists -/
section
variable {X : Cx} {es : List Sl} {Ψ : Dt → List Sl → Prop} {Λ : List Dt → List Sl → Prop} {P : Po} {a b c e : Expr} {as : List Expr} {rest body : List Stmt} {pos p : Pos} {x : Str} {k j : Nat}
/-- an expression that gives a list nobody else holds -/
def VL (X : Cx) (es : List Sl) (e : Expr) (Λ : List Dt → List Sl → Prop) : Prop :=
  ∀ (F : Fm) (B H : Hp) (σ : L2.St), En X.K F B H σ es → ∀ Q : VK, (∀ (p : Addr) (xs : List V) (ds : List Dt) (B' H' : Hp) (es' : List Sl), Λ ds es' → En X.K F B' H' σ es' → Stp σ B H es B' H' es' → F.H p = none → B' p = none → H' p = some (.lst xs) → NotOwn σ es' p → DqAll X.K B' xs ds → Q (.ref p) H') → EX X e σ H Q
theorem VL.imp {Λ' : List Dt → List Sl → Prop} (h : VL X es e Λ) (k : ∀ d es', Λ d es' → Λ' d es') : VL X es e Λ' := fun F B H σ I Q q => h F B H σ I Q fun p xs ds B' H' es' hq => q p xs ds B' H' es' (k ds es' hq)
theorem En.putP {K : PySem.W.Frag} {F : Fm} {B H : Hp} {σ : L2.St} {es : List Sl} (I : En K F B H σ es) {i : Nat} {p : Addr} {xs : List V} {ds : List Dt} (hF : F.H p = none) (hB : B p = none) (hp : H p = some (.lst xs)) (hno : NotOwn σ es p) (h : DqAll K B xs ds) : En K F B H (σ.set i (some (.ref p))) (es.set i (.ow true ds)) := by
  refine ⟨I.bh, I.fb, I.fh, I.fr, I.st, by rw [List.length_set, List.length_set]; exact I.len, fun j d' hj => ?_, ?_⟩
  · rcases set_get hj with ⟨e, e2⟩ | ⟨e, e2⟩
    · cases e2
    · obtain ⟨u, h1, h2⟩ := I.fz j d' e2
      exact ⟨u, by rw [List.getElem?_set_ne e]; exact h1, h2⟩
  · obtain ⟨ad, h1, h2⟩ := I.ow
    have key : ∀ (j : Nat) (b : Bool) (ds : List Dt), es[j]? = some (.ow b ds) → ad j ≠ p := fun j b ds hj z => by
      refine hno j b ds hj ?_
      rw [← z]; exact (h1 j b ds hj).1
    refine ⟨fun j => if j = i then p else ad j, fun j b ds' hj => ?_, fun j k b c ds' ds'' hj hk => ?_⟩
    · rcases set_get hj with ⟨e, e2⟩ | ⟨e, e2⟩
      · subst e; cases e2
        have hi : i < es.length := by
          have := (List.getElem?_eq_some_iff.mp hj).1
          simpa using this
        refine ⟨?_, ?_, ?_, xs, ?_, h⟩ <;> simp only [if_true]
        · exact List.getElem?_set_self (by rw [I.len]; exact hi)
        · exact hB
        · exact ⟨fun _ => hF, fun z => by cases z⟩
        · exact hp
      · obtain ⟨a1, a2, a3, ys, a4, a5⟩ := h1 j b ds' e2
        have ej : j ≠ i := fun z => e z.symm
        refine ⟨?_, ?_, ?_, ys, ?_, a5⟩ <;> simp only [if_neg ej]
        · rw [List.getElem?_set_ne e]; exact a1
        · exact a2
        · exact a3
        · exact a4
    · rcases set_get hj with ⟨e, e2⟩ | ⟨e, e2⟩ <;> rcases set_get hk with ⟨f, f2⟩ | ⟨f, f2⟩
      · intro _; rw [← e, ← f]
      · subst e
        have fk : k ≠ i := fun z => f z.symm
        simp only [if_true, if_neg fk]
        intro z; exact absurd z.symm (key k c ds'' f2)
      · subst f
        have ej : j ≠ i := fun z => e z.symm
        simp only [if_true, if_neg ej]
        intro z; exact absurd z (key j b ds' e2)
      · have ej : j ≠ i := fun z => e z.symm
        have fk : k ≠ i := fun z => f z.symm
        simp only [if_neg ej, if_neg fk]
        exact h2 j k b c ds' ds'' e2 f2
theorem notOwn_none {K : PySem.W.Frag} {F : Fm} {B H : Hp} {σ : L2.St} {es : List Sl} (I : En K F B H σ es) {p : Addr} (hp : H p = none) : NotOwn σ es p := fun i b ds hi hs => by
  obtain ⟨ad, h1, _⟩ := I.ow
  obtain ⟨a1, _, _, ys, a4, _⟩ := h1 i b ds hi
  rw [a1] at hs
  have : ad i = p := by injection hs with hs; injection hs with hs; injection hs
  rw [this, hp] at a4; cases a4
theorem vl_list (h : VA X es as fun ds es1 => ds.length ≤ 100000 ∧ Λ ds es1) : VL X es (.List as pos) Λ := fun F B H σ I Q q => by
  refine EX.of (pe_lst pa_self) ?_
  refine h F B H σ I _ fun vs ds B1 H1 es1 ⟨hl, hq⟩ I1 S1 D1 => ⟨by rw [dpa_len D1]; exact Nat.le_trans hl (by decide), fun p hp => ?_⟩
  refine q p vs ds B1 _ es1 hq (I1.newO hp) (S1.tr ⟨fun _ _ => Iff.rfl, Ext.rfl' _, fun a o h _ => by rw [upd_ne (ne_of_none h hp)]; exact h, fun a h => by
    by_cases z : a = p
    · subst z; exact absurd hp h
    · rw [upd_ne z]; exact h, fun _ _ => rfl⟩) (I1.fnone hp) (I1.bnone hp) upd_same (notOwn_none I1 hp) D1
/-- x = e, e a new list -/
theorem wb_setL (i : Nat) {p' : Pos} (h : VL X es e fun ds es1 => ∃ es2, es1.set i (.ow true ds) = es2 ∧ WB X es2 rest P) (hN : X.N.Nodup := by assumption) (hi : X.N[i]? = some x := by rfl) (hx : Loc X.env.scope x := by first | exact Or.inl rfl | exact Or.inr rfl) (hs : swapsWith e (some (.Name x p')) pos.line X.env = pure false := by rfl)
    (hf : X.fn x = true ∨ X.env.scope.names.lookup x = some .local := by first | exact .inl rfl | exact .inr rfl) : WB X es (.Assign [.Name x p'] e pos :: rest) P :=
  wb_cons (P := P) (show WS X es _ { P with nx := fun es1 => WB X es1 rest P } from fun F B H σ I D d => by
    refine SX.of (ps_set hN hi hx pe_self hs hf) ?_
    refine h F B H σ I _ fun l xs ds B1 H1 es1 ⟨es2, e2, hq⟩ I1 S1 f1 b1 g1 n1 D1 => ?_
    refine d.nx es2 B1 H1 _ hq ?_ S1.eb
    rw [← e2]
    exact I1.putP f1 b1 g1 n1 D1)
/-- return e, e a new list -/
theorem wb_retL (h : VL X es e P.rl) : WB X es (.Return (some e) pos :: rest) P := wb_cons (P := P) (show WS X es _ { P with nx := fun es1 => WB X es1 rest P } from fun F B H σ I D d => by
  refine SX.of (ps_ret pe_self) ?_
  exact h F B H σ I _ fun l xs ds B1 H1 es1 hq I1 S1 f1 b1 g1 n1 D1 => d.rl l xs ds es1 B1 H1 σ hq I1 f1 b1 g1 D1)
/-- data in, a new list out -/
def spL (K : PySem.W.Frag) (R : List Dt → (List Dt → Prop) → Prop) : Sp := fun vs H Q _ => ∃ (B : Hp) (ds : List Dt) (G : List Dt → Prop), Ext B H ∧ DqAll K B vs ds ∧ R ds G ∧
  ∀ (p : Addr) (xs : List V) (ds' : List Dt) (B' H' : Hp), G ds' → Ext B B' → Ext H H' → Ext B' H' → (∀ a, H a ≠ none → B' a = B a) → H p = none → B' p = none → H' p = some (.lst xs) → DqAll K B' xs ds' → Q (.ref p) H'
theorem vl_call {R : List Dt → (List Dt → Prop) → Prop} (F : Fn X.prog X.w X.K X.mg X.base x k (spL X.K R)) (hr : Room j X.A) (hk : k ≤ j) (hg : Gl X x)
    (h : VA X es (e :: as) fun ds es1 => R ds fun d => Λ d es1) (hdb : (x == ("__debug__" : Str)) = false := by decide)
    (he : starEach (e :: as) X.env = (false, eval e X.env) :: starEach as X.env := by rfl) (hpl : (backTo pos (starEach as X.env)).any (·.1) = false := by rfl) :
    VL X es (.Call (.Name x p) (e :: as) [] pos) Λ := fun Fm B H σ I Q q => by
  obtain ⟨f, fd, ps, FO, hm, hkp, hb⟩ := F.ex
  refine EX.of (pe_call FO (hr.mono hk) hg hm hkp hb .nil (pass0 (X := X)) pa_self hdb he hpl) ?_
  refine h Fm B H σ I _ fun vs ds B1 H1 es1 hR I1 S1 D1 => ?_
  rw [List.append_nil]
  refine ⟨B1, ds, _, I1.bh, D1, hR, fun l xs d B2 H2 hd eb eh bh n hl bl gl Dv => ?_⟩
  exact q l xs d B2 H2 es1 hd (I1.grow eb eh bh n) (S1.tr ⟨fun _ _ => Iff.rfl, eb, fun a o h _ => eh a o h, fun a h z => h (eh.none z), n⟩) (I1.fnone hl) bl gl (notOwn_none I1 hl) Dv
theorem ok_L {P : Program} {w : World} {K : PySem.W.Frag} {mg : Str → Option Value} {base : Heap} {x qual : Str} {st : Stmt} {f : Addr} {fd : FuncData} {N ps : List Str} {k : Nat} {R : List Dt → (List Dt → Prop) → Prop} (F : Fun K x qual st f fd) (S : FnScope N ps (defScope st)) (hN : ps.length ≤ N.length)
    (hR : ∀ ds G, R ds G → ds.length = ps.length)
    (body : ∀ (cdv : Value) (A : Around) (outer : List Env) (s : Shared) (H : Hp) (E : XK), Room k (cxOf CX0 P w K mg base N qual (defScope st) f cdv A outer s H E).nox.A → ∀ (ds : List Dt) (G : List Dt → Prop), R ds G →
      WB (cxOf CX0 P w K mg base N qual (defScope st) f cdv A outer s H E).nox (ini N ds) (defBody st) { nx := fun _ => False, rt := fun _ _ => False, rl := fun d _ => G d }) :
    FnOk P w K mg base CX0 (k + 1) f fd ps (spL K R) := by
  refine F.ok S (fun vs H Q E h => ?_) (fun cdv A outer s H vs Q E hr h => ?_)
  · obtain ⟨B, ds, G, _, D, hR1, _⟩ := h
    rw [dpa_len D]; exact hR ds G hR1
  · obtain ⟨B, ds, G, eb, D, hR1, q⟩ := h
    refine ⟨_, pss_self, ?_⟩
    have hl : vs.length = ps.length := by rw [dpa_len D]; exact hR ds G hR1
    have I : En K ⟨B, H, []⟩ B H (L2.start N vs) (ini N ds) := by
      refine ⟨eb, Ext.rfl' B, fun a o e _ => e, fun _ _ => rfl, fun a ha => (by cases ha), ?_, fun i d h => ?_, fun _ => 0, fun i b d h => (ini_ow h).elim, fun i j b c d1 d2 h _ _ => (ini_ow h).elim⟩
      · unfold L2.start ini
        rw [List.length_append, List.length_append, List.length_map, List.length_map, List.length_replicate, List.length_replicate, dpa_len D]
      · obtain ⟨v, h1, h2⟩ := dpa_get D (ini_fz h)
        exact ⟨v, start_get h1, h2⟩
    refine body cdv A outer s H E hr ds G hR1 _ B H _ I _ ⟨fun _ _ _ _ h => h.elim, fun _ _ _ _ _ _ h => h.elim, fun _ _ _ _ h => h.elim, fun _ _ _ _ h => h.elim, fun l xs ds' es' B' H' σ' hg I' fl bl gl D' => ?_⟩
    exact q l xs ds' B' H' hg I'.fb (fun a o e => I'.fh a o e (by simp)) I'.bh I'.fr fl bl gl D'
end
end Lv
namespace Lv
open PySem PySem.Spec PyProof.Rows L2
section
variable {X : Cx} {es : List Sl} {Ψ : Dt → List Sl → Prop} {P : Po} {e : Expr} {rest : List Stmt} {pos : Pos}
/-- e alone -/
theorem wb_exp (h : VP X es e fun _ es1 => WB X es1 rest P) (hs : swapsWith e none pos.line X.env = pure false := by rfl) : WB X es (.Expr e pos :: rest) P := wb_cons (P := P) (show WS X es _ { P with nx := fun es1 => WB X es1 rest P } from fun F B H σ I D d => by
  refine SX.of (ps_expr pe_self hs) ?_
  exact h F B H σ I _ fun v dd B1 H1 es1 hq I1 S1 D1 => d.nx es1 B1 H1 σ hq I1 S1.eb)
end
end Lv
namespace Lv
theorem Bd.lit {i : Int} (n : Nat) (h : i.natAbs < 2 ^ n) : Bd n i := h
theorem Bd.mod {n : Nat} {i j : Int} (h0 : 0 < j) (h : Bd n j) : Bd n (i % j) := by
  have a := Int.emod_nonneg i (show j ≠ 0 by omega)
  have b := Int.emod_lt_of_pos i h0
  unfold Bd at *
  omega
theorem Bd.div {n : Nat} {i j : Int} (h0 : 0 < j) (h : Bd n i) : Bd n (i / j) := by
  unfold Bd at *
  refine Nat.lt_of_le_of_lt ?_ h
  have h1 := Int.mul_ediv_add_emod i j
  have a := Int.emod_nonneg i (show j ≠ 0 by omega)
  have b := Int.emod_lt_of_pos i h0
  have c : i / j ≤ i.natAbs := by
    by_cases hi : 0 ≤ i
    · have : i / j ≤ i := Int.ediv_le_self _ hi
      omega
    · have : i / j < 0 := Int.ediv_neg_of_neg_of_pos (by omega) h0
      omega
  have d : -(i.natAbs : Int) ≤ i / j := by
    by_cases hi : 0 ≤ i
    · have := Int.ediv_nonneg hi (show (0:Int) ≤ j by omega)
      omega
    · have : i ≤ i / j := by
        apply Int.le_ediv_of_mul_le h0
        have : i * j ≤ i * 1 := Int.mul_le_mul_of_nonpos_left (by omega) (by omega)
        omega
      omega
  omega
/-- the numbers of a draw: after at most m rolls -/
def Dice (m : Nat) (ds : List Dt) : Prop := ∃ a b c : Int, ds = [.int a, .int b, .int c] ∧ 0 ≤ a ∧ Bd 500 a ∧ 0 ≤ b ∧ Bd 500 b ∧ 0 ≤ c ∧ c ≤ m
theorem Dice.up {m m' : Nat} {ds : List Dt} (h : Dice m ds) (hm : m ≤ m') : Dice m' ds := by
  obtain ⟨a, b, c, e, h1, h2, h3, h4, h5, h6⟩ := h
  exact ⟨a, b, c, e, h1, h2, h3, h4, h5, by omega⟩
end Lv
namespace Lv
open PySem PySem.Spec PyProof.Rows L2
/-- // by any divisor below 2 ^ 9000 -/
def CDivV (_ j : Int) : Prop := j ≠ 0 ∧ j.natAbs.log2 < 9000
section
variable {X : Cx} {es : List Sl} {Ψ : Dt → List Sl → Prop} {a b : Expr} {pos : Pos}
theorem op_fdivV : OpR X (binaryOp .FloorDiv) (rI CDivV fun i j => .int (i.fdiv j)) := opI fun _ _ _ _ _ _ _ hc q => floordiv_int hc.1 q (.inl (PyProof.noPylong_of_log2 hc.2))
theorem vp_fdivV (h : VP X es a fun d es1 => ∃ i, d = .int i ∧ VP X es1 b fun d2 es2 => ∃ j, d2 = .int j ∧ CDivV i j ∧ Ψ (.int (i.fdiv j)) es2) : VP X es (.BinOp a .FloorDiv b pos) Ψ := vp_ii (C := CDivV) (g := fun i j => i.fdiv j) op_fdivV h
end
theorem Bd.cdivV {n : Nat} {i j : Int} (h0 : j ≠ 0) (h1 : Bd n j) (hn : 0 < n) (h : n ≤ 9000) : CDivV i j := ⟨h0, Nat.lt_of_lt_of_le (PySem.Flt.log2_lt_of hn h1) h⟩
end Lv
namespace Lv
theorem noOw1 {es : List Sl} {j : Nat} (h : es[j]? = some .no) : noOw es [j] := fun i hi b ds e => by
  have : i = j := by simpa using hi
  subst this
  rw [h] at e; cases e
theorem noOw2 {es : List Sl} {j k : Nat} (h : es[j]? = some .no) (h2 : es[k]? = some .no) : noOw es [j, k] := fun i hi b ds e => by
  have : i = j ∨ i = k := by simpa using hi
  rcases this with z | z <;> subst z
  · rw [h] at e; cases e
  · rw [h2] at e; cases e
end Lv
namespace Lv
theorem eqD_int (i j : Int) : eqD (.int i) (.int j) = decide (i = j) := rfl
theorem eqD_t2 (i j k l : Int) : eqD (.tuple [.int i, .int j]) (.tuple [.int k, .int l]) = (decide (i = k) && decide (j = l)) := by
  show (decide (i = k) && (decide (j = l) && true)) = _
  rw [Bool.and_true]
theorem eqD_l0 (x : Dt) (xs : List Dt) : eqD (.list (x :: xs)) (.list []) = false := rfl
theorem eqD_00 : eqD (.list []) (.list []) = true := rfl
end Lv
namespace Lv
theorem filt_true {α : Type} : ∀ l : List α, l.filter (fun _ => true) = l
  | [] => rfl
  | a :: l => by rw [List.filter_cons, if_pos rfl, filt_true l]
theorem map_bools (l : List Dt) (f : Dt → Bool) : Dt.list ((l.filter fun _ => true).map fun x => Dt.bool (f x)) = Dt.list ((l.map f).map Dt.bool) := by
  rw [filt_true, List.map_map]; rfl
end Lv
namespace Lv
theorem Bd.le {n : Nat} {x m : Int} (h : Bd n m) (h1 : (x.natAbs : Int) ≤ m) : Bd n x := by
  unfold Bd at *
  omega
end Lv
namespace Lv
theorem Bd.ite {n m : Nat} {a b : Int} {p : Prop} [Decidable p] (h1 : Bd n a) (h2 : Bd m b) : Bd (max n m) (if p then a else b) := by
  split
  · exact h1.mono (Nat.le_max_left n m)
  · exact h2.mono (Nat.le_max_right n m)
theorem at_ints {ns : List Int} {s : Int} (h0 : 0 ≤ s) (h1 : s < (ns.map Dt.int).length) : L2.atI (ns.map Dt.int) s = some (.int (ns.getD s.toNat 0)) := by
  unfold L2.atI L2.ixN
  rw [if_pos h0, if_pos (by omega)]
  have h2 : s.toNat < ns.length := by rw [List.length_map] at h1; omega
  show (ns.map Dt.int)[s.toNat]? = _
  rw [List.getElem?_map, List.getElem?_eq_getElem h2, List.getD_eq_getElem?_getD, List.getElem?_eq_getElem h2]
  rfl
theorem at_lt {xs : List Dt} {s : Int} (h0 : 0 ≤ s) (h1 : s < xs.length) : ∃ x, L2.atI xs s = some x ∧ x ∈ xs := by
  unfold L2.atI L2.ixN
  rw [if_pos h0, if_pos (by omega)]
  have h2 : s.toNat < xs.length := by omega
  exact ⟨xs[s.toNat], List.getElem?_eq_getElem h2, List.getElem_mem h2⟩
end Lv
namespace Lv
open PySem PySem.Spec PyProof.Rows L2
def AtD (x : Dt) : Prop := plain x = true ∧ (toPy x).canLay0 = true ∧ (toPy x).depth ≤ 3
theorem atD_all : ∀ l : List Dt, (∀ x ∈ l, AtD x) → plains l = true ∧ PyData.canLayAll0 (toPys l) = true ∧ PyData.depthAll (toPys l) ≤ 3
  | [], _ => ⟨rfl, rfl, by show (0:Nat) ≤ 3; decide⟩
  | x :: l, h => by
    obtain ⟨a1, a2, a3⟩ := h x (by simp)
    obtain ⟨b1, b2, b3⟩ := atD_all l fun y hy => h y (by simp [hy])
    refine ⟨?_, ?_, ?_⟩
    · show (plain x && plains l) = true
      rw [a1, b1]; rfl
    · show ((toPy x).canLay0 && PyData.canLayAll0 (toPys l)) = true
      rw [a2, b2]; rfl
    · show max (toPy x).depth (PyData.depthAll (toPys l)) ≤ 3
      exact Nat.max_le.mpr ⟨a3, b3⟩
theorem shD_list {l : List Dt} (h : ∀ x ∈ l, AtD x) : shD (.list l) := by
  obtain ⟨a, b, c⟩ := atD_all l h
  refine ⟨a, ?_⟩
  show (PyData.canLayAll0 (toPys l) && decide (PyData.depthAll (toPys l) + 1 ≤ 64)) = true
  rw [b, decide_eq_true (by omega)]; rfl
theorem atD_int (i : Int) : AtD (.int i) := ⟨rfl, rfl, Nat.zero_le 3⟩
theorem atD_bool (i : Bool) : AtD (.bool i) := ⟨rfl, rfl, Nat.zero_le 3⟩
theorem atD_none : AtD .none := ⟨rfl, rfl, Nat.zero_le 3⟩
theorem rng_mem {lo : Int} {n : Nat} {x : Dt} (h : x ∈ rng lo n) : ∃ i : Nat, i < n ∧ x = .int (lo + i) := by
  unfold rng at h
  obtain ⟨i, hi, rfl⟩ := List.mem_map.mp h
  exact ⟨i, List.mem_range.mp hi, rfl⟩
theorem rng_in {lo : Int} {n : Nat} {i : Int} (h0 : lo ≤ i) (h1 : i < lo + n) : Dt.int i ∈ rng lo n := by
  unfold rng
  refine List.mem_map.mpr ⟨(i - lo).toNat, List.mem_range.mpr (by omega), ?_⟩
  congr 1; omega
theorem filt_pos {l : List Dt} {p : Dt → Bool} {x : Dt} (h : x ∈ l) (hp : p x = true) : 0 < ((l.filter p).map fun x => x).length := by
  rw [List.length_map]
  exact List.length_pos_of_mem (List.mem_filter.mpr ⟨h, hp⟩)
theorem filt_len {l : List Dt} {p : Dt → Bool} {n : Nat} (h : l.length ≤ n) : ((l.filter p).map fun x => x).length ≤ n := by
  rw [List.length_map]
  exact Nat.le_trans (List.length_filter_le _ _) h
theorem filt_in {l : List Dt} {p : Dt → Bool} {x : Dt} (h : x ∈ (l.filter p).map fun x => x) : x ∈ l ∧ p x = true := by
  obtain ⟨y, hy, rfl⟩ := List.mem_map.mp h
  exact List.mem_filter.mp hy
end Lv
namespace Lv
open PySem PySem.Spec PyProof.Rows L2
theorem atD_str (s : String) : AtD (.str (Str.ofString s)) := by
  refine ⟨rfl, ?_, Nat.zero_le 3⟩
  show PyData.strOk (Str.ofString s) = true
  rw [Str.ofString_eq_toList]
  unfold PyData.strOk
  rw [List.all_toArray, List.all_eq_true]
  intro x hx
  obtain ⟨c, _, rfl⟩ := List.mem_map.mp hx
  have h := c.valid
  simp only [UInt32.isValidChar, Nat.isValidChar] at h
  have : c.toNat = c.val.toNat := rfl
  exact decide_eq_true (by omega)
theorem eqD_bool (a b : Bool) : eqD (.bool a) (.bool b) = (a == b) := rfl
section
variable {X : Cx} {Ψ : Dt → List Sl → Prop} {elt : Expr} {ifs : List Expr} {scope : Scope} {f : Dt → List Sl → (List Sl → Prop) → Prop}
/-- a comprehension whose data all have some property, and the slots stay -/
theorem comp_all {vs : List Nat} {xs : List Dt} {es1 : List Sl} (Pv : Dt → Prop) (nw : noOw es1 vs) (hl : xs.length ≤ 100000)
    (ht : ∀ x ∈ xs, f x (wipeE es1 vs) fun es3 => KX X scope fun X' => VTs X' es3 ifs fun b es4 => wipeE es4 vs = wipeE es1 vs ∧ (b = true → KX X scope fun X' => VP X' es4 elt fun y es5 => Pv y ∧ wipeE es5 vs = wipeE es1 vs))
    (hmono : ∀ (x : Dt) (es : List Sl) (N N' : List Sl → Prop), f x es N → (∀ e, N e → N' e) → f x es N')
    (h : ∀ acc, (∀ v ∈ acc, Pv v) → acc.length ≤ xs.length → Ψ (.list acc) (mrg vs 0 (wipeE es1 vs) es1)) : CompAsk X scope vs ifs elt f xs es1 Ψ := by
  refine ⟨nw, hl, fun i acc es2 => es2 = wipeE es1 vs ∧ (∀ v ∈ acc, Pv v) ∧ acc.length ≤ i, ⟨rfl, (by simp), Nat.le_refl 0⟩, fun i x acc es2 hx ⟨h1, h2, h3⟩ => ?_, fun acc es2 ⟨h1, h2, h3⟩ => ?_⟩
  · subst h1
    have hm : x ∈ xs := List.mem_of_getElem? hx
    refine hmono _ _ _ _ (ht x hm) fun es3 h3' s0 H0 C cl fp F B H σ I Q q => ?_
    refine h3' s0 H0 C cl fp F B H σ I Q fun b B' H' es4 ⟨hw, hy⟩ I' S' => q b B' H' es4 ⟨fun hb1 s1 H1 C1 cl1 fp1 => ?_, fun hb1 => ⟨hw, h2, by omega⟩⟩ I' S'
    refine (hy hb1 s1 H1 C1 cl1 fp1).imp fun y es5 ⟨h5, w5⟩ => ⟨w5, fun v hv => ?_, by rw [List.length_append]; simp; omega⟩
    rcases List.mem_append.mp hv with z | z
    · exact h2 v z
    · simp at z; rw [z]; exact h5
  · subst h1
    exact h acc h2 h3
end
end Lv

set_option Elab.async false
set_option linter.all false
set_option maxRecDepth 100000
set_option maxHeartbeats 4000000
namespace Pf
open Lv
/-- a fraction in least terms -/
def IsFr (p q : Int) : Prop := 0 ≤ q ∧ Int.gcd p q = 1 ∧ (q = 0 → p = 1)
/-- least terms -/
def nrm (t b : Int) : Int × Int :=
  if b < 0 ∨ (b = 0 ∧ t < 0) then ((-t) / (Int.gcd t b : Int), (-b) / (Int.gcd t b : Int)) else (t / (Int.gcd t b : Int), b / (Int.gcd t b : Int))
theorem fdiv_neg_dvd {t g : Int} (hg : 0 < g) (h : g ∣ t) : t.fdiv (-g) = (-t) / g := by
  obtain ⟨k, rfl⟩ := h
  have e1 : g * k = (-k) * (-g) := by rw [Int.neg_mul_neg, Int.mul_comm]
  have e2 : -(g * k) = (-k) * g := by rw [Int.neg_mul, Int.mul_comm]
  rw [e2, Int.mul_ediv_cancel _ (by omega), e1, Int.mul_fdiv_cancel _ (by omega)]
theorem fdiv_pos {t g : Int} (hg : 0 < g) : t.fdiv g = t / g := Int.fdiv_eq_ediv_of_nonneg t (by omega)
theorem gcd_dvd1 (t b : Int) : (Int.gcd t b : Int) ∣ t := Int.gcd_dvd_left t b
theorem gcd_dvd2 (t b : Int) : (Int.gcd t b : Int) ∣ b := Int.gcd_dvd_right t b
theorem gcd_pos {t b : Int} (h : ¬(t = 0 ∧ b = 0)) : 0 < (Int.gcd t b : Int) := by
  have : Int.gcd t b ≠ 0 := fun z => h (Int.gcd_eq_zero_iff.mp z)
  omega
theorem gcd_bd {n : Nat} {t b : Int} (h : ¬(t = 0 ∧ b = 0)) (h1 : Bd n t) (h2 : Bd n b) : Bd n (Int.gcd t b : Int) := by
  unfold Bd at *
  rw [Int.natAbs_natCast]
  by_cases ht : t = 0
  · subst ht
    rw [Int.gcd_zero_left]; exact h2
  · have : Int.gcd t b ∣ t.natAbs := Nat.gcd_dvd_left t.natAbs b.natAbs
    have := Nat.le_of_dvd (by omega) this
    omega
/-- a common divisor is a mix -/
theorem bez (a b : Nat) : ∃ u v : Int, u * a + v * b = (Nat.gcd a b : Nat) := by
  induction a, b using Nat.gcd.induction with
  | H0 n => exact ⟨0, 1, by simp⟩
  | H1 m n h ih =>
    obtain ⟨u, v, e⟩ := ih
    refine ⟨v - u * (n / m : Nat), u, ?_⟩
    rw [Nat.gcd_rec m n, ← e]
    have h1 : (n : Int) = (m : Int) * (n / m : Nat) + (n % m : Nat) := by
      have := Nat.div_add_mod n m
      exact_mod_cast this.symm
    generalize (n / m : Nat) = x at *
    generalize (n % m : Nat) = y at *
    grind
theorem bezI (a b : Int) : ∃ u v : Int, u * a + v * b = (Int.gcd a b : Nat) := by
  obtain ⟨u, v, e⟩ := bez a.natAbs b.natAbs
  have ha : ∃ s : Int, (a.natAbs : Int) = s * a := by
    rcases Int.natAbs_eq a with h | h
    · exact ⟨1, by omega⟩
    · exact ⟨-1, by omega⟩
  have hb : ∃ s : Int, (b.natAbs : Int) = s * b := by
    rcases Int.natAbs_eq b with h | h
    · exact ⟨1, by omega⟩
    · exact ⟨-1, by omega⟩
  obtain ⟨s, hs⟩ := ha
  obtain ⟨t, ht⟩ := hb
  refine ⟨u * s, v * t, ?_⟩
  have e2 : u * s * a + v * t * b = u * (s * a) + v * (t * b) := by grind
  rw [e2, ← hs, ← ht, e]
  rfl
end Pf
namespace Pf
open Lv
theorem nrm_pos {t b : Int} (h : ¬(b < 0 ∨ (b = 0 ∧ t < 0))) : nrm t b = (t / (Int.gcd t b : Int), b / (Int.gcd t b : Int)) := if_neg h
theorem nrm_neg {t b : Int} (h : b < 0 ∨ (b = 0 ∧ t < 0)) : nrm t b = ((-t) / (Int.gcd t b : Int), (-b) / (Int.gcd t b : Int)) := if_pos h
theorem gcd_step {a b : Int} (hb : 0 < b) (ha : 0 ≤ a) : Int.gcd b (a % b) = Int.gcd a b := by
  obtain ⟨x, rfl⟩ := Int.eq_ofNat_of_zero_le ha
  obtain ⟨y, rfl⟩ := Int.eq_ofNat_of_zero_le (Int.le_of_lt hb)
  show Nat.gcd y ((x : Int) % (y : Int)).natAbs = Nat.gcd x y
  rw [← Int.natCast_emod, Int.natAbs_natCast, Nat.gcd_comm x y, Nat.gcd_rec y x, Nat.gcd_comm]
theorem gcd_emodI (n m : Int) : Int.gcd m (n % m) = Int.gcd n m := by
  have e := Int.mul_ediv_add_emod n m
  apply Nat.dvd_antisymm
  · refine Int.dvd_gcd ?_ (Int.gcd_dvd_left _ _)
    have h1 := Int.gcd_dvd_left m (n % m)
    have h2 := Int.gcd_dvd_right m (n % m)
    have := Int.dvd_add (Int.dvd_mul_of_dvd_left (c := n / m) h1) h2
    rwa [e] at this
  · refine Int.dvd_gcd (Int.gcd_dvd_right _ _) ?_
    have h1 := Int.gcd_dvd_left n m
    have h2 := Int.gcd_dvd_right n m
    have := Int.dvd_sub h1 (Int.dvd_mul_of_dvd_left (c := n / m) h2)
    have e2 : n - m * (n / m) = n % m := by omega
    rwa [e2] at this
/-- the numbers of the inverse: n * before - high and n * now - low are multiples of m -/
structure InvI (m n hi lo be no : Int) : Prop where
  h0 : 0 < hi
  h1 : 0 ≤ lo
  h2 : lo < m ∨ m = 1
  d1 : m ∣ n * be - hi
  d2 : m ∣ n * no - lo
  g : Int.gcd hi lo = 1
  s : (be.natAbs : Int) * lo + (no.natAbs : Int) * hi ≤ m
  sb : (be.natAbs : Int) ≤ m
theorem InvI.start {m n : Int} (hm : 0 < m) (hg : Int.gcd n m = 1) : InvI m n m (n % m) 0 1 where
  h0 := hm
  h1 := Int.emod_nonneg _ (by omega)
  h2 := .inl (Int.emod_lt_of_pos _ hm)
  d1 := by
    rw [Int.mul_zero, Int.zero_sub]
    exact Int.dvd_neg.mpr (Int.dvd_refl m)
  d2 := by
    rw [Int.mul_one]
    exact ⟨n / m, by have := Int.mul_ediv_add_emod n m; omega⟩
  g := by
    rw [gcd_emodI, hg]
  s := by simp
  sb := by simp; omega
theorem natAbs_sub_mul (a t b : Int) (ht : 0 ≤ t) : ((a - t * b).natAbs : Int) ≤ a.natAbs + t * b.natAbs := by
  have h1 : (a - t * b).natAbs ≤ a.natAbs + (t * b).natAbs := Int.natAbs_sub_le a (t * b)
  have h2 : ((t * b).natAbs : Int) = t * b.natAbs := by
    rw [Int.natAbs_mul]
    have : (t.natAbs : Int) = t := by omega
    rw [Int.natCast_mul, this]
  omega
theorem InvI.step {m n hi lo be no : Int} (I : InvI m n hi lo be no) (hl : lo ≠ 0) : InvI m n lo (hi - hi / lo * lo) no (be - hi / lo * no) ∧ 0 ≤ hi - hi / lo * lo ∧ hi - hi / lo * lo < lo := by
  have h0 := I.h0; have h1 := I.h1
  have lp : 0 < lo := by omega
  have e : hi - hi / lo * lo = hi % lo := by
    have := Int.mul_ediv_add_emod hi lo
    have c := Int.mul_comm lo (hi / lo)
    omega
  have q0 : 0 ≤ hi / lo := Int.ediv_nonneg (by omega) (by omega)
  have r0 := Int.emod_nonneg hi (show lo ≠ 0 by omega)
  have r1 := Int.emod_lt_of_pos hi lp
  have hs := I.s
  have a1 := natAbs_sub_mul be (hi / lo) no q0
  refine ⟨⟨lp, by omega, ?_, I.d2, ?_, ?_, ?_, ?_⟩, by omega, by omega⟩
  · rcases I.h2 with h | h
    · exact .inl (by omega)
    · exact .inr h
  · obtain ⟨x, hx⟩ := I.d1
    obtain ⟨y, hy⟩ := I.d2
    exact ⟨x - hi / lo * y, by generalize hi / lo = t at *; grind⟩
  · rw [e, gcd_step lp (by omega)]
    exact I.g
  · rw [e]
    have a2 : ((be - hi / lo * no).natAbs : Int) * lo ≤ (be.natAbs + hi / lo * no.natAbs) * lo := Int.mul_le_mul_of_nonneg_right a1 (by omega)
    have a3 : ((be.natAbs : Int) + hi / lo * no.natAbs) * lo = be.natAbs * lo + no.natAbs * (hi - hi % lo) := by
      rw [← e]; generalize hi / lo = t; grind
    have a4 : (no.natAbs : Int) * (hi - hi % lo) = no.natAbs * hi - no.natAbs * (hi % lo) := Int.mul_sub _ _ _
    omega
  · have a2 : (no.natAbs : Int) * 1 ≤ no.natAbs * hi := Int.mul_le_mul_of_nonneg_left (by omega) (by omega)
    have a3 : 0 ≤ (be.natAbs : Int) * lo := Int.mul_nonneg (by omega) (by omega)
    omega
theorem InvI.bno {m n hi lo be no : Int} (I : InvI m n hi lo be no) : (no.natAbs : Int) ≤ m := by
  have h0 := I.h0; have h1 := I.h1; have hs := I.s
  have a2 : (no.natAbs : Int) * 1 ≤ no.natAbs * hi := Int.mul_le_mul_of_nonneg_left (by omega) (by omega)
  have a3 : 0 ≤ (be.natAbs : Int) * lo := Int.mul_nonneg (by omega) (by omega)
  omega
theorem InvI.bhi {m n hi lo be no : Int} (I : InvI m n hi lo be no) (hm : hi ≤ m) : True := trivial
theorem InvI.done {m n hi be no : Int} (I : InvI m n hi 0 be no) (hm : 0 < m) : m ∣ n * (be % m) - 1 := by
  have hg := I.g
  rw [Int.gcd_zero_right] at hg
  have h1 : hi = 1 := by have := I.h0; omega
  have h := I.d1
  rw [h1] at h
  obtain ⟨x, hx⟩ := h
  have e := Int.mul_ediv_add_emod be m
  refine ⟨x - n * (be / m), ?_⟩
  generalize be / m = t at *
  generalize be % m = r at *
  grind
end Pf
namespace Pf
open Lv
/-- the least number of a class without a common divisor with g -/
def Lst (g m l t : Int) : Prop := 0 ≤ t ∧ t % m = l % m ∧ Int.gcd t g = 1 ∧ ∀ s : Int, 0 ≤ s → s < t → s % m = l % m → Int.gcd s g ≠ 1
theorem Lst.uniq {g m l l' t t' : Int} (h : Lst g m l t) (h' : Lst g m l' t') (e : l % m = l' % m) : t = t' := by
  rcases Int.lt_trichotomy t t' with a | a | a
  · exact absurd h.2.2.1 (h'.2.2.2 t h.1 a (h.2.1.trans e))
  · exact a
  · exact absurd h'.2.2.1 (h.2.2.2 t' h'.1 a (h'.2.1.trans e.symm))
theorem lst_step {g m l t x : Int} (hm : 0 < m) (hg : 1 ≤ g) (L : Lst g m l t) (h0 : 0 ≤ x) (hx : x % m = l % m) (hle : x ≤ t) (h : ¬ Int.gcd x g = 1) : x + m ≤ t ∧ (x + m) % m = l % m := by
  refine ⟨?_, by rw [Int.add_emod_right]; exact hx⟩
  have ne : x ≠ t := fun z => h (by rw [z]; exact L.2.2.1)
  have e1 := Int.mul_ediv_add_emod x m
  have e2 := Int.mul_ediv_add_emod t m
  rw [L.2.1] at e2
  rw [hx] at e1
  have : x / m < t / m := by
    apply Int.lt_of_mul_lt_mul_left (a := m) _ (by omega)
    omega
  have : m * (x / m + 1) ≤ m * (t / m) := Int.mul_le_mul_of_nonneg_left (by omega) (by omega)
  have : m * (x / m + 1) = m * (x / m) + m := by rw [Int.mul_add, Int.mul_one]
  omega
theorem lst_end {g m l t x : Int} (hg : 1 ≤ g) (L : Lst g m l t) (h0 : 0 ≤ x) (hx : x % m = l % m) (hle : x ≤ t) (h : ¬ (1 : Int) < (Int.gcd x g : Nat)) : x = t := by
  have h1 : Int.gcd x g = 1 := by
    have := gcd_pos (t := x) (b := g) (by omega)
    omega
  rcases Int.lt_or_eq_of_le hle with a | a
  · exact absurd h1 (L.2.2.2 x h0 a hx)
  · exact a
def rimG (N q : Int) : Int := (Int.gcd q N : Nat)
def rimM (N q : Int) : Int := (Int.gcd (rimG N q) (N / rimG N q) : Nat)
def rimL (N p q : Int) : Int := p * (q / rimG N q)
def Rim (N p q t : Int) : Prop := Lst (rimG N q) (rimM N q) (rimL N p q) t
theorem rimG_pos {N : Int} (q : Int) (h : 1 ≤ N) : 0 < rimG N q := gcd_pos (by omega)
theorem rimG_le {N : Int} (q : Int) (h : 1 ≤ N) : rimG N q ≤ N := Int.le_of_dvd (by omega) (gcd_dvd2 q N)
theorem rimM_pos {N : Int} (q : Int) (h : 1 ≤ N) : 0 < rimM N q := gcd_pos (by have := rimG_pos q h; omega)
end Pf

set_option Elab.async false
set_option linter.all false
set_option maxRecDepth 100000
set_option maxHeartbeats 4000000
namespace Pf
open Lv
theorem ilt (a b : Int) : a < b ∨ b ≤ a := by omega
theorem rimG_spec (N q : Int) (hN : 1 ≤ N) : ∃ q1 n1 u v : Int, q = rimG N q * q1 ∧ N = rimG N q * n1 ∧ u * q1 + v * n1 = 1 ∧ q / rimG N q = q1 ∧ N / rimG N q = n1 := by
  obtain ⟨q1, h1⟩ : rimG N q ∣ q := gcd_dvd1 q N
  obtain ⟨n1, h2⟩ : rimG N q ∣ N := gcd_dvd2 q N
  obtain ⟨u, v, h3⟩ := bezI q N
  have hp := rimG_pos q hN
  have h3 : u * q + v * N = rimG N q := h3
  generalize rimG N q = G at *
  refine ⟨q1, n1, u, v, h1, h2, ?_, ?_, ?_⟩
  · have : G * (u * q1 + v * n1 - 1) = 0 := by rw [h1, h2] at h3; grind
    have := (Int.mul_eq_zero.mp this).resolve_left (by omega)
    omega
  · rw [h1, Int.mul_ediv_cancel_left _ (by omega)]
  · rw [h2, Int.mul_ediv_cancel_left _ (by omega)]
theorem rimM_spec (N q n1 : Int) (hN : 1 ≤ N) (h : N / rimG N q = n1) : ∃ g2 n2 u v : Int, rimG N q = rimM N q * g2 ∧ n1 = rimM N q * n2 ∧ u * rimG N q + v * n1 = rimM N q := by
  obtain ⟨g2, h1⟩ : rimM N q ∣ rimG N q := gcd_dvd1 _ _
  obtain ⟨n2, h2⟩ : rimM N q ∣ N / rimG N q := gcd_dvd2 _ _
  obtain ⟨u, v, h3⟩ := bezI (rimG N q) (N / rimG N q)
  rw [h] at h2 h3
  refine ⟨g2, n2, u, v, h1, h2, ?_⟩
  rw [h3]; unfold rimM; rw [h]
theorem rimG_dvd {N q c : Int} (h : rimG N q ∣ c) : rimG N q ∣ rimG N c := by
  have h2 : rimG N q ∣ N := gcd_dvd2 q N
  have : Int.gcd q N ∣ Int.gcd c N := Int.dvd_gcd h h2
  exact Int.natCast_dvd_natCast.mpr this
theorem rimG_inv {N p q a c e f g h : Int} (hN : 1 ≤ N) (det : e * h - f * g = 1) (hg : N ∣ g) (h1 : e * p + f * q = a) (h2 : g * p + h * q = c) : rimG N q = rimG N c := by
  have d1 : rimG N q ∣ N := gcd_dvd2 q N
  have d2 : rimG N q ∣ q := gcd_dvd1 q N
  have d3 : rimG N c ∣ N := gcd_dvd2 c N
  have d4 : rimG N c ∣ c := gcd_dvd1 c N
  have e1 : rimG N q ∣ rimG N c := rimG_dvd (by
    rw [← h2]
    exact Int.dvd_add (Int.dvd_mul_of_dvd_left (Int.dvd_trans d1 hg)) (Int.dvd_mul_of_dvd_right d2))
  have e2 : rimG N c ∣ rimG N q := rimG_dvd (by
    have : q = e * c - g * a := by rw [← h1, ← h2]; grind
    rw [this]
    exact Int.dvd_sub (Int.dvd_mul_of_dvd_right d4) (Int.dvd_mul_of_dvd_left (Int.dvd_trans d3 hg)))
  exact Int.dvd_antisymm (by have := rimG_pos q hN; omega) (by have := rimG_pos c hN; omega) e1 e2
theorem rim_inv {N p q a c e f g h : Int} (hN : 1 ≤ N) (det : e * h - f * g = 1) (hg : N ∣ g) (h1 : e * p + f * q = a) (h2 : g * p + h * q = c) :
    rimG N q = rimG N c ∧ rimM N q = rimM N c ∧ rimL N p q % rimM N q = rimL N a c % rimM N c := by
  have hG := rimG_inv hN det hg h1 h2
  have hM : rimM N q = rimM N c := by unfold rimM; rw [hG]
  refine ⟨hG, hM, ?_⟩
  obtain ⟨q1, n1, u1, v1, a1, a2, a3, a4, a5⟩ := rimG_spec N q hN
  obtain ⟨c1, n1', u2, v2, b1, b2, b3, b4, b5⟩ := rimG_spec N c hN
  obtain ⟨g2, n2, u3, v3, c3, c4, c5⟩ := rimM_spec N q n1 hN a5
  obtain ⟨g1, hg1⟩ := hg
  have hp := rimG_pos q hN
  rw [← hG] at b1 b2 b4 b5
  have hL : rimL N p q = p * q1 := by unfold rimL; rw [a4]
  have hL2 : rimL N a c = a * c1 := by unfold rimL; rw [← hG, b4]
  rw [← hM, hL, hL2]
  generalize rimG N q = G at *
  generalize rimM N q = m at *
  have hc1 : c1 = n1 * g1 * p + h * q1 := by
    have : G * (c1 - (n1 * g1 * p + h * q1)) = 0 := by
      have e1 : c = G * (n1 * g1 * p + h * q1) := by
        rw [← h2, hg1]
        conv => lhs; rw [a1]
        conv => lhs; rw [a2]
        grind
      have : G * c1 = G * (n1 * g1 * p + h * q1) := by rw [← b1, ← e1]
      rw [Int.mul_sub, this, Int.sub_self]
    have := (Int.mul_eq_zero.mp this).resolve_left (by omega)
    omega
  have key : a * c1 - p * q1 = m * (e * p * n2 * g1 * p + p * q1 * f * g2 * m * n2 * g1 + f * g2 * q1 * c1) := by
    have det2 : e * h = 1 + f * (G * n1 * g1) := by rw [← a2, ← hg1]; omega
    have hq : q = G * q1 := a1
    rw [← h1]
    have e1 : (e * p + f * q) * c1 - p * q1 = e * p * (n1 * g1 * p) + p * q1 * (e * h - 1) + f * q * c1 := by
      have : (e * p + f * q) * c1 = e * p * c1 + f * q * c1 := by grind
      rw [this]
      conv => lhs; lhs; lhs; rw [hc1]
      grind
    rw [e1, det2, hq]
    have z : (1 + f * (G * n1 * g1) - 1) = f * (G * n1 * g1) := by omega
    rw [z, c3]
    conv => lhs; rw [c4]
    grind
  have : (a * c1) % m = (p * q1) % m := Int.emod_eq_emod_iff_emod_sub_eq_zero.mpr (by rw [key]; exact Int.mul_emod_right _ _)
  exact this.symm

theorem one_mod {m A B n : Int} (h : A * B = 1 + n) (hn : m ∣ n) (E : Int) (h2 : m ∣ A * E) : m ∣ E := by
  obtain ⟨x, hx⟩ := hn
  obtain ⟨y, hy⟩ := h2
  refine ⟨B * y - E * x, ?_⟩
  have : E = B * (A * E) - E * n := by
    have : B * (A * E) = E * (A * B) := by grind
    rw [this, h]; grind
  rw [hy, hx] at this
  rw [this]; grind
/-- the same rim, so a matrix of the group -/
theorem rim_meet {N p q a c x y b d : Int} (hN : 1 ≤ N) (hF : p * y - x * q = 1) (hE : a * d - b * c = 1) (hG : rimG N q = rimG N c) (hL : rimL N p q % rimM N q = rimL N a c % rimM N c) :
    ∃ k : Int, 0 ≤ k ∧ k < N ∧ N ∣ c * y - (d + k * c) * q := by
  have hM : rimM N q = rimM N c := by unfold rimM; rw [hG]
  obtain ⟨q1, n1, u1, v1, a1, a2, a3, a4, a5⟩ := rimG_spec N q hN
  obtain ⟨c1, n1', u2, v2, b1, b2, b3, b4, b5⟩ := rimG_spec N c hN
  obtain ⟨g2, n2, u3, v3, c3, c4, c5⟩ := rimM_spec N q n1 hN a5
  rw [← hG] at b1 b2 b4 b5
  have hnn : n1' = n1 := by rw [← a5, ← b5]
  subst hnn
  rw [← hM] at hL
  have hp := rimG_pos q hN
  have hL1 : rimL N p q = p * q1 := by unfold rimL; rw [a4]
  have hL2 : rimL N a c = a * c1 := by unfold rimL; rw [← hG, b4]
  rw [hL1, hL2] at hL
  have hd : rimM N q ∣ a * c1 - p * q1 := Int.dvd_of_emod_eq_zero (Int.emod_eq_emod_iff_emod_sub_eq_zero.mp hL.symm)
  generalize rimG N q = G at *
  generalize rimM N q = m at *
  have dq : m ∣ q := ⟨g2 * q1, by rw [a1, c3]; grind⟩
  have dc : m ∣ c := ⟨g2 * c1, by rw [b1, c3]; grind⟩
  have hmE : m ∣ c1 * y - d * q1 := by
    refine one_mod (A := a * p) (B := y * d) (n := x * q + b * c + x * q * (b * c)) ?_ ?_ _ ?_
    · have e1 : p * y = 1 + x * q := by omega
      have e2 : a * d = 1 + b * c := by omega
      have : a * p * (y * d) = (p * y) * (a * d) := by grind
      rw [this, e1, e2]; grind
    · exact Int.dvd_add (Int.dvd_add (Int.dvd_mul_of_dvd_right dq) (Int.dvd_mul_of_dvd_right dc)) (Int.dvd_mul_of_dvd_left (Int.dvd_mul_of_dvd_right dq))
    · have e1 : p * y = 1 + x * q := by omega
      have e2 : a * d = 1 + b * c := by omega
      have : a * p * (c1 * y - d * q1) = (a * c1 - p * q1) + (a * c1 * x) * q - (p * q1 * b) * c := by
        have : a * p * (c1 * y - d * q1) = a * c1 * (p * y) - p * q1 * (a * d) := by grind
        rw [this, e1, e2]; grind
      rw [this]
      exact Int.dvd_sub (Int.dvd_add hd (Int.dvd_mul_of_dvd_right dq)) (Int.dvd_mul_of_dvd_right dc)
  obtain ⟨e0, he0⟩ := hmE
  -- the number of steps
  have hk0 : N ∣ c * y - (d + e0 * u3 * u1 * u2 * c) * q := by
    have h1 : n1' ∣ (c1 * y - d * q1) - e0 * u3 * u1 * u2 * G * c1 * q1 := by
      rw [he0]
      have e1 : u1 * q1 = 1 - v1 * n1' := by omega
      have e2 : u2 * c1 = 1 - v2 * n1' := by omega
      have e3 : u3 * G = m - v3 * n1' := by omega
      have : m * e0 - e0 * u3 * u1 * u2 * G * c1 * q1 = m * e0 - e0 * (u3 * G) * (u1 * q1) * (u2 * c1) := by grind
      rw [this, e1, e2, e3]
      refine ⟨e0 * (m * (v1 + v2 - v1 * v2 * n1') + v3 * (1 - v1 * n1') * (1 - v2 * n1')), ?_⟩
      grind
    obtain ⟨w, hw⟩ := h1
    refine ⟨w, ?_⟩
    have : c * y - (d + e0 * u3 * u1 * u2 * c) * q = G * ((c1 * y - d * q1) - e0 * u3 * u1 * u2 * G * c1 * q1) := by
      rw [a1, b1]; grind
    rw [this, hw]
    conv => rhs; rw [a2]
    grind
  refine ⟨(e0 * u3 * u1 * u2) % N, Int.emod_nonneg _ (by omega), Int.emod_lt_of_pos _ (by omega), ?_⟩
  have e := Int.mul_ediv_add_emod (e0 * u3 * u1 * u2) N
  generalize e0 * u3 * u1 * u2 = k at *
  generalize k % N = r at *
  obtain ⟨w, hw⟩ := hk0
  refine ⟨w + (k / N) * c * q, ?_⟩
  generalize k / N = s at *
  rw [← e] at hw
  grind
/-! ### there is such a number -/
def srch (g m : Nat) : Nat → Nat → Bool
  | 0, _ => false
  | k + 1, t => Nat.gcd t g == 1 || srch g m k (t + m)
theorem srch_of {g m : Nat} : ∀ {k t : Nat}, srch g m k t = true → ∃ j, j < k ∧ Nat.gcd (t + j * m) g = 1
  | 0, _, h => by cases h
  | k + 1, t, h => by
    unfold srch at h
    rw [Bool.or_eq_true] at h
    rcases h with h | h
    · exact ⟨0, by omega, by simpa using h⟩
    · obtain ⟨j, hj, e⟩ := srch_of h
      refine ⟨j + 1, by omega, ?_⟩
      have : t + (j + 1) * m = t + m + j * m := by rw [Nat.succ_mul]; omega
      rw [this]; exact e
def allS : Bool := (List.range 101).all fun g => (List.range 11).all fun m => (List.range m).all fun r => g == 0 || !(g % m == 0) || !(Nat.gcd r m == 1) || srch g m g r
theorem allS_ok : allS = true := by decide +kernel
theorem lst_nat {g m r : Nat} (hg : 1 ≤ g) (hg2 : g ≤ 100) (hm2 : m ≤ 10) (hd : m ∣ g) (hr : r < m) (hc : Nat.gcd r m = 1) : ∃ j, j < g ∧ Nat.gcd (r + j * m) g = 1 := by
  have h := allS_ok
  unfold allS at h
  rw [List.all_eq_true] at h
  have h := h g (List.mem_range.mpr (by omega))
  rw [List.all_eq_true] at h
  have h := h m (List.mem_range.mpr (by omega))
  rw [List.all_eq_true] at h
  have h := h r (List.mem_range.mpr hr)
  have h1 : (g == 0) = false := by simp; omega
  have h2 : (g % m == 0) = true := by simpa using Nat.mod_eq_zero_of_dvd hd
  have h3 : (Nat.gcd r m == 1) = true := by simpa using hc
  rw [h1, h2, h3] at h
  exact srch_of (by simpa using h)

theorem gcd_of_mix {a b U V : Int} (h : U * a + V * b = 1) : Int.gcd a b = 1 := by
  have h1 : (Int.gcd a b : Int) ∣ 1 := by
    rw [← h]
    exact Int.dvd_add (Int.dvd_mul_of_dvd_right (Int.gcd_dvd_left a b)) (Int.dvd_mul_of_dvd_right (Int.gcd_dvd_right a b))
  have := Int.eq_one_of_dvd_one (by omega) h1
  omega
theorem least_nat (P : Nat → Prop) : ∀ n, P n → ∃ n, P n ∧ ∀ m, m < n → ¬ P m := fun n => by
  induction n using Nat.strongRecOn with
  | ind n ih =>
    intro h
    by_cases e : ∃ m, m < n ∧ P m
    · obtain ⟨m, hm, hP⟩ := e
      exact ih m hm hP
    · exact ⟨n, h, fun m hm hP => e ⟨m, hm, hP⟩⟩
theorem rim_ex {N p q : Int} (h1 : 1 ≤ N) (h2 : N ≤ 100) (hF : Int.gcd p q = 1) : ∃ t, Rim N p q t ∧ t ≤ rimG N q * rimM N q := by
  obtain ⟨q1, n1, u1, v1, a1, a2, a3, a4, a5⟩ := rimG_spec N q h1
  obtain ⟨g2, n2, u3, v3, c3, c4, c5⟩ := rimM_spec N q n1 h1 a5
  have gp := rimG_pos q h1
  have gl := rimG_le q h1
  have mp := rimM_pos q h1
  obtain ⟨u, v, e⟩ := bezI p q
  rw [hF] at e
  have hL : rimL N p q = p * q1 := by unfold rimL; rw [a4]
  have hc : Int.gcd (rimL N p q) (rimM N q) = 1 := by
    rw [hL]
    have e2 : (u * p + v * q) * (u1 * q1 + v1 * n1) = 1 := by rw [e, a3]; rfl
    refine gcd_of_mix (U := u * u1) (V := u * p * v1 * n2 + v * (g2 * q1) * (u1 * q1 + v1 * n1)) ?_
    generalize rimG N q = G at *
    generalize rimM N q = m at *
    rw [← e2]
    conv => rhs; lhs; rhs; rhs; rw [a1, c3]
    conv => rhs; rw [Int.add_mul]
    conv => rhs; lhs; rw [c4]
    grind
  have hm : rimM N q ≤ 10 := by
    have hNm : N = rimM N q * g2 * (rimM N q * n2) := by rw [← c3, ← c4]; exact a2
    generalize rimG N q = G at *
    generalize rimM N q = m at *
    have g0 : 0 < g2 := by
      rcases ilt 0 g2 with h | h
      · exact h
      · have : m * g2 ≤ m * 0 := Int.mul_le_mul_of_nonneg_left h (by omega)
        omega
    have n0 : 0 < n2 := by
      rcases ilt 0 n2 with h | h
      · exact h
      · have : m * n2 ≤ m * 0 := Int.mul_le_mul_of_nonneg_left h (by omega)
        have : G * n1 ≤ G * 0 := Int.mul_le_mul_of_nonneg_left (by omega) (by omega)
        omega
    rcases ilt 10 m with h | h
    · have x1 : 11 * 1 ≤ m * g2 := Int.mul_le_mul (by omega) (by omega) (by omega) (by omega)
      have x2 : 11 * 1 ≤ m * n2 := Int.mul_le_mul (by omega) (by omega) (by omega) (by omega)
      have x3 : 11 * 11 ≤ m * g2 * (m * n2) := Int.mul_le_mul (by omega) (by omega) (by omega) (by omega)
      omega
    · exact h
  have hd : rimM N q ∣ rimG N q := ⟨g2, c3⟩
  unfold Rim
  generalize rimL N p q = L at *
  generalize rimG N q = G at *
  generalize rimM N q = m at *
  obtain ⟨Gn, rfl⟩ := Int.eq_ofNat_of_zero_le (show 0 ≤ G by omega)
  obtain ⟨mn, rfl⟩ := Int.eq_ofNat_of_zero_le (show 0 ≤ m by omega)
  obtain ⟨r, hr⟩ := Int.eq_ofNat_of_zero_le (Int.emod_nonneg L (show (mn : Int) ≠ 0 by omega))
  have hrl : r < mn := by have := Int.emod_lt_of_pos L (show (0 : Int) < mn by omega); omega
  have hcr : Nat.gcd r mn = 1 := by
    have := gcd_emodI L mn
    rw [hc, hr] at this
    have h3 : Int.gcd (mn : Int) (r : Int) = Nat.gcd mn r := rfl
    rw [Nat.gcd_comm, ← h3, this]
  obtain ⟨j, hj, e1⟩ := lst_nat (g := Gn) (m := mn) (r := r) (by omega) (by omega) (by omega) (Int.natCast_dvd_natCast.mp hd) hrl hcr
  obtain ⟨t, ⟨t1, t2⟩, t3⟩ := least_nat (fun t => t % mn = r ∧ Nat.gcd t Gn = 1) (r + j * mn) ⟨by rw [Nat.add_mul_mod_self_right, Nat.mod_eq_of_lt hrl], e1⟩
  have tl : t ≤ r + j * mn := by
    rcases Nat.lt_or_ge (r + j * mn) t with h | h
    · exact absurd ⟨by rw [Nat.add_mul_mod_self_right, Nat.mod_eq_of_lt hrl], e1⟩ (t3 _ h)
    · exact h
  refine ⟨t, ⟨by omega, ?_, t2, fun s s0 s1 s2 s3 => ?_⟩, ?_⟩
  · rw [hr, ← t1]; rfl
  · obtain ⟨s, rfl⟩ := Int.eq_ofNat_of_zero_le s0
    refine t3 s (by omega) ⟨?_, s3⟩
    rw [hr] at s2
    have : ((s % mn : Nat) : Int) = (r : Nat) := by rw [← s2]; rfl
    omega
  · have : (j + 1) * mn ≤ Gn * mn := Nat.mul_le_mul_right mn hj
    have e3 : (j + 1) * mn = j * mn + mn := Nat.succ_mul j mn
    have : t ≤ Gn * mn := by omega
    exact_mod_cast this
/-! ### least terms -/
theorem nrm_fr {t b : Int} (h : ¬(t = 0 ∧ b = 0)) : ∃ e : Int, (e = 1 ∨ e = -1) ∧ t = e * (Int.gcd t b : Nat) * (nrm t b).1 ∧ b = e * (Int.gcd t b : Nat) * (nrm t b).2 ∧ IsFr (nrm t b).1 (nrm t b).2 := by
  have gp := gcd_pos h
  obtain ⟨t1, h1⟩ := gcd_dvd1 t b
  obtain ⟨b1, h2⟩ := gcd_dvd2 t b
  obtain ⟨u, v, h3⟩ := bezI t b
  have e0 : u * t1 + v * b1 = 1 := by
    generalize (Int.gcd t b : Int) = g at *
    have : g * (u * t1 + v * b1 - 1) = 0 := by rw [h1, h2] at h3; grind
    have := (Int.mul_eq_zero.mp this).resolve_left (by omega)
    omega
  unfold nrm
  by_cases c : b < 0 ∨ (b = 0 ∧ t < 0)
  · rw [if_pos c]
    have x1 : (-t) / (Int.gcd t b : Int) = -t1 := by
      conv => lhs; lhs; rw [h1]
      rw [← Int.mul_neg, Int.mul_ediv_cancel_left _ (by omega)]
    have x2 : (-b) / (Int.gcd t b : Int) = -b1 := by
      conv => lhs; lhs; rw [h2]
      rw [← Int.mul_neg, Int.mul_ediv_cancel_left _ (by omega)]
    simp only [x1, x2]
    generalize (Int.gcd t b : Int) = g at *
    refine ⟨-1, .inr rfl, by grind, by grind, ?_, gcd_of_mix (U := -u) (V := -v) (by grind), fun z => ?_⟩
    · rcases ilt b1 1 with q | q
      · omega
      · have : g * 1 ≤ g * b1 := Int.mul_le_mul_of_nonneg_left q (by omega)
        omega
    · have z : b1 = 0 := by omega
      subst z
      have hb : b = 0 := by rw [h2]; simp
      have ht : t < 0 := by omega
      have : t1 < 0 := by
        rcases ilt t1 0 with q | q
        · exact q
        · have : g * 0 ≤ g * t1 := Int.mul_le_mul_of_nonneg_left q (by omega)
          omega
      have e1 : u * t1 = 1 := by omega
      have d1 : t1 ∣ 1 := ⟨u, by rw [Int.mul_comm]; exact e1.symm⟩
      have d2 := Nat.dvd_one.mp (Int.natAbs_dvd_natAbs.mpr d1)
      omega
  · rw [if_neg c]
    have x1 : t / (Int.gcd t b : Int) = t1 := by
      conv => lhs; lhs; rw [h1]
      rw [Int.mul_ediv_cancel_left _ (by omega)]
    have x2 : b / (Int.gcd t b : Int) = b1 := by
      conv => lhs; lhs; rw [h2]
      rw [Int.mul_ediv_cancel_left _ (by omega)]
    simp only [x1, x2]
    generalize (Int.gcd t b : Int) = g at *
    refine ⟨1, .inl rfl, by grind, by grind, ?_, gcd_of_mix (U := u) (V := v) (by grind), fun z => ?_⟩
    · rcases ilt b1 0 with q | q
      · have : g * b1 ≤ g * (-1) := Int.mul_le_mul_of_nonneg_left (by omega) (by omega)
        omega
      · exact q
    · subst z
      have hb : b = 0 := by rw [h2]; simp
      have ht : 0 < t := by omega
      have : 0 < t1 := by
        rcases ilt 0 t1 with q | q
        · exact q
        · have : g * t1 ≤ g * 0 := Int.mul_le_mul_of_nonneg_left q (by omega)
          omega
      have e1 : u * t1 = 1 := by omega
      have d1 : t1 ∣ 1 := ⟨u, by rw [Int.mul_comm]; exact e1.symm⟩
      have d2 := Nat.dvd_one.mp (Int.natAbs_dvd_natAbs.mpr d1)
      omega

theorem nrm_sz {t b : Int} (h : ¬(t = 0 ∧ b = 0)) : (nrm t b).1.natAbs ≤ t.natAbs ∧ (nrm t b).2.natAbs ≤ b.natAbs := by
  obtain ⟨e, he, h1, h2, _⟩ := nrm_fr h
  have gp := gcd_pos h
  have key : ∀ x y : Int, x = e * (Int.gcd t b : Nat) * y → y.natAbs ≤ x.natAbs := fun x y hxy => by
    rw [hxy, Int.natAbs_mul, Int.natAbs_mul]
    have e1 : e.natAbs = 1 := by rcases he with z | z <;> rw [z] <;> rfl
    rw [e1, Int.natAbs_natCast, Nat.one_mul]
    exact Nat.le_mul_of_pos_left _ (by omega)
  exact ⟨key _ _ h1, key _ _ h2⟩
theorem nrm_self {p q : Int} (h : IsFr p q) : nrm p q = (p, q) := by
  obtain ⟨h0, h1, h2⟩ := h
  rw [nrm_pos (by omega), h1]
  simp
/-- led by a matrix: the rim stays -/
theorem rim_led {N p q e f g h : Int} (hN : 1 ≤ N) (det : e * h - f * g = 1) (hg : N ∣ g) (h0 : ¬(e * p + f * q = 0 ∧ g * p + h * q = 0)) (hF : IsFr p q) {t t' : Int} (h1 : Rim N p q t) (h2 : Rim N (nrm (e * p + f * q) (g * p + h * q)).1 (nrm (e * p + f * q) (g * p + h * q)).2 t') : t = t' ∧ rimG N q = rimG N (nrm (e * p + f * q) (g * p + h * q)).2 := by
  obtain ⟨s, hs, e1, e2, F⟩ := nrm_fr h0
  have g1 : Int.gcd (e * p + f * q) (g * p + h * q) = 1 := by
    obtain ⟨u, v, e3⟩ := bezI p q
    rw [hF.2.1] at e3
    refine gcd_of_mix (U := u * h - v * g) (V := v * e - u * f) ?_
    have : (u * h - v * g) * (e * p + f * q) + (v * e - u * f) * (g * p + h * q) = (u * p + v * q) * (e * h - f * g) := by grind
    rw [this, e3, det]; rfl
  rw [g1] at e1 e2
  generalize (nrm (e * p + f * q) (g * p + h * q)).1 = a at *
  generalize (nrm (e * p + f * q) (g * p + h * q)).2 = c at *
  have ss : s * s = 1 := by rcases hs with z | z <;> rw [z] <;> rfl
  obtain ⟨r1, r2, r3⟩ := rim_inv (N := N) (p := p) (q := q) (a := a) (c := c) (e := s * e) (f := s * f) (g := s * g) (h := s * h) hN (by
    have : s * e * (s * h) - s * f * (s * g) = (s * s) * (e * h - f * g) := by grind
    rw [this, ss, det]; rfl) (Int.dvd_mul_of_dvd_right hg) (by
    have : s * e * p + s * f * q = s * (e * p + f * q) := by grind
    rw [this, e1]
    have : s * (s * ((1 : Nat) : Int) * a) = (s * s) * a := by grind
    rw [this, ss]; simp) (by
    have : s * g * p + s * h * q = s * (g * p + h * q) := by grind
    rw [this, e2]
    have : s * (s * ((1 : Nat) : Int) * c) = (s * s) * c := by grind
    rw [this, ss]; simp)
  refine ⟨?_, r1⟩
  unfold Rim at h1 h2
  rw [← r1, ← r2] at h2
  rw [← r2] at r3
  exact Lst.uniq h1 h2 r3
theorem rim_exact {N p q a c e f g h : Int} (hN : 1 ≤ N) (det : e * h - f * g = 1) (hg : N ∣ g) (e1 : e * p + f * q = a) (e2 : g * p + h * q = c) {t t' : Int} (h1 : Rim N p q t) (h2 : Rim N a c t') : t = t' ∧ rimG N q = rimG N c := by
  obtain ⟨r1, r2, r3⟩ := rim_inv hN det hg e1 e2
  refine ⟨?_, r1⟩
  unfold Rim at h1 h2
  rw [← r1, ← r2] at h2
  rw [← r2] at r3
  exact Lst.uniq h1 h2 r3
theorem rim_same {N p q a c x y b d : Int} (hN : 1 ≤ N) (hF : p * y - x * q = 1) (hE : a * d - b * c = 1) {t : Int} (h1 : Rim N p q t) (h2 : Rim N a c t) (hG : rimG N q = rimG N c) :
    ∃ k : Int, 0 ≤ k ∧ k < N ∧ N ∣ c * y - (d + k * c) * q := by
  refine rim_meet hN hF hE hG ?_
  have hM : rimM N q = rimM N c := by unfold rimM; rw [hG]
  unfold Rim at h1 h2
  rw [← h1.2.1, hM, ← h2.2.1]
/-! ### the mix of two ints, by turns -/
structure Bz (o1 o2 : Int) (i : Nat) (r0 s0 t0 r1 s1 t1 : Int) : Prop where
  m0 : s0 * o1 + t0 * o2 = r0
  m1 : s1 * o1 + t1 * o2 = r1
  g : Int.gcd r0 r1 = Int.gcd o1 o2
  bs0 : (s0.natAbs : Int) ≤ o2.natAbs + 1
  bt0 : (t0.natAbs : Int) ≤ o1.natAbs + 2 * o2.natAbs + 1
  ss : (s0.natAbs : Int) * r1.natAbs + s1.natAbs * r0.natAbs ≤ o2.natAbs
  ts : (t0.natAbs : Int) * r1.natAbs + t1.natAbs * r0.natAbs ≤ o1.natAbs + 2 * o2.natAbs
  lt : 0 < i → (r1.natAbs : Int) < r0.natAbs ∧ ((0 ≤ r0 ∧ 0 ≤ r1) ∨ (r0 ≤ 0 ∧ r1 ≤ 0)) ∧ (r0.natAbs : Int) * r1.natAbs * 2 ^ (i - 1) ≤ (o2.natAbs : Int) * o2.natAbs
  st : i = 0 → s0 = 1 ∧ t0 = 0 ∧ r0 = o1 ∧ s1 = 0 ∧ t1 = 1 ∧ r1 = o2
theorem Bz.start (o1 o2 : Int) : Bz o1 o2 0 o1 1 0 o2 0 1 where
  m0 := by simp
  m1 := by simp
  g := rfl
  bs0 := by simp; omega
  bt0 := by simp; omega
  ss := by simp
  ts := by simp; omega
  lt := fun h => absurd h (by decide)
  st := fun _ => ⟨rfl, rfl, rfl, rfl, rfl, rfl⟩
/-- floor division: what is left has the sign of the divisor and is nearer to 0 -/
theorem fd_spec (a b : Int) (hb : b ≠ 0) : ((a - a.fdiv b * b).natAbs : Int) < b.natAbs ∧ ((0 ≤ b ∧ 0 ≤ a - a.fdiv b * b) ∨ (b ≤ 0 ∧ a - a.fdiv b * b ≤ 0)) := by
  have e : a - a.fdiv b * b = a.fmod b := by
    have := Int.mul_fdiv_add_fmod a b
    have c := Int.mul_comm b (a.fdiv b)
    omega
  rw [e]
  rcases Int.lt_or_gt_of_ne hb with h | h
  · have h1 : a.fmod b = -((-a) % (-b)) := by
      have := Int.fmod_eq_emod_of_nonneg (-a) (show 0 ≤ -b by omega)
      have h2 : (-a).fmod (-b) = -(a.fmod b) := Int.neg_fmod_neg a b
      omega
    have x1 := Int.emod_nonneg (-a) (show -b ≠ 0 by omega)
    have x2 := Int.emod_lt_of_pos (-a) (show 0 < -b by omega)
    omega
  · have h1 := Int.fmod_eq_emod_of_nonneg a (show 0 ≤ b by omega)
    have x1 := Int.emod_nonneg a hb
    have x2 := Int.emod_lt_of_pos a h
    omega

theorem natAbs_sub_le2 (a t b : Int) : ((a - t * b).natAbs : Int) ≤ a.natAbs + t.natAbs * b.natAbs := by
  have h1 : (a - t * b).natAbs ≤ a.natAbs + (t * b).natAbs := Int.natAbs_sub_le a (t * b)
  rw [Int.natAbs_mul] at h1
  exact_mod_cast h1
/-- one size goes along -/
theorem bz_size {s0 s1 q R0 R1 R2 M : Int} (h1 : 0 ≤ R1) (hR : R0 = q.natAbs * R1 + R2) (h : (s0.natAbs : Int) * R1 + s1.natAbs * R0 ≤ M) : (s1.natAbs : Int) * R2 + ((s0 - q * s1).natAbs : Int) * R1 ≤ M := by
  have a1 := natAbs_sub_le2 s0 q s1
  have a2 : ((s0 - q * s1).natAbs : Int) * R1 ≤ (s0.natAbs + q.natAbs * s1.natAbs) * R1 := Int.mul_le_mul_of_nonneg_right a1 h1
  have a3 : ((s0.natAbs : Int) + q.natAbs * s1.natAbs) * R1 + s1.natAbs * R2 = s0.natAbs * R1 + s1.natAbs * (q.natAbs * R1 + R2) := by grind
  rw [← hR] at a3
  omega
theorem bz_parts {r0 r1 q r2 : Int} (e : r2 = r0 - q * r1) (hs : (0 ≤ r0 ∧ 0 ≤ r1) ∨ (r0 ≤ 0 ∧ r1 ≤ 0)) (hl : (r1.natAbs : Int) < r0.natAbs) (h2 : (r2.natAbs : Int) < r1.natAbs) (hs2 : (0 ≤ r1 ∧ 0 ≤ r2) ∨ (r1 ≤ 0 ∧ r2 ≤ 0)) :
    (r0.natAbs : Int) = q.natAbs * r1.natAbs + r2.natAbs ∧ 1 ≤ (q.natAbs : Int) := by
  have hq : 0 < q := by
    rcases ilt 0 q with h | h
    · exact h
    · rcases hs with ⟨x, y⟩ | ⟨x, y⟩
      · have : q * r1 ≤ 0 * r1 := Int.mul_le_mul_of_nonneg_right h y
        omega
      · have : 0 * r1 ≤ q * r1 := Int.mul_le_mul_of_nonpos_right h y
        omega
  have hn : (q.natAbs : Int) = q := by omega
  rw [hn]
  refine ⟨?_, by omega⟩
  rcases hs with ⟨x, y⟩ | ⟨x, y⟩
  · have e1 : (r1.natAbs : Int) = r1 := by omega
    rw [e1]
    omega
  · have e1 : (r1.natAbs : Int) = -r1 := by omega
    rw [e1, Int.mul_neg]
    omega
theorem Bz.step {o1 o2 : Int} {i : Nat} {r0 s0 t0 r1 s1 t1 : Int} (b : Bz o1 o2 i r0 s0 t0 r1 s1 t1) (h : r1 ≠ 0) :
    Bz o1 o2 (i + 1) r1 s1 t1 (r0 - r0.fdiv r1 * r1) (s0 - r0.fdiv r1 * s1) (t0 - r0.fdiv r1 * t1) := by
  obtain ⟨f1, f2⟩ := fd_spec r0 r1 h
  generalize hq : r0.fdiv r1 = q at *
  generalize he : r0 - q * r1 = r2 at *
  have hg : Int.gcd r1 r2 = Int.gcd o1 o2 := by
    rw [← b.g, ← he]
    apply Nat.dvd_antisymm
    · refine Int.dvd_gcd ?_ (Int.gcd_dvd_left _ _)
      have h1 := Int.gcd_dvd_left r1 (r0 - q * r1)
      have h2 := Int.gcd_dvd_right r1 (r0 - q * r1)
      have := Int.dvd_add h2 (Int.dvd_mul_of_dvd_right (b := q) h1)
      have e2 : r0 - q * r1 + q * r1 = r0 := by omega
      rwa [e2] at this
    · refine Int.dvd_gcd (Int.gcd_dvd_right _ _) ?_
      exact Int.dvd_sub (Int.gcd_dvd_left _ _) (Int.dvd_mul_of_dvd_right (Int.gcd_dvd_right _ _))
  have m2 : (s0 - q * s1) * o1 + (t0 - q * t1) * o2 = r2 := by
    rw [← he, ← b.m0, ← b.m1]; grind
  rcases Nat.eq_zero_or_pos i with hi | hi
  · obtain ⟨z1, z2, z3, z4, z5, z6⟩ := b.st hi
    subst z1 z2 z3 z4 z5 z6 hi
    have e1 : (1 : Int) - q * 0 = 1 := by omega
    have e2 : (0 : Int) - q * 1 = -q := by omega
    rw [e1, e2] at m2 ⊢
    refine ⟨b.m1, m2, hg, by simp; omega, by simp; omega, by simp, ?_, fun _ => ⟨f1, f2, ?_⟩, fun z => by omega⟩
    · have : ((q * r1).natAbs : Int) ≤ r0.natAbs + r2.natAbs := by omega
      rw [Int.natAbs_mul] at this
      have : (q.natAbs : Int) * r1.natAbs ≤ r0.natAbs + r2.natAbs := by exact_mod_cast this
      have e3 : ((-q).natAbs : Int) = q.natAbs := by rw [Int.natAbs_neg]
      have e4 : ((1 : Int).natAbs : Int) = 1 := rfl
      rw [e3, e4, Int.one_mul]
      omega
    · have : (r1.natAbs : Int) * r2.natAbs ≤ r1.natAbs * r1.natAbs := Int.mul_le_mul_of_nonneg_left (by omega) (by omega)
      simpa using this
  · obtain ⟨l1, l2, l3⟩ := b.lt hi
    obtain ⟨p1, p2⟩ := bz_parts he.symm l2 l1 f1 f2
    have r0p : 1 ≤ (r0.natAbs : Int) := by omega
    refine ⟨b.m1, m2, hg, ?_, ?_, bz_size (by omega) p1 b.ss, bz_size (by omega) p1 b.ts, fun _ => ⟨f1, f2, ?_⟩, fun z => by omega⟩
    · have := b.ss
      have x1 : (s1.natAbs : Int) * 1 ≤ s1.natAbs * r0.natAbs := Int.mul_le_mul_of_nonneg_left r0p (by omega)
      have x2 : 0 ≤ (s0.natAbs : Int) * r1.natAbs := Int.mul_nonneg (by omega) (by omega)
      omega
    · have := b.ts
      have x1 : (t1.natAbs : Int) * 1 ≤ t1.natAbs * r0.natAbs := Int.mul_le_mul_of_nonneg_left r0p (by omega)
      have x2 : 0 ≤ (t0.natAbs : Int) * r1.natAbs := Int.mul_nonneg (by omega) (by omega)
      omega
    · refine Int.le_trans ?_ l3
      have e1 : (2 : Int) ^ (i + 1 - 1) = 2 ^ (i - 1) * 2 := by
        rw [← Int.pow_succ]; congr 1; omega
      rw [e1]
      have h2 : 2 * (r2.natAbs : Int) ≤ r0.natAbs := by
        have : 1 * (r1.natAbs : Int) ≤ q.natAbs * r1.natAbs := Int.mul_le_mul_of_nonneg_right p2 (by omega)
        omega
      have P : (0 : Int) ≤ 2 ^ (i - 1) := Int.pow_nonneg (by decide)
      generalize (2 : Int) ^ (i - 1) = w at *
      have x1 : (r1.natAbs : Int) * (2 * r2.natAbs) ≤ r1.natAbs * r0.natAbs := Int.mul_le_mul_of_nonneg_left h2 (by omega)
      have x2 := Int.mul_le_mul_of_nonneg_right x1 P
      have e2 : (r1.natAbs : Int) * r2.natAbs * (w * 2) = r1.natAbs * (2 * r2.natAbs) * w := by grind
      have e3 : (r0.natAbs : Int) * r1.natAbs * w = r1.natAbs * r0.natAbs * w := by grind
      rw [e2, e3]; exact x2
theorem Bz.fin {o1 o2 : Int} {i : Nat} {r0 s0 t0 r1 s1 t1 : Int} (b : Bz o1 o2 i r0 s0 t0 r1 s1 t1) (hi : 0 < i) (h : (o2.natAbs : Int) * o2.natAbs < 2 ^ (i - 1)) : r1 = 0 := by
  obtain ⟨l1, l2, l3⟩ := b.lt hi
  rcases Int.lt_trichotomy (r1.natAbs : Int) 0 with z | z | z
  · omega
  · omega
  · have x : 1 * 1 ≤ (r0.natAbs : Int) * r1.natAbs := Int.mul_le_mul (by omega) (by omega) (by omega) (by omega)
    have P : (0 : Int) ≤ 2 ^ (i - 1) := Int.pow_nonneg (by decide)
    have y : 1 * 2 ^ (i - 1) ≤ (r0.natAbs : Int) * r1.natAbs * 2 ^ (i - 1) := Int.mul_le_mul_of_nonneg_right (by omega) P
    omega
/-- the mix that is told -/
theorem Bz.done {o1 o2 : Int} {i : Nat} {r0 s0 t0 s1 t1 : Int} (b : Bz o1 o2 i r0 s0 t0 0 s1 t1) (hg : Int.gcd o1 o2 = 1) : (s0 * r0) * o1 + (t0 * r0) * o2 = 1 ∧ (s0 * r0).natAbs = s0.natAbs ∧ (t0 * r0).natAbs = t0.natAbs := by
  have h := b.g
  rw [hg, Int.gcd_zero_right] at h
  have e := b.m0
  have r : r0 = 1 ∨ r0 = -1 := by omega
  refine ⟨?_, ?_, ?_⟩
  · have : s0 * r0 * o1 + t0 * r0 * o2 = r0 * (s0 * o1 + t0 * o2) := by grind
    rw [this, e]
    rcases r with z | z <;> rw [z] <;> rfl
  · rcases r with z | z <;> rw [z] <;> simp
  · rcases r with z | z <;> rw [z] <;> simp

theorem bd_of {n : Nat} {x : Int} {m : Int} (h : (x.natAbs : Int) ≤ m) (hm : m < 2 ^ n) : Bd n x := by
  unfold Bd
  have : ((2 ^ n : Nat) : Int) = 2 ^ n := by simp
  omega
theorem bd_nat {n : Nat} {x : Int} (h : Bd n x) : (x.natAbs : Int) < 2 ^ n := by
  unfold Bd at h
  have : ((2 ^ n : Nat) : Int) = 2 ^ n := by simp
  omega
theorem Bz.bds {o1 o2 : Int} {i : Nat} {r0 s0 t0 r1 s1 t1 : Int} (b : Bz o1 o2 i r0 s0 t0 r1 s1 t1) (h1 : Bd 160 o1) (h2 : Bd 160 o2) (h : r1 ≠ 0) : (Bd 330 r0 ∧ Bd 330 s0 ∧ Bd 330 t0) ∧ Bd 330 r1 ∧ Bd 330 s1 ∧ Bd 330 t1 := by
  have x1 := bd_nat h1
  have x2 := bd_nat h2
  have bs := bd_of (n := 330) b.bs0 (by omega)
  have bt := bd_of (n := 330) b.bt0 (by omega)
  rcases Nat.eq_zero_or_pos i with hi | hi
  · obtain ⟨z1, z2, z3, z4, z5, z6⟩ := b.st hi
    subst z1 z2 z3 z4 z5 z6
    exact ⟨⟨h1.mono (by decide), bs, bt⟩, h2.mono (by decide), Bd.lit 330 (by decide +kernel), Bd.lit 330 (by decide +kernel)⟩
  · obtain ⟨l1, l2, l3⟩ := b.lt hi
    have P : (1 : Int) ≤ 2 ^ (i - 1) := by
      have : (0 : Int) < 2 ^ (i - 1) := Int.pow_pos (by decide)
      omega
    have r1p : 1 ≤ (r1.natAbs : Int) := by omega
    have y1 : (r0.natAbs : Int) * 1 ≤ r0.natAbs * r1.natAbs := Int.mul_le_mul_of_nonneg_left r1p (by omega)
    have y2 : (r0.natAbs : Int) * r1.natAbs * 1 ≤ r0.natAbs * r1.natAbs * 2 ^ (i - 1) := Int.mul_le_mul_of_nonneg_left P (by omega)
    have y3 : (o2.natAbs : Int) * o2.natAbs ≤ 2 ^ 160 * 2 ^ 160 := Int.mul_le_mul (by omega) (by omega) (by omega) (by omega)
    have r0p : 1 ≤ (r0.natAbs : Int) := by omega
    have a1 := b.ss
    have a2 := b.ts
    have z1 : (s1.natAbs : Int) * 1 ≤ s1.natAbs * r0.natAbs := Int.mul_le_mul_of_nonneg_left r0p (by omega)
    have z2 : 0 ≤ (s0.natAbs : Int) * r1.natAbs := Int.mul_nonneg (by omega) (by omega)
    have z3 : (t1.natAbs : Int) * 1 ≤ t1.natAbs * r0.natAbs := Int.mul_le_mul_of_nonneg_left r0p (by omega)
    have z4 : 0 ≤ (t0.natAbs : Int) * r1.natAbs := Int.mul_nonneg (by omega) (by omega)
    have e : (2 : Int) ^ 160 * 2 ^ 160 < 2 ^ 330 := by decide +kernel
    exact ⟨⟨bd_of (m := 2 ^ 160 * 2 ^ 160) (by omega) e, bs, bt⟩, bd_of (m := 2 ^ 160 * 2 ^ 160) (by omega) e, bd_of (m := o2.natAbs) (by omega) (by omega), bd_of (m := o1.natAbs + 2 * o2.natAbs) (by omega) (by omega)⟩
theorem fdiv_bd {a b : Int} (hb : b ≠ 0) (h1 : Bd 330 a) (h2 : Bd 330 b) : Bd 335 (a.fdiv b) := by
  obtain ⟨f1, _⟩ := fd_spec a b hb
  have x1 := bd_nat h1
  have x2 := bd_nat h2
  have e : ((a.fdiv b * b).natAbs : Int) ≤ a.natAbs + b.natAbs := by omega
  rw [Int.natAbs_mul] at e
  have e : ((a.fdiv b).natAbs : Int) * b.natAbs ≤ a.natAbs + b.natAbs := by exact_mod_cast e
  have : ((a.fdiv b).natAbs : Int) * 1 ≤ (a.fdiv b).natAbs * b.natAbs := Int.mul_le_mul_of_nonneg_left (by omega) (by omega)
  exact bd_of (m := a.natAbs + b.natAbs) (by omega) (by omega)
theorem Bz.bdr {o1 o2 : Int} {i : Nat} {r0 s0 t0 s1 t1 : Int} (b : Bz o1 o2 i r0 s0 t0 0 s1 t1) (h1 : Bd 160 o1) (h2 : Bd 160 o2) : Bd 160 r0 ∧ Bd 170 s0 ∧ Bd 170 t0 := by
  have x1 := bd_nat h1
  have x2 := bd_nat h2
  refine ⟨?_, bd_of (n := 170) b.bs0 (by omega), bd_of (n := 170) b.bt0 (by omega)⟩
  have h := b.g
  rw [Int.gcd_zero_right] at h
  by_cases z : o1 = 0 ∧ o2 = 0
  · obtain ⟨z1, z2⟩ := z
    subst z1 z2
    have : r0 = 0 := by simp at h; omega
    subst this
    exact h1
  · have := gcd_bd z h1 h2
    unfold Bd at this ⊢
    rw [Int.natAbs_natCast, ← h] at this
    exact this
end Pf

set_option Elab.async false
set_option linter.all false
set_option maxRecDepth 100000
set_option maxHeartbeats 4000000
namespace Pf
open PySem PySem.Spec PyProof.Rows L2 Lv
def top (i : Nat) : Stmt := PySem.Challenge.pw_levelroads_k14_whole_classes_by_matrices.main.body.getD i (.Pass ⟨0, 0, 0, 0⟩)
local macro_rules | `(tactic| walk_at "bd") => `(tactic| repeat (first | assumption | exact Bd.lit 12 (by decide +kernel) | exact Bd.lit 80 (by decide +kernel) | exact Bd.lit 500 (by decide +kernel) | apply Bd.mul | apply Bd.add | apply Bd.sub | apply Bd.neg | apply Bd.mod | apply Bd.div | apply Bd.ite | decide | omega))
local macro_rules | `(tactic| walk_at "mul_ok") => `(tactic| (apply Bd.cmul; (focus walk_at "bd"); (focus walk_at "bd"); decide))
local macro_rules | `(tactic| walk_at "bdm") => `(tactic| (apply Bd.mono; (focus walk_at "bd"); decide))
local macro_rules | `(tactic| walk_at "pos_ok") => `(tactic| first | assumption | decide | omega)
local macro_rules | `(tactic| walk_at "div_ok") => `(tactic| (apply Bd.cdiv; (focus walk_at "pos_ok"); (focus walk_at "bd"); decide; decide))
local macro_rules | `(tactic| walk_at "divv_ok") => `(tactic| (apply Bd.cdivV; (focus (first | assumption | omega)); (focus walk_at "bd"); decide; decide))
local macro_rules | `(tactic| walk_at "shd_ok") => `(tactic| exact ⟨rfl, rfl⟩)
local macro_rules | `(tactic| walk_at "notO_ok") => `(tactic| first | assumption | rfl)
section
variable {P : Program} {w : World} {K : PySem.W.Frag} {mg : Str → Option Value} {base : Heap}

theorem abs_gcd (a b : Int) : Int.gcd (if a < 0 then -a else a) (if b < 0 then -b else b) = Int.gcd a b := by
  split <;> split <;> simp

abbrev s_law_gcd : Stmt := top 35
theorem sc_law_gcd : FnScope ["_law_one", "_law_other"] ["_law_one", "_law_other"] (defScope s_law_gcd) := ⟨rfl, rfl, rfl, by decide +kernel, rfl, by decide +kernel, by decide +kernel⟩
def R_law_gcd : List Dt → (Dt → Prop) → Prop := fun ds G => ∃ a b : Int, ds = [.int a, .int b] ∧ G (.int (Int.gcd a b : Nat))
theorem ok_law_gcd {f : Addr} {fd : FuncData} (F : Fun K "_law_gcd" "_law_gcd" s_law_gcd f fd) (m_abs : mg "abs" = none) (m_int : mg "int" = none) : FnOk P w K mg base CX0 1 f fd ["_law_one", "_law_other"] (spR K R_law_gcd) := by
  refine ok_R F sc_law_gcd (by decide) (fun ds G ⟨a, b, hd, hG⟩ => by subst hd; rfl) fun cdv A outer s H E hr ds G ⟨a, b, hd, hG⟩ => ?_
  subst hd
  have nd := sc_law_gcd.nd
  have hu := hr.units
  refine wb_par 0 1 ?_
  refine va_cons ?_
  refine vp_abs m_abs rfl ?_
  refine vp_v 0 ?_
  refine ⟨_, rfl, ?_⟩
  refine va_cons ?_
  refine vp_abs m_abs rfl ?_
  refine vp_v 1 ?_
  refine ⟨_, rfl, ?_⟩
  refine va_nil ?_
  refine ⟨_, _, rfl, _, rfl, ?_⟩
  show WB _ [_, _] _ _
  refine wb_cons (ws_while (fun m es => ∃ x y : Int, es = [.fz (.int x), .fz (.int y)] ∧ 0 ≤ x ∧ 0 ≤ y ∧ m = y.toNat ∧ Int.gcd x y = Int.gcd a b) _ ⟨_, _, rfl, ?_, ?_, rfl, abs_gcd a b⟩ PassesOwn.never fun m es ⟨x, y, he, hx, hy, hm, hg⟩ => ?_)
  · split <;> omega
  · split <;> omega
  subst he
  refine vt_gt ?_
  refine vp_v 1 ?_
  refine ⟨_, rfl, ?_⟩
  refine vp_int ?_
  refine ⟨_, rfl, ?_⟩
  refine ⟨fun h => ?_, fun h => ?_⟩
  · have hy0 : 0 < y := by simpa using h
    refine wb_par 0 1 ?_
    refine va_cons ?_
    refine vp_v 1 ?_
    refine va_cons ?_
    refine vp_mod ?_
    refine vp_int1 m_int rfl ?_
    refine vp_v 0 ?_
    refine .inl ⟨_, rfl, ?_⟩
    refine ⟨_, rfl, ?_⟩
    refine vp_v 1 ?_
    refine ⟨_, rfl, by walk_at "pos_ok", ?_⟩
    refine va_nil ?_
    refine ⟨_, _, rfl, _, rfl, ?_⟩
    show WB _ [_, _] _ _
    refine wb_nil ⟨(x % y).toNat, ?_, y, x % y, rfl, hy, Int.emod_nonneg _ (by omega), rfl, (gcd_step hy0 hx).trans hg⟩
    have := Int.emod_lt_of_pos x hy0
    have := Int.emod_nonneg x (show y ≠ 0 by omega)
    omega
  have hy0 : y = 0 := by simp at h; omega
  subst hy0
  refine wb_ret ?_
  refine vp_v 0 ?_
  rw [← hg] at hG
  have : ((Int.gcd x 0 : Nat) : Int) = x := by simp; omega
  rw [this] at hG
  exact hG
abbrev s_law_roll : Stmt := top 33
theorem sc_law_roll : FnScope ["_law_dice_here", "_law_total", "_law_found", "_law_one", "_law_two"] ["_law_dice_here", "_law_total"] (defScope s_law_roll) := ⟨rfl, rfl, rfl, by decide +kernel, rfl, by decide +kernel, by decide +kernel⟩
def R_law_roll : List Dt → List Dt → (Dt → List Dt → Prop) → Prop := fun ds as G => ∃ (n : Int) (m : Nat), as = [.int n] ∧ Dice m ds ∧ 0 < n ∧ Bd 60 n ∧ m < 2 ^ 60 ∧ ∀ (r : Int) (ds : List Dt), 0 ≤ r → r < n → Dice (m + 1) ds → G (.int r) ds
theorem ok_law_roll {f : Addr} {fd : FuncData} (F : Fun K "_law_roll" "_law_roll" s_law_roll f fd) (m_int : mg "int" = none) : FnOk P w K mg base CX0 1 f fd ["_law_dice_here", "_law_total"] (spO K R_law_roll) := by
  refine ok_O F sc_law_roll (by decide) (fun ds as G ⟨n, mm, hd, hD, hn, hn2, hm, hG⟩ => by subst hd; rfl) fun cdv A outer s H E hr ds as G ⟨n, mm, hd, hD, hn, hn2, hm, hG⟩ => ?_
  subst hd
  have nd := sc_law_roll.nd
  have hu := hr.units
  obtain ⟨a, b, c, rfl, ha, ha2, hb, hb2, hc, hc2⟩ := hD
  have hc3 : Bd 70 c := by unfold Bd; omega
  refine wb_ifR ?_
  refine vt_gt ?_
  refine vp_ixO 0 ?_
  refine vp_int ?_
  refine ⟨_, _, _, _, rfl, rfl, rfl, ?_⟩
  refine ⟨_, rfl, ?_⟩
  refine vp_int ?_
  refine ⟨_, rfl, ?_⟩
  refine ⟨fun h => ?_, fun h => ?_⟩
  · refine wb_set 2 ?_
    refine vp_mod ?_
    refine vp_int1 m_int rfl ?_
    refine vp_ixO 0 ?_
    refine vp_int ?_
    refine ⟨_, _, _, _, rfl, rfl, rfl, ?_⟩
    refine .inl ⟨_, rfl, ?_⟩
    refine ⟨_, rfl, ?_⟩
    refine vp_v 1 ?_
    refine ⟨_, rfl, by walk_at "pos_ok", ?_⟩
    refine ⟨_, rfl, ?_⟩
    show WB _ [_, _, _, _, _] _ _
    refine wb_stO 0 ?_
    refine vp_fdiv ?_
    refine vp_ixO 0 ?_
    refine vp_int ?_
    refine ⟨_, _, _, _, rfl, rfl, rfl, ?_⟩
    refine ⟨_, rfl, ?_⟩
    refine vp_v 1 ?_
    refine ⟨_, rfl, by walk_at "div_ok", ?_⟩
    refine ⟨rfl, ?_⟩
    refine vp_int ?_
    refine ⟨rfl, _, _, rfl, rfl, _, rfl, ?_⟩
    show WB _ [_, _, _, _, _] _ _
    refine wb_ret ?_
    refine vp_v 2 ?_
    exact ⟨_, rfl, hG _ _ (Int.emod_nonneg _ (by omega)) (Int.emod_lt_of_pos _ hn) ⟨_, _, _, rfl, Int.ediv_nonneg ha (by omega), Bd.div hn ha2, hb, hb2, hc, by omega⟩⟩
  refine wb_stO 0 ?_
  refine vp_add ?_
  refine vp_ixO 0 ?_
  refine vp_int ?_
  refine ⟨_, _, _, _, rfl, rfl, rfl, ?_⟩
  refine ⟨_, rfl, ?_⟩
  refine vp_int ?_
  refine ⟨_, rfl, ?_⟩
  refine ⟨rfl, ?_⟩
  refine vp_int ?_
  refine ⟨rfl, _, _, rfl, rfl, _, rfl, ?_⟩
  show WB _ [_, _, _, _, _] _ _
  refine wb_set 3 ?_
  refine vp_mod ?_
  refine vp_int1 m_int rfl ?_
  refine vp_add ?_
  refine vp_ixO 0 ?_
  refine vp_int ?_
  refine ⟨_, _, _, _, rfl, rfl, rfl, ?_⟩
  refine ⟨_, rfl, ?_⟩
  refine vp_mul ?_
  refine vp_int ?_
  refine ⟨_, rfl, ?_⟩
  refine vp_ixO 0 ?_
  refine vp_int ?_
  refine ⟨_, _, _, _, rfl, rfl, rfl, ?_⟩
  refine ⟨_, rfl, by walk_at "mul_ok", ?_⟩
  refine ⟨_, rfl, ?_⟩
  refine .inl ⟨_, rfl, ?_⟩
  refine ⟨_, rfl, ?_⟩
  refine vp_int ?_
  refine ⟨_, rfl, by walk_at "pos_ok", ?_⟩
  refine ⟨_, rfl, ?_⟩
  show WB _ [_, _, _, _, _] _ _
  refine wb_set 4 ?_
  refine vp_add ?_
  refine vp_mul ?_
  refine vp_mod ?_
  refine vp_int1 m_int rfl ?_
  refine vp_add ?_
  refine vp_mul ?_
  refine vp_v 3 ?_
  refine ⟨_, rfl, ?_⟩
  refine vp_v 3 ?_
  refine ⟨_, rfl, by walk_at "mul_ok", ?_⟩
  refine ⟨_, rfl, ?_⟩
  refine vp_mul ?_
  refine vp_int ?_
  refine ⟨_, rfl, ?_⟩
  refine vp_ixO 0 ?_
  refine vp_int ?_
  refine ⟨_, _, _, _, rfl, rfl, rfl, ?_⟩
  refine ⟨_, rfl, by walk_at "mul_ok", ?_⟩
  refine ⟨_, rfl, ?_⟩
  refine .inl ⟨_, rfl, ?_⟩
  refine ⟨_, rfl, ?_⟩
  refine vp_int ?_
  refine ⟨_, rfl, by walk_at "pos_ok", ?_⟩
  refine ⟨_, rfl, ?_⟩
  refine vp_int ?_
  refine ⟨_, rfl, by walk_at "mul_ok", ?_⟩
  refine ⟨_, rfl, ?_⟩
  refine vp_v 3 ?_
  refine ⟨_, rfl, ?_⟩
  refine ⟨_, rfl, ?_⟩
  show WB _ [_, _, _, _, _] _ _
  refine wb_ret ?_
  refine vp_mod ?_
  refine vp_int1 m_int rfl ?_
  refine vp_fdiv ?_
  refine vp_v 4 ?_
  refine ⟨_, rfl, ?_⟩
  refine vp_int ?_
  refine ⟨_, rfl, by walk_at "div_ok", ?_⟩
  refine .inl ⟨_, rfl, ?_⟩
  refine ⟨_, rfl, ?_⟩
  refine vp_v 1 ?_
  refine ⟨_, rfl, by walk_at "pos_ok", ?_⟩
  exact ⟨_, rfl, hG _ _ (Int.emod_nonneg _ (by omega)) (Int.emod_lt_of_pos _ hn) ⟨_, _, _, rfl, ha, ha2, hb, hb2, by omega, by omega⟩⟩
def isW : Dt → Bool
  | .int _ => true
  | _ => false
def isJ : Dt → Bool
  | .int i => decide (-1000000000000000000000000000000000000000000000000000000000000 < i) && decide (i < 1000000000000000000000000000000000000000000000000000000000000)
  | _ => false
def isLv : Dt → Bool
  | .int i => decide (1 ≤ i) && decide (i ≤ 100)
  | _ => false
abbrev sis_whole : Stmt := top 9
theorem scis_whole : FnScope ["value"] ["value"] (defScope sis_whole) := ⟨rfl, rfl, rfl, by decide +kernel, rfl, by decide +kernel, by decide +kernel⟩
def Ris_whole : List Dt → (Dt → Prop) → Prop := fun ds G => ∃ d, ds = [d] ∧ notO d = true ∧ G (.bool (isW d))
theorem okis_whole {f : Addr} {fd : FuncData} (F : Fun K "is_whole" "is_whole" sis_whole f fd) (m_isinstance : mg "isinstance" = none) (m_int : mg "int" = none) (m_bool : mg "bool" = none) : FnOk P w K mg base CX0 1 f fd ["value"] (spR K Ris_whole) := by
  refine ok_R F scis_whole (by decide) (fun ds G ⟨d, hd, hn, hG⟩ => by subst hd; rfl) fun cdv A outer s H E hr ds G ⟨d, hd, hn, hG⟩ => ?_
  subst hd
  have nd := scis_whole.nd
  have hu := hr.units
  refine wb_ret ?_
  refine vp_andP ?_
  refine vp_isInt m_isinstance m_int rfl rfl ?_
  refine vp_v 0 ?_
  refine ⟨by walk_at "notO_ok", ?_⟩
  refine ⟨_, rfl, ?_⟩
  apply Exists.intro
  refine ⟨fun h => ?_, ?_⟩
  · refine vp_one ?_
    refine vp_not ?_
    refine vp_isBool m_isinstance m_bool rfl rfl ?_
    refine vp_v 0 ?_
    refine ⟨by walk_at "notO_ok", ?_⟩
    refine ⟨_, rfl, ?_⟩
    exact ⟨rfl, rfl⟩
  have : (isI d && !isB d) = isW d := by cases d <;> rfl
  rw [this]; exact hG
abbrev sis_integer : Stmt := top 10
theorem scis_integer : FnScope ["value"] ["value"] (defScope sis_integer) := ⟨rfl, rfl, rfl, by decide +kernel, rfl, by decide +kernel, by decide +kernel⟩
def Ris_integer : List Dt → (Dt → Prop) → Prop := fun ds G => ∃ d, ds = [d] ∧ notO d = true ∧ G (.bool (isJ d))
theorem okis_integer {f : Addr} {fd : FuncData} (F : Fun K "is_integer" "is_integer" sis_integer f fd) (m_isinstance : mg "isinstance" = none) (m_int : mg "int" = none) (m_bool : mg "bool" = none) (t_TOO_LONG : Tok) (g_TOO_LONG : mg "_TOO_LONG" = some (.int 1000000000000000000000000000000000000000000000000000000000000 t_TOO_LONG)) : FnOk P w K mg base CX0 2 f fd ["value"] (spR K Ris_integer) := by
  refine ok_R F scis_integer (by decide) (fun ds G ⟨d, hd, hn, hG⟩ => by subst hd; rfl) fun cdv A outer s H E hr ds G ⟨d, hd, hn, hG⟩ => ?_
  subst hd
  have nd := scis_integer.nd
  have hu := hr.units
  refine wb_ret ?_
  refine vp_andP ?_
  refine vp_isInt m_isinstance m_int rfl rfl ?_
  refine vp_v 0 ?_
  refine ⟨by walk_at "notO_ok", ?_⟩
  refine ⟨_, rfl, (!isB d && isJ d), fun h => ?_, ?_⟩
  · refine vp_andP ?_
    refine vp_not ?_
    refine vp_isBool m_isinstance m_bool rfl rfl ?_
    refine vp_v 0 ?_
    refine ⟨by walk_at "notO_ok", ?_⟩
    refine ⟨_, rfl, ?_⟩
    refine ⟨_, rfl, isJ d, fun h2 => ?_, ⟨rfl, rfl⟩⟩
    cases d <;> first | (exact absurd h Bool.false_ne_true) | (exact absurd h2 Bool.false_ne_true) | skip
    rename_i i
    refine vp_one ?_
    refine vp_chainP op_lt op_lt ?_
    refine vp_neg ?_
    refine vp_globI rfl g_TOO_LONG ?_
    refine ⟨_, rfl, ?_⟩
    refine ⟨_, rfl, ?_⟩
    refine vp_v 0 ?_
    refine ⟨_, rfl, ?_⟩
    apply Exists.intro
    refine ⟨?_, ?_⟩
    · refine vp_globI rfl g_TOO_LONG ?_
      exact ⟨rfl, rfl⟩
    rotate_left
    exact ⟨rfl, rfl⟩
  have : (isI d && (!isB d && isJ d)) = isJ d := by cases d <;> rfl
  rw [this]; exact hG
abbrev sis_level : Stmt := top 11
theorem scis_level : FnScope ["value"] ["value"] (defScope sis_level) := ⟨rfl, rfl, rfl, by decide +kernel, rfl, by decide +kernel, by decide +kernel⟩
def Ris_level : List Dt → (Dt → Prop) → Prop := fun ds G => ∃ d, ds = [d] ∧ notO d = true ∧ G (.bool (isLv d))
theorem okis_level {f : Addr} {fd : FuncData} (F : Fun K "is_level" "is_level" sis_level f fd) (fis_integer : Fn P w K mg base "is_integer" 2 (spR K Ris_integer)) (tMAX_LEVEL : Tok) (gMAX_LEVEL : mg "MAX_LEVEL" = some (.int 100 tMAX_LEVEL)) : FnOk P w K mg base CX0 3 f fd ["value"] (spR K Ris_level) := by
  refine ok_R F scis_level (by decide) (fun ds G ⟨d, hd, hn, hG⟩ => by subst hd; rfl) fun cdv A outer s H E hr ds G ⟨d, hd, hn, hG⟩ => ?_
  subst hd
  have nd := scis_level.nd
  have hu := hr.units
  refine wb_ret ?_
  refine vp_andP ?_
  refine vp_call fis_integer hr (by decide) rfl ?_
  refine va_cons ?_
  refine vp_v 0 ?_
  refine va_nil ?_
  refine ⟨_, rfl, (by first | assumption | rfl), ?_⟩
  refine ⟨_, rfl, isLv d, fun h => ?_, ?_⟩
  · cases d <;> first | (exact absurd h Bool.false_ne_true) | skip
    rename_i i
    refine vp_one ?_
    refine vp_chainP op_le op_le ?_
    refine vp_int ?_
    refine ⟨_, rfl, ?_⟩
    refine vp_v 0 ?_
    refine ⟨_, rfl, ?_⟩
    apply Exists.intro
    refine ⟨?_, ?_⟩
    · refine vp_globI rfl gMAX_LEVEL ?_
      exact ⟨rfl, rfl⟩
    exact ⟨rfl, rfl⟩
  have : (isJ d && isLv d) = isLv d := by
    cases d <;> try rfl
    rename_i i
    show ((decide _ && decide _) && (decide _ && decide _)) = (decide _ && decide _)
    rw [Bool.eq_iff_iff]
    simp only [Bool.and_eq_true, decide_eq_true_eq]
    omega
  rw [this]; exact hG
abbrev scheck_level : Stmt := top 12
theorem sccheck_level : FnScope ["level"] ["level"] (defScope scheck_level) := ⟨rfl, rfl, rfl, by decide +kernel, rfl, by decide +kernel, by decide +kernel⟩
def Rcheck_level : List Dt → (Dt → Prop) → Prop := fun ds G => ∃ n : Int, ds = [.int n] ∧ 1 ≤ n ∧ n ≤ 100 ∧ G .none
theorem okcheck_level {f : Addr} {fd : FuncData} (F : Fun K "check_level" "check_level" scheck_level f fd) (fis_level : Fn P w K mg base "is_level" 3 (spR K Ris_level)) : FnOk P w K mg base CX0 4 f fd ["level"] (spR K Rcheck_level) := by
  refine ok_R F sccheck_level (by decide) (fun ds G ⟨n, hd, h1, h2, hG⟩ => by subst hd; rfl) fun cdv A outer s H E hr ds G ⟨n, hd, h1, h2, hG⟩ => ?_
  subst hd
  have nd := sccheck_level.nd
  have hu := hr.units
  refine wb_ifR ?_
  refine vt_not ?_
  refine vt_val ?_
  refine vp_call fis_level hr (by decide) rfl ?_
  refine va_cons ?_
  refine vp_v 0 ?_
  refine va_nil ?_
  refine ⟨_, rfl, (by first | assumption | rfl), ?_⟩
  refine ⟨_, rfl, ?_⟩
  refine ⟨fun h => ?_, fun h => ?_⟩
  · have e : isLv (.int n) = true := by simp [isLv, h1, h2]
    rw [e] at h; exact absurd h (by decide)
  exact wb_nil hG
abbrev scheck_matrix : Stmt := top 13
theorem sccheck_matrix : FnScope ["matrix", "entry"] ["matrix"] (defScope scheck_matrix) := ⟨rfl, rfl, rfl, by decide +kernel, rfl, by decide +kernel, by decide +kernel⟩
def Rcheck_matrix : List Dt → (Dt → Prop) → Prop := fun ds G => ∃ a b c d : Int, ds = [.tuple [.int a, .int b, .int c, .int d]] ∧ isJ (.int a) = true ∧ isJ (.int b) = true ∧ isJ (.int c) = true ∧ isJ (.int d) = true ∧ G .none
theorem okcheck_matrix {f : Addr} {fd : FuncData} (F : Fun K "check_matrix" "check_matrix" scheck_matrix f fd) (m_isinstance : mg "isinstance" = none) (m_tuple : mg "tuple" = none) (m_len : mg "len" = none) (m_all : mg "all" = none) (fis_integer : Fn P w K mg base "is_integer" 2 (spR K Ris_integer)) : FnOk P w K mg base CX0 3 f fd ["matrix"] (spR K Rcheck_matrix) := by
  refine ok_R F sccheck_matrix (by decide) (fun ds G ⟨a, b, c, d, he, ha, hb, hc, hd, hG⟩ => by subst he; rfl) fun cdv A outer s H E hr ds G ⟨a, b, c, d, he, ha, hb, hc, hd, hG⟩ => ?_
  subst he
  have nd := sccheck_matrix.nd
  have hu := hr.units
  refine wb_ifR ?_
  refine vt_w ?_
  refine vw_orP ?_
  refine vt_not ?_
  refine vt_val ?_
  refine vp_isTuple m_isinstance m_tuple rfl rfl ?_
  refine vp_v 0 ?_
  refine ⟨by walk_at "notO_ok", ?_⟩
  refine ⟨_, rfl, ?_⟩
  refine ⟨false, fun _ => ?_, ?_⟩
  · refine vw_orP ?_
    refine vt_neD hu ?_
    refine vp_len m_len rfl ?_
    refine vp_v 0 ?_
    refine ⟨_, SeqD.t, ?_⟩
    refine vp_int ?_
    refine ⟨by walk_at "shd_ok", by walk_at "shd_ok", ?_⟩
    refine ⟨false, fun _ => ?_, ⟨rfl, rfl⟩⟩
    refine vw_or1 ?_
    refine vt_not ?_
    refine vt_val ?_
    refine vp_all m_all rfl rfl ?_
    refine vp_lcT [("entry", 1)] rfl nd (blkOk_by rfl) (gtk_name 1 (by decide) (fun _ _ _ _ _ => pg_name nd rfl (by first | exact .inl rfl | exact .inr rfl))) ?_
    refine vp_v 0 ?_
    refine ⟨_, rfl, comp_map (fun _ => true) (fun x => .bool (isJ x)) (noOw1 rfl) (by simp) (fun x hx => ?_) (fun x es N N' h hN => hN _ h) ?_⟩
    · refine fun s0 H0 C0 cl0 fp0 => vts_nil ⟨rfl, rfl, fun _ s1 H1 C1 cl1 fp1 => ?_⟩
      have hno : notO x = true := by simp at hx; rcases hx with h | h | h | h <;> subst h <;> rfl
      refine vp_call fis_integer hr (by decide) rfl ?_
      refine va_cons ?_
      refine vp_v 1 ?_
      refine va_nil ?_
      refine ⟨_, rfl, (by first | assumption | rfl), ?_⟩
      exact ⟨rfl, rfl⟩
    refine ⟨[true, true, true, true], ?_, ⟨_, rfl, ⟨rfl, rfl⟩⟩⟩
    simp [ha, hb, hc, hd]
  refine ⟨fun h => (by cases h), fun _ => wb_nil hG⟩
def OkFr (p q : Int) : Prop := IsFr p q ∧ -100000000000000000000 ≤ p ∧ p ≤ 100000000000000000000 ∧ q ≤ 100000000000000000000
theorem OkFr.bp {p q : Int} (h : OkFr p q) : Bd 70 p := Bd.of (m := 100000000000000000001) (by have := h.2.1; omega) (by have := h.2.2.1; omega) (by decide)
theorem OkFr.bq {p q : Int} (h : OkFr p q) : Bd 70 q := Bd.of (m := 100000000000000000001) (by have := h.1.1; omega) (by have := h.2.2.2; omega) (by decide)
def isM : Dt → Bool
  | .tuple l => decide ((l.length : Int) = 4) && l.all isW
  | _ => false
def OkV (v : Dt) : Prop := notO v = true ∧ ∀ l, v = .tuple l → l.length ≤ 1000 ∧ ∀ x ∈ l, notO x = true ∧ AtD x
abbrev sis_fraction : Stmt := top 17
theorem scis_fraction : FnScope ["value", "top", "bottom", "part"] ["value"] (defScope sis_fraction) := ⟨rfl, rfl, rfl, by decide +kernel, rfl, by decide +kernel, by decide +kernel⟩
def Ris_fraction : List Dt → (Dt → Prop) → Prop := fun ds G => ∃ p q : Int, ds = [.tuple [.int p, .int q]] ∧ OkFr p q ∧ G (.bool true)
theorem okis_fraction {f : Addr} {fd : FuncData} (F : Fun K "is_fraction" "is_fraction" sis_fraction f fd) (m_isinstance : mg "isinstance" = none) (m_tuple : mg "tuple" = none) (m_len : mg "len" = none) (m_all : mg "all" = none) (m_gcd : mg "gcd" = some (.builtin "math.gcd")) (tMAX_PART : Tok) (gMAX_PART : mg "MAX_PART" = some (.int 100000000000000000000 tMAX_PART)) (fis_whole : Fn P w K mg base "is_whole" 1 (spR K Ris_whole)) : FnOk P w K mg base CX0 2 f fd ["value"] (spR K Ris_fraction) := by
  refine ok_R F scis_fraction (by decide) (fun ds G ⟨p, q, hd, hF, hG⟩ => by subst hd; rfl) fun cdv A outer s H E hr ds G ⟨p, q, hd, hF, hG⟩ => ?_
  subst hd
  have nd := scis_fraction.nd
  have hu := hr.units
  obtain ⟨⟨h0, h1, h2⟩, h3, h4, h5⟩ := hF
  refine wb_ifR ?_
  refine vt_w ?_
  refine vw_orP ?_
  refine vt_not ?_
  refine vt_val ?_
  refine vp_isTuple m_isinstance m_tuple rfl rfl ?_
  refine vp_v 0 ?_
  refine ⟨by walk_at "notO_ok", ?_⟩
  refine ⟨_, rfl, ?_⟩
  refine ⟨false, fun _ => ?_, ?_⟩
  · refine vw_orP ?_
    refine vt_neD hu ?_
    refine vp_len m_len rfl ?_
    refine vp_v 0 ?_
    refine ⟨_, SeqD.t, ?_⟩
    refine vp_int ?_
    refine ⟨by walk_at "shd_ok", by walk_at "shd_ok", ?_⟩
    refine ⟨false, fun _ => ?_, ⟨rfl, rfl⟩⟩
    refine vw_or1 ?_
    refine vt_not ?_
    refine vt_val ?_
    refine vp_all m_all rfl rfl ?_
    refine vp_lcT [("part", 3)] rfl nd (blkOk_by rfl) (gtk_name 3 (by decide) (fun _ _ _ _ _ => pg_name nd rfl (by first | exact .inl rfl | exact .inr rfl))) ?_
    refine vp_v 0 ?_
    refine ⟨_, rfl, comp_map (fun _ => true) (fun x => .bool (isW x)) (noOw1 rfl) (by simp) (fun x hx => ?_) (fun x es N N' h hN => hN _ h) ?_⟩
    · refine fun s0 H0 C0 cl0 fp0 => vts_nil ⟨rfl, rfl, fun _ s1 H1 C1 cl1 fp1 => ?_⟩
      have hno : notO x = true := by simp at hx; rcases hx with h | h <;> subst h <;> rfl
      refine vp_call fis_whole hr (by decide) rfl ?_
      refine va_cons ?_
      refine vp_v 3 ?_
      refine va_nil ?_
      refine ⟨_, rfl, (by first | assumption | rfl), ?_⟩
      exact ⟨rfl, rfl⟩
    exact ⟨[true, true], rfl, ⟨_, rfl, ⟨rfl, rfl⟩⟩⟩
  refine ⟨fun h => (by cases h), fun _ => ?_⟩
  refine wb_asg (gt_tup rfl (gts_cons (gt_n 1) (gts_cons (gt_n 2) gts_nil))) ?_
  refine vp_v 0 ?_
  refine ⟨_, rfl, rfl, _, _, rfl, _, _, rfl, rfl, ?_⟩
  show WB _ [_, _, _, _] _ _
  refine wb_ifR ?_
  refine vt_w ?_
  refine vw_orP ?_
  refine vt_not ?_
  refine vt_chainP op_le op_le ?_
  refine vp_neg ?_
  refine vp_globI rfl gMAX_PART ?_
  refine ⟨_, rfl, ?_⟩
  refine ⟨_, rfl, ?_⟩
  refine vp_v 1 ?_
  refine ⟨_, rfl, ?_⟩
  apply Exists.intro
  refine ⟨?_, ?_⟩
  · refine vp_globI rfl gMAX_PART ?_
    exact ⟨rfl, rfl⟩
  apply Exists.intro
  refine ⟨fun h => ?_, ?_⟩
  · refine vw_or1 ?_
    refine vt_not ?_
    refine vt_chainP op_le op_le ?_
    refine vp_int ?_
    refine ⟨_, rfl, ?_⟩
    refine vp_v 2 ?_
    refine ⟨_, rfl, ?_⟩
    apply Exists.intro
    refine ⟨?_, ?_⟩
    · refine vp_globI rfl gMAX_PART ?_
      exact ⟨rfl, rfl⟩
    exact ⟨rfl, rfl⟩
  refine ⟨fun h => ?_, fun h => ?_⟩
  · simp at h; omega
  refine wb_ret ?_
  refine vp_ife ?_
  refine vt_eqD hu ?_
  refine vp_v 2 ?_
  refine vp_int ?_
  refine ⟨by walk_at "shd_ok", by walk_at "shd_ok", ?_⟩
  refine ⟨fun h => ?_, fun h => ?_⟩
  · refine vp_eqD hu ?_
    refine vp_v 0 ?_
    refine vp_tup ?_
    refine va_cons ?_
    refine vp_int ?_
    refine va_cons ?_
    refine vp_int ?_
    refine va_nil ?_
    refine ⟨Nat.le_of_ble_eq_true rfl, ?_⟩
    refine ⟨by walk_at "shd_ok", by walk_at "shd_ok", ?_⟩
    have hq : q = 0 := by rw [eqD_int] at h; simpa using h
    have hp := h2 hq
    subst hp hq
    exact hG
  · refine vp_eqD hu ?_
    refine vp_gcd m_gcd rfl ?_
    refine vp_v 1 ?_
    refine ⟨_, rfl, ?_⟩
    refine vp_v 2 ?_
    refine ⟨_, rfl, ?_⟩
    refine vp_int ?_
    refine ⟨by walk_at "shd_ok", by walk_at "shd_ok", ?_⟩
    rw [h1]
    exact hG
abbrev scheck_fraction : Stmt := top 19
theorem sccheck_fraction : FnScope ["fraction"] ["fraction"] (defScope scheck_fraction) := ⟨rfl, rfl, rfl, by decide +kernel, rfl, by decide +kernel, by decide +kernel⟩
def Rcheck_fraction : List Dt → (Dt → Prop) → Prop := fun ds G => ∃ p q : Int, ds = [.tuple [.int p, .int q]] ∧ OkFr p q ∧ G .none
theorem okcheck_fraction {f : Addr} {fd : FuncData} (F : Fun K "check_fraction" "check_fraction" scheck_fraction f fd) (fis_fraction : Fn P w K mg base "is_fraction" 2 (spR K Ris_fraction)) : FnOk P w K mg base CX0 3 f fd ["fraction"] (spR K Rcheck_fraction) := by
  refine ok_R F sccheck_fraction (by decide) (fun ds G ⟨p, q, hd, hF, hG⟩ => by subst hd; rfl) fun cdv A outer s H E hr ds G ⟨p, q, hd, hF, hG⟩ => ?_
  subst hd
  have nd := sccheck_fraction.nd
  have hu := hr.units
  refine wb_ifR ?_
  refine vt_not ?_
  refine vt_val ?_
  refine vp_call fis_fraction hr (by decide) rfl ?_
  refine va_cons ?_
  refine vp_v 0 ?_
  refine va_nil ?_
  refine ⟨_, _, rfl, hF, ?_⟩
  refine ⟨_, rfl, ?_⟩
  refine ⟨fun h => ?_, fun h => ?_⟩
  · cases h
  exact wb_nil hG
abbrev sis_matrix : Stmt := top 18
theorem scis_matrix : FnScope ["value", "entry"] ["value"] (defScope sis_matrix) := ⟨rfl, rfl, rfl, by decide +kernel, rfl, by decide +kernel, by decide +kernel⟩
def Ris_matrix : List Dt → (Dt → Prop) → Prop := fun ds G => ∃ d : Dt, ds = [d] ∧ OkV d ∧ G (.bool (isM d))
theorem okis_matrix {f : Addr} {fd : FuncData} (F : Fun K "is_matrix" "is_matrix" sis_matrix f fd) (m_isinstance : mg "isinstance" = none) (m_tuple : mg "tuple" = none) (m_len : mg "len" = none) (m_all : mg "all" = none) (fis_whole : Fn P w K mg base "is_whole" 1 (spR K Ris_whole)) : FnOk P w K mg base CX0 2 f fd ["value"] (spR K Ris_matrix) := by
  refine ok_R F scis_matrix (by decide) (fun ds G ⟨d, hd, hV, hG⟩ => by subst hd; rfl) fun cdv A outer s H E hr ds G ⟨d, hd, hV, hG⟩ => ?_
  subst hd
  have nd := scis_matrix.nd
  have hu := hr.units
  have hn := hV.1
  refine wb_ret ?_
  refine vp_andP ?_
  refine vp_isTuple m_isinstance m_tuple rfl rfl ?_
  refine vp_v 0 ?_
  refine ⟨by walk_at "notO_ok", ?_⟩
  refine ⟨_, rfl, isM d, fun h => ?_, ?_⟩
  · obtain ⟨l, rfl⟩ : ∃ l, d = .tuple l := by cases d <;> first | exact ⟨_, rfl⟩ | exact absurd h Bool.false_ne_true
    refine vp_andP ?_
    refine vp_eqD hu ?_
    refine vp_len m_len rfl ?_
    refine vp_v 0 ?_
    refine ⟨_, SeqD.t, ?_⟩
    refine vp_int ?_
    refine ⟨by walk_at "shd_ok", by walk_at "shd_ok", ?_⟩
    refine ⟨_, rfl, l.all isW, fun h => ?_, ⟨rfl, rfl⟩⟩
    refine vp_one ?_
    refine vp_all m_all rfl rfl ?_
    refine vp_lcT [("entry", 1)] rfl nd (blkOk_by rfl) (gtk_name 1 (by decide) (fun _ _ _ _ _ => pg_name nd rfl (by first | exact .inl rfl | exact .inr rfl))) ?_
    refine vp_v 0 ?_
    refine ⟨_, rfl, comp_map (fun _ => true) (fun x => .bool (isW x)) (noOw1 rfl) (by have := (hV.2 l rfl).1; omega) (fun x hx => ?_) (fun x es N N' h hN => hN _ h) ?_⟩
    · refine fun s0 H0 C0 cl0 fp0 => vts_nil ⟨rfl, rfl, fun _ s1 H1 C1 cl1 fp1 => ?_⟩
      have hno : notO x = true := ((hV.2 l rfl).2 x hx).1
      refine vp_call fis_whole hr (by decide) rfl ?_
      refine va_cons ?_
      refine vp_v 1 ?_
      refine va_nil ?_
      refine ⟨_, rfl, (by first | assumption | rfl), ?_⟩
      exact ⟨rfl, rfl⟩
    refine ⟨l.map isW, ?_, ?_⟩
    · exact map_bools l isW
    · rw [List.all_map]; exact ⟨rfl, rfl⟩
  have : (isT d && isM d) = isM d := by cases d <;> rfl
  rw [this]; exact hG
abbrev smatrix_determinant : Stmt := top 20
theorem scmatrix_determinant : FnScope ["matrix", "a", "b", "c", "d"] ["matrix"] (defScope smatrix_determinant) := ⟨rfl, rfl, rfl, by decide +kernel, rfl, by decide +kernel, by decide +kernel⟩
def Rmatrix_determinant : List Dt → (Dt → Prop) → Prop := fun ds G => ∃ a b c d : Int, ds = [.tuple [.int a, .int b, .int c, .int d]] ∧ Bd 1000 a ∧ Bd 1000 b ∧ Bd 1000 c ∧ Bd 1000 d ∧ G (.int (a * d - b * c))
theorem okmatrix_determinant {f : Addr} {fd : FuncData} (F : Fun K "matrix_determinant" "matrix_determinant" smatrix_determinant f fd)  : FnOk P w K mg base CX0 1 f fd ["matrix"] (spR K Rmatrix_determinant) := by
  refine ok_R F scmatrix_determinant (by decide) (fun ds G ⟨a, b, c, d, he, ha, hb, hc, hd, hG⟩ => by subst he; rfl) fun cdv A outer s H E hr ds G ⟨a, b, c, d, he, ha, hb, hc, hd, hG⟩ => ?_
  subst he
  have nd := scmatrix_determinant.nd
  have hu := hr.units
  refine wb_asg (gt_tup rfl (gts_cons (gt_n 1) (gts_cons (gt_n 2) (gts_cons (gt_n 3) (gts_cons (gt_n 4) gts_nil))))) ?_
  refine vp_v 0 ?_
  refine ⟨_, rfl, rfl, _, _, rfl, _, _, rfl, _, _, rfl, _, _, rfl, rfl, ?_⟩
  show WB _ [_, _, _, _, _] _ _
  refine wb_ret ?_
  refine vp_sub ?_
  refine vp_mul ?_
  refine vp_v 1 ?_
  refine ⟨_, rfl, ?_⟩
  refine vp_v 4 ?_
  refine ⟨_, rfl, by walk_at "mul_ok", ?_⟩
  refine ⟨_, rfl, ?_⟩
  refine vp_mul ?_
  refine vp_v 2 ?_
  refine ⟨_, rfl, ?_⟩
  refine vp_v 3 ?_
  refine ⟨_, rfl, by walk_at "mul_ok", ?_⟩
  refine ⟨_, rfl, ?_⟩
  exact hG
end
end Pf

set_option Elab.async false
set_option linter.all false
set_option maxRecDepth 100000
set_option maxHeartbeats 4000000
namespace Pf
open PySem PySem.Spec PyProof.Rows L2 Lv
local macro_rules | `(tactic| walk_at "bd") => `(tactic| repeat (first | assumption | exact Bd.lit 12 (by decide +kernel) | exact Bd.lit 80 (by decide +kernel) | exact Bd.lit 500 (by decide +kernel) | apply Bd.mul | apply Bd.add | apply Bd.sub | apply Bd.neg | apply Bd.mod | apply Bd.div | apply Bd.ite | decide | omega))
local macro_rules | `(tactic| walk_at "mul_ok") => `(tactic| (apply Bd.cmul; (focus walk_at "bd"); (focus walk_at "bd"); decide))
local macro_rules | `(tactic| walk_at "bdm") => `(tactic| (apply Bd.mono; (focus walk_at "bd"); decide))
local macro_rules | `(tactic| walk_at "pos_ok") => `(tactic| first | assumption | decide | omega)
local macro_rules | `(tactic| walk_at "div_ok") => `(tactic| (apply Bd.cdiv; (focus walk_at "pos_ok"); (focus walk_at "bd"); decide; decide))
local macro_rules | `(tactic| walk_at "divv_ok") => `(tactic| (apply Bd.cdivV; (focus (first | assumption | omega)); (focus walk_at "bd"); decide; decide))
local macro_rules | `(tactic| walk_at "shd_ok") => `(tactic| exact ⟨rfl, rfl⟩)
local macro_rules | `(tactic| walk_at "notO_ok") => `(tactic| first | assumption | rfl)
section
variable {P : Program} {w : World} {K : PySem.W.Frag} {mg : Str → Option Value} {base : Heap}

abbrev s_led : Stmt := top 22
theorem sc_led : FnScope ["matrix", "fraction", "a", "b", "c", "d", "p", "q", "top", "bottom", "shared"] ["matrix", "fraction"] (defScope s_led) := ⟨rfl, rfl, rfl, by decide +kernel, rfl, by decide +kernel, by decide +kernel⟩
def R_led : List Dt → (Dt → Prop) → Prop := fun ds G => ∃ a b c d p q : Int, ds = [.tuple [.int a, .int b, .int c, .int d], .tuple [.int p, .int q]] ∧ Bd 1000 a ∧ Bd 1000 b ∧ Bd 1000 c ∧ Bd 1000 d ∧ Bd 70 p ∧ Bd 70 q ∧ ¬(a * p + b * q = 0 ∧ c * p + d * q = 0) ∧ G (.tuple [.int (nrm (a * p + b * q) (c * p + d * q)).1, .int (nrm (a * p + b * q) (c * p + d * q)).2])
theorem ok_led {f : Addr} {fd : FuncData} (F : Fun K "_led" "_led" s_led f fd) (m_gcd : mg "gcd" = some (.builtin "math.gcd")) : FnOk P w K mg base CX0 1 f fd ["matrix", "fraction"] (spR K R_led) := by
  refine ok_R F sc_led (by decide) (fun ds G ⟨a, b, c, d, p, q, he, ha, hb, hc, hd, hp, hq, h0, hG⟩ => by subst he; rfl) fun cdv A outer s H E hr ds G ⟨a, b, c, d, p, q, he, ha, hb, hc, hd, hp, hq, h0, hG⟩ => ?_
  subst he
  have nd := sc_led.nd
  have hu := hr.units
  refine wb_asg (gt_tup rfl (gts_cons (gt_n 2) (gts_cons (gt_n 3) (gts_cons (gt_n 4) (gts_cons (gt_n 5) gts_nil))))) ?_
  refine vp_v 0 ?_
  refine ⟨_, rfl, rfl, _, _, rfl, _, _, rfl, _, _, rfl, _, _, rfl, rfl, ?_⟩
  show WB _ [_, _, _, _, _, _, _, _, _, _, _] _ _
  refine wb_asg (gt_tup rfl (gts_cons (gt_n 6) (gts_cons (gt_n 7) gts_nil))) ?_
  refine vp_v 1 ?_
  refine ⟨_, rfl, rfl, _, _, rfl, _, _, rfl, rfl, ?_⟩
  show WB _ [_, _, _, _, _, _, _, _, _, _, _] _ _
  refine wb_par 8 9 ?_
  refine va_cons ?_
  refine vp_add ?_
  refine vp_mul ?_
  refine vp_v 2 ?_
  refine ⟨_, rfl, ?_⟩
  refine vp_v 6 ?_
  refine ⟨_, rfl, by walk_at "mul_ok", ?_⟩
  refine ⟨_, rfl, ?_⟩
  refine vp_mul ?_
  refine vp_v 3 ?_
  refine ⟨_, rfl, ?_⟩
  refine vp_v 7 ?_
  refine ⟨_, rfl, by walk_at "mul_ok", ?_⟩
  refine ⟨_, rfl, ?_⟩
  refine va_cons ?_
  refine vp_add ?_
  refine vp_mul ?_
  refine vp_v 4 ?_
  refine ⟨_, rfl, ?_⟩
  refine vp_v 6 ?_
  refine ⟨_, rfl, by walk_at "mul_ok", ?_⟩
  refine ⟨_, rfl, ?_⟩
  refine vp_mul ?_
  refine vp_v 5 ?_
  refine ⟨_, rfl, ?_⟩
  refine vp_v 7 ?_
  refine ⟨_, rfl, by walk_at "mul_ok", ?_⟩
  refine ⟨_, rfl, ?_⟩
  refine va_nil ?_
  refine ⟨_, _, rfl, _, rfl, ?_⟩
  show WB _ [_, _, _, _, _, _, _, _, _, _, _] _ _
  refine wb_set 10 ?_
  refine vp_gcd m_gcd rfl ?_
  refine vp_v 8 ?_
  refine ⟨_, rfl, ?_⟩
  refine vp_v 9 ?_
  refine ⟨_, rfl, ?_⟩
  refine ⟨_, rfl, ?_⟩
  show WB _ [_, _, _, _, _, _, _, _, _, _, _] _ _
  have hgp := gcd_pos h0
  have hgb : Bd 1100 (Int.gcd (a * p + b * q) (c * p + d * q) : Int) := gcd_bd h0 (((ha.mul hp).add (hb.mul hq)).mono (by decide)) (((hc.mul hp).add (hd.mul hq)).mono (by decide))
  have d1 := gcd_dvd1 (a * p + b * q) (c * p + d * q)
  have d2 := gcd_dvd2 (a * p + b * q) (c * p + d * q)
  generalize hgg : (Int.gcd (a * p + b * q) (c * p + d * q) : Int) = gg at *
  refine wb_if ?_
  refine vt_w ?_
  refine vw_orP ?_
  refine vt_lt ?_
  refine vp_v 9 ?_
  refine ⟨_, rfl, ?_⟩
  refine vp_int ?_
  refine ⟨_, rfl, ?_⟩
  apply Exists.intro
  refine ⟨fun h => ?_, ?_⟩
  · refine vw_or1 ?_
    refine vt_w ?_
    refine vw_andP ?_
    refine vt_eqD hu ?_
    refine vp_v 9 ?_
    refine vp_int ?_
    refine ⟨by walk_at "shd_ok", by walk_at "shd_ok", ?_⟩
    apply Exists.intro
    refine ⟨fun h => ?_, ?_⟩
    · refine vw_and1 ?_
      refine vt_lt ?_
      refine vp_v 8 ?_
      refine ⟨_, rfl, ?_⟩
      refine vp_int ?_
      refine ⟨_, rfl, ?_⟩
      exact ⟨rfl, rfl⟩
    exact ⟨rfl, rfl⟩
  refine ⟨fun h => ?_, fun h => ?_⟩
  · refine wb_set 10 ?_
    refine vp_neg ?_
    refine vp_v 10 ?_
    refine ⟨_, rfl, ?_⟩
    refine ⟨_, rfl, ?_⟩
    show WB _ [_, _, _, _, _, _, _, _, _, _, _] _ _
    refine wb_nil ?_
    have hgb2 : Bd 1100 (-gg) := hgb.neg
    refine wb_ret ?_
    refine vp_tup ?_
    refine va_cons ?_
    refine vp_fdivV ?_
    refine vp_v 8 ?_
    refine ⟨_, rfl, ?_⟩
    refine vp_v 10 ?_
    refine ⟨_, rfl, by walk_at "divv_ok", ?_⟩
    refine va_cons ?_
    refine vp_fdivV ?_
    refine vp_v 9 ?_
    refine ⟨_, rfl, ?_⟩
    refine vp_v 10 ?_
    refine ⟨_, rfl, by walk_at "divv_ok", ?_⟩
    refine va_nil ?_
    refine ⟨Nat.le_of_ble_eq_true rfl, ?_⟩
    rw [nrm_neg (by simpa [eqD_int] using h), hgg] at hG
    rw [fdiv_neg_dvd hgp d1, fdiv_neg_dvd hgp d2]
    exact hG
  · refine wb_nil ?_
    refine wb_ret ?_
    refine vp_tup ?_
    refine va_cons ?_
    refine vp_fdivV ?_
    refine vp_v 8 ?_
    refine ⟨_, rfl, ?_⟩
    refine vp_v 10 ?_
    refine ⟨_, rfl, by walk_at "divv_ok", ?_⟩
    refine va_cons ?_
    refine vp_fdivV ?_
    refine vp_v 9 ?_
    refine ⟨_, rfl, ?_⟩
    refine vp_v 10 ?_
    refine ⟨_, rfl, by walk_at "divv_ok", ?_⟩
    refine va_nil ?_
    refine ⟨Nat.le_of_ble_eq_true rfl, ?_⟩
    rw [nrm_pos (by simpa [eqD_int] using h), hgg] at hG
    rw [fdiv_pos hgp, fdiv_pos hgp]
    exact hG
theorem jbd {a : Int} (h : isJ (.int a) = true) : Bd 1000 a := by
  have h : (decide _ && decide _) = true := h
  rw [Bool.and_eq_true, decide_eq_true_eq, decide_eq_true_eq] at h
  exact (Bd.of (n := 200) (m := 1000000000000000000000000000000000000000000000000000000000000) (by omega) (by omega) (by decide)).mono (by decide)
abbrev sled_fraction : Stmt := top 21
theorem scled_fraction : FnScope ["matrix", "fraction"] ["matrix", "fraction"] (defScope sled_fraction) := ⟨rfl, rfl, rfl, by decide +kernel, rfl, by decide +kernel, by decide +kernel⟩
def Rled_fraction : List Dt → (Dt → Prop) → Prop := fun ds G => ∃ a b c d p q : Int, ds = [.tuple [.int a, .int b, .int c, .int d], .tuple [.int p, .int q]] ∧ isJ (.int a) = true ∧ isJ (.int b) = true ∧ isJ (.int c) = true ∧ isJ (.int d) = true ∧ OkFr p q ∧ a * d - b * c ≠ 0 ∧ ¬(a * p + b * q = 0 ∧ c * p + d * q = 0) ∧ G (.tuple [.int (nrm (a * p + b * q) (c * p + d * q)).1, .int (nrm (a * p + b * q) (c * p + d * q)).2])
theorem okled_fraction {f : Addr} {fd : FuncData} (F : Fun K "led_fraction" "led_fraction" sled_fraction f fd) (fcheck_matrix : Fn P w K mg base "check_matrix" 3 (spR K Rcheck_matrix)) (fmatrix_determinant : Fn P w K mg base "matrix_determinant" 1 (spR K Rmatrix_determinant)) (fcheck_fraction : Fn P w K mg base "check_fraction" 3 (spR K Rcheck_fraction)) (f_led : Fn P w K mg base "_led" 1 (spR K R_led)) : FnOk P w K mg base CX0 4 f fd ["matrix", "fraction"] (spR K Rled_fraction) := by
  refine ok_R F scled_fraction (by decide) (fun ds G ⟨a, b, c, d, p, q, he, ja, jb, jc, jd, hF, hD, h0, hG⟩ => by subst he; rfl) fun cdv A outer s H E hr ds G ⟨a, b, c, d, p, q, he, ja, jb, jc, jd, hF, hD, h0, hG⟩ => ?_
  subst he
  have nd := scled_fraction.nd
  have hu := hr.units
  have ha := jbd ja
  have hb := jbd jb
  have hc := jbd jc
  have hd := jbd jd
  refine wb_exp ?_
  refine vp_call fcheck_matrix hr (by decide) rfl ?_
  refine va_cons ?_
  refine vp_v 0 ?_
  refine va_nil ?_
  refine ⟨_, _, _, _, rfl, ja, jb, jc, jd, ?_⟩
  refine wb_ifR ?_
  refine vt_eqD hu ?_
  refine vp_call fmatrix_determinant hr (by decide) rfl ?_
  refine va_cons ?_
  refine vp_v 0 ?_
  refine va_nil ?_
  refine ⟨_, _, _, _, rfl, ha, hb, hc, hd, ?_⟩
  refine vp_int ?_
  refine ⟨by walk_at "shd_ok", by walk_at "shd_ok", ?_⟩
  refine ⟨fun h => ?_, fun h => ?_⟩
  · rw [eqD_int] at h; exact absurd (of_decide_eq_true h) hD
  refine wb_exp ?_
  refine vp_call fcheck_fraction hr (by decide) rfl ?_
  refine va_cons ?_
  refine vp_v 1 ?_
  refine va_nil ?_
  refine ⟨_, _, rfl, hF, ?_⟩
  refine wb_ret ?_
  refine vp_call f_led hr (by decide) rfl ?_
  refine va_cons ?_
  refine vp_v 0 ?_
  refine va_cons ?_
  refine vp_v 1 ?_
  refine va_nil ?_
  refine ⟨_, _, _, _, _, _, rfl, ha, hb, hc, hd, hF.bp, hF.bq, h0, ?_⟩
  exact hG
abbrev sinverse_modulo : Stmt := top 14
theorem scinverse_modulo : FnScope ["modulus", "number", "high", "low", "before", "now", "times"] ["modulus", "number"] (defScope sinverse_modulo) := ⟨rfl, rfl, rfl, by decide +kernel, rfl, by decide +kernel, by decide +kernel⟩
def Rinverse_modulo : List Dt → (Dt → Prop) → Prop := fun ds G => ∃ m n : Int, ds = [.int m, .int n] ∧ 0 < m ∧ Bd 400 m ∧ Int.gcd n m = 1 ∧ ∀ y : Int, 0 ≤ y → y < m → m ∣ n * y - 1 → G (.int y)
theorem okinverse_modulo {f : Addr} {fd : FuncData} (F : Fun K "inverse_modulo" "inverse_modulo" sinverse_modulo f fd)  : FnOk P w K mg base CX0 1 f fd ["modulus", "number"] (spR K Rinverse_modulo) := by
  refine ok_R F scinverse_modulo (by decide) (fun ds G ⟨m, n, he, hm, hb, hg, hG⟩ => by subst he; rfl) fun cdv A outer s H E hr ds G ⟨m, n, he, hm, hb, hg, hG⟩ => ?_
  subst he
  have nd := scinverse_modulo.nd
  have hu := hr.units
  refine wb_par 2 3 ?_
  refine va_cons ?_
  refine vp_v 0 ?_
  refine va_cons ?_
  refine vp_mod ?_
  refine vp_v 1 ?_
  refine ⟨_, rfl, ?_⟩
  refine vp_v 0 ?_
  refine ⟨_, rfl, by walk_at "pos_ok", ?_⟩
  refine va_nil ?_
  refine ⟨_, _, rfl, _, rfl, ?_⟩
  show WB _ [_, _, _, _, _, _, _] _ _
  refine wb_asg (gt_tup rfl (gts_cons (gt_n 4) (gts_cons (gt_n 5) gts_nil))) ?_
  refine vp_tup ?_
  refine va_cons ?_
  refine vp_int ?_
  refine va_cons ?_
  refine vp_int ?_
  refine va_nil ?_
  refine ⟨Nat.le_of_ble_eq_true rfl, ?_⟩
  refine ⟨_, rfl, rfl, _, _, rfl, _, _, rfl, rfl, ?_⟩
  show WB _ [_, _, _, _, _, _, _] _ _
  refine wb_cons (ws_while (fun k es => ∃ (hi lo be no : Int) (t : Sl), es = [.fz (.int m), .fz (.int n), .fz (.int hi), .fz (.int lo), .fz (.int be), .fz (.int no), t] ∧ InvI m n hi lo be no ∧ hi ≤ m ∧ lo ≤ m ∧ k = lo.toNat) _ ⟨_, _, _, _, _, rfl, InvI.start hm hg, by omega, by have := Int.emod_lt_of_pos n hm; omega, rfl⟩ PassesOwn.never fun k es ⟨hi, lo, be, no, t, he, I, hh, hl, hk⟩ => ?_)
  subst he
  refine vt_int ?_
  refine vp_v 3 ?_
  refine ⟨_, rfl, ?_⟩
  refine ⟨fun h => ?_, fun h => ?_⟩
  · have hl0 : lo ≠ 0 := by simpa using h
    have hlp : 0 < lo := by have := I.h1; omega
    have b1 : Bd 400 lo := hb.le (by omega)
    have b2 : Bd 400 hi := hb.le (by have := I.h0; omega)
    have b3 : Bd 400 be := hb.le I.sb
    have b4 : Bd 400 no := hb.le I.bno
    have b5 : Bd 400 (hi / lo) := b2.div hlp
    obtain ⟨J, j1, j2⟩ := I.step hl0
    refine wb_set 6 ?_
    refine vp_fdiv ?_
    refine vp_v 2 ?_
    refine ⟨_, rfl, ?_⟩
    refine vp_v 3 ?_
    refine ⟨_, rfl, by walk_at "div_ok", ?_⟩
    refine ⟨_, rfl, ?_⟩
    show WB _ [_, _, _, _, _, _, _] _ _
    refine wb_par 2 3 ?_
    refine va_cons ?_
    refine vp_v 3 ?_
    refine va_cons ?_
    refine vp_sub ?_
    refine vp_v 2 ?_
    refine ⟨_, rfl, ?_⟩
    refine vp_mul ?_
    refine vp_v 6 ?_
    refine ⟨_, rfl, ?_⟩
    refine vp_v 3 ?_
    refine ⟨_, rfl, by walk_at "mul_ok", ?_⟩
    refine ⟨_, rfl, ?_⟩
    refine va_nil ?_
    refine ⟨_, _, rfl, _, rfl, ?_⟩
    show WB _ [_, _, _, _, _, _, _] _ _
    refine wb_par 4 5 ?_
    refine va_cons ?_
    refine vp_v 5 ?_
    refine va_cons ?_
    refine vp_sub ?_
    refine vp_v 4 ?_
    refine ⟨_, rfl, ?_⟩
    refine vp_mul ?_
    refine vp_v 6 ?_
    refine ⟨_, rfl, ?_⟩
    refine vp_v 5 ?_
    refine ⟨_, rfl, by walk_at "mul_ok", ?_⟩
    refine ⟨_, rfl, ?_⟩
    refine va_nil ?_
    refine ⟨_, _, rfl, _, rfl, ?_⟩
    show WB _ [_, _, _, _, _, _, _] _ _
    exact wb_nil ⟨_, by omega, _, _, _, _, _, rfl, J, hl, by omega, rfl⟩
  have hl0 : lo = 0 := by simpa using h
  subst hl0
  refine wb_ret ?_
  refine vp_mod ?_
  refine vp_v 4 ?_
  refine ⟨_, rfl, ?_⟩
  refine vp_v 0 ?_
  refine ⟨_, rfl, by walk_at "pos_ok", ?_⟩
  exact hG _ (Int.emod_nonneg _ (by omega)) (Int.emod_lt_of_pos _ hm) (I.done hm)
end
end Pf

set_option Elab.async false
set_option linter.all false
set_option maxRecDepth 100000
set_option maxHeartbeats 4000000
namespace Pf
open PySem PySem.Spec PyProof.Rows L2 Lv
local macro_rules | `(tactic| walk_at "bd") => `(tactic| repeat (first | assumption | exact Bd.lit 12 (by decide +kernel) | exact Bd.lit 80 (by decide +kernel) | exact Bd.lit 500 (by decide +kernel) | apply Bd.mul | apply Bd.add | apply Bd.sub | apply Bd.neg | apply Bd.mod | apply Bd.div | apply Bd.ite | decide | omega))
local macro_rules | `(tactic| walk_at "mul_ok") => `(tactic| (apply Bd.cmul; (focus walk_at "bd"); (focus walk_at "bd"); decide))
local macro_rules | `(tactic| walk_at "bdm") => `(tactic| (apply Bd.mono; (focus walk_at "bd"); decide))
local macro_rules | `(tactic| walk_at "pos_ok") => `(tactic| first | assumption | decide | omega)
local macro_rules | `(tactic| walk_at "div_ok") => `(tactic| (apply Bd.cdiv; (focus walk_at "pos_ok"); (focus walk_at "bd"); decide; decide))
local macro_rules | `(tactic| walk_at "divv_ok") => `(tactic| (apply Bd.cdivV; (focus (first | assumption | omega)); (focus walk_at "bd"); decide; decide))
local macro_rules | `(tactic| walk_at "shd_ok") => `(tactic| exact ⟨rfl, rfl⟩)
local macro_rules | `(tactic| walk_at "notO_ok") => `(tactic| first | assumption | rfl)
section
variable {P : Program} {w : World} {K : PySem.W.Frag} {mg : Str → Option Value} {base : Heap}

theorem lst_le {g m l t : Int} (hm : 0 < m) (L : Lst g m l t) : l % m ≤ t := by
  rw [← L.2.1]
  have := Int.emod_lt_of_pos t hm
  have e := Int.mul_ediv_add_emod t m
  have : 0 ≤ t / m := Int.ediv_nonneg L.1 (by omega)
  have : 0 ≤ m * (t / m) := Int.mul_nonneg (by omega) this
  omega
abbrev s_least_top : Stmt := top 23
theorem sc_least_top : FnScope ["bottom", "modulus", "left", "top"] ["bottom", "modulus", "left"] (defScope s_least_top) := ⟨rfl, rfl, rfl, by decide +kernel, rfl, by decide +kernel, by decide +kernel⟩
def R_least_top : List Dt → (Dt → Prop) → Prop := fun ds G => ∃ gg m l t : Int, ds = [.int gg, .int m, .int l] ∧ 0 < m ∧ 1 ≤ gg ∧ Lst gg m l t ∧ G (.int t)
theorem ok_least_top {f : Addr} {fd : FuncData} (F : Fun K "_least_top" "_least_top" s_least_top f fd) (m_gcd : mg "gcd" = some (.builtin "math.gcd")) : FnOk P w K mg base CX0 1 f fd ["bottom", "modulus", "left"] (spR K R_least_top) := by
  refine ok_R F sc_least_top (by decide) (fun ds G ⟨gg, m, l, t, he, hm, hgg, L, hG⟩ => by subst he; rfl) fun cdv A outer s H E hr ds G ⟨gg, m, l, t, he, hm, hgg, L, hG⟩ => ?_
  subst he
  have nd := sc_least_top.nd
  have hu := hr.units
  refine wb_set 3 ?_
  refine vp_mod ?_
  refine vp_v 2 ?_
  refine ⟨_, rfl, ?_⟩
  refine vp_v 1 ?_
  refine ⟨_, rfl, by walk_at "pos_ok", ?_⟩
  refine ⟨_, rfl, ?_⟩
  show WB _ [_, _, _, _] _ _
  refine wb_cons (ws_while (fun k es => ∃ x : Int, es = [.fz (.int gg), .fz (.int m), .fz (.int l), .fz (.int x)] ∧ 0 ≤ x ∧ x % m = l % m ∧ x ≤ t ∧ k = (t - x).toNat) _ ⟨_, rfl, Int.emod_nonneg _ (by omega), Int.emod_emod_of_dvd l (Int.dvd_refl m), lst_le hm L, rfl⟩ PassesOwn.never fun k es ⟨x, he, h0, hx, hle, hk⟩ => ?_)
  subst he
  refine vt_gt ?_
  refine vp_gcd m_gcd rfl ?_
  refine vp_v 3 ?_
  refine ⟨_, rfl, ?_⟩
  refine vp_v 0 ?_
  refine ⟨_, rfl, ?_⟩
  refine ⟨_, rfl, ?_⟩
  refine vp_int ?_
  refine ⟨_, rfl, ?_⟩
  refine ⟨fun h => ?_, fun h => ?_⟩
  · have h1 : ¬ Int.gcd x gg = 1 := by simp at h; omega
    obtain ⟨a1, a2⟩ := lst_step hm hgg L h0 hx hle h1
    refine wb_set 3 ?_
    refine vp_add ?_
    refine vp_v 3 ?_
    refine ⟨_, rfl, ?_⟩
    refine vp_v 1 ?_
    refine ⟨_, rfl, ?_⟩
    refine ⟨_, rfl, ?_⟩
    show WB _ [_, _, _, _] _ _
    exact wb_nil ⟨_, by omega, _, rfl, by omega, a2, a1, rfl⟩
  have e := lst_end hgg L h0 hx hle (by simp at h; omega)
  subst e
  refine wb_ret ?_
  refine vp_v 3 ?_
  exact hG
abbrev stold_rim : Stmt := top 25
theorem sctold_rim : FnScope ["level", "fraction", "p", "q", "bottom"] ["level", "fraction"] (defScope stold_rim) := ⟨rfl, rfl, rfl, by decide +kernel, rfl, by decide +kernel, by decide +kernel⟩
def Rtold_rim : List Dt → (Dt → Prop) → Prop := fun ds G => ∃ N p q t : Int, ds = [.int N, .tuple [.int p, .int q]] ∧ 1 ≤ N ∧ N ≤ 100 ∧ OkFr p q ∧ Rim N p q t ∧ G (.tuple [.int t, .int (rimG N q)])
theorem oktold_rim {f : Addr} {fd : FuncData} (F : Fun K "told_rim" "told_rim" stold_rim f fd) (m_gcd : mg "gcd" = some (.builtin "math.gcd")) (f_least_top : Fn P w K mg base "_least_top" 1 (spR K R_least_top)) : FnOk P w K mg base CX0 2 f fd ["level", "fraction"] (spR K Rtold_rim) := by
  refine ok_R F sctold_rim (by decide) (fun ds G ⟨N, p, q, t, he, hN1, hN2, hF, L, hG⟩ => by subst he; rfl) fun cdv A outer s H E hr ds G ⟨N, p, q, t, he, hN1, hN2, hF, L, hG⟩ => ?_
  subst he
  have nd := sctold_rim.nd
  have hu := hr.units
  have gp : (0 : Int) < (Int.gcd q N : Nat) := rimG_pos q hN1
  have bN : Bd 70 N := Bd.of (m := 101) (by omega) (by omega) (by decide)
  have gb : Bd 70 ((Int.gcd q N : Nat) : Int) := gcd_bd (by omega) hF.bq bN
  have bp := hF.bp
  have bq := hF.bq
  have bd : Bd 70 (q / ((Int.gcd q N : Nat) : Int)) := bq.div gp
  refine wb_asg (gt_tup rfl (gts_cons (gt_n 2) (gts_cons (gt_n 3) gts_nil))) ?_
  refine vp_v 1 ?_
  refine ⟨_, rfl, rfl, _, _, rfl, _, _, rfl, rfl, ?_⟩
  show WB _ [_, _, _, _, _] _ _
  refine wb_set 4 ?_
  refine vp_gcd m_gcd rfl ?_
  refine vp_v 3 ?_
  refine ⟨_, rfl, ?_⟩
  refine vp_v 0 ?_
  refine ⟨_, rfl, ?_⟩
  refine ⟨_, rfl, ?_⟩
  show WB _ [_, _, _, _, _] _ _
  refine wb_ret ?_
  refine vp_tup ?_
  refine va_cons ?_
  refine vp_call f_least_top hr (by decide) rfl ?_
  refine va_cons ?_
  refine vp_v 4 ?_
  refine va_cons ?_
  refine vp_gcd m_gcd rfl ?_
  refine vp_v 4 ?_
  refine ⟨_, rfl, ?_⟩
  refine vp_fdiv ?_
  refine vp_v 0 ?_
  refine ⟨_, rfl, ?_⟩
  refine vp_v 4 ?_
  refine ⟨_, rfl, by walk_at "div_ok", ?_⟩
  refine ⟨_, rfl, ?_⟩
  refine va_cons ?_
  refine vp_mul ?_
  refine vp_v 2 ?_
  refine ⟨_, rfl, ?_⟩
  refine vp_fdiv ?_
  refine vp_v 3 ?_
  refine ⟨_, rfl, ?_⟩
  refine vp_v 4 ?_
  refine ⟨_, rfl, by walk_at "div_ok", ?_⟩
  refine ⟨_, rfl, by walk_at "mul_ok", ?_⟩
  refine va_nil ?_
  refine ⟨_, _, _, t, rfl, rimM_pos q hN1, (by have := rimG_pos q hN1; exact this), L, ?_⟩
  refine va_cons ?_
  refine vp_v 4 ?_
  refine va_nil ?_
  refine ⟨Nat.le_of_ble_eq_true rfl, ?_⟩
  exact hG
abbrev srim_of : Stmt := top 24
theorem scrim_of : FnScope ["level", "fraction"] ["level", "fraction"] (defScope srim_of) := ⟨rfl, rfl, rfl, by decide +kernel, rfl, by decide +kernel, by decide +kernel⟩
def Rrim_of : List Dt → (Dt → Prop) → Prop := fun ds G => ∃ N p q t : Int, ds = [.int N, .tuple [.int p, .int q]] ∧ 1 ≤ N ∧ N ≤ 100 ∧ OkFr p q ∧ Rim N p q t ∧ G (.tuple [.int t, .int (rimG N q)])
theorem okrim_of {f : Addr} {fd : FuncData} (F : Fun K "rim_of" "rim_of" srim_of f fd) (fcheck_level : Fn P w K mg base "check_level" 4 (spR K Rcheck_level)) (fcheck_fraction : Fn P w K mg base "check_fraction" 3 (spR K Rcheck_fraction)) (ftold_rim : Fn P w K mg base "told_rim" 2 (spR K Rtold_rim)) : FnOk P w K mg base CX0 5 f fd ["level", "fraction"] (spR K Rrim_of) := by
  refine ok_R F scrim_of (by decide) (fun ds G ⟨N, p, q, t, he, hN1, hN2, hF, L, hG⟩ => by subst he; rfl) fun cdv A outer s H E hr ds G ⟨N, p, q, t, he, hN1, hN2, hF, L, hG⟩ => ?_
  subst he
  have nd := scrim_of.nd
  have hu := hr.units
  refine wb_exp ?_
  refine vp_call fcheck_level hr (by decide) rfl ?_
  refine va_cons ?_
  refine vp_v 0 ?_
  refine va_nil ?_
  refine ⟨_, rfl, hN1, hN2, ?_⟩
  refine wb_exp ?_
  refine vp_call fcheck_fraction hr (by decide) rfl ?_
  refine va_cons ?_
  refine vp_v 1 ?_
  refine va_nil ?_
  refine ⟨_, _, rfl, hF, ?_⟩
  refine wb_ret ?_
  refine vp_call ftold_rim hr (by decide) rfl ?_
  refine va_cons ?_
  refine vp_v 0 ?_
  refine va_cons ?_
  refine vp_v 1 ?_
  refine va_nil ?_
  refine ⟨_, _, _, _, rfl, hN1, hN2, hF, L, ?_⟩
  exact hG
abbrev s_check_both : Stmt := top 27
theorem sc_check_both : FnScope ["level", "one", "other"] ["level", "one", "other"] (defScope s_check_both) := ⟨rfl, rfl, rfl, by decide +kernel, rfl, by decide +kernel, by decide +kernel⟩
def R_check_both : List Dt → (Dt → Prop) → Prop := fun ds G => ∃ N p q r u : Int, ds = [.int N, .tuple [.int p, .int q], .tuple [.int r, .int u]] ∧ 1 ≤ N ∧ N ≤ 100 ∧ OkFr p q ∧ OkFr r u ∧ G .none
theorem ok_check_both {f : Addr} {fd : FuncData} (F : Fun K "_check_both" "_check_both" s_check_both f fd) (fcheck_level : Fn P w K mg base "check_level" 4 (spR K Rcheck_level)) (fcheck_fraction : Fn P w K mg base "check_fraction" 3 (spR K Rcheck_fraction)) : FnOk P w K mg base CX0 5 f fd ["level", "one", "other"] (spR K R_check_both) := by
  refine ok_R F sc_check_both (by decide) (fun ds G ⟨N, p, q, r, u, he, hN1, hN2, hF, hE, hG⟩ => by subst he; rfl) fun cdv A outer s H E hr ds G ⟨N, p, q, r, u, he, hN1, hN2, hF, hE, hG⟩ => ?_
  subst he
  have nd := sc_check_both.nd
  have hu := hr.units
  refine wb_exp ?_
  refine vp_call fcheck_level hr (by decide) rfl ?_
  refine va_cons ?_
  refine vp_v 0 ?_
  refine va_nil ?_
  refine ⟨_, rfl, hN1, hN2, ?_⟩
  refine wb_exp ?_
  refine vp_call fcheck_fraction hr (by decide) rfl ?_
  refine va_cons ?_
  refine vp_v 1 ?_
  refine va_nil ?_
  refine ⟨_, _, rfl, hF, ?_⟩
  refine wb_exp ?_
  refine vp_call fcheck_fraction hr (by decide) rfl ?_
  refine va_cons ?_
  refine vp_v 2 ?_
  refine va_nil ?_
  refine ⟨_, _, rfl, hE, ?_⟩
  exact wb_nil hG
abbrev sare_same_rim : Stmt := top 26
theorem scare_same_rim : FnScope ["level", "one", "other"] ["level", "one", "other"] (defScope sare_same_rim) := ⟨rfl, rfl, rfl, by decide +kernel, rfl, by decide +kernel, by decide +kernel⟩
def Rare_same_rim : List Dt → (Dt → Prop) → Prop := fun ds G => ∃ N p q r u t t2 : Int, ds = [.int N, .tuple [.int p, .int q], .tuple [.int r, .int u]] ∧ 1 ≤ N ∧ N ≤ 100 ∧ OkFr p q ∧ OkFr r u ∧ Rim N p q t ∧ Rim N r u t2 ∧ G (.bool (decide (t = t2) && decide (rimG N q = rimG N u)))
theorem okare_same_rim {f : Addr} {fd : FuncData} (F : Fun K "are_same_rim" "are_same_rim" sare_same_rim f fd) (f_check_both : Fn P w K mg base "_check_both" 5 (spR K R_check_both)) (ftold_rim : Fn P w K mg base "told_rim" 2 (spR K Rtold_rim)) : FnOk P w K mg base CX0 6 f fd ["level", "one", "other"] (spR K Rare_same_rim) := by
  refine ok_R F scare_same_rim (by decide) (fun ds G ⟨N, p, q, r, u, t, t2, he, hN1, hN2, hF, hE, L, L2, hG⟩ => by subst he; rfl) fun cdv A outer s H E hr ds G ⟨N, p, q, r, u, t, t2, he, hN1, hN2, hF, hE, L, L2, hG⟩ => ?_
  subst he
  have nd := scare_same_rim.nd
  have hu := hr.units
  refine wb_exp ?_
  refine vp_call f_check_both hr (by decide) rfl ?_
  refine va_cons ?_
  refine vp_v 0 ?_
  refine va_cons ?_
  refine vp_v 1 ?_
  refine va_cons ?_
  refine vp_v 2 ?_
  refine va_nil ?_
  refine ⟨_, _, _, _, _, rfl, hN1, hN2, hF, hE, ?_⟩
  refine wb_ret ?_
  refine vp_eqD hu ?_
  refine vp_call ftold_rim hr (by decide) rfl ?_
  refine va_cons ?_
  refine vp_v 0 ?_
  refine va_cons ?_
  refine vp_v 1 ?_
  refine va_nil ?_
  refine ⟨_, _, _, _, rfl, hN1, hN2, hF, L, ?_⟩
  refine vp_call ftold_rim hr (by decide) rfl ?_
  refine va_cons ?_
  refine vp_v 0 ?_
  refine va_cons ?_
  refine vp_v 2 ?_
  refine va_nil ?_
  refine ⟨_, _, _, _, rfl, hN1, hN2, hE, L2, ?_⟩
  refine ⟨⟨rfl, rfl⟩, ⟨rfl, rfl⟩, ?_⟩
  rw [eqD_t2]
  exact hG
abbrev s_matrix_to : Stmt := top 29
theorem sc_matrix_to : FnScope ["fraction", "p", "q", "y"] ["fraction"] (defScope s_matrix_to) := ⟨rfl, rfl, rfl, by decide +kernel, rfl, by decide +kernel, by decide +kernel⟩
def R_matrix_to : List Dt → (Dt → Prop) → Prop := fun ds G => ∃ p q : Int, ds = [.tuple [.int p, .int q]] ∧ OkFr p q ∧ ∀ b d : Int, p * d - b * q = 1 → Bd 200 b → Bd 200 d → G (.tuple [.int p, .int b, .int q, .int d])
theorem ok_matrix_to {f : Addr} {fd : FuncData} (F : Fun K "_matrix_to" "_matrix_to" s_matrix_to f fd) (finverse_modulo : Fn P w K mg base "inverse_modulo" 1 (spR K Rinverse_modulo)) : FnOk P w K mg base CX0 2 f fd ["fraction"] (spR K R_matrix_to) := by
  refine ok_R F sc_matrix_to (by decide) (fun ds G ⟨p, q, he, hF, hG⟩ => by subst he; rfl) fun cdv A outer s H E hr ds G ⟨p, q, he, hF, hG⟩ => ?_
  subst he
  have nd := sc_matrix_to.nd
  have hu := hr.units
  obtain ⟨⟨h0, h1, h2⟩, h3⟩ := id hF
  refine wb_asg (gt_tup rfl (gts_cons (gt_n 1) (gts_cons (gt_n 2) gts_nil))) ?_
  refine vp_v 0 ?_
  refine ⟨_, rfl, rfl, _, _, rfl, _, _, rfl, rfl, ?_⟩
  show WB _ [_, _, _, _] _ _
  refine wb_ifR ?_
  refine vt_eqD hu ?_
  refine vp_v 2 ?_
  refine vp_int ?_
  refine ⟨by walk_at "shd_ok", by walk_at "shd_ok", ?_⟩
  refine ⟨fun h => ?_, fun h => ?_⟩
  · have hq : q = 0 := by rw [eqD_int] at h; simpa using h
    have hp := h2 hq
    subst hp hq
    refine wb_ret ?_
    refine vp_tup ?_
    refine va_cons ?_
    refine vp_int ?_
    refine va_cons ?_
    refine vp_int ?_
    refine va_cons ?_
    refine vp_int ?_
    refine va_cons ?_
    refine vp_int ?_
    refine va_nil ?_
    refine ⟨Nat.le_of_ble_eq_true rfl, ?_⟩
    exact hG 0 1 (by omega) (Bd.lit 200 (by decide)) (Bd.lit 200 (by decide))
  have hq0 : q ≠ 0 := by rw [eqD_int] at h; simpa using h
  have hqp : 0 < q := by omega
  have bp := hF.bp
  have bq := hF.bq
  refine wb_set 3 ?_
  refine vp_call finverse_modulo hr (by decide) rfl ?_
  refine va_cons ?_
  refine vp_v 2 ?_
  refine va_cons ?_
  refine vp_v 1 ?_
  refine va_nil ?_
  refine ⟨_, _, rfl, hqp, bq.mono (by decide), h1, fun y y0 y1 y2 => ?_⟩
  refine ⟨_, rfl, ?_⟩
  show WB _ [_, _, _, _] _ _
  have by1 : Bd 70 y := bq.le (by omega)
  refine wb_ret ?_
  refine vp_tup ?_
  refine va_cons ?_
  refine vp_v 1 ?_
  refine va_cons ?_
  refine vp_fdiv ?_
  refine vp_sub ?_
  refine vp_mul ?_
  refine vp_v 1 ?_
  refine ⟨_, rfl, ?_⟩
  refine vp_v 3 ?_
  refine ⟨_, rfl, by walk_at "mul_ok", ?_⟩
  refine ⟨_, rfl, ?_⟩
  refine vp_int ?_
  refine ⟨_, rfl, ?_⟩
  refine ⟨_, rfl, ?_⟩
  refine vp_v 2 ?_
  refine ⟨_, rfl, by walk_at "div_ok", ?_⟩
  refine va_cons ?_
  refine vp_v 2 ?_
  refine va_cons ?_
  refine vp_v 3 ?_
  refine va_nil ?_
  refine ⟨Nat.le_of_ble_eq_true rfl, ?_⟩
  obtain ⟨z, hz⟩ := y2
  have e : (p * y - 1) / q = z := by rw [hz, Int.mul_ediv_cancel_left _ hq0]
  have bb : Bd 200 ((p * y - 1) / q) := ((bp.mul by1).sub (Bd.lit 2 (by decide))).div hqp |>.mono (by decide)
  rw [e] at bb ⊢
  exact hG z y (by have := Int.mul_comm q z; omega) bb (by1.mono (by decide))
end
end Pf

set_option Elab.async false
set_option linter.all false
set_option maxRecDepth 100000
set_option maxHeartbeats 4000000
namespace Pf
open PySem PySem.Spec PyProof.Rows L2 Lv
local macro_rules | `(tactic| walk_at "bd") => `(tactic| repeat (first | assumption | exact Bd.lit 12 (by decide +kernel) | exact Bd.lit 80 (by decide +kernel) | exact Bd.lit 500 (by decide +kernel) | apply Bd.mul | apply Bd.add | apply Bd.sub | apply Bd.neg | apply Bd.mod | apply Bd.div | apply Bd.ite | decide | omega))
local macro_rules | `(tactic| walk_at "mul_ok") => `(tactic| (apply Bd.cmul; (focus walk_at "bd"); (focus walk_at "bd"); decide))
local macro_rules | `(tactic| walk_at "bdm") => `(tactic| (apply Bd.mono; (focus walk_at "bd"); decide))
local macro_rules | `(tactic| walk_at "pos_ok") => `(tactic| first | assumption | decide | omega)
local macro_rules | `(tactic| walk_at "div_ok") => `(tactic| (apply Bd.cdiv; (focus walk_at "pos_ok"); (focus walk_at "bd"); decide; decide))
local macro_rules | `(tactic| walk_at "divv_ok") => `(tactic| (apply Bd.cdivV; (focus (first | assumption | omega)); (focus walk_at "bd"); decide; decide))
local macro_rules | `(tactic| walk_at "shd_ok") => `(tactic| exact ⟨rfl, rfl⟩)
local macro_rules | `(tactic| walk_at "notO_ok") => `(tactic| first | assumption | rfl)
section
variable {P : Program} {w : World} {K : PySem.W.Frag} {mg : Str → Option Value} {base : Heap}

theorem isW_of {v : Dt} (h : isW v = true) : ∃ a : Int, v = .int a := by
  cases v <;> first | exact ⟨_, rfl⟩ | exact absurd h Bool.false_ne_true
theorem isM_of {v : Dt} (h : isM v = true) : ∃ a b c d : Int, v = .tuple [.int a, .int b, .int c, .int d] := by
  obtain ⟨l, rfl⟩ : ∃ l, v = .tuple l := by cases v <;> first | exact ⟨_, rfl⟩ | exact absurd h Bool.false_ne_true
  have h : (decide ((l.length : Int) = 4) && l.all isW) = true := h
  rw [Bool.and_eq_true, decide_eq_true_eq, List.all_eq_true] at h
  obtain ⟨hl, hw⟩ := h
  match l, hl, hw with
  | [a, b, c, d], _, hw =>
    obtain ⟨a, rfl⟩ := isW_of (hw a (by simp))
    obtain ⟨b, rfl⟩ := isW_of (hw b (by simp))
    obtain ⟨c, rfl⟩ := isW_of (hw c (by simp))
    obtain ⟨d, rfl⟩ := isW_of (hw d (by simp))
    exact ⟨a, b, c, d, rfl⟩
  | [], hl, _ => simp at hl
  | [_], hl, _ => simp at hl
  | [_, _], hl, _ => simp at hl
  | [_, _, _], hl, _ => simp at hl
  | _ :: _ :: _ :: _ :: _ :: _, hl, _ => simp at hl; omega
/-- a matrix of the group that leads the one fraction to the other -/
def isP (N p q r u : Int) : Dt → Bool
  | .tuple [.int a, .int b, .int c, .int d] => decide (a * d - b * c = 1) && (decide (c % N = 0) && (decide ((nrm (a * p + b * q) (c * p + d * q)).1 = r) && decide ((nrm (a * p + b * q) (c * p + d * q)).2 = u)))
  | _ => false
def ndB : Dt → Bool
  | .tuple [.int a, .int b, .int c, .int d] => !decide (a * d - b * c = 1)
  | _ => false
def ncB (N : Int) : Dt → Bool
  | .tuple [.int a, .int b, .int c, .int d] => !decide (c % N = 0)
  | _ => false
theorem isP_no {N p q r u : Int} {v : Dt} (h : isM v = false) : isP N p q r u v = false := by
  unfold isP
  split
  · cases h
  · rfl
theorem lead0 {a b c d p q : Int} (h : a * d - b * c ≠ 0) (hF : OkFr p q) : ¬(a * p + b * q = 0 ∧ c * p + d * q = 0) := fun ⟨h1, h2⟩ => by
  have e1 : (a * d - b * c) * p = 0 := by
    have : (a * d - b * c) * p = d * (a * p + b * q) - b * (c * p + d * q) := by grind
    rw [this, h1, h2]; simp
  have e2 : (a * d - b * c) * q = 0 := by
    have : (a * d - b * c) * q = a * (c * p + d * q) - c * (a * p + b * q) := by grind
    rw [this, h1, h2]; simp
  have hp : p = 0 := (Int.mul_eq_zero.mp e1).resolve_left h
  have hq : q = 0 := (Int.mul_eq_zero.mp e2).resolve_left h
  have := hF.1.2.2 hq
  omega
def BdM (v : Dt) : Prop := ∀ a b c d : Int, v = .tuple [.int a, .int b, .int c, .int d] → Bd 1000 a ∧ Bd 1000 b ∧ Bd 1000 c ∧ Bd 1000 d
abbrev sis_rim_paper : Stmt := top 30
theorem scis_rim_paper : FnScope ["level", "one", "other", "value"] ["level", "one", "other", "value"] (defScope sis_rim_paper) := ⟨rfl, rfl, rfl, by decide +kernel, rfl, by decide +kernel, by decide +kernel⟩
def Ris_rim_paper : List Dt → (Dt → Prop) → Prop := fun ds G => ∃ (N p q r u : Int) (v : Dt), ds = [.int N, .tuple [.int p, .int q], .tuple [.int r, .int u], v] ∧ 1 ≤ N ∧ N ≤ 100 ∧ OkFr p q ∧ OkFr r u ∧ OkV v ∧ BdM v ∧ G (.bool (isP N p q r u v))
theorem okis_rim_paper {f : Addr} {fd : FuncData} (F : Fun K "is_rim_paper" "is_rim_paper" sis_rim_paper f fd) (f_check_both : Fn P w K mg base "_check_both" 5 (spR K R_check_both)) (fis_matrix : Fn P w K mg base "is_matrix" 2 (spR K Ris_matrix)) (fmatrix_determinant : Fn P w K mg base "matrix_determinant" 1 (spR K Rmatrix_determinant)) (f_led : Fn P w K mg base "_led" 1 (spR K R_led)) : FnOk P w K mg base CX0 6 f fd ["level", "one", "other", "value"] (spR K Ris_rim_paper) := by
  refine ok_R F scis_rim_paper (by decide) (fun ds G ⟨N, p, q, r, u, v, he, hN1, hN2, hF, hE, hV, hB, hG⟩ => by subst he; rfl) fun cdv A outer s H E hr ds G ⟨N, p, q, r, u, v, he, hN1, hN2, hF, hE, hV, hB, hG⟩ => ?_
  subst he
  have nd := scis_rim_paper.nd
  have hu := hr.units
  refine wb_exp ?_
  refine vp_call f_check_both hr (by decide) rfl ?_
  refine va_cons ?_
  refine vp_v 0 ?_
  refine va_cons ?_
  refine vp_v 1 ?_
  refine va_cons ?_
  refine vp_v 2 ?_
  refine va_nil ?_
  refine ⟨_, _, _, _, _, rfl, hN1, hN2, hF, hE, ?_⟩
  refine wb_ifR ?_
  refine vt_w ?_
  refine vw_orP ?_
  refine vt_not ?_
  refine vt_val ?_
  refine vp_call fis_matrix hr (by decide) rfl ?_
  refine va_cons ?_
  refine vp_v 3 ?_
  refine va_nil ?_
  refine ⟨_, rfl, hV, ?_⟩
  refine ⟨_, rfl, ?_⟩
  refine ⟨ndB v || ncB N v, fun h => ?_, ?_⟩
  · obtain ⟨a, b, c, d, rfl⟩ := isM_of (by simpa using h)
    obtain ⟨ha, hb, hc, hd⟩ := hB a b c d rfl
    refine vw_orP ?_
    refine vt_neD hu ?_
    refine vp_call fmatrix_determinant hr (by decide) rfl ?_
    refine va_cons ?_
    refine vp_v 3 ?_
    refine va_nil ?_
    refine ⟨_, _, _, _, rfl, ha, hb, hc, hd, ?_⟩
    refine vp_int ?_
    refine ⟨by walk_at "shd_ok", by walk_at "shd_ok", ?_⟩
    refine ⟨ncB N (.tuple [.int a, .int b, .int c, .int d]), fun _ => ?_, ⟨rfl, rfl⟩⟩
    refine vw_or1 ?_
    refine vt_neD hu ?_
    refine vp_mod ?_
    refine vp_ix ?_
    refine vp_v 3 ?_
    refine vp_int ?_
    refine ⟨_, _, _, SeqD.t, rfl, rfl, ?_⟩
    refine ⟨_, rfl, ?_⟩
    refine vp_v 0 ?_
    refine ⟨_, rfl, by walk_at "pos_ok", ?_⟩
    refine vp_int ?_
    refine ⟨by walk_at "shd_ok", by walk_at "shd_ok", ?_⟩
    exact ⟨rfl, rfl⟩
  refine ⟨fun h => ?_, fun h => ?_⟩
  · refine wb_ret ?_
    refine vp_bool ?_
    have e : isP N p q r u v = false := by
      cases hm : isM v with
      | false => exact isP_no hm
      | true =>
        obtain ⟨a, b, c, d, rfl⟩ := isM_of hm
        have h : (!isM _ || (!decide (a * d - b * c = 1) || !decide (c % N = 0))) = true := h
        rw [hm] at h
        show (decide (a * d - b * c = 1) && (decide (c % N = 0) && _)) = false
        cases h1 : decide (a * d - b * c = 1) <;> cases h2 : decide (c % N = 0) <;> simp [h1, h2] at h ⊢
    rw [e] at hG
    exact hG
  obtain ⟨a, b, c, d, rfl⟩ := isM_of (v := v) (by
    cases hm : isM v with
    | false => rw [hm] at h; cases h
    | true => rfl)
  obtain ⟨ha, hb, hc, hd⟩ := hB a b c d rfl
  have h : (false || (!decide (a * d - b * c = 1) || !decide (c % N = 0))) = false := h
  have h1 : a * d - b * c = 1 := by
    cases h1 : decide (a * d - b * c = 1) with
    | false => rw [h1] at h; cases h
    | true => exact of_decide_eq_true h1
  have h2 : c % N = 0 := by
    cases h2 : decide (c % N = 0) with
    | false => rw [h2, h1] at h; cases h
    | true => exact of_decide_eq_true h2
  have h0 := lead0 (a := a) (b := b) (c := c) (d := d) (by rw [h1]; decide) hF
  refine wb_ret ?_
  refine vp_eqD hu ?_
  refine vp_call f_led hr (by decide) rfl ?_
  refine va_cons ?_
  refine vp_v 3 ?_
  refine va_cons ?_
  refine vp_v 1 ?_
  refine va_nil ?_
  refine ⟨_, _, _, _, _, _, rfl, ha, hb, hc, hd, hF.bp, hF.bq, h0, ?_⟩
  refine vp_v 2 ?_
  refine ⟨by walk_at "shd_ok", by walk_at "shd_ok", ?_⟩
  have e : isP N p q r u (.tuple [.int a, .int b, .int c, .int d]) = (decide ((nrm (a * p + b * q) (c * p + d * q)).1 = r) && decide ((nrm (a * p + b * q) (c * p + d * q)).2 = u)) := by
    show (decide (a * d - b * c = 1) && (decide (c % N = 0) && _)) = _
    rw [decide_eq_true h1, decide_eq_true h2]
    rfl
  rw [eqD_t2, ← e]
  exact hG
end
end Pf

set_option Elab.async false
set_option linter.all false
set_option maxRecDepth 100000
set_option maxHeartbeats 4000000
namespace Pf
open PySem PySem.Spec PyProof.Rows L2 Lv
local macro_rules | `(tactic| walk_at "bd") => `(tactic| repeat (first | assumption | exact Bd.lit 12 (by decide +kernel) | exact Bd.lit 80 (by decide +kernel) | exact Bd.lit 500 (by decide +kernel) | apply Bd.mul | apply Bd.add | apply Bd.sub | apply Bd.neg | apply Bd.mod | apply Bd.div | apply Bd.ite | decide | omega))
local macro_rules | `(tactic| walk_at "mul_ok") => `(tactic| (apply Bd.cmul; (focus walk_at "bd"); (focus walk_at "bd"); decide))
local macro_rules | `(tactic| walk_at "bdm") => `(tactic| (apply Bd.mono; (focus walk_at "bd"); decide))
local macro_rules | `(tactic| walk_at "pos_ok") => `(tactic| first | assumption | decide | omega)
local macro_rules | `(tactic| walk_at "div_ok") => `(tactic| (apply Bd.cdiv; (focus walk_at "pos_ok"); (focus walk_at "bd"); decide; decide))
local macro_rules | `(tactic| walk_at "divv_ok") => `(tactic| (apply Bd.cdivV; (focus (first | assumption | omega)); (focus walk_at "bd"); decide; decide))
local macro_rules | `(tactic| walk_at "shd_ok") => `(tactic| exact ⟨rfl, rfl⟩)
local macro_rules | `(tactic| walk_at "notO_ok") => `(tactic| first | assumption | rfl)
section
variable {P : Program} {w : World} {K : PySem.W.Frag} {mg : Str → Option Value} {base : Heap}

abbrev srim_paper : Stmt := top 28
theorem scrim_paper : FnScope ["level", "one", "other", "p", "x", "q", "y", "a", "b", "c", "d", "steps", "upper", "lower", "paper"] ["level", "one", "other"] (defScope srim_paper) := ⟨rfl, rfl, rfl, by decide +kernel, rfl, by decide +kernel, by decide +kernel⟩
def Rrim_paper : List Dt → (Dt → Prop) → Prop := fun ds G => ∃ N p q a c : Int, ds = [.int N, .tuple [.int p, .int q], .tuple [.int a, .int c]] ∧ 1 ≤ N ∧ N ≤ 100 ∧ OkFr p q ∧ OkFr a c ∧ (∀ e f g h : Int, e * h - f * g = 1 → N ∣ g → e * p + f * q = a → g * p + h * q = c → Bd 400 e → Bd 400 f → Bd 400 g → Bd 400 h → G (.tuple [.int e, .int f, .int g, .int h])) ∧ ∀ x y b d : Int, p * y - x * q = 1 → a * d - b * c = 1 → (∀ k : Int, 0 ≤ k → k < N → ¬ N ∣ c * y - (d + k * c) * q) → G .none
theorem okrim_paper {f : Addr} {fd : FuncData} (F : Fun K "rim_paper" "rim_paper" srim_paper f fd) (m_range : mg "range" = none) (f_check_both : Fn P w K mg base "_check_both" 5 (spR K R_check_both)) (f_matrix_to : Fn P w K mg base "_matrix_to" 2 (spR K R_matrix_to)) : FnOk P w K mg base CX0 6 f fd ["level", "one", "other"] (spR K Rrim_paper) := by
  refine ok_R F scrim_paper (by decide) (fun ds G ⟨N, p, q, a, c, he, hN1, hN2, hF, hE, hS, hNo⟩ => by subst he; rfl) fun cdv A outer s H E hr ds G ⟨N, p, q, a, c, he, hN1, hN2, hF, hE, hS, hNo⟩ => ?_
  subst he
  have nd := scrim_paper.nd
  have hu := hr.units
  refine wb_exp ?_
  refine vp_call f_check_both hr (by decide) rfl ?_
  refine va_cons ?_
  refine vp_v 0 ?_
  refine va_cons ?_
  refine vp_v 1 ?_
  refine va_cons ?_
  refine vp_v 2 ?_
  refine va_nil ?_
  refine ⟨_, _, _, _, _, rfl, hN1, hN2, hF, hE, ?_⟩
  refine wb_asg (gt_tup rfl (gts_cons (gt_n 3) (gts_cons (gt_n 4) (gts_cons (gt_n 5) (gts_cons (gt_n 6) gts_nil))))) ?_
  refine vp_call f_matrix_to hr (by decide) rfl ?_
  refine va_cons ?_
  refine vp_v 1 ?_
  refine va_nil ?_
  refine ⟨_, _, rfl, hF, fun x y hxy bx by1 => ?_⟩
  refine ⟨_, rfl, rfl, _, _, rfl, _, _, rfl, _, _, rfl, _, _, rfl, rfl, ?_⟩
  show WB _ [_, _, _, _, _, _, _, _, _, _, _, _, _, _, _] _ _
  refine wb_asg (gt_tup rfl (gts_cons (gt_n 7) (gts_cons (gt_n 8) (gts_cons (gt_n 9) (gts_cons (gt_n 10) gts_nil))))) ?_
  refine vp_call f_matrix_to hr (by decide) rfl ?_
  refine va_cons ?_
  refine vp_v 2 ?_
  refine va_nil ?_
  refine ⟨_, _, rfl, hE, fun b d hbd bb bd => ?_⟩
  refine ⟨_, rfl, rfl, _, _, rfl, _, _, rfl, _, _, rfl, _, _, rfl, rfl, ?_⟩
  show WB _ [_, _, _, _, _, _, _, _, _, _, _, _, _, _, _] _ _
  have bp := hF.bp
  have bq := hF.bq
  have ba := hE.bp
  have bc := hE.bq
  refine wb_cons (ws_forR1 PassesOwn.never rfl m_range rfl (gt_n 11) ?_)
  refine vp_v 0 ?_
  refine ⟨_, rfl, by omega, by omega, fun i es => ∃ t1 t2 t3 t4 : Sl, es = [.fz (.int N), .fz (.tuple [.int p, .int q]), .fz (.tuple [.int a, .int c]), .fz (.int p), .fz (.int x), .fz (.int q), .fz (.int y), .fz (.int a), .fz (.int b), .fz (.int c), .fz (.int d), t1, t2, t3, t4] ∧ ∀ k : Int, 0 ≤ k → k < i → ¬ N ∣ c * y - (d + k * c) * q, ⟨_, _, _, _, rfl, fun k k0 k1 => by omega⟩, fun i es hi ⟨t1, t2, t3, t4, he, hk⟩ => ?_, fun es ⟨t1, t2, t3, t4, he, hk⟩ => ?_⟩
  · subst he
    have bs : Bd 70 ((0 : Int) + (i : Int)) := Bd.of (m := 101) (by omega) (by omega) (by decide)
    generalize hj : (0 : Int) + (i : Int) = j at *
    show WB _ [_, _, _, _, _, _, _, _, _, _, _, _, _, _, _] _ _
    refine wb_par 12 13 ?_
    refine va_cons ?_
    refine vp_add ?_
    refine vp_v 8 ?_
    refine ⟨_, rfl, ?_⟩
    refine vp_mul ?_
    refine vp_v 11 ?_
    refine ⟨_, rfl, ?_⟩
    refine vp_v 7 ?_
    refine ⟨_, rfl, by walk_at "mul_ok", ?_⟩
    refine ⟨_, rfl, ?_⟩
    refine va_cons ?_
    refine vp_add ?_
    refine vp_v 10 ?_
    refine ⟨_, rfl, ?_⟩
    refine vp_mul ?_
    refine vp_v 11 ?_
    refine ⟨_, rfl, ?_⟩
    refine vp_v 9 ?_
    refine ⟨_, rfl, by walk_at "mul_ok", ?_⟩
    refine ⟨_, rfl, ?_⟩
    refine va_nil ?_
    refine ⟨_, _, rfl, _, rfl, ?_⟩
    show WB _ [_, _, _, _, _, _, _, _, _, _, _, _, _, _, _] _ _
    refine wb_set 14 ?_
    refine vp_tup ?_
    refine va_cons ?_
    refine vp_sub ?_
    refine vp_mul ?_
    refine vp_v 7 ?_
    refine ⟨_, rfl, ?_⟩
    refine vp_v 6 ?_
    refine ⟨_, rfl, by walk_at "mul_ok", ?_⟩
    refine ⟨_, rfl, ?_⟩
    refine vp_mul ?_
    refine vp_v 12 ?_
    refine ⟨_, rfl, ?_⟩
    refine vp_v 5 ?_
    refine ⟨_, rfl, by walk_at "mul_ok", ?_⟩
    refine ⟨_, rfl, ?_⟩
    refine va_cons ?_
    refine vp_sub ?_
    refine vp_mul ?_
    refine vp_v 12 ?_
    refine ⟨_, rfl, ?_⟩
    refine vp_v 3 ?_
    refine ⟨_, rfl, by walk_at "mul_ok", ?_⟩
    refine ⟨_, rfl, ?_⟩
    refine vp_mul ?_
    refine vp_v 7 ?_
    refine ⟨_, rfl, ?_⟩
    refine vp_v 4 ?_
    refine ⟨_, rfl, by walk_at "mul_ok", ?_⟩
    refine ⟨_, rfl, ?_⟩
    refine va_cons ?_
    refine vp_sub ?_
    refine vp_mul ?_
    refine vp_v 9 ?_
    refine ⟨_, rfl, ?_⟩
    refine vp_v 6 ?_
    refine ⟨_, rfl, by walk_at "mul_ok", ?_⟩
    refine ⟨_, rfl, ?_⟩
    refine vp_mul ?_
    refine vp_v 13 ?_
    refine ⟨_, rfl, ?_⟩
    refine vp_v 5 ?_
    refine ⟨_, rfl, by walk_at "mul_ok", ?_⟩
    refine ⟨_, rfl, ?_⟩
    refine va_cons ?_
    refine vp_sub ?_
    refine vp_mul ?_
    refine vp_v 13 ?_
    refine ⟨_, rfl, ?_⟩
    refine vp_v 3 ?_
    refine ⟨_, rfl, by walk_at "mul_ok", ?_⟩
    refine ⟨_, rfl, ?_⟩
    refine vp_mul ?_
    refine vp_v 9 ?_
    refine ⟨_, rfl, ?_⟩
    refine vp_v 4 ?_
    refine ⟨_, rfl, by walk_at "mul_ok", ?_⟩
    refine ⟨_, rfl, ?_⟩
    refine va_nil ?_
    refine ⟨Nat.le_of_ble_eq_true rfl, ?_⟩
    refine ⟨_, rfl, ?_⟩
    show WB _ [_, _, _, _, _, _, _, _, _, _, _, _, _, _, _] _ _
    refine wb_ifR ?_
    refine vt_eqD hu ?_
    refine vp_mod ?_
    refine vp_ix ?_
    refine vp_v 14 ?_
    refine vp_int ?_
    refine ⟨_, _, _, SeqD.t, rfl, rfl, ?_⟩
    refine ⟨_, rfl, ?_⟩
    refine vp_v 0 ?_
    refine ⟨_, rfl, by walk_at "pos_ok", ?_⟩
    refine vp_int ?_
    refine ⟨by walk_at "shd_ok", by walk_at "shd_ok", ?_⟩
    refine ⟨fun h => ?_, fun h => ?_⟩
    · refine wb_ret ?_
      refine vp_v 14 ?_
      refine hS _ _ _ _ ?_ ?_ ?_ ?_ ?_ ?_ ?_ ?_
      · grind
      · exact Int.dvd_of_emod_eq_zero (by rw [eqD_int] at h; exact of_decide_eq_true h)
      · grind
      · grind
      · exact ((ba.mul by1).sub ((bb.add (bs.mul ba)).mul bq)).mono (by decide)
      · exact (((bb.add (bs.mul ba)).mul bp).sub (ba.mul bx)).mono (by decide)
      · exact ((bc.mul by1).sub ((bd.add (bs.mul bc)).mul bq)).mono (by decide)
      · exact (((bd.add (bs.mul bc)).mul bp).sub (bc.mul bx)).mono (by decide)
    refine wb_nil ⟨_, _, _, _, rfl, fun k k0 k1 => ?_⟩
    by_cases hki : k < i
    · exact hk k k0 hki
    · have e : k = j := by omega
      subst e
      rw [eqD_int] at h
      exact fun z => (of_decide_eq_false h) (Int.emod_eq_zero_of_dvd z)
  subst he
  refine wb_ret ?_
  refine vp_none ?_
  exact hNo x y b d hxy hbd (fun k k0 k1 => hk k k0 (by omega))
end
end Pf

set_option Elab.async false
set_option linter.all false
set_option maxRecDepth 100000
set_option maxHeartbeats 4000000
namespace Pf
open PySem PySem.Spec PyProof.Rows L2 Lv
local macro_rules | `(tactic| walk_at "bd") => `(tactic| repeat (first | assumption | exact Bd.lit 12 (by decide +kernel) | exact Bd.lit 80 (by decide +kernel) | exact Bd.lit 500 (by decide +kernel) | apply Bd.mul | apply Bd.add | apply Bd.sub | apply Bd.neg | apply Bd.mod | apply Bd.div | apply Bd.ite | decide | omega))
local macro_rules | `(tactic| walk_at "mul_ok") => `(tactic| (apply Bd.cmul; (focus walk_at "bd"); (focus walk_at "bd"); decide))
local macro_rules | `(tactic| walk_at "bdm") => `(tactic| (apply Bd.mono; (focus walk_at "bd"); decide))
local macro_rules | `(tactic| walk_at "pos_ok") => `(tactic| first | assumption | decide | omega)
local macro_rules | `(tactic| walk_at "div_ok") => `(tactic| (apply Bd.cdiv; (focus walk_at "pos_ok"); (focus walk_at "bd"); decide; decide))
local macro_rules | `(tactic| walk_at "divv_ok") => `(tactic| (apply Bd.cdivV; (focus (first | assumption | omega)); (focus walk_at "bd"); decide; decide))
local macro_rules | `(tactic| walk_at "shd_ok") => `(tactic| exact ⟨rfl, rfl⟩)
local macro_rules | `(tactic| walk_at "notO_ok") => `(tactic| first | assumption | rfl)
section
variable {P : Program} {w : World} {K : PySem.W.Frag} {mg : Str → Option Value} {base : Heap}

abbrev s_law_dice : Stmt := top 32
theorem sc_law_dice : FnScope ["_law_script", "_law_spot", "_law_cell", "_law_left"] ["_law_script", "_law_spot"] (defScope s_law_dice) := ⟨rfl, rfl, rfl, by decide +kernel, rfl, by decide +kernel, by decide +kernel⟩
def R_law_dice : List Dt → (List Dt → Prop) → Prop := fun ds G => ∃ (ns : List Int) (s0 : Int), ds = [.scr (ns.map Dt.int), .int s0] ∧ 0 ≤ s0 ∧ s0 < 64 ∧ ∀ ds, Dice 0 ds → G ds
theorem ok_law_dice {f : Addr} {fd : FuncData} (F : Fun K "_law_dice" "_law_dice" s_law_dice f fd) (m_int : mg "int" = none) (m_len : mg "len" = none) (m_max : mg "max" = none) (m_abs : mg "abs" = none) : FnOk P w K mg base CX0 1 f fd ["_law_script", "_law_spot"] (spL K R_law_dice) := by
  refine ok_L F sc_law_dice (by decide) (fun ds G ⟨ns, s0, hd, h0, h1, hG⟩ => by subst hd; rfl) fun cdv A outer s H E hr ds G ⟨ns, s0, hd, h0, h1, hG⟩ => ?_
  subst hd
  have nd := sc_law_dice.nd
  have hu := hr.units
  have bs : Bd 60 s0 := Bd.of (m := 64) (by omega) (by omega) (by decide)
  refine wb_set 2 ?_
  apply vp_ifI
  refine vt_lt ?_
  refine vp_v 1 ?_
  refine ⟨_, rfl, ?_⟩
  refine vp_len m_len rfl ?_
  refine vp_v 0 ?_
  refine ⟨_, SeqD.s, ?_⟩
  refine ⟨_, rfl, ?_⟩
  refine ⟨fun h => ?_, fun h => ?_, ?_⟩
  · refine vp_int1 m_int rfl ?_
    refine vp_ix ?_
    refine vp_v 0 ?_
    refine vp_v 1 ?_
    refine ⟨_, _, _, SeqD.s, rfl, at_ints h0 (of_decide_eq_true h), ?_⟩
    refine .inl ⟨_, rfl, ?_⟩
    exact ⟨rfl, rfl⟩
  · refine vp_add ?_
    refine vp_mul ?_
    refine vp_int ?_
    refine ⟨_, rfl, ?_⟩
    refine vp_v 1 ?_
    refine ⟨_, rfl, by walk_at "mul_ok", ?_⟩
    refine ⟨_, rfl, ?_⟩
    refine vp_int ?_
    refine ⟨_, rfl, ?_⟩
    exact ⟨rfl, rfl⟩
  refine ⟨_, rfl, ?_⟩
  show WB _ [_, _, _, _] _ _
  refine wb_set 3 ?_
  refine vp_mod ?_
  refine vp_max2 m_max rfl rfl ?_
  refine vp_int ?_
  refine ⟨_, rfl, ?_⟩
  refine vp_sub ?_
  refine vp_abs m_abs rfl ?_
  refine vp_v 2 ?_
  refine ⟨_, rfl, ?_⟩
  refine ⟨_, rfl, ?_⟩
  refine vp_powN ?_
  refine vp_int ?_
  refine ⟨_, rfl, ?_⟩
  refine vp_int ?_
  refine ⟨_, rfl, ⟨by decide, by decide, by decide⟩, 100000000000000000, by decide +kernel, ?_⟩
  refine ⟨_, rfl, ?_⟩
  refine ⟨_, rfl, ?_⟩
  refine ⟨_, rfl, ?_⟩
  refine vp_mul ?_
  refine vp_powN ?_
  refine vp_int ?_
  refine ⟨_, rfl, ?_⟩
  refine vp_int ?_
  refine ⟨_, rfl, ⟨by decide, by decide, by decide⟩, 100000000000000000000000000000000000000000000000000000000000, by decide +kernel, ?_⟩
  refine ⟨_, rfl, ?_⟩
  refine vp_powN ?_
  refine vp_int ?_
  refine ⟨_, rfl, ?_⟩
  refine vp_int ?_
  refine ⟨_, rfl, ⟨by decide, by decide, by decide⟩, 1000000000000000000000000000000000000000000000000000000000000, by decide +kernel, ?_⟩
  refine ⟨_, rfl, by walk_at "mul_ok", ?_⟩
  refine ⟨_, rfl, by walk_at "pos_ok", ?_⟩
  refine ⟨_, rfl, ?_⟩
  show WB _ [_, _, _, _] _ _
  refine wb_retL ?_
  refine vl_list ?_
  refine va_cons ?_
  refine vp_v 3 ?_
  refine va_cons ?_
  refine vp_add ?_
  refine vp_add ?_
  refine vp_add ?_
  refine vp_mul ?_
  refine vp_mod ?_
  refine vp_abs m_abs rfl ?_
  refine vp_v 2 ?_
  refine ⟨_, rfl, ?_⟩
  refine ⟨_, rfl, ?_⟩
  refine vp_int ?_
  refine ⟨_, rfl, by walk_at "pos_ok", ?_⟩
  refine ⟨_, rfl, ?_⟩
  refine vp_int ?_
  refine ⟨_, rfl, by walk_at "mul_ok", ?_⟩
  refine ⟨_, rfl, ?_⟩
  refine vp_mul ?_
  refine vp_int ?_
  refine ⟨_, rfl, ?_⟩
  refine vp_v 1 ?_
  refine ⟨_, rfl, by walk_at "mul_ok", ?_⟩
  refine ⟨_, rfl, ?_⟩
  refine ⟨_, rfl, ?_⟩
  refine vp_mul ?_
  refine vp_int ?_
  refine ⟨_, rfl, ?_⟩
  refine vp_int1 m_int rfl ?_
  refine vp_lt ?_
  refine vp_v 2 ?_
  refine ⟨_, rfl, ?_⟩
  refine vp_int ?_
  refine ⟨_, rfl, ?_⟩
  refine .inr ⟨_, rfl, ?_⟩
  refine ⟨_, rfl, by walk_at "mul_ok", ?_⟩
  refine ⟨_, rfl, ?_⟩
  refine ⟨_, rfl, ?_⟩
  refine vp_int ?_
  refine ⟨_, rfl, ?_⟩
  refine va_cons ?_
  refine vp_int ?_
  refine va_nil ?_
  refine ⟨Nat.le_of_ble_eq_true rfl, ?_⟩
  refine hG _ ⟨_, _, _, rfl, Int.emod_nonneg _ (by decide), by walk_at "bdm", ?_, by walk_at "bdm", by omega, by omega⟩
  have := Int.emod_nonneg (if (if decide (s0 < ((ns.map Dt.int).length : Int)) = true then ns.getD s0.toNat 0 else 71 * s0 + 23) < 0 then -(if decide (s0 < ((ns.map Dt.int).length : Int)) = true then ns.getD s0.toNat 0 else 71 * s0 + 23) else (if decide (s0 < ((ns.map Dt.int).length : Int)) = true then ns.getD s0.toNat 0 else 71 * s0 + 23)) (show (1152921504606846883 : Int) ≠ 0 by decide)
  split <;> omega
abbrev s_law_pick : Stmt := top 34
theorem sc_law_pick : FnScope ["_law_dice_here", "_law_items"] ["_law_dice_here", "_law_items"] (defScope s_law_pick) := ⟨rfl, rfl, rfl, by decide +kernel, rfl, by decide +kernel, by decide +kernel⟩
def R_law_pick : List Dt → List Dt → (Dt → List Dt → Prop) → Prop := fun ds as G => ∃ (xs : List Dt) (m : Nat), as = [.list xs] ∧ Dice m ds ∧ 0 < xs.length ∧ xs.length ≤ 100000 ∧ m + 1000 < 2 ^ 60 ∧ ∀ x ∈ xs, ∀ ds, Dice (m + 1) ds → G x ds
theorem ok_law_pick {f : Addr} {fd : FuncData} (F : Fun K "_law_pick" "_law_pick" s_law_pick f fd) (m_len : mg "len" = none) (f_law_roll : Fn P w K mg base "_law_roll" 1 (spO K R_law_roll)) : FnOk P w K mg base CX0 2 f fd ["_law_dice_here", "_law_items"] (spO K R_law_pick) := by
  refine ok_O F sc_law_pick (by decide) (fun ds as G ⟨xs, m, hd, hD, hl, hl2, hm, hG⟩ => by subst hd; rfl) fun cdv A outer s H E hr ds as G ⟨xs, m, hd, hD, hl, hl2, hm, hG⟩ => ?_
  subst hd
  have nd := sc_law_pick.nd
  have hu := hr.units
  refine wb_ret ?_
  refine vp_ix ?_
  refine vp_v 1 ?_
  refine vp_callO 0 f_law_roll hr (by decide) rfl rfl (by first | exact Or.inl rfl | exact Or.inr (Or.inl rfl) | exact Or.inr (Or.inr rfl)) ?_ ⟨_, _, rfl⟩
  refine va_cons ?_
  refine vp_len m_len rfl ?_
  refine vp_v 1 ?_
  refine ⟨_, SeqD.l, ?_⟩
  refine va_nil ?_
  refine ⟨_, _, rfl, ?_⟩
  refine ⟨_, _, rfl, hD, (by omega), (Bd.of (m := 200000) (by omega) (by omega) (by decide)), by omega, fun r ds r0 r1 hD => ?_⟩
  obtain ⟨x, hx, hxm⟩ := at_lt (xs := xs) r0 r1
  exact ⟨_, _, _, SeqD.l, rfl, hx, _, rfl, hG x hxm _ hD⟩
abbrev s_law_lowest : Stmt := top 37
theorem sc_law_lowest : FnScope ["_law_top", "_law_bottom", "_law_shared", "_law_sign"] ["_law_top", "_law_bottom"] (defScope s_law_lowest) := ⟨rfl, rfl, rfl, by decide +kernel, rfl, by decide +kernel, by decide +kernel⟩
def R_law_lowest : List Dt → (Dt → Prop) → Prop := fun ds G => ∃ t b : Int, ds = [.int t, .int b] ∧ ¬(t = 0 ∧ b = 0) ∧ Bd 2000 t ∧ Bd 2000 b ∧ G (.tuple [.int (nrm t b).1, .int (nrm t b).2])
theorem ok_law_lowest {f : Addr} {fd : FuncData} (F : Fun K "_law_lowest" "_law_lowest" s_law_lowest f fd) (f_law_gcd : Fn P w K mg base "_law_gcd" 1 (spR K R_law_gcd)) : FnOk P w K mg base CX0 2 f fd ["_law_top", "_law_bottom"] (spR K R_law_lowest) := by
  refine ok_R F sc_law_lowest (by decide) (fun ds G ⟨t, b, hd, h0, ht, hb, hG⟩ => by subst hd; rfl) fun cdv A outer s H E hr ds G ⟨t, b, hd, h0, ht, hb, hG⟩ => ?_
  subst hd
  have nd := sc_law_lowest.nd
  have hu := hr.units
  have hgp := gcd_pos h0
  have hgb : Bd 2000 (Int.gcd t b : Int) := gcd_bd h0 ht hb
  refine wb_set 2 ?_
  refine vp_call f_law_gcd hr (by decide) rfl ?_
  refine va_cons ?_
  refine vp_v 0 ?_
  refine va_cons ?_
  refine vp_v 1 ?_
  refine va_nil ?_
  refine ⟨_, _, rfl, ?_⟩
  refine ⟨_, rfl, ?_⟩
  show WB _ [_, _, _, _] _ _
  generalize hgg : (Int.gcd t b : Int) = gg at *
  refine wb_set 3 ?_
  apply vp_ifI
  refine vt_w ?_
  refine vw_orP ?_
  refine vt_lt ?_
  refine vp_v 1 ?_
  refine ⟨_, rfl, ?_⟩
  refine vp_int ?_
  refine ⟨_, rfl, ?_⟩
  apply Exists.intro
  refine ⟨fun h => ?_, ?_⟩
  · refine vw_or1 ?_
    refine vt_w ?_
    refine vw_andP ?_
    refine vt_eqD hu ?_
    refine vp_v 1 ?_
    refine vp_int ?_
    refine ⟨by walk_at "shd_ok", by walk_at "shd_ok", ?_⟩
    apply Exists.intro
    refine ⟨fun h => ?_, ?_⟩
    · refine vw_and1 ?_
      refine vt_lt ?_
      refine vp_v 0 ?_
      refine ⟨_, rfl, ?_⟩
      refine vp_int ?_
      refine ⟨_, rfl, ?_⟩
      exact ⟨rfl, rfl⟩
    exact ⟨rfl, rfl⟩
  refine ⟨fun h => ?_, fun h => ?_, ?_⟩
  · refine vp_neg ?_
    refine vp_int ?_
    refine ⟨_, rfl, ?_⟩
    exact ⟨rfl, rfl⟩
  · refine vp_int ?_
    exact ⟨rfl, rfl⟩
  refine ⟨_, rfl, ?_⟩
  show WB _ [_, _, _, _] _ _
  refine wb_ret ?_
  refine vp_tup ?_
  refine va_cons ?_
  refine vp_fdiv ?_
  refine vp_mul ?_
  refine vp_v 3 ?_
  refine ⟨_, rfl, ?_⟩
  refine vp_v 0 ?_
  refine ⟨_, rfl, by walk_at "mul_ok", ?_⟩
  refine ⟨_, rfl, ?_⟩
  refine vp_v 2 ?_
  refine ⟨_, rfl, by walk_at "div_ok", ?_⟩
  refine va_cons ?_
  refine vp_fdiv ?_
  refine vp_mul ?_
  refine vp_v 3 ?_
  refine ⟨_, rfl, ?_⟩
  refine vp_v 1 ?_
  refine ⟨_, rfl, by walk_at "mul_ok", ?_⟩
  refine ⟨_, rfl, ?_⟩
  refine vp_v 2 ?_
  refine ⟨_, rfl, by walk_at "div_ok", ?_⟩
  refine va_nil ?_
  refine ⟨Nat.le_of_ble_eq_true rfl, ?_⟩
  by_cases c : b < 0 ∨ (b = 0 ∧ t < 0)
  · rw [nrm_neg c, hgg] at hG
    rw [if_pos (by simpa [eqD_int] using c)]
    rw [Int.neg_one_mul, Int.neg_one_mul]
    exact hG
  · rw [nrm_pos c, hgg] at hG
    rw [if_neg (by simpa [eqD_int] using c)]
    rw [Int.one_mul, Int.one_mul]
    exact hG
abbrev s_law_matrix_times : Stmt := top 40
theorem sc_law_matrix_times : FnScope ["_law_one", "_law_other", "_law_a", "_law_b", "_law_c", "_law_d", "_law_e", "_law_f", "_law_g", "_law_h"] ["_law_one", "_law_other"] (defScope s_law_matrix_times) := ⟨rfl, rfl, rfl, by decide +kernel, rfl, by decide +kernel, by decide +kernel⟩
def R_law_matrix_times : List Dt → (Dt → Prop) → Prop := fun ds G => ∃ a b c d e f g h : Int, ds = [.tuple [.int a, .int b, .int c, .int d], .tuple [.int e, .int f, .int g, .int h]] ∧ (Bd 490 a ∧ Bd 490 b ∧ Bd 490 c ∧ Bd 490 d) ∧ (Bd 490 e ∧ Bd 490 f ∧ Bd 490 g ∧ Bd 490 h) ∧ G (.tuple [.int (a * e + b * g), .int (a * f + b * h), .int (c * e + d * g), .int (c * f + d * h)])
theorem ok_law_matrix_times {f : Addr} {fd : FuncData} (F : Fun K "_law_matrix_times" "_law_matrix_times" s_law_matrix_times f fd)  : FnOk P w K mg base CX0 1 f fd ["_law_one", "_law_other"] (spR K R_law_matrix_times) := by
  refine ok_R F sc_law_matrix_times (by decide) (fun ds G ⟨a, b, c, d, e, f, g, h, he, ⟨ha, hb, hc, hd⟩, ⟨h1, h2, h3, h4⟩, hG⟩ => by subst he; rfl) fun cdv A outer s H E hr ds G ⟨a, b, c, d, e, f, g, h, he, ⟨ha, hb, hc, hd⟩, ⟨h1, h2, h3, h4⟩, hG⟩ => ?_
  subst he
  have nd := sc_law_matrix_times.nd
  have hu := hr.units
  refine wb_asg (gt_tup rfl (gts_cons (gt_n 2) (gts_cons (gt_n 3) (gts_cons (gt_n 4) (gts_cons (gt_n 5) gts_nil))))) ?_
  refine vp_v 0 ?_
  refine ⟨_, rfl, rfl, _, _, rfl, _, _, rfl, _, _, rfl, _, _, rfl, rfl, ?_⟩
  show WB _ [_, _, _, _, _, _, _, _, _, _] _ _
  refine wb_asg (gt_tup rfl (gts_cons (gt_n 6) (gts_cons (gt_n 7) (gts_cons (gt_n 8) (gts_cons (gt_n 9) gts_nil))))) ?_
  refine vp_v 1 ?_
  refine ⟨_, rfl, rfl, _, _, rfl, _, _, rfl, _, _, rfl, _, _, rfl, rfl, ?_⟩
  show WB _ [_, _, _, _, _, _, _, _, _, _] _ _
  refine wb_ret ?_
  refine vp_tup ?_
  refine va_cons ?_
  refine vp_add ?_
  refine vp_mul ?_
  refine vp_v 2 ?_
  refine ⟨_, rfl, ?_⟩
  refine vp_v 6 ?_
  refine ⟨_, rfl, by walk_at "mul_ok", ?_⟩
  refine ⟨_, rfl, ?_⟩
  refine vp_mul ?_
  refine vp_v 3 ?_
  refine ⟨_, rfl, ?_⟩
  refine vp_v 8 ?_
  refine ⟨_, rfl, by walk_at "mul_ok", ?_⟩
  refine ⟨_, rfl, ?_⟩
  refine va_cons ?_
  refine vp_add ?_
  refine vp_mul ?_
  refine vp_v 2 ?_
  refine ⟨_, rfl, ?_⟩
  refine vp_v 7 ?_
  refine ⟨_, rfl, by walk_at "mul_ok", ?_⟩
  refine ⟨_, rfl, ?_⟩
  refine vp_mul ?_
  refine vp_v 3 ?_
  refine ⟨_, rfl, ?_⟩
  refine vp_v 9 ?_
  refine ⟨_, rfl, by walk_at "mul_ok", ?_⟩
  refine ⟨_, rfl, ?_⟩
  refine va_cons ?_
  refine vp_add ?_
  refine vp_mul ?_
  refine vp_v 4 ?_
  refine ⟨_, rfl, ?_⟩
  refine vp_v 6 ?_
  refine ⟨_, rfl, by walk_at "mul_ok", ?_⟩
  refine ⟨_, rfl, ?_⟩
  refine vp_mul ?_
  refine vp_v 5 ?_
  refine ⟨_, rfl, ?_⟩
  refine vp_v 8 ?_
  refine ⟨_, rfl, by walk_at "mul_ok", ?_⟩
  refine ⟨_, rfl, ?_⟩
  refine va_cons ?_
  refine vp_add ?_
  refine vp_mul ?_
  refine vp_v 4 ?_
  refine ⟨_, rfl, ?_⟩
  refine vp_v 7 ?_
  refine ⟨_, rfl, by walk_at "mul_ok", ?_⟩
  refine ⟨_, rfl, ?_⟩
  refine vp_mul ?_
  refine vp_v 5 ?_
  refine ⟨_, rfl, ?_⟩
  refine vp_v 9 ?_
  refine ⟨_, rfl, by walk_at "mul_ok", ?_⟩
  refine ⟨_, rfl, ?_⟩
  refine va_nil ?_
  refine ⟨Nat.le_of_ble_eq_true rfl, ?_⟩
  exact hG
abbrev s_law_matrix_led : Stmt := top 41
theorem sc_law_matrix_led : FnScope ["_law_matrix", "_law_fraction", "_law_a", "_law_b", "_law_c", "_law_d"] ["_law_matrix", "_law_fraction"] (defScope s_law_matrix_led) := ⟨rfl, rfl, rfl, by decide +kernel, rfl, by decide +kernel, by decide +kernel⟩
def R_law_matrix_led : List Dt → (Dt → Prop) → Prop := fun ds G => ∃ a b c d p q : Int, ds = [.tuple [.int a, .int b, .int c, .int d], .tuple [.int p, .int q]] ∧ (Bd 1000 a ∧ Bd 1000 b ∧ Bd 1000 c ∧ Bd 1000 d) ∧ Bd 70 p ∧ Bd 70 q ∧ ¬(a * p + b * q = 0 ∧ c * p + d * q = 0) ∧ G (.tuple [.int (nrm (a * p + b * q) (c * p + d * q)).1, .int (nrm (a * p + b * q) (c * p + d * q)).2])
theorem ok_law_matrix_led {f : Addr} {fd : FuncData} (F : Fun K "_law_matrix_led" "_law_matrix_led" s_law_matrix_led f fd) (f_law_lowest : Fn P w K mg base "_law_lowest" 2 (spR K R_law_lowest)) : FnOk P w K mg base CX0 3 f fd ["_law_matrix", "_law_fraction"] (spR K R_law_matrix_led) := by
  refine ok_R F sc_law_matrix_led (by decide) (fun ds G ⟨a, b, c, d, p, q, he, ⟨ha, hb, hc, hd⟩, hp, hq, h0, hG⟩ => by subst he; rfl) fun cdv A outer s H E hr ds G ⟨a, b, c, d, p, q, he, ⟨ha, hb, hc, hd⟩, hp, hq, h0, hG⟩ => ?_
  subst he
  have nd := sc_law_matrix_led.nd
  have hu := hr.units
  refine wb_asg (gt_tup rfl (gts_cons (gt_n 2) (gts_cons (gt_n 3) (gts_cons (gt_n 4) (gts_cons (gt_n 5) gts_nil))))) ?_
  refine vp_v 0 ?_
  refine ⟨_, rfl, rfl, _, _, rfl, _, _, rfl, _, _, rfl, _, _, rfl, rfl, ?_⟩
  show WB _ [_, _, _, _, _, _] _ _
  refine wb_ret ?_
  refine vp_call f_law_lowest hr (by decide) rfl ?_
  refine va_cons ?_
  refine vp_add ?_
  refine vp_mul ?_
  refine vp_v 2 ?_
  refine ⟨_, rfl, ?_⟩
  refine vp_ix ?_
  refine vp_v 1 ?_
  refine vp_int ?_
  refine ⟨_, _, _, SeqD.t, rfl, rfl, ?_⟩
  refine ⟨_, rfl, by walk_at "mul_ok", ?_⟩
  refine ⟨_, rfl, ?_⟩
  refine vp_mul ?_
  refine vp_v 3 ?_
  refine ⟨_, rfl, ?_⟩
  refine vp_ix ?_
  refine vp_v 1 ?_
  refine vp_int ?_
  refine ⟨_, _, _, SeqD.t, rfl, rfl, ?_⟩
  refine ⟨_, rfl, by walk_at "mul_ok", ?_⟩
  refine ⟨_, rfl, ?_⟩
  refine va_cons ?_
  refine vp_add ?_
  refine vp_mul ?_
  refine vp_v 4 ?_
  refine ⟨_, rfl, ?_⟩
  refine vp_ix ?_
  refine vp_v 1 ?_
  refine vp_int ?_
  refine ⟨_, _, _, SeqD.t, rfl, rfl, ?_⟩
  refine ⟨_, rfl, by walk_at "mul_ok", ?_⟩
  refine ⟨_, rfl, ?_⟩
  refine vp_mul ?_
  refine vp_v 5 ?_
  refine ⟨_, rfl, ?_⟩
  refine vp_ix ?_
  refine vp_v 1 ?_
  refine vp_int ?_
  refine ⟨_, _, _, SeqD.t, rfl, rfl, ?_⟩
  refine ⟨_, rfl, by walk_at "mul_ok", ?_⟩
  refine ⟨_, rfl, ?_⟩
  refine va_nil ?_
  refine ⟨_, _, rfl, h0, ((ha.mul hp).add (hb.mul hq)).mono (by decide), ((hc.mul hp).add (hd.mul hq)).mono (by decide), ?_⟩
  exact hG
end
end Pf

set_option Elab.async false
set_option linter.all false
set_option maxRecDepth 100000
set_option maxHeartbeats 4000000
namespace Pf
open PySem PySem.Spec PyProof.Rows L2 Lv
local macro_rules | `(tactic| walk_at "bd") => `(tactic| repeat (first | assumption | exact Bd.lit 12 (by decide +kernel) | exact Bd.lit 80 (by decide +kernel) | exact Bd.lit 500 (by decide +kernel) | apply Bd.mul | apply Bd.add | apply Bd.sub | apply Bd.neg | apply Bd.mod | apply Bd.div | apply Bd.ite | decide | omega))
local macro_rules | `(tactic| walk_at "mul_ok") => `(tactic| (apply Bd.cmul; (focus walk_at "bd"); (focus walk_at "bd"); decide))
local macro_rules | `(tactic| walk_at "bdm") => `(tactic| (apply Bd.mono; (focus walk_at "bd"); decide))
local macro_rules | `(tactic| walk_at "pos_ok") => `(tactic| first | assumption | decide | omega)
local macro_rules | `(tactic| walk_at "div_ok") => `(tactic| (apply Bd.cdiv; (focus walk_at "pos_ok"); (focus walk_at "bd"); decide; decide))
local macro_rules | `(tactic| walk_at "divv_ok") => `(tactic| (apply Bd.cdivV; (focus (first | assumption | omega)); (focus walk_at "bd"); decide; decide))
local macro_rules | `(tactic| walk_at "shd_ok") => `(tactic| exact ⟨rfl, rfl⟩)
local macro_rules | `(tactic| walk_at "notO_ok") => `(tactic| first | assumption | rfl)
section
variable {P : Program} {w : World} {K : PySem.W.Frag} {mg : Str → Option Value} {base : Heap}

def bzV (q : Int) : Dt → Dt
  | .tuple [.int u, .int v] => .int (u - q * v)
  | _ => .none
abbrev s_law_bezout : Stmt := top 42
theorem sc_law_bezout : FnScope ["_law_one", "_law_other", "_law_here", "_law_there", "_law_left", "_law_right_here", "_law_turn", "_law_part", "_law_a", "_law_b"] ["_law_one", "_law_other"] (defScope s_law_bezout) := ⟨rfl, rfl, rfl, by decide +kernel, rfl, by decide +kernel, by decide +kernel⟩
def R_law_bezout : List Dt → (Dt → Prop) → Prop := fun ds G => ∃ o1 o2 : Int, ds = [.int o1, .int o2] ∧ Bd 160 o1 ∧ Bd 160 o2 ∧ ∀ x y : Int, Bd 400 x → Bd 400 y → (Int.gcd o1 o2 = 1 → x * o1 + y * o2 = 1 ∧ (x.natAbs : Int) ≤ o2.natAbs + 1 ∧ (y.natAbs : Int) ≤ o1.natAbs + 2 * o2.natAbs + 1) → G (.tuple [.int x, .int y])
theorem ok_law_bezout {f : Addr} {fd : FuncData} (F : Fun K "_law_bezout" "_law_bezout" s_law_bezout f fd) (m_range : mg "range" = none) (m_zip : mg "zip" = none) (m_tuple : mg "tuple" = none) : FnOk P w K mg base CX0 1 f fd ["_law_one", "_law_other"] (spR K R_law_bezout) := by
  refine ok_R F sc_law_bezout (by decide) (fun ds G ⟨o1, o2, hd, h1, h2, hG⟩ => by subst hd; rfl) fun cdv A outer s H E hr ds G ⟨o1, o2, hd, h1, h2, hG⟩ => ?_
  subst hd
  have nd := sc_law_bezout.nd
  have hu := hr.units
  refine wb_asg (gt_tup rfl (gts_cons (gt_n 2) (gts_cons (gt_n 3) (gts_cons (gt_n 4) (gts_cons (gt_n 5) gts_nil))))) ?_
  refine vp_tup ?_
  refine va_cons ?_
  refine vp_tup ?_
  refine va_cons ?_
  refine vp_v 0 ?_
  refine va_cons ?_
  refine vp_int ?_
  refine va_cons ?_
  refine vp_int ?_
  refine va_nil ?_
  refine ⟨Nat.le_of_ble_eq_true rfl, ?_⟩
  refine va_cons ?_
  refine vp_tup ?_
  refine va_cons ?_
  refine vp_v 1 ?_
  refine va_cons ?_
  refine vp_int ?_
  refine va_cons ?_
  refine vp_int ?_
  refine va_nil ?_
  refine ⟨Nat.le_of_ble_eq_true rfl, ?_⟩
  refine va_cons ?_
  refine vp_int ?_
  refine va_cons ?_
  refine vp_int ?_
  refine va_nil ?_
  refine ⟨Nat.le_of_ble_eq_true rfl, ?_⟩
  refine ⟨_, rfl, rfl, _, _, rfl, _, _, rfl, _, _, rfl, _, _, rfl, rfl, ?_⟩
  show WB _ [_, _, _, _, _, _, _, _, _, _] _ _
  refine wb_cons (ws_forR1 PassesOwn.never rfl m_range rfl (gt_n 6) ?_)
  refine vp_int ?_
  refine ⟨_, rfl, by decide, by decide, fun i es => ∃ (r0 s0 t0 r1 s1 t1 : Int) (x1 x2 x3 x4 : Sl), es = [.fz (.int o1), .fz (.int o2), .fz (.tuple [.int r0, .int s0, .int t0]), .fz (.tuple [.int r1, .int s1, .int t1]), .fz (.int 0), .fz (.int 0), x1, x2, x3, x4] ∧ (x3 = .no ∧ x4 = .no) ∧ ((Bz o1 o2 i r0 s0 t0 r1 s1 t1)), ⟨_, _, _, _, _, _, _, _, _, _, rfl, ⟨rfl, rfl⟩, Bz.start o1 o2⟩, fun i es hi ⟨r0, s0, t0, r1, s1, t1, x1, x2, x3, x4, he, ⟨n3, n4⟩, I⟩ => ?_, fun es ⟨r0, s0, t0, r1, s1, t1, x1, x2, x3, x4, he, ⟨n3, n4⟩, I⟩ => ?_⟩
  · subst he n3 n4
    show WB _ [_, _, _, _, _, _, _, _, _, _] _ _
    refine wb_ifR ?_
    refine vt_eqD hu ?_
    refine vp_ix ?_
    refine vp_v 3 ?_
    refine vp_int ?_
    refine ⟨_, _, _, SeqD.t, rfl, rfl, ?_⟩
    refine vp_int ?_
    refine ⟨by walk_at "shd_ok", by walk_at "shd_ok", ?_⟩
    refine ⟨fun h => ?_, fun h => ?_⟩
    · have hz : r1 = 0 := by rw [eqD_int] at h; exact of_decide_eq_true h
      subst hz
      refine wb_cons (ws_break ?_)
      obtain ⟨br, bs, bt⟩ := I.bdr h1 h2
      show WB _ [_, _, _, _, _, _, _, _, _, _] _ _
      refine wb_par 4 5 ?_
      refine va_cons ?_
      refine vp_mul ?_
      refine vp_ix ?_
      refine vp_v 2 ?_
      refine vp_int ?_
      refine ⟨_, _, _, SeqD.t, rfl, rfl, ?_⟩
      refine ⟨_, rfl, ?_⟩
      refine vp_ix ?_
      refine vp_v 2 ?_
      refine vp_int ?_
      refine ⟨_, _, _, SeqD.t, rfl, rfl, ?_⟩
      refine ⟨_, rfl, by walk_at "mul_ok", ?_⟩
      refine va_cons ?_
      refine vp_mul ?_
      refine vp_ix ?_
      refine vp_v 2 ?_
      refine vp_int ?_
      refine ⟨_, _, _, SeqD.t, rfl, rfl, ?_⟩
      refine ⟨_, rfl, ?_⟩
      refine vp_ix ?_
      refine vp_v 2 ?_
      refine vp_int ?_
      refine ⟨_, _, _, SeqD.t, rfl, rfl, ?_⟩
      refine ⟨_, rfl, by walk_at "mul_ok", ?_⟩
      refine va_nil ?_
      refine ⟨_, _, rfl, _, rfl, ?_⟩
      show WB _ [_, _, _, _, _, _, _, _, _, _] _ _
      refine wb_ret ?_
      refine vp_tup ?_
      refine va_cons ?_
      refine vp_v 4 ?_
      refine va_cons ?_
      refine vp_v 5 ?_
      refine va_nil ?_
      refine ⟨Nat.le_of_ble_eq_true rfl, ?_⟩
      refine hG _ _ ((bs.mul br).mono (by decide)) ((bt.mul br).mono (by decide)) fun hg => ?_
      obtain ⟨d1, d2, d3⟩ := I.done hg
      have := I.bs0
      have := I.bt0
      exact ⟨d1, by omega, by omega⟩
    have hz : r1 ≠ 0 := by rw [eqD_int] at h; exact of_decide_eq_false h
    obtain ⟨⟨b1, b2, b3⟩, b4, b5, b6⟩ := I.bds h1 h2 hz
    have J := I.step hz
    have bq := fdiv_bd hz b1 b4
    refine wb_set 7 ?_
    refine vp_fdivV ?_
    refine vp_ix ?_
    refine vp_v 2 ?_
    refine vp_int ?_
    refine ⟨_, _, _, SeqD.t, rfl, rfl, ?_⟩
    refine ⟨_, rfl, ?_⟩
    refine vp_ix ?_
    refine vp_v 3 ?_
    refine vp_int ?_
    refine ⟨_, _, _, SeqD.t, rfl, rfl, ?_⟩
    refine ⟨_, rfl, by walk_at "divv_ok", ?_⟩
    refine ⟨_, rfl, ?_⟩
    show WB _ [_, _, _, _, _, _, _, _, _, _] _ _
    generalize r0.fdiv r1 = qq at *
    refine wb_par 2 3 ?_
    refine va_cons ?_
    refine vp_v 3 ?_
    refine va_cons ?_
    refine vp_tuple m_tuple rfl ?_
    refine vp_lcZ [("_law_a", 8), ("_law_b", 9)] rfl nd m_zip rfl (blkOk_by rfl) (gtk_tup (n := 2) rfl (gtks_cons (gtk_name 8 (by decide) (fun _ _ _ _ _ => pg_name nd rfl (by first | exact .inl rfl | exact .inr rfl))) (gtks_cons (gtk_name 9 (by decide) (fun _ _ _ _ _ => pg_name nd rfl (by first | exact .inl rfl | exact .inr rfl))) gtks_nil))) ?_
    refine vp_v 2 ?_
    refine vp_v 3 ?_
    refine ⟨_, _, rfl, rfl, rfl, comp_map (fun _ => true) (bzV qq) (noOw2 rfl rfl) (Nat.le_of_ble_eq_true rfl) (fun x hx => ?_) (fun x es N N' ⟨ds, h1, h2, d1, r, h3, d2, r2, h4, h5, h6⟩ hN => ⟨ds, h1, h2, d1, r, h3, d2, r2, h4, h5, hN _ h6⟩) ?_⟩
    · obtain ⟨u, v, rfl, bv⟩ : ∃ u v : Int, x = .tuple [.int u, .int v] ∧ Bd 330 v := by
        have hx : x ∈ [Dt.tuple [.int r0, .int r1], Dt.tuple [.int s0, .int s1], Dt.tuple [.int t0, .int t1]] := hx
        simp only [List.mem_cons, List.not_mem_nil, or_false] at hx
        rcases hx with h | h | h
        · exact ⟨_, _, h, b4⟩
        · exact ⟨_, _, h, b5⟩
        · exact ⟨_, _, h, b6⟩
      refine ⟨_, rfl, rfl, _, _, rfl, _, _, rfl, rfl, fun s0 H0 C0 cl0 fp0 => vts_nil ⟨rfl, rfl, fun _ s1 H1 C1 cl1 fp1 => ?_⟩⟩
      refine vp_sub ?_
      refine vp_v 8 ?_
      refine ⟨_, rfl, ?_⟩
      refine vp_mul ?_
      refine vp_v 7 ?_
      refine ⟨_, rfl, ?_⟩
      refine vp_v 9 ?_
      refine ⟨_, rfl, by walk_at "mul_ok", ?_⟩
      refine ⟨_, rfl, ?_⟩
      exact ⟨rfl, rfl⟩
    refine ⟨_, SeqD.l, ?_⟩
    refine va_nil ?_
    refine ⟨_, _, rfl, _, rfl, ?_⟩
    exact wb_nil ⟨_, _, _, _, _, _, _, _, _, _, rfl, ⟨rfl, rfl⟩, J⟩
  · subst he n3 n4
    have hz : r1 = 0 := I.fin (by decide) (by
      have := bd_nat h2
      have y3 : (o2.natAbs : Int) * o2.natAbs ≤ 2 ^ 160 * 2 ^ 160 := Int.mul_le_mul (by omega) (by omega) (by omega) (by omega)
      have e : (2 : Int) ^ 160 * 2 ^ 160 < 2 ^ ((400 : Int).toNat - 1) := by decide +kernel
      omega)
    subst hz
    obtain ⟨br, bs, bt⟩ := I.bdr h1 h2
    show WB _ [_, _, _, _, _, _, _, _, _, _] _ _
    refine wb_par 4 5 ?_
    refine va_cons ?_
    refine vp_mul ?_
    refine vp_ix ?_
    refine vp_v 2 ?_
    refine vp_int ?_
    refine ⟨_, _, _, SeqD.t, rfl, rfl, ?_⟩
    refine ⟨_, rfl, ?_⟩
    refine vp_ix ?_
    refine vp_v 2 ?_
    refine vp_int ?_
    refine ⟨_, _, _, SeqD.t, rfl, rfl, ?_⟩
    refine ⟨_, rfl, by walk_at "mul_ok", ?_⟩
    refine va_cons ?_
    refine vp_mul ?_
    refine vp_ix ?_
    refine vp_v 2 ?_
    refine vp_int ?_
    refine ⟨_, _, _, SeqD.t, rfl, rfl, ?_⟩
    refine ⟨_, rfl, ?_⟩
    refine vp_ix ?_
    refine vp_v 2 ?_
    refine vp_int ?_
    refine ⟨_, _, _, SeqD.t, rfl, rfl, ?_⟩
    refine ⟨_, rfl, by walk_at "mul_ok", ?_⟩
    refine va_nil ?_
    refine ⟨_, _, rfl, _, rfl, ?_⟩
    show WB _ [_, _, _, _, _, _, _, _, _, _] _ _
    refine wb_ret ?_
    refine vp_tup ?_
    refine va_cons ?_
    refine vp_v 4 ?_
    refine va_cons ?_
    refine vp_v 5 ?_
    refine va_nil ?_
    refine ⟨Nat.le_of_ble_eq_true rfl, ?_⟩
    refine hG _ _ ((bs.mul br).mono (by decide)) ((bt.mul br).mono (by decide)) fun hg => ?_
    obtain ⟨d1, d2, d3⟩ := I.done hg
    have := I.bs0
    have := I.bt0
    exact ⟨d1, by omega, by omega⟩
end
end Pf

set_option Elab.async false
set_option linter.all false
set_option maxRecDepth 100000
set_option maxHeartbeats 4000000
namespace Pf
open PySem PySem.Spec PyProof.Rows L2 Lv
local macro_rules | `(tactic| walk_at "bd") => `(tactic| repeat (first | assumption | exact Bd.lit 12 (by decide +kernel) | exact Bd.lit 80 (by decide +kernel) | exact Bd.lit 500 (by decide +kernel) | apply Bd.mul | apply Bd.add | apply Bd.sub | apply Bd.neg | apply Bd.mod | apply Bd.div | apply Bd.ite | decide | omega))
local macro_rules | `(tactic| walk_at "mul_ok") => `(tactic| (apply Bd.cmul; (focus walk_at "bd"); (focus walk_at "bd"); decide))
local macro_rules | `(tactic| walk_at "bdm") => `(tactic| (apply Bd.mono; (focus walk_at "bd"); decide))
local macro_rules | `(tactic| walk_at "pos_ok") => `(tactic| first | assumption | decide | omega)
local macro_rules | `(tactic| walk_at "div_ok") => `(tactic| (apply Bd.cdiv; (focus walk_at "pos_ok"); (focus walk_at "bd"); decide; decide))
local macro_rules | `(tactic| walk_at "divv_ok") => `(tactic| (apply Bd.cdivV; (focus (first | assumption | omega)); (focus walk_at "bd"); decide; decide))
local macro_rules | `(tactic| walk_at "shd_ok") => `(tactic| exact ⟨rfl, rfl⟩)
local macro_rules | `(tactic| walk_at "notO_ok") => `(tactic| first | assumption | rfl)
section
variable {P : Program} {w : World} {K : PySem.W.Frag} {mg : Str → Option Value} {base : Heap}

def leI (most : Int) : Dt → Bool
  | .int i => decide (i ≤ most)
  | _ => false
abbrev s_law_level_drawn : Stmt := top 36
theorem sc_law_level_drawn : FnScope ["_law_dice_here", "_law_most", "_law_some", "_law_one"] ["_law_dice_here", "_law_most"] (defScope s_law_level_drawn) := ⟨rfl, rfl, rfl, by decide +kernel, rfl, by decide +kernel, by decide +kernel⟩
def R_law_level_drawn : List Dt → List Dt → (Dt → List Dt → Prop) → Prop := fun ds as G => ∃ (most : Int) (m : Nat), as = [.int most] ∧ Dice m ds ∧ 1 ≤ most ∧ most ≤ 100 ∧ m + 2000 < 2 ^ 60 ∧ ∀ (N : Int) (ds : List Dt), 1 ≤ N → N ≤ most → Dice (m + 2) ds → G (.int N) ds
theorem ok_law_level_drawn {f : Addr} {fd : FuncData} (F : Fun K "_law_level_drawn" "_law_level_drawn" s_law_level_drawn f fd) (f_law_roll : Fn P w K mg base "_law_roll" 1 (spO K R_law_roll)) (f_law_pick : Fn P w K mg base "_law_pick" 2 (spO K R_law_pick)) : FnOk P w K mg base CX0 3 f fd ["_law_dice_here", "_law_most"] (spO K R_law_level_drawn) := by
  refine ok_O F sc_law_level_drawn (by decide) (fun ds as G ⟨most, m, hd, hD, hm1, hm2, hm, hG⟩ => by subst hd; rfl) fun cdv A outer s H E hr ds as G ⟨most, m, hd, hD, hm1, hm2, hm, hG⟩ => ?_
  subst hd
  have nd := sc_law_level_drawn.nd
  have hu := hr.units
  refine wb_set 2 ?_
  refine vp_list ?_
  refine va_cons ?_
  refine vp_int ?_
  refine va_cons ?_
  refine vp_int ?_
  refine va_cons ?_
  refine vp_int ?_
  refine va_cons ?_
  refine vp_int ?_
  refine va_cons ?_
  refine vp_int ?_
  refine va_cons ?_
  refine vp_int ?_
  refine va_cons ?_
  refine vp_int ?_
  refine va_cons ?_
  refine vp_int ?_
  refine va_cons ?_
  refine vp_int ?_
  refine va_cons ?_
  refine vp_int ?_
  refine va_cons ?_
  refine vp_int ?_
  refine va_cons ?_
  refine vp_int ?_
  refine va_cons ?_
  refine vp_int ?_
  refine va_cons ?_
  refine vp_int ?_
  refine va_cons ?_
  refine vp_int ?_
  refine va_cons ?_
  refine vp_int ?_
  refine va_cons ?_
  refine vp_int ?_
  refine va_cons ?_
  refine vp_int ?_
  refine va_cons ?_
  refine vp_add ?_
  refine vp_int ?_
  refine ⟨_, rfl, ?_⟩
  refine vp_callO 0 f_law_roll hr (by decide) rfl rfl (by first | exact Or.inl rfl | exact Or.inr (Or.inl rfl) | exact Or.inr (Or.inr rfl)) ?_ ⟨_, _, rfl⟩
  refine va_cons ?_
  refine vp_v 1 ?_
  refine va_nil ?_
  refine ⟨_, _, rfl, ?_⟩
  refine ⟨_, _, rfl, hD, (by omega), (Bd.of (m := 2000) (by omega) (by omega) (by decide)), by omega, fun r1 ds a1 b1 hD => ?_⟩
  refine ⟨_, rfl, ?_⟩
  refine va_nil ?_
  refine ⟨Nat.le_of_ble_eq_true rfl, ?_⟩
  refine ⟨_, rfl, ?_⟩
  show WB _ [_, _, _, _] _ _
  have hall : ∀ x ∈ [Dt.int 1, Dt.int 2, Dt.int 5, Dt.int 11, Dt.int 11, Dt.int 14, Dt.int 15, Dt.int 17, Dt.int 20, Dt.int 22, Dt.int 23, Dt.int 24, Dt.int 26, Dt.int 27, Dt.int 30, Dt.int 33, Dt.int 36, Dt.int 37, Dt.int (1 + r1)], ∃ i : Int, x = .int i ∧ 1 ≤ i := by
    intro x hx
    simp only [List.mem_cons, List.not_mem_nil, or_false] at hx
    rcases hx with h | h | h | h | h | h | h | h | h | h | h | h | h | h | h | h | h | h | h <;> exact ⟨_, h, by omega⟩
  refine wb_ret ?_
  refine vp_callO 0 f_law_pick hr (by decide) rfl rfl (by first | exact Or.inl rfl | exact Or.inr (Or.inl rfl) | exact Or.inr (Or.inr rfl)) ?_ ⟨_, _, rfl⟩
  refine va_cons ?_
  refine vp_lcL [("_law_one", 3)] rfl nd (blkOk_by rfl) (gtk_name 3 (by decide) (fun _ _ _ _ _ => pg_name nd rfl (by first | exact .inl rfl | exact .inr rfl))) ?_
  refine vp_v 2 ?_
  refine ⟨_, rfl, comp_map (leI most) (fun x => x) (noOw1 rfl) (Nat.le_of_ble_eq_true rfl) (fun x hx => ?_) (fun x es N N' h hN => hN _ h) ?_⟩
  · refine fun s0 H0 C0 cl0 fp0 => vts_one ?_
    obtain ⟨i, rfl, hi⟩ := hall x hx
    refine vt_le ?_
    refine vp_v 3 ?_
    refine ⟨_, rfl, ?_⟩
    refine vp_v 1 ?_
    refine ⟨_, rfl, ?_⟩
    refine ⟨rfl, rfl, fun hb s1 H1 C1 cl1 fp1 => ?_⟩
    refine vp_v 3 ?_
    exact ⟨rfl, rfl⟩
  refine va_nil ?_
  refine ⟨_, _, rfl, ?_⟩
  refine ⟨_, _, rfl, hD, filt_pos (x := .int 1) (by simp) (decide_eq_true hm1), filt_len (Nat.le_of_ble_eq_true rfl), by omega, fun x hxm ds hD => ?_⟩
  obtain ⟨f1, f2⟩ := filt_in hxm
  obtain ⟨i, rfl, hi⟩ := hall x f1
  exact ⟨_, rfl, hG i _ hi (of_decide_eq_true f2) hD⟩
abbrev s_law_fraction_drawn : Stmt := top 38
theorem sc_law_fraction_drawn : FnScope ["_law_dice_here", "_law_most"] ["_law_dice_here", "_law_most"] (defScope s_law_fraction_drawn) := ⟨rfl, rfl, rfl, by decide +kernel, rfl, by decide +kernel, by decide +kernel⟩
def R_law_fraction_drawn : List Dt → List Dt → (Dt → List Dt → Prop) → Prop := fun ds as G => ∃ (most : Int) (m : Nat), as = [.int most] ∧ Dice m ds ∧ 1 ≤ most ∧ most ≤ 100 ∧ m + 2000 < 2 ^ 60 ∧ ∀ (p q : Int) (ds : List Dt), OkFr p q → p.natAbs ≤ 100 → q.natAbs ≤ 100 → Dice (m + 3) ds → G (.tuple [.int p, .int q]) ds
theorem ok_law_fraction_drawn {f : Addr} {fd : FuncData} (F : Fun K "_law_fraction_drawn" "_law_fraction_drawn" s_law_fraction_drawn f fd) (f_law_roll : Fn P w K mg base "_law_roll" 1 (spO K R_law_roll)) (f_law_lowest : Fn P w K mg base "_law_lowest" 2 (spR K R_law_lowest)) : FnOk P w K mg base CX0 3 f fd ["_law_dice_here", "_law_most"] (spO K R_law_fraction_drawn) := by
  refine ok_O F sc_law_fraction_drawn (by decide) (fun ds as G ⟨most, m, hd, hD, hm1, hm2, hm, hG⟩ => by subst hd; rfl) fun cdv A outer s H E hr ds as G ⟨most, m, hd, hD, hm1, hm2, hm, hG⟩ => ?_
  subst hd
  have nd := sc_law_fraction_drawn.nd
  have hu := hr.units
  have bm : Bd 60 most := Bd.of (m := 101) (by omega) (by omega) (by decide)
  refine wb_ifR ?_
  refine vt_eqD hu ?_
  refine vp_callO 0 f_law_roll hr (by decide) rfl rfl (by first | exact Or.inl rfl | exact Or.inr (Or.inl rfl) | exact Or.inr (Or.inr rfl)) ?_ ⟨_, _, rfl⟩
  refine va_cons ?_
  refine vp_int ?_
  refine va_nil ?_
  refine ⟨_, _, rfl, ?_⟩
  refine ⟨_, _, rfl, hD, (by omega), (Bd.of (m := 2000) (by omega) (by omega) (by decide)), by omega, fun r1 ds a1 b1 hD => ?_⟩
  refine vp_int ?_
  refine ⟨by walk_at "shd_ok", by walk_at "shd_ok", ?_⟩
  refine ⟨fun h => ?_, fun h => ?_⟩
  · refine wb_ret ?_
    refine vp_tup ?_
    refine va_cons ?_
    refine vp_int ?_
    refine va_cons ?_
    refine vp_int ?_
    refine va_nil ?_
    refine ⟨Nat.le_of_ble_eq_true rfl, ?_⟩
    exact ⟨_, rfl, hG 1 0 _ ⟨⟨by decide, by decide, fun _ => rfl⟩, by decide, by decide, by decide⟩ (by decide) (by decide) (hD.up (by omega))⟩
  refine wb_ret ?_
  refine vp_call f_law_lowest hr (by decide) rfl ?_
  refine va_cons ?_
  refine vp_sub ?_
  refine vp_callO 0 f_law_roll hr (by decide) rfl rfl (by first | exact Or.inl rfl | exact Or.inr (Or.inl rfl) | exact Or.inr (Or.inr rfl)) ?_ ⟨_, _, rfl⟩
  refine va_cons ?_
  refine vp_add ?_
  refine vp_mul ?_
  refine vp_int ?_
  refine ⟨_, rfl, ?_⟩
  refine vp_v 1 ?_
  refine ⟨_, rfl, by walk_at "mul_ok", ?_⟩
  refine ⟨_, rfl, ?_⟩
  refine vp_int ?_
  refine ⟨_, rfl, ?_⟩
  refine va_nil ?_
  refine ⟨_, _, rfl, ?_⟩
  refine ⟨_, _, rfl, hD, (by omega), (Bd.of (m := 2000) (by omega) (by omega) (by decide)), by omega, fun r2 ds a2 b2 hD => ?_⟩
  refine ⟨_, rfl, ?_⟩
  refine vp_v 1 ?_
  refine ⟨_, rfl, ?_⟩
  refine va_cons ?_
  refine vp_add ?_
  refine vp_int ?_
  refine ⟨_, rfl, ?_⟩
  refine vp_callO 0 f_law_roll hr (by decide) rfl rfl (by first | exact Or.inl rfl | exact Or.inr (Or.inl rfl) | exact Or.inr (Or.inr rfl)) ?_ ⟨_, _, rfl⟩
  refine va_cons ?_
  refine vp_v 1 ?_
  refine va_nil ?_
  refine ⟨_, _, rfl, ?_⟩
  refine ⟨_, _, rfl, hD, (by omega), (Bd.of (m := 2000) (by omega) (by omega) (by decide)), by omega, fun r3 ds a3 b3 hD => ?_⟩
  refine ⟨_, rfl, ?_⟩
  refine va_nil ?_
  refine ⟨_, _, rfl, (by omega), (Bd.of (m := 2000) (by omega) (by omega) (by decide)), (Bd.of (m := 2000) (by omega) (by omega) (by decide)), ?_⟩
  have z : ¬(r2 - most = 0 ∧ 1 + r3 = 0) := by omega
  obtain ⟨e, _, _, _, F⟩ := nrm_fr z
  obtain ⟨s1, s2⟩ := nrm_sz z
  generalize (nrm (r2 - most) (1 + r3)).1 = p at *
  generalize (nrm (r2 - most) (1 + r3)).2 = q at *
  exact ⟨_, rfl, hG p q _ ⟨F, by omega, by omega, by omega⟩ (by omega) (by omega) (hD.up (by omega))⟩
abbrev s_law_rim_told : Stmt := top 39
theorem sc_law_rim_told : FnScope ["_law_level", "_law_top", "_law_bottom", "_law_share", "_law_shared", "_law_least"] ["_law_level", "_law_top", "_law_bottom"] (defScope s_law_rim_told) := ⟨rfl, rfl, rfl, by decide +kernel, rfl, by decide +kernel, by decide +kernel⟩
def R_law_rim_told : List Dt → (Dt → Prop) → Prop := fun ds G => ∃ N p q t : Int, ds = [.int N, .int p, .int q] ∧ 1 ≤ N ∧ N ≤ 100 ∧ OkFr p q ∧ Rim N p q t ∧ t ≤ rimG N q * rimM N q ∧ G (.tuple [.int t, .int (rimG N q)])
theorem ok_law_rim_told {f : Addr} {fd : FuncData} (F : Fun K "_law_rim_told" "_law_rim_told" s_law_rim_told f fd) (m_range : mg "range" = none) (f_law_gcd : Fn P w K mg base "_law_gcd" 1 (spR K R_law_gcd)) : FnOk P w K mg base CX0 2 f fd ["_law_level", "_law_top", "_law_bottom"] (spR K R_law_rim_told) := by
  refine ok_R F sc_law_rim_told (by decide) (fun ds G ⟨N, p, q, t, he, hN1, hN2, hF, L, tl, hG⟩ => by subst he; rfl) fun cdv A outer s H E hr ds G ⟨N, p, q, t, he, hN1, hN2, hF, L, tl, hG⟩ => ?_
  subst he
  have nd := sc_law_rim_told.nd
  have hu := hr.units
  have gp : (0 : Int) < (Int.gcd q N : Nat) := rimG_pos q hN1
  have gl : ((Int.gcd q N : Nat) : Int) ≤ N := rimG_le q hN1
  have bN : Bd 70 N := Bd.of (m := 101) (by omega) (by omega) (by decide)
  have bg : Bd 70 ((Int.gcd q N : Nat) : Int) := Bd.of (m := 101) (by omega) (by omega) (by decide)
  have bp := hF.bp
  have bq := hF.bq
  have bd : Bd 70 (q / ((Int.gcd q N : Nat) : Int)) := bq.div gp
  refine wb_set 3 ?_
  refine vp_call f_law_gcd hr (by decide) rfl ?_
  refine va_cons ?_
  refine vp_v 2 ?_
  refine va_cons ?_
  refine vp_v 0 ?_
  refine va_nil ?_
  refine ⟨_, _, rfl, ?_⟩
  refine ⟨_, rfl, ?_⟩
  show WB _ [_, _, _, _, _, _] _ _
  refine wb_set 4 ?_
  refine vp_call f_law_gcd hr (by decide) rfl ?_
  refine va_cons ?_
  refine vp_v 3 ?_
  refine va_cons ?_
  refine vp_fdiv ?_
  refine vp_v 0 ?_
  refine ⟨_, rfl, ?_⟩
  refine vp_v 3 ?_
  refine ⟨_, rfl, by walk_at "div_ok", ?_⟩
  refine va_nil ?_
  refine ⟨_, _, rfl, ?_⟩
  refine ⟨_, rfl, ?_⟩
  show WB _ [_, _, _, _, _, _] _ _
  have mp := rimM_pos q hN1
  have ml : rimM N q ≤ rimG N q := Int.le_of_dvd (rimG_pos q hN1) (gcd_dvd1 _ _)
  obtain ⟨L0, L1, L2, L3⟩ := id L
  have eG : ((Int.gcd q N : Nat) : Int) = rimG N q := rfl
  have eM : ((Int.gcd (rimG N q) (N / rimG N q) : Nat) : Int) = rimM N q := rfl
  have eL : p * (q / rimG N q) = rimL N p q := rfl
  rw [eG] at gp gl bg bd ⊢
  rw [eM]
  have bm : Bd 70 (rimM N q) := Bd.of (m := 101) (by omega) (by omega) (by decide)
  have hgm : rimG N q * rimM N q ≤ 100 * 100 := Int.mul_le_mul (by omega) (by omega) (by omega) (by omega)
  have hgm0 : 0 ≤ rimG N q * rimM N q := Int.mul_nonneg (by omega) (by omega)
  refine wb_cons (ws_forR1 PassesOwn.never rfl m_range rfl (gt_n 5) ?_)
  refine vp_add ?_
  refine vp_mul ?_
  refine vp_v 3 ?_
  refine ⟨_, rfl, ?_⟩
  refine vp_v 4 ?_
  refine ⟨_, rfl, by walk_at "mul_ok", ?_⟩
  refine ⟨_, rfl, ?_⟩
  refine vp_int ?_
  refine ⟨_, rfl, ?_⟩
  refine ⟨_, rfl, by omega, by omega, fun i es => ∃ x1 : Sl, es = [.fz (.int N), .fz (.int p), .fz (.int q), .fz (.int (rimG N q)), .fz (.int (rimM N q)), x1] ∧ (i : Int) ≤ t, ⟨_, rfl, by omega⟩, fun i es hi ⟨x1, he, hit⟩ => ?_, fun es ⟨x1, he, hit⟩ => by omega⟩
  subst he
  have bi : Bd 70 ((0 : Int) + (i : Int)) := Bd.of (m := 20000) (by omega) (by omega) (by decide)
  have zi : (0 : Int) + (i : Int) = i := by omega
  rw [zi] at bi ⊢
  show WB _ [_, _, _, _, _, _] _ _
  refine wb_ifR ?_
  refine vt_w ?_
  refine vw_andP ?_
  refine vt_eqD hu ?_
  refine vp_call f_law_gcd hr (by decide) rfl ?_
  refine va_cons ?_
  refine vp_v 5 ?_
  refine va_cons ?_
  refine vp_v 3 ?_
  refine va_nil ?_
  refine ⟨_, _, rfl, ?_⟩
  refine vp_int ?_
  refine ⟨by walk_at "shd_ok", by walk_at "shd_ok", ?_⟩
  apply Exists.intro
  refine ⟨fun h => ?_, ?_⟩
  · refine vw_and1 ?_
    refine vt_eqD hu ?_
    refine vp_mod ?_
    refine vp_sub ?_
    refine vp_v 5 ?_
    refine ⟨_, rfl, ?_⟩
    refine vp_mul ?_
    refine vp_v 1 ?_
    refine ⟨_, rfl, ?_⟩
    refine vp_fdiv ?_
    refine vp_v 2 ?_
    refine ⟨_, rfl, ?_⟩
    refine vp_v 3 ?_
    refine ⟨_, rfl, by walk_at "div_ok", ?_⟩
    refine ⟨_, rfl, by walk_at "mul_ok", ?_⟩
    refine ⟨_, rfl, ?_⟩
    refine ⟨_, rfl, ?_⟩
    refine vp_v 4 ?_
    refine ⟨_, rfl, by walk_at "pos_ok", ?_⟩
    refine vp_int ?_
    refine ⟨by walk_at "shd_ok", by walk_at "shd_ok", ?_⟩
    exact ⟨rfl, rfl⟩
  refine ⟨fun h => ?_, fun h => ?_⟩
  · refine wb_ret ?_
    refine vp_tup ?_
    refine va_cons ?_
    refine vp_v 5 ?_
    refine va_cons ?_
    refine vp_v 3 ?_
    refine va_nil ?_
    refine ⟨Nat.le_of_ble_eq_true rfl, ?_⟩
    rw [eqD_int, eqD_int, Bool.and_eq_true, decide_eq_true_eq, decide_eq_true_eq] at h
    obtain ⟨k1, k2⟩ := h
    rw [eL] at k2
    have k3 : (i : Int) % rimM N q = rimL N p q % rimM N q := Int.emod_eq_emod_iff_emod_sub_eq_zero.mpr k2
    have e : (i : Int) = t := by
      rcases Int.lt_or_eq_of_le hit with a | a
      · exact absurd (by exact_mod_cast k1) (L3 i (by omega) a k3)
      · exact a
    rw [e]
    exact hG
  refine wb_nil ⟨_, rfl, ?_⟩
  rw [eqD_int, eqD_int, eL] at h
  have ne : (i : Int) ≠ t := fun z => by
    subst z
    have k2 := Int.emod_eq_emod_iff_emod_sub_eq_zero.mp L1
    rw [k2, L2] at h
    simp at h
  omega
end
end Pf

set_option Elab.async false
set_option linter.all false
set_option maxRecDepth 100000
set_option maxHeartbeats 4000000
namespace Pf
open PySem PySem.Spec PyProof.Rows L2 Lv
local macro_rules | `(tactic| walk_at "bd") => `(tactic| repeat (first | assumption | exact Bd.lit 12 (by decide +kernel) | exact Bd.lit 80 (by decide +kernel) | exact Bd.lit 500 (by decide +kernel) | apply Bd.mul | apply Bd.add | apply Bd.sub | apply Bd.neg | apply Bd.mod | apply Bd.div | apply Bd.ite | decide | omega))
local macro_rules | `(tactic| walk_at "mul_ok") => `(tactic| (apply Bd.cmul; (focus walk_at "bd"); (focus walk_at "bd"); decide))
local macro_rules | `(tactic| walk_at "bdm") => `(tactic| (apply Bd.mono; (focus walk_at "bd"); decide))
local macro_rules | `(tactic| walk_at "pos_ok") => `(tactic| first | assumption | decide | omega)
local macro_rules | `(tactic| walk_at "div_ok") => `(tactic| (apply Bd.cdiv; (focus walk_at "pos_ok"); (focus walk_at "bd"); decide; decide))
local macro_rules | `(tactic| walk_at "divv_ok") => `(tactic| (apply Bd.cdivV; (focus (first | assumption | omega)); (focus walk_at "bd"); decide; decide))
local macro_rules | `(tactic| walk_at "shd_ok") => `(tactic| exact ⟨rfl, rfl⟩)
local macro_rules | `(tactic| walk_at "notO_ok") => `(tactic| first | assumption | rfl)
section
variable {P : Program} {w : World} {K : PySem.W.Frag} {mg : Str → Option Value} {base : Heap}

def gc1 (c : Int) : Dt → Bool
  | .int i => decide (((Int.gcd i c : Nat) : Int) = 1)
  | _ => false
abbrev s_law_matrix_drawn : Stmt := top 43
theorem sc_law_matrix_drawn : FnScope ["_law_dice_here", "_law_level", "_law_most", "_law_c", "_law_d", "_law_x", "_law_y", "_law_m", "_law_one"] ["_law_dice_here", "_law_level", "_law_most"] (defScope s_law_matrix_drawn) := ⟨rfl, rfl, rfl, by decide +kernel, rfl, by decide +kernel, by decide +kernel⟩
def R_law_matrix_drawn : List Dt → List Dt → (Dt → List Dt → Prop) → Prop := fun ds as G => ∃ (N most : Int) (m : Nat), as = [.int N, .int most] ∧ Dice m ds ∧ 1 ≤ N ∧ N ≤ 100 ∧ 1 ≤ most ∧ most ≤ 10 ∧ m + 2000 < 2 ^ 60 ∧ ∀ (a b c d : Int) (ds : List Dt), a * d - b * c = 1 → N ∣ c → a.natAbs ≤ 10000 → b.natAbs ≤ 10000 → c.natAbs ≤ 10000 → d.natAbs ≤ 10000 → Dice (m + 3) ds → G (.tuple [.int a, .int b, .int c, .int d]) ds
theorem ok_law_matrix_drawn {f : Addr} {fd : FuncData} (F : Fun K "_law_matrix_drawn" "_law_matrix_drawn" s_law_matrix_drawn f fd) (m_range : mg "range" = none) (f_law_roll : Fn P w K mg base "_law_roll" 1 (spO K R_law_roll)) (f_law_pick : Fn P w K mg base "_law_pick" 2 (spO K R_law_pick)) (f_law_gcd : Fn P w K mg base "_law_gcd" 1 (spR K R_law_gcd)) (f_law_bezout : Fn P w K mg base "_law_bezout" 1 (spR K R_law_bezout)) : FnOk P w K mg base CX0 3 f fd ["_law_dice_here", "_law_level", "_law_most"] (spO K R_law_matrix_drawn) := by
  refine ok_O F sc_law_matrix_drawn (by decide) (fun ds as G ⟨N, most, m, hd, hD, hN1, hN2, hm1, hm2, hm, hG⟩ => by subst hd; rfl) fun cdv A outer s H E hr ds as G ⟨N, most, m, hd, hD, hN1, hN2, hm1, hm2, hm, hG⟩ => ?_
  subst hd
  have nd := sc_law_matrix_drawn.nd
  have hu := hr.units
  have bm : Bd 60 most := Bd.of (m := 101) (by omega) (by omega) (by decide)
  have bN : Bd 60 N := Bd.of (m := 101) (by omega) (by omega) (by decide)
  refine wb_set 3 ?_
  refine vp_mul ?_
  refine vp_v 1 ?_
  refine ⟨_, rfl, ?_⟩
  refine vp_sub ?_
  refine vp_callO 0 f_law_roll hr (by decide) rfl rfl (by first | exact Or.inl rfl | exact Or.inr (Or.inl rfl) | exact Or.inr (Or.inr rfl)) ?_ ⟨_, _, rfl⟩
  refine va_cons ?_
  refine vp_add ?_
  refine vp_mul ?_
  refine vp_int ?_
  refine ⟨_, rfl, ?_⟩
  refine vp_v 2 ?_
  refine ⟨_, rfl, by walk_at "mul_ok", ?_⟩
  refine ⟨_, rfl, ?_⟩
  refine vp_int ?_
  refine ⟨_, rfl, ?_⟩
  refine va_nil ?_
  refine ⟨_, _, rfl, ?_⟩
  refine ⟨_, _, rfl, hD, (by omega), (Bd.of (m := 2000) (by omega) (by omega) (by decide)), by omega, fun r1 ds a1 b1 hD => ?_⟩
  have c1 : Bd 60 (r1 - most) := Bd.of (m := 101) (by omega) (by omega) (by decide)
  refine ⟨_, rfl, ?_⟩
  refine vp_v 2 ?_
  refine ⟨_, rfl, ?_⟩
  refine ⟨_, rfl, by walk_at "mul_ok", ?_⟩
  refine ⟨_, rfl, ?_⟩
  show WB _ [_, _, _, _, _, _, _, _, _] _ _
  have x1 : N * (r1 - most) ≤ 100 * 10 := by
    rcases ilt (r1 - most) 0 with h | h
    · have : N * (r1 - most) ≤ N * 0 := Int.mul_le_mul_of_nonneg_left (by omega) (by omega)
      omega
    · exact Int.mul_le_mul hN2 (by omega) h (by omega)
  have x2 : N * (most - r1) ≤ 100 * 10 := by
    rcases ilt (most - r1) 0 with h | h
    · have : N * (most - r1) ≤ N * 0 := Int.mul_le_mul_of_nonneg_left (by omega) (by omega)
      omega
    · exact Int.mul_le_mul hN2 (by omega) h (by omega)
  have x3 : N * (most - r1) = -(N * (r1 - most)) := by rw [← Int.mul_neg]; congr 1; omega
  have dv : N ∣ N * (r1 - most) := ⟨_, rfl⟩
  generalize hcc : N * (r1 - most) = c at *
  refine wb_set 4 ?_
  refine vp_callO 0 f_law_pick hr (by decide) rfl rfl (by first | exact Or.inl rfl | exact Or.inr (Or.inl rfl) | exact Or.inr (Or.inr rfl)) ?_ ⟨_, _, rfl⟩
  refine va_cons ?_
  refine vp_lcR2 [("_law_one", 8)] rfl nd m_range rfl (blkOk_by rfl) (gtk_name 8 (by decide) (fun _ _ _ _ _ => pg_name nd rfl (by first | exact .inl rfl | exact .inr rfl))) ?_
  refine vp_sub ?_
  refine vp_mul ?_
  refine vp_neg ?_
  refine vp_int ?_
  refine ⟨_, rfl, ?_⟩
  refine ⟨_, rfl, ?_⟩
  refine vp_v 2 ?_
  refine ⟨_, rfl, by walk_at "mul_ok", ?_⟩
  refine ⟨_, rfl, ?_⟩
  refine vp_int ?_
  refine ⟨_, rfl, ?_⟩
  refine ⟨_, rfl, ?_⟩
  refine vp_add ?_
  refine vp_mul ?_
  refine vp_int ?_
  refine ⟨_, rfl, ?_⟩
  refine vp_v 2 ?_
  refine ⟨_, rfl, by walk_at "mul_ok", ?_⟩
  refine ⟨_, rfl, ?_⟩
  refine vp_int ?_
  refine ⟨_, rfl, ?_⟩
  refine ⟨_, rfl, (by omega), comp_map (gc1 c) (fun x => x) (noOw1 rfl) (by rw [rng_len]; omega) (fun x hx => ?_) (fun x es N N' h hN => hN _ h) ?_⟩
  · refine fun s0 H0 C0 cl0 fp0 => vts_one ?_
    obtain ⟨i, hi, rfl⟩ := rng_mem hx
    refine vt_eqD hu ?_
    refine vp_call f_law_gcd hr (by decide) rfl ?_
    refine va_cons ?_
    refine vp_v 8 ?_
    refine va_cons ?_
    refine vp_v 3 ?_
    refine va_nil ?_
    refine ⟨_, _, rfl, ?_⟩
    refine vp_int ?_
    refine ⟨by walk_at "shd_ok", by walk_at "shd_ok", ?_⟩
    refine ⟨rfl, rfl, fun hb s1 H1 C1 cl1 fp1 => ?_⟩
    refine vp_v 8 ?_
    exact ⟨rfl, rfl⟩
  refine va_nil ?_
  refine ⟨_, _, rfl, ?_⟩
  refine ⟨_, _, rfl, hD, filt_pos (x := .int 1) (rng_in (by omega) (by omega)) (by show decide (((Int.gcd 1 c : Nat) : Int) = 1) = true; rw [Int.one_gcd]; rfl), filt_len (by rw [rng_len]; omega), by omega, fun x hxm ds hD => ?_⟩
  obtain ⟨f1, f2⟩ := filt_in hxm
  obtain ⟨i, hi, rfl⟩ := rng_mem f1
  have hg : Int.gcd (-4 * most - 1 + (i : Int)) c = 1 := by have := of_decide_eq_true f2; exact_mod_cast this
  have d1 : -41 ≤ -4 * most - 1 + (i : Int) := by omega
  have d2 : -4 * most - 1 + (i : Int) ≤ 41 := by omega
  generalize -4 * most - 1 + (i : Int) = d at *
  refine ⟨_, rfl, ?_⟩
  show WB _ [_, _, _, _, _, _, _, _, _] _ _
  refine wb_asg (gt_tup rfl (gts_cons (gt_n 5) (gts_cons (gt_n 6) gts_nil))) ?_
  refine vp_call f_law_bezout hr (by decide) rfl ?_
  refine va_cons ?_
  refine vp_v 4 ?_
  refine va_cons ?_
  refine vp_v 3 ?_
  refine va_nil ?_
  refine ⟨_, _, rfl, Bd.of (m := 101) (by omega) (by omega) (by decide), Bd.of (m := 2000) (by omega) (by omega) (by decide), fun x y bx by1 hxy => ?_⟩
  obtain ⟨y1, y2, y3⟩ := hxy hg
  refine ⟨_, rfl, rfl, _, _, rfl, _, _, rfl, rfl, ?_⟩
  show WB _ [_, _, _, _, _, _, _, _, _] _ _
  refine wb_set 7 ?_
  refine vp_sub ?_
  refine vp_callO 0 f_law_roll hr (by decide) rfl rfl (by first | exact Or.inl rfl | exact Or.inr (Or.inl rfl) | exact Or.inr (Or.inr rfl)) ?_ ⟨_, _, rfl⟩
  refine va_cons ?_
  refine vp_int ?_
  refine va_nil ?_
  refine ⟨_, _, rfl, ?_⟩
  refine ⟨_, _, rfl, hD, (by omega), (Bd.of (m := 2000) (by omega) (by omega) (by decide)), by omega, fun r2 ds a2 b2 hD => ?_⟩
  refine ⟨_, rfl, ?_⟩
  refine vp_int ?_
  refine ⟨_, rfl, ?_⟩
  refine ⟨_, rfl, ?_⟩
  show WB _ [_, _, _, _, _, _, _, _, _] _ _
  have bmm : Bd 60 (r2 - 3) := Bd.of (m := 101) (by omega) (by omega) (by decide)
  have bc : Bd 60 c := Bd.of (m := 2000) (by omega) (by omega) (by decide)
  have bd : Bd 60 d := Bd.of (m := 2000) (by omega) (by omega) (by decide)
  generalize hmm : r2 - 3 = mm at *
  refine wb_ret ?_
  refine vp_tup ?_
  refine va_cons ?_
  refine vp_add ?_
  refine vp_v 5 ?_
  refine ⟨_, rfl, ?_⟩
  refine vp_mul ?_
  refine vp_v 7 ?_
  refine ⟨_, rfl, ?_⟩
  refine vp_v 3 ?_
  refine ⟨_, rfl, by walk_at "mul_ok", ?_⟩
  refine ⟨_, rfl, ?_⟩
  refine va_cons ?_
  refine vp_sub ?_
  refine vp_mul ?_
  refine vp_v 7 ?_
  refine ⟨_, rfl, ?_⟩
  refine vp_v 4 ?_
  refine ⟨_, rfl, by walk_at "mul_ok", ?_⟩
  refine ⟨_, rfl, ?_⟩
  refine vp_v 6 ?_
  refine ⟨_, rfl, ?_⟩
  refine va_cons ?_
  refine vp_v 3 ?_
  refine va_cons ?_
  refine vp_v 4 ?_
  refine va_nil ?_
  refine ⟨Nat.le_of_ble_eq_true rfl, ?_⟩
  have k1 : (mm * c).natAbs ≤ 3 * 1000 := by rw [Int.natAbs_mul]; exact Nat.mul_le_mul (by omega) (by omega)
  have k2 : (mm * d).natAbs ≤ 3 * 41 := by rw [Int.natAbs_mul]; exact Nat.mul_le_mul (by omega) (by omega)
  refine ⟨_, rfl, hG _ _ _ _ _ ?_ dv (by omega) (by omega) (by omega) (by omega) (hD.up (by omega))⟩
  have : (x + mm * c) * d - (mm * d - y) * c = x * d + y * c := by grind
  rw [this, y1]
def lenB : Dt → Bool
  | .tuple l => decide ((l.length : Int) = 4)
  | _ => false
def isG (N : Int) : Dt → Bool
  | .tuple [.int a, .int b, .int c, .int d] => decide (a * d - b * c = 1) && decide (c % N = 0)
  | _ => false
theorem isG_tup {N : Int} {v : Dt} (h : isG N v = true) : ∃ a b c d : Int, v = .tuple [.int a, .int b, .int c, .int d] := by
  unfold isG at h
  split at h
  · exact ⟨_, _, _, _, rfl⟩
  · cases h
theorem isG_no {N : Int} {l : List Dt} (h : ¬ decide ((l.length : Int) = 4) = true) : isG N (.tuple l) = false := by
  cases hg : isG N (.tuple l) with
  | false => rfl
  | true =>
    obtain ⟨a, b, c, d, e⟩ := isG_tup hg
    rw [Dt.tuple.injEq] at e
    subst e
    exact absurd rfl h
theorem int_of {x : Dt} (h : (!isI x || isB x) = false) : ∃ a : Int, x = .int a := by
  cases x <;> first | exact ⟨_, rfl⟩ | cases h
theorem four_of {l : List Dt} (hl : (l.length : Int) = 4) (h : (!eqD (.list ((l.filter fun x => !isI x || isB x).map fun x => x)) (.list [])) = false) : ∃ a b c d : Int, l = [.int a, .int b, .int c, .int d] := by
  have hf : l.filter (fun x => !isI x || isB x) = [] := by
    cases q : l.filter (fun x => !isI x || isB x) with
    | nil => rfl
    | cons a r =>
      rw [q] at h
      have h : (!eqD (.list (a :: r.map fun x => x)) (.list [])) = false := h
      rw [eqD_l0] at h; cases h
  have ha : ∀ x ∈ l, ∃ a : Int, x = .int a := fun x hx => int_of (by
    cases q : (!isI x || isB x) with
    | false => rfl
    | true =>
      have : x ∈ l.filter (fun x => !isI x || isB x) := List.mem_filter.mpr ⟨hx, q⟩
      rw [hf] at this; cases this)
  match l, hl, ha with
  | [a, b, c, d], _, hw =>
    obtain ⟨a, rfl⟩ := hw a (by simp)
    obtain ⟨b, rfl⟩ := hw b (by simp)
    obtain ⟨c, rfl⟩ := hw c (by simp)
    obtain ⟨d, rfl⟩ := hw d (by simp)
    exact ⟨a, b, c, d, rfl⟩
  | [], hl, _ => simp at hl
  | [_], hl, _ => simp at hl
  | [_, _], hl, _ => simp at hl
  | [_, _, _], hl, _ => simp at hl
  | _ :: _ :: _ :: _ :: _ :: _, hl, _ => simp at hl; omega
abbrev s_law_is_group : Stmt := top 44
theorem sc_law_is_group : FnScope ["_law_level", "_law_value", "_law_one"] ["_law_level", "_law_value"] (defScope s_law_is_group) := ⟨rfl, rfl, rfl, by decide +kernel, rfl, by decide +kernel, by decide +kernel⟩
def R_law_is_group : List Dt → (Dt → Prop) → Prop := fun ds G => ∃ (N : Int) (v : Dt), ds = [.int N, v] ∧ 1 ≤ N ∧ N ≤ 100 ∧ OkV v ∧ BdM v ∧ G (.bool (isG N v))
theorem ok_law_is_group {f : Addr} {fd : FuncData} (F : Fun K "_law_is_group" "_law_is_group" s_law_is_group f fd) (m_isinstance : mg "isinstance" = none) (m_tuple : mg "tuple" = none) (m_int : mg "int" = none) (m_bool : mg "bool" = none) (m_len : mg "len" = none) : FnOk P w K mg base CX0 1 f fd ["_law_level", "_law_value"] (spR K R_law_is_group) := by
  refine ok_R F sc_law_is_group (by decide) (fun ds G ⟨N, v, he, hN1, hN2, hV, hB, hG⟩ => by subst he; rfl) fun cdv A outer s H E hr ds G ⟨N, v, he, hN1, hN2, hV, hB, hG⟩ => ?_
  subst he
  have nd := sc_law_is_group.nd
  have hu := hr.units
  refine wb_ifR ?_
  refine vt_w ?_
  refine vw_orP ?_
  refine vt_not ?_
  refine vt_val ?_
  refine vp_isTuple m_isinstance m_tuple rfl rfl ?_
  refine vp_v 1 ?_
  refine ⟨(by first | assumption | exact hV.1), ?_⟩
  refine ⟨_, rfl, ?_⟩
  refine ⟨!lenB v, fun h => ?_, ?_⟩
  · obtain ⟨l, rfl⟩ : ∃ l, v = .tuple l := by cases v <;> first | exact ⟨_, rfl⟩ | cases h
    refine vw_or1 ?_
    refine vt_neD hu ?_
    refine vp_len m_len rfl ?_
    refine vp_v 1 ?_
    refine ⟨_, SeqD.t, ?_⟩
    refine vp_int ?_
    refine ⟨by walk_at "shd_ok", by walk_at "shd_ok", ?_⟩
    exact ⟨rfl, rfl⟩
  refine ⟨fun h => ?_, fun h => ?_⟩
  · refine wb_ret ?_
    refine vp_bool ?_
    have e : isG N v = false := by
      cases v with
      | tuple l =>
        have h : (false || !decide ((l.length : Int) = 4)) = true := h
        rw [Bool.false_or] at h
        exact isG_no (by intro z; rw [z] at h; cases h)
      | _ => rfl
    rw [e] at hG
    exact hG
  obtain ⟨l, rfl⟩ : ∃ l, v = .tuple l := by cases v <;> first | exact ⟨_, rfl⟩ | cases h
  have hl : (l.length : Int) = 4 := by
    have h : (false || !decide ((l.length : Int) = 4)) = false := h
    simpa using h
  refine wb_ifR ?_
  refine vt_neD hu ?_
  refine vp_lcT [("_law_one", 2)] rfl nd (blkOk_by rfl) (gtk_name 2 (by decide) (fun _ _ _ _ _ => pg_name nd rfl (by first | exact .inl rfl | exact .inr rfl))) ?_
  refine vp_v 1 ?_
  refine ⟨_, rfl, comp_map (fun x => !isI x || isB x) (fun x => x) (noOw1 rfl) (by have := (hV.2 l rfl).1; omega) (fun x hx => ?_) (fun x es N N' h hN => hN _ h) ?_⟩
  · refine fun s0 H0 C0 cl0 fp0 => vts_one ?_
    have hno : notO x = true := ((hV.2 l rfl).2 x hx).1
    refine vt_w ?_
    refine vw_orP ?_
    refine vt_not ?_
    refine vt_val ?_
    refine vp_isInt m_isinstance m_int rfl rfl ?_
    refine vp_v 2 ?_
    refine ⟨(by first | assumption | exact hV.1), ?_⟩
    refine ⟨_, rfl, ?_⟩
    apply Exists.intro
    refine ⟨fun h => ?_, ?_⟩
    · refine vw_or1 ?_
      refine vt_val ?_
      refine vp_isBool m_isinstance m_bool rfl rfl ?_
      refine vp_v 2 ?_
      refine ⟨(by first | assumption | exact hV.1), ?_⟩
      refine ⟨_, rfl, ?_⟩
      exact ⟨rfl, rfl⟩
    refine ⟨rfl, rfl, fun hb s1 H1 C1 cl1 fp1 => ?_⟩
    refine vp_v 2 ?_
    exact ⟨rfl, rfl⟩
  refine vp_list ?_
  refine va_nil ?_
  refine ⟨Nat.le_of_ble_eq_true rfl, ?_⟩
  refine ⟨shD_list fun x hx => ((hV.2 l rfl).2 x (filt_in hx).1).2, ⟨rfl, rfl⟩, ?_⟩
  refine ⟨fun h => ?_, fun h => ?_⟩
  · refine wb_ret ?_
    refine vp_bool ?_
    have e : isG N (.tuple l) = false := by
      cases hg : isG N (.tuple l) with
      | false => rfl
      | true =>
        obtain ⟨a, b, c, d, e⟩ := isG_tup hg
        rw [Dt.tuple.injEq] at e
        subst e
        exact absurd h Bool.false_ne_true
    rw [e] at hG
    exact hG
  obtain ⟨a, b, c, d, rfl⟩ : ∃ a b c d : Int, l = [.int a, .int b, .int c, .int d] := four_of hl h
  obtain ⟨ha, hb, hc, hd⟩ := hB a b c d rfl
  refine wb_ret ?_
  refine vp_andP ?_
  refine vp_eqD hu ?_
  refine vp_sub ?_
  refine vp_mul ?_
  refine vp_ix ?_
  refine vp_v 1 ?_
  refine vp_int ?_
  refine ⟨_, _, _, SeqD.t, rfl, rfl, ?_⟩
  refine ⟨_, rfl, ?_⟩
  refine vp_ix ?_
  refine vp_v 1 ?_
  refine vp_int ?_
  refine ⟨_, _, _, SeqD.t, rfl, rfl, ?_⟩
  refine ⟨_, rfl, by walk_at "mul_ok", ?_⟩
  refine ⟨_, rfl, ?_⟩
  refine vp_mul ?_
  refine vp_ix ?_
  refine vp_v 1 ?_
  refine vp_int ?_
  refine ⟨_, _, _, SeqD.t, rfl, rfl, ?_⟩
  refine ⟨_, rfl, ?_⟩
  refine vp_ix ?_
  refine vp_v 1 ?_
  refine vp_int ?_
  refine ⟨_, _, _, SeqD.t, rfl, rfl, ?_⟩
  refine ⟨_, rfl, by walk_at "mul_ok", ?_⟩
  refine ⟨_, rfl, ?_⟩
  refine vp_int ?_
  refine ⟨by walk_at "shd_ok", by walk_at "shd_ok", ?_⟩
  refine ⟨_, rfl, ?_⟩
  apply Exists.intro
  refine ⟨fun h => ?_, ?_⟩
  · refine vp_one ?_
    refine vp_eqD hu ?_
    refine vp_mod ?_
    refine vp_ix ?_
    refine vp_v 1 ?_
    refine vp_int ?_
    refine ⟨_, _, _, SeqD.t, rfl, rfl, ?_⟩
    refine ⟨_, rfl, ?_⟩
    refine vp_v 0 ?_
    refine ⟨_, rfl, by walk_at "pos_ok", ?_⟩
    refine vp_int ?_
    refine ⟨by walk_at "shd_ok", by walk_at "shd_ok", ?_⟩
    exact ⟨rfl, rfl⟩
  exact hG
end
end Pf

set_option Elab.async false
set_option linter.all false
set_option maxRecDepth 100000
set_option maxHeartbeats 4000000
namespace Pf
open PySem PySem.Spec PyProof.Rows L2 Lv
local macro_rules | `(tactic| walk_at "bd") => `(tactic| repeat (first | assumption | exact Bd.lit 12 (by decide +kernel) | exact Bd.lit 80 (by decide +kernel) | exact Bd.lit 500 (by decide +kernel) | apply Bd.mul | apply Bd.add | apply Bd.sub | apply Bd.neg | apply Bd.mod | apply Bd.div | apply Bd.ite | decide | omega))
local macro_rules | `(tactic| walk_at "mul_ok") => `(tactic| (apply Bd.cmul; (focus walk_at "bd"); (focus walk_at "bd"); decide))
local macro_rules | `(tactic| walk_at "bdm") => `(tactic| (apply Bd.mono; (focus walk_at "bd"); decide))
local macro_rules | `(tactic| walk_at "pos_ok") => `(tactic| first | assumption | decide | omega)
local macro_rules | `(tactic| walk_at "div_ok") => `(tactic| (apply Bd.cdiv; (focus walk_at "pos_ok"); (focus walk_at "bd"); decide; decide))
local macro_rules | `(tactic| walk_at "divv_ok") => `(tactic| (apply Bd.cdivV; (focus (first | assumption | omega)); (focus walk_at "bd"); decide; decide))
local macro_rules | `(tactic| walk_at "shd_ok") => `(tactic| exact ⟨rfl, rfl⟩)
local macro_rules | `(tactic| walk_at "notO_ok") => `(tactic| first | assumption | rfl)
section
variable {P : Program} {w : World} {K : PySem.W.Frag} {mg : Str → Option Value} {base : Heap}

theorem isP_G {N p q r u : Int} {v : Dt} (h : isP N p q r u v = true) : isG N v = true := by
  unfold isP at h
  split at h
  · rw [Bool.and_eq_true, Bool.and_eq_true] at h
    show (decide _ && decide _) = true
    rw [h.1, h.2.1]; rfl
  · cases h
theorem isP_and {N p q r u : Int} {v : Dt} : (isG N v && isP N p q r u v) = isP N p q r u v := by
  cases h : isP N p q r u v with
  | false => exact Bool.and_false _
  | true => rw [isP_G h]; rfl
abbrev s_law_is_paper : Stmt := top 45
theorem sc_law_is_paper : FnScope ["_law_level", "_law_one", "_law_other", "_law_value"] ["_law_level", "_law_one", "_law_other", "_law_value"] (defScope s_law_is_paper) := ⟨rfl, rfl, rfl, by decide +kernel, rfl, by decide +kernel, by decide +kernel⟩
def R_law_is_paper : List Dt → (Dt → Prop) → Prop := fun ds G => ∃ (N p q r u : Int) (v : Dt), ds = [.int N, .tuple [.int p, .int q], .tuple [.int r, .int u], v] ∧ 1 ≤ N ∧ N ≤ 100 ∧ OkFr p q ∧ OkV v ∧ BdM v ∧ G (.bool (isP N p q r u v))
theorem ok_law_is_paper {f : Addr} {fd : FuncData} (F : Fun K "_law_is_paper" "_law_is_paper" s_law_is_paper f fd) (f_law_is_group : Fn P w K mg base "_law_is_group" 1 (spR K R_law_is_group)) (f_law_matrix_led : Fn P w K mg base "_law_matrix_led" 3 (spR K R_law_matrix_led)) : FnOk P w K mg base CX0 4 f fd ["_law_level", "_law_one", "_law_other", "_law_value"] (spR K R_law_is_paper) := by
  refine ok_R F sc_law_is_paper (by decide) (fun ds G ⟨N, p, q, r, u, v, he, hN1, hN2, hF, hV, hB, hG⟩ => by subst he; rfl) fun cdv A outer s H E hr ds G ⟨N, p, q, r, u, v, he, hN1, hN2, hF, hV, hB, hG⟩ => ?_
  subst he
  have nd := sc_law_is_paper.nd
  have hu := hr.units
  refine wb_ret ?_
  refine vp_andP ?_
  refine vp_call f_law_is_group hr (by decide) rfl ?_
  refine va_cons ?_
  refine vp_v 0 ?_
  refine va_cons ?_
  refine vp_v 3 ?_
  refine va_nil ?_
  refine ⟨_, _, rfl, hN1, hN2, hV, hB, ?_⟩
  refine ⟨_, rfl, isP N p q r u v, fun h => ?_, ?_⟩
  · obtain ⟨a, b, c, d, rfl⟩ := isG_tup h
    obtain ⟨ha, hb, hc, hd⟩ := hB a b c d rfl
    have h : (decide (a * d - b * c = 1) && decide (c % N = 0)) = true := h
    rw [Bool.and_eq_true] at h
    have h0 := lead0 (a := a) (b := b) (c := c) (d := d) (by rw [of_decide_eq_true h.1]; decide) hF
    refine vp_one ?_
    refine vp_eqD hu ?_
    refine vp_call f_law_matrix_led hr (by decide) rfl ?_
    refine va_cons ?_
    refine vp_v 3 ?_
    refine va_cons ?_
    refine vp_v 1 ?_
    refine va_nil ?_
    refine ⟨_, _, _, _, _, _, rfl, ⟨ha, hb, hc, hd⟩, hF.bp, hF.bq, h0, ?_⟩
    refine vp_v 2 ?_
    refine ⟨by walk_at "shd_ok", by walk_at "shd_ok", ?_⟩
    refine ⟨congrArg Dt.bool ?_, rfl⟩
    rw [eqD_t2]
    show _ = (decide (a * d - b * c = 1) && (decide (c % N = 0) && _))
    rw [h.1, h.2]
    rfl
  rw [isP_and]
  exact hG
abbrev s_law_head : Stmt := top 46
theorem sc_law_head : FnScope ["_law_fraction", "_law_x", "_law_y"] ["_law_fraction"] (defScope s_law_head) := ⟨rfl, rfl, rfl, by decide +kernel, rfl, by decide +kernel, by decide +kernel⟩
def R_law_head : List Dt → (Dt → Prop) → Prop := fun ds G => ∃ p q : Int, ds = [.tuple [.int p, .int q]] ∧ Bd 70 p ∧ Bd 70 q ∧ ∀ x y : Int, Bd 400 x → Bd 400 y → G (.tuple [.int p, .int (-y), .int q, .int x])
theorem ok_law_head {f : Addr} {fd : FuncData} (F : Fun K "_law_head" "_law_head" s_law_head f fd) (f_law_bezout : Fn P w K mg base "_law_bezout" 1 (spR K R_law_bezout)) : FnOk P w K mg base CX0 2 f fd ["_law_fraction"] (spR K R_law_head) := by
  refine ok_R F sc_law_head (by decide) (fun ds G ⟨p, q, hd, hp, hq, hG⟩ => by subst hd; rfl) fun cdv A outer s H E hr ds G ⟨p, q, hd, hp, hq, hG⟩ => ?_
  subst hd
  have nd := sc_law_head.nd
  have hu := hr.units
  refine wb_asg (gt_tup rfl (gts_cons (gt_n 1) (gts_cons (gt_n 2) gts_nil))) ?_
  refine vp_call f_law_bezout hr (by decide) rfl ?_
  refine va_cons ?_
  refine vp_ix ?_
  refine vp_v 0 ?_
  refine vp_int ?_
  refine ⟨_, _, _, SeqD.t, rfl, rfl, ?_⟩
  refine va_cons ?_
  refine vp_ix ?_
  refine vp_v 0 ?_
  refine vp_int ?_
  refine ⟨_, _, _, SeqD.t, rfl, rfl, ?_⟩
  refine va_nil ?_
  refine ⟨_, _, rfl, hp.mono (by decide), hq.mono (by decide), fun x y bx by1 _ => ?_⟩
  refine ⟨_, rfl, rfl, _, _, rfl, _, _, rfl, rfl, ?_⟩
  show WB _ [_, _, _] _ _
  refine wb_ret ?_
  refine vp_tup ?_
  refine va_cons ?_
  refine vp_ix ?_
  refine vp_v 0 ?_
  refine vp_int ?_
  refine ⟨_, _, _, SeqD.t, rfl, rfl, ?_⟩
  refine va_cons ?_
  refine vp_neg ?_
  refine vp_v 2 ?_
  refine ⟨_, rfl, ?_⟩
  refine va_cons ?_
  refine vp_ix ?_
  refine vp_v 0 ?_
  refine vp_int ?_
  refine ⟨_, _, _, SeqD.t, rfl, rfl, ?_⟩
  refine va_cons ?_
  refine vp_v 1 ?_
  refine va_nil ?_
  refine ⟨Nat.le_of_ble_eq_true rfl, ?_⟩
  exact hG x y bx by1
end
end Pf

set_option Elab.async false
set_option linter.all false
set_option maxRecDepth 100000
set_option maxHeartbeats 4000000
namespace Pf
open PySem PySem.Spec PyProof.Rows L2 Lv
local macro_rules | `(tactic| walk_at "bd") => `(tactic| repeat (first | assumption | exact Bd.lit 12 (by decide +kernel) | exact Bd.lit 80 (by decide +kernel) | exact Bd.lit 500 (by decide +kernel) | apply Bd.mul | apply Bd.add | apply Bd.sub | apply Bd.neg | apply Bd.mod | apply Bd.div | apply Bd.ite | decide | omega))
local macro_rules | `(tactic| walk_at "mul_ok") => `(tactic| (apply Bd.cmul; (focus walk_at "bd"); (focus walk_at "bd"); decide))
local macro_rules | `(tactic| walk_at "bdm") => `(tactic| (apply Bd.mono; (focus walk_at "bd"); decide))
local macro_rules | `(tactic| walk_at "pos_ok") => `(tactic| first | assumption | decide | omega)
local macro_rules | `(tactic| walk_at "div_ok") => `(tactic| (apply Bd.cdiv; (focus walk_at "pos_ok"); (focus walk_at "bd"); decide; decide))
local macro_rules | `(tactic| walk_at "divv_ok") => `(tactic| (apply Bd.cdivV; (focus (first | assumption | omega)); (focus walk_at "bd"); decide; decide))
local macro_rules | `(tactic| walk_at "shd_ok") => `(tactic| exact ⟨rfl, rfl⟩)
local macro_rules | `(tactic| walk_at "notO_ok") => `(tactic| first | assumption | rfl)
section
variable {P : Program} {w : World} {K : PySem.W.Frag} {mg : Str → Option Value} {base : Heap}

abbrev s_law_between : Stmt := top 47
theorem sc_law_between : FnScope ["_law_one", "_law_other", "_law_many", "_law_a", "_law_b", "_law_c", "_law_d"] ["_law_one", "_law_other", "_law_many"] (defScope s_law_between) := ⟨rfl, rfl, rfl, by decide +kernel, rfl, by decide +kernel, by decide +kernel⟩
def R_law_between : List Dt → (Dt → Prop) → Prop := fun ds G => ∃ p q r u k : Int, ds = [.tuple [.int p, .int q], .tuple [.int r, .int u], .int k] ∧ Bd 70 p ∧ Bd 70 q ∧ Bd 70 r ∧ Bd 70 u ∧ Bd 60 k ∧ ∀ a b c d : Int, Bd 1000 a → Bd 1000 b → Bd 1000 c → Bd 1000 d → G (.tuple [.int a, .int b, .int c, .int d])
theorem ok_law_between {f : Addr} {fd : FuncData} (F : Fun K "_law_between" "_law_between" s_law_between f fd) (f_law_head : Fn P w K mg base "_law_head" 2 (spR K R_law_head)) (f_law_matrix_times : Fn P w K mg base "_law_matrix_times" 1 (spR K R_law_matrix_times)) : FnOk P w K mg base CX0 3 f fd ["_law_one", "_law_other", "_law_many"] (spR K R_law_between) := by
  refine ok_R F sc_law_between (by decide) (fun ds G ⟨p, q, r, u, k, he, hp, hq, hr1, hu1, hk, hG⟩ => by subst he; rfl) fun cdv A outer s H E hr ds G ⟨p, q, r, u, k, he, hp, hq, hr1, hu1, hk, hG⟩ => ?_
  subst he
  have nd := sc_law_between.nd
  have hu := hr.units
  refine wb_asg (gt_tup rfl (gts_cons (gt_n 3) (gts_cons (gt_n 4) (gts_cons (gt_n 5) (gts_cons (gt_n 6) gts_nil))))) ?_
  refine vp_call f_law_head hr (by decide) rfl ?_
  refine va_cons ?_
  refine vp_v 0 ?_
  refine va_nil ?_
  refine ⟨_, _, rfl, hp, hq, fun x y bx by1 => ?_⟩
  refine ⟨_, rfl, rfl, _, _, rfl, _, _, rfl, _, _, rfl, _, _, rfl, rfl, ?_⟩
  show WB _ [_, _, _, _, _, _, _] _ _
  refine wb_ret ?_
  refine vp_call f_law_matrix_times hr (by decide) rfl ?_
  refine va_cons ?_
  refine vp_call f_law_matrix_times hr (by decide) rfl ?_
  refine va_cons ?_
  refine vp_call f_law_head hr (by decide) rfl ?_
  refine va_cons ?_
  refine vp_v 1 ?_
  refine va_nil ?_
  refine ⟨_, _, rfl, hr1, hu1, fun z w bz bw => ?_⟩
  refine va_cons ?_
  refine vp_tup ?_
  refine va_cons ?_
  refine vp_int ?_
  refine va_cons ?_
  refine vp_v 2 ?_
  refine va_cons ?_
  refine vp_int ?_
  refine va_cons ?_
  refine vp_int ?_
  refine va_nil ?_
  refine ⟨Nat.le_of_ble_eq_true rfl, ?_⟩
  refine va_nil ?_
  have b1 : Bd 490 (1 : Int) := Bd.lit 490 (by decide +kernel)
  have b0 : Bd 490 (0 : Int) := Bd.lit 490 (by decide +kernel)
  have bk : Bd 60 k := hk
  have nw : Bd 400 (-w) := bw.neg
  have ny : Bd 400 (-y) := by1.neg
  refine ⟨_, _, _, _, _, _, _, _, rfl, ⟨hr1.mono (by decide), nw.mono (by decide), hu1.mono (by decide), bz.mono (by decide)⟩, ⟨b1, bk.mono (by decide), b0, b1⟩, ?_⟩
  have c1 : Bd 490 (r * 1 + -w * 0) := ((hr1.mul (Bd.lit 12 (by decide +kernel))).add (nw.mul (Bd.lit 12 (by decide +kernel)))).mono (by decide)
  have c2 : Bd 490 (r * k + -w * 1) := ((hr1.mul bk).add (nw.mul (Bd.lit 12 (by decide +kernel)))).mono (by decide)
  have c3 : Bd 490 (u * 1 + z * 0) := ((hu1.mul (Bd.lit 12 (by decide +kernel))).add (bz.mul (Bd.lit 12 (by decide +kernel)))).mono (by decide)
  have c4 : Bd 490 (u * k + z * 1) := ((hu1.mul bk).add (bz.mul (Bd.lit 12 (by decide +kernel)))).mono (by decide)
  refine va_cons ?_
  refine vp_tup ?_
  refine va_cons ?_
  refine vp_v 6 ?_
  refine va_cons ?_
  refine vp_neg ?_
  refine vp_v 4 ?_
  refine ⟨_, rfl, ?_⟩
  refine va_cons ?_
  refine vp_neg ?_
  refine vp_v 5 ?_
  refine ⟨_, rfl, ?_⟩
  refine va_cons ?_
  refine vp_v 3 ?_
  refine va_nil ?_
  refine ⟨Nat.le_of_ble_eq_true rfl, ?_⟩
  refine va_nil ?_
  have e1 : Bd 490 x := bx.mono (by decide)
  have e2 : Bd 490 (- -y) := ny.neg.mono (by decide)
  have e3 : Bd 490 (-q) := hq.neg.mono (by decide)
  have e4 : Bd 490 p := hp.mono (by decide)
  refine ⟨_, _, _, _, _, _, _, _, rfl, ⟨c1, c2, c3, c4⟩, ⟨e1, e2, e3, e4⟩, ?_⟩
  exact hG _ _ _ _ (((c1.mul e1).add (c2.mul e3)).mono (by decide)) (((c1.mul e2).add (c2.mul e4)).mono (by decide)) (((c3.mul e1).add (c4.mul e3)).mono (by decide)) (((c3.mul e2).add (c4.mul e4)).mono (by decide))
theorem okV_tup {l : List Dt} (h : l.length ≤ 1000) (h2 : ∀ x ∈ l, notO x = true ∧ AtD x) : OkV (.tuple l) := ⟨rfl, fun l' e => by cases e; exact ⟨h, h2⟩⟩
theorem okV_o {v : Dt} (h : notO v = true) (h2 : isT v = false) : OkV v := ⟨h, fun l e => by subst e; cases h2⟩
def Fine (v : Dt) : Prop := OkV v ∧ BdM v
theorem fine_M {a b c d : Int} (ha : Bd 1000 a) (hb : Bd 1000 b) (hc : Bd 1000 c) (hd : Bd 1000 d) : Fine (.tuple [.int a, .int b, .int c, .int d]) := by
  refine ⟨okV_tup (Nat.le_of_ble_eq_true rfl) fun x hx => ?_, fun a' b' c' d' e => ?_⟩
  · simp only [List.mem_cons, List.not_mem_nil, or_false] at hx
    rcases hx with h | h | h | h <;> subst h <;> exact ⟨rfl, atD_int _⟩
  · cases e; exact ⟨ha, hb, hc, hd⟩
theorem fine_o {v : Dt} (h : notO v = true) (h2 : isT v = false) : Fine v := ⟨okV_o h h2, fun a b c d e => by subst e; cases h2⟩
theorem fine_3 {a b c : Int} : Fine (.tuple [.int a, .int b, .int c]) := by
  refine ⟨okV_tup (Nat.le_of_ble_eq_true rfl) fun x hx => ?_, fun a' b' c' d' e => by cases e⟩
  simp only [List.mem_cons, List.not_mem_nil, or_false] at hx
  rcases hx with h | h | h <;> subst h <;> exact ⟨rfl, atD_int _⟩
theorem fine_x {a b c : Int} {x : Dt} (h1 : notO x = true) (h2 : AtD x) (h3 : isW x = false) : Fine (.tuple [.int a, .int b, .int c, x]) := by
  refine ⟨okV_tup (Nat.le_of_ble_eq_true rfl) fun y hx => ?_, fun a' b' c' d' e => by cases e; cases h3⟩
  simp only [List.mem_cons, List.not_mem_nil, or_false] at hx
  rcases hx with h | h | h | h <;> subst h <;> first | exact ⟨rfl, atD_int _⟩ | exact ⟨h1, h2⟩
theorem fine_5 {a b c d e : Int} : Fine (.tuple [.int a, .int b, .int c, .int d, .int e]) := by
  refine ⟨okV_tup (Nat.le_of_ble_eq_true rfl) fun x hx => ?_, fun a' b' c' d' e => by cases e⟩
  simp only [List.mem_cons, List.not_mem_nil, or_false] at hx
  rcases hx with h | h | h | h | h <;> subst h <;> exact ⟨rfl, atD_int _⟩
def gvB : Dt → Dt
  | .int i => if ([0, 1].any fun n => n == i) = true then .bool (eqD (.int i) (.int 1)) else .int i
  | _ => .none
theorem gvB_at (i : Int) : notO (gvB (.int i)) = true ∧ AtD (gvB (.int i)) := by
  simp only [gvB]
  split
  · exact ⟨rfl, atD_bool _⟩
  · exact ⟨rfl, atD_int _⟩
theorem gvB_int {i j : Int} (h : gvB (.int i) = .int j) : i = j := by
  simp only [gvB] at h
  split at h
  · cases h
  · cases h; rfl
theorem Bdlg {n : Nat} {i : Int} (h : Bd n i) (h0 : 0 < n) (h1 : n ≤ 1920) : i.natAbs.log2 < 1920 := Nat.lt_of_lt_of_le (PySem.Flt.log2_lt_of h0 h) h1
theorem fine_B {a b c d : Int} (ha : Bd 1000 a) (hb : Bd 1000 b) (hc : Bd 1000 c) (hd : Bd 1000 d) : Fine (.tuple [gvB (.int a), gvB (.int b), gvB (.int c), gvB (.int d)]) := by
  refine ⟨okV_tup (Nat.le_of_ble_eq_true rfl) fun x hx => ?_, fun a' b' c' d' e => ?_⟩
  · simp only [List.mem_cons, List.not_mem_nil, or_false] at hx
    rcases hx with h | h | h | h <;> subst h <;> exact gvB_at _
  · simp only [Dt.tuple.injEq, List.cons.injEq, and_true] at e
    obtain ⟨e1, e2, e3, e4⟩ := e
    rw [← gvB_int e1, ← gvB_int e2, ← gvB_int e3, ← gvB_int e4]
    exact ⟨ha, hb, hc, hd⟩
abbrev s_law_near : Stmt := top 48
theorem sc_law_near : FnScope ["_law_dice_here", "_law_level", "_law_one", "_law_matrix", "_law_a", "_law_b", "_law_c", "_law_d", "_law_found", "_law_shift", "_law_entry"] ["_law_dice_here", "_law_level", "_law_one", "_law_matrix"] (defScope s_law_near) := ⟨rfl, rfl, rfl, by decide +kernel, rfl, by decide +kernel, by decide +kernel⟩
def R_law_near : List Dt → List Dt → (Dt → List Dt → Prop) → Prop := fun ds as G => ∃ (N a b c d : Int) (o : Dt) (m : Nat), as = [.int N, o, .tuple [.int a, .int b, .int c, .int d]] ∧ Dice m ds ∧ 1 ≤ N ∧ N ≤ 100 ∧ m + 2500 < 2 ^ 60 ∧ Bd 400 a ∧ Bd 400 b ∧ Bd 400 c ∧ Bd 400 d ∧ ∀ (vs ds : List Dt), (∀ v ∈ vs, Fine v) → vs.length ≤ 100 → Dice (m + 6) ds → G (.list vs) ds
theorem ok_law_near {f : Addr} {fd : FuncData} (F : Fun K "_law_near" "_law_near" s_law_near f fd) (m_tuple : mg "tuple" = none) (m_list : mg "list" = none) (m_str : mg "str" = none) (f_law_matrix_times : Fn P w K mg base "_law_matrix_times" 1 (spR K R_law_matrix_times)) (f_law_matrix_drawn : Fn P w K mg base "_law_matrix_drawn" 3 (spO K R_law_matrix_drawn)) : FnOk P w K mg base CX0 4 f fd ["_law_dice_here", "_law_level", "_law_one", "_law_matrix"] (spO K R_law_near) := by
  refine ok_O F sc_law_near (by decide) (fun ds as G ⟨N, a, b, c, d, o, mm, he, hD, hN1, hN2, hm, ha, hb, hc, hd, hG⟩ => by subst he; rfl) fun cdv A outer s H E hr ds as G ⟨N, a, b, c, d, o, mm, he, hD, hN1, hN2, hm, ha, hb, hc, hd, hG⟩ => ?_
  subst he
  have nd := sc_law_near.nd
  have hu := hr.units
  refine wb_asg (gt_tup rfl (gts_cons (gt_n 4) (gts_cons (gt_n 5) (gts_cons (gt_n 6) (gts_cons (gt_n 7) gts_nil))))) ?_
  refine vp_v 3 ?_
  refine ⟨_, rfl, rfl, _, _, rfl, _, _, rfl, _, _, rfl, _, _, rfl, rfl, ?_⟩
  show WB _ [_, _, _, _, _, _, _, _, _, _, _] _ _
  refine wb_set 8 ?_
  refine vp_list ?_
  refine va_cons ?_
  refine vp_v 3 ?_
  refine va_cons ?_
  refine vp_tup ?_
  refine va_cons ?_
  refine vp_neg ?_
  refine vp_v 4 ?_
  refine ⟨_, rfl, ?_⟩
  refine va_cons ?_
  refine vp_neg ?_
  refine vp_v 5 ?_
  refine ⟨_, rfl, ?_⟩
  refine va_cons ?_
  refine vp_neg ?_
  refine vp_v 6 ?_
  refine ⟨_, rfl, ?_⟩
  refine va_cons ?_
  refine vp_neg ?_
  refine vp_v 7 ?_
  refine ⟨_, rfl, ?_⟩
  refine va_nil ?_
  refine ⟨Nat.le_of_ble_eq_true rfl, ?_⟩
  refine va_cons ?_
  refine vp_tup ?_
  refine va_cons ?_
  refine vp_v 4 ?_
  refine va_cons ?_
  refine vp_v 5 ?_
  refine va_cons ?_
  refine vp_v 6 ?_
  refine va_nil ?_
  refine ⟨Nat.le_of_ble_eq_true rfl, ?_⟩
  refine va_cons ?_
  refine vp_listOf m_list rfl ?_
  refine vp_v 3 ?_
  refine ⟨_, SeqD.t, ?_⟩
  refine va_cons ?_
  refine vp_none ?_
  refine va_cons ?_
  refine vp_tup ?_
  refine va_cons ?_
  refine vp_v 4 ?_
  refine va_cons ?_
  refine vp_v 5 ?_
  refine va_cons ?_
  refine vp_v 6 ?_
  refine va_cons ?_
  refine vp_add ?_
  refine vp_v 7 ?_
  refine ⟨_, rfl, ?_⟩
  refine vp_int ?_
  refine ⟨_, rfl, ?_⟩
  refine va_nil ?_
  refine ⟨Nat.le_of_ble_eq_true rfl, ?_⟩
  refine va_cons ?_
  refine vp_tup ?_
  refine va_cons ?_
  refine vp_v 4 ?_
  refine va_cons ?_
  refine vp_v 5 ?_
  refine va_cons ?_
  refine vp_add ?_
  refine vp_v 6 ?_
  refine ⟨_, rfl, ?_⟩
  refine vp_v 1 ?_
  refine ⟨_, rfl, ?_⟩
  refine va_cons ?_
  refine vp_v 7 ?_
  refine va_nil ?_
  refine ⟨Nat.le_of_ble_eq_true rfl, ?_⟩
  refine va_cons ?_
  refine vp_tup ?_
  refine va_cons ?_
  refine vp_v 7 ?_
  refine va_cons ?_
  refine vp_neg ?_
  refine vp_v 5 ?_
  refine ⟨_, rfl, ?_⟩
  refine va_cons ?_
  refine vp_neg ?_
  refine vp_v 6 ?_
  refine ⟨_, rfl, ?_⟩
  refine va_cons ?_
  refine vp_v 4 ?_
  refine va_nil ?_
  refine ⟨Nat.le_of_ble_eq_true rfl, ?_⟩
  refine va_nil ?_
  refine ⟨Nat.le_of_ble_eq_true rfl, ?_⟩
  refine ⟨_, rfl, ?_⟩
  show WB _ [_, _, _, _, _, _, _, _, _, _, _] _ _
  have bN : Bd 60 N := Bd.of (m := 101) (by omega) (by omega) (by decide)
  refine wb_set 9 ?_
  refine vp_call f_law_matrix_times hr (by decide) rfl ?_
  refine va_cons ?_
  refine vp_v 3 ?_
  refine va_cons ?_
  refine vp_callO 0 f_law_matrix_drawn hr (by decide) rfl rfl (by first | exact Or.inl rfl | exact Or.inr (Or.inl rfl) | exact Or.inr (Or.inr rfl)) ?_ ⟨_, _, rfl⟩
  refine va_cons ?_
  refine vp_v 1 ?_
  refine va_cons ?_
  refine vp_int ?_
  refine va_nil ?_
  refine ⟨_, _, rfl, ?_⟩
  refine ⟨_, _, _, rfl, hD, hN1, hN2, by decide, by decide, by omega, fun a1 b1 c1 d1 ds k1 l1 m11 m21 m31 m41 hD => ?_⟩
  refine va_nil ?_
  have p1 : Bd 490 a1 := (Bd.mono (n := 14) (by unfold Bd; omega) (by decide))
  have p2 : Bd 490 b1 := (Bd.mono (n := 14) (by unfold Bd; omega) (by decide))
  have p3 : Bd 490 c1 := (Bd.mono (n := 14) (by unfold Bd; omega) (by decide))
  have p4 : Bd 490 d1 := (Bd.mono (n := 14) (by unfold Bd; omega) (by decide))
  refine ⟨_, _, _, _, _, _, _, _, rfl, ⟨ha.mono (by decide), hb.mono (by decide), hc.mono (by decide), hd.mono (by decide)⟩, ⟨p1, p2, p3, p4⟩, ?_⟩
  refine ⟨_, rfl, ?_⟩
  show WB _ [_, _, _, _, _, _, _, _, _, _, _] _ _
  refine wb_set 8 ?_
  refine vp_cat ?_
  refine vp_v 8 ?_
  refine vp_list ?_
  refine va_cons ?_
  refine vp_tup ?_
  refine va_cons ?_
  refine vp_mul ?_
  refine vp_int ?_
  refine ⟨_, rfl, ?_⟩
  refine vp_v 4 ?_
  refine ⟨_, rfl, by walk_at "mul_ok", ?_⟩
  refine va_cons ?_
  refine vp_mul ?_
  refine vp_int ?_
  refine ⟨_, rfl, ?_⟩
  refine vp_v 5 ?_
  refine ⟨_, rfl, by walk_at "mul_ok", ?_⟩
  refine va_cons ?_
  refine vp_mul ?_
  refine vp_int ?_
  refine ⟨_, rfl, ?_⟩
  refine vp_v 6 ?_
  refine ⟨_, rfl, by walk_at "mul_ok", ?_⟩
  refine va_cons ?_
  refine vp_mul ?_
  refine vp_int ?_
  refine ⟨_, rfl, ?_⟩
  refine vp_v 7 ?_
  refine ⟨_, rfl, by walk_at "mul_ok", ?_⟩
  refine va_nil ?_
  refine ⟨Nat.le_of_ble_eq_true rfl, ?_⟩
  refine va_cons ?_
  refine vp_tuple m_tuple rfl ?_
  refine vp_lcT [("_law_entry", 10)] rfl nd (blkOk_by rfl) (gtk_name 10 (by decide) (fun _ _ _ _ _ => pg_name nd rfl (by first | exact .inl rfl | exact .inr rfl))) ?_
  refine vp_v 3 ?_
  refine ⟨_, rfl, comp_map (fun _ => true) gvB (noOw1 rfl) (Nat.le_of_ble_eq_true rfl) (fun x hx => ?_) (fun x es N N' h hN => hN _ h) ?_⟩
  · refine fun s0 H0 C0 cl0 fp0 => vts_nil ⟨rfl, rfl, fun _ s1 H1 C1 cl1 fp1 => ?_⟩
    obtain ⟨i, rfl⟩ : ∃ i : Int, x = .int i := by
      simp only [List.mem_cons, List.not_mem_nil, or_false] at hx
      rcases hx with h | h | h | h <;> exact ⟨_, h⟩
    refine vp_ife ?_
    refine vt_inI ?_
    refine vp_v 10 ?_
    refine vp_tup ?_
    refine va_cons ?_
    refine vp_int ?_
    refine va_cons ?_
    refine vp_int ?_
    refine va_nil ?_
    refine ⟨Nat.le_of_ble_eq_true rfl, ?_⟩
    refine ⟨_, [0, 1], rfl, SeqD.t, ?_⟩
    refine ⟨fun h => ?_, fun h => ?_⟩
    · refine vp_eqD hu ?_
      refine vp_v 10 ?_
      refine vp_int ?_
      refine ⟨by walk_at "shd_ok", by walk_at "shd_ok", ?_⟩
      exact ⟨(if_pos h).symm, rfl⟩
    · refine vp_v 10 ?_
      exact ⟨(if_neg (by rw [h]; decide)).symm, rfl⟩
  refine ⟨_, SeqD.l, ?_⟩
  refine va_nil ?_
  refine ⟨Nat.le_of_ble_eq_true rfl, ?_⟩
  refine ⟨_, _, rfl, rfl, Nat.le_of_ble_eq_true rfl, ?_⟩
  refine ⟨_, rfl, ?_⟩
  show WB _ [_, _, _, _, _, _, _, _, _, _, _] _ _
  refine wb_ret ?_
  refine vp_cat ?_
  refine vp_v 8 ?_
  refine vp_list ?_
  refine va_cons ?_
  refine vp_v 9 ?_
  refine va_cons ?_
  refine vp_tup ?_
  refine va_cons ?_
  refine vp_v 4 ?_
  refine va_cons ?_
  refine vp_v 5 ?_
  refine va_cons ?_
  refine vp_v 6 ?_
  refine va_cons ?_
  refine vp_none ?_
  refine va_nil ?_
  refine ⟨Nat.le_of_ble_eq_true rfl, ?_⟩
  refine va_cons ?_
  refine vp_tup ?_
  refine va_cons ?_
  refine vp_v 4 ?_
  refine va_cons ?_
  refine vp_v 5 ?_
  refine va_cons ?_
  refine vp_v 6 ?_
  refine va_cons ?_
  refine vp_strI m_str rfl ?_
  refine vp_v 7 ?_
  refine ⟨_, rfl, Bdlg hd (by decide) (by decide), ?_⟩
  refine va_nil ?_
  refine ⟨Nat.le_of_ble_eq_true rfl, ?_⟩
  refine va_cons ?_
  refine vp_catT ?_
  refine vp_v 3 ?_
  refine vp_tup ?_
  refine va_cons ?_
  refine vp_int ?_
  refine va_nil ?_
  refine ⟨Nat.le_of_ble_eq_true rfl, ?_⟩
  refine ⟨_, _, rfl, rfl, (by simp), (by simp), (by simp), ?_⟩
  refine va_cons ?_
  refine vp_dnew ?_
  refine va_cons ?_
  refine vp_callO 0 f_law_matrix_drawn hr (by decide) rfl rfl (by first | exact Or.inl rfl | exact Or.inr (Or.inl rfl) | exact Or.inr (Or.inr rfl)) ?_ ⟨_, _, rfl⟩
  refine va_cons ?_
  refine vp_v 1 ?_
  refine va_cons ?_
  refine vp_int ?_
  refine va_nil ?_
  refine ⟨_, _, rfl, ?_⟩
  refine ⟨_, _, _, rfl, hD, hN1, hN2, by decide, by decide, by omega, fun a2 b2 c2 d2 ds k2 l2 m12 m22 m32 m42 hD => ?_⟩
  refine va_nil ?_
  refine ⟨Nat.le_of_ble_eq_true rfl, ?_⟩
  refine ⟨_, _, rfl, rfl, Nat.le_of_ble_eq_true rfl, ?_⟩
  refine ⟨_, rfl, hG _ _ ?_ (Nat.le_of_ble_eq_true rfl) (hD.up (by omega))⟩
  have q1 : Bd 500 a1 := (Bd.mono (n := 14) (by unfold Bd; omega) (by decide))
  have q2 : Bd 500 b1 := (Bd.mono (n := 14) (by unfold Bd; omega) (by decide))
  have q3 : Bd 500 c1 := (Bd.mono (n := 14) (by unfold Bd; omega) (by decide))
  have q4 : Bd 500 d1 := (Bd.mono (n := 14) (by unfold Bd; omega) (by decide))
  have r1 : Bd 1000 a2 := (Bd.mono (n := 14) (by unfold Bd; omega) (by decide))
  have r2 : Bd 1000 b2 := (Bd.mono (n := 14) (by unfold Bd; omega) (by decide))
  have r3 : Bd 1000 c2 := (Bd.mono (n := 14) (by unfold Bd; omega) (by decide))
  have r4 : Bd 1000 d2 := (Bd.mono (n := 14) (by unfold Bd; omega) (by decide))
  have A : Bd 1000 a := ha.mono (by decide)
  have B' : Bd 1000 b := hb.mono (by decide)
  have C' : Bd 1000 c := hc.mono (by decide)
  have D : Bd 1000 d := hd.mono (by decide)
  have t2 : Bd 12 (2 : Int) := Bd.lit 12 (by decide +kernel)
  intro v hv
  simp only [List.mem_append, List.mem_cons, List.not_mem_nil, or_false] at hv
  rcases hv with ((h | h | h | h | h | h | h | h) | h | h) | h | h | h | h | h | h <;> subst h
  · exact fine_M A B' C' D
  · exact fine_M A.neg B'.neg C'.neg D.neg
  · exact fine_3
  · exact fine_o rfl rfl
  · exact fine_o rfl rfl
  · exact fine_M A B' C' ((hd.add (Bd.lit 12 (by decide +kernel))).mono (by decide))
  · exact fine_M A B' ((hc.add bN).mono (by decide)) D
  · exact fine_M D B'.neg C'.neg A
  · exact fine_M ((t2.mul ha).mono (by decide)) ((t2.mul hb).mono (by decide)) ((t2.mul hc).mono (by decide)) ((t2.mul hd).mono (by decide))
  · exact fine_B A B' C' D
  · exact fine_M (((ha.mul q1).add (hb.mul q3)).mono (by decide)) (((ha.mul q2).add (hb.mul q4)).mono (by decide)) (((hc.mul q1).add (hd.mul q3)).mono (by decide)) (((hc.mul q2).add (hd.mul q4)).mono (by decide))
  · exact fine_x rfl atD_none rfl
  · exact fine_x rfl (atD_str _) rfl
  · exact fine_5
  · exact fine_o rfl rfl
  · exact fine_M r1 r2 r3 r4
end
end Pf

set_option Elab.async false
set_option linter.all false
set_option maxRecDepth 100000
set_option maxHeartbeats 4000000
namespace Pf
open PySem PySem.Spec PyProof.Rows L2 Lv
local macro_rules | `(tactic| walk_at "bd") => `(tactic| repeat (first | assumption | exact Bd.lit 12 (by decide +kernel) | exact Bd.lit 80 (by decide +kernel) | exact Bd.lit 500 (by decide +kernel) | apply Bd.mul | apply Bd.add | apply Bd.sub | apply Bd.neg | apply Bd.mod | apply Bd.div | apply Bd.ite | decide | omega))
local macro_rules | `(tactic| walk_at "mul_ok") => `(tactic| (apply Bd.cmul; (focus walk_at "bd"); (focus walk_at "bd"); decide))
local macro_rules | `(tactic| walk_at "bdm") => `(tactic| (apply Bd.mono; (focus walk_at "bd"); decide))
local macro_rules | `(tactic| walk_at "pos_ok") => `(tactic| first | assumption | decide | omega)
local macro_rules | `(tactic| walk_at "div_ok") => `(tactic| (apply Bd.cdiv; (focus walk_at "pos_ok"); (focus walk_at "bd"); decide; decide))
local macro_rules | `(tactic| walk_at "divv_ok") => `(tactic| (apply Bd.cdivV; (focus (first | assumption | omega)); (focus walk_at "bd"); decide; decide))
local macro_rules | `(tactic| walk_at "shd_ok") => `(tactic| exact ⟨rfl, rfl⟩)
local macro_rules | `(tactic| walk_at "notO_ok") => `(tactic| first | assumption | rfl)
section
variable {P : Program} {w : World} {K : PySem.W.Frag} {mg : Str → Option Value} {base : Heap}

theorem shD_ite (b : Bool) : shD (.str (if b = true then "True" else "False")) := by
  cases b
  · exact ⟨rfl, by
      have := (atD_str "False").2.1
      show ((toPy (.str "False")).canLay0 && decide _) = true
      rw [this]; rfl⟩
  · exact ⟨rfl, by
      have := (atD_str "True").2.1
      show ((toPy (.str "True")).canLay0 && decide _) = true
      rw [this]; rfl⟩
theorem eqD_strs (x : Str) : eqD (.str x) (.str x) = true := by simp [eqD, toPy, PyData.eqv]
theorem isP_true {N p q a c e f g h : Int} (hE : OkFr a c) (hd : e * h - f * g = 1) (hn : N ∣ g) (h1 : e * p + f * q = a) (h2 : g * p + h * q = c) : isP N p q a c (.tuple [.int e, .int f, .int g, .int h]) = true := by
  show (decide (e * h - f * g = 1) && (decide (g % N = 0) && (decide ((nrm (e * p + f * q) (g * p + h * q)).1 = a) && decide ((nrm (e * p + f * q) (g * p + h * q)).2 = c)))) = true
  rw [h1, h2, nrm_self hE.1]
  simp [hd, Int.emod_eq_zero_of_dvd hn]
abbrev s_law_pair_right : Stmt := top 49
theorem sc_law_pair_right : FnScope ["_law_dice_here", "_law_level", "_law_one", "_law_other", "_law_is_due", "_law_told", "_law_near_here", "_law_value", "_law_many"] ["_law_dice_here", "_law_level", "_law_one", "_law_other"] (defScope s_law_pair_right) := ⟨rfl, rfl, rfl, by decide +kernel, rfl, by decide +kernel, by decide +kernel⟩
def R_law_pair_right : List Dt → List Dt → (Dt → List Dt → Prop) → Prop := fun ds as G => ∃ (N p q a c : Int) (m : Nat), as = [.int N, .tuple [.int p, .int q], .tuple [.int a, .int c]] ∧ Dice m ds ∧ 1 ≤ N ∧ N ≤ 100 ∧ OkFr p q ∧ OkFr a c ∧ m + 3000 < 2 ^ 60 ∧ ∀ ds : List Dt, Dice (m + 20) ds → G (.bool true) ds
theorem ok_law_pair_right {f : Addr} {fd : FuncData} (F : Fun K "_law_pair_right" "_law_pair_right" s_law_pair_right f fd) (m_repr : mg "repr" = none) (f_law_rim_told : Fn P w K mg base "_law_rim_told" 2 (spR K R_law_rim_told)) (frim_paper : Fn P w K mg base "rim_paper" 6 (spR K Rrim_paper)) (fare_same_rim : Fn P w K mg base "are_same_rim" 6 (spR K Rare_same_rim)) (f_law_is_paper : Fn P w K mg base "_law_is_paper" 4 (spR K R_law_is_paper)) (f_law_near : Fn P w K mg base "_law_near" 4 (spO K R_law_near)) (f_law_matrix_drawn : Fn P w K mg base "_law_matrix_drawn" 3 (spO K R_law_matrix_drawn)) (f_law_roll : Fn P w K mg base "_law_roll" 1 (spO K R_law_roll)) (f_law_between : Fn P w K mg base "_law_between" 3 (spR K R_law_between)) (fis_rim_paper : Fn P w K mg base "is_rim_paper" 6 (spR K Ris_rim_paper)) : FnOk P w K mg base CX0 7 f fd ["_law_dice_here", "_law_level", "_law_one", "_law_other"] (spO K R_law_pair_right) := by
  refine ok_O F sc_law_pair_right (by decide) (fun ds as G ⟨N, p, q, a, c, m, he, hD, hN1, hN2, hF, hE, hm, hG⟩ => by subst he; rfl) fun cdv A outer s H E hr ds as G ⟨N, p, q, a, c, m, he, hD, hN1, hN2, hF, hE, hm, hG⟩ => ?_
  subst he
  have nd := sc_law_pair_right.nd
  have hu := hr.units
  obtain ⟨t1, L1, l1⟩ := rim_ex hN1 hN2 hF.1.2.1
  obtain ⟨t2, L2, l2⟩ := rim_ex hN1 hN2 hE.1.2.1
  refine wb_set 4 ?_
  refine vp_eqD hu ?_
  refine vp_call f_law_rim_told hr (by decide) rfl ?_
  refine va_cons ?_
  refine vp_v 1 ?_
  refine va_cons ?_
  refine vp_ix ?_
  refine vp_v 2 ?_
  refine vp_int ?_
  refine ⟨_, _, _, SeqD.t, rfl, rfl, ?_⟩
  refine va_cons ?_
  refine vp_ix ?_
  refine vp_v 2 ?_
  refine vp_int ?_
  refine ⟨_, _, _, SeqD.t, rfl, rfl, ?_⟩
  refine va_nil ?_
  refine ⟨_, _, _, _, rfl, hN1, hN2, hF, L1, l1, ?_⟩
  refine vp_call f_law_rim_told hr (by decide) rfl ?_
  refine va_cons ?_
  refine vp_v 1 ?_
  refine va_cons ?_
  refine vp_ix ?_
  refine vp_v 3 ?_
  refine vp_int ?_
  refine ⟨_, _, _, SeqD.t, rfl, rfl, ?_⟩
  refine va_cons ?_
  refine vp_ix ?_
  refine vp_v 3 ?_
  refine vp_int ?_
  refine ⟨_, _, _, SeqD.t, rfl, rfl, ?_⟩
  refine va_nil ?_
  refine ⟨_, _, _, _, rfl, hN1, hN2, hE, L2, l2, ?_⟩
  refine ⟨⟨rfl, rfl⟩, ⟨rfl, rfl⟩, ?_⟩
  rw [eqD_t2]
  generalize hdue : (decide (t1 = t2) && decide (rimG N q = rimG N c)) = due
  refine ⟨_, rfl, ?_⟩
  show WB _ [_, _, _, _, _, _, _, _, _] _ _
  refine wb_set 5 ?_
  refine vp_call frim_paper hr (by decide) rfl ?_
  refine va_cons ?_
  refine vp_v 1 ?_
  refine va_cons ?_
  refine vp_v 2 ?_
  refine va_cons ?_
  refine vp_v 3 ?_
  refine va_nil ?_
  refine ⟨_, _, _, _, _, rfl, hN1, hN2, hF, hE, fun e f g w hdet hdv he1 he2 be bf bg bh => ?_, fun x y b d hx hy hno => ?_⟩
  · refine ⟨_, rfl, ?_⟩
    show WB _ [_, _, _, _, _, _, _, _, _] _ _
    obtain ⟨z1, z2⟩ := rim_exact hN1 hdet hdv he1 he2 L1 L2
    have hd : due = true := by rw [← hdue, z1, z2]; simp
    subst hd
    have FV : Fine (.tuple [.int e, .int f, .int g, .int w]) := fine_M (be.mono (by decide)) (bf.mono (by decide)) (bg.mono (by decide)) (bh.mono (by decide))
    have hP := isP_true hE hdet hdv he1 he2
    refine wb_ifR ?_
    refine vt_w ?_
    refine vw_orP ?_
    refine vt_neD hu ?_
    refine vp_isnot ?_
    refine vp_v 5 ?_
    refine vp_v 4 ?_
    refine ⟨by walk_at "shd_ok", by walk_at "shd_ok", ?_⟩
    apply Exists.intro
    refine ⟨fun h => ?_, ?_⟩
    · refine vw_or1 ?_
      refine vt_neD hu ?_
      refine vp_call fare_same_rim hr (by decide) rfl ?_
      refine va_cons ?_
      refine vp_v 1 ?_
      refine va_cons ?_
      refine vp_v 2 ?_
      refine va_cons ?_
      refine vp_v 3 ?_
      refine va_nil ?_
      refine ⟨_, _, _, _, _, _, _, rfl, hN1, hN2, hF, hE, L1, L2, ?_⟩
      refine vp_v 4 ?_
      refine ⟨by walk_at "shd_ok", by walk_at "shd_ok", ?_⟩
      exact ⟨rfl, rfl⟩
    refine ⟨fun h => ?_, fun h => ?_⟩
    · rw [hdue] at h
      cases h
    refine wb_ifR ?_
    refine vt_w ?_
    refine vw_andP ?_
    refine vt_isnot ?_
    refine vp_v 5 ?_
    apply Exists.intro
    refine ⟨fun h => ?_, ?_⟩
    · refine vw_and1 ?_
      refine vt_not ?_
      refine vt_val ?_
      refine vp_call f_law_is_paper hr (by decide) rfl ?_
      refine va_cons ?_
      refine vp_v 1 ?_
      refine va_cons ?_
      refine vp_v 2 ?_
      refine va_cons ?_
      refine vp_v 3 ?_
      refine va_cons ?_
      refine vp_v 5 ?_
      refine va_nil ?_
      refine ⟨_, _, _, _, _, _, rfl, hN1, hN2, hF, FV.1, FV.2, ?_⟩
      refine ⟨_, rfl, ?_⟩
      exact ⟨rfl, rfl⟩
    refine ⟨fun h => ?_, fun h => ?_⟩
    · rw [hP] at h
      cases h
    refine wb_set 6 ?_
    refine vp_callO 0 f_law_near hr (by decide) rfl rfl (by first | exact Or.inl rfl | exact Or.inr (Or.inl rfl) | exact Or.inr (Or.inr rfl)) ?_ ⟨_, _, rfl⟩
    refine va_cons ?_
    refine vp_v 1 ?_
    refine va_cons ?_
    refine vp_v 2 ?_
    refine va_cons ?_
    refine vp_ife ?_
    refine vt_isnot ?_
    refine vp_v 5 ?_
    refine ⟨fun h => ?_, fun h => (by cases h)⟩
    refine vp_v 5 ?_
    refine va_nil ?_
    refine ⟨_, _, rfl, ?_⟩
    refine ⟨_, _, _, _, _, _, _, rfl, hD, hN1, hN2, by omega, be, bf, bg, bh, fun vs ds hvs hvl hD => ?_⟩
    refine ⟨_, rfl, ?_⟩
    show WB _ [_, _, _, _, _, _, _, _, _] _ _
    refine wb_set 6 ?_
    refine vp_cat ?_
    refine vp_v 6 ?_
    refine vp_lcT [("_law_many", 8)] rfl nd (blkOk_by rfl) (gtk_name 8 (by decide) (fun _ _ _ _ _ => pg_name nd rfl (by first | exact .inl rfl | exact .inr rfl))) ?_
    refine vp_tup ?_
    refine va_cons ?_
    refine vp_int ?_
    refine va_cons ?_
    refine vp_int ?_
    refine va_cons ?_
    refine vp_neg ?_
    refine vp_int ?_
    refine ⟨_, rfl, ?_⟩
    refine va_cons ?_
    refine vp_callO 0 f_law_roll hr (by decide) rfl rfl (by first | exact Or.inl rfl | exact Or.inr (Or.inl rfl) | exact Or.inr (Or.inr rfl)) ?_ ⟨_, _, rfl⟩
    refine va_cons ?_
    refine vp_int ?_
    refine va_nil ?_
    refine ⟨_, _, rfl, ?_⟩
    refine ⟨_, _, rfl, hD, (by omega), (Bd.of (m := 2000) (by omega) (by omega) (by decide)), by omega, fun r1 ds a1 b1 hD => ?_⟩
    refine va_nil ?_
    refine ⟨Nat.le_of_ble_eq_true rfl, ?_⟩
    refine ⟨_, rfl, comp_all Fine (noOw1 rfl) (Nat.le_of_ble_eq_true rfl) (fun x hx => ?_) (fun x es N N' h hN => hN _ h) fun acc hacc hal => ?_⟩
    · obtain ⟨k, rfl, bk⟩ : ∃ k : Int, x = .int k ∧ Bd 60 k := by
        simp only [List.mem_cons, List.not_mem_nil, or_false] at hx
        rcases hx with h | h | h | h <;> refine ⟨_, h, ?_⟩
        · exact Bd.lit 60 (by decide +kernel)
        · exact Bd.lit 60 (by decide +kernel)
        · exact Bd.lit 60 (by decide +kernel)
        · exact Bd.of (m := 2000) (by omega) (by omega) (by decide)
      refine fun s0 H0 C0 cl0 fp0 => vts_nil ⟨rfl, fun _ s1 H1 C1 cl1 fp1 => ?_⟩
      refine vp_call f_law_between hr (by decide) rfl ?_
      refine va_cons ?_
      refine vp_v 2 ?_
      refine va_cons ?_
      refine vp_v 3 ?_
      refine va_cons ?_
      refine vp_v 8 ?_
      refine va_nil ?_
      refine ⟨_, _, _, _, _, rfl, hF.bp, hF.bq, hE.bp, hE.bq, bk, fun a b c d x1 x2 x3 x4 => ?_⟩
      exact ⟨fine_M x1 x2 x3 x4, rfl⟩
    have hal4 : acc.length ≤ 4 := hal
    refine ⟨_, _, rfl, rfl, by omega, ?_⟩
    refine ⟨_, rfl, ?_⟩
    show WB _ [_, _, _, _, _, _, _, _, _] _ _
    have hall : ∀ v ∈ vs ++ acc, Fine v := fun v hv => (List.mem_append.mp hv).elim (hvs v) (hacc v)
    refine wb_cons (ws_forL PassesOwn.never rfl (gt_n 7) ?_)
    refine vp_v 6 ?_
    refine ⟨_, rfl, fun i es => ∃ x1 : Sl, es = [.ow false ds, .fz (.int N), .fz (.tuple [.int p, .int q]), .fz (.tuple [.int a, .int c]), .fz (.bool true), .fz (.tuple [.int e, .int f, .int g, .int w]), .fz (.list (vs ++ acc)), x1, .no], ⟨_, rfl⟩, fun i x es hx ⟨x1, he⟩ => ?_, fun es ⟨x1, he⟩ => ?_⟩
    · subst he
      have FV := hall x (List.mem_of_getElem? hx)
      show WB _ [_, _, _, _, _, _, _, _, _] _ _
      refine wb_ifR ?_
      refine vt_neD hu ?_
      refine vp_reprB m_repr rfl ?_
      refine vp_call fis_rim_paper hr (by decide) rfl ?_
      refine va_cons ?_
      refine vp_v 1 ?_
      refine va_cons ?_
      refine vp_v 2 ?_
      refine va_cons ?_
      refine vp_v 3 ?_
      refine va_cons ?_
      refine vp_v 7 ?_
      refine va_nil ?_
      refine ⟨_, _, _, _, _, _, rfl, hN1, hN2, hF, hE, FV.1, FV.2, ?_⟩
      refine ⟨_, rfl, ?_⟩
      refine vp_reprB m_repr rfl ?_
      refine vp_call f_law_is_paper hr (by decide) rfl ?_
      refine va_cons ?_
      refine vp_v 1 ?_
      refine va_cons ?_
      refine vp_v 2 ?_
      refine va_cons ?_
      refine vp_v 3 ?_
      refine va_cons ?_
      refine vp_v 7 ?_
      refine va_nil ?_
      refine ⟨_, _, _, _, _, _, rfl, hN1, hN2, hF, FV.1, FV.2, ?_⟩
      refine ⟨_, rfl, ?_⟩
      generalize isP N p q a c x = bb
      refine ⟨shD_ite bb, shD_ite bb, ?_⟩
      refine ⟨fun h => ?_, fun h => wb_nil ⟨_, rfl⟩⟩
      rw [eqD_strs] at h
      cases h
    · subst he
      refine wb_ret ?_
      refine vp_bool ?_
      exact ⟨_, rfl, hG _ (hD.up (by omega))⟩
  · refine ⟨_, rfl, ?_⟩
    show WB _ [_, _, _, _, _, _, _, _, _] _ _
    have hd : due = false := by
      cases due with
      | false => rfl
      | true =>
        rw [Bool.and_eq_true] at hdue
        have w1 := of_decide_eq_true hdue.1
        have w2 := of_decide_eq_true hdue.2
        rw [← w1] at L2
        obtain ⟨k, k0, k1, k2⟩ := rim_same hN1 hx hy L1 L2 w2
        exact absurd k2 (hno k k0 k1)
    subst hd
    refine wb_ifR ?_
    refine vt_w ?_
    refine vw_orP ?_
    refine vt_neD hu ?_
    refine vp_isnot ?_
    refine vp_v 5 ?_
    refine vp_v 4 ?_
    refine ⟨by walk_at "shd_ok", by walk_at "shd_ok", ?_⟩
    apply Exists.intro
    refine ⟨fun h => ?_, ?_⟩
    · refine vw_or1 ?_
      refine vt_neD hu ?_
      refine vp_call fare_same_rim hr (by decide) rfl ?_
      refine va_cons ?_
      refine vp_v 1 ?_
      refine va_cons ?_
      refine vp_v 2 ?_
      refine va_cons ?_
      refine vp_v 3 ?_
      refine va_nil ?_
      refine ⟨_, _, _, _, _, _, _, rfl, hN1, hN2, hF, hE, L1, L2, ?_⟩
      refine vp_v 4 ?_
      refine ⟨by walk_at "shd_ok", by walk_at "shd_ok", ?_⟩
      exact ⟨rfl, rfl⟩
    refine ⟨fun h => ?_, fun h => ?_⟩
    · rw [hdue] at h
      cases h
    refine wb_ifR ?_
    refine vt_w ?_
    refine vw_andP ?_
    refine vt_isnot ?_
    refine vp_v 5 ?_
    refine ⟨false, fun h => (by cases h), ?_⟩
    refine ⟨fun h => (by cases h), fun h => ?_⟩
    refine wb_set 6 ?_
    refine vp_callO 0 f_law_near hr (by decide) rfl rfl (by first | exact Or.inl rfl | exact Or.inr (Or.inl rfl) | exact Or.inr (Or.inr rfl)) ?_ ⟨_, _, rfl⟩
    refine va_cons ?_
    refine vp_v 1 ?_
    refine va_cons ?_
    refine vp_v 2 ?_
    refine va_cons ?_
    refine vp_ife ?_
    refine vt_isnot ?_
    refine vp_v 5 ?_
    refine ⟨fun h => (by cases h), fun h => ?_⟩
    refine vp_callO 0 f_law_matrix_drawn hr (by decide) rfl rfl (by first | exact Or.inl rfl | exact Or.inr (Or.inl rfl) | exact Or.inr (Or.inr rfl)) ?_ ⟨_, _, rfl⟩
    refine va_cons ?_
    refine vp_v 1 ?_
    refine va_cons ?_
    refine vp_int ?_
    refine va_nil ?_
    refine ⟨_, _, rfl, ?_⟩
    refine ⟨_, _, _, rfl, hD, hN1, hN2, by decide, by decide, by omega, fun e f g w ds k l m1 m2 m3 m4 hD => ?_⟩
    refine va_nil ?_
    refine ⟨_, _, rfl, ?_⟩
    refine ⟨_, _, _, _, _, _, _, rfl, hD, hN1, hN2, by omega, (Bd.mono (n := 14) (by unfold Bd; omega) (by decide)), (Bd.mono (n := 14) (by unfold Bd; omega) (by decide)), (Bd.mono (n := 14) (by unfold Bd; omega) (by decide)), (Bd.mono (n := 14) (by unfold Bd; omega) (by decide)), fun vs ds hvs hvl hD => ?_⟩
    refine ⟨_, rfl, ?_⟩
    show WB _ [_, _, _, _, _, _, _, _, _] _ _
    refine wb_set 6 ?_
    refine vp_cat ?_
    refine vp_v 6 ?_
    refine vp_lcT [("_law_many", 8)] rfl nd (blkOk_by rfl) (gtk_name 8 (by decide) (fun _ _ _ _ _ => pg_name nd rfl (by first | exact .inl rfl | exact .inr rfl))) ?_
    refine vp_tup ?_
    refine va_cons ?_
    refine vp_int ?_
    refine va_cons ?_
    refine vp_int ?_
    refine va_cons ?_
    refine vp_neg ?_
    refine vp_int ?_
    refine ⟨_, rfl, ?_⟩
    refine va_cons ?_
    refine vp_callO 0 f_law_roll hr (by decide) rfl rfl (by first | exact Or.inl rfl | exact Or.inr (Or.inl rfl) | exact Or.inr (Or.inr rfl)) ?_ ⟨_, _, rfl⟩
    refine va_cons ?_
    refine vp_int ?_
    refine va_nil ?_
    refine ⟨_, _, rfl, ?_⟩
    refine ⟨_, _, rfl, hD, (by omega), (Bd.of (m := 2000) (by omega) (by omega) (by decide)), by omega, fun r2 ds a2 b2 hD => ?_⟩
    refine va_nil ?_
    refine ⟨Nat.le_of_ble_eq_true rfl, ?_⟩
    refine ⟨_, rfl, comp_all Fine (noOw1 rfl) (Nat.le_of_ble_eq_true rfl) (fun x hx => ?_) (fun x es N N' h hN => hN _ h) fun acc hacc hal => ?_⟩
    · obtain ⟨k, rfl, bk⟩ : ∃ k : Int, x = .int k ∧ Bd 60 k := by
        simp only [List.mem_cons, List.not_mem_nil, or_false] at hx
        rcases hx with h | h | h | h <;> refine ⟨_, h, ?_⟩
        · exact Bd.lit 60 (by decide +kernel)
        · exact Bd.lit 60 (by decide +kernel)
        · exact Bd.lit 60 (by decide +kernel)
        · exact Bd.of (m := 2000) (by omega) (by omega) (by decide)
      refine fun s0 H0 C0 cl0 fp0 => vts_nil ⟨rfl, fun _ s1 H1 C1 cl1 fp1 => ?_⟩
      refine vp_call f_law_between hr (by decide) rfl ?_
      refine va_cons ?_
      refine vp_v 2 ?_
      refine va_cons ?_
      refine vp_v 3 ?_
      refine va_cons ?_
      refine vp_v 8 ?_
      refine va_nil ?_
      refine ⟨_, _, _, _, _, rfl, hF.bp, hF.bq, hE.bp, hE.bq, bk, fun a b c d x1 x2 x3 x4 => ?_⟩
      exact ⟨fine_M x1 x2 x3 x4, rfl⟩
    have hal4 : acc.length ≤ 4 := hal
    refine ⟨_, _, rfl, rfl, by omega, ?_⟩
    refine ⟨_, rfl, ?_⟩
    show WB _ [_, _, _, _, _, _, _, _, _] _ _
    have hall : ∀ v ∈ vs ++ acc, Fine v := fun v hv => (List.mem_append.mp hv).elim (hvs v) (hacc v)
    refine wb_cons (ws_forL PassesOwn.never rfl (gt_n 7) ?_)
    refine vp_v 6 ?_
    refine ⟨_, rfl, fun i es => ∃ x1 : Sl, es = [.ow false ds, .fz (.int N), .fz (.tuple [.int p, .int q]), .fz (.tuple [.int a, .int c]), .fz (.bool false), .fz (.none), .fz (.list (vs ++ acc)), x1, .no], ⟨_, rfl⟩, fun i x es hx ⟨x1, he⟩ => ?_, fun es ⟨x1, he⟩ => ?_⟩
    · subst he
      have FV := hall x (List.mem_of_getElem? hx)
      show WB _ [_, _, _, _, _, _, _, _, _] _ _
      refine wb_ifR ?_
      refine vt_neD hu ?_
      refine vp_reprB m_repr rfl ?_
      refine vp_call fis_rim_paper hr (by decide) rfl ?_
      refine va_cons ?_
      refine vp_v 1 ?_
      refine va_cons ?_
      refine vp_v 2 ?_
      refine va_cons ?_
      refine vp_v 3 ?_
      refine va_cons ?_
      refine vp_v 7 ?_
      refine va_nil ?_
      refine ⟨_, _, _, _, _, _, rfl, hN1, hN2, hF, hE, FV.1, FV.2, ?_⟩
      refine ⟨_, rfl, ?_⟩
      refine vp_reprB m_repr rfl ?_
      refine vp_call f_law_is_paper hr (by decide) rfl ?_
      refine va_cons ?_
      refine vp_v 1 ?_
      refine va_cons ?_
      refine vp_v 2 ?_
      refine va_cons ?_
      refine vp_v 3 ?_
      refine va_cons ?_
      refine vp_v 7 ?_
      refine va_nil ?_
      refine ⟨_, _, _, _, _, _, rfl, hN1, hN2, hF, FV.1, FV.2, ?_⟩
      refine ⟨_, rfl, ?_⟩
      generalize isP N p q a c x = bb
      refine ⟨shD_ite bb, shD_ite bb, ?_⟩
      refine ⟨fun h => ?_, fun h => wb_nil ⟨_, rfl⟩⟩
      rw [eqD_strs] at h
      cases h
    · subst he
      refine wb_ret ?_
      refine vp_bool ?_
      exact ⟨_, rfl, hG _ (hD.up (by omega))⟩
end
end Pf

set_option Elab.async false
set_option linter.all false
set_option maxRecDepth 100000
set_option maxHeartbeats 4000000
namespace Pf
open PySem PySem.Spec PyProof.Rows L2 Lv
local macro_rules | `(tactic| walk_at "bd") => `(tactic| repeat (first | assumption | exact Bd.lit 12 (by decide +kernel) | exact Bd.lit 80 (by decide +kernel) | exact Bd.lit 500 (by decide +kernel) | apply Bd.mul | apply Bd.add | apply Bd.sub | apply Bd.neg | apply Bd.mod | apply Bd.div | apply Bd.ite | decide | omega))
local macro_rules | `(tactic| walk_at "mul_ok") => `(tactic| (apply Bd.cmul; (focus walk_at "bd"); (focus walk_at "bd"); decide))
local macro_rules | `(tactic| walk_at "bdm") => `(tactic| (apply Bd.mono; (focus walk_at "bd"); decide))
local macro_rules | `(tactic| walk_at "pos_ok") => `(tactic| first | assumption | decide | omega)
local macro_rules | `(tactic| walk_at "div_ok") => `(tactic| (apply Bd.cdiv; (focus walk_at "pos_ok"); (focus walk_at "bd"); decide; decide))
local macro_rules | `(tactic| walk_at "divv_ok") => `(tactic| (apply Bd.cdivV; (focus (first | assumption | omega)); (focus walk_at "bd"); decide; decide))
local macro_rules | `(tactic| walk_at "shd_ok") => `(tactic| exact ⟨rfl, rfl⟩)
local macro_rules | `(tactic| walk_at "notO_ok") => `(tactic| first | assumption | rfl)
section
variable {P : Program} {w : World} {K : PySem.W.Frag} {mg : Str → Option Value} {base : Heap}

theorem jOf {a : Int} (h : a.natAbs ≤ 1000000) : isJ (.int a) = true := by
  show (decide _ && decide _) = true
  rw [decide_eq_true (by omega), decide_eq_true (by omega)]; rfl
theorem bOf {a : Int} (h : a.natAbs ≤ 1000000) : Bd 1000 a := (Bd.mono (n := 30) (by unfold Bd; omega) (by decide))
theorem frLed {a b c d p q : Int} (h : ¬(a * p + b * q = 0 ∧ c * p + d * q = 0)) (ha : a.natAbs ≤ 10000) (hb : b.natAbs ≤ 10000) (hc : c.natAbs ≤ 10000) (hd : d.natAbs ≤ 10000) (hp : p.natAbs ≤ 100) (hq : q.natAbs ≤ 100) : OkFr (nrm (a * p + b * q) (c * p + d * q)).1 (nrm (a * p + b * q) (c * p + d * q)).2 := by
  obtain ⟨e, _, _, _, F⟩ := nrm_fr h
  obtain ⟨s1, s2⟩ := nrm_sz h
  have k1 : (a * p).natAbs ≤ 10000 * 100 := by rw [Int.natAbs_mul]; exact Nat.mul_le_mul ha hp
  have k2 : (b * q).natAbs ≤ 10000 * 100 := by rw [Int.natAbs_mul]; exact Nat.mul_le_mul hb hq
  have k3 : (c * p).natAbs ≤ 10000 * 100 := by rw [Int.natAbs_mul]; exact Nat.mul_le_mul hc hp
  have k4 : (d * q).natAbs ≤ 10000 * 100 := by rw [Int.natAbs_mul]; exact Nat.mul_le_mul hd hq
  exact ⟨F, by omega, by omega, by omega⟩
abbrev s_law_right : Stmt := top 50
theorem sc_law_right : FnScope ["_law_dice_here", "_law_level", "_law_one", "_law_matrix", "_law_other", "_law_wide", "_law_third"] ["_law_dice_here"] (defScope s_law_right) := ⟨rfl, rfl, rfl, by decide +kernel, rfl, by decide +kernel, by decide +kernel⟩
def R_law_right : List Dt → List Dt → (Dt → List Dt → Prop) → Prop := fun ds as G => ∃ (m : Nat), as = [] ∧ Dice m ds ∧ m + 4000 < 2 ^ 60 ∧ ∀ ds : List Dt, Dice (m + 100) ds → G (.bool true) ds
theorem ok_law_right {f : Addr} {fd : FuncData} (F : Fun K "_law_right" "_law_right" s_law_right f fd) (f_law_level_drawn : Fn P w K mg base "_law_level_drawn" 3 (spO K R_law_level_drawn)) (f_law_fraction_drawn : Fn P w K mg base "_law_fraction_drawn" 3 (spO K R_law_fraction_drawn)) (f_law_matrix_drawn : Fn P w K mg base "_law_matrix_drawn" 3 (spO K R_law_matrix_drawn)) (f_law_matrix_led : Fn P w K mg base "_law_matrix_led" 3 (spR K R_law_matrix_led)) (fled_fraction : Fn P w K mg base "led_fraction" 4 (spR K Rled_fraction)) (frim_of : Fn P w K mg base "rim_of" 5 (spR K Rrim_of)) (fis_rim_paper : Fn P w K mg base "is_rim_paper" 6 (spR K Ris_rim_paper)) (f_law_pair_right : Fn P w K mg base "_law_pair_right" 7 (spO K R_law_pair_right)) (f_law_roll : Fn P w K mg base "_law_roll" 1 (spO K R_law_roll)) : FnOk P w K mg base CX0 8 f fd ["_law_dice_here"] (spO K R_law_right) := by
  refine ok_O F sc_law_right (by decide) (fun ds as G ⟨m, he, hD, hm, hG⟩ => by subst he; rfl) fun cdv A outer s H E hr ds as G ⟨m, he, hD, hm, hG⟩ => ?_
  subst he
  have nd := sc_law_right.nd
  have hu := hr.units
  refine wb_set 1 ?_
  refine vp_callO 0 f_law_level_drawn hr (by decide) rfl rfl (by first | exact Or.inl rfl | exact Or.inr (Or.inl rfl) | exact Or.inr (Or.inr rfl)) ?_ ⟨_, _, rfl⟩
  refine va_cons ?_
  refine vp_int ?_
  refine va_nil ?_
  refine ⟨_, _, rfl, ?_⟩
  refine ⟨_, _, rfl, hD, by decide, by decide, by omega, fun N ds hN1 n2 hD => ?_⟩
  refine ⟨_, rfl, ?_⟩
  show WB _ [_, _, _, _, _, _, _] _ _
  have hN2 : N ≤ 100 := by omega
  refine wb_par 2 3 ?_
  refine va_cons ?_
  refine vp_callO 0 f_law_fraction_drawn hr (by decide) rfl rfl (by first | exact Or.inl rfl | exact Or.inr (Or.inl rfl) | exact Or.inr (Or.inr rfl)) ?_ ⟨_, _, rfl⟩
  refine va_cons ?_
  refine vp_int ?_
  refine va_nil ?_
  refine ⟨_, _, rfl, ?_⟩
  refine ⟨_, _, rfl, hD, by decide, by decide, by omega, fun p q ds hF fp fq hD => ?_⟩
  refine va_cons ?_
  refine vp_callO 0 f_law_matrix_drawn hr (by decide) rfl rfl (by first | exact Or.inl rfl | exact Or.inr (Or.inl rfl) | exact Or.inr (Or.inr rfl)) ?_ ⟨_, _, rfl⟩
  refine va_cons ?_
  refine vp_v 1 ?_
  refine va_cons ?_
  refine vp_int ?_
  refine va_nil ?_
  refine ⟨_, _, rfl, ?_⟩
  refine ⟨_, _, _, rfl, hD, hN1, hN2, by decide, by decide, by omega, fun a b c d ds hdet hdv m1 m2 m3 m4 hD => ?_⟩
  refine va_nil ?_
  refine ⟨_, _, rfl, _, rfl, ?_⟩
  show WB _ [_, _, _, _, _, _, _] _ _
  have h1 : a * d - b * c ≠ 0 := by rw [hdet]; decide
  have h0 := lead0 (p := p) (q := q) h1 hF
  have hE := frLed h0 m1 m2 m3 m4 fp fq
  refine wb_set 4 ?_
  refine vp_call f_law_matrix_led hr (by decide) rfl ?_
  refine va_cons ?_
  refine vp_v 3 ?_
  refine va_cons ?_
  refine vp_v 2 ?_
  refine va_nil ?_
  refine ⟨_, _, _, _, _, _, rfl, ⟨bOf (by omega), bOf (by omega), bOf (by omega), bOf (by omega)⟩, hF.bp, hF.bq, h0, ?_⟩
  refine ⟨_, rfl, ?_⟩
  show WB _ [_, _, _, _, _, _, _] _ _
  obtain ⟨t1, L1, l1⟩ := rim_ex hN1 hN2 hF.1.2.1
  obtain ⟨t2, L2, l2⟩ := rim_ex hN1 hN2 hE.1.2.1
  obtain ⟨z1, z2⟩ := rim_led hN1 hdet hdv h0 hF.1 L1 L2
  have hP : isP N p q (nrm (a * p + b * q) (c * p + d * q)).1 (nrm (a * p + b * q) (c * p + d * q)).2 (.tuple [.int a, .int b, .int c, .int d]) = true := by
    show (decide (a * d - b * c = 1) && (decide (c % N = 0) && (decide _ && decide _))) = true
    rw [decide_eq_true hdet, decide_eq_true (Int.emod_eq_zero_of_dvd hdv), decide_eq_true rfl, decide_eq_true rfl]; rfl
  have FV : Fine (.tuple [.int a, .int b, .int c, .int d]) := fine_M (bOf (by omega)) (bOf (by omega)) (bOf (by omega)) (bOf (by omega))
  refine wb_ifR ?_
  refine vt_w ?_
  refine vw_orP ?_
  refine vt_neD hu ?_
  refine vp_call fled_fraction hr (by decide) rfl ?_
  refine va_cons ?_
  refine vp_v 3 ?_
  refine va_cons ?_
  refine vp_v 2 ?_
  refine va_nil ?_
  refine ⟨_, _, _, _, _, _, rfl, jOf (by omega), jOf (by omega), jOf (by omega), jOf (by omega), hF, h1, h0, ?_⟩
  refine vp_v 4 ?_
  refine ⟨by walk_at "shd_ok", by walk_at "shd_ok", ?_⟩
  generalize (nrm (a * p + b * q) (c * p + d * q)).1 = r at *
  generalize (nrm (a * p + b * q) (c * p + d * q)).2 = u at *
  apply Exists.intro
  refine ⟨fun h => ?_, ?_⟩
  · refine vw_or1 ?_
    refine vt_neD hu ?_
    refine vp_call frim_of hr (by decide) rfl ?_
    refine va_cons ?_
    refine vp_v 1 ?_
    refine va_cons ?_
    refine vp_v 4 ?_
    refine va_nil ?_
    refine ⟨_, _, _, _, rfl, hN1, hN2, hE, L2, ?_⟩
    refine vp_call frim_of hr (by decide) rfl ?_
    refine va_cons ?_
    refine vp_v 1 ?_
    refine va_cons ?_
    refine vp_v 2 ?_
    refine va_nil ?_
    refine ⟨_, _, _, _, rfl, hN1, hN2, hF, L1, ?_⟩
    exact ⟨⟨rfl, rfl⟩, ⟨rfl, rfl⟩, rfl, rfl⟩
  refine ⟨fun h => ?_, fun h => ?_⟩
  · rw [eqD_t2, eqD_t2, z1, z2] at h
    simp at h
  refine wb_ifR ?_
  refine vt_w ?_
  refine vw_or ?_
  refine vt_not ?_
  refine vt_val ?_
  refine vp_call fis_rim_paper hr (by decide) rfl ?_
  refine va_cons ?_
  refine vp_v 1 ?_
  refine va_cons ?_
  refine vp_v 2 ?_
  refine va_cons ?_
  refine vp_v 4 ?_
  refine va_cons ?_
  refine vp_v 3 ?_
  refine va_nil ?_
  refine ⟨_, _, _, _, _, _, rfl, hN1, hN2, hF, hE, FV.1, FV.2, ?_⟩
  refine ⟨_, rfl, ?_⟩
  refine ⟨fun h => ?_, fun h => ?_⟩
  · rw [hP] at h
    cases h
  refine vw_or1 ?_
  refine vt_not ?_
  refine vt_val ?_
  refine vp_callO 0 f_law_pair_right hr (by decide) rfl rfl (by first | exact Or.inl rfl | exact Or.inr (Or.inl rfl) | exact Or.inr (Or.inr rfl)) ?_ ⟨_, _, rfl⟩
  refine va_cons ?_
  refine vp_v 1 ?_
  refine va_cons ?_
  refine vp_v 2 ?_
  refine va_cons ?_
  refine vp_v 4 ?_
  refine va_nil ?_
  refine ⟨_, _, rfl, ?_⟩
  refine ⟨_, _, _, _, _, _, rfl, hD, hN1, hN2, hF, hE, by omega, fun ds hD => ?_⟩
  refine ⟨_, rfl, ?_⟩
  refine ⟨fun h => (by cases h), fun h => ?_⟩
  refine wb_set 5 ?_
  refine vp_tup ?_
  refine va_cons ?_
  refine vp_add ?_
  refine vp_int ?_
  refine ⟨_, rfl, ?_⟩
  refine vp_callO 0 f_law_roll hr (by decide) rfl rfl (by first | exact Or.inl rfl | exact Or.inr (Or.inl rfl) | exact Or.inr (Or.inr rfl)) ?_ ⟨_, _, rfl⟩
  refine va_cons ?_
  refine vp_int ?_
  refine va_nil ?_
  refine ⟨_, _, rfl, ?_⟩
  refine ⟨_, _, rfl, hD, (by omega), (Bd.of (m := 2000) (by omega) (by omega) (by decide)), by omega, fun r1 ds a1 b1 hD => ?_⟩
  refine ⟨_, rfl, ?_⟩
  refine va_cons ?_
  refine vp_sub ?_
  refine vp_callO 0 f_law_roll hr (by decide) rfl rfl (by first | exact Or.inl rfl | exact Or.inr (Or.inl rfl) | exact Or.inr (Or.inr rfl)) ?_ ⟨_, _, rfl⟩
  refine va_cons ?_
  refine vp_int ?_
  refine va_nil ?_
  refine ⟨_, _, rfl, ?_⟩
  refine ⟨_, _, rfl, hD, (by omega), (Bd.of (m := 2000) (by omega) (by omega) (by decide)), by omega, fun r2 ds a2 b2 hD => ?_⟩
  refine ⟨_, rfl, ?_⟩
  refine vp_int ?_
  refine ⟨_, rfl, ?_⟩
  refine va_cons ?_
  refine vp_sub ?_
  refine vp_callO 0 f_law_roll hr (by decide) rfl rfl (by first | exact Or.inl rfl | exact Or.inr (Or.inl rfl) | exact Or.inr (Or.inr rfl)) ?_ ⟨_, _, rfl⟩
  refine va_cons ?_
  refine vp_int ?_
  refine va_nil ?_
  refine ⟨_, _, rfl, ?_⟩
  refine ⟨_, _, rfl, hD, (by omega), (Bd.of (m := 2000) (by omega) (by omega) (by decide)), by omega, fun r3 ds a3 b3 hD => ?_⟩
  refine ⟨_, rfl, ?_⟩
  refine vp_int ?_
  refine ⟨_, rfl, ?_⟩
  refine va_cons ?_
  refine vp_int ?_
  refine va_nil ?_
  refine ⟨Nat.le_of_ble_eq_true rfl, ?_⟩
  refine ⟨_, rfl, ?_⟩
  show WB _ [_, _, _, _, _, _, _] _ _
  have b2 : Bd 60 (r2 - 4) := Bd.of (m := 2000) (by omega) (by omega) (by decide)
  have b3 : Bd 60 (r3 - 4) := Bd.of (m := 2000) (by omega) (by omega) (by decide)
  refine wb_ifR ?_
  refine vt_w ?_
  refine vw_andP ?_
  refine vt_neD hu ?_
  refine vp_mul ?_
  refine vp_ix ?_
  refine vp_v 5 ?_
  refine vp_int ?_
  refine ⟨_, _, _, SeqD.t, rfl, rfl, ?_⟩
  refine ⟨_, rfl, ?_⟩
  refine vp_ix ?_
  refine vp_v 5 ?_
  refine vp_int ?_
  refine ⟨_, _, _, SeqD.t, rfl, rfl, ?_⟩
  refine ⟨_, rfl, by walk_at "mul_ok", ?_⟩
  refine vp_int ?_
  refine ⟨by walk_at "shd_ok", by walk_at "shd_ok", ?_⟩
  refine ⟨false, fun h => ?_, ?_⟩
  · rw [eqD_int] at h
    have h1 : (2 + r1) * 0 - (r2 - 4) * (r3 - 4) ≠ 0 := by
      intro z
      have : (r2 - 4) * (r3 - 4) = 0 := by omega
      rw [this] at h; cases h
    have h0 := lead0 (p := p) (q := q) h1 hF
    refine vw_and1 ?_
    refine vt_neD hu ?_
    refine vp_call fled_fraction hr (by decide) rfl ?_
    refine va_cons ?_
    refine vp_v 5 ?_
    refine va_cons ?_
    refine vp_v 2 ?_
    refine va_nil ?_
    refine ⟨_, _, _, _, _, _, rfl, jOf (by omega), jOf (by omega), jOf (by omega), jOf (by omega), hF, h1, h0, ?_⟩
    refine vp_call f_law_matrix_led hr (by decide) rfl ?_
    refine va_cons ?_
    refine vp_v 5 ?_
    refine va_cons ?_
    refine vp_v 2 ?_
    refine va_nil ?_
    refine ⟨_, _, _, _, _, _, rfl, ⟨bOf (by omega), bOf (by omega), bOf (by omega), bOf (by omega)⟩, hF.bp, hF.bq, h0, ?_⟩
    refine ⟨by walk_at "shd_ok", by walk_at "shd_ok", ?_⟩
    refine ⟨?_, rfl⟩
    rw [eqD_t2]
    simp
  refine ⟨fun h => (by rw [Bool.and_false] at h; cases h), fun h => ?_⟩
  refine wb_set 6 ?_
  refine vp_callO 0 f_law_fraction_drawn hr (by decide) rfl rfl (by first | exact Or.inl rfl | exact Or.inr (Or.inl rfl) | exact Or.inr (Or.inr rfl)) ?_ ⟨_, _, rfl⟩
  refine va_cons ?_
  refine vp_int ?_
  refine va_nil ?_
  refine ⟨_, _, rfl, ?_⟩
  refine ⟨_, _, rfl, hD, by decide, by decide, by omega, fun p3 q3 ds hF3 fp3 fq3 hD => ?_⟩
  refine ⟨_, rfl, ?_⟩
  show WB _ [_, _, _, _, _, _, _] _ _
  refine wb_ret ?_
  refine vp_and ?_
  refine vp_callO 0 f_law_pair_right hr (by decide) rfl rfl (by first | exact Or.inl rfl | exact Or.inr (Or.inl rfl) | exact Or.inr (Or.inr rfl)) ?_ ⟨_, _, rfl⟩
  refine va_cons ?_
  refine vp_v 1 ?_
  refine va_cons ?_
  refine vp_v 2 ?_
  refine va_cons ?_
  refine vp_v 6 ?_
  refine va_nil ?_
  refine ⟨_, _, rfl, ?_⟩
  refine ⟨_, _, _, _, _, _, rfl, hD, hN1, hN2, hF, hF3, by omega, fun ds hD => ?_⟩
  refine ⟨_, rfl, fun h => ?_, fun h => (by cases h)⟩
  refine vp_one ?_
  refine vp_callO 0 f_law_pair_right hr (by decide) rfl rfl (by first | exact Or.inl rfl | exact Or.inr (Or.inl rfl) | exact Or.inr (Or.inr rfl)) ?_ ⟨_, _, rfl⟩
  refine va_cons ?_
  refine vp_v 1 ?_
  refine va_cons ?_
  refine vp_v 6 ?_
  refine va_cons ?_
  refine vp_v 2 ?_
  refine va_nil ?_
  refine ⟨_, _, rfl, ?_⟩
  refine ⟨_, _, _, _, _, _, rfl, hD, hN1, hN2, hF3, hF, by omega, fun ds hD => ?_⟩
  exact ⟨_, rfl, hG _ (hD.up (by omega))⟩
abbrev slaw : Stmt := top 51
theorem sclaw : FnScope ["_law_script", "_law_spot", "_law_dice_here", "_law_told"] ["_law_script"] (defScope slaw) := ⟨rfl, rfl, rfl, by decide +kernel, rfl, by decide +kernel, by decide +kernel⟩
abbrev Rlaw : List Dt → (Dt → Prop) → Prop := RLaw
theorem oklaw {f : Addr} {fd : FuncData} (F : Fun K "law" "law" slaw f fd) (m_range : mg "range" = none) (m_max : mg "max" = none) (m_min : mg "min" = none) (m_len : mg "len" = none) (f_law_dice : Fn P w K mg base "_law_dice" 1 (spL K R_law_dice)) (f_law_right : Fn P w K mg base "_law_right" 8 (spO K R_law_right)) (fare_same_rim : Fn P w K mg base "are_same_rim" 6 (spR K Rare_same_rim)) (fis_rim_paper : Fn P w K mg base "is_rim_paper" 6 (spR K Ris_rim_paper)) (fled_fraction : Fn P w K mg base "led_fraction" 4 (spR K Rled_fraction)) (frim_paper : Fn P w K mg base "rim_paper" 6 (spR K Rrim_paper)) : FnOk P w K mg base CX0 9 f fd ["_law_script"] (spR K Rlaw) := by
  refine ok_R F sclaw (by decide) (fun ds G ⟨ns, hd, hl, hG⟩ => by subst hd; rfl) fun cdv A outer s H E hr ds G ⟨ns, hd, hl, hG⟩ => ?_
  subst hd
  have nd := sclaw.nd
  have hu := hr.units
  refine wb_cons (ws_forR1 PassesOwn.never rfl m_range rfl (gt_n 1) ?_)
  refine vp_max2 m_max rfl rfl ?_
  refine vp_int ?_
  refine ⟨_, rfl, ?_⟩
  refine vp_min2 m_min rfl rfl ?_
  refine vp_int ?_
  refine ⟨_, rfl, ?_⟩
  refine vp_len m_len rfl ?_
  refine vp_v 0 ?_
  refine ⟨_, SeqD.s, ?_⟩
  refine ⟨_, rfl, ?_⟩
  refine ⟨_, rfl, ?_⟩
  generalize hn : (if (if ((ns.map Dt.int).length : Int) < 3 then ((ns.map Dt.int).length : Int) else 3) > 1 then (if ((ns.map Dt.int).length : Int) < 3 then ((ns.map Dt.int).length : Int) else 3) else 1) = n
  have n3 : n ≤ 3 := by rw [← hn]; split <;> (try split) <;> omega
  have n0 : 1 ≤ n := by rw [← hn]; split <;> (try split) <;> omega
  refine ⟨_, rfl, by omega, by omega, fun i es => ∃ x1 x2 : Sl, es = [.fz (.scr (ns.map Dt.int)), x1, x2, .no], ⟨_, _, rfl⟩, fun i es hi ⟨x1, x2, he⟩ => ?_, fun es ⟨x1, x2, he⟩ => ?_⟩
  · subst he
    show WB _ [_, _, _, _] _ _
    refine wb_setL 2 ?_
    refine vl_call f_law_dice hr (by decide) rfl ?_
    refine va_cons ?_
    refine vp_v 0 ?_
    refine va_cons ?_
    refine vp_v 1 ?_
    refine va_nil ?_
    refine ⟨_, _, rfl, by omega, by omega, fun ds hD => ?_⟩
    refine ⟨_, rfl, ?_⟩
    show WB _ [_, _, _, _] _ _
    refine wb_ifR ?_
    refine vt_w ?_
    refine vw_or ?_
    refine vt_not ?_
    refine vt_val ?_
    refine vp_callO 2 f_law_right hr (by decide) rfl rfl (by first | exact Or.inl rfl | exact Or.inr (Or.inl rfl) | exact Or.inr (Or.inr rfl)) ?_ ⟨_, _, rfl⟩
    refine va_nil ?_
    refine ⟨_, _, rfl, ?_⟩
    refine ⟨_, rfl, hD, by omega, fun ds hD => ?_⟩
    refine ⟨_, rfl, ?_⟩
    refine ⟨fun h => (by cases h), fun h => ?_⟩
    refine vw_or1 ?_
    refine vt_not ?_
    refine vt_val ?_
    refine vp_callO 2 f_law_right hr (by decide) rfl rfl (by first | exact Or.inl rfl | exact Or.inr (Or.inl rfl) | exact Or.inr (Or.inr rfl)) ?_ ⟨_, _, rfl⟩
    refine va_nil ?_
    refine ⟨_, _, rfl, ?_⟩
    refine ⟨_, rfl, hD, by omega, fun ds hD => ?_⟩
    refine ⟨_, rfl, ?_⟩
    refine ⟨fun h => (by cases h), fun h => wb_nil ⟨_, _, rfl⟩⟩
  subst he
  have F1 : OkFr 1 6 := ⟨⟨by decide, by decide, by decide⟩, by decide, by decide, by decide⟩
  have F2 : OkFr 2 3 := ⟨⟨by decide, by decide, by decide⟩, by decide, by decide, by decide⟩
  have F3 : OkFr 1 3 := ⟨⟨by decide, by decide, by decide⟩, by decide, by decide, by decide⟩
  obtain ⟨t1, L1, l1⟩ := rim_ex (N := 9) (by decide) (by decide) F1.1.2.1
  obtain ⟨t2, L2, l2⟩ := rim_ex (N := 9) (by decide) (by decide) F2.1.2.1
  obtain ⟨z1, z2⟩ := rim_exact (N := 9) (e := 8) (f := -1) (g := 9) (h := -1) (by decide) (by decide) ⟨1, rfl⟩ (by decide) (by decide) L1 L2
  have hP := isP_true (N := 9) (p := 1) (q := 6) (e := 8) (f := -1) (g := 9) (h := -1) F2 (by decide) ⟨1, rfl⟩ (by decide) (by decide)
  have FV : Fine (.tuple [.int 8, .int (-1), .int 9, .int (-1)]) := fine_M (bOf (by decide)) (bOf (by decide)) (bOf (by decide)) (bOf (by decide))
  show WB _ [_, _, _, _] _ _
  refine wb_ifR ?_
  refine vt_w ?_
  refine vw_orP ?_
  refine vt_not ?_
  refine vt_val ?_
  refine vp_call fare_same_rim hr (by decide) rfl ?_
  refine va_cons ?_
  refine vp_int ?_
  refine va_cons ?_
  refine vp_tup ?_
  refine va_cons ?_
  refine vp_int ?_
  refine va_cons ?_
  refine vp_int ?_
  refine va_nil ?_
  refine ⟨Nat.le_of_ble_eq_true rfl, ?_⟩
  refine va_cons ?_
  refine vp_tup ?_
  refine va_cons ?_
  refine vp_int ?_
  refine va_cons ?_
  refine vp_int ?_
  refine va_nil ?_
  refine ⟨Nat.le_of_ble_eq_true rfl, ?_⟩
  refine va_nil ?_
  refine ⟨_, _, _, _, _, _, _, rfl, by decide, by decide, F1, F2, L1, L2, ?_⟩
  refine ⟨_, rfl, ?_⟩
  apply Exists.intro
  refine ⟨fun h => ?_, ?_⟩
  · refine vw_or1 ?_
    refine vt_not ?_
    refine vt_val ?_
    refine vp_call fis_rim_paper hr (by decide) rfl ?_
    refine va_cons ?_
    refine vp_int ?_
    refine va_cons ?_
    refine vp_tup ?_
    refine va_cons ?_
    refine vp_int ?_
    refine va_cons ?_
    refine vp_int ?_
    refine va_nil ?_
    refine ⟨Nat.le_of_ble_eq_true rfl, ?_⟩
    refine va_cons ?_
    refine vp_tup ?_
    refine va_cons ?_
    refine vp_int ?_
    refine va_cons ?_
    refine vp_int ?_
    refine va_nil ?_
    refine ⟨Nat.le_of_ble_eq_true rfl, ?_⟩
    refine va_cons ?_
    refine vp_tup ?_
    refine va_cons ?_
    refine vp_int ?_
    refine va_cons ?_
    refine vp_neg ?_
    refine vp_int ?_
    refine ⟨_, rfl, ?_⟩
    refine va_cons ?_
    refine vp_int ?_
    refine va_cons ?_
    refine vp_neg ?_
    refine vp_int ?_
    refine ⟨_, rfl, ?_⟩
    refine va_nil ?_
    refine ⟨Nat.le_of_ble_eq_true rfl, ?_⟩
    refine va_nil ?_
    refine ⟨_, _, _, _, _, _, rfl, by decide, by decide, F1, F2, FV.1, FV.2, ?_⟩
    refine ⟨_, rfl, ?_⟩
    exact ⟨rfl, rfl⟩
  refine ⟨fun h => ?_, fun h => ?_⟩
  · rw [hP, z1, z2] at h
    simp at h
  refine wb_set 3 ?_
  refine vp_list ?_
  refine va_cons ?_
  refine vp_call fled_fraction hr (by decide) rfl ?_
  refine va_cons ?_
  refine vp_tup ?_
  refine va_cons ?_
  refine vp_int ?_
  refine va_cons ?_
  refine vp_neg ?_
  refine vp_int ?_
  refine ⟨_, rfl, ?_⟩
  refine va_cons ?_
  refine vp_int ?_
  refine va_cons ?_
  refine vp_neg ?_
  refine vp_int ?_
  refine ⟨_, rfl, ?_⟩
  refine va_nil ?_
  refine ⟨Nat.le_of_ble_eq_true rfl, ?_⟩
  refine va_cons ?_
  refine vp_tup ?_
  refine va_cons ?_
  refine vp_int ?_
  refine va_cons ?_
  refine vp_int ?_
  refine va_nil ?_
  refine ⟨Nat.le_of_ble_eq_true rfl, ?_⟩
  refine va_nil ?_
  refine ⟨_, _, _, _, _, _, rfl, rfl, rfl, rfl, rfl, ⟨⟨by decide, by decide, by decide⟩, by decide, by decide, by decide⟩, by decide, by decide, ?_⟩
  refine va_cons ?_
  refine vp_call fled_fraction hr (by decide) rfl ?_
  refine va_cons ?_
  refine vp_tup ?_
  refine va_cons ?_
  refine vp_int ?_
  refine va_cons ?_
  refine vp_int ?_
  refine va_cons ?_
  refine vp_int ?_
  refine va_cons ?_
  refine vp_int ?_
  refine va_nil ?_
  refine ⟨Nat.le_of_ble_eq_true rfl, ?_⟩
  refine va_cons ?_
  refine vp_tup ?_
  refine va_cons ?_
  refine vp_int ?_
  refine va_cons ?_
  refine vp_int ?_
  refine va_nil ?_
  refine ⟨Nat.le_of_ble_eq_true rfl, ?_⟩
  refine va_nil ?_
  refine ⟨_, _, _, _, _, _, rfl, rfl, rfl, rfl, rfl, ⟨⟨by decide, by decide, by decide⟩, by decide, by decide, by decide⟩, by decide, by decide, ?_⟩
  refine va_cons ?_
  refine vp_call fled_fraction hr (by decide) rfl ?_
  refine va_cons ?_
  refine vp_tup ?_
  refine va_cons ?_
  refine vp_int ?_
  refine va_cons ?_
  refine vp_neg ?_
  refine vp_int ?_
  refine ⟨_, rfl, ?_⟩
  refine va_cons ?_
  refine vp_int ?_
  refine va_cons ?_
  refine vp_int ?_
  refine va_nil ?_
  refine ⟨Nat.le_of_ble_eq_true rfl, ?_⟩
  refine va_cons ?_
  refine vp_tup ?_
  refine va_cons ?_
  refine vp_int ?_
  refine va_cons ?_
  refine vp_int ?_
  refine va_nil ?_
  refine ⟨Nat.le_of_ble_eq_true rfl, ?_⟩
  refine va_nil ?_
  refine ⟨_, _, _, _, _, _, rfl, rfl, rfl, rfl, rfl, ⟨⟨by decide, by decide, by decide⟩, by decide, by decide, by decide⟩, by decide, by decide, ?_⟩
  refine va_nil ?_
  refine ⟨Nat.le_of_ble_eq_true rfl, ?_⟩
  refine ⟨_, rfl, ?_⟩
  show WB _ [_, _, _, _] _ _
  refine wb_ret ?_
  refine vp_andP ?_
  refine vp_eqD hu ?_
  refine vp_v 3 ?_
  refine vp_list ?_
  refine va_cons ?_
  refine vp_tup ?_
  refine va_cons ?_
  refine vp_int ?_
  refine va_cons ?_
  refine vp_int ?_
  refine va_nil ?_
  refine ⟨Nat.le_of_ble_eq_true rfl, ?_⟩
  refine va_cons ?_
  refine vp_tup ?_
  refine va_cons ?_
  refine vp_int ?_
  refine va_cons ?_
  refine vp_int ?_
  refine va_nil ?_
  refine ⟨Nat.le_of_ble_eq_true rfl, ?_⟩
  refine va_cons ?_
  refine vp_tup ?_
  refine va_cons ?_
  refine vp_int ?_
  refine va_cons ?_
  refine vp_int ?_
  refine va_nil ?_
  refine ⟨Nat.le_of_ble_eq_true rfl, ?_⟩
  refine va_nil ?_
  refine ⟨Nat.le_of_ble_eq_true rfl, ?_⟩
  refine ⟨by walk_at "shd_ok", by walk_at "shd_ok", ?_⟩
  refine ⟨_, rfl, true, fun h => ?_, ?_⟩
  · refine vp_one ?_
    refine vp_is ?_
    refine vp_call frim_paper hr (by decide) rfl ?_
    refine va_cons ?_
    refine vp_int ?_
    refine va_cons ?_
    refine vp_tup ?_
    refine va_cons ?_
    refine vp_int ?_
    refine va_cons ?_
    refine vp_int ?_
    refine va_nil ?_
    refine ⟨Nat.le_of_ble_eq_true rfl, ?_⟩
    refine va_cons ?_
    refine vp_tup ?_
    refine va_cons ?_
    refine vp_int ?_
    refine va_cons ?_
    refine vp_int ?_
    refine va_nil ?_
    refine ⟨Nat.le_of_ble_eq_true rfl, ?_⟩
    refine va_nil ?_
    refine ⟨_, _, _, _, _, rfl, by decide, by decide, F3, F2, fun e f g w hdet hdv he1 he2 _ _ _ _ => ?_, fun x y b d hx hy hno => ?_⟩
    · obtain ⟨k, rfl⟩ := hdv
      have e1 : w = 1 - 3 * k := by omega
      have e2 : e = 2 - 3 * f := by omega
      subst e1 e2
      have : (2 - 3 * f) * (1 - 3 * k) - f * (9 * k) = 2 - 6 * k - 3 * f := by grind
      omega
    exact ⟨rfl, rfl⟩
  refine Eq.mpr (congrArg (fun b => G (Dt.bool b)) (?_ : _ = true)) hG
  decide +kernel
end
end Pf

set_option Elab.async false
set_option linter.all false
set_option maxRecDepth 100000
set_option maxHeartbeats 4000000
namespace Pf
open PySem PySem.Spec PyProof.Rows L2 Lv
theorem all_mk {l : PySem.W.OpenLaw} {w : World} {K : PySem.W.Frag} {h : Heap} {mg : Str → Option Value} {fa : Addr} (X : K.In h) (G : h.Ns mainGlobals mg) (hfa : mg "law" = some (.ref fa))
    {f0 f1 f2 f3 f4 f5 f6 f7 f8 f9 f10 f11 f12 f13 f14 f15 f16 f17 f18 f19 f20 f21 f22 f23 f24 f25 f26 f27 f28 f29 f30 f31 f32 f33 f34 f35 f36 f37 f38 f39 : Addr}
    {od0 an0 : Option Addr} {sl0 : Array (Option Value)} {oc0 kV0 dc0 pm0 cd0 ct0 : Value}
    {od1 an1 : Option Addr} {sl1 : Array (Option Value)} {oc1 kV1 dc1 pm1 cd1 ct1 : Value}
    {od2 an2 : Option Addr} {sl2 : Array (Option Value)} {oc2 kV2 dc2 pm2 cd2 ct2 : Value}
    {od3 an3 : Option Addr} {sl3 : Array (Option Value)} {oc3 kV3 dc3 pm3 cd3 ct3 : Value}
    {od4 an4 : Option Addr} {sl4 : Array (Option Value)} {oc4 kV4 dc4 pm4 cd4 ct4 : Value}
    {od5 an5 : Option Addr} {sl5 : Array (Option Value)} {oc5 kV5 dc5 pm5 cd5 ct5 : Value}
    {od6 an6 : Option Addr} {sl6 : Array (Option Value)} {oc6 kV6 dc6 pm6 cd6 ct6 : Value}
    {od7 an7 : Option Addr} {sl7 : Array (Option Value)} {oc7 kV7 dc7 pm7 cd7 ct7 : Value}
    {od8 an8 : Option Addr} {sl8 : Array (Option Value)} {oc8 kV8 dc8 pm8 cd8 ct8 : Value}
    {od9 an9 : Option Addr} {sl9 : Array (Option Value)} {oc9 kV9 dc9 pm9 cd9 ct9 : Value}
    {od10 an10 : Option Addr} {sl10 : Array (Option Value)} {oc10 kV10 dc10 pm10 cd10 ct10 : Value}
    {od11 an11 : Option Addr} {sl11 : Array (Option Value)} {oc11 kV11 dc11 pm11 cd11 ct11 : Value}
    {od12 an12 : Option Addr} {sl12 : Array (Option Value)} {oc12 kV12 dc12 pm12 cd12 ct12 : Value}
    {od13 an13 : Option Addr} {sl13 : Array (Option Value)} {oc13 kV13 dc13 pm13 cd13 ct13 : Value}
    {od14 an14 : Option Addr} {sl14 : Array (Option Value)} {oc14 kV14 dc14 pm14 cd14 ct14 : Value}
    {od15 an15 : Option Addr} {sl15 : Array (Option Value)} {oc15 kV15 dc15 pm15 cd15 ct15 : Value}
    {od16 an16 : Option Addr} {sl16 : Array (Option Value)} {oc16 kV16 dc16 pm16 cd16 ct16 : Value}
    {od17 an17 : Option Addr} {sl17 : Array (Option Value)} {oc17 kV17 dc17 pm17 cd17 ct17 : Value}
    {od18 an18 : Option Addr} {sl18 : Array (Option Value)} {oc18 kV18 dc18 pm18 cd18 ct18 : Value}
    {od19 an19 : Option Addr} {sl19 : Array (Option Value)} {oc19 kV19 dc19 pm19 cd19 ct19 : Value}
    {od20 an20 : Option Addr} {sl20 : Array (Option Value)} {oc20 kV20 dc20 pm20 cd20 ct20 : Value}
    {od21 an21 : Option Addr} {sl21 : Array (Option Value)} {oc21 kV21 dc21 pm21 cd21 ct21 : Value}
    {od22 an22 : Option Addr} {sl22 : Array (Option Value)} {oc22 kV22 dc22 pm22 cd22 ct22 : Value}
    {od23 an23 : Option Addr} {sl23 : Array (Option Value)} {oc23 kV23 dc23 pm23 cd23 ct23 : Value}
    {od24 an24 : Option Addr} {sl24 : Array (Option Value)} {oc24 kV24 dc24 pm24 cd24 ct24 : Value}
    {od25 an25 : Option Addr} {sl25 : Array (Option Value)} {oc25 kV25 dc25 pm25 cd25 ct25 : Value}
    {od26 an26 : Option Addr} {sl26 : Array (Option Value)} {oc26 kV26 dc26 pm26 cd26 ct26 : Value}
    {od27 an27 : Option Addr} {sl27 : Array (Option Value)} {oc27 kV27 dc27 pm27 cd27 ct27 : Value}
    {od28 an28 : Option Addr} {sl28 : Array (Option Value)} {oc28 kV28 dc28 pm28 cd28 ct28 : Value}
    {od29 an29 : Option Addr} {sl29 : Array (Option Value)} {oc29 kV29 dc29 pm29 cd29 ct29 : Value}
    {od30 an30 : Option Addr} {sl30 : Array (Option Value)} {oc30 kV30 dc30 pm30 cd30 ct30 : Value}
    {od31 an31 : Option Addr} {sl31 : Array (Option Value)} {oc31 kV31 dc31 pm31 cd31 ct31 : Value}
    {od32 an32 : Option Addr} {sl32 : Array (Option Value)} {oc32 kV32 dc32 pm32 cd32 ct32 : Value}
    {od33 an33 : Option Addr} {sl33 : Array (Option Value)} {oc33 kV33 dc33 pm33 cd33 ct33 : Value}
    {od34 an34 : Option Addr} {sl34 : Array (Option Value)} {oc34 kV34 dc34 pm34 cd34 ct34 : Value}
    {od35 an35 : Option Addr} {sl35 : Array (Option Value)} {oc35 kV35 dc35 pm35 cd35 ct35 : Value}
    {od36 an36 : Option Addr} {sl36 : Array (Option Value)} {oc36 kV36 dc36 pm36 cd36 ct36 : Value}
    {od37 an37 : Option Addr} {sl37 : Array (Option Value)} {oc37 kV37 dc37 pm37 cd37 ct37 : Value}
    {od38 an38 : Option Addr} {sl38 : Array (Option Value)} {oc38 kV38 dc38 pm38 cd38 ct38 : Value}
    {od39 an39 : Option Addr} {sl39 : Array (Option Value)} {oc39 kV39 dc39 pm39 cd39 ct39 : Value}
    {t_TOO_LONG : Tok}
    {tMAX_LEVEL : Tok}
    {tMAX_PART : Tok}
    (a0 : PySem.W.nsIn K mainGlobals "_law_gcd" = some (some (.ref f0))) (l0 : K.lookup f0 = some ⟨oc0, od0, .func (PySem.W.fnOf "_law_gcd" "_law_gcd" (defArgs s_law_gcd) (defBody s_law_gcd) (defScope s_law_gcd) .none kV0 dc0 pm0 an0 cd0 ct0), sl0⟩) (c0 : PySem.W.codeIn K cd0 "_law_gcd" = true) (k0 : PySem.W.keepIn K (.ref f0) = true)
    (a1 : PySem.W.nsIn K mainGlobals "_law_roll" = some (some (.ref f1))) (l1 : K.lookup f1 = some ⟨oc1, od1, .func (PySem.W.fnOf "_law_roll" "_law_roll" (defArgs s_law_roll) (defBody s_law_roll) (defScope s_law_roll) .none kV1 dc1 pm1 an1 cd1 ct1), sl1⟩) (c1 : PySem.W.codeIn K cd1 "_law_roll" = true) (k1 : PySem.W.keepIn K (.ref f1) = true)
    (a2 : PySem.W.nsIn K mainGlobals "is_whole" = some (some (.ref f2))) (l2 : K.lookup f2 = some ⟨oc2, od2, .func (PySem.W.fnOf "is_whole" "is_whole" (defArgs sis_whole) (defBody sis_whole) (defScope sis_whole) .none kV2 dc2 pm2 an2 cd2 ct2), sl2⟩) (c2 : PySem.W.codeIn K cd2 "is_whole" = true) (k2 : PySem.W.keepIn K (.ref f2) = true)
    (a3 : PySem.W.nsIn K mainGlobals "is_integer" = some (some (.ref f3))) (l3 : K.lookup f3 = some ⟨oc3, od3, .func (PySem.W.fnOf "is_integer" "is_integer" (defArgs sis_integer) (defBody sis_integer) (defScope sis_integer) .none kV3 dc3 pm3 an3 cd3 ct3), sl3⟩) (c3 : PySem.W.codeIn K cd3 "is_integer" = true) (k3 : PySem.W.keepIn K (.ref f3) = true)
    (a4 : PySem.W.nsIn K mainGlobals "is_level" = some (some (.ref f4))) (l4 : K.lookup f4 = some ⟨oc4, od4, .func (PySem.W.fnOf "is_level" "is_level" (defArgs sis_level) (defBody sis_level) (defScope sis_level) .none kV4 dc4 pm4 an4 cd4 ct4), sl4⟩) (c4 : PySem.W.codeIn K cd4 "is_level" = true) (k4 : PySem.W.keepIn K (.ref f4) = true)
    (a5 : PySem.W.nsIn K mainGlobals "check_level" = some (some (.ref f5))) (l5 : K.lookup f5 = some ⟨oc5, od5, .func (PySem.W.fnOf "check_level" "check_level" (defArgs scheck_level) (defBody scheck_level) (defScope scheck_level) .none kV5 dc5 pm5 an5 cd5 ct5), sl5⟩) (c5 : PySem.W.codeIn K cd5 "check_level" = true) (k5 : PySem.W.keepIn K (.ref f5) = true)
    (a6 : PySem.W.nsIn K mainGlobals "check_matrix" = some (some (.ref f6))) (l6 : K.lookup f6 = some ⟨oc6, od6, .func (PySem.W.fnOf "check_matrix" "check_matrix" (defArgs scheck_matrix) (defBody scheck_matrix) (defScope scheck_matrix) .none kV6 dc6 pm6 an6 cd6 ct6), sl6⟩) (c6 : PySem.W.codeIn K cd6 "check_matrix" = true) (k6 : PySem.W.keepIn K (.ref f6) = true)
    (a7 : PySem.W.nsIn K mainGlobals "is_fraction" = some (some (.ref f7))) (l7 : K.lookup f7 = some ⟨oc7, od7, .func (PySem.W.fnOf "is_fraction" "is_fraction" (defArgs sis_fraction) (defBody sis_fraction) (defScope sis_fraction) .none kV7 dc7 pm7 an7 cd7 ct7), sl7⟩) (c7 : PySem.W.codeIn K cd7 "is_fraction" = true) (k7 : PySem.W.keepIn K (.ref f7) = true)
    (a8 : PySem.W.nsIn K mainGlobals "check_fraction" = some (some (.ref f8))) (l8 : K.lookup f8 = some ⟨oc8, od8, .func (PySem.W.fnOf "check_fraction" "check_fraction" (defArgs scheck_fraction) (defBody scheck_fraction) (defScope scheck_fraction) .none kV8 dc8 pm8 an8 cd8 ct8), sl8⟩) (c8 : PySem.W.codeIn K cd8 "check_fraction" = true) (k8 : PySem.W.keepIn K (.ref f8) = true)
    (a9 : PySem.W.nsIn K mainGlobals "is_matrix" = some (some (.ref f9))) (l9 : K.lookup f9 = some ⟨oc9, od9, .func (PySem.W.fnOf "is_matrix" "is_matrix" (defArgs sis_matrix) (defBody sis_matrix) (defScope sis_matrix) .none kV9 dc9 pm9 an9 cd9 ct9), sl9⟩) (c9 : PySem.W.codeIn K cd9 "is_matrix" = true) (k9 : PySem.W.keepIn K (.ref f9) = true)
    (a10 : PySem.W.nsIn K mainGlobals "matrix_determinant" = some (some (.ref f10))) (l10 : K.lookup f10 = some ⟨oc10, od10, .func (PySem.W.fnOf "matrix_determinant" "matrix_determinant" (defArgs smatrix_determinant) (defBody smatrix_determinant) (defScope smatrix_determinant) .none kV10 dc10 pm10 an10 cd10 ct10), sl10⟩) (c10 : PySem.W.codeIn K cd10 "matrix_determinant" = true) (k10 : PySem.W.keepIn K (.ref f10) = true)
    (a11 : PySem.W.nsIn K mainGlobals "_led" = some (some (.ref f11))) (l11 : K.lookup f11 = some ⟨oc11, od11, .func (PySem.W.fnOf "_led" "_led" (defArgs s_led) (defBody s_led) (defScope s_led) .none kV11 dc11 pm11 an11 cd11 ct11), sl11⟩) (c11 : PySem.W.codeIn K cd11 "_led" = true) (k11 : PySem.W.keepIn K (.ref f11) = true)
    (a12 : PySem.W.nsIn K mainGlobals "led_fraction" = some (some (.ref f12))) (l12 : K.lookup f12 = some ⟨oc12, od12, .func (PySem.W.fnOf "led_fraction" "led_fraction" (defArgs sled_fraction) (defBody sled_fraction) (defScope sled_fraction) .none kV12 dc12 pm12 an12 cd12 ct12), sl12⟩) (c12 : PySem.W.codeIn K cd12 "led_fraction" = true) (k12 : PySem.W.keepIn K (.ref f12) = true)
    (a13 : PySem.W.nsIn K mainGlobals "inverse_modulo" = some (some (.ref f13))) (l13 : K.lookup f13 = some ⟨oc13, od13, .func (PySem.W.fnOf "inverse_modulo" "inverse_modulo" (defArgs sinverse_modulo) (defBody sinverse_modulo) (defScope sinverse_modulo) .none kV13 dc13 pm13 an13 cd13 ct13), sl13⟩) (c13 : PySem.W.codeIn K cd13 "inverse_modulo" = true) (k13 : PySem.W.keepIn K (.ref f13) = true)
    (a14 : PySem.W.nsIn K mainGlobals "_least_top" = some (some (.ref f14))) (l14 : K.lookup f14 = some ⟨oc14, od14, .func (PySem.W.fnOf "_least_top" "_least_top" (defArgs s_least_top) (defBody s_least_top) (defScope s_least_top) .none kV14 dc14 pm14 an14 cd14 ct14), sl14⟩) (c14 : PySem.W.codeIn K cd14 "_least_top" = true) (k14 : PySem.W.keepIn K (.ref f14) = true)
    (a15 : PySem.W.nsIn K mainGlobals "told_rim" = some (some (.ref f15))) (l15 : K.lookup f15 = some ⟨oc15, od15, .func (PySem.W.fnOf "told_rim" "told_rim" (defArgs stold_rim) (defBody stold_rim) (defScope stold_rim) .none kV15 dc15 pm15 an15 cd15 ct15), sl15⟩) (c15 : PySem.W.codeIn K cd15 "told_rim" = true) (k15 : PySem.W.keepIn K (.ref f15) = true)
    (a16 : PySem.W.nsIn K mainGlobals "rim_of" = some (some (.ref f16))) (l16 : K.lookup f16 = some ⟨oc16, od16, .func (PySem.W.fnOf "rim_of" "rim_of" (defArgs srim_of) (defBody srim_of) (defScope srim_of) .none kV16 dc16 pm16 an16 cd16 ct16), sl16⟩) (c16 : PySem.W.codeIn K cd16 "rim_of" = true) (k16 : PySem.W.keepIn K (.ref f16) = true)
    (a17 : PySem.W.nsIn K mainGlobals "_check_both" = some (some (.ref f17))) (l17 : K.lookup f17 = some ⟨oc17, od17, .func (PySem.W.fnOf "_check_both" "_check_both" (defArgs s_check_both) (defBody s_check_both) (defScope s_check_both) .none kV17 dc17 pm17 an17 cd17 ct17), sl17⟩) (c17 : PySem.W.codeIn K cd17 "_check_both" = true) (k17 : PySem.W.keepIn K (.ref f17) = true)
    (a18 : PySem.W.nsIn K mainGlobals "are_same_rim" = some (some (.ref f18))) (l18 : K.lookup f18 = some ⟨oc18, od18, .func (PySem.W.fnOf "are_same_rim" "are_same_rim" (defArgs sare_same_rim) (defBody sare_same_rim) (defScope sare_same_rim) .none kV18 dc18 pm18 an18 cd18 ct18), sl18⟩) (c18 : PySem.W.codeIn K cd18 "are_same_rim" = true) (k18 : PySem.W.keepIn K (.ref f18) = true)
    (a19 : PySem.W.nsIn K mainGlobals "_matrix_to" = some (some (.ref f19))) (l19 : K.lookup f19 = some ⟨oc19, od19, .func (PySem.W.fnOf "_matrix_to" "_matrix_to" (defArgs s_matrix_to) (defBody s_matrix_to) (defScope s_matrix_to) .none kV19 dc19 pm19 an19 cd19 ct19), sl19⟩) (c19 : PySem.W.codeIn K cd19 "_matrix_to" = true) (k19 : PySem.W.keepIn K (.ref f19) = true)
    (a20 : PySem.W.nsIn K mainGlobals "is_rim_paper" = some (some (.ref f20))) (l20 : K.lookup f20 = some ⟨oc20, od20, .func (PySem.W.fnOf "is_rim_paper" "is_rim_paper" (defArgs sis_rim_paper) (defBody sis_rim_paper) (defScope sis_rim_paper) .none kV20 dc20 pm20 an20 cd20 ct20), sl20⟩) (c20 : PySem.W.codeIn K cd20 "is_rim_paper" = true) (k20 : PySem.W.keepIn K (.ref f20) = true)
    (a21 : PySem.W.nsIn K mainGlobals "rim_paper" = some (some (.ref f21))) (l21 : K.lookup f21 = some ⟨oc21, od21, .func (PySem.W.fnOf "rim_paper" "rim_paper" (defArgs srim_paper) (defBody srim_paper) (defScope srim_paper) .none kV21 dc21 pm21 an21 cd21 ct21), sl21⟩) (c21 : PySem.W.codeIn K cd21 "rim_paper" = true) (k21 : PySem.W.keepIn K (.ref f21) = true)
    (a22 : PySem.W.nsIn K mainGlobals "_law_dice" = some (some (.ref f22))) (l22 : K.lookup f22 = some ⟨oc22, od22, .func (PySem.W.fnOf "_law_dice" "_law_dice" (defArgs s_law_dice) (defBody s_law_dice) (defScope s_law_dice) .none kV22 dc22 pm22 an22 cd22 ct22), sl22⟩) (c22 : PySem.W.codeIn K cd22 "_law_dice" = true) (k22 : PySem.W.keepIn K (.ref f22) = true)
    (a23 : PySem.W.nsIn K mainGlobals "_law_pick" = some (some (.ref f23))) (l23 : K.lookup f23 = some ⟨oc23, od23, .func (PySem.W.fnOf "_law_pick" "_law_pick" (defArgs s_law_pick) (defBody s_law_pick) (defScope s_law_pick) .none kV23 dc23 pm23 an23 cd23 ct23), sl23⟩) (c23 : PySem.W.codeIn K cd23 "_law_pick" = true) (k23 : PySem.W.keepIn K (.ref f23) = true)
    (a24 : PySem.W.nsIn K mainGlobals "_law_lowest" = some (some (.ref f24))) (l24 : K.lookup f24 = some ⟨oc24, od24, .func (PySem.W.fnOf "_law_lowest" "_law_lowest" (defArgs s_law_lowest) (defBody s_law_lowest) (defScope s_law_lowest) .none kV24 dc24 pm24 an24 cd24 ct24), sl24⟩) (c24 : PySem.W.codeIn K cd24 "_law_lowest" = true) (k24 : PySem.W.keepIn K (.ref f24) = true)
    (a25 : PySem.W.nsIn K mainGlobals "_law_matrix_times" = some (some (.ref f25))) (l25 : K.lookup f25 = some ⟨oc25, od25, .func (PySem.W.fnOf "_law_matrix_times" "_law_matrix_times" (defArgs s_law_matrix_times) (defBody s_law_matrix_times) (defScope s_law_matrix_times) .none kV25 dc25 pm25 an25 cd25 ct25), sl25⟩) (c25 : PySem.W.codeIn K cd25 "_law_matrix_times" = true) (k25 : PySem.W.keepIn K (.ref f25) = true)
    (a26 : PySem.W.nsIn K mainGlobals "_law_matrix_led" = some (some (.ref f26))) (l26 : K.lookup f26 = some ⟨oc26, od26, .func (PySem.W.fnOf "_law_matrix_led" "_law_matrix_led" (defArgs s_law_matrix_led) (defBody s_law_matrix_led) (defScope s_law_matrix_led) .none kV26 dc26 pm26 an26 cd26 ct26), sl26⟩) (c26 : PySem.W.codeIn K cd26 "_law_matrix_led" = true) (k26 : PySem.W.keepIn K (.ref f26) = true)
    (a27 : PySem.W.nsIn K mainGlobals "_law_bezout" = some (some (.ref f27))) (l27 : K.lookup f27 = some ⟨oc27, od27, .func (PySem.W.fnOf "_law_bezout" "_law_bezout" (defArgs s_law_bezout) (defBody s_law_bezout) (defScope s_law_bezout) .none kV27 dc27 pm27 an27 cd27 ct27), sl27⟩) (c27 : PySem.W.codeIn K cd27 "_law_bezout" = true) (k27 : PySem.W.keepIn K (.ref f27) = true)
    (a28 : PySem.W.nsIn K mainGlobals "_law_level_drawn" = some (some (.ref f28))) (l28 : K.lookup f28 = some ⟨oc28, od28, .func (PySem.W.fnOf "_law_level_drawn" "_law_level_drawn" (defArgs s_law_level_drawn) (defBody s_law_level_drawn) (defScope s_law_level_drawn) .none kV28 dc28 pm28 an28 cd28 ct28), sl28⟩) (c28 : PySem.W.codeIn K cd28 "_law_level_drawn" = true) (k28 : PySem.W.keepIn K (.ref f28) = true)
    (a29 : PySem.W.nsIn K mainGlobals "_law_fraction_drawn" = some (some (.ref f29))) (l29 : K.lookup f29 = some ⟨oc29, od29, .func (PySem.W.fnOf "_law_fraction_drawn" "_law_fraction_drawn" (defArgs s_law_fraction_drawn) (defBody s_law_fraction_drawn) (defScope s_law_fraction_drawn) .none kV29 dc29 pm29 an29 cd29 ct29), sl29⟩) (c29 : PySem.W.codeIn K cd29 "_law_fraction_drawn" = true) (k29 : PySem.W.keepIn K (.ref f29) = true)
    (a30 : PySem.W.nsIn K mainGlobals "_law_rim_told" = some (some (.ref f30))) (l30 : K.lookup f30 = some ⟨oc30, od30, .func (PySem.W.fnOf "_law_rim_told" "_law_rim_told" (defArgs s_law_rim_told) (defBody s_law_rim_told) (defScope s_law_rim_told) .none kV30 dc30 pm30 an30 cd30 ct30), sl30⟩) (c30 : PySem.W.codeIn K cd30 "_law_rim_told" = true) (k30 : PySem.W.keepIn K (.ref f30) = true)
    (a31 : PySem.W.nsIn K mainGlobals "_law_matrix_drawn" = some (some (.ref f31))) (l31 : K.lookup f31 = some ⟨oc31, od31, .func (PySem.W.fnOf "_law_matrix_drawn" "_law_matrix_drawn" (defArgs s_law_matrix_drawn) (defBody s_law_matrix_drawn) (defScope s_law_matrix_drawn) .none kV31 dc31 pm31 an31 cd31 ct31), sl31⟩) (c31 : PySem.W.codeIn K cd31 "_law_matrix_drawn" = true) (k31 : PySem.W.keepIn K (.ref f31) = true)
    (a32 : PySem.W.nsIn K mainGlobals "_law_is_group" = some (some (.ref f32))) (l32 : K.lookup f32 = some ⟨oc32, od32, .func (PySem.W.fnOf "_law_is_group" "_law_is_group" (defArgs s_law_is_group) (defBody s_law_is_group) (defScope s_law_is_group) .none kV32 dc32 pm32 an32 cd32 ct32), sl32⟩) (c32 : PySem.W.codeIn K cd32 "_law_is_group" = true) (k32 : PySem.W.keepIn K (.ref f32) = true)
    (a33 : PySem.W.nsIn K mainGlobals "_law_is_paper" = some (some (.ref f33))) (l33 : K.lookup f33 = some ⟨oc33, od33, .func (PySem.W.fnOf "_law_is_paper" "_law_is_paper" (defArgs s_law_is_paper) (defBody s_law_is_paper) (defScope s_law_is_paper) .none kV33 dc33 pm33 an33 cd33 ct33), sl33⟩) (c33 : PySem.W.codeIn K cd33 "_law_is_paper" = true) (k33 : PySem.W.keepIn K (.ref f33) = true)
    (a34 : PySem.W.nsIn K mainGlobals "_law_head" = some (some (.ref f34))) (l34 : K.lookup f34 = some ⟨oc34, od34, .func (PySem.W.fnOf "_law_head" "_law_head" (defArgs s_law_head) (defBody s_law_head) (defScope s_law_head) .none kV34 dc34 pm34 an34 cd34 ct34), sl34⟩) (c34 : PySem.W.codeIn K cd34 "_law_head" = true) (k34 : PySem.W.keepIn K (.ref f34) = true)
    (a35 : PySem.W.nsIn K mainGlobals "_law_between" = some (some (.ref f35))) (l35 : K.lookup f35 = some ⟨oc35, od35, .func (PySem.W.fnOf "_law_between" "_law_between" (defArgs s_law_between) (defBody s_law_between) (defScope s_law_between) .none kV35 dc35 pm35 an35 cd35 ct35), sl35⟩) (c35 : PySem.W.codeIn K cd35 "_law_between" = true) (k35 : PySem.W.keepIn K (.ref f35) = true)
    (a36 : PySem.W.nsIn K mainGlobals "_law_near" = some (some (.ref f36))) (l36 : K.lookup f36 = some ⟨oc36, od36, .func (PySem.W.fnOf "_law_near" "_law_near" (defArgs s_law_near) (defBody s_law_near) (defScope s_law_near) .none kV36 dc36 pm36 an36 cd36 ct36), sl36⟩) (c36 : PySem.W.codeIn K cd36 "_law_near" = true) (k36 : PySem.W.keepIn K (.ref f36) = true)
    (a37 : PySem.W.nsIn K mainGlobals "_law_pair_right" = some (some (.ref f37))) (l37 : K.lookup f37 = some ⟨oc37, od37, .func (PySem.W.fnOf "_law_pair_right" "_law_pair_right" (defArgs s_law_pair_right) (defBody s_law_pair_right) (defScope s_law_pair_right) .none kV37 dc37 pm37 an37 cd37 ct37), sl37⟩) (c37 : PySem.W.codeIn K cd37 "_law_pair_right" = true) (k37 : PySem.W.keepIn K (.ref f37) = true)
    (a38 : PySem.W.nsIn K mainGlobals "_law_right" = some (some (.ref f38))) (l38 : K.lookup f38 = some ⟨oc38, od38, .func (PySem.W.fnOf "_law_right" "_law_right" (defArgs s_law_right) (defBody s_law_right) (defScope s_law_right) .none kV38 dc38 pm38 an38 cd38 ct38), sl38⟩) (c38 : PySem.W.codeIn K cd38 "_law_right" = true) (k38 : PySem.W.keepIn K (.ref f38) = true)
    (a39 : PySem.W.nsIn K mainGlobals "law" = some (some (.ref f39))) (l39 : K.lookup f39 = some ⟨oc39, od39, .func (PySem.W.fnOf "law" "law" (defArgs slaw) (defBody slaw) (defScope slaw) .none kV39 dc39 pm39 an39 cd39 ct39), sl39⟩) (c39 : PySem.W.codeIn K cd39 "law" = true) (k39 : PySem.W.keepIn K (.ref f39) = true)
    (zabs : PySem.W.nsIn K mainGlobals "abs" = some none)
    (zint : PySem.W.nsIn K mainGlobals "int" = some none)
    (zisinstance : PySem.W.nsIn K mainGlobals "isinstance" = some none)
    (zbool : PySem.W.nsIn K mainGlobals "bool" = some none)
    (ztuple : PySem.W.nsIn K mainGlobals "tuple" = some none)
    (zlen : PySem.W.nsIn K mainGlobals "len" = some none)
    (zall : PySem.W.nsIn K mainGlobals "all" = some none)
    (zrange : PySem.W.nsIn K mainGlobals "range" = some none)
    (zmax : PySem.W.nsIn K mainGlobals "max" = some none)
    (zzip : PySem.W.nsIn K mainGlobals "zip" = some none)
    (zlist : PySem.W.nsIn K mainGlobals "list" = some none)
    (zstr : PySem.W.nsIn K mainGlobals "str" = some none)
    (zrepr : PySem.W.nsIn K mainGlobals "repr" = some none)
    (zmin : PySem.W.nsIn K mainGlobals "min" = some none)
    (zgcd : PySem.W.nsIn K mainGlobals "gcd" = some (some (.builtin "math.gcd")))
    (g_TOO_LONG : PySem.W.nsIn K mainGlobals "_TOO_LONG" = some (some (.int 1000000000000000000000000000000000000000000000000000000000000 t_TOO_LONG)))
    (gMAX_LEVEL : PySem.W.nsIn K mainGlobals "MAX_LEVEL" = some (some (.int 100 tMAX_LEVEL)))
    (gMAX_PART : PySem.W.nsIn K mainGlobals "MAX_PART" = some (some (.int 100000000000000000000 tMAX_PART))) :
    ∃ fd : FuncData, (∀ (s : Shared) (v : Value), BindsTo s fd ⟨[v], []⟩ [("_law_script", v)]) ∧ ∀ base : Heap, K.In base → base.Ns mainGlobals mg → FnOk l.prog w K mg base CX0 9 fa fd ["_law_script"] (spLaw K) := by
  have e := hfa.symm.trans (PySem.W.mg_of X G a39)
  cases e
  have F0 := fun_mk (st := s_law_gcd) l0 c0 k0
  have b0 := F0.binds (ps := ["_law_one", "_law_other"]) fun _ _ _ _ _ _ us hl => match us, hl with | [_, _], _ => rfl
  have F1 := fun_mk (st := s_law_roll) l1 c1 k1
  have b1 := F1.binds (ps := ["_law_dice_here", "_law_total"]) fun _ _ _ _ _ _ us hl => match us, hl with | [_, _], _ => rfl
  have F2 := fun_mk (st := sis_whole) l2 c2 k2
  have b2 := F2.binds (ps := ["value"]) fun _ _ _ _ _ _ us hl => match us, hl with | [_], _ => rfl
  have F3 := fun_mk (st := sis_integer) l3 c3 k3
  have b3 := F3.binds (ps := ["value"]) fun _ _ _ _ _ _ us hl => match us, hl with | [_], _ => rfl
  have F4 := fun_mk (st := sis_level) l4 c4 k4
  have b4 := F4.binds (ps := ["value"]) fun _ _ _ _ _ _ us hl => match us, hl with | [_], _ => rfl
  have F5 := fun_mk (st := scheck_level) l5 c5 k5
  have b5 := F5.binds (ps := ["level"]) fun _ _ _ _ _ _ us hl => match us, hl with | [_], _ => rfl
  have F6 := fun_mk (st := scheck_matrix) l6 c6 k6
  have b6 := F6.binds (ps := ["matrix"]) fun _ _ _ _ _ _ us hl => match us, hl with | [_], _ => rfl
  have F7 := fun_mk (st := sis_fraction) l7 c7 k7
  have b7 := F7.binds (ps := ["value"]) fun _ _ _ _ _ _ us hl => match us, hl with | [_], _ => rfl
  have F8 := fun_mk (st := scheck_fraction) l8 c8 k8
  have b8 := F8.binds (ps := ["fraction"]) fun _ _ _ _ _ _ us hl => match us, hl with | [_], _ => rfl
  have F9 := fun_mk (st := sis_matrix) l9 c9 k9
  have b9 := F9.binds (ps := ["value"]) fun _ _ _ _ _ _ us hl => match us, hl with | [_], _ => rfl
  have F10 := fun_mk (st := smatrix_determinant) l10 c10 k10
  have b10 := F10.binds (ps := ["matrix"]) fun _ _ _ _ _ _ us hl => match us, hl with | [_], _ => rfl
  have F11 := fun_mk (st := s_led) l11 c11 k11
  have b11 := F11.binds (ps := ["matrix", "fraction"]) fun _ _ _ _ _ _ us hl => match us, hl with | [_, _], _ => rfl
  have F12 := fun_mk (st := sled_fraction) l12 c12 k12
  have b12 := F12.binds (ps := ["matrix", "fraction"]) fun _ _ _ _ _ _ us hl => match us, hl with | [_, _], _ => rfl
  have F13 := fun_mk (st := sinverse_modulo) l13 c13 k13
  have b13 := F13.binds (ps := ["modulus", "number"]) fun _ _ _ _ _ _ us hl => match us, hl with | [_, _], _ => rfl
  have F14 := fun_mk (st := s_least_top) l14 c14 k14
  have b14 := F14.binds (ps := ["bottom", "modulus", "left"]) fun _ _ _ _ _ _ us hl => match us, hl with | [_, _, _], _ => rfl
  have F15 := fun_mk (st := stold_rim) l15 c15 k15
  have b15 := F15.binds (ps := ["level", "fraction"]) fun _ _ _ _ _ _ us hl => match us, hl with | [_, _], _ => rfl
  have F16 := fun_mk (st := srim_of) l16 c16 k16
  have b16 := F16.binds (ps := ["level", "fraction"]) fun _ _ _ _ _ _ us hl => match us, hl with | [_, _], _ => rfl
  have F17 := fun_mk (st := s_check_both) l17 c17 k17
  have b17 := F17.binds (ps := ["level", "one", "other"]) fun _ _ _ _ _ _ us hl => match us, hl with | [_, _, _], _ => rfl
  have F18 := fun_mk (st := sare_same_rim) l18 c18 k18
  have b18 := F18.binds (ps := ["level", "one", "other"]) fun _ _ _ _ _ _ us hl => match us, hl with | [_, _, _], _ => rfl
  have F19 := fun_mk (st := s_matrix_to) l19 c19 k19
  have b19 := F19.binds (ps := ["fraction"]) fun _ _ _ _ _ _ us hl => match us, hl with | [_], _ => rfl
  have F20 := fun_mk (st := sis_rim_paper) l20 c20 k20
  have b20 := F20.binds (ps := ["level", "one", "other", "value"]) fun _ _ _ _ _ _ us hl => match us, hl with | [_, _, _, _], _ => rfl
  have F21 := fun_mk (st := srim_paper) l21 c21 k21
  have b21 := F21.binds (ps := ["level", "one", "other"]) fun _ _ _ _ _ _ us hl => match us, hl with | [_, _, _], _ => rfl
  have F22 := fun_mk (st := s_law_dice) l22 c22 k22
  have b22 := F22.binds (ps := ["_law_script", "_law_spot"]) fun _ _ _ _ _ _ us hl => match us, hl with | [_, _], _ => rfl
  have F23 := fun_mk (st := s_law_pick) l23 c23 k23
  have b23 := F23.binds (ps := ["_law_dice_here", "_law_items"]) fun _ _ _ _ _ _ us hl => match us, hl with | [_, _], _ => rfl
  have F24 := fun_mk (st := s_law_lowest) l24 c24 k24
  have b24 := F24.binds (ps := ["_law_top", "_law_bottom"]) fun _ _ _ _ _ _ us hl => match us, hl with | [_, _], _ => rfl
  have F25 := fun_mk (st := s_law_matrix_times) l25 c25 k25
  have b25 := F25.binds (ps := ["_law_one", "_law_other"]) fun _ _ _ _ _ _ us hl => match us, hl with | [_, _], _ => rfl
  have F26 := fun_mk (st := s_law_matrix_led) l26 c26 k26
  have b26 := F26.binds (ps := ["_law_matrix", "_law_fraction"]) fun _ _ _ _ _ _ us hl => match us, hl with | [_, _], _ => rfl
  have F27 := fun_mk (st := s_law_bezout) l27 c27 k27
  have b27 := F27.binds (ps := ["_law_one", "_law_other"]) fun _ _ _ _ _ _ us hl => match us, hl with | [_, _], _ => rfl
  have F28 := fun_mk (st := s_law_level_drawn) l28 c28 k28
  have b28 := F28.binds (ps := ["_law_dice_here", "_law_most"]) fun _ _ _ _ _ _ us hl => match us, hl with | [_, _], _ => rfl
  have F29 := fun_mk (st := s_law_fraction_drawn) l29 c29 k29
  have b29 := F29.binds (ps := ["_law_dice_here", "_law_most"]) fun _ _ _ _ _ _ us hl => match us, hl with | [_, _], _ => rfl
  have F30 := fun_mk (st := s_law_rim_told) l30 c30 k30
  have b30 := F30.binds (ps := ["_law_level", "_law_top", "_law_bottom"]) fun _ _ _ _ _ _ us hl => match us, hl with | [_, _, _], _ => rfl
  have F31 := fun_mk (st := s_law_matrix_drawn) l31 c31 k31
  have b31 := F31.binds (ps := ["_law_dice_here", "_law_level", "_law_most"]) fun _ _ _ _ _ _ us hl => match us, hl with | [_, _, _], _ => rfl
  have F32 := fun_mk (st := s_law_is_group) l32 c32 k32
  have b32 := F32.binds (ps := ["_law_level", "_law_value"]) fun _ _ _ _ _ _ us hl => match us, hl with | [_, _], _ => rfl
  have F33 := fun_mk (st := s_law_is_paper) l33 c33 k33
  have b33 := F33.binds (ps := ["_law_level", "_law_one", "_law_other", "_law_value"]) fun _ _ _ _ _ _ us hl => match us, hl with | [_, _, _, _], _ => rfl
  have F34 := fun_mk (st := s_law_head) l34 c34 k34
  have b34 := F34.binds (ps := ["_law_fraction"]) fun _ _ _ _ _ _ us hl => match us, hl with | [_], _ => rfl
  have F35 := fun_mk (st := s_law_between) l35 c35 k35
  have b35 := F35.binds (ps := ["_law_one", "_law_other", "_law_many"]) fun _ _ _ _ _ _ us hl => match us, hl with | [_, _, _], _ => rfl
  have F36 := fun_mk (st := s_law_near) l36 c36 k36
  have b36 := F36.binds (ps := ["_law_dice_here", "_law_level", "_law_one", "_law_matrix"]) fun _ _ _ _ _ _ us hl => match us, hl with | [_, _, _, _], _ => rfl
  have F37 := fun_mk (st := s_law_pair_right) l37 c37 k37
  have b37 := F37.binds (ps := ["_law_dice_here", "_law_level", "_law_one", "_law_other"]) fun _ _ _ _ _ _ us hl => match us, hl with | [_, _, _, _], _ => rfl
  have F38 := fun_mk (st := s_law_right) l38 c38 k38
  have b38 := F38.binds (ps := ["_law_dice_here"]) fun _ _ _ _ _ _ us hl => match us, hl with | [_], _ => rfl
  have F39 := fun_mk (st := slaw) l39 c39 k39
  refine ⟨PySem.W.fnOf "law" "law" (defArgs slaw) (defBody slaw) (defScope slaw) .none kV39 dc39 pm39 an39 cd39 ct39, fun s v => .of_eq rfl, fun base _ _ => ?_⟩
  have n0 : Fn l.prog w K mg base "_law_gcd" 1 (spR K R_law_gcd) := ⟨⟨_, _, _, ok_law_gcd F0 (PySem.W.mg_none_of X G zabs) (PySem.W.mg_none_of X G zint), PySem.W.mg_of X G a0, k0, b0⟩⟩
  have n1 : Fn l.prog w K mg base "_law_roll" 1 (spO K R_law_roll) := ⟨⟨_, _, _, ok_law_roll F1 (PySem.W.mg_none_of X G zint), PySem.W.mg_of X G a1, k1, b1⟩⟩
  have n2 : Fn l.prog w K mg base "is_whole" 1 (spR K Ris_whole) := ⟨⟨_, _, _, okis_whole F2 (PySem.W.mg_none_of X G zisinstance) (PySem.W.mg_none_of X G zint) (PySem.W.mg_none_of X G zbool), PySem.W.mg_of X G a2, k2, b2⟩⟩
  have n3 : Fn l.prog w K mg base "is_integer" 2 (spR K Ris_integer) := ⟨⟨_, _, _, okis_integer F3 (PySem.W.mg_none_of X G zisinstance) (PySem.W.mg_none_of X G zint) (PySem.W.mg_none_of X G zbool) _ (PySem.W.mg_of X G g_TOO_LONG), PySem.W.mg_of X G a3, k3, b3⟩⟩
  have n4 : Fn l.prog w K mg base "is_level" 3 (spR K Ris_level) := ⟨⟨_, _, _, okis_level F4 n3 _ (PySem.W.mg_of X G gMAX_LEVEL), PySem.W.mg_of X G a4, k4, b4⟩⟩
  have n5 : Fn l.prog w K mg base "check_level" 4 (spR K Rcheck_level) := ⟨⟨_, _, _, okcheck_level F5 n4, PySem.W.mg_of X G a5, k5, b5⟩⟩
  have n6 : Fn l.prog w K mg base "check_matrix" 3 (spR K Rcheck_matrix) := ⟨⟨_, _, _, okcheck_matrix F6 (PySem.W.mg_none_of X G zisinstance) (PySem.W.mg_none_of X G ztuple) (PySem.W.mg_none_of X G zlen) (PySem.W.mg_none_of X G zall) n3, PySem.W.mg_of X G a6, k6, b6⟩⟩
  have n7 : Fn l.prog w K mg base "is_fraction" 2 (spR K Ris_fraction) := ⟨⟨_, _, _, okis_fraction F7 (PySem.W.mg_none_of X G zisinstance) (PySem.W.mg_none_of X G ztuple) (PySem.W.mg_none_of X G zlen) (PySem.W.mg_none_of X G zall) (PySem.W.mg_of X G zgcd) _ (PySem.W.mg_of X G gMAX_PART) n2, PySem.W.mg_of X G a7, k7, b7⟩⟩
  have n8 : Fn l.prog w K mg base "check_fraction" 3 (spR K Rcheck_fraction) := ⟨⟨_, _, _, okcheck_fraction F8 n7, PySem.W.mg_of X G a8, k8, b8⟩⟩
  have n9 : Fn l.prog w K mg base "is_matrix" 2 (spR K Ris_matrix) := ⟨⟨_, _, _, okis_matrix F9 (PySem.W.mg_none_of X G zisinstance) (PySem.W.mg_none_of X G ztuple) (PySem.W.mg_none_of X G zlen) (PySem.W.mg_none_of X G zall) n2, PySem.W.mg_of X G a9, k9, b9⟩⟩
  have n10 : Fn l.prog w K mg base "matrix_determinant" 1 (spR K Rmatrix_determinant) := ⟨⟨_, _, _, okmatrix_determinant F10 , PySem.W.mg_of X G a10, k10, b10⟩⟩
  have n11 : Fn l.prog w K mg base "_led" 1 (spR K R_led) := ⟨⟨_, _, _, ok_led F11 (PySem.W.mg_of X G zgcd), PySem.W.mg_of X G a11, k11, b11⟩⟩
  have n12 : Fn l.prog w K mg base "led_fraction" 4 (spR K Rled_fraction) := ⟨⟨_, _, _, okled_fraction F12 n6 n10 n8 n11, PySem.W.mg_of X G a12, k12, b12⟩⟩
  have n13 : Fn l.prog w K mg base "inverse_modulo" 1 (spR K Rinverse_modulo) := ⟨⟨_, _, _, okinverse_modulo F13 , PySem.W.mg_of X G a13, k13, b13⟩⟩
  have n14 : Fn l.prog w K mg base "_least_top" 1 (spR K R_least_top) := ⟨⟨_, _, _, ok_least_top F14 (PySem.W.mg_of X G zgcd), PySem.W.mg_of X G a14, k14, b14⟩⟩
  have n15 : Fn l.prog w K mg base "told_rim" 2 (spR K Rtold_rim) := ⟨⟨_, _, _, oktold_rim F15 (PySem.W.mg_of X G zgcd) n14, PySem.W.mg_of X G a15, k15, b15⟩⟩
  have n16 : Fn l.prog w K mg base "rim_of" 5 (spR K Rrim_of) := ⟨⟨_, _, _, okrim_of F16 n5 n8 n15, PySem.W.mg_of X G a16, k16, b16⟩⟩
  have n17 : Fn l.prog w K mg base "_check_both" 5 (spR K R_check_both) := ⟨⟨_, _, _, ok_check_both F17 n5 n8, PySem.W.mg_of X G a17, k17, b17⟩⟩
  have n18 : Fn l.prog w K mg base "are_same_rim" 6 (spR K Rare_same_rim) := ⟨⟨_, _, _, okare_same_rim F18 n17 n15, PySem.W.mg_of X G a18, k18, b18⟩⟩
  have n19 : Fn l.prog w K mg base "_matrix_to" 2 (spR K R_matrix_to) := ⟨⟨_, _, _, ok_matrix_to F19 n13, PySem.W.mg_of X G a19, k19, b19⟩⟩
  have n20 : Fn l.prog w K mg base "is_rim_paper" 6 (spR K Ris_rim_paper) := ⟨⟨_, _, _, okis_rim_paper F20 n17 n9 n10 n11, PySem.W.mg_of X G a20, k20, b20⟩⟩
  have n21 : Fn l.prog w K mg base "rim_paper" 6 (spR K Rrim_paper) := ⟨⟨_, _, _, okrim_paper F21 (PySem.W.mg_none_of X G zrange) n17 n19, PySem.W.mg_of X G a21, k21, b21⟩⟩
  have n22 : Fn l.prog w K mg base "_law_dice" 1 (spL K R_law_dice) := ⟨⟨_, _, _, ok_law_dice F22 (PySem.W.mg_none_of X G zint) (PySem.W.mg_none_of X G zlen) (PySem.W.mg_none_of X G zmax) (PySem.W.mg_none_of X G zabs), PySem.W.mg_of X G a22, k22, b22⟩⟩
  have n23 : Fn l.prog w K mg base "_law_pick" 2 (spO K R_law_pick) := ⟨⟨_, _, _, ok_law_pick F23 (PySem.W.mg_none_of X G zlen) n1, PySem.W.mg_of X G a23, k23, b23⟩⟩
  have n24 : Fn l.prog w K mg base "_law_lowest" 2 (spR K R_law_lowest) := ⟨⟨_, _, _, ok_law_lowest F24 n0, PySem.W.mg_of X G a24, k24, b24⟩⟩
  have n25 : Fn l.prog w K mg base "_law_matrix_times" 1 (spR K R_law_matrix_times) := ⟨⟨_, _, _, ok_law_matrix_times F25 , PySem.W.mg_of X G a25, k25, b25⟩⟩
  have n26 : Fn l.prog w K mg base "_law_matrix_led" 3 (spR K R_law_matrix_led) := ⟨⟨_, _, _, ok_law_matrix_led F26 n24, PySem.W.mg_of X G a26, k26, b26⟩⟩
  have n27 : Fn l.prog w K mg base "_law_bezout" 1 (spR K R_law_bezout) := ⟨⟨_, _, _, ok_law_bezout F27 (PySem.W.mg_none_of X G zrange) (PySem.W.mg_none_of X G zzip) (PySem.W.mg_none_of X G ztuple), PySem.W.mg_of X G a27, k27, b27⟩⟩
  have n28 : Fn l.prog w K mg base "_law_level_drawn" 3 (spO K R_law_level_drawn) := ⟨⟨_, _, _, ok_law_level_drawn F28 n1 n23, PySem.W.mg_of X G a28, k28, b28⟩⟩
  have n29 : Fn l.prog w K mg base "_law_fraction_drawn" 3 (spO K R_law_fraction_drawn) := ⟨⟨_, _, _, ok_law_fraction_drawn F29 n1 n24, PySem.W.mg_of X G a29, k29, b29⟩⟩
  have n30 : Fn l.prog w K mg base "_law_rim_told" 2 (spR K R_law_rim_told) := ⟨⟨_, _, _, ok_law_rim_told F30 (PySem.W.mg_none_of X G zrange) n0, PySem.W.mg_of X G a30, k30, b30⟩⟩
  have n31 : Fn l.prog w K mg base "_law_matrix_drawn" 3 (spO K R_law_matrix_drawn) := ⟨⟨_, _, _, ok_law_matrix_drawn F31 (PySem.W.mg_none_of X G zrange) n1 n23 n0 n27, PySem.W.mg_of X G a31, k31, b31⟩⟩
  have n32 : Fn l.prog w K mg base "_law_is_group" 1 (spR K R_law_is_group) := ⟨⟨_, _, _, ok_law_is_group F32 (PySem.W.mg_none_of X G zisinstance) (PySem.W.mg_none_of X G ztuple) (PySem.W.mg_none_of X G zint) (PySem.W.mg_none_of X G zbool) (PySem.W.mg_none_of X G zlen), PySem.W.mg_of X G a32, k32, b32⟩⟩
  have n33 : Fn l.prog w K mg base "_law_is_paper" 4 (spR K R_law_is_paper) := ⟨⟨_, _, _, ok_law_is_paper F33 n32 n26, PySem.W.mg_of X G a33, k33, b33⟩⟩
  have n34 : Fn l.prog w K mg base "_law_head" 2 (spR K R_law_head) := ⟨⟨_, _, _, ok_law_head F34 n27, PySem.W.mg_of X G a34, k34, b34⟩⟩
  have n35 : Fn l.prog w K mg base "_law_between" 3 (spR K R_law_between) := ⟨⟨_, _, _, ok_law_between F35 n34 n25, PySem.W.mg_of X G a35, k35, b35⟩⟩
  have n36 : Fn l.prog w K mg base "_law_near" 4 (spO K R_law_near) := ⟨⟨_, _, _, ok_law_near F36 (PySem.W.mg_none_of X G ztuple) (PySem.W.mg_none_of X G zlist) (PySem.W.mg_none_of X G zstr) n25 n31, PySem.W.mg_of X G a36, k36, b36⟩⟩
  have n37 : Fn l.prog w K mg base "_law_pair_right" 7 (spO K R_law_pair_right) := ⟨⟨_, _, _, ok_law_pair_right F37 (PySem.W.mg_none_of X G zrepr) n30 n21 n18 n33 n36 n31 n1 n35 n20, PySem.W.mg_of X G a37, k37, b37⟩⟩
  have n38 : Fn l.prog w K mg base "_law_right" 8 (spO K R_law_right) := ⟨⟨_, _, _, ok_law_right F38 n28 n29 n31 n26 n12 n16 n20 n37 n1, PySem.W.mg_of X G a38, k38, b38⟩⟩
  exact law_of (oklaw F39 (PySem.W.mg_none_of X G zrange) (PySem.W.mg_none_of X G zmax) (PySem.W.mg_none_of X G zmin) (PySem.W.mg_none_of X G zlen) n22 n38 n18 n20 n12 n21)
theorem walk {l : PySem.W.OpenLaw} {q : Program} {loose : List Str} {XP : (Str → Option Value) → Heap → Prop} {YP : World → Heap → Prop} {d : DefRec} {K : Params → PySem.W.Frag} (hn : l.most = some 63) (hdf : d.params.defaults = [])
    (hY : ∀ (w : World) (h : Heap), YP w h → (K w.params).In h)
    (F : ∀ (w : World) (mg : Str → Option Value) (fa : Addr) (h : Heap), (K w.params).In h → h.Ns mainGlobals mg → mg d.name = some (.ref fa) →
      ∃ fd : FuncData, (∀ (s : Shared) (u : Value), BindsTo s fd ⟨[u], []⟩ [("_law_script", u)]) ∧ ∀ base : Heap, (K w.params).In base → base.Ns mainGlobals mg → FnOk l.prog w (K w.params) mg base CX0 9 fa fd ["_law_script"] (spLaw (K w.params))) :
    PySem.W.WalkO q loose XP YP l.row.toRowW d [] (fun f vs => PySem.call f vs) :=
  L2.walk_of (n := 63) (k := 9) (x := "_law_script") (CX := fun _ => CX0) (sp := fun w => spLaw (K w.params)) hn (by decide) hdf ⟨rfl, by decide, by decide⟩ hY F (fun _ _ a ns hl _ hS => ⟨a, ns, rfl, hS, hl, fun _ => rfl⟩) fun _ _ _ _ _ z => z
end Pf

open PySem PySem.W PyProof.Rows
set_option maxRecDepth 100000 in
set_option maxHeartbeats 0 in
theorem PySem.Challenge.cw_levelroads_k14_whole_classes_by_matrices_holds : PySem.Challenge.rw_levelroads_k14_whole_classes_by_matrices.Holds := by
  w_on; o_law; k_head; (case hw => w_witness2)
  k_fill
  refine Pf.walk (l := PySem.Challenge.rw_levelroads_k14_whole_classes_by_matrices) rfl rfl (fun w h Y => PySem.W.kIn_of Y) ?F
  case F =>
    intro w mg fa h KX G hmg
    refine' Pf.all_mk KX G hmg ?a0 ?l0 ?c0 ?k0 ?a1 ?l1 ?c1 ?k1 ?a2 ?l2 ?c2 ?k2 ?a3 ?l3 ?c3 ?k3 ?a4 ?l4 ?c4 ?k4 ?a5 ?l5 ?c5 ?k5 ?a6 ?l6 ?c6 ?k6 ?a7 ?l7 ?c7 ?k7 ?a8 ?l8 ?c8 ?k8 ?a9 ?l9 ?c9 ?k9 ?a10 ?l10 ?c10 ?k10 ?a11 ?l11 ?c11 ?k11 ?a12 ?l12 ?c12 ?k12 ?a13 ?l13 ?c13 ?k13 ?a14 ?l14 ?c14 ?k14 ?a15 ?l15 ?c15 ?k15 ?a16 ?l16 ?c16 ?k16 ?a17 ?l17 ?c17 ?k17 ?a18 ?l18 ?c18 ?k18 ?a19 ?l19 ?c19 ?k19 ?a20 ?l20 ?c20 ?k20 ?a21 ?l21 ?c21 ?k21 ?a22 ?l22 ?c22 ?k22 ?a23 ?l23 ?c23 ?k23 ?a24 ?l24 ?c24 ?k24 ?a25 ?l25 ?c25 ?k25 ?a26 ?l26 ?c26 ?k26 ?a27 ?l27 ?c27 ?k27 ?a28 ?l28 ?c28 ?k28 ?a29 ?l29 ?c29 ?k29 ?a30 ?l30 ?c30 ?k30 ?a31 ?l31 ?c31 ?k31 ?a32 ?l32 ?c32 ?k32 ?a33 ?l33 ?c33 ?k33 ?a34 ?l34 ?c34 ?k34 ?a35 ?l35 ?c35 ?k35 ?a36 ?l36 ?c36 ?k36 ?a37 ?l37 ?c37 ?k37 ?a38 ?l38 ?c38 ?k38 ?a39 ?l39 ?c39 ?k39 ?zabs ?zint ?zisinstance ?zbool ?ztuple ?zlen ?zall ?zrange ?zmax ?zzip ?zlist ?zstr ?zrepr ?zmin ?zgcd ?g_TOO_LONG ?gMAX_LEVEL ?gMAX_PART
    (case a0 => k_is)
    (case l0 => k_is)
    (case c0 => k_is)
    (case k0 => k_is)
    (case a1 => k_is)
    (case l1 => k_is)
    (case c1 => k_is)
    (case k1 => k_is)
    (case a2 => k_is)
    (case l2 => k_is)
    (case c2 => k_is)
    (case k2 => k_is)
    (case a3 => k_is)
    (case l3 => k_is)
    (case c3 => k_is)
    (case k3 => k_is)
    (case a4 => k_is)
    (case l4 => k_is)
    (case c4 => k_is)
    (case k4 => k_is)
    (case a5 => k_is)
    (case l5 => k_is)
    (case c5 => k_is)
    (case k5 => k_is)
    (case a6 => k_is)
    (case l6 => k_is)
    (case c6 => k_is)
    (case k6 => k_is)
    (case a7 => k_is)
    (case l7 => k_is)
    (case c7 => k_is)
    (case k7 => k_is)
    (case a8 => k_is)
    (case l8 => k_is)
    (case c8 => k_is)
    (case k8 => k_is)
    (case a9 => k_is)
    (case l9 => k_is)
    (case c9 => k_is)
    (case k9 => k_is)
    (case a10 => k_is)
    (case l10 => k_is)
    (case c10 => k_is)
    (case k10 => k_is)
    (case a11 => k_is)
    (case l11 => k_is)
    (case c11 => k_is)
    (case k11 => k_is)
    (case a12 => k_is)
    (case l12 => k_is)
    (case c12 => k_is)
    (case k12 => k_is)
    (case a13 => k_is)
    (case l13 => k_is)
    (case c13 => k_is)
    (case k13 => k_is)
    (case a14 => k_is)
    (case l14 => k_is)
    (case c14 => k_is)
    (case k14 => k_is)
    (case a15 => k_is)
    (case l15 => k_is)
    (case c15 => k_is)
    (case k15 => k_is)
    (case a16 => k_is)
    (case l16 => k_is)
    (case c16 => k_is)
    (case k16 => k_is)
    (case a17 => k_is)
    (case l17 => k_is)
    (case c17 => k_is)
    (case k17 => k_is)
    (case a18 => k_is)
    (case l18 => k_is)
    (case c18 => k_is)
    (case k18 => k_is)
    (case a19 => k_is)
    (case l19 => k_is)
    (case c19 => k_is)
    (case k19 => k_is)
    (case a20 => k_is)
    (case l20 => k_is)
    (case c20 => k_is)
    (case k20 => k_is)
    (case a21 => k_is)
    (case l21 => k_is)
    (case c21 => k_is)
    (case k21 => k_is)
    (case a22 => k_is)
    (case l22 => k_is)
    (case c22 => k_is)
    (case k22 => k_is)
    (case a23 => k_is)
    (case l23 => k_is)
    (case c23 => k_is)
    (case k23 => k_is)
    (case a24 => k_is)
    (case l24 => k_is)
    (case c24 => k_is)
    (case k24 => k_is)
    (case a25 => k_is)
    (case l25 => k_is)
    (case c25 => k_is)
    (case k25 => k_is)
    (case a26 => k_is)
    (case l26 => k_is)
    (case c26 => k_is)
    (case k26 => k_is)
    (case a27 => k_is)
    (case l27 => k_is)
    (case c27 => k_is)
    (case k27 => k_is)
    (case a28 => k_is)
    (case l28 => k_is)
    (case c28 => k_is)
    (case k28 => k_is)
    (case a29 => k_is)
    (case l29 => k_is)
    (case c29 => k_is)
    (case k29 => k_is)
    (case a30 => k_is)
    (case l30 => k_is)
    (case c30 => k_is)
    (case k30 => k_is)
    (case a31 => k_is)
    (case l31 => k_is)
    (case c31 => k_is)
    (case k31 => k_is)
    (case a32 => k_is)
    (case l32 => k_is)
    (case c32 => k_is)
    (case k32 => k_is)
    (case a33 => k_is)
    (case l33 => k_is)
    (case c33 => k_is)
    (case k33 => k_is)
    (case a34 => k_is)
    (case l34 => k_is)
    (case c34 => k_is)
    (case k34 => k_is)
    (case a35 => k_is)
    (case l35 => k_is)
    (case c35 => k_is)
    (case k35 => k_is)
    (case a36 => k_is)
    (case l36 => k_is)
    (case c36 => k_is)
    (case k36 => k_is)
    (case a37 => k_is)
    (case l37 => k_is)
    (case c37 => k_is)
    (case k37 => k_is)
    (case a38 => k_is)
    (case l38 => k_is)
    (case c38 => k_is)
    (case k38 => k_is)
    (case a39 => k_is)
    (case l39 => k_is)
    (case c39 => k_is)
    (case k39 => k_is)
    (case zabs => k_is)
    (case zint => k_is)
    (case zisinstance => k_is)
    (case zbool => k_is)
    (case ztuple => k_is)
    (case zlen => k_is)
    (case zall => k_is)
    (case zrange => k_is)
    (case zmax => k_is)
    (case zzip => k_is)
    (case zlist => k_is)
    (case zstr => k_is)
    (case zrepr => k_is)
    (case zmin => k_is)
    (case zgcd => k_is)
    (case g_TOO_LONG => k_is)
    (case gMAX_LEVEL => k_is)
    (case gMAX_PART => k_is)
