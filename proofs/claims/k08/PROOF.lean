import PyProof.Rows.All
import Wide.All
import OpenK.AllK
import Wide.FinOn
import HandS.ForMost
import HandS.IsInst
import HandS.TupAny
import HandS.Deep
import HandS.Flow
import HandS.Style
import HandS.Dict
import HandS.Small
import HandS.Iter
import HandS.WordsDict
import HandS.SortInts
import HandS.DictComp
import HandS.List
import KE.KExcSuper
import HandS.FStr
import HandS.ExcInit
import HandS.WordsExc
import HandS.Lambda
import PySem.Challenge.RW_schemabridge_k08_natural_numbers
set_option Elab.async false
set_option linter.all false
set_option maxRecDepth 100000
set_option maxHeartbeats 4000000
set_option Elab.async false
set_option linter.all false
set_option maxRecDepth 100000
set_option maxHeartbeats 4000000

namespace DL
open PySem PySem.Spec PyProof.Rows L2

inductive D where
  | non | bl (b : Bool) | int (i : Int) | str (x : Str) | ref (a : Addr)
  | tup (ds : List D) | lv (ds : List D) | rl (ds : List D) | dv (kvs : List (Key × D))
  deriving Inhabited
inductive MO where
  | lst (ds : List D) | dic (kvs : List (Key × D)) | drw (r : Addr) | row | ins (C dx : Addr) (fs : List (Str × D))
abbrev Gp := Addr → Option MO
abbrev Fr := Addr → Prop
def updG (G : Gp) (a : Addr) (m : MO) : Gp := fun b => if b = a then some m else G b
theorem updG_same {G : Gp} {a : Addr} {m : MO} : updG G a m a = some m := by unfold updG; rw [if_pos rfl]
theorem updG_ne {G : Gp} {a b : Addr} {m : MO} (h : b ≠ a) : updG G a m b = G b := by unfold updG; rw [if_neg h]
theorem updG_updG {G : Gp} {a : Addr} {m n : MO} : updG (updG G a m) a n = updG G a n := by
  funext b; unfold updG; split <;> rfl
def KL (K : PySem.W.Frag) (a : Addr) (xs : List V) : Prop :=
  ∃ (o : Obj) (its : Array Value) (n : Nat), K.lookup a = some o ∧ o.cls = .type "list" ∧ o.dict = none ∧ o.data = .seq its n ∧ its.size ≤ sizeLine ∧ Vals xs its.toList
def sOk (x : Str) : Bool := x.cps.all (· < 0x110000)
theorem sOk_of (s : String) : sOk (Str.ofString s) = true := by
  rw [Str.ofString_eq_toList]
  unfold sOk
  rw [← Array.all_toList]
  simp only [List.all_map, List.all_eq_true, Function.comp, decide_eq_true_eq]
  intro c _
  have h := c.valid
  unfold UInt32.isValidChar Nat.isValidChar at h
  show c.val.toNat < 0x110000
  omega
theorem sOk_app {x y : Str} (hx : sOk x = true) (hy : sOk y = true) : sOk (x ++ y) = true := by
  show (x.cps ++ y.cps).all _ = true
  rw [Array.all_append, Bool.and_eq_true]
  exact ⟨hx, hy⟩
section
variable (K : PySem.W.Frag) (F : Fr) (H : Hp)
mutual
def Rep : D → V → Prop
  | .non, v => v = .non
  | .bl b, v => v = .bl b
  | .int i, v => v = .int i
  | .str x, v => v = .str x ∧ sOk x = true
  | .ref a, v => v = .ref a
  | .tup ds, v => ∃ a xs, v = .ref a ∧ SqT K H a xs ∧ RepL ds xs
  | .lv ds, v => ∃ a xs, v = .ref a ∧ (F a ∧ H a = some (.lst xs)) ∧ RepL ds xs
  | .rl ds, v => ∃ a xs, v = .ref a ∧ ((∃ o, H a = some (.frz o (.lst xs))) ∨ KL K a xs) ∧ RepL ds xs
  | .dv kvs, v => ∃ a xs, v = .ref a ∧ (F a ∧ Rd H a (.dK xs)) ∧ RepK kvs xs
def RepL : List D → List V → Prop
  | [], vs => vs = []
  | d :: ds, vs => ∃ v r, vs = v :: r ∧ Rep d v ∧ RepL ds r
def RepK : List (Key × D) → List (Key × V) → Prop
  | [], vs => vs = []
  | p :: ds, vs => ∃ k v r, vs = (k, v) :: r ∧ RepP p k v ∧ RepK ds r
def RepP : Key × D → Key → V → Prop
  | (k, d), k', v => k' = k ∧ Rep d v
end
def RepF : List (Str × D) → List (Str × V) → Prop
  | [], vs => vs = []
  | (f, d) :: ds, vs => ∃ v r, vs = (f, v) :: r ∧ Rep K F H d v ∧ RepF ds r
def RepO (a : Addr) : MO → Prop
  | .lst ds => ∃ xs, H a = some (.lst xs) ∧ RepL K F H ds xs
  | .dic kvs => ∃ xs, H a = some (.dK xs) ∧ RepK K F H kvs xs
  | .drw r => ∃ i : Int, 0 ≤ i ∧ H a = some (.lst [.int i, .ref r])
  | .row => ∃ ns : List Int, H a = some (.lst (ns.map V.int))
  | .ins C dx fs => ∃ xs, H a = some (.ins C dx xs) ∧ H dx = some (.own a) ∧ RepF K F H fs xs
structure Rel (G : Gp) : Prop where
  obj : ∀ a m, G a = some m → RepO K F H a m
  fr : ∀ a, F a → G a = none
  al : ∀ a, F a → H a ≠ none
end
structure Keep (F : Fr) (H : Hp) (G : Gp) (F' : Fr) (H' : Hp) (G' : Gp) : Prop where
  k : ∀ a u, G a = none → H a = some u → H' a = some u ∧ G' a = none ∧ (F' a ↔ F a)
theorem Keep.refl {F H G} : Keep F H G F H G := ⟨fun _ _ g h => ⟨h, g, Iff.rfl⟩⟩
theorem Keep.trans {F H G F1 H1 G1 F2 H2 G2} (a : Keep F H G F1 H1 G1) (b : Keep F1 H1 G1 F2 H2 G2) : Keep F H G F2 H2 G2 := ⟨fun c u g h => by
  obtain ⟨h1, g1, f1⟩ := a.k c u g h
  obtain ⟨h2, g2, f2⟩ := b.k c u g1 h1
  exact ⟨h2, g2, f2.trans f1⟩⟩
section
variable {K : PySem.W.Frag} {F F' : Fr} {H H' : Hp} {G G' : Gp}
/-- what is not mutable stands in G as nothing -/
theorem Rel.off (R : Rel K F H G) {a : Addr} {u : HO} (h : H a = some u) (n1 : ∀ xs, u ≠ .lst xs) (n2 : ∀ xs, u ≠ .dK xs) (n3 : ∀ C dx xs, u ≠ .ins C dx xs) : G a = none := by
  cases e : G a with
  | none => rfl
  | some m =>
    have q := R.obj a m e
    cases m with
    | lst ds => obtain ⟨xs, h1, _⟩ := q; rw [h] at h1; exact absurd (Option.some.inj h1) (n1 _)
    | dic kvs => obtain ⟨xs, h1, _⟩ := q; rw [h] at h1; exact absurd (Option.some.inj h1) (n2 _)
    | drw r => obtain ⟨i, _, h1⟩ := q; rw [h] at h1; exact absurd (Option.some.inj h1) (n1 _)
    | row => obtain ⟨ns, h1⟩ := q; rw [h] at h1; exact absurd (Option.some.inj h1) (n1 _)
    | ins C dx fs => obtain ⟨xs, h1, _⟩ := q; rw [h] at h1; exact absurd (Option.some.inj h1) (n3 _ _ _)
theorem Rel.off0 (R : Rel K F H G) {a : Addr} (h : H a = none) : G a = none := by
  cases e : G a with
  | none => rfl
  | some m =>
    have q := R.obj a m e
    cases m with
    | lst ds => obtain ⟨xs, h1, _⟩ := q; rw [h] at h1; cases h1
    | dic kvs => obtain ⟨xs, h1, _⟩ := q; rw [h] at h1; cases h1
    | drw r => obtain ⟨i, _, h1⟩ := q; rw [h] at h1; cases h1
    | row => obtain ⟨ns, h1⟩ := q; rw [h] at h1; cases h1
    | ins C dx fs => obtain ⟨xs, h1, _⟩ := q; rw [h] at h1; cases h1
theorem Keep.sqT (R : Rel K F H G) (k : Keep F H G F' H' G') {a : Addr} {xs : List V} (h : SqT K H a xs) : SqT K H' a xs := by
  rcases h with (h | ⟨o, h⟩) | h
  · exact .inl (.inl (k.k a _ (R.off h (by intro _ z; cases z) (by intro _ z; cases z) (by intro _ _ _ z; cases z)) h).1)
  · exact .inl (.inr ⟨o, (k.k a _ (R.off h (by intro _ z; cases z) (by intro _ z; cases z) (by intro _ _ _ z; cases z)) h).1⟩)
  · exact .inr h
/-- what holds data up -/
structure Stay (F : Fr) (H : Hp) (F' : Fr) (H' : Hp) : Prop where
  tup : ∀ a xs, Rd H a (.tup xs) → Rd H' a (.tup xs)
  lst : ∀ a xs, F a → H a = some (.lst xs) → F' a ∧ H' a = some (.lst xs)
  frz : ∀ a o xs, H a = some (.frz o (.lst xs)) → H' a = some (.frz o (.lst xs))
  dic : ∀ a xs, F a → Rd H a (.dK xs) → F' a ∧ Rd H' a (.dK xs)
mutual
theorem Rep.stay (k : Stay F H F' H') : ∀ (d : D) (v : V), Rep K F H d v → Rep K F' H' d v
  | .non, _, h => h
  | .bl _, _, h => h
  | .int _, _, h => h
  | .str _, _, h => h
  | .ref _, _, h => h
  | .tup ds, _, ⟨a, xs, e, h, q⟩ => ⟨a, xs, e, h.elim (fun h => .inl (k.tup a xs h)) .inr, RepL.stay k ds xs q⟩
  | .lv ds, _, ⟨a, xs, e, ⟨f, h⟩, q⟩ => ⟨a, xs, e, k.lst a xs f h, RepL.stay k ds xs q⟩
  | .rl ds, _, ⟨a, xs, e, h, q⟩ => by
    refine ⟨a, xs, e, ?_, RepL.stay k ds xs q⟩
    rcases h with ⟨o, h⟩ | h
    · exact .inl ⟨o, k.frz a o xs h⟩
    · exact .inr h
  | .dv kvs, _, ⟨a, xs, e, ⟨f, h⟩, q⟩ => ⟨a, xs, e, k.dic a xs f h, RepK.stay k kvs xs q⟩
theorem RepL.stay (k : Stay F H F' H') : ∀ (ds : List D) (vs : List V), RepL K F H ds vs → RepL K F' H' ds vs
  | [], _, h => h
  | d :: ds, _, ⟨v, r, e, h, q⟩ => ⟨v, r, e, Rep.stay k d v h, RepL.stay k ds r q⟩
theorem RepK.stay (k : Stay F H F' H') : ∀ (ds : List (Key × D)) (vs : List (Key × V)), RepK K F H ds vs → RepK K F' H' ds vs
  | [], _, h => h
  | p :: ds, _, ⟨j, v, r, e, h, q⟩ => ⟨j, v, r, e, RepP.stay k p j v h, RepK.stay k ds r q⟩
theorem RepP.stay (k : Stay F H F' H') : ∀ (p : Key × D) (j : Key) (v : V), RepP K F H p j v → RepP K F' H' p j v
  | (_, d), _, v, ⟨e, h⟩ => ⟨e, Rep.stay k d v h⟩
end
theorem RepF.stay (k : Stay F H F' H') : ∀ (ds : List (Str × D)) (vs : List (Str × V)), RepF K F H ds vs → RepF K F' H' ds vs
  | [], _, h => h
  | (_, d) :: ds, _, ⟨v, r, e, h, q⟩ => ⟨v, r, e, Rep.stay k d v h, RepF.stay k ds r q⟩
theorem Keep.stay (R : Rel K F H G) (k : Keep F H G F' H' G') : Stay F H F' H' where
  tup a xs h := by
    rcases h with h | ⟨o, h⟩
    · exact .inl (k.k a _ (R.off h (by intro _ z; cases z) (by intro _ z; cases z) (by intro _ _ _ z; cases z)) h).1
    · exact .inr ⟨o, (k.k a _ (R.off h (by intro _ z; cases z) (by intro _ z; cases z) (by intro _ _ _ z; cases z)) h).1⟩
  lst a xs f h := by
    obtain ⟨h1, _, f1⟩ := k.k a _ (R.fr a f) h
    exact ⟨f1.mpr f, h1⟩
  frz a o xs h := (k.k a _ (R.off h (by intro _ z; cases z) (by intro _ z; cases z) (by intro _ _ _ z; cases z)) h).1
  dic a xs f h := by
    rcases h with h | ⟨o, h⟩
    · obtain ⟨h1, _, f1⟩ := k.k a _ (R.fr a f) h
      exact ⟨f1.mpr f, .inl h1⟩
    · obtain ⟨h1, _, f1⟩ := k.k a _ (R.fr a f) h
      exact ⟨f1.mpr f, .inr ⟨o, h1⟩⟩
theorem Rep.mono (R : Rel K F H G) (k : Keep F H G F' H' G') (d : D) (v : V) (h : Rep K F H d v) : Rep K F' H' d v := Rep.stay (k.stay R) d v h
theorem RepL.mono (R : Rel K F H G) (k : Keep F H G F' H' G') (ds : List D) (vs : List V) (h : RepL K F H ds vs) : RepL K F' H' ds vs := RepL.stay (k.stay R) ds vs h
theorem RepK.mono (R : Rel K F H G) (k : Keep F H G F' H' G') (ds : List (Key × D)) (vs : List (Key × V)) (h : RepK K F H ds vs) : RepK K F' H' ds vs := RepK.stay (k.stay R) ds vs h
theorem RepF.mono (R : Rel K F H G) (k : Keep F H G F' H' G') (ds : List (Str × D)) (vs : List (Str × V)) (h : RepF K F H ds vs) : RepF K F' H' ds vs := RepF.stay (k.stay R) ds vs h
theorem RepL.len : ∀ {ds : List D} {vs : List V}, RepL K F H ds vs → vs.length = ds.length
  | [], _, h => by cases h; rfl
  | d :: ds, _, ⟨v, r, e, h, q⟩ => by subst e; rw [List.length_cons, List.length_cons, RepL.len q]
theorem RepL.get : ∀ {ds : List D} {vs : List V}, RepL K F H ds vs → ∀ {i : Nat} {d : D}, ds[i]? = some d → ∃ v, vs[i]? = some v ∧ Rep K F H d v
  | [], _, _, i, d, e => by simp at e
  | d :: ds, _, ⟨v, r, e, h, q⟩, 0, d', e' => by
    subst e
    have : d = d' := by simpa using e'
    subst this
    exact ⟨v, rfl, h⟩
  | d :: ds, _, ⟨v, r, e, h, q⟩, i + 1, d', e' => by
    subst e
    obtain ⟨w, h1, h2⟩ := RepL.get q (i := i) (d := d') (by simpa using e')
    exact ⟨w, by simpa using h1, h2⟩
theorem RepL.app : ∀ {ds es : List D} {vs us : List V}, RepL K F H ds vs → RepL K F H es us → RepL K F H (ds ++ es) (vs ++ us)
  | [], _, _, _, h, g => by cases h; exact g
  | d :: ds, _, _, _, ⟨v, r, e, h, q⟩, g => by subst e; exact ⟨v, r ++ _, rfl, h, RepL.app q g⟩
theorem RepL.one {d : D} {v : V} (h : Rep K F H d v) : RepL K F H [d] [v] := ⟨v, [], rfl, h, rfl⟩
theorem RepL.take : ∀ {ds : List D} {vs : List V} (n : Nat), RepL K F H ds vs → RepL K F H (ds.take n) (vs.take n)
  | _, _, 0, _ => rfl
  | [], _, n + 1, h => by cases h; rfl
  | d :: ds, _, n + 1, ⟨v, r, e, h, q⟩ => by subst e; exact ⟨v, r.take n, rfl, h, RepL.take n q⟩
theorem RepL.drop : ∀ {ds : List D} {vs : List V} (n : Nat), RepL K F H ds vs → RepL K F H (ds.drop n) (vs.drop n)
  | _, _, 0, h => h
  | [], _, n + 1, h => by cases h; rfl
  | d :: ds, _, n + 1, ⟨v, r, e, h, q⟩ => by subst e; exact RepL.drop n q
theorem RepL.set : ∀ {ds : List D} {vs : List V} (n : Nat) {d : D} {v : V}, RepL K F H ds vs → Rep K F H d v → RepL K F H (ds.set n d) (vs.set n v)
  | [], _, _, _, _, h, _ => by cases h; rfl
  | d :: ds, _, 0, _, _, ⟨v, r, e, h, q⟩, g => by subst e; exact ⟨_, r, rfl, g, q⟩
  | d :: ds, _, n + 1, _, _, ⟨v, r, e, h, q⟩, g => by subst e; exact ⟨v, _, rfl, h, RepL.set n q g⟩
theorem RepL.ints : ∀ (ns : List Int), RepL K F H (ns.map D.int) (ns.map V.int)
  | [] => rfl
  | n :: ns => ⟨_, _, rfl, rfl, RepL.ints ns⟩

/-! ### the steps of the heap -/
/-- a new thing that is not listed in G -/
theorem keep_new (R : Rel K F H G) {p : Addr} {o : HO} (hp : H p = none) : Keep F H G F (upd H p o) G :=
  ⟨fun a u g h => ⟨by rw [upd_ne (ne_of_none h hp)]; exact h, g, Iff.rfl⟩⟩
theorem RepO.keep (R : Rel K F H G) (k : Keep F H G F' H' G') {a : Addr} {m : MO} (e : H' a = H a) (h : RepO K F H a m) : RepO K F' H' a m := by
  cases m with
  | lst ds => obtain ⟨xs, h1, q⟩ := h; exact ⟨xs, e.trans h1, RepL.mono R k _ _ q⟩
  | dic kvs => obtain ⟨xs, h1, q⟩ := h; exact ⟨xs, e.trans h1, RepK.mono R k _ _ q⟩
  | drw r => obtain ⟨i, h0, h1⟩ := h; exact ⟨i, h0, e.trans h1⟩
  | row => obtain ⟨ns, h1⟩ := h; exact ⟨ns, e.trans h1⟩
  | ins C dx fs =>
    obtain ⟨xs, h1, h2, q⟩ := h
    exact ⟨xs, e.trans h1, (k.k dx _ (R.off h2 (by intro _ z; cases z) (by intro _ z; cases z) (by intro _ _ _ z; cases z)) h2).1, RepF.mono R k _ _ q⟩
theorem rel_new (R : Rel K F H G) {p : Addr} {o : HO} (hp : H p = none) : Rel K F (upd H p o) G := by
  have k := keep_new (o := o) R hp
  refine ⟨fun a m e => ?_, R.fr, fun a f => ?_⟩
  · refine RepO.keep R k ?_ (R.obj a m e)
    refine upd_ne ?_
    intro z
    subst z
    rw [R.off0 hp] at e
    cases e
  · rw [upd_ne (fun z => R.al a f (by rw [z]; exact hp))]
    exact R.al a f
/-- a new list that is to stay as it is -/
def frzF (F : Fr) (p : Addr) : Fr := fun a => F a ∨ a = p
theorem keep_frz (R : Rel K F H G) {p : Addr} {o : HO} (hp : H p = none) : Keep F H G (frzF F p) (upd H p o) G :=
  ⟨fun a u g h => ⟨by rw [upd_ne (ne_of_none h hp)]; exact h, g, ⟨fun z => z.elim id (fun e => by subst e; rw [hp] at h; cases h), Or.inl⟩⟩⟩
theorem rel_frz (R : Rel K F H G) {p : Addr} {o : HO} (hp : H p = none) : Rel K (frzF F p) (upd H p o) G := by
  have k := keep_frz (o := o) R hp
  refine ⟨fun a m e => ?_, fun a f => ?_, fun a f => ?_⟩
  · refine RepO.keep R k ?_ (R.obj a m e)
    refine upd_ne ?_
    intro z
    subst z
    rw [R.off0 hp] at e
    cases e
  · rcases f with f | e
    · exact R.fr a f
    · rw [e]; exact R.off0 hp
  · by_cases z : a = p
    · subst z; rw [upd_same]; intro q; cases q
    · rw [upd_ne z]
      rcases f with f | e
      · exact R.al a f
      · exact absurd e z
/-- a new mutable thing -/
theorem keep_obj (R : Rel K F H G) {p : Addr} {o : HO} {m : MO} (hp : H p = none) : Keep F H G F (upd H p o) (updG G p m) :=
  ⟨fun a u g h => ⟨by rw [upd_ne (ne_of_none h hp)]; exact h, by rw [updG_ne (ne_of_none h hp)]; exact g, Iff.rfl⟩⟩
theorem rel_obj (R : Rel K F H G) {p : Addr} {o : HO} {m : MO} (hp : H p = none) (hm : RepO K F (upd H p o) p m) : Rel K F (upd H p o) (updG G p m) := by
  have k := keep_obj (o := o) (m := m) R hp
  refine ⟨fun a m' e => ?_, fun a f => ?_, fun a f => ?_⟩
  · by_cases z : a = p
    · subst z
      rw [updG_same] at e
      cases e
      exact hm
    · rw [updG_ne z] at e
      exact RepO.keep R k (upd_ne z) (R.obj a m' e)
  · rw [updG_ne (fun z => R.al a f (by rw [z]; exact hp))]
    exact R.fr a f
  · rw [upd_ne (fun z => R.al a f (by rw [z]; exact hp))]
    exact R.al a f
/-- a mutable thing changes -/
theorem keep_set {a : Addr} {o : HO} {m m' : MO} (e : G a = some m) : Keep F H G F (upd H a o) (updG G a m') :=
  ⟨fun b u g h => by
    have n : b ≠ a := fun z => by subst z; rw [g] at e; cases e
    exact ⟨by rw [upd_ne n]; exact h, by rw [updG_ne n]; exact g, Iff.rfl⟩⟩
theorem rel_set (R : Rel K F H G) {a : Addr} {o : HO} {m m' : MO} (e : G a = some m) (hm : RepO K F (upd H a o) a m') : Rel K F (upd H a o) (updG G a m') := by
  have k := keep_set (F := F) (H := H) (o := o) (m' := m') e
  refine ⟨fun b n e' => ?_, fun b f => ?_, fun b f => ?_⟩
  · by_cases z : b = a
    · subst z
      rw [updG_same] at e'
      cases e'
      exact hm
    · rw [updG_ne z] at e'
      exact RepO.keep R k (upd_ne z) (R.obj b n e')
  · have n : b ≠ a := fun z => by subst z; rw [R.fr b f] at e; cases e
    rw [updG_ne n]
    exact R.fr b f
  · have n : b ≠ a := fun z => by subst z; rw [R.fr b f] at e; cases e
    rw [upd_ne n]
    exact R.al b f

/-! ### what is behind a step -/
def post (K : PySem.W.Frag) (F : Fr) (H : Hp) (G : Gp) (Q : D → Gp → Prop) (v : V) (H' : Hp) : Prop :=
  ∃ d F' G', Keep F H G F' H' G' ∧ Rel K F' H' G' ∧ Rep K F' H' d v ∧ Q d G'
theorem post.trans {Q : D → Gp → Prop} {v : V} {H2 : Hp} (k : Keep F H G F' H' G') (h : post K F' H' G' Q v H2) : post K F H G Q v H2 := by
  obtain ⟨d, F2, G2, k2, r, p, q⟩ := h
  exact ⟨d, F2, G2, k.trans k2, r, p, q⟩
theorem post.here {Q : D → Gp → Prop} {v : V} {d : D} (R : Rel K F H G) (h : Rep K F H d v) (q : Q d G) : post K F H G Q v H := ⟨d, F, G, .refl, R, h, q⟩
end

/-! ### states -/
abbrev DS := List (Option D)
def getS : DS → Nat → Option D
  | [], _ => none
  | x :: _, 0 => x
  | _ :: r, i + 1 => getS r i
def setS : DS → Nat → Option D → DS
  | [], _, _ => []
  | _ :: r, 0, d => d :: r
  | x :: r, i + 1, d => x :: setS r i d
theorem setS_len : ∀ (δ : DS) (i : Nat) (d : Option D), (setS δ i d).length = δ.length
  | [], _, _ => rfl
  | _ :: _, 0, _ => rfl
  | _ :: r, i + 1, d => by
    show (setS r i d).length + 1 = r.length + 1
    rw [setS_len r i d]
theorem getS_setS : ∀ (δ : DS) (i j : Nat) (d : Option D), getS (setS δ i d) j = if j = i then (if i < δ.length then d else none) else getS δ j
  | [], i, j, d => by
    show (none : Option D) = _
    split
    · rw [if_neg (by simp)]
    · rfl
  | x :: r, 0, 0, d => by simp [setS, getS]
  | x :: r, 0, j + 1, d => by simp [setS, getS]
  | x :: r, i + 1, 0, d => by simp [setS, getS]
  | x :: r, i + 1, j + 1, d => by
    show getS (setS r i d) j = _
    rw [getS_setS r i j d]
    simp [getS]
structure RepS (K : PySem.W.Frag) (F : Fr) (H : Hp) (δ : DS) (σ : L2.St) : Prop where
  len : σ.length = δ.length
  at' : ∀ i d, getS δ i = some d → ∃ v, σ[i]? = some (some v) ∧ Rep K F H d v
section
variable {K : PySem.W.Frag} {F F' : Fr} {H H' : Hp} {G G' : Gp}
theorem RepS.mono {δ : DS} {σ : L2.St} (R : Rel K F H G) (k : Keep F H G F' H' G') (h : RepS K F H δ σ) : RepS K F' H' δ σ :=
  ⟨h.len, fun i d e => by obtain ⟨v, h1, h2⟩ := h.at' i d e; exact ⟨v, h1, Rep.mono R k d v h2⟩⟩
theorem RepS.set {δ : DS} {σ : L2.St} (h : RepS K F H δ σ) (i : Nat) {d : D} {v : V} (r : Rep K F H d v) : RepS K F H (setS δ i (some d)) (σ.set i (some v)) := by
  refine ⟨by rw [List.length_set, setS_len, h.len], fun j e hj => ?_⟩
  rw [getS_setS] at hj
  by_cases z : j = i
  · subst z
    rw [if_pos rfl] at hj
    by_cases l : j < δ.length
    · rw [if_pos l] at hj
      cases hj
      exact ⟨v, by rw [List.getElem?_set_self (by rw [h.len]; exact l)], r⟩
    · rw [if_neg l] at hj; cases hj
  · rw [if_neg z] at hj
    obtain ⟨w, h1, h2⟩ := h.at' j e hj
    exact ⟨w, by rw [List.getElem?_set_ne (fun q => z q.symm)]; exact h1, h2⟩
def wipeS (δ : DS) : List Nat → DS
  | [] => δ
  | v :: vs => setS (wipeS δ vs) v none
theorem RepS.wipe {δ : DS} {σ : L2.St} (h : RepS K F H δ σ) : ∀ vs : List Nat, RepS K F H (wipeS δ vs) (wipe σ vs)
  | [] => h
  | v :: vs => by
    have ih := RepS.wipe h vs
    refine ⟨by unfold wipeS L2.wipe; rw [List.length_set, setS_len, ih.len], fun j e hj => ?_⟩
    unfold wipeS at hj
    rw [getS_setS] at hj
    by_cases z : j = v
    · subst z
      rw [if_pos rfl] at hj
      split at hj <;> cases hj
    · rw [if_neg z] at hj
      obtain ⟨w, h1, h2⟩ := ih.at' j e hj
      exact ⟨w, by unfold L2.wipe; rw [List.getElem?_set_ne (fun q => z q.symm)]; exact h1, h2⟩
end
end DL
set_option Elab.async false
set_option linter.all false
set_option maxRecDepth 100000
set_option maxHeartbeats 4000000
namespace DL
open PySem PySem.Spec PyProof.Rows L2

/-! ### readings over data -/
abbrev DTE := DS → Gp → (D → Gp → Prop) → Prop
abbrev DTT := DS → Gp → (Bool → Gp → Prop) → Prop
abbrev DTA := DS → Gp → (List D → Gp → Prop) → Prop
def dCond (b : Bool) (A B : Prop) : Prop := match b with | true => A | false => B
theorem dCond_t {A B : Prop} : dCond true A B = A := rfl
theorem dCond_f {A B : Prop} : dCond false A B = B := rfl
theorem dCond2 {b : Bool} {A B : Prop} (h1 : b = true → A) (h2 : b = false → B) : dCond b A B := by
  cases b with
  | true => exact h1 rfl
  | false => exact h2 rfl
theorem dCond_congr {b b' : Bool} {A B : Prop} (h : b = b') : dCond b A B = dCond b' A B := by rw [h]
/-- a value that must be there -/
def optQ {α : Type} (o : Option α) (k : α → Prop) : Prop := match o with | some x => k x | none => False
theorem optQ_some {α : Type} {x : α} {k : α → Prop} : optQ (some x) k = k x := rfl
theorem optQ_congr {α : Type} {o o' : Option α} {k : α → Prop} (h : o = o') : optQ o k = optQ o' k := by rw [h]
theorem optQ_ex {α : Type} {o : Option α} {k : α → Prop} (h : optQ o k) : ∃ x, o = some x ∧ k x := by
  cases o with
  | none => exact h.elim
  | some x => exact ⟨x, rfl, h⟩
structure DEnds where
  nx : DS → Gp → Prop
  rt : D → Gp → Prop
  bk : DS → Gp → Prop := fun _ _ => False
  ct : DS → Gp → Prop := fun _ _ => False
abbrev DTS := DEnds → DS → Gp → Prop
abbrev DXK := D → Gp → Prop
abbrev DSp := List D → Gp → (D → Gp → Prop) → DXK → Prop
def blOf : D → Option Bool
  | .bl b => some b
  | _ => none
def intOf : D → Option Int
  | .int b => some b
  | _ => none
def refOf : D → Option Addr
  | .ref b => some b
  | _ => none
def tupOf : D → Option (List D)
  | .tup b => some b
  | _ => none
def strOf : D → Option Str
  | .str b => some b
  | _ => none
def lstOf : Option MO → Option (List D)
  | some (.lst ds) => some ds
  | _ => none
def uncons : List D → Option (D × List D)
  | d :: r => some (d, r)
  | [] => none
theorem blOf_eq {d : D} {b : Bool} (h : blOf d = some b) : d = .bl b := by cases d <;> cases h; rfl
theorem intOf_eq {d : D} {b : Int} (h : intOf d = some b) : d = .int b := by cases d <;> cases h; rfl
theorem refOf_eq {d : D} {b : Addr} (h : refOf d = some b) : d = .ref b := by cases d <;> cases h; rfl
theorem tupOf_eq {d : D} {b : List D} (h : tupOf d = some b) : d = .tup b := by cases d <;> cases h; rfl
theorem strOf_eq {d : D} {b : Str} (h : strOf d = some b) : d = .str b := by cases d <;> cases h; rfl
theorem lstOf_eq {o : Option MO} {ds : List D} (h : lstOf o = some ds) : o = some (.lst ds) := by
  cases o with
  | none => cases h
  | some m => cases m <;> cases h; rfl

def postT (F : Fr) (K : PySem.W.Frag) (H : Hp) (G : Gp) (Q : Bool → Gp → Prop) (b : Bool) (H' : Hp) : Prop :=
  ∃ F' G', Keep F H G F' H' G' ∧ Rel K F' H' G' ∧ Q b G'
def postA (F : Fr) (K : PySem.W.Frag) (H : Hp) (G : Gp) (Q : List D → Gp → Prop) (vs : List V) (H' : Hp) : Prop :=
  ∃ ds F' G', Keep F H G F' H' G' ∧ Rel K F' H' G' ∧ RepL K F' H' ds vs ∧ Q ds G'
def postS (F : Fr) (K : PySem.W.Frag) (H : Hp) (G : Gp) (Q : DS → Gp → Prop) (σ : L2.St) (H' : Hp) : Prop :=
  ∃ δ F' G', Keep F H G F' H' G' ∧ Rel K F' H' G' ∧ RepS K F' H' δ σ ∧ Q δ G'

def up (K : PySem.W.Frag) (t : DTE) : TE := fun σ H Q0 => ∃ F δ G Q, Rel K F H G ∧ RepS K F H δ σ ∧ t δ G Q ∧ ∀ v H', post K F H G Q v H' → Q0 v H'
def upT (K : PySem.W.Frag) (t : DTT) : TT := fun σ H Q0 => ∃ F δ G Q, Rel K F H G ∧ RepS K F H δ σ ∧ t δ G Q ∧ ∀ b H', postT F K H G Q b H' → Q0 b H'
def upA (K : PySem.W.Frag) (t : DTA) : TA := fun σ H Q0 => ∃ F δ G Q, Rel K F H G ∧ RepS K F H δ σ ∧ t δ G Q ∧ ∀ vs H', postA F K H G Q vs H' → Q0 vs H'
structure EndsUp (K : PySem.W.Frag) (F : Fr) (H : Hp) (G : Gp) (D' : DEnds) (D : Ends) : Prop where
  nx : ∀ σ' H', postS F K H G D'.nx σ' H' → D.nx σ' H'
  rt : ∀ v H', post K F H G D'.rt v H' → D.rt v H'
  bk : ∀ σ' H', postS F K H G D'.bk σ' H' → D.bk σ' H'
  ct : ∀ σ' H', postS F K H G D'.ct σ' H' → D.ct σ' H'
def upS (K : PySem.W.Frag) (t : DTS) : TS := fun D σ H => ∃ F δ G D', Rel K F H G ∧ RepS K F H δ σ ∧ t D' δ G ∧ EndsUp K F H G D' D
def upSp (K : PySem.W.Frag) (sp : DSp) : Sp := fun vs H Q E => ∃ F ds G Q', Rel K F H G ∧ RepL K F H ds vs ∧ sp ds G Q' (fun _ _ => False) ∧ ∀ v H', post K F H G Q' v H' → Q v H'

def QE (X : Cx) (e : Expr) (t : DTE) : Prop := PE X e (up X.K t)
def QT (X : Cx) (e : Expr) (t : DTT) : Prop := PT X e (upT X.K t)
def QA (X : Cx) (es : List Expr) (t : DTA) : Prop := PA X es (upA X.K t)
def QS (X : Cx) (st : Stmt) (t : DTS) : Prop := PS X st (upS X.K t)
def QSs (X : Cx) (st : List Stmt) (t : DTS) : Prop := PSs X st (upS X.K t)

section
variable {X : Cx} {K : PySem.W.Frag} {F F' : Fr} {H H' : Hp} {G G' : Gp}
theorem PEmono {e : Expr} {t t' : TE} (h : PE X e t) (i : ∀ σ H Q, t' σ H Q → t σ H Q) : PE X e t' := ⟨fun pins s σ H Q I q => h.run pins s σ H Q I (i _ _ _ q)⟩
theorem PTmono {e : Expr} {t t' : TT} (h : PT X e t) (i : ∀ σ H Q, t' σ H Q → t σ H Q) : PT X e t' := ⟨fun pins s σ H Q I q => h.run pins s σ H Q I (i _ _ _ q)⟩
theorem PAmono {e : List Expr} {t t' : TA} (h : PA X e t) (i : ∀ σ H Q, t' σ H Q → t σ H Q) : PA X e t' := ⟨fun pos pins s σ H Q I q => h.run pos pins s σ H Q I (i _ _ _ q)⟩
theorem PSmono {e : Stmt} {t t' : TS} (h : PS X e t) (i : ∀ D σ H, t' D σ H → t D σ H) : PS X e t' := ⟨fun pins s σ H D I q => h.run pins s σ H D I (i _ _ _ q)⟩
theorem PSsmono {e : List Stmt} {t t' : TS} (h : PSs X e t) (i : ∀ D σ H, t' D σ H → t D σ H) : PSs X e t' := ⟨fun pins s σ H D I q => h.run pins s σ H D I (i _ _ _ q)⟩
theorem EndsUp.step {D' : DEnds} {D : Ends} (k : Keep F H G F' H' G') (h : EndsUp K F H G D' D) : EndsUp K F' H' G' D' D :=
  ⟨fun σ H2 ⟨δ, F2, G2, k2, q⟩ => h.nx σ H2 ⟨δ, F2, G2, k.trans k2, q⟩, fun v H2 ⟨d, F2, G2, k2, q⟩ => h.rt v H2 ⟨d, F2, G2, k.trans k2, q⟩,
   fun σ H2 ⟨δ, F2, G2, k2, q⟩ => h.bk σ H2 ⟨δ, F2, G2, k.trans k2, q⟩, fun σ H2 ⟨δ, F2, G2, k2, q⟩ => h.ct σ H2 ⟨δ, F2, G2, k.trans k2, q⟩⟩

/-! ### names, constants -/
def dVar (i : Nat) : DTE := fun δ G Q => optQ (getS δ i) fun d => Q d G
def dC (d : D) : DTE := fun _ G Q => Q d G
theorem q_of {e : Expr} {i : Nat} (h : PE X e (tVar i)) : QE X e (dVar i) := PEmono h fun σ H Q ⟨F, δ, G, Q', R, S, q, k⟩ => by
  replace q := optQ_ex q
  obtain ⟨d, e1, q⟩ := q
  obtain ⟨v, h1, h2⟩ := S.at' i d e1
  exact ⟨v, h1, k v H (.here R h2 q)⟩
theorem qv (i : Nat) {x : Str} {pos : Pos} (hN : X.N[i]? = some x := by rfl) (hv : Vis X.env.scope x := by first | exact Or.inl rfl | exact Or.inr (Or.inl rfl) | exact Or.inr (Or.inr rfl)) (hd : (x == ("__debug__" : Str)) = false := by decide)
    (hcd : (x == ("__classdict__" : Str)) = false := by decide) : QE X (.Name x pos) (dVar i) := q_of (pe_var hN hv hd hcd)
theorem q_const {e : Expr} {v : V} {d : D} (h : PE X e (tC v)) (r : ∀ F H G, Rel X.K F H G → Rep X.K F H d v) : QE X e (dC d) := PEmono h fun σ H Q ⟨F, δ, G, Q', R, S, q, k⟩ => k v H (.here R (r F H G R) q)
theorem q_int {i j pos} : QE X (.Constant (.int i) j pos) (dC (.int i)) := q_const pe_int fun _ _ _ _ => rfl
theorem q_bl {b j pos} : QE X (.Constant (.bool b) j pos) (dC (.bl b)) := q_const pe_bl fun _ _ _ _ => rfl
theorem q_non {j pos} : QE X (.Constant .none j pos) (dC .non) := q_const pe_non fun _ _ _ _ => rfl
theorem q_str {x : String} {j pos} : QE X (.Constant (.str (Str.ofString x)) j pos) (dC (.str (Str.ofString x))) := q_const pe_str fun _ _ _ _ => ⟨rfl, sOk_of x⟩
/-- a constant of the module -/
theorem q_gi {x : Str} {i : Int} {pos : Pos} (hg : Gl X x) (hm : ∃ t, X.mg x = some (.int i t)) (hd : (x == ("__debug__" : Str)) = false := by decide) : QE X (.Name x pos) (dC (.int i)) := by
  obtain ⟨t, hm⟩ := hm
  exact q_const (v := .int i) (pe_glob hg hm ⟨t, rfl⟩ hd) fun _ _ _ _ => rfl
theorem q_gs {x : Str} {z : String} {pos : Pos} (hg : Gl X x) (hm : ∃ t, X.mg x = some (.str (Str.ofString z) t)) (hd : (x == ("__debug__" : Str)) = false := by decide) : QE X (.Name x pos) (dC (.str (Str.ofString z))) := by
  obtain ⟨t, hm⟩ := hm
  exact q_const (v := .str (Str.ofString z)) (pe_glob hg hm ⟨t, rfl⟩ hd) fun _ _ _ _ => ⟨rfl, sOk_of z⟩

/-! ### operators -/
abbrev R1 := D → Gp → (D → Gp → Prop) → Prop
abbrev R2d := D → D → Gp → (D → Gp → Prop) → Prop
abbrev RA := List D → Gp → (D → Gp → Prop) → Prop
def Lift1 (K : PySem.W.Frag) (r0 : V → Hp → VK → Prop) (r : R1) : Prop :=
  ∀ F H G d v Q Q0, Rel K F H G → Rep K F H d v → r d G Q → (∀ v' H', post K F H G Q v' H' → Q0 v' H') → r0 v H Q0
def Lift2 (K : PySem.W.Frag) (r0 : R2) (r : R2d) : Prop :=
  ∀ F H G d e v u Q Q0, Rel K F H G → Rep K F H d v → Rep K F H e u → r d e G Q → (∀ v' H', post K F H G Q v' H' → Q0 v' H') → r0 v u H Q0
def LiftA (K : PySem.W.Frag) (r0 : List V → Hp → VK → Prop) (r : RA) : Prop :=
  ∀ F H G ds vs Q Q0, Rel K F H G → RepL K F H ds vs → r ds G Q → (∀ v' H', post K F H G Q v' H' → Q0 v' H') → r0 vs H Q0
def dOp (r : R2d) (ta tb : DTE) : DTE := fun δ G Q => ta δ G fun x G1 => tb δ G1 fun y G2 => r x y G2 Q
def dUn (r : R1) (ta : DTE) : DTE := fun δ G Q => ta δ G fun x G1 => r x G1 Q
theorem up2 {ta tb : DTE} {r0 : R2} {r : R2d} (l : Lift2 K r0 r) {σ : L2.St} {Q : VK} (h : up K (dOp r ta tb) σ H Q) : tOp r0 (up K ta) (up K tb) σ H Q := by
  obtain ⟨F, δ, G, Q', R, S, q, k⟩ := h
  refine ⟨F, δ, G, _, R, S, q, fun v H1 ⟨d, F1, G1, k1, R1, p1, q1⟩ => ?_⟩
  refine ⟨F1, δ, G1, _, R1, S.mono R k1, q1, fun u H2 ⟨e, F2, G2, k2, R2, p2, q2⟩ => ?_⟩
  exact l F2 H2 G2 d e v u Q' Q R2 (Rep.mono R1 k2 d v p1) p2 q2 fun v' H' q3 => k v' H' (.trans (k1.trans k2) q3)
theorem up1 {ta : DTE} {r0 : V → Hp → VK → Prop} {r : R1} (l : Lift1 K r0 r) {σ : L2.St} {Q : VK} (h : up K (dUn r ta) σ H Q) : tUn r0 (up K ta) σ H Q := by
  obtain ⟨F, δ, G, Q', R, S, q, k⟩ := h
  refine ⟨F, δ, G, _, R, S, q, fun v H1 ⟨d, F1, G1, k1, R1, p1, q1⟩ => ?_⟩
  exact l F1 H1 G1 d v Q' Q R1 p1 q1 fun v' H' q3 => k v' H' (.trans k1 q3)
variable {a b c : Expr} {ta tb tc : DTE} {pos : Pos}
theorem q_op {op : Operator} {r0 : R2} {r : R2d} (ho : OpR X (binaryOp op) r0) (l : Lift2 X.K r0 r) (ha : QE X a ta) (hb : QE X b tb) : QE X (.BinOp a op b pos) (dOp r ta tb) :=
  PEmono (pe_op ho ha hb) fun _ _ _ h => up2 l h
theorem q_un {op : UnaryOp} {r0 : V → Hp → VK → Prop} {r : R1} (ho : UnR X (unaryOp op) r0) (l : Lift1 X.K r0 r) (ha : QE X a ta) : QE X (.UnaryOp op a pos) (dUn r ta) :=
  PEmono (pe_un ho ha) fun _ _ _ h => up1 l h
theorem q_cmp {op : CmpOp} {r0 : R2} {r : R2d} (ho : OpR X (compareOp op) r0) (l : Lift2 X.K r0 r) (ha : QE X a ta) (hb : QE X b tb) (hm : behindInMarks op b = false) : QE X (.Compare a [op] [b] pos) (dOp r ta tb) :=
  PEmono (pe_cmpR ho ha hb hm) fun _ _ _ h => up2 l h
/-- a bool as a test -/
def dTest (t : DTE) : DTT := fun δ G Q => t δ G fun x G1 => optQ (blOf x) fun k => Q k G1
theorem upTest {t : DTE} {t0 : TE} (h : ∀ σ H Q, up K t σ H Q → t0 σ H Q) {σ : L2.St} {Q : Bool → Hp → Prop} (q : upT K (dTest t) σ H Q) : tTest t0 σ H Q := by
  obtain ⟨F, δ, G, Q', R, S, q, k⟩ := q
  refine h _ _ _ ⟨F, δ, G, _, R, S, q, fun v H1 ⟨d, F1, G1, k1, R1, p1, q1⟩ => ?_⟩
  replace q1 := optQ_ex q1
  obtain ⟨x, e, q1⟩ := q1
  rw [blOf_eq e] at p1
  exact ⟨x, p1, k x H1 ⟨F1, G1, k1, R1, q1⟩⟩
theorem q_tcmp {op : CmpOp} {r0 : R2} {r : R2d} (ho : OpR X (compareOp op) r0) (l : Lift2 X.K r0 r) (ha : QE X a ta) (hb : QE X b tb) (hm : behindInMarks op b = false) : QT X (.Compare a [op] [b] pos) (dTest (dOp r ta tb)) :=
  PTmono (pt_cmpR ho ha hb hm) fun _ _ _ h => upTest (fun _ _ _ => up2 l) h
/-- two comparisons in a row -/
def dChain (r r' : R2d) (ta tb tc : DTE) : DTE := fun δ G Q => ta δ G fun x G1 => tb δ G1 fun y G2 => r x y G2 fun z G3 => optQ (blOf z) fun c => dCond c (tc δ G3 fun w G4 => r' y w G4 Q) (Q (.bl false) G3)
theorem upChain {r0 r0' : R2} {r r' : R2d} (l : Lift2 K r0 r) (l' : Lift2 K r0' r') {σ : L2.St} {Q : VK} (h : up K (dChain r r' ta tb tc) σ H Q) : tChain r0 r0' (up K ta) (up K tb) (up K tc) σ H Q := by
  obtain ⟨F, δ, G, Q', R, S, q, k⟩ := h
  refine ⟨F, δ, G, _, R, S, q, fun v H1 ⟨d, F1, G1, k1, R1, p1, q1⟩ => ?_⟩
  refine ⟨F1, δ, G1, _, R1, S.mono R k1, q1, fun u H2 ⟨e, F2, G2, k2, R2, p2, q2⟩ => ?_⟩
  have S2 := (S.mono R k1).mono R1 k2
  refine l F2 H2 G2 d e v u _ _ R2 (Rep.mono R1 k2 d v p1) p2 q2 fun v' H' ⟨z, F3, G3, k3, R3, p3, q3⟩ => ?_
  replace q3 := optQ_ex q3
  obtain ⟨x, ex, q3⟩ := q3
  have ez := blOf_eq ex
  subst ez
  · cases x with
    | true =>
      refine ⟨true, p3, ?_⟩
      rw [if_pos rfl]
      refine ⟨F3, δ, G3, _, R3, S2.mono R2 k3, q3, fun w H4 ⟨f, F4, G4, k4, R4, p4, q4⟩ => ?_⟩
      refine l' F4 H4 G4 e f u w Q' Q R4 (Rep.mono R3 k4 e u (Rep.mono R2 k3 e u p2)) p4 q4 fun v' H' q5 => k v' H' (.trans (((k1.trans k2).trans k3).trans k4) q5)
    | false =>
      refine ⟨false, p3, ?_⟩
      rw [if_neg Bool.false_ne_true]
      exact k _ _ ⟨.bl false, F3, G3, (k1.trans k2).trans k3, R3, rfl, q3⟩
theorem q_chain {op op' : CmpOp} {r0 r0' : R2} {r r' : R2d} (ho : OpR X (compareOp op) r0) (l : Lift2 X.K r0 r) (ho' : OpR X (compareOp op') r0') (l' : Lift2 X.K r0' r') (ha : QE X a ta) (hb : QE X b tb) (hc : QE X c tc)
    (hm : lastMarks [op, op'] [b, c] = false := by with_unfolding_all rfl) : QE X (.Compare a [op, op'] [b, c] pos) (dChain r r' ta tb tc) :=
  PEmono (pe_chain ho ho' ha hb hc hm) fun _ _ _ h => upChain l l' h
theorem q_tchain {op op' : CmpOp} {r0 r0' : R2} {r r' : R2d} (ho : OpR X (compareOp op) r0) (l : Lift2 X.K r0 r) (ho' : OpR X (compareOp op') r0') (l' : Lift2 X.K r0' r') (ha : QE X a ta) (hb : QE X b tb) (hc : QE X c tc)
    (hm : lastMarks [op, op'] [b, c] = false := by with_unfolding_all rfl) : QT X (.Compare a [op, op'] [b, c] pos) (dTest (dChain r r' ta tb tc)) :=
  PTmono (pt_chain ho ho' ha hb hc hm) fun _ _ _ h => upTest (fun _ _ _ => upChain l l') h

/-! ### operators by their data -/
def dPure2 (f : D → D → Option D) : R2d := fun x y G Q => optQ (f x y) fun z => Q z G
def dPure1 (f : D → Option D) : R1 := fun x G Q => optQ (f x) fun z => Q z G
theorem lift_or {r0 r0' : R2} {r : R2d} (h : ∀ F H G d e v u Q Q0, Rel K F H G → Rep K F H d v → Rep K F H e u → r d e G Q → (∀ v' H', post K F H G Q v' H' → Q0 v' H') → r0 v u H Q0 ∨ r0' v u H Q0) :
    Lift2 K (fun x y H Q => r0 x y H Q ∨ r0' x y H Q) r := h
end
end DL
set_option Elab.async false
set_option linter.all false
set_option maxRecDepth 100000
set_option maxHeartbeats 4000000
namespace DL
open PySem PySem.Spec PyProof.Rows L2
section
variable {X : Cx} {K : PySem.W.Frag} {F F' : Fr} {H H' : Hp} {G G' : Gp}
/-- the end of a step that changes nothing -/
theorem fin {Q : D → Gp → Prop} {Q0 : VK} {d : D} {v : V} (R : Rel K F H G) (k : ∀ v' H', post K F H G Q v' H' → Q0 v' H') (q : Q d G) (r : Rep K F H d v) : Q0 v H := k v H (.here R r q)
theorem fin_lv {Q : D → Gp → Prop} {Q0 : VK} {ds : List D} {xs : List V} (R : Rel K F H G) (k : ∀ v' H', post K F H G Q v' H' → Q0 v' H') (r : RepL K F H ds xs) (q : Q (.lv ds) G) : ∀ p, H p = none → Q0 (.ref p) (upd H p (.lst xs)) := fun p hp =>
  k _ _ ⟨.lv ds, frzF F p, G, keep_frz R hp, rel_frz R hp, ⟨p, xs, rfl, ⟨.inr rfl, upd_same⟩, RepL.mono R (keep_frz R hp) _ _ r⟩, q⟩
theorem fin_ref {Q : D → Gp → Prop} {Q0 : VK} {ds : List D} {xs : List V} (R : Rel K F H G) (k : ∀ v' H', post K F H G Q v' H' → Q0 v' H') (r : RepL K F H ds xs) (q : ∀ p, G p = none → Q (.ref p) (updG G p (.lst ds))) : ∀ p, H p = none → Q0 (.ref p) (upd H p (.lst xs)) := fun p hp =>
  k _ _ ⟨.ref p, F, updG G p (.lst ds), keep_obj R hp, rel_obj R hp ⟨xs, upd_same, RepL.mono R (keep_obj (m := .lst ds) R hp) _ _ r⟩, rfl, q p (R.off0 hp)⟩
theorem fin_tup {Q : D → Gp → Prop} {Q0 : VK} {ds : List D} {xs : List V} (R : Rel K F H G) (k : ∀ v' H', post K F H G Q v' H' → Q0 v' H') (r : RepL K F H ds xs) (q : Q (.tup ds) G) : ∀ p, H p = none → Q0 (.ref p) (upd H p (.tup xs)) := fun p hp =>
  k _ _ ⟨.tup ds, F, G, keep_new R hp, rel_new R hp, ⟨p, xs, rfl, .inl (.inl upd_same), RepL.mono R (keep_new R hp) _ _ r⟩, q⟩

/-! ### + - * // % ** -/
def dAdd : D → D → Option D
  | .int i, .int j => some (.int (i + j))
  | .str x, .str y => if x.length + y.length ≤ sizeLine then some (.str (x ++ y)) else none
  | .tup xs, .tup ys => if xs.length + ys.length ≤ sizeLine then some (.tup (xs ++ ys)) else none
  | .lv xs, .lv ys => if xs.length + ys.length ≤ sizeLine then some (.lv (xs ++ ys)) else none
  | _, _ => none
def r0Add (K : PySem.W.Frag) : R2 := fun x y H Q => (rI0 (fun i j => .int (i + j))) x y H Q ∨ (∃ i j, x = .str i ∧ y = .str j ∧ i.length + j.length ≤ sizeLine ∧ Q (.str (i ++ j)) H) ∨ rCatA K x y H Q ∨ rCat x y H Q
theorem op_addU : OpR X (binaryOp .Add) (r0Add X.K) := .or op_add (.or op_add_str (.or op_catA op_cat))
theorem lift_add : Lift2 K (r0Add K) (dPure2 dAdd) := by
  intro F H G d e v u Q Q0 R rd re q k
  replace q := optQ_ex q
  obtain ⟨z, hz, q⟩ := q
  unfold dAdd at hz
  split at hz
  · cases hz
    exact .inl ⟨_, _, rd, re, fin R k q rfl⟩
  · split at hz
    · rename_i hl
      cases hz
      exact .inr (.inl ⟨_, _, rd.1, re.1, hl, fin R k q ⟨rfl, sOk_app rd.2 re.2⟩⟩)
    · cases hz
  · split at hz
    · rename_i hl
      cases hz
      obtain ⟨a, xs, rfl, ha, pa⟩ := rd
      obtain ⟨b, ys, rfl, hb, pb⟩ := re
      refine .inr (.inr (.inl ⟨a, b, xs, ys, rfl, rfl, ha, hb, by rw [pa.len, pb.len]; exact hl, fun e => ?_, fun n e => ?_, fun n n2 p hp => fin_tup R k (pa.app pb) q p hp⟩))
      · subst e
        refine fin R k q ⟨b, [] ++ ys, rfl, hb, pa.app pb⟩
      · subst e
        refine fin R k q ⟨a, xs ++ [], rfl, by rw [List.append_nil]; exact ha, pa.app pb⟩
    · cases hz
  · split at hz
    · rename_i hl
      cases hz
      obtain ⟨a, xs, rfl, ha, pa⟩ := rd
      obtain ⟨b, ys, rfl, hb, pb⟩ := re
      exact .inr (.inr (.inr ⟨a, b, xs, ys, rfl, rfl, ha.2, hb.2, by rw [pa.len, pb.len]; exact hl, fun p hp => fin_lv R k (pa.app pb) q p hp⟩))
    · cases hz
  · cases hz
/-- two ints, a condition, an answer -/
def dI2 (C : Int → Int → Bool) (f : Int → Int → D) : D → D → Option D
  | .int i, .int j => if C i j = true then some (f i j) else none
  | _, _ => none
theorem lift_I {C : Int → Int → Bool} {C0 : Int → Int → Prop} {f : Int → Int → D} {g : Int → Int → V} (hc : ∀ i j, C i j = true → C0 i j) (hf : ∀ F H i j, Rep K F H (f i j) (g i j)) : Lift2 K (rI C0 g) (dPure2 (dI2 C f)) := by
  intro F H G d e v u Q Q0 R rd re q k
  replace q := optQ_ex q
  obtain ⟨z, hz, q⟩ := q
  unfold dI2 at hz
  split at hz
  · split at hz
    · rename_i hl
      cases hz
      exact ⟨_, _, rd, re, hc _ _ hl, fin R k q (hf _ _ _ _)⟩
    · cases hz
  · cases hz
theorem lift_I0 {f : Int → Int → D} {g : Int → Int → V} (hf : ∀ F H i j, Rep K F H (f i j) (g i j)) : Lift2 K (rI0 g) (dPure2 (dI2 (fun _ _ => true) f)) := by
  intro F H G d e v u Q Q0 R rd re q k
  replace q := optQ_ex q
  obtain ⟨z, hz, q⟩ := q
  unfold dI2 at hz
  split at hz
  · rw [if_pos rfl] at hz
    cases hz
    exact ⟨_, _, rd, re, fin R k q (hf _ _ _ _)⟩
  · cases hz
abbrev dSub := dI2 (fun _ _ => true) fun i j => .int (i - j)
abbrev dMul := dI2 (fun i j => (decide (-(2 ^ 64) < i) && decide (i < 2 ^ 64)) || (decide (-(2 ^ 64) < j) && decide (j < 2 ^ 64))) fun i j => .int (i * j)
abbrev dDiv := dI2 (fun _ j => decide (0 < j) && decide (j < 1073741824)) fun i j => .int (i / j)
abbrev dMod := dI2 (fun _ j => decide (0 < j)) fun i j => .int (i % j)
abbrev dPow := dI2 (fun i j => decide (0 ≤ j) && decide (j ≤ 1000000) && (decide (-18446744073709551616 < i) && decide (i < 18446744073709551616))) fun i j => .int (i ^ j.toNat)
theorem lift_sub : Lift2 K (rI0 fun i j => .int (i - j)) (dPure2 dSub) := lift_I0 fun _ _ _ _ => rfl
theorem lift_mul : Lift2 K (rI CMul fun i j => .int (i * j)) (dPure2 dMul) := lift_I (fun i j h => by
  rw [Bool.or_eq_true, Bool.and_eq_true, Bool.and_eq_true, decide_eq_true_eq, decide_eq_true_eq, decide_eq_true_eq, decide_eq_true_eq] at h
  exact h) fun _ _ _ _ => rfl
theorem lift_div : Lift2 K (rI CDiv fun i j => .int (i / j)) (dPure2 dDiv) := lift_I (fun i j h => by
  rw [Bool.and_eq_true, decide_eq_true_eq, decide_eq_true_eq] at h
  exact h) fun _ _ _ _ => rfl
theorem lift_mod : Lift2 K (rI (fun _ j => 0 < j) fun i j => .int (i % j)) (dPure2 dMod) := lift_I (fun i j h => of_decide_eq_true h) fun _ _ _ _ => rfl
theorem lift_pow : Lift2 K (rI CPow fun i j => .int (i ^ j.toNat)) (dPure2 dPow) := lift_I (fun i j h => by
  rw [Bool.and_eq_true, Bool.and_eq_true, Bool.and_eq_true, decide_eq_true_eq, decide_eq_true_eq, decide_eq_true_eq, decide_eq_true_eq] at h
  exact ⟨h.1.1, h.1.2, by omega⟩) fun _ _ _ _ => rfl
variable {a b c : Expr} {ta tb tc : DTE} {pos : Pos}
theorem q_add (ha : QE X a ta) (hb : QE X b tb) : QE X (.BinOp a .Add b pos) (dOp (dPure2 dAdd) ta tb) := q_op op_addU lift_add ha hb
theorem q_sub (ha : QE X a ta) (hb : QE X b tb) : QE X (.BinOp a .Sub b pos) (dOp (dPure2 dSub) ta tb) := q_op op_sub lift_sub ha hb
theorem q_mul (ha : QE X a ta) (hb : QE X b tb) : QE X (.BinOp a .Mult b pos) (dOp (dPure2 dMul) ta tb) := q_op op_mul lift_mul ha hb
theorem q_div (ha : QE X a ta) (hb : QE X b tb) : QE X (.BinOp a .FloorDiv b pos) (dOp (dPure2 dDiv) ta tb) := q_op op_fdiv lift_div ha hb
theorem q_mod (ha : QE X a ta) (hb : QE X b tb) : QE X (.BinOp a .Mod b pos) (dOp (dPure2 dMod) ta tb) := q_op op_mod lift_mod ha hb
theorem q_pow (ha : QE X a ta) (hb : QE X b tb) : QE X (.BinOp a .Pow b pos) (dOp (dPure2 dPow) ta tb) := q_op op_pow lift_pow ha hb

/-! ### == and != -/
mutual
def pyD : D → Option PyData
  | .non => some .none
  | .bl b => some (.bool b)
  | .int i => some (.int i)
  | .str x => some (.str x)
  | .ref _ => none
  | .tup ds => (pyL ds).map .tuple
  | .lv ds => (pyL ds).map .list
  | .rl ds => (pyL ds).map .list
  | .dv _ => none
def pyL : List D → Option (List PyData)
  | [] => some []
  | d :: ds => match pyD d, pyL ds with
    | some x, some xs => some (x :: xs)
    | _, _ => none
end
/-! plain: no mutable thing, no dict in it -/
mutual
def dPl : D → Bool
  | .ref _ => false
  | .dv _ => false
  | .tup ds => dPlL ds
  | .lv ds => dPlL ds
  | .rl ds => dPlL ds
  | _ => true
def dPlL : List D → Bool
  | [] => true
  | d :: ds => dPl d && dPlL ds
end
mutual
def dDep : D → Nat
  | .tup ds => dDepL ds + 1
  | .lv ds => dDepL ds + 1
  | .rl ds => dDepL ds + 1
  | _ => 0
def dDepL : List D → Nat
  | [] => 0
  | d :: ds => max (dDep d) (dDepL ds)
end
mutual
def dEq : D → D → Bool
  | .non, .non => true
  | .bl a, .bl b => a == b
  | .bl a, .int j => (if a then 1 else 0) == j
  | .int i, .bl b => i == (if b then 1 else 0)
  | .int i, .int j => i == j
  | .str x, .str y => x == y
  | .tup xs, .tup ys => dEqL xs ys
  | .lv xs, .lv ys => dEqL xs ys
  | .lv xs, .rl ys => dEqL xs ys
  | .rl xs, .lv ys => dEqL xs ys
  | .rl xs, .rl ys => dEqL xs ys
  | _, _ => false
def dEqL : List D → List D → Bool
  | [], [] => true
  | x :: xs, y :: ys => dEq x y && dEqL xs ys
  | _, _ => false
end
mutual
theorem pyD_ok : ∀ (d : D) (v : V), dPl d = true → Rep K F H d v → ∃ p, pyD d = some p ∧ Dp K H v p ∧ p.canLay0 = true ∧ p.depth = dDep d
  | .non, v, _, h => by cases h; exact ⟨_, rfl, .non, rfl, rfl⟩
  | .bl b, v, _, h => by cases h; exact ⟨_, rfl, .bl b, rfl, rfl⟩
  | .int i, v, _, h => by cases h; exact ⟨_, rfl, .int i, rfl, rfl⟩
  | .str x, v, _, ⟨h, hs⟩ => by cases h; exact ⟨_, rfl, .str x, hs, rfl⟩
  | .ref _, v, n, _ => by cases n
  | .dv _, v, n, _ => by cases n
  | .tup ds, v, n, ⟨a, xs, e, hs, hr⟩ => by
    subst e
    obtain ⟨ps, e1, e2, e3, e4⟩ := pyL_ok ds xs n hr
    exact ⟨.tuple ps, by unfold pyD; rw [e1]; rfl, .tup hs e2, e3, by show PyData.depthAll ps + 1 = _; rw [e4]; rfl⟩
  | .lv ds, v, n, ⟨a, xs, e, hs, hr⟩ => by
    subst e
    obtain ⟨ps, e1, e2, e3, e4⟩ := pyL_ok ds xs n hr
    exact ⟨.list ps, by unfold pyD; rw [e1]; rfl, .lst (.of hs.2) e2, e3, by show PyData.depthAll ps + 1 = _; rw [e4]; rfl⟩
  | .rl ds, v, n, ⟨a, xs, e, hs, hr⟩ => by
    subst e
    obtain ⟨ps, e1, e2, e3, e4⟩ := pyL_ok ds xs n hr
    refine ⟨.list ps, by unfold pyD; rw [e1]; rfl, .lst ?_ e2, e3, by show PyData.depthAll ps + 1 = _; rw [e4]; rfl⟩
    rcases hs with ⟨o, hs⟩ | hs
    · exact .inl (.inr ⟨o, hs⟩)
    · exact .inr hs
theorem pyL_ok : ∀ (ds : List D) (vs : List V), dPlL ds = true → RepL K F H ds vs → ∃ ps, pyL ds = some ps ∧ DpAll K H vs ps ∧ PyData.canLayAll0 ps = true ∧ PyData.depthAll ps = dDepL ds
  | [], vs, _, h => by cases h; exact ⟨[], rfl, .nil, rfl, rfl⟩
  | d :: ds, vs, n, ⟨v, r, e, h, hr⟩ => by
    subst e
    unfold dPlL at n
    rw [Bool.and_eq_true] at n
    obtain ⟨p, e1, e2, e3, e4⟩ := pyD_ok d v n.1 h
    obtain ⟨ps, f1, f2, f3, f4⟩ := pyL_ok ds r n.2 hr
    refine ⟨p :: ps, by unfold pyL; rw [e1, f1], .cons e2 f2, by show (p.canLay0 && PyData.canLayAll0 ps) = true; rw [e3, f3]; rfl, ?_⟩
    show max p.depth (PyData.depthAll ps) = _
    rw [e4, f4]; rfl
end
mutual
theorem dEq_py : ∀ (d e : D) (p q : PyData), pyD d = some p → pyD e = some q → PyData.eqv p q = dEq d e
  | d, e, p, q, h1, h2 => by
    cases d with
    | ref => cases h1
    | dv => cases h1
    | tup ds =>
      unfold pyD at h1
      cases e1 : pyL ds with
      | none => rw [e1] at h1; cases h1
      | some ps =>
        rw [e1] at h1; cases h1
        cases e with
        | ref => cases h2
        | dv => cases h2
        | tup es =>
          unfold pyD at h2
          cases e2 : pyL es with
          | none => rw [e2] at h2; cases h2
          | some qs => rw [e2] at h2; cases h2; exact dEqL_py ds es ps qs e1 e2
        | lv es => unfold pyD at h2; cases e2 : pyL es with
          | none => rw [e2] at h2; cases h2
          | some qs => rw [e2] at h2; cases h2; rfl
        | rl es => unfold pyD at h2; cases e2 : pyL es with
          | none => rw [e2] at h2; cases h2
          | some qs => rw [e2] at h2; cases h2; rfl
        | _ => cases h2; rfl
    | lv ds =>
      unfold pyD at h1
      cases e1 : pyL ds with
      | none => rw [e1] at h1; cases h1
      | some ps =>
        rw [e1] at h1; cases h1
        cases e with
        | ref => cases h2
        | dv => cases h2
        | tup es => unfold pyD at h2; cases e2 : pyL es with
          | none => rw [e2] at h2; cases h2
          | some qs => rw [e2] at h2; cases h2; rfl
        | lv es => unfold pyD at h2; cases e2 : pyL es with
          | none => rw [e2] at h2; cases h2
          | some qs => rw [e2] at h2; cases h2; exact dEqL_py ds es ps qs e1 e2
        | rl es => unfold pyD at h2; cases e2 : pyL es with
          | none => rw [e2] at h2; cases h2
          | some qs => rw [e2] at h2; cases h2; exact dEqL_py ds es ps qs e1 e2
        | _ => cases h2; rfl
    | rl ds =>
      unfold pyD at h1
      cases e1 : pyL ds with
      | none => rw [e1] at h1; cases h1
      | some ps =>
        rw [e1] at h1; cases h1
        cases e with
        | ref => cases h2
        | dv => cases h2
        | tup es => unfold pyD at h2; cases e2 : pyL es with
          | none => rw [e2] at h2; cases h2
          | some qs => rw [e2] at h2; cases h2; rfl
        | lv es => unfold pyD at h2; cases e2 : pyL es with
          | none => rw [e2] at h2; cases h2
          | some qs => rw [e2] at h2; cases h2; exact dEqL_py ds es ps qs e1 e2
        | rl es => unfold pyD at h2; cases e2 : pyL es with
          | none => rw [e2] at h2; cases h2
          | some qs => rw [e2] at h2; cases h2; exact dEqL_py ds es ps qs e1 e2
        | _ => cases h2; rfl
    | non => cases h1; cases e with
      | ref => cases h2
      | dv => cases h2
      | tup es => unfold pyD at h2; cases e2 : pyL es with
        | none => rw [e2] at h2; cases h2
        | some qs => rw [e2] at h2; cases h2; rfl
      | lv es => unfold pyD at h2; cases e2 : pyL es with
        | none => rw [e2] at h2; cases h2
        | some qs => rw [e2] at h2; cases h2; rfl
      | rl es => unfold pyD at h2; cases e2 : pyL es with
        | none => rw [e2] at h2; cases h2
        | some qs => rw [e2] at h2; cases h2; rfl
      | _ => cases h2; rfl
    | bl x => cases h1; cases e with
      | ref => cases h2
      | dv => cases h2
      | tup es => unfold pyD at h2; cases e2 : pyL es with
        | none => rw [e2] at h2; cases h2
        | some qs => rw [e2] at h2; cases h2; rfl
      | lv es => unfold pyD at h2; cases e2 : pyL es with
        | none => rw [e2] at h2; cases h2
        | some qs => rw [e2] at h2; cases h2; rfl
      | rl es => unfold pyD at h2; cases e2 : pyL es with
        | none => rw [e2] at h2; cases h2
        | some qs => rw [e2] at h2; cases h2; rfl
      | _ => cases h2; rfl
    | int x => cases h1; cases e with
      | ref => cases h2
      | dv => cases h2
      | tup es => unfold pyD at h2; cases e2 : pyL es with
        | none => rw [e2] at h2; cases h2
        | some qs => rw [e2] at h2; cases h2; rfl
      | lv es => unfold pyD at h2; cases e2 : pyL es with
        | none => rw [e2] at h2; cases h2
        | some qs => rw [e2] at h2; cases h2; rfl
      | rl es => unfold pyD at h2; cases e2 : pyL es with
        | none => rw [e2] at h2; cases h2
        | some qs => rw [e2] at h2; cases h2; rfl
      | _ => cases h2; rfl
    | str x => cases h1; cases e with
      | ref => cases h2
      | dv => cases h2
      | tup es => unfold pyD at h2; cases e2 : pyL es with
        | none => rw [e2] at h2; cases h2
        | some qs => rw [e2] at h2; cases h2; rfl
      | lv es => unfold pyD at h2; cases e2 : pyL es with
        | none => rw [e2] at h2; cases h2
        | some qs => rw [e2] at h2; cases h2; rfl
      | rl es => unfold pyD at h2; cases e2 : pyL es with
        | none => rw [e2] at h2; cases h2
        | some qs => rw [e2] at h2; cases h2; rfl
      | _ => cases h2; rfl
theorem dEqL_py : ∀ (ds es : List D) (ps qs : List PyData), pyL ds = some ps → pyL es = some qs → PyData.eqvAll ps qs = dEqL ds es
  | [], [], ps, qs, h1, h2 => by cases h1; cases h2; rfl
  | [], e :: es, ps, qs, h1, h2 => by
    cases h1
    unfold pyL at h2
    split at h2
    · cases h2; rfl
    · cases h2
  | d :: ds, [], ps, qs, h1, h2 => by
    cases h2
    unfold pyL at h1
    split at h1
    · cases h1; rfl
    · cases h1
  | d :: ds, e :: es, ps, qs, h1, h2 => by
    unfold pyL at h1 h2
    split at h1
    · split at h2
      · rename_i _ _ p ps' e1 e2 _ _ q qs' f1 f2
        cases h1
        cases h2
        show (PyData.eqv p q && PyData.eqvAll ps' qs') = (dEq d e && dEqL ds es)
        rw [dEq_py d e p q e1 f1, dEqL_py ds es ps' qs' e2 f2]
      · cases h2
    · cases h1
end
def okEq (x y : D) : Bool := dPl x && dPl y && decide (min (dDep x) (dDep y) ≤ 190)
def dEqR : R2d := fun x y G Q => okEq x y = true ∧ Q (.bl (dEq x y)) G
def dNeR : R2d := fun x y G Q => okEq x y = true ∧ Q (.bl (!dEq x y)) G
/-- by data, as the library says it -/
def r0Eq (K : PySem.W.Frag) (n : Bool) : R2 := fun x y H Q => ∃ d e, Dp K H x d ∧ Dp K H y e ∧ d.canLay0 = true ∧ e.canLay0 = true ∧ min d.depth e.depth ≤ 190 ∧ Q (.bl (if n then !PyData.eqv d e else PyData.eqv d e)) H
theorem op_eqU (hu : X.A.units + 190 < cLine) : OpR X (compareOp .Eq) (r0Eq X.K false) := by
  intro pins s σ H x y v u Q I rx ry h
  obtain ⟨d, e, hd, he, sd, se, dp, q⟩ := h
  obtain ⟨as, r1⟩ := Dp.reads I d x v hd rx
  obtain ⟨bs, r2⟩ := Dp.reads I e y u he ry
  exact SeqAt.compareEq_reads r1 r2 sd se (by omega) ⟨.bl _, H, I, rfl, q⟩
theorem op_neU (hu : X.A.units + 190 < cLine) : OpR X (compareOp .NotEq) (r0Eq X.K true) := by
  intro pins s σ H x y v u Q I rx ry h
  obtain ⟨d, e, hd, he, sd, se, dp, q⟩ := h
  obtain ⟨as, r1⟩ := Dp.reads I d x v hd rx
  obtain ⟨bs, r2⟩ := Dp.reads I e y u he ry
  exact SeqAt.compareNe_reads r1 r2 sd se (by omega) ⟨.bl _, H, I, rfl, q⟩
theorem lift_eq : Lift2 K (r0Eq K false) dEqR := by
  intro F H G d e v u Q Q0 R rd re ⟨ok, q⟩ k
  unfold okEq at ok
  rw [Bool.and_eq_true, Bool.and_eq_true, decide_eq_true_eq] at ok
  obtain ⟨p, e1, e2, e3, e4⟩ := pyD_ok d v ok.1.1 rd
  obtain ⟨p', f1, f2, f3, f4⟩ := pyD_ok e u ok.1.2 re
  refine ⟨p, p', e2, f2, e3, f3, by rw [e4, f4]; exact ok.2, ?_⟩
  rw [if_neg Bool.false_ne_true, dEq_py d e p p' e1 f1]
  exact fin R k q rfl
theorem lift_ne : Lift2 K (r0Eq K true) dNeR := by
  intro F H G d e v u Q Q0 R rd re ⟨ok, q⟩ k
  unfold okEq at ok
  rw [Bool.and_eq_true, Bool.and_eq_true, decide_eq_true_eq] at ok
  obtain ⟨p, e1, e2, e3, e4⟩ := pyD_ok d v ok.1.1 rd
  obtain ⟨p', f1, f2, f3, f4⟩ := pyD_ok e u ok.1.2 re
  refine ⟨p, p', e2, f2, e3, f3, by rw [e4, f4]; exact ok.2, ?_⟩
  rw [if_pos rfl, dEq_py d e p p' e1 f1]
  exact fin R k q rfl
/-! ### in, not in: a tuple or a list of data -/
def itemsOf : D → Gp → Option (List D)
  | .tup ds, _ => some ds
  | .lv ds, _ => some ds
  | .rl ds, _ => some ds
  | .ref a, G => match G a with | some (.lst ds) => some ds | _ => none
  | _, _ => none
def dInR (n : Bool) : R2d := fun x y G Q => optQ (itemsOf y G) fun ds => dPl x = true ∧ dPlL ds = true ∧ min (dDepL ds) (dDep x) ≤ 180 ∧ Q (.bl (if n then !ds.any (fun z => dEq z x) else ds.any (fun z => dEq z x))) G
def r0In (K : PySem.W.Frag) (n : Bool) : R2 := fun x y H Q => ∃ d ds a ys, Dp K H x d ∧ y = .ref a ∧ (SqL K H a ys ∨ SqT K H a ys) ∧ DpAll K H ys ds ∧ d.canLay0 = true ∧ PyData.canLayAll0 ds = true ∧ min (PyData.depthAll ds) d.depth ≤ 180 ∧
  Q (.bl (if n then !ds.any (fun z => PyData.eqv z d) else ds.any (fun z => PyData.eqv z d))) H
theorem op_inU (hu : X.A.units + 190 < cLine) : OpR X (compareOp .In) (r0In X.K false) := by
  intro pins s σ H x y v u Q I rx ry h
  obtain ⟨d, ds, a, ys, hd, rfl, hs, hys, sd, se, dp, q⟩ := h
  obtain ⟨as, r1⟩ := Dp.reads I d x v hd rx
  rcases hs with hs | hs
  · obtain ⟨bs, r2⟩ := Dp.reads I (.list ds) (.ref a) u (.lst hs hys) ry
    exact SeqAt.in_list_reads r2 r1 se sd (by omega) ⟨.bl _, H, I, rfl, q⟩
  · obtain ⟨bs, r2⟩ := Dp.reads I (.tuple ds) (.ref a) u (.tup hs hys) ry
    exact SeqAt.in_tuple_reads r2 r1 se sd (by omega) ⟨.bl _, H, I, rfl, q⟩
theorem op_ninU (hu : X.A.units + 190 < cLine) : OpR X (compareOp .NotIn) (r0In X.K true) := by
  intro pins s σ H x y v u Q I rx ry h
  obtain ⟨d, ds, a, ys, hd, rfl, hs, hys, sd, se, dp, q⟩ := h
  obtain ⟨as, r1⟩ := Dp.reads I d x v hd rx
  rcases hs with hs | hs
  · obtain ⟨bs, r2⟩ := Dp.reads I (.list ds) (.ref a) u (.lst hs hys) ry
    exact SeqAt.notIn_list_reads r2 r1 se sd (by omega) ⟨.bl _, H, I, rfl, q⟩
  · obtain ⟨bs, r2⟩ := Dp.reads I (.tuple ds) (.ref a) u (.tup hs hys) ry
    exact SeqAt.notIn_tuple_reads r2 r1 se sd (by omega) ⟨.bl _, H, I, rfl, q⟩
/-- what is walked, read, measured: its items in the heap -/
theorem items_rep {y : D} {u : V} {ds : List D} (R : Rel K F H G) (r : Rep K F H y u) (e : itemsOf y G = some ds) : ∃ a ys, u = .ref a ∧ (SqL K H a ys ∨ SqT K H a ys) ∧ RepL K F H ds ys := by
  cases y with
  | tup es => cases e; obtain ⟨a, xs, h1, h2, h3⟩ := r; exact ⟨a, xs, h1, .inr h2, h3⟩
  | lv es => cases e; obtain ⟨a, xs, h1, h2, h3⟩ := r; exact ⟨a, xs, h1, .inl (.of h2.2), h3⟩
  | rl es =>
    cases e
    obtain ⟨a, xs, h1, h2, h3⟩ := r
    refine ⟨a, xs, h1, .inl ?_, h3⟩
    rcases h2 with ⟨o, h2⟩ | h2
    · exact .inl (.inr ⟨o, h2⟩)
    · exact .inr h2
  | ref a =>
    have r' : u = .ref a := r
    subst r'
    unfold itemsOf at e
    cases eg : G a with
    | none => simp only [eg] at e; cases e
    | some m =>
      cases m with
      | lst es =>
        simp only [eg] at e
        cases e
        obtain ⟨xs, h1, h2⟩ := R.obj a _ eg
        exact ⟨a, xs, rfl, .inl (.of h1), h2⟩
      | _ => simp only [eg] at e; cases e
  | _ => cases e
theorem any_py (d : D) (p : PyData) (hp : pyD d = some p) : ∀ (ds : List D) (ps : List PyData), pyL ds = some ps → (ps.any fun z => PyData.eqv z p) = ds.any fun z => dEq z d
  | [], ps, h => by cases h; rfl
  | e :: es, ps, h => by
    unfold pyL at h
    split at h
    · rename_i q qs e1 e2
      cases h
      rw [List.any_cons, List.any_cons, dEq_py e d q p e1 hp, any_py d p hp es qs e2]
    · cases h
theorem lift_in (n : Bool) : Lift2 K (r0In K n) (dInR n) := by
  intro F H G d e v u Q Q0 R rd re q k
  · replace q := optQ_ex q
    obtain ⟨ds, ei, h1, h2, h3, q⟩ := q
    obtain ⟨a, ys, rfl, hs, hr⟩ := items_rep R re ei
    obtain ⟨p, e1, e2, e3, e4⟩ := pyD_ok d v h1 rd
    obtain ⟨ps, f1, f2, f3, f4⟩ := pyL_ok ds ys h2 hr
    refine ⟨p, ps, a, ys, e2, rfl, hs, f2, e3, f3, by rw [e4, f4]; exact h3, ?_⟩
    rw [any_py d p e1 ds ps f1]
    exact fin R k q rfl
theorem q_eq (hu : X.A.units + 190 < cLine) (ha : QE X a ta) (hb : QE X b tb) : QE X (.Compare a [.Eq] [b] pos) (dOp dEqR ta tb) := q_cmp (op_eqU hu) lift_eq ha hb (nomark _)
theorem q_ne (hu : X.A.units + 190 < cLine) (ha : QE X a ta) (hb : QE X b tb) : QE X (.Compare a [.NotEq] [b] pos) (dOp dNeR ta tb) := q_cmp (op_neU hu) lift_ne ha hb (nomark _)
theorem q_in (hu : X.A.units + 190 < cLine) (ha : QE X a ta) (hb : QE X b tb) (hm : behindInMarks .In b = false := by rfl) : QE X (.Compare a [.In] [b] pos) (dOp (dInR false) ta tb) := q_cmp (op_inU hu) (lift_in _) ha hb hm
theorem q_nin (hu : X.A.units + 190 < cLine) (ha : QE X a ta) (hb : QE X b tb) (hm : behindInMarks .NotIn b = false := by rfl) : QE X (.Compare a [.NotIn] [b] pos) (dOp (dInR true) ta tb) := q_cmp (op_ninU hu) (lift_in _) ha hb hm
/-! ### order -/
def dOrd (f : Int → Int → Bool) (g : List Nat → List Nat → Bool) : D → D → Option D
  | .int i, .int j => some (.bl (f i j))
  | .str x, .str y => some (.bl (g x.cps.toList y.cps.toList))
  | _, _ => none
theorem lift_ord {f : Int → Int → Bool} {g : List Nat → List Nat → Bool} : Lift2 K (fun x y H Q => (rI0 fun i j => .bl (f i j)) x y H Q ∨ (∃ i j, x = .str i ∧ y = .str j ∧ Q (.bl (g i.cps.toList j.cps.toList)) H)) (dPure2 (dOrd f g)) := by
  intro F H G d e v u Q Q0 R rd re q k
  replace q := optQ_ex q
  obtain ⟨z, hz, q⟩ := q
  unfold dOrd at hz
  split at hz
  · cases hz; exact .inl ⟨_, _, rd, re, fin R k q rfl⟩
  · cases hz; exact .inr ⟨_, _, rd.1, re.1, fin R k q rfl⟩
  · cases hz
abbrev dLt := dOrd (fun i j => decide (i < j)) fun x y => decide (x < y)
abbrev dLe := dOrd (fun i j => decide (i ≤ j)) fun x y => !decide (y < x)
abbrev dGt := dOrd (fun i j => decide (j < i)) fun x y => decide (y < x)
abbrev dGe := dOrd (fun i j => decide (j ≤ i)) fun x y => !decide (x < y)
theorem op_ltU : OpR X (compareOp .Lt) (fun x y H Q => (rI0 fun i j => .bl (decide (i < j))) x y H Q ∨ (∃ i j, x = .str i ∧ y = .str j ∧ Q (.bl (decide (i.cps.toList < j.cps.toList))) H)) := .or op_lt op_lt_str
theorem op_leU : OpR X (compareOp .LtE) (fun x y H Q => (rI0 fun i j => .bl (decide (i ≤ j))) x y H Q ∨ (∃ i j, x = .str i ∧ y = .str j ∧ Q (.bl (!decide (j.cps.toList < i.cps.toList))) H)) := .or op_le op_le_str
theorem op_gtU : OpR X (compareOp .Gt) (fun x y H Q => (rI0 fun i j => .bl (decide (j < i))) x y H Q ∨ (∃ i j, x = .str i ∧ y = .str j ∧ Q (.bl (decide (j.cps.toList < i.cps.toList))) H)) := .or op_gt op_gt_str
theorem op_geU : OpR X (compareOp .GtE) (fun x y H Q => (rI0 fun i j => .bl (decide (j ≤ i))) x y H Q ∨ (∃ i j, x = .str i ∧ y = .str j ∧ Q (.bl (!decide (i.cps.toList < j.cps.toList))) H)) := .or op_ge op_ge_str
theorem q_lt (ha : QE X a ta) (hb : QE X b tb) : QE X (.Compare a [.Lt] [b] pos) (dOp (dPure2 dLt) ta tb) := q_cmp op_ltU lift_ord ha hb (nomark _)
theorem q_le (ha : QE X a ta) (hb : QE X b tb) : QE X (.Compare a [.LtE] [b] pos) (dOp (dPure2 dLe) ta tb) := q_cmp op_leU lift_ord ha hb (nomark _)
theorem q_gt (ha : QE X a ta) (hb : QE X b tb) : QE X (.Compare a [.Gt] [b] pos) (dOp (dPure2 dGt) ta tb) := q_cmp op_gtU lift_ord ha hb (nomark _)
theorem q_ge (ha : QE X a ta) (hb : QE X b tb) : QE X (.Compare a [.GtE] [b] pos) (dOp (dPure2 dGe) ta tb) := q_cmp op_geU lift_ord ha hb (nomark _)
/-- is None -/
def isNon : D → Bool
  | .non => true
  | _ => false
def dIsN (n : Bool) : R1 := fun x G Q => Q (.bl (xor n (isNon x))) G
theorem isN_ok {d : D} {v : V} (r : Rep K F H d v) : decide (v = .non) = (match d with | .non => true | _ => false) := by
  cases d with
  | non => cases r; rfl
  | bl _ => cases r; rfl
  | int _ => cases r; rfl
  | str _ => obtain ⟨r, _⟩ := r; cases r; rfl
  | ref _ => cases r; rfl
  | tup _ => obtain ⟨_, _, r, _⟩ := r; cases r; rfl
  | lv _ => obtain ⟨_, _, r, _⟩ := r; cases r; rfl
  | rl _ => obtain ⟨_, _, r, _⟩ := r; cases r; rfl
  | dv _ => obtain ⟨_, _, r, _⟩ := r; cases r; rfl
theorem q_isN {j pos'} (ha : QE X a ta) : QE X (.Compare a [.Is] [.Constant .none j pos'] pos) (dUn (dIsN false) ta) := PEmono (pe_cmp (pc_isN ha) rfl) fun σ H Q h => by
  refine up1 (r0 := fun x H Q => Q (.bl (decide (x = .non))) H) ?_ h
  intro F H G d v Q Q0 R rd q k
  show Q0 (.bl (decide (v = .non))) H
  rw [isN_ok rd]
  have q' : Q (.bl (xor false (isNon d))) G := q
  cases d <;> exact fin (d := .bl _) R k q' rfl
theorem q_notN {j pos'} (ha : QE X a ta) : QE X (.Compare a [.IsNot] [.Constant .none j pos'] pos) (dUn (dIsN true) ta) := PEmono (pe_cmp (pc_notN ha) rfl) fun σ H Q h => by
  refine up1 (r0 := fun x H Q => Q (.bl (!decide (x = .non))) H) ?_ h
  intro F H G d v Q Q0 R rd q k
  show Q0 (.bl (!decide (v = .non))) H
  rw [isN_ok rd]
  have q' : Q (.bl (xor true (isNon d))) G := q
  cases d <;> exact fin (d := .bl _) R k q' rfl
end
end DL
set_option Elab.async false
set_option linter.all false
set_option maxRecDepth 100000
set_option maxHeartbeats 4000000
namespace DL
open PySem PySem.Spec PyProof.Rows L2
section
variable {X : Cx} {K : PySem.W.Frag} {F F' : Fr} {H H' : Hp} {G G' : Gp} {a b c e : Expr} {es rest : List Expr} {ta tb tc te : DTE} {t u tA tB' : DTT} {pos : Pos}
/-! ### truth -/
def truthD : D → Gp → Option Bool
  | .non, _ => some false
  | .bl b, _ => some b
  | .int i, _ => some (i != 0)
  | .str x, _ => if x.length ≤ sizeLine then some ((x.length : Int) != 0) else none
  | .ref a, G => match G a with
    | some (.lst ds) => some (!ds.isEmpty)
    | some (.dic kvs) => some (!kvs.isEmpty)
    | _ => none
  | .tup ds, _ => some (!ds.isEmpty)
  | .lv ds, _ => some (!ds.isEmpty)
  | .rl ds, _ => some (!ds.isEmpty)
  | .dv _, _ => none
theorem RepL.emp {ds : List D} {xs : List V} (r : RepL K F H ds xs) : ds.isEmpty = xs.isEmpty := by
  cases ds with
  | nil => cases r; rfl
  | cons d ds => obtain ⟨v, r', e, _⟩ := r; subst e; rfl
theorem RepK.emp {ds : List (Key × D)} {xs : List (Key × V)} (r : RepK K F H ds xs) : ds.isEmpty = xs.isEmpty := by
  cases ds with
  | nil => cases r; rfl
  | cons d ds => obtain ⟨k, v, r', e, _⟩ := r; subst e; rfl
theorem truth_ok {d : D} {v : V} {k : Bool} (R : Rel K F H G) (r : Rep K F H d v) (e : truthD d G = some k) : TruV K v H k := by
  cases d with
  | non => cases r; cases e; rfl
  | bl x => cases r; cases e; rfl
  | int i => cases r; cases e; rfl
  | str x =>
    obtain ⟨r, _⟩ := r
    cases r
    simp only [truthD] at e
    split at e
    · cases e
      rename_i h
      exact ⟨h, rfl⟩
    · cases e
  | tup ds => obtain ⟨a, xs, r1, r2, r3⟩ := r; cases r1; cases e; exact .inr (.inl ⟨xs, r2, by rw [r3.emp]⟩)
  | lv ds => obtain ⟨a, xs, r1, r2, r3⟩ := r; cases r1; cases e; exact .inl ⟨xs, .of r2.2, by rw [r3.emp]⟩
  | rl ds =>
    obtain ⟨a, ys, e1, h1, h2⟩ := items_rep R r (show itemsOf (.rl ds) G = some ds from rfl)
    cases e1
    cases e
    rcases h1 with h1 | h1
    · exact .inl ⟨ys, h1, by rw [h2.emp]⟩
    · exact .inr (.inl ⟨ys, h1, by rw [h2.emp]⟩)
  | dv _ => cases e
  | ref a =>
    have r' : v = .ref a := r
    subst r'
    simp only [truthD] at e
    split at e
    · rename_i ds eg
      cases e
      obtain ⟨xs, h1, h2⟩ := R.obj a _ eg
      exact .inl ⟨xs, .of h1, by rw [h2.emp]⟩
    · rename_i ds eg
      cases e
      obtain ⟨xs, h1, h2⟩ := R.obj a _ eg
      exact .inr (.inr ⟨xs, h1, by rw [h2.emp]⟩)
    · cases e
def dTruth (t : DTE) : DTT := fun δ G Q => t δ G fun x G1 => optQ (truthD x G1) fun k => Q k G1
theorem q_truth (ha : QE X a ta) (he : ∀ whole, isTrue a X.env whole = (do let v ← whole; standAt a.pos; holding [v] (truthy v)) := by intro _; rfl) : QT X a (dTruth ta) := PTmono (pt_truth ha he) fun σ H Q ⟨F, δ, G, Q', R, S, q, k⟩ => by
  refine ⟨F, δ, G, _, R, S, q, fun v H1 ⟨d, F1, G1, k1, R1, p1, q1⟩ => ?_⟩
  replace q1 := optQ_ex q1
  obtain ⟨b, e1, q1⟩ := q1
  exact ⟨b, truth_ok R1 p1 e1, k b H1 ⟨F1, G1, k1, R1, q1⟩⟩
/-! ### and, or, not -/
def QW (X : Cx) (e : Expr) (t : DTT) : Prop := PW X e (upT X.K t)
theorem QW.pt (h : QW X e t) : QT X e t := PW.pt h
theorem PWmono {e : Expr} {t t' : TT} (h : PW X e t) (i : ∀ σ H Q, t' σ H Q → t σ H Q) : PW X e t' := ⟨fun wh pins s σ H Q I q => h.run wh pins s σ H Q I (i _ _ _ q)⟩
def dAndT (t u : DTT) : DTT := fun δ G Q => t δ G fun c G1 => dCond c (u δ G1 Q) (Q false G1)
def dOrT (t u : DTT) : DTT := fun δ G Q => t δ G fun c G1 => dCond c (Q true G1) (u δ G1 Q)
def dNotT (t : DTT) : DTT := fun δ G Q => t δ G fun c G1 => Q (!c) G1
theorem qw_and1 (ha : QT X a t) : QW X (.BoolOp .And [a] pos) t := pw_and1 ha
theorem qw_or1 (ha : QT X a t) : QW X (.BoolOp .Or [a] pos) t := pw_or1 ha
theorem qw_and (ha : QT X a t) (hb : QW X (.BoolOp .And (b :: rest) pos) u) : QW X (.BoolOp .And (a :: b :: rest) pos) (dAndT t u) := PWmono (pw_and ha hb) fun σ H Q ⟨F, δ, G, Q', R, S, q, k⟩ => by
  refine ⟨F, δ, G, _, R, S, q, fun b H1 ⟨F1, G1, k1, R1, q1⟩ => ?_⟩
  cases b with
  | true => exact ⟨F1, δ, G1, Q', R1, S.mono R k1, q1, fun b H2 ⟨F2, G2, k2, R2, q2⟩ => k b H2 ⟨F2, G2, k1.trans k2, R2, q2⟩⟩
  | false => exact k _ _ ⟨F1, G1, k1, R1, q1⟩
theorem qw_or (ha : QT X a t) (hb : QW X (.BoolOp .Or (b :: rest) pos) u) : QW X (.BoolOp .Or (a :: b :: rest) pos) (dOrT t u) := PWmono (pw_or ha hb) fun σ H Q ⟨F, δ, G, Q', R, S, q, k⟩ => by
  refine ⟨F, δ, G, _, R, S, q, fun b H1 ⟨F1, G1, k1, R1, q1⟩ => ?_⟩
  cases b with
  | false => exact ⟨F1, δ, G1, Q', R1, S.mono R k1, q1, fun b H2 ⟨F2, G2, k2, R2, q2⟩ => k b H2 ⟨F2, G2, k1.trans k2, R2, q2⟩⟩
  | true => exact k _ _ ⟨F1, G1, k1, R1, q1⟩
theorem qt_not (ha : QT X a t) : QT X (.UnaryOp .Not a pos) (dNotT t) := PTmono (pt_not ha) fun σ H Q ⟨F, δ, G, Q', R, S, q, k⟩ =>
  ⟨F, δ, G, _, R, S, q, fun b H1 ⟨F1, G1, k1, R1, q1⟩ => k _ _ ⟨F1, G1, k1, R1, q1⟩⟩
/-- .. as values -/
def dAnd (ta tb : DTE) : DTE := fun δ G Q => ta δ G fun x G1 => optQ (truthD x G1) fun c => dCond c (tb δ G1 Q) (Q x G1)
def dOr (ta tb : DTE) : DTE := fun δ G Q => ta δ G fun x G1 => optQ (truthD x G1) fun c => dCond c (Q x G1) (tb δ G1 Q)
def dNot (ta : DTE) : DTE := fun δ G Q => ta δ G fun x G1 => optQ (truthD x G1) fun c => Q (.bl (!c)) G1
theorem q_one {op} (h : QE X a ta) : QE X (.BoolOp op [a] pos) ta := pe_one h
theorem q_and (ha : QE X a ta) (hb : QE X (.BoolOp .And (b :: rest) pos) tb) : QE X (.BoolOp .And (a :: b :: rest) pos) (dAnd ta tb) := PEmono (pe_andT ha hb) fun σ H Q ⟨F, δ, G, Q', R, S, q, k⟩ => by
  refine ⟨F, δ, G, _, R, S, q, fun v H1 ⟨d, F1, G1, k1, R1, p1, q1⟩ => ?_⟩
  · replace q1 := optQ_ex q1
    obtain ⟨b, e1, q1⟩ := q1
    refine ⟨b, truth_ok R1 p1 e1, ?_⟩
    cases b with
    | true => exact ⟨F1, δ, G1, Q', R1, S.mono R k1, q1, fun v H2 q2 => k v H2 (.trans k1 q2)⟩
    | false => exact k v H1 ⟨d, F1, G1, k1, R1, p1, q1⟩
theorem q_or (ha : QE X a ta) (hb : QE X (.BoolOp .Or (b :: rest) pos) tb) : QE X (.BoolOp .Or (a :: b :: rest) pos) (dOr ta tb) := PEmono (pe_orT ha hb) fun σ H Q ⟨F, δ, G, Q', R, S, q, k⟩ => by
  refine ⟨F, δ, G, _, R, S, q, fun v H1 ⟨d, F1, G1, k1, R1, p1, q1⟩ => ?_⟩
  · replace q1 := optQ_ex q1
    obtain ⟨b, e1, q1⟩ := q1
    refine ⟨b, truth_ok R1 p1 e1, ?_⟩
    cases b with
    | false => exact ⟨F1, δ, G1, Q', R1, S.mono R k1, q1, fun v H2 q2 => k v H2 (.trans k1 q2)⟩
    | true => exact k v H1 ⟨d, F1, G1, k1, R1, p1, q1⟩
theorem q_not (ha : QE X a ta) : QE X (.UnaryOp .Not a pos) (dNot ta) := PEmono (pe_notT ha) fun σ H Q ⟨F, δ, G, Q', R, S, q, k⟩ => by
  refine ⟨F, δ, G, _, R, S, q, fun v H1 ⟨d, F1, G1, k1, R1, p1, q1⟩ => ?_⟩
  · replace q1 := optQ_ex q1
    obtain ⟨b, e1, q1⟩ := q1
    exact ⟨b, truth_ok R1 p1 e1, k _ _ ⟨.bl (!b), F1, G1, k1, R1, rfl, q1⟩⟩
def dNeg : D → Option D
  | .int i => some (.int (-i))
  | _ => none
theorem q_neg (ha : QE X a ta) : QE X (.UnaryOp .USub a pos) (dUn (dPure1 dNeg) ta) := q_un un_neg (by
  intro F H G d v Q Q0 R rd q k
  replace q := optQ_ex q
  obtain ⟨z, hz, q⟩ := q
  cases d with
  | int i => cases hz; exact ⟨i, rd, fin R k q rfl⟩
  | _ => cases hz) ha
def dIf (c : DTT) (ta tb : DTE) : DTE := fun δ G Q => c δ G fun b G1 => dCond b (ta δ G1 Q) (tb δ G1 Q)
theorem q_if (hc : QT X c t) (ha : QE X a ta) (hb : QE X b tb) : QE X (.IfExp c a b pos) (dIf t ta tb) := PEmono (pe_ifExp hc ha hb) fun σ H Q ⟨F, δ, G, Q', R, S, q, k⟩ => by
  refine ⟨F, δ, G, _, R, S, q, fun b H1 ⟨F1, G1, k1, R1, q1⟩ => ?_⟩
  cases b with
  | true => exact ⟨F1, δ, G1, Q', R1, S.mono R k1, q1, fun v H2 q2 => k v H2 (.trans k1 q2)⟩
  | false => exact ⟨F1, δ, G1, Q', R1, S.mono R k1, q1, fun v H2 q2 => k v H2 (.trans k1 q2)⟩

/-! ### rows of expressions -/
variable {tr : DTA}
def dNil : DTA := fun _ G Q => Q [] G
def dCons (ta : DTE) (tr : DTA) : DTA := fun δ G Q => ta δ G fun x G1 => tr δ G1 fun xs G2 => Q (x :: xs) G2
theorem qa_nil : QA X [] dNil := PAmono pa_nil fun σ H Q ⟨F, δ, G, Q', R, S, q, k⟩ => k [] H ⟨[], F, G, .refl, R, rfl, q⟩
theorem qa_cons (ha : QE X e te) (hr : QA X es tr) (hs : starEach (e :: es) X.env = (false, eval e X.env) :: starEach es X.env := by rfl) : QA X (e :: es) (dCons te tr) := PAmono (pa_cons ha hr hs) fun σ H Q ⟨F, δ, G, Q', R, S, q, k⟩ => by
  refine ⟨F, δ, G, _, R, S, q, fun v H1 ⟨d, F1, G1, k1, R1, p1, q1⟩ => ?_⟩
  refine ⟨F1, δ, G1, _, R1, S.mono R k1, q1, fun vs H2 ⟨ds, F2, G2, k2, R2, p2, q2⟩ => ?_⟩
  exact k _ _ ⟨d :: ds, F2, G2, k1.trans k2, R2, ⟨v, vs, rfl, Rep.mono R1 k2 d v p1, p2⟩, q2⟩
def dTup (tr : DTA) : DTE := fun δ G Q => tr δ G fun ds G1 => ds.length ≤ sizeLine ∧ Q (.tup ds) G1
def dLv (tr : DTA) : DTE := fun δ G Q => tr δ G fun ds G1 => ds.length ≤ sizeLine ∧ Q (.lv ds) G1
def dRef (tr : DTA) : DTE := fun δ G Q => tr δ G fun ds G1 => ds.length ≤ sizeLine ∧ ∀ p, G1 p = none → Q (.ref p) (updG G1 p (.lst ds))
theorem q_tup {x1} (h : QA X es tr) : QE X (.Tuple es x1 pos) (dTup tr) := PEmono (pe_tup h) fun σ H Q ⟨F, δ, G, Q', R, S, q, k⟩ =>
  ⟨F, δ, G, _, R, S, q, fun vs H1 ⟨ds, F1, G1, k1, R1, p1, hl, q1⟩ => ⟨by rw [p1.len]; exact hl, fin_tup R1 (fun v' H' q2 => k v' H' (.trans k1 q2)) p1 q1⟩⟩
theorem q_lv (h : QA X es tr) : QE X (.List es pos) (dLv tr) := PEmono (pe_lst h) fun σ H Q ⟨F, δ, G, Q', R, S, q, k⟩ =>
  ⟨F, δ, G, _, R, S, q, fun vs H1 ⟨ds, F1, G1, k1, R1, p1, hl, q1⟩ => ⟨by rw [p1.len]; exact hl, fin_lv R1 (fun v' H' q2 => k v' H' (.trans k1 q2)) p1 q1⟩⟩
theorem q_ref (h : QA X es tr) : QE X (.List es pos) (dRef tr) := PEmono (pe_lst h) fun σ H Q ⟨F, δ, G, Q', R, S, q, k⟩ =>
  ⟨F, δ, G, _, R, S, q, fun vs H1 ⟨ds, F1, G1, k1, R1, p1, hl, q1⟩ => ⟨by rw [p1.len]; exact hl, fin_ref R1 (fun v' H' q2 => k v' H' (.trans k1 q2)) p1 q1⟩⟩

/-! ### x[i], x[i:j] -/
theorem atI_rep {ds : List D} {vs : List V} {i : Int} {d : D} (r : RepL K F H ds vs) (e : atI ds i = some d) : ∃ v, atI vs i = some v ∧ Rep K F H d v := by
  unfold atI at e ⊢
  rw [r.len]
  cases h : ixN ds.length i with
  | none => rw [h] at e; cases e
  | some j =>
    rw [h] at e
    exact r.get (show ds[j]? = some d from e)
def ixD : D → D → Gp → Option D
  | .str z, .int i, _ => if z.length ≤ sizeLine then (atI z.cps.toList i).map fun c => .str ⟨#[c]⟩ else none
  | .tup ds, .int i, _ => atI ds i
  | .lv ds, .int i, _ => atI ds i
  | .rl ds, .int i, _ => atI ds i
  | .ref a, .int i, G => (lstOf (G a)).bind fun ds => atI ds i
  | _, _, _ => none
def dIx : R2d := fun x y G Q => optQ (ixD x y G) fun d => Q d G
theorem sOk_at {z : Str} {i : Int} {c : Nat} (hz : sOk z = true) (e : atI z.cps.toList i = some c) : sOk ⟨#[c]⟩ = true := by
  unfold atI at e
  cases h : ixN z.cps.toList.length i with
  | none => rw [h] at e; cases e
  | some j =>
    rw [h] at e
    have e' : z.cps.toList[j]? = some c := e
    have hm := List.mem_of_getElem? e'
    unfold sOk at hz ⊢
    rw [← Array.all_toList, List.all_eq_true] at hz
    have := hz c hm
    simpa using this
theorem lift_ix : Lift2 K (rIx K) dIx := by
  intro F H G d e v u Q Q0 R rd re q k
  replace q := optQ_ex q
  obtain ⟨z, hz, q⟩ := q
  cases e with
  | int i =>
    cases re
    have gen : ∀ ds, itemsOf d G = some ds → atI ds i = some z → rIx K v (.int i) H Q0 := fun ds hi ea => by
      obtain ⟨a, ys, rfl, hs, hr⟩ := items_rep R rd hi
      obtain ⟨w, h1, h2⟩ := atI_rep hr ea
      rcases hs with hs | hs
      · exact .inl ⟨a, ys, i, w, rfl, rfl, hs, h1, fin R k q h2⟩
      · exact .inr (.inl ⟨a, ys, i, w, rfl, rfl, hs, h1, fin R k q h2⟩)
    cases d with
    | str x =>
      obtain ⟨rd, hx⟩ := rd
      cases rd
      simp only [ixD] at hz
      split at hz
      · rename_i hl
        cases ea : atI x.cps.toList i with
        | none => rw [ea] at hz; cases hz
        | some c => rw [ea] at hz; cases hz; exact .inr (.inr ⟨x, i, c, rfl, rfl, hl, ea, fin R k q ⟨rfl, sOk_at hx ea⟩⟩)
      · cases hz
    | tup ds => exact gen ds rfl hz
    | lv ds => exact gen ds rfl hz
    | rl ds => exact gen ds rfl hz
    | ref a =>
      simp only [ixD] at hz
      cases hi : lstOf (G a) with
      | none => rw [hi] at hz; cases hz
      | some ds =>
        rw [hi] at hz
        have e1 := lstOf_eq hi
        exact gen ds (by simp only [itemsOf, e1]) hz
    | _ => cases hz
  | _ => cases d <;> cases hz
theorem q_ix (ha : QE X a ta) (hb : QE X b tb) (hs : PlainIx b := by intro _ _; rfl) : QE X (.Subscript a b pos) (dOp dIx ta tb) := PEmono (pe_ix ix_seq ha hb hs) fun _ _ _ h => up2 lift_ix h
abbrev DTO := DS → Gp → (Option Int → Gp → Prop) → Prop
def upO (K : PySem.W.Frag) (t : DTO) : TO := fun σ H Q0 => ∃ F δ G Q, Rel K F H G ∧ RepS K F H δ σ ∧ t δ G Q ∧ ∀ o H', (∃ F' G', Keep F H G F' H' G' ∧ Rel K F' H' G' ∧ Q o G') → Q0 o H'
def QO (X : Cx) (e : Option Expr) (t : DTO) : Prop := PO X e (upO X.K t)
theorem POmono {e : Option Expr} {t t' : TO} (h : PO X e t) (i : ∀ σ H Q, t' σ H Q → t σ H Q) : PO X e t' := ⟨fun pins s σ H Q I q => h.run pins s σ H Q I (i _ _ _ q)⟩
def dNoPart : DTO := fun _ G Q => Q none G
def dPart (t : DTE) : DTO := fun δ G Q => t δ G fun x G1 => optQ (intOf x) fun i => Q (some i) G1
theorem qo_none : QO X none dNoPart := POmono po_none fun σ H Q ⟨F, δ, G, Q', R, S, q, k⟩ => k none H ⟨F, G, .refl, R, q⟩
theorem qo_some (h : QE X e te) : QO X (some e) (dPart te) := POmono (po_some h) fun σ H Q ⟨F, δ, G, Q', R, S, q, k⟩ => by
  refine ⟨F, δ, G, _, R, S, q, fun v H1 ⟨d, F1, G1, k1, R1, p1, q1⟩ => ?_⟩
  replace q1 := optQ_ex q1
  obtain ⟨i, e, q1⟩ := q1
  rw [intOf_eq e] at p1
  exact ⟨i, p1, k _ _ ⟨F1, G1, k1, R1, q1⟩⟩
def cutD {α : Type} (xs : List α) (lo hi : Option Int) : List α := (xs.drop (HT.sIx xs.length 0 lo)).take (HT.sIx xs.length xs.length hi - HT.sIx xs.length 0 lo)
def slD (x : D) (i1 i2 : Option Int) (G : Gp) : Option D := match x with
  | .tup ds => some (.tup (cutD ds i1 i2))
  | .lv ds => some (.lv (cutD ds i1 i2))
  | .rl ds => some (.lv (cutD ds i1 i2))
  | .str z => if z.length ≤ sizeLine then some (.str ⟨(cutD z.cps.toList i1 i2).toArray⟩) else none
  | .ref a => (lstOf (G a)).map fun ds => .lv (cutD ds i1 i2)
  | _ => none
def rSlU (K : PySem.W.Frag) : V → Option Int → Option Int → Hp → VK → Prop := fun x lo hi H Q => rSlA K x lo hi H Q ∨ rSlL K x lo hi H Q ∨ rSlS x lo hi H Q
theorem sl_any : SlR X (rSlU X.K) := .or sl_tupA (.or sl_list sl_str)
theorem RepL.cut {ds : List D} {vs : List V} (r : RepL K F H ds vs) (lo hi : Option Int) : RepL K F H (cutD ds lo hi) (cutV vs lo hi) := by
  unfold cutD cutV
  rw [r.len]
  exact (r.drop _).take _
theorem cut_whole {α : Type} {xs : List α} {lo hi : Option Int} (h : HT.sIx xs.length 0 lo = 0 ∧ HT.sIx xs.length xs.length hi = xs.length) : cutD xs lo hi = xs := by
  unfold cutD
  rw [h.1, h.2, List.drop_zero, Nat.sub_zero, List.take_length]
theorem sOk_cut {z : Str} (hz : sOk z = true) (lo hi : Option Int) : sOk ⟨(cutD z.cps.toList lo hi).toArray⟩ = true := by
  unfold sOk at hz ⊢
  rw [← Array.all_toList, List.all_eq_true] at hz ⊢
  intro c hc
  exact hz c (List.mem_of_mem_drop (List.mem_of_mem_take (by simpa [cutD] using hc)))
def dSl (te : DTE) (tl th : DTO) : DTE := fun δ G Q => te δ G fun x G1 => tl δ G1 fun l G2 => th δ G2 fun u G3 => optQ (slD x l u G3) fun d => Q d G3
theorem q_sl {lo hi : Option Expr} {tl th : DTO} {p2 : Pos} (he : QE X e te) (hl : QO X lo tl) (hu : QO X hi th) : QE X (.Subscript e (.Slice lo hi none p2) pos) (dSl te tl th) := PEmono (pe_slice sl_any he hl hu) fun σ H Q ⟨F, δ, G, Q', R, S, q, k⟩ => by
  refine ⟨F, δ, G, _, R, S, q, fun v H1 ⟨d, F1, G1, k1, R1, p1, q1⟩ => ?_⟩
  have S1 := S.mono R k1
  refine ⟨F1, δ, G1, _, R1, S1, q1, fun l H2 ⟨F2, G2, k2, R2, q2⟩ => ?_⟩
  refine ⟨F2, δ, G2, _, R2, S1.mono R1 k2, q2, fun u H3 ⟨F3, G3, k3, R3, q3⟩ => ?_⟩
  have p3 := Rep.mono R2 k3 d v (Rep.mono R1 k2 d v p1)
  have kk : ∀ v' H', post X.K F3 H3 G3 Q' v' H' → Q v' H' := fun v' H' q => k v' H' (.trans ((k1.trans k2).trans k3) q)
  replace q3 := optQ_ex q3
  obtain ⟨z, hz, q3⟩ := q3
  cases d with
  | tup ds =>
    cases hz
    obtain ⟨a, xs, rfl, hs, hr⟩ := p3
    refine .inl ⟨a, xs, rfl, hs, fun w => ?_, fun _ => fin_tup R3 kk (hr.cut l u) q3⟩
    have q3' : Q' (.tup (cutD ds l u)) G3 := q3
    rw [hr.len] at w
    rw [cut_whole w] at q3'
    exact fin R3 kk q3' ⟨a, xs, rfl, hs, hr⟩
  | lv ds =>
    cases hz
    obtain ⟨a, xs, rfl, hs, hr⟩ := p3
    exact .inr (.inl ⟨a, xs, rfl, .of hs.2, fin_lv R3 kk (hr.cut l u) q3⟩)
  | rl ds =>
    cases hz
    obtain ⟨a, xs, rfl, hs, hr⟩ := p3
    refine .inr (.inl ⟨a, xs, rfl, ?_, fin_lv R3 kk (hr.cut l u) q3⟩)
    rcases hs with ⟨o, hs⟩ | hs
    · exact .inl (.inr ⟨o, hs⟩)
    · exact .inr hs
  | str x =>
    obtain ⟨p3, hx⟩ := p3
    cases p3
    simp only [slD] at hz
    split at hz
    · rename_i hl
      cases hz
      exact .inr (.inr ⟨x, rfl, hl, fin R3 kk q3 ⟨rfl, sOk_cut hx l u⟩⟩)
    · cases hz
  | ref a =>
    have e' : v = .ref a := p3
    subst e'
    simp only [slD] at hz
    cases hi : lstOf (G3 a) with
    | none => rw [hi] at hz; cases hz
    | some ds =>
      rw [hi] at hz
      cases hz
      obtain ⟨xs, h1, h2⟩ := R3.obj _ _ (lstOf_eq hi)
      exact .inr (.inl ⟨a, xs, rfl, .of h1, fin_lv R3 kk (h2.cut l u) q3⟩)
  | _ => cases hz

/-! ### calls of built-ins -/
def dF (f : List D → Gp → Option D) : RA := fun ds G Q => optQ (f ds G) fun d => Q d G
def dB (r : RA) (tr : DTA) : DTE := fun δ G Q => tr δ G fun ds G1 => r ds G1 Q
theorem upB {r0 : List V → Hp → VK → Prop} {r : RA} (l : LiftA K r0 r) {σ : L2.St} {Q : VK} (h : up K (dB r tr) σ H Q) : tCB r0 (upA K tr) σ H Q := by
  obtain ⟨F, δ, G, Q', R, S, q, k⟩ := h
  refine ⟨F, δ, G, _, R, S, q, fun vs H1 ⟨ds, F1, G1, k1, R1, p1, q1⟩ => ?_⟩
  exact l F1 H1 G1 ds vs Q' Q R1 p1 q1 fun v' H' q3 => k v' H' (.trans k1 q3)
theorem q_callB {id : String} {x : Str} {p : Pos} {r0 : List V → Hp → VK → Prop} {r : RA} (hc : CallR X (.builtin id) r0) (l : LiftA X.K r0 r) (hg : Gl X x) (hm : X.mg x = none) (hv : bootBuiltins x = some (.builtin id)) (ha : QA X (e :: es) tr)
    (hn : x ≠ "__name__" := by decide) (hdb : (x == ("__debug__" : Str)) = false := by decide) (he : starEach (e :: es) X.env = (false, eval e X.env) :: starEach es X.env := by rfl) (hpl : (backTo pos (starEach es X.env)).any (·.1) = false := by rfl) :
    QE X (.Call (.Name x p) (e :: es) [] pos) (dB r tr) := PEmono (pe_callB hc hg hm hv ha hn hdb he hpl) fun _ _ _ h => upB l h
theorem q_callTy {T : String} {x : Str} {p : Pos} {r0 : List V → Hp → VK → Prop} {r : RA} (hc : CallR X (.type T) r0) (l : LiftA X.K r0 r) (hg : Gl X x) (hm : X.mg x = none) (hv : bootBuiltins x = some (.type T)) (ha : QA X (e :: es) tr)
    (hn : x ≠ "__name__" := by decide) (hdb : (x == ("__debug__" : Str)) = false := by decide) (he : starEach (e :: es) X.env = (false, eval e X.env) :: starEach es X.env := by rfl) (hpl : (backTo pos (starEach es X.env)).any (·.1) = false := by rfl) :
    QE X (.Call (.Name x p) (e :: es) [] pos) (dB r tr) := PEmono (pe_callTy hc hg hm hv ha hn hdb he hpl) fun _ _ _ h => upB l h
theorem rl1 {d : D} {vs : List V} (r : RepL K F H [d] vs) : ∃ v, vs = [v] ∧ Rep K F H d v := by
  obtain ⟨v, r', e, h, q⟩ := r
  cases q
  exact ⟨v, e, h⟩
theorem rl2 {d d' : D} {vs : List V} (r : RepL K F H [d, d'] vs) : ∃ v v', vs = [v, v'] ∧ Rep K F H d v ∧ Rep K F H d' v' := by
  obtain ⟨v, r', e, h, q⟩ := r
  obtain ⟨v', e', h'⟩ := rl1 q
  subst e'
  exact ⟨v, v', e, h, h'⟩
def lenD : List D → Gp → Option D
  | [.str z], _ => if z.length ≤ sizeLine then some (.int (z.length : Nat)) else none
  | [.tup ds], _ => some (.int (ds.length : Nat))
  | [.lv ds], _ => some (.int (ds.length : Nat))
  | [.rl ds], _ => some (.int (ds.length : Nat))
  | [.ref a], G => (lstOf (G a)).map fun ds => .int (ds.length : Nat)
  | _, _ => none
abbrev dLen : RA := dF lenD
theorem lift_len : LiftA K (fun xs H Q => ∃ x n, xs = [x] ∧ LenV K x H n ∧ Q (.int n) H) dLen := by
  intro F H G ds vs Q Q0 R rd q k
  replace q := optQ_ex q
  obtain ⟨z, hz, q⟩ := q
  have gen : ∀ d xs, ds = [d] → itemsOf d G = some xs → z = .int (xs.length : Nat) → ∃ x n, vs = [x] ∧ LenV K x H n ∧ Q0 (.int n) H := fun d xs hd hi hz5 => by
    subst hd
    subst hz5
    obtain ⟨v, rfl, r⟩ := rl1 rd
    obtain ⟨a, ys, rfl, hs, hr⟩ := items_rep R r hi
    refine ⟨_, xs.length, rfl, ?_, fin R k q rfl⟩
    rcases hs with hs | hs
    · exact .inl ⟨ys, hs, hr.len.symm⟩
    · exact .inr ⟨ys, hs, hr.len.symm⟩
  unfold lenD at hz
  split at hz
  · split at hz
    · rename_i hl
      cases hz
      obtain ⟨v, rfl, r, _⟩ := rl1 rd
      subst r
      exact ⟨_, _, rfl, ⟨hl, rfl⟩, fin R k q rfl⟩
    · cases hz
  · cases hz; exact gen _ _ rfl rfl rfl
  · cases hz; exact gen _ _ rfl rfl rfl
  · cases hz; exact gen _ _ rfl rfl rfl
  · rename_i a
    cases hi : lstOf (G a) with
    | none => rw [hi] at hz; cases hz
    | some xs =>
      rw [hi] at hz
      cases hz
      have e1 := lstOf_eq hi
      exact gen _ xs rfl (by simp only [itemsOf, e1]) rfl
  · cases hz
def absD : List D → Gp → Option D
  | [.int i], _ => some (.int (if i < 0 then -i else i))
  | _, _ => none
abbrev dAbs : RA := dF absD
theorem lift_abs : LiftA K (fun xs H Q => ∃ i, xs = [.int i] ∧ Q (.int (if i < 0 then -i else i)) H) dAbs := by
  intro F H G ds vs Q Q0 R rd q k
  replace q := optQ_ex q
  obtain ⟨z, hz, q⟩ := q
  unfold absD at hz
  split at hz
  · cases hz
    obtain ⟨v, rfl, r⟩ := rl1 rd
    cases r
    exact ⟨_, rfl, fin R k q rfl⟩
  · cases hz
def intCD : List D → Gp → Option D
  | [.int i], _ => some (.int i)
  | [.bl b], _ => some (.int (if b then 1 else 0))
  | _, _ => none
abbrev dIntC : RA := dF intCD
theorem lift_intC : LiftA K (fun xs H Q => (∃ i, xs = [.int i] ∧ Q (.int i) H) ∨ ∃ k, xs = [.bl k] ∧ Q (.int (if k then 1 else 0)) H) dIntC := by
  intro F H G ds vs Q Q0 R rd q k
  replace q := optQ_ex q
  obtain ⟨z, hz, q⟩ := q
  unfold intCD at hz
  split at hz
  · cases hz
    obtain ⟨v, rfl, r⟩ := rl1 rd
    cases r
    exact .inl ⟨_, rfl, fin R k q rfl⟩
  · cases hz
    obtain ⟨v, rfl, r⟩ := rl1 rd
    cases r
    exact .inr ⟨_, rfl, fin R k q rfl⟩
  · cases hz
def max2D : List D → Gp → Option D
  | [.int i, .int j], _ => some (.int (if j > i then j else i))
  | _, _ => none
abbrev dMax2 : RA := dF max2D
theorem lift_max2 : LiftA K (fun xs H Q => ∃ i j, xs = [.int i, .int j] ∧ Q (.int (if j > i then j else i)) H) dMax2 := by
  intro F H G ds vs Q Q0 R rd q k
  replace q := optQ_ex q
  obtain ⟨z, hz, q⟩ := q
  unfold max2D at hz
  split at hz
  · cases hz
    obtain ⟨v, v', rfl, r, r'⟩ := rl2 rd
    cases r
    cases r'
    exact ⟨_, _, rfl, fin R k q rfl⟩
  · cases hz
def min2D : List D → Gp → Option D
  | [.int i, .int j], _ => some (.int (if j < i then j else i))
  | _, _ => none
abbrev dMin2 : RA := dF min2D
theorem lift_min2 : LiftA K (fun xs H Q => ∃ i j, xs = [.int i, .int j] ∧ Q (.int (if j < i then j else i)) H) dMin2 := by
  intro F H G ds vs Q Q0 R rd q k
  replace q := optQ_ex q
  obtain ⟨z, hz, q⟩ := q
  unfold min2D at hz
  split at hz
  · cases hz
    obtain ⟨v, v', rfl, r, r'⟩ := rl2 rd
    cases r
    cases r'
    exact ⟨_, _, rfl, fin R k q rfl⟩
  · cases hz
def ord1D : List D → Gp → Option D
  | [.str x], _ => if x.length = 1 then some (.int (x.cps.getD 0 0 : Nat)) else none
  | _, _ => none
abbrev dOrd1 : RA := dF ord1D
theorem lift_ord1 : LiftA K (fun xs H Q => ∃ x, xs = [.str x] ∧ x.length = 1 ∧ Q (.int (x.cps.getD 0 0 : Nat)) H) dOrd1 := by
  intro F H G ds vs Q Q0 R rd q k
  replace q := optQ_ex q
  obtain ⟨z, hz, q⟩ := q
  unfold ord1D at hz
  split at hz
  · split at hz
    · rename_i hl
      cases hz
      obtain ⟨v, rfl, r, _⟩ := rl1 rd
      subst r
      exact ⟨_, rfl, hl, fin R k q rfl⟩
    · cases hz
  · cases hz
/-- tuple(x) -/
def itemsA : List D → Gp → Option (List D)
  | [d], G => itemsOf d G
  | _, _ => none
theorem itemsA_eq {ds : List D} {G : Gp} {xs : List D} (h : itemsA ds G = some xs) : ∃ d, ds = [d] ∧ itemsOf d G = some xs := by
  unfold itemsA at h
  split at h
  · exact ⟨_, rfl, h⟩
  · cases h
def dTupleC : RA := fun ds G Q => optQ (itemsA ds G) fun xs => Q (.tup xs) G
theorem lift_tupleC : LiftA K (fun xs H Q => ∃ p ys, xs = [.ref p] ∧ ((SqL K H p ys ∧ ∀ l, H l = none → Q (.ref l) (upd H l (.tup ys))) ∨ (SqT K H p ys ∧ Q (.ref p) H))) dTupleC := by
  intro F H G ds vs Q Q0 R rd q k
  replace q := optQ_ex q
  obtain ⟨xs, hz, q⟩ := q
  obtain ⟨d, rfl, hi⟩ := itemsA_eq hz
  · obtain ⟨v, rfl, r⟩ := rl1 rd
    · obtain ⟨a, ys, rfl, hs, hr⟩ := items_rep R r hi
      rcases hs with hs | hs
      · exact ⟨a, ys, rfl, .inl ⟨hs, fin_tup R k hr q⟩⟩
      · exact ⟨a, ys, rfl, .inr ⟨hs, fin R k q ⟨a, ys, rfl, hs, hr⟩⟩⟩
/-- list(x), to stay | to change -/
def dListC : RA := fun ds G Q => optQ (itemsA ds G) fun xs => Q (.lv xs) G
def dListM : RA := fun ds G Q => optQ (itemsA ds G) fun xs => ∀ p, G p = none → Q (.ref p) (updG G p (.lst xs))
theorem lift_listC : LiftA K (fun xs H Q => ∃ p ys, xs = [.ref p] ∧ (SqL K H p ys ∨ SqT K H p ys) ∧ ∀ l, H l = none → Q (.ref l) (upd H l (.lst ys))) dListC := by
  intro F H G ds vs Q Q0 R rd q k
  replace q := optQ_ex q
  obtain ⟨xs, hz, q⟩ := q
  obtain ⟨d, rfl, hi⟩ := itemsA_eq hz
  · obtain ⟨v, rfl, r⟩ := rl1 rd
    · obtain ⟨a, ys, rfl, hs, hr⟩ := items_rep R r hi
      exact ⟨a, ys, rfl, hs, fin_lv R k hr q⟩
theorem lift_listM : LiftA K (fun xs H Q => ∃ p ys, xs = [.ref p] ∧ (SqL K H p ys ∨ SqT K H p ys) ∧ ∀ l, H l = none → Q (.ref l) (upd H l (.lst ys))) dListM := by
  intro F H G ds vs Q Q0 R rd q k
  replace q := optQ_ex q
  obtain ⟨xs, hz, q⟩ := q
  obtain ⟨d, rfl, hi⟩ := itemsA_eq hz
  · obtain ⟨v, rfl, r⟩ := rl1 rd
    · obtain ⟨a, ys, rfl, hs, hr⟩ := items_rep R r hi
      exact ⟨a, ys, rfl, hs, fin_ref R k hr q⟩
/-- all, any of a list of bools -/
def blsOf : List D → Option (List Bool)
  | [] => some []
  | .bl b :: r => (blsOf r).map (b :: ·)
  | _ :: _ => none
theorem blsOf_rep : ∀ {ds : List D} {vs : List V} {bs : List Bool}, RepL K F H ds vs → blsOf ds = some bs → vs = bs.map V.bl
  | [], vs, bs, r, e => by cases r; cases e; rfl
  | d :: ds, vs, bs, ⟨v, r', e1, h, q⟩, e => by
    subst e1
    cases d with
    | bl b =>
      unfold blsOf at e
      cases e2 : blsOf ds with
      | none => rw [e2] at e; cases e
      | some bs' =>
        rw [e2] at e
        cases e
        cases h
        rw [blsOf_rep q e2]
        rfl
    | _ => cases e
def lv1 : List D → Option (List D)
  | [.lv xs] => some xs
  | _ => none
theorem lv1_eq {ds : List D} {xs : List D} (h : lv1 ds = some xs) : ds = [.lv xs] := by
  unfold lv1 at h
  split at h
  · cases h; rfl
  · cases h
def dAll (f : List Bool → Bool) : RA := fun ds G Q => optQ ((lv1 ds).bind blsOf) fun bs => Q (.bl (f bs)) G
theorem lift_all {f : List Bool → Bool} : LiftA K (fun vs H Q => ∃ (a : Addr) (bs : List Bool), vs = [V.ref a] ∧ SqL K H a (bs.map V.bl) ∧ Q (.bl (f bs)) H) (dAll f) := by
  intro F H G ds vs Q Q0 R rd q k
  replace q := optQ_ex q
  obtain ⟨bs, hz, q⟩ := q
  cases h1 : lv1 ds with
  | none => rw [h1] at hz; cases hz
  | some xs =>
    rw [h1] at hz
    have hi : blsOf xs = some bs := hz
    rw [lv1_eq h1] at rd
    obtain ⟨v, rfl, a, ys, rfl, hs, hr⟩ := rl1 rd
    have e := blsOf_rep hr hi
    subst e
    exact ⟨a, bs, rfl, .of hs.2, fin R k q rfl⟩
/-- sum of a list of ints -/
def intsOf : List D → Option (List Int)
  | [] => some []
  | .int b :: r => (intsOf r).map (b :: ·)
  | _ :: _ => none
theorem intsOf_rep : ∀ {ds : List D} {vs : List V} {bs : List Int}, RepL K F H ds vs → intsOf ds = some bs → vs = bs.map V.int
  | [], vs, bs, r, e => by cases r; cases e; rfl
  | d :: ds, vs, bs, ⟨v, r', e1, h, q⟩, e => by
    subst e1
    cases d with
    | int b =>
      unfold intsOf at e
      cases e2 : intsOf ds with
      | none => rw [e2] at e; cases e
      | some bs' =>
        rw [e2] at e
        cases e
        cases h
        rw [intsOf_rep q e2]
        rfl
    | _ => cases e
def dSum : RA := fun ds G Q => optQ ((lv1 ds).bind intsOf) fun bs => Q (.int bs.sum) G
theorem lift_sum : LiftA K (rSum K) dSum := by
  intro F H G ds vs Q Q0 R rd q k
  replace q := optQ_ex q
  obtain ⟨bs, hz, q⟩ := q
  cases h1 : lv1 ds with
  | none => rw [h1] at hz; cases hz
  | some xs =>
    rw [h1] at hz
    have hi : intsOf xs = some bs := hz
    rw [lv1_eq h1] at rd
    obtain ⟨v, rfl, a, ys, rfl, hs, hr⟩ := rl1 rd
    have e := intsOf_rep hr hi
    subst e
    exact ⟨a, bs, rfl, .of hs.2, fin R k q rfl⟩
/-- isinstance(x, T), T a built-in type by its name -/
def tyD : D → Gp → Option String
  | .non, _ => some "NoneType"
  | .bl _, _ => some "bool"
  | .int _, _ => some "int"
  | .str _, _ => some "str"
  | .tup _, _ => some "tuple"
  | .lv _, _ => some "list"
  | .rl _, _ => some "list"
  | .dv _, _ => some "dict"
  | .ref a, G => match G a with
    | some (.lst _) => some "list"
    | some (.dic _) => some "dict"
    | _ => none
theorem tyD_ok {d : D} {v : V} {n : String} (R : Rel K F H G) (r : Rep K F H d v) (e : tyD d G = some n) : TyX K H v (.type n) := by
  cases d with
  | non => cases r; cases e; exact .base .non
  | bl b => cases r; cases e; exact .base (.bl b)
  | int b => cases r; cases e; exact .base (.int b)
  | str b => obtain ⟨r, _⟩ := r; cases r; cases e; exact .base (.str b)
  | tup ds =>
    obtain ⟨a, xs, r, h, _⟩ := r
    cases r; cases e
    rcases h with (h | ⟨o, h⟩) | ⟨o, its, n, h1, h2, _⟩
    · exact .base (.tup h)
    · exact .fTuple h
    · exact .kTuple h1 h2
  | lv ds =>
    obtain ⟨a, xs, r, h, _⟩ := r
    cases r; cases e
    exact .base (.lst h.2)
  | rl ds =>
    obtain ⟨a, xs, r, h, _⟩ := r
    cases r; cases e
    rcases h with ⟨o, h⟩ | ⟨o, its, n, h1, h2, _⟩
    · exact .base (.frz h)
    · exact .kList h1 h2
  | dv kvs =>
    obtain ⟨a, xs, r, h, _⟩ := r
    cases r; cases e
    rcases h.2 with h | ⟨o, h⟩
    · exact .base (.dK h)
    · exact .fDict h
  | ref a =>
    have r' : v = .ref a := r
    subst r'
    simp only [tyD] at e
    split at e
    · rename_i ds eg
      cases e
      obtain ⟨xs, h1, _⟩ := R.obj a _ eg
      exact .base (.lst h1)
    · rename_i ds eg
      cases e
      obtain ⟨xs, h1, _⟩ := R.obj a _ eg
      exact .base (.dK h1)
    · cases e
def isiB (T n : String) : Bool := (n == T) || (n == "bool" && T == "int")
theorem isi_kit {d : D} {n : String} (e : tyD d G = some n) {T : String} (hT : T ∈ ["int", "str", "tuple", "list", "bool", "dict"]) : kitB n T = some (isiB T n) := by
  have hn : n ∈ ["NoneType", "bool", "int", "str", "tuple", "list", "dict"] := by
    cases d with
    | ref a =>
      simp only [tyD] at e
      split at e <;> (cases e; try decide)
    | _ => cases e; decide
  have all : ∀ n ∈ ["NoneType", "bool", "int", "str", "tuple", "list", "dict"], ∀ T ∈ ["int", "str", "tuple", "list", "bool", "dict"], kitB n T = some (isiB T n) := by decide +kernel
  exact all n hn T hT
def dIsi (T : String) (ta : DTE) : DTE := fun δ G Q => ta δ G fun x G1 => optQ (tyD x G1) fun n => Q (.bl (isiB T n)) G1
theorem q_isi {T : String} {x : Str} {p p2 : Pos} (hT : T ∈ ["int", "str", "tuple", "list", "bool", "dict"]) (hg : Gl X "isinstance") (hm : X.mg "isinstance" = none) (hg2 : Gl X x) (hm2 : X.mg x = none) (hv2 : bootBuiltins x = some (.type T)) (ha : QE X a ta)
    (hn2 : x ≠ "__name__" := by decide) (hdb2 : (x == ("__debug__" : Str)) = false := by decide)
    (he : starEach [a, .Name x p2] X.env = (false, eval a X.env) :: starEach [.Name x p2] X.env := by rfl) (he2 : starEach [.Name x p2] X.env = (false, eval (.Name x p2) X.env) :: starEach [] X.env := by rfl) (hpl : (backTo pos (starEach [.Name x p2] X.env)).any (·.1) = false := by rfl) :
    QE X (.Call (.Name "isinstance" p) [a, .Name x p2] [] pos) (dIsi T ta) :=
  PEmono (pe_callB call_isi hg hm boot_isinstance (pa_cons ha (pa_cons (pe_bltn (v := .ty T) hg2 hm2 hv2 rfl hn2 hdb2) pa_nil he2) he) (by decide) (by decide) he hpl) fun σ H Q ⟨F, δ, G, Q', R, S, q, k⟩ => by
    refine ⟨F, δ, G, _, R, S, q, fun v H1 ⟨d, F1, G1, k1, R1, p1, q1⟩ => ?_⟩
    · replace q1 := optQ_ex q1
      obtain ⟨n, e1, q1⟩ := q1
      exact ⟨v, .ty T, .type n, .type T, isiB T n, rfl, .ty T, tyD_ok R1 p1 e1, kit_ty (isi_kit e1 hT), fin R1 (fun v' H' q2 => k v' H' (.trans k1 q2)) q1 rfl⟩
end
end DL
set_option Elab.async false
set_option linter.all false
set_option maxRecDepth 100000
set_option maxHeartbeats 4000000
namespace DL
open PySem PySem.Spec PyProof.Rows L2
section
variable {X : Cx} {K : PySem.W.Frag} {F F' : Fr} {H H' : Hp} {G G' : Gp} {a b c e tg : Expr} {es rest : List Expr} {ta tb tc te : DTE} {t u : DTT} {tr : DTA} {pos : Pos}
theorem RepO.stay (k : Stay F H F' H') (ho : ∀ x y, H x = some (.own y) → H' x = some (.own y)) {a : Addr} {m : MO} (e : H' a = H a) (h : RepO K F H a m) : RepO K F' H' a m := by
  cases m with
  | lst ds => obtain ⟨xs, h1, q⟩ := h; exact ⟨xs, e.trans h1, RepL.stay k _ _ q⟩
  | dic kvs => obtain ⟨xs, h1, q⟩ := h; exact ⟨xs, e.trans h1, RepK.stay k _ _ q⟩
  | drw r => obtain ⟨i, h0, h1⟩ := h; exact ⟨i, h0, e.trans h1⟩
  | row => obtain ⟨ns, h1⟩ := h; exact ⟨ns, e.trans h1⟩
  | ins C dx fs => obtain ⟨xs, h1, h2, q⟩ := h; exact ⟨xs, e.trans h1, ho dx a h2, RepF.stay k _ _ q⟩
/-- a list that nothing speaks of changes -/
theorem stay_hid {D : Addr} {xs : List V} {o : HO} (hD : H D = some (.lst xs)) (nF : ¬ F D) : Stay F H F (upd H D o) where
  tup a ys h := by
    have n : a ≠ D := fun z => by
      subst z
      rcases h with h | ⟨o, h⟩ <;> (rw [hD] at h; cases h)
    rcases h with h | ⟨o, h⟩
    · exact .inl (by rw [upd_ne n]; exact h)
    · exact .inr ⟨o, by rw [upd_ne n]; exact h⟩
  lst a ys f h := ⟨f, by rw [upd_ne (show a ≠ D from fun z => nF (z ▸ f))]; exact h⟩
  frz a ob ys h := by rw [upd_ne (fun z => by subst z; rw [hD] at h; cases h)]; exact h
  dic a ys f h := by
    have n : a ≠ D := fun z => nF (z ▸ f)
    refine ⟨f, ?_⟩
    rcases h with h | ⟨o, h⟩
    · exact .inl (by rw [upd_ne n]; exact h)
    · exact .inr ⟨o, by rw [upd_ne n]; exact h⟩
theorem rel_hid (R : Rel K F H G) {D : Addr} {xs : List V} {o : HO} (hD : H D = some (.lst xs)) (nF : ¬ F D) (nG : G D = none) : Rel K F (upd H D o) G where
  obj a m e := by
    have n : a ≠ D := fun z => by subst z; rw [nG] at e; cases e
    exact RepO.stay (stay_hid hD nF) (fun x y h => by rw [upd_ne (fun z => by subst z; rw [hD] at h; cases h)]; exact h) (upd_ne n) (R.obj a m e)
  fr := R.fr
  al a f := by rw [upd_ne (show a ≠ D from fun z => nF (z ▸ f))]; exact R.al a f

/-! ### targets -/
abbrev DTG := D → DS → Gp → (DS → Gp → Prop) → Prop
abbrev DTGs := List D → DS → Gp → (DS → Gp → Prop) → Prop
def upG (K : PySem.W.Frag) (P : L2.St → L2.St → Prop) (g : DTG) : TG := fun v σ H Q0 => ∃ F d δ G Q, Rel K F H G ∧ Rep K F H d v ∧ RepS K F H δ σ ∧ g d δ G Q ∧ ∀ σ' H', P σ σ' → postS F K H G Q σ' H' → Q0 σ' H'
def upGs (K : PySem.W.Frag) (P : L2.St → L2.St → Prop) (g : DTGs) : TGs := fun vs σ H Q0 => ∃ F ds δ G Q, Rel K F H G ∧ RepL K F H ds vs ∧ RepS K F H δ σ ∧ g ds δ G Q ∧ ∀ σ' H', P σ σ' → postS F K H G Q σ' H' → Q0 σ' H'
def QG (X : Cx) (P : L2.St → L2.St → Prop) (tg : Expr) (g : DTG) : Prop := PG X tg (upG X.K P g)
def QGs (X : Cx) (P : L2.St → L2.St → Prop) (ts : List Expr) (g : DTGs) : Prop := PGs X ts (upGs X.K P g)
theorem PGmono {tg : Expr} {t t' : TG} (h : PG X tg t) (i : ∀ v σ H Q, t' v σ H Q → t v σ H Q) : PG X tg t' := ⟨fun pins s σ H v u Q I r q => h.run pins s σ H v u Q I r (i _ _ _ _ q)⟩
theorem PGsmono {ts : List Expr} {t t' : TGs} (h : PGs X ts t) (i : ∀ v σ H Q, t' v σ H Q → t v σ H Q) : PGs X ts t' := ⟨fun pins s σ H v u Q I r q => h.run pins s σ H v u Q I r (i _ _ _ _ q)⟩
structure Pok (P : L2.St → L2.St → Prop) : Prop where
  refl : ∀ σ, P σ σ
  trans : ∀ {σ σ1 σ2}, P σ σ1 → P σ1 σ2 → P σ σ2
def Pany : L2.St → L2.St → Prop := fun _ _ => True
theorem pany : Pok Pany := ⟨fun _ => trivial, fun _ _ => trivial⟩
def Pw (vs : List Nat) : L2.St → L2.St → Prop := fun σ σ' => wipe σ' vs = wipe σ vs
theorem pw (vs : List Nat) : Pok (Pw vs) := ⟨fun _ => rfl, fun h g => Eq.trans g h⟩
theorem wipe_set : ∀ (vs : List Nat) (σ : L2.St) (i : Nat) (x : Option V), wipe (σ.set i x) vs = if i ∈ vs then wipe σ vs else (wipe σ vs).set i x
  | [], σ, i, x => by rw [if_neg (by simp)]; rfl
  | v :: vs, σ, i, x => by
    unfold wipe
    rw [wipe_set vs σ i x]
    by_cases h1 : i = v
    · subst h1
      rw [if_pos (show i ∈ i :: vs from List.mem_cons_self)]
      split
      · rfl
      · rw [List.set_set]
    · by_cases h2 : i ∈ vs
      · rw [if_pos h2, if_pos (List.mem_cons_of_mem _ h2)]
      · rw [if_neg h2, if_neg (by simp only [List.mem_cons, not_or]; exact ⟨h1, h2⟩), List.set_comm _ _ h1]
theorem pw_set {vs : List Nat} {i : Nat} (h : i ∈ vs) (σ : L2.St) (v : V) : Pw vs σ (σ.set i (some v)) := by
  unfold Pw
  rw [wipe_set, if_pos h]
def dName (i : Nat) : DTG := fun d δ G Q => Q (setS δ i (some d)) G
theorem qg_name {P : L2.St → L2.St → Prop} {i : Nat} {x : Str} (hN : X.N.Nodup) (hP : ∀ σ v, P σ (σ.set i (some v))) (hi : X.N[i]? = some x := by rfl) (hx : Loc X.env.scope x := by first | exact Or.inl rfl | exact Or.inr rfl) (hf : X.fn x = true ∨ X.env.scope.names.lookup x = some .local := by first | exact .inl rfl | exact .inr rfl) : QG X P (.Name x pos) (dName i) :=
  PGmono (pg_name hN hi hx hf) fun v σ H Q ⟨F, d, δ, G, Q', R, r, S, q, k⟩ => k _ _ (hP σ v) ⟨setS δ i (some d), F, G, .refl, R, S.set i r, q⟩
def isNil : List D → Option Unit
  | [] => some ()
  | _ => none
def dGnil : DTGs := fun ds δ G Q => optQ (isNil ds) fun _ => Q δ G
def dGcons (g : DTG) (gs : DTGs) : DTGs := fun ds δ G Q => optQ (uncons ds) fun p => g p.1 δ G fun δ1 G1 => gs p.2 δ1 G1 Q
theorem qgs_nil {P : L2.St → L2.St → Prop} (o : Pok P) : QGs X P [] dGnil := PGsmono pgs_nil fun vs σ H Q ⟨F, ds, δ, G, Q', R, r, S, q, k⟩ => by
  replace q := optQ_ex q
  obtain ⟨_, hz, q⟩ := q
  cases ds with
  | nil => cases r; exact ⟨rfl, k _ _ (o.refl σ) ⟨δ, F, G, .refl, R, S, q⟩⟩
  | cons d ds => cases hz
theorem qgs_cons {P : L2.St → L2.St → Prop} {g : DTG} {gs : DTGs} (o : Pok P) (h1 : QG X P e g) (h2 : QGs X P es gs) (hs : (assignEach (e :: es) X.env).map (·.2) = assign e X.env :: (assignEach es X.env).map (·.2) := by rfl) : QGs X P (e :: es) (dGcons g gs) := PGsmono (pgs_cons h1 h2 hs) fun vs σ H Q ⟨F, ds, δ, G, Q', R, r, S, q, k⟩ => by
  replace q := optQ_ex q
  obtain ⟨pp, hz, q⟩ := q
  cases ds with
  | nil => cases hz
  | cons d ds =>
    cases hz
    obtain ⟨v, vr, e1, r1, r2⟩ := r
    subst e1
    refine ⟨v, vr, rfl, F, d, δ, G, _, R, r1, S, q, fun σ1 H1 p1 ⟨δ1, F1, G1, k1, R1, S1, q1⟩ => ?_⟩
    exact ⟨F1, ds, δ1, G1, Q', R1, RepL.mono R k1 ds vr r2, S1, q1, fun σ2 H2 p2 ⟨δ2, F2, G2, k2, R2, S2, q2⟩ => k _ _ (o.trans p1 p2) ⟨δ2, F2, G2, k1.trans k2, R2, S2, q2⟩⟩
def dTupG (n : Nat) (gs : DTGs) : DTG := fun d δ G Q => optQ (tupOf d) fun ds => ds.length = n ∧ gs ds δ G Q
theorem qg_tup {P : L2.St → L2.St → Prop} {k : Nat} {gs : DTGs} {n : Nat} (hc : X.calm = true) (h : QGs X P es gs) (hn : (assignEach es X.env).length = n := by rfl) (hst : (assignEach es X.env).findIdx? (·.1) = none := by rfl) : QG X P (.Tuple es k pos) (dTupG n gs) :=
  PGmono (pg_tup hc h hn hst) fun v σ H Q ⟨F, d, δ, G, Q', R, r, S, q, k⟩ => by
    replace q := optQ_ex q
    obtain ⟨ds, hz, q⟩ := q
    have ed := tupOf_eq hz
    subst ed
    obtain ⟨a, xs, e1, r1, r2⟩ := r
    exact ⟨a, xs, e1, r1, by rw [r2.len]; exact q.1, F, ds, δ, G, Q', R, r2, S, q.2, k⟩
/-- o[i] = v, a list -/
def setD (o i : D) (v : D) (G : Gp) : Option Gp := match o, i with
  | .ref p, .int k => (lstOf (G p)).bind fun ds => (ixN ds.length k).map fun j => updG G p (.lst (ds.set j v))
  | _, _ => none
def dSubL (to ti : DTE) : DTG := fun v δ G Q => to δ G fun o G1 => ti δ G1 fun i G2 => optQ (setD o i v G2) fun G3 => Q δ G3
theorem qg_subL {to ti : DTE} (ho : QE X a to) (hi : QE X b ti)
    (ha : ∀ v, assign (.Subscript a b pos) X.env v = (do let o ← holding [v] (eval a X.env); let i ← holding [v, o] (eval b X.env); standAt pos; holding [v, o, i] (setItem o i v); release [v, o, i] []) := by intro _; rfl) : QG X Pany (.Subscript a b pos) (dSubL to ti) :=
  PGmono (pg_sub ho hi set_list ha) fun v σ H Q ⟨F, d, δ, G, Q', R, r, S, q, k⟩ => by
    refine ⟨F, δ, G, _, R, S, q, fun w H1 ⟨o, F1, G1, k1, R1, p1, q1⟩ => ?_⟩
    have S1 := S.mono R k1
    refine ⟨F1, δ, G1, _, R1, S1, q1, fun x H2 ⟨i, F2, G2, k2, R2, p2, q2⟩ => ?_⟩
    have S2 := S1.mono R1 k2
    have r2 := Rep.mono R1 k2 d v (Rep.mono R k1 d v r)
    replace q2 := optQ_ex q2
    obtain ⟨G3, hz, q2⟩ := q2
    cases o with
    | ref p =>
      cases i with
      | int z =>
        cases p1
        cases p2
        simp only [setD] at hz
        cases el : lstOf (G2 p) with
        | none => rw [el] at hz; cases hz
        | some ds =>
          rw [el] at hz
          simp only [Option.bind] at hz
          cases ej : ixN ds.length z with
          | none => rw [ej] at hz; cases hz
          | some j =>
            rw [ej] at hz
            cases hz
            have eg := lstOf_eq el
            obtain ⟨xs, h1, h2⟩ := R2.obj p _ eg
            refine ⟨p, xs, z, j, rfl, rfl, h1, by rw [h2.len]; exact ej, ?_⟩
            have kk := keep_set (F := F2) (H := H2) (o := .lst (xs.set j v)) (m' := .lst (ds.set j d)) eg
            refine k _ _ trivial ⟨δ, F2, _, (k1.trans k2).trans kk, rel_set R2 eg ⟨_, upd_same, RepL.mono R2 kk _ _ (h2.set j r2)⟩, S2.mono R2 kk, q2⟩
      | _ => cases hz
    | _ => cases hz

/-! ### statements -/
variable {st : Stmt} {sts : List Stmt} {ts us : DTS} {g : DTG}
def dNext : DTS := fun E δ G => E.nx δ G
def dSeq (t u : DTS) : DTS := fun E δ G => t { E with nx := u E } δ G
theorem up_nx {D' : DEnds} {D : Ends} {δ : DS} {σ : L2.St} (R : Rel K F H G) (S : RepS K F H δ σ) (E : EndsUp K F H G D' D) (q : D'.nx δ G) : D.nx σ H := E.nx σ H ⟨δ, F, G, .refl, R, S, q⟩
theorem qss_nil : QSs X [] dNext := PSsmono pss_nil fun D σ H ⟨F, δ, G, D', R, S, q, E⟩ => up_nx R S E q
theorem qss_cons (h1 : QS X st ts) (h2 : QSs X sts us) : QSs X (st :: sts) (dSeq ts us) := PSsmono (pss_cons h1 h2) fun D σ H ⟨F, δ, G, D', R, S, q, E⟩ =>
  ⟨F, δ, G, _, R, S, q, ⟨fun σ1 H1 ⟨δ1, F1, G1, k1, R1, S1, q1⟩ => ⟨F1, δ1, G1, D', R1, S1, q1, E.step k1⟩, E.rt, E.bk, E.ct⟩⟩
theorem qss_one (h1 : QS X st ts) : QSs X [st] ts := pss_one h1
def dBreak : DTS := fun E δ G => E.bk δ G
def dCont : DTS := fun E δ G => E.ct δ G
theorem qs_pass : QS X (.Pass pos) dNext := PSmono ps_pass fun D σ H ⟨F, δ, G, D', R, S, q, E⟩ => up_nx R S E q
theorem qs_brk : QS X (.Break pos) dBreak := PSmono ps_break fun D σ H ⟨F, δ, G, D', R, S, q, E⟩ => E.bk σ H ⟨δ, F, G, .refl, R, S, q⟩
theorem qs_cnt : QS X (.Continue pos) dCont := PSmono ps_continue fun D σ H ⟨F, δ, G, D', R, S, q, E⟩ => E.ct σ H ⟨δ, F, G, .refl, R, S, q⟩
def dDrop (te : DTE) : DTS := fun E δ G => te δ G fun _ G1 => E.nx δ G1
theorem qs_expr (he : QE X e te) (hs : swapsWith e none pos.line X.env = pure false := by rfl) : QS X (.Expr e pos) (dDrop te) := PSmono (ps_expr he hs) fun D σ H ⟨F, δ, G, D', R, S, q, E⟩ =>
  ⟨F, δ, G, _, R, S, q, fun v H1 ⟨d, F1, G1, k1, R1, p1, q1⟩ => up_nx R1 (S.mono R k1) (E.step k1) q1⟩
def dRet (te : DTE) : DTS := fun E δ G => te δ G E.rt
theorem qs_ret (he : QE X e te) : QS X (.Return (some e) pos) (dRet te) := PSmono (ps_ret he) fun D σ H ⟨F, δ, G, D', R, S, q, E⟩ => ⟨F, δ, G, _, R, S, q, E.rt⟩
def dRetN : DTS := fun E _ G => E.rt .non G
theorem qs_retN : QS X (.Return none pos) dRetN := PSmono ps_retN fun D σ H ⟨F, δ, G, D', R, S, q, E⟩ => E.rt _ _ (.here (d := .non) R rfl q)
def dIfS (c : DTT) (t u : DTS) : DTS := fun E δ G => c δ G fun b G1 => dCond b (t E δ G1) (u E δ G1)
theorem qs_if {sa sb : List Stmt} (hc : QT X c t) (ha : QSs X sa ts) (hb : QSs X sb us) : QS X (.If c sa sb pos) (dIfS t ts us) := PSmono (ps_if hc ha hb) fun D σ H ⟨F, δ, G, D', R, S, q, E⟩ => by
  refine ⟨F, δ, G, _, R, S, q, fun b H1 ⟨F1, G1, k1, R1, q1⟩ => ?_⟩
  cases b with
  | true => exact ⟨F1, δ, G1, D', R1, S.mono R k1, q1, E.step k1⟩
  | false => exact ⟨F1, δ, G1, D', R1, S.mono R k1, q1, E.step k1⟩
def dAsg (te : DTE) (g : DTG) : DTS := fun E δ G => te δ G fun x G1 => g x δ G1 E.nx
theorem qs_asg (he : QE X e te) (hg : QG X Pany tg g) (hs : swapsWithSole [tg] e pos.line X.env = pure false := by rfl) (hw : swappedStores [tg] e X.env = pure none := by rfl)
    (h1 : (assignEach [tg] X.env).map (·.2) = [assign tg X.env] := by rfl) : QS X (.Assign [tg] e pos) (dAsg te g) := PSmono (ps_asg he hg hs hw h1) fun D σ H ⟨F, δ, G, D', R, S, q, E⟩ =>
  ⟨F, δ, G, _, R, S, q, fun v H1 ⟨d, F1, G1, k1, R1, p1, q1⟩ => ⟨F1, d, δ, G1, _, R1, p1, S.mono R k1, q1, fun σ' H' _ h => (E.step k1).nx σ' H' h⟩⟩
theorem upSet {i : Nat} {D : Ends} {σ : L2.St} {H : Hp} {t0 : TE} (l : ∀ σ H Q, up K te σ H Q → t0 σ H Q) (h : upS K (dAsg te (dName i)) D σ H) : tAsg t0 (gName i) D σ H := by
  obtain ⟨F, δ, G, D', R, S, q, E⟩ := h
  exact l _ _ _ ⟨F, δ, G, _, R, S, q, fun v H1 ⟨d, F1, G1, k1, R1, p1, q1⟩ => (E.step k1).nx _ _ ⟨setS δ i (some d), F1, G1, .refl, R1, (S.mono R k1).set i p1, q1⟩⟩
theorem qs_set {i : Nat} {x : Str} {pos' : Pos} (hN : X.N.Nodup) (he : QE X e te) (hi : X.N[i]? = some x := by rfl) (hx : Loc X.env.scope x := by first | exact Or.inl rfl | exact Or.inr rfl) (hs : swapsWith e (some (.Name x pos')) pos.line X.env = pure false := by rfl) (hf : X.fn x = true ∨ X.env.scope.names.lookup x = some .local := by first | exact .inl rfl | exact .inr rfl) :
    QS X (.Assign [.Name x pos'] e pos) (dAsg te (dName i)) := PSmono (ps_set hN hi hx he hs hf) fun D σ H h => upSet (fun _ _ _ h => h) h
/-- name op= e -/
def dAug (i : Nat) (te : DTE) (r : R2d) : DTS := fun E δ G => optQ (getS δ i) fun x => te δ G fun y G1 => r x y G1 fun z G2 => E.nx (setS δ i (some z)) G2
theorem qs_aug {i : Nat} {x : Str} {op : Operator} {r0 : R2} {r : R2d} {pos' : Pos} (hN : X.N.Nodup) (ho : PIp X op r0) (l : Lift2 X.K r0 r) (he : QE X e te) (hi : X.N[i]? = some x := by rfl) (hx : Loc X.env.scope x := by first | exact Or.inl rfl | exact Or.inr rfl) (hf : X.fn x = true ∨ X.env.scope.names.lookup x = some .local := by first | exact .inl rfl | exact .inr rfl) :
    QS X (.AugAssign (.Name x pos') op e pos) (dAug i te r) := PSmono (ps_aug hN hi hx he ho hf) fun D σ H ⟨F, δ, G, D', R, S, q, E⟩ => by
  replace q := optQ_ex q
  obtain ⟨d, e1, q⟩ := q
  · obtain ⟨v, h1, h2⟩ := S.at' i d e1
    refine ⟨v, h1, F, δ, G, _, R, S, q, fun w H1 ⟨d2, F1, G1, k1, R1, p1, q1⟩ => ?_⟩
    refine l F1 H1 G1 d d2 v w _ _ R1 (Rep.mono R k1 d v h2) p1 q1 fun v' H' ⟨z, F2, G2, k2, R2, p2, q2⟩ => ?_
    exact (E.step (k1.trans k2)).nx _ _ ⟨_, F2, G2, .refl, R2, ((S.mono R k1).mono R1 k2).set i p2, q2⟩
theorem ip_addU : PIp X .Add (fun x y H Q => (rI0 (fun i j => .int (i + j))) x y H Q ∨ (∃ i j, x = .str i ∧ y = .str j ∧ i.length + j.length ≤ sizeLine ∧ Q (.str (i ++ j)) H)) := OpR.or iop_add iop_add_str
def dIAdd : D → D → Option D
  | .int i, .int j => some (.int (i + j))
  | .str x, .str y => if x.length + y.length ≤ sizeLine then some (.str (x ++ y)) else none
  | _, _ => none
theorem lift_iadd : Lift2 K (fun x y H Q => (rI0 (fun i j => .int (i + j))) x y H Q ∨ (∃ i j, x = .str i ∧ y = .str j ∧ i.length + j.length ≤ sizeLine ∧ Q (.str (i ++ j)) H)) (dPure2 dIAdd) := by
  intro F H G d e v u Q Q0 R rd re q k
  replace q := optQ_ex q
  obtain ⟨z, hz, q⟩ := q
  unfold dIAdd at hz
  split at hz
  · cases hz
    exact .inl ⟨_, _, rd, re, fin R k q rfl⟩
  · split at hz
    · rename_i hl
      cases hz
      exact .inr ⟨_, _, rd.1, re.1, hl, fin R k q ⟨rfl, sOk_app rd.2 re.2⟩⟩
    · cases hz
  · cases hz
theorem qs_aadd {i : Nat} {x : Str} {pos' : Pos} (hN : X.N.Nodup) (he : QE X e te) (hi : X.N[i]? = some x := by rfl) (hx : Loc X.env.scope x := by first | exact Or.inl rfl | exact Or.inr rfl) (hf : X.fn x = true ∨ X.env.scope.names.lookup x = some .local := by first | exact .inl rfl | exact .inr rfl) :
    QS X (.AugAssign (.Name x pos') .Add e pos) (dAug i te (dPure2 dIAdd)) := qs_aug hN ip_addU lift_iadd he hi hx hf
theorem ip_subU : PIp X .Sub (rI0 fun i j => .int (i - j)) := iop_sub
theorem qs_asub {i : Nat} {x : Str} {pos' : Pos} (hN : X.N.Nodup) (he : QE X e te) (hi : X.N[i]? = some x := by rfl) (hx : Loc X.env.scope x := by first | exact Or.inl rfl | exact Or.inr rfl) (hf : X.fn x = true ∨ X.env.scope.names.lookup x = some .local := by first | exact .inl rfl | exact .inr rfl) :
    QS X (.AugAssign (.Name x pos') .Sub e pos) (dAug i te (dPure2 dSub)) := qs_aug hN ip_subU lift_sub he hi hx hf

/-! ### xs.append(e) -/
def dApp (to te : DTE) : DTE := fun δ G Q => to δ G fun o G1 => optQ (refOf o) fun p => optQ (lstOf (G1 p)) fun _ => te δ G1 fun y G2 => optQ (lstOf (G2 p)) fun ds => ds.length < sizeLine ∧ Q .non (updG G2 p (.lst (ds ++ [y])))
theorem upApp {to : DTE} {σ : L2.St} {Q : VK} (h : up K (dApp to te) σ H Q) : tBM K "list" rAppend (up K to) (tCons (up K te) tNil) σ H Q := by
  obtain ⟨F, δ, G, Q', R, S, q, k⟩ := h
  refine ⟨F, δ, G, _, R, S, q, fun v H1 ⟨o, F1, G1, k1, R1, p1, q1⟩ => ?_⟩
  replace q1 := optQ_ex q1
  obtain ⟨p, ep, q1⟩ := q1
  replace q1 := optQ_ex q1
  obtain ⟨es, el, q1⟩ := q1
  have eo := refOf_eq ep
  subst eo
  cases p1
  have eg := lstOf_eq el
  obtain ⟨xs, h1, h2⟩ := R1.obj p _ eg
  refine ⟨.inl ⟨rfl, _, .of h1⟩, F1, δ, G1, _, R1, S.mono R k1, q1, fun w H2 ⟨d, F2, G2, k2, R2, p2, q2⟩ => ?_⟩
  replace q2 := optQ_ex q2
  obtain ⟨ds, el2, q2⟩ := q2
  have eg2 := lstOf_eq el2
  obtain ⟨ys, g1, g2⟩ := R2.obj p _ eg2
  refine ⟨p, ys, w, rfl, rfl, g1, by rw [g2.len]; exact q2.1, ?_⟩
  have kk := keep_set (F := F2) (H := H2) (o := .lst (ys ++ [w])) (m' := .lst (ds ++ [d])) eg2
  exact k _ _ ⟨.non, F2, _, (k1.trans k2).trans kk, rel_set R2 eg2 ⟨_, upd_same, RepL.mono R2 kk _ _ (g2.app (.one p2))⟩, rfl, q2.2⟩
theorem q_app {apos cpos : Pos} {to : DTE} (ho : QE X a to) (he : QE X e te)
    (hbase : attributeBase a "append" X.env (eval a X.env) = eval a X.env := by rfl)
    (hline : (apos.endLine == cpos.line) = true := by rfl) (hs : starEach [e] X.env = (false, eval e X.env) :: starEach [] X.env := by rfl)
    (hfew : ((backTo cpos (starEach [e] X.env)).all (fun x => !x.1) && (backToKw cpos (keywordEach [] X.env)).all (fun x => x.1.isSome)
      && decide ([e].length + ([] : List Keyword).length + (if ([] : List Keyword).isEmpty then 0 else 1) < 30)) = true := by rfl) : QE X (.Call (.Attribute a "append" apos) [e] [] cpos) (dApp to te) :=
  PEmono (pe_bm PySem.F.plainAttrs_list PySem.F.slot_list_append PySem.F.type_list_append mt_append ho (pa_cons he pa_nil hs) hbase hfew hline hs) fun _ _ _ h => upApp h

/-! ### what is walked -/
abbrev DTI := DS → Gp → (List D → (Gp → Prop) → Gp → Prop) → Prop
def Walked (K : PySem.W.Frag) (J : It) (F0 : Fr) (H0 : Hp) (G0 : Gp) (ds : List D) (S : Gp → Prop) : Prop :=
  ∀ F1 H1 G1, Keep F0 H0 G0 F1 H1 G1 → Rel K F1 H1 G1 → S G1 → (∀ i, ds.length ≤ i → J.stop i H1) ∧
    ∀ i d, ds[i]? = some d → J.go i H1 ∧ ∀ x H2, J.yld i H1 x H2 → ∃ F2, Keep F1 H1 G1 F2 H2 G1 ∧ Rel K F2 H2 G1 ∧ Rep K F2 H2 d x
def upI (K : PySem.W.Frag) (t : DTI) : TI := fun σ H R0 => ∃ F δ G Q, Rel K F H G ∧ RepS K F H δ σ ∧ t δ G Q ∧ ∀ ds S J F' H' G', Keep F H G F' H' G' → Rel K F' H' G' → Walked K J F' H' G' ds S → Q ds S G' → R0 J H'
def QI (X : Cx) (tg e : Expr) (t : DTI) : Prop := PI X tg e (upI X.K t)
theorem PImono {t t' : TI} (h : PI X tg e t) (i : ∀ σ H R, t' σ H R → t σ H R) : PI X tg e t' := ⟨fun pins s σ H R I q => h.run pins s σ H R I (i _ _ _ q)⟩
/-- a list, a tuple, a text -/
def iAny (K : PySem.W.Frag) (tl : TE) : TI := fun σ H R => tl σ H fun x H1 => (∃ a, x = .ref a ∧ (∃ xs, SqL K H1 a xs) ∧ R (Itl K a) H1) ∨ (∃ a, x = .ref a ∧ (∃ xs, SqT K H1 a xs) ∧ R (Itt K a) H1) ∨ ∃ z, x = .str z ∧ R (Its z) H1
theorem pi_any {l : Expr} {tl : TE} (hl : PE X l tl) : PI X tg l (iAny X.K tl) := ⟨fun pins s σ H R I h => thn (hl.run pins s σ H _ I h) fun v s1 ⟨x, H1, I1, r1, q1⟩ => by
  have new : ∀ {o : Obj}, o.isFreed = false → (s1.heap.push o).get? s1.heap.objs.size = some o := fun h => Heap.get?_push_size _ h
  rcases q1 with ⟨a, rfl, ⟨xs, hq⟩, q⟩ | ⟨a, rfl, ⟨xs, hq⟩, q⟩ | ⟨z, rfl, q⟩
  · cases r1
    obtain ⟨us, _, pl, _⟩ := I1.list hq
    exact wpAny_pyIter_list pl.isList (pi_one (tk := s1.toks) I1 _ (turn_list a _) ⟨_, new rfl, rfl, rfl⟩ q)
  · cases r1
    obtain ⟨us, _, pt, _⟩ := I1.tuple hq
    exact wpAny_pyIter_tuple (items := us.toArray) pt (pi_one (tk := s1.toks) I1 _ (turn_tuple a _) ⟨_, new rfl, rfl, rfl⟩ q)
  · obtain ⟨t, rfl⟩ := r1
    by_cases hz : z.cps.all (· < 128) = true
    · exact wpAny_pyIter_ascii hz (pi_one (tk := s1.toks) I1 _ (turn_str _ z t _ (.inl rfl)) ⟨_, new rfl, rfl, rfl⟩ q)
    · exact wpAny_pyIter_wide (Bool.eq_false_iff.mpr hz) (pi_one (tk := s1.toks) I1 _ (turn_str _ z t _ (.inr rfl)) ⟨_, new rfl, rfl, rfl⟩ q)⟩
theorem walked_l {F0 : Fr} {H0 : Hp} {G0 : Gp} {a : Addr} {ds : List D} {S : Gp → Prop} (h : ∀ F1 H1 G1, Keep F0 H0 G0 F1 H1 G1 → Rel K F1 H1 G1 → S G1 → ∃ ys, SqL K H1 a ys ∧ RepL K F1 H1 ds ys) : Walked K (Itl K a) F0 H0 G0 ds S := by
  intro F1 H1 G1 k R s
  obtain ⟨ys, hs, hr⟩ := h F1 H1 G1 k R s
  refine ⟨fun i hi => ⟨ys, hs, by rw [hr.len]; exact hi⟩, fun i d e => ?_⟩
  obtain ⟨v, e1, r⟩ := hr.get e
  refine ⟨⟨ys, v, hs, e1⟩, fun x H2 y => ?_⟩
  obtain ⟨rfl, y⟩ := y
  have := (y ys hs).symm.trans e1
  cases this
  exact ⟨F1, .refl, R, r⟩
theorem walked_t {F0 : Fr} {H0 : Hp} {G0 : Gp} {a : Addr} {ds : List D} {S : Gp → Prop} (h : ∀ F1 H1 G1, Keep F0 H0 G0 F1 H1 G1 → Rel K F1 H1 G1 → S G1 → ∃ ys, SqT K H1 a ys ∧ RepL K F1 H1 ds ys) : Walked K (Itt K a) F0 H0 G0 ds S := by
  intro F1 H1 G1 k R s
  obtain ⟨ys, hs, hr⟩ := h F1 H1 G1 k R s
  refine ⟨fun i hi => ⟨ys, hs, by rw [hr.len]; exact hi⟩, fun i d e => ?_⟩
  obtain ⟨v, e1, r⟩ := hr.get e
  refine ⟨⟨ys, v, hs, e1⟩, fun x H2 y => ?_⟩
  obtain ⟨rfl, y⟩ := y
  have := (y ys hs).symm.trans e1
  cases this
  exact ⟨F1, .refl, R, r⟩
/-- a text, sign by sign -/
def charsD (z : Str) : List D := z.cps.toList.map fun c => .str ⟨#[c]⟩
theorem walked_s {F0 : Fr} {H0 : Hp} {G0 : Gp} {z : Str} (hz : sOk z = true) : Walked K (Its z) F0 H0 G0 (charsD z) (fun _ => True) := by
  intro F2 H2 G2 k2 R2 _
  have hl : (charsD z).length = z.cps.size := by unfold charsD; rw [List.length_map, Array.length_toList]
  refine ⟨fun i hi => by rw [hl] at hi; exact hi, fun i d e => ?_⟩
  have hi : i < z.cps.size := by
    have := (List.getElem?_eq_some_iff.mp e).1
    rw [hl] at this
    exact this
  refine ⟨hi, fun x H3 y => ?_⟩
  obtain ⟨rfl, c, hc, rfl⟩ := y
  refine ⟨F2, .refl, R2, ?_⟩
  unfold charsD at e
  rw [List.getElem?_map, Array.getElem?_toList, hc] at e
  cases e
  refine ⟨rfl, ?_⟩
  unfold sOk at hz ⊢
  rw [← Array.all_toList, List.all_eq_true] at hz
  have := hz c (List.mem_of_getElem? (by rw [Array.getElem?_toList]; exact hc))
  simpa using this
/-- for x in e: e a tuple, a list, a text; a mutable list stays as it is meanwhile -/
def itD : D → Gp → Option (List D × Option Addr)
  | .tup ds, _ => some (ds, none)
  | .lv ds, _ => some (ds, none)
  | .rl ds, _ => some (ds, none)
  | .ref a, G => (lstOf (G a)).map fun ds => (ds, some a)
  | .str z, _ => some (charsD z, none)
  | _, _ => none
def stabS : List D × Option Addr → Gp → Prop
  | (_, none), _ => True
  | (ds, some a), G => G a = some (.lst ds)
def dIt (te : DTE) : DTI := fun δ G Q => te δ G fun x G1 => optQ (itD x G1) fun r => Q r.1 (stabS r) G1
theorem qi (he : QE X e te) : QI X tg e (dIt te) := PImono (pi_any he) fun σ H R0 ⟨F, δ, G, Q, R, S, q, k⟩ => by
  refine ⟨F, δ, G, _, R, S, q, fun v H1 ⟨d, F1, G1, k1, R1, p1, q1⟩ => ?_⟩
  replace q1 := optQ_ex q1
  obtain ⟨r, hr0, q1⟩ := q1
  cases d with
  | tup ds =>
    cases hr0
    obtain ⟨a, xs, rfl, hs, hr⟩ := p1
    refine .inr (.inl ⟨a, rfl, ⟨xs, hs⟩, k ds _ _ F1 H1 G1 k1 R1 (walked_t fun F2 H2 G2 k2 R2 _ => ⟨xs, k2.sqT R1 hs, RepL.mono R1 k2 _ _ hr⟩) q1⟩)
  | lv ds =>
    cases hr0
    obtain ⟨a, xs, rfl, hs, hr⟩ := p1
    refine .inl ⟨a, rfl, ⟨xs, .of hs.2⟩, k ds _ _ F1 H1 G1 k1 R1 (walked_l fun F2 H2 G2 k2 R2 _ => ⟨xs, .of ((k2.stay R1).lst a xs hs.1 hs.2).2, RepL.mono R1 k2 _ _ hr⟩) q1⟩
  | rl ds =>
    cases hr0
    obtain ⟨a, xs, rfl, hs, hr⟩ := p1
    have sq : ∀ F2 H2 G2, Keep F1 H1 G1 F2 H2 G2 → SqL X.K H2 a xs := fun F2 H2 G2 k2 => by
      rcases hs with ⟨o, hs⟩ | hs
      · exact .inl (.inr ⟨o, (k2.stay R1).frz a o xs hs⟩)
      · exact .inr hs
    refine .inl ⟨a, rfl, ⟨xs, sq _ _ _ .refl⟩, k ds _ _ F1 H1 G1 k1 R1 (walked_l fun F2 H2 G2 k2 R2 _ => ⟨xs, sq _ _ _ k2, RepL.mono R1 k2 _ _ hr⟩) q1⟩
  | ref a =>
    cases p1
    simp only [itD] at hr0
    cases el : lstOf (G1 a) with
    | none => rw [el] at hr0; cases hr0
    | some ds =>
      rw [el] at hr0
      cases hr0
      obtain ⟨xs, h1, h2⟩ := R1.obj a _ (lstOf_eq el)
      refine .inl ⟨a, rfl, ⟨xs, .of h1⟩, k ds _ _ F1 H1 G1 k1 R1 (walked_l fun F2 H2 G2 k2 R2 s => ?_) q1⟩
      obtain ⟨ys, g1, g2⟩ := R2.obj a _ s
      exact ⟨ys, .of g1, g2⟩
  | str z =>
    cases hr0
    obtain ⟨p1, hz⟩ := p1
    cases p1
    exact .inr (.inr ⟨z, rfl, k (charsD z) _ _ F1 H1 G1 k1 R1 (fun F2 H2 G2 k2 R2 _ => walked_s hz F2 H2 G2 k2 R2 trivial) q1⟩)
  | _ => cases hr0
def rangeD (lo : Int) (n : Nat) : List D := (List.range n).map fun i => .int (lo + (i : Nat))
theorem walked_r {F0 : Fr} {H0 : Hp} {G0 : Gp} {lo : Int} {n : Nat} : Walked K (Itr lo n) F0 H0 G0 (rangeD lo n) (fun _ => True) := by
  intro F1 H1 G1 k R s
  have hl : (rangeD lo n).length = n := by unfold rangeD; rw [List.length_map, List.length_range]
  refine ⟨fun i hi => by rw [hl] at hi; exact hi, fun i d e => ?_⟩
  have hi : i < n := by
    have := (List.getElem?_eq_some_iff.mp e).1
    rw [hl] at this
    exact this
  refine ⟨hi, fun x H2 y => ?_⟩
  obtain ⟨rfl, rfl⟩ := y
  refine ⟨F1, .refl, R, ?_⟩
  unfold rangeD at e
  rw [List.getElem?_map, List.getElem?_range hi] at e
  cases e
  rfl
def int1 : List D → Option Int
  | [.int i] => some i
  | _ => none
def int2 : List D → Option (Int × Int)
  | [.int i, .int j] => some (i, j)
  | _ => none
theorem int1_eq {ds : List D} {i : Int} (h : int1 ds = some i) : ds = [.int i] := by
  unfold int1 at h
  split at h
  · cases h; rfl
  · cases h
theorem int2_eq {ds : List D} {p : Int × Int} (h : int2 ds = some p) : ds = [.int p.1, .int p.2] := by
  unfold int2 at h
  split at h
  · cases h; rfl
  · cases h
def dRng1 (tr : DTA) : DTI := fun δ G Q => tr δ G fun ds G1 => optQ (int1 ds) fun j => -(2 ^ 62) ≤ j ∧ j < 2 ^ 62 ∧ Q (rangeD 0 j.toNat) (fun _ => True) G1
def dRng2 (tr : DTA) : DTI := fun δ G Q => tr δ G fun ds G1 => optQ (int2 ds) fun p => (-(2 ^ 62) ≤ p.1 ∧ p.1 < 2 ^ 62 ∧ -(2 ^ 62) ≤ p.2 ∧ p.2 < 2 ^ 62) ∧ Q (rangeD p.1 (p.2 - p.1).toNat) (fun _ => True) G1
theorem qi_range1 {p : Pos} (hg : Gl X "range") (hm : X.mg "range" = none) (ha : QA X [a] tr) (hs : starEach [a] X.env = [(false, eval a X.env)] := by rfl) : QI X tg (.Call (.Name "range" p) [a] [] pos) (dRng1 tr) :=
  PImono (pi_range1 hg hm ha hs) fun σ H R0 ⟨F, δ, G, Q, R, S, q, k⟩ => by
    refine ⟨F, δ, G, _, R, S, q, fun vs H1 ⟨ds, F1, G1, k1, R1, p1, q1⟩ => ?_⟩
    replace q1 := optQ_ex q1
    obtain ⟨j, ej, q1⟩ := q1
    have e1 := int1_eq ej
    subst e1
    · obtain ⟨v, rfl, r⟩ := rl1 p1
      cases r
      exact ⟨_, rfl, q1.1, q1.2.1, k _ _ _ F1 H1 G1 k1 R1 walked_r q1.2.2⟩
theorem qi_range2 {p : Pos} (hg : Gl X "range") (hm : X.mg "range" = none) (ha : QA X [a, b] tr) (hs : starEach [a, b] X.env = [(false, eval a X.env), (false, eval b X.env)] := by rfl) (hs2 : starEach [b] X.env = [(false, eval b X.env)] := by rfl) : QI X tg (.Call (.Name "range" p) [a, b] [] pos) (dRng2 tr) :=
  PImono (pi_range2 hg hm ha hs hs2) fun σ H R0 ⟨F, δ, G, Q, R, S, q, k⟩ => by
    refine ⟨F, δ, G, _, R, S, q, fun vs H1 ⟨ds, F1, G1, k1, R1, p1, q1⟩ => ?_⟩
    replace q1 := optQ_ex q1
    obtain ⟨j, ej, q1⟩ := q1
    have e1 := int2_eq ej
    subst e1
    · obtain ⟨v, v', rfl, r, r'⟩ := rl2 p1
      cases r
      cases r'
      exact ⟨_, _, rfl, q1.1, k _ _ _ F1 H1 G1 k1 R1 walked_r q1.2⟩
/-! ### for, while -/
def dLoop (S : Gp → Prop) (g : DTG) (tb : DTS) (E : DEnds) : List D → DS → Gp → Prop
  | [], δ, G => S G ∧ E.nx δ G
  | d :: r, δ, G => S G ∧ g d δ G fun δ1 G1 => tb { nx := dLoop S g tb E r, ct := dLoop S g tb E r, bk := E.nx, rt := E.rt } δ1 G1
def dFor (t : DTI) (g : DTG) (tb : DTS) : DTS := fun E δ G => t δ G fun ds S G1 => dLoop S g tb E ds δ G1
theorem qs_for {iter : Expr} {body : List Stmt} {wi : DTI} {tb : DTS} (hp : PassesOwn (model X.prog X.w) X.A X.env X.xe) (hc : X.calm = true) (hi : QI X tg iter wi) (hg : QG X Pany tg g) (hb : QSs X body tb)
    (hs : ∀ x, foldedSetIterable iter X.env x = pure x := by intro _; rfl) : QS X (.For tg iter body [] pos) (dFor wi g tb) := PSmono (ps_for hp hc hi hg hb hs) fun D σ H ⟨F, δ, G, D', R, S, q, E⟩ => by
  refine ⟨F, δ, G, _, R, S, q, fun ds Sb J F1 H1 G1 k1 R1 wk q1 => ?_⟩
  have S1 := S.mono R k1
  refine ⟨fun i m σ2 H2 => m = ds.length - i ∧ i ≤ ds.length ∧ ∃ F2 δ2 G2, Keep F1 H1 G1 F2 H2 G2 ∧ Rel X.K F2 H2 G2 ∧ RepS X.K F2 H2 δ2 σ2 ∧ dLoop Sb g tb D' (ds.drop i) δ2 G2,
    ⟨ds.length, by rw [Nat.sub_zero], Nat.zero_le _, F1, δ, G1, .refl, R1, S1, q1⟩, ?_⟩
  rintro i m σ2 H2 ⟨rfl, hi, F2, δ2, G2, k2, R2, S2, q2⟩
  by_cases hlt : i < ds.length
  · have ed : ds.drop i = ds[i] :: ds.drop (i + 1) := List.drop_eq_getElem_cons hlt
    rw [ed] at q2
    obtain ⟨s2, q2⟩ := q2
    obtain ⟨_, go⟩ := wk F2 H2 G2 k2 R2 s2
    obtain ⟨go, yl⟩ := go i ds[i] (List.getElem?_eq_getElem hlt)
    refine .inr ⟨go, fun σ' H' => ∃ F3 δ3 G3, Keep F1 H1 G1 F3 H' G3 ∧ Rel X.K F3 H' G3 ∧ RepS X.K F3 H' δ3 σ' ∧ dLoop Sb g tb D' (ds.drop (i + 1)) δ3 G3, fun σ' H' h => ⟨ds.length - (i + 1), by omega, rfl, hlt, h⟩, fun x H' y => ?_⟩
    obtain ⟨F3, k3, R3, r3⟩ := yl x H' y
    refine ⟨F3, ds[i], δ2, G2, _, R3, r3, S2.mono R2 k3, q2, fun σ4 H4 _ ⟨δ4, F4, G4, k4, R4, S4, q4⟩ => ?_⟩
    have kk := (k2.trans k3).trans k4
    refine ⟨F4, δ4, G4, _, R4, S4, q4, ?_⟩
    have back : ∀ σ' H', postS F4 X.K H4 G4 (dLoop Sb g tb D' (ds.drop (i + 1))) σ' H' → ∃ F3 δ3 G3, Keep F1 H1 G1 F3 H' G3 ∧ Rel X.K F3 H' G3 ∧ RepS X.K F3 H' δ3 σ' ∧ dLoop Sb g tb D' (ds.drop (i + 1)) δ3 G3 := fun σ' H' ⟨δ5, F5, G5, k5, R5, S5, q5⟩ => ⟨F5, δ5, G5, kk.trans k5, R5, S5, q5⟩
    have E4 := E.step (k1.trans kk)
    exact ⟨back, E4.rt, E4.nx, back⟩
  · have e : i = ds.length := by omega
    subst e
    rw [List.drop_length] at q2
    obtain ⟨s2, q2⟩ := q2
    obtain ⟨stop, _⟩ := wk F2 H2 G2 k2 R2 s2
    exact .inl ⟨stop _ (Nat.le_refl _), (E.step (k1.trans k2)).nx _ _ ⟨δ2, F2, G2, .refl, R2, S2, q2⟩⟩
/-- while: an invariant with its measure -/
def dWhile (c : DTT) (tb : DTS) : DTS := fun E δ G => ∃ W : Nat → DS → Gp → Prop, (∃ m, W m δ G) ∧ ∀ m δ G, W m δ G →
  c δ G fun b G1 => dCond b (tb { nx := fun δ' G' => ∃ m', m' < m ∧ W m' δ' G', ct := fun δ' G' => ∃ m', m' < m ∧ W m' δ' G', bk := E.nx, rt := E.rt } δ G1) (E.nx δ G1)
theorem qs_while {c : Expr} {body : List Stmt} {tc : DTT} {tb : DTS} (hp : PassesOwn (model X.prog X.w) X.A X.env X.xe) (hc : QT X c tc) (hb : QSs X body tb) : QS X (.While c body [] pos) (dWhile tc tb) := PSmono (ps_while hp hc hb) fun D σ H ⟨F, δ, G, D', R, S, ⟨W, ⟨m0, w0⟩, turn⟩, E⟩ => by
  refine ⟨fun m σ' H' => ∃ F1 δ1 G1, Keep F H G F1 H' G1 ∧ Rel X.K F1 H' G1 ∧ RepS X.K F1 H' δ1 σ' ∧ W m δ1 G1, ⟨m0, F, δ, G, .refl, R, S, w0⟩, ?_⟩
  rintro m σ1 H1 ⟨F1, δ1, G1, k1, R1, S1, w1⟩
  refine ⟨F1, δ1, G1, _, R1, S1, turn m δ1 G1 w1, fun b H2 ⟨F2, G2, k2, R2, q2⟩ => ?_⟩
  have S2 := S1.mono R1 k2
  have kk := k1.trans k2
  have E2 := E.step kk
  cases b with
  | true =>
    refine iteT ?_
    refine ⟨fun σ' H' => ∃ m', m' < m ∧ ∃ F3 δ3 G3, Keep F H G F3 H' G3 ∧ Rel X.K F3 H' G3 ∧ RepS X.K F3 H' δ3 σ' ∧ W m' δ3 G3, fun σ' H' ⟨m', hm, h⟩ => ⟨m', hm, h⟩, F2, δ1, G2, _, R2, S2, q2, ?_⟩
    have back : ∀ σ' H', postS F2 X.K H2 G2 (fun δ' G' => ∃ m', m' < m ∧ W m' δ' G') σ' H' → ∃ m', m' < m ∧ ∃ F3 δ3 G3, Keep F H G F3 H' G3 ∧ Rel X.K F3 H' G3 ∧ RepS X.K F3 H' δ3 σ' ∧ W m' δ3 G3 := fun σ' H' ⟨δ5, F5, G5, k5, R5, S5, m', hm, q5⟩ => ⟨m', hm, F5, δ5, G5, kk.trans k5, R5, S5, q5⟩
    exact ⟨back, E2.rt, E2.nx, back⟩
  | false =>
    refine iteF ?_
    exact E2.nx _ _ ⟨δ1, F2, G2, .refl, R2, S2, q2⟩
end
end DL
set_option Elab.async false
set_option linter.all false
set_option maxRecDepth 100000
set_option maxHeartbeats 4000000
namespace DL
open PySem PySem.Spec PyProof.Rows L2
section
variable {X : Cx} {K : PySem.W.Frag} {F F' : Fr} {H H' : Hp} {G G' : Gp} {a b c e tg : Expr} {es rest : List Expr} {ta tb tc te : DTE} {t u : DTT} {tr : DTA} {pos : Pos}
/-! ### comprehensions -/
def QTs (X : Cx) (ifs : List Expr) (t : DTT) : Prop := PTs X ifs (upT X.K t)
theorem PTsmono {ifs : List Expr} {t t' : TT} (h : PTs X ifs t) (i : ∀ σ H Q, t' σ H Q → t σ H Q) : PTs X ifs t' := ⟨fun pins s σ H Q I q => h.run pins s σ H Q I (i _ _ _ q)⟩
def dYes : DTT := fun _ G Q => Q true G
theorem qts_nil : QTs X [] dYes := PTsmono pts_nil fun σ H Q ⟨F, δ, G, Q', R, S, q, k⟩ => k true H ⟨F, G, .refl, R, q⟩
theorem qts_one (h : QT X c t) : QTs X [c] t := pts_one h
def dComp (S : Gp → Prop) (g : DTG) (tt : DTT) (te : DTE) (δ : DS) (Q : List D → Gp → Prop) : List D → List D → Gp → Prop
  | [], acc, G => S G ∧ Q acc G
  | d :: r, acc, G => S G ∧ g d δ G fun δ1 G1 => tt δ1 G1 fun b G2 => dCond b (te δ1 G2 fun y G3 => acc.length < sizeLine ∧ dComp S g tt te δ Q r (acc ++ [y]) G3) (dComp S g tt te δ Q r acc G2)
def dLc (wi : DTI) (g : DTG) (tt : DTT) (te : DTE) (vs : List Nat) : DTE := fun δ G Q => wi δ G fun ds S G1 => dComp S g tt te (wipeS δ vs) (fun acc G2 => Q (.lv acc) G2) ds [] G1
theorem upLc {wi : DTI} {g : DTG} {vs : List Nat} {σ : L2.St} {Q : VK} (h : up K (dLc wi g t te vs) σ H Q) : tLc (upI K wi) (upG K (Pw vs) g) (upT K t) (up K te) vs σ H Q := by
  obtain ⟨F, δ, G, Q', R, S, q, k⟩ := h
  refine ⟨F, δ, G, _, R, S, q, fun ds Sb J F1 H1 G1 k1 R1 wk q1 => ?_⟩
  intro D hD
  have S1 := (S.mono R k1).wipe vs
  have gD : G1 D = none := R1.off0 hD
  have fD : ¬ F1 D := fun f => R1.al D f hD
  refine ⟨fun i m H2 => m = ds.length - i ∧ i ≤ ds.length ∧ ∃ F2 G2 acc xs, Keep F1 H1 G1 F2 H2 G2 ∧ Rel K F2 H2 G2 ∧ RepS K F2 H2 (wipeS δ vs) (wipe σ vs) ∧ G2 D = none ∧ ¬ F2 D ∧ H2 D = some (.lst xs) ∧ RepL K F2 H2 acc xs ∧
      dComp Sb g t te (wipeS δ vs) (fun acc G2 => Q' (.lv acc) G2) (ds.drop i) acc G2,
    ⟨ds.length, by rw [Nat.sub_zero], Nat.zero_le _, F1, G1, [], [], keep_new R1 hD, rel_new R1 hD, S1.mono R1 (keep_new R1 hD), gD, fD, upd_same, rfl, q1⟩, ?_⟩
  rintro i m H2 ⟨rfl, hi, F2, G2, acc, xs, k2, R2, S2, g2, f2, hD2, ra, q2⟩
  by_cases hlt : i < ds.length
  · have ed : ds.drop i = ds[i] :: ds.drop (i + 1) := List.drop_eq_getElem_cons hlt
    rw [ed] at q2
    obtain ⟨s2, q2⟩ := q2
    obtain ⟨_, go⟩ := wk F2 H2 G2 k2 R2 s2
    obtain ⟨go, yl⟩ := go i ds[i] (List.getElem?_eq_getElem hlt)
    refine .inr ⟨go, fun H' => ∃ F3 G3 acc xs, Keep F1 H1 G1 F3 H' G3 ∧ Rel K F3 H' G3 ∧ RepS K F3 H' (wipeS δ vs) (wipe σ vs) ∧ G3 D = none ∧ ¬ F3 D ∧ H' D = some (.lst xs) ∧ RepL K F3 H' acc xs ∧
      dComp Sb g t te (wipeS δ vs) (fun acc G2 => Q' (.lv acc) G2) (ds.drop (i + 1)) acc G3, fun H' h => ⟨ds.length - (i + 1), by omega, rfl, hlt, h⟩, fun x H' y => ?_⟩
    obtain ⟨F3, k3, R3, r3⟩ := yl x H' y
    refine ⟨F3, ds[i], wipeS δ vs, G2, _, R3, r3, S2.mono R2 k3, q2, fun σ4 H4 p4 ⟨δ4, F4, G4, k4, R4, S4, q4⟩ => ?_⟩
    refine ⟨?_, F4, δ4, G4, _, R4, S4, q4, fun b H5 ⟨F5, G5, k5, R5, q5⟩ => ?_⟩
    · have w : wipe (wipe σ vs) vs = wipe σ vs := by
        have : ∀ (us : List Nat) (τ : L2.St), (∀ j ∈ us, τ[j]? = some none ∨ τ.length ≤ j) → wipe τ us = τ := by
          intro us
          induction us with
          | nil => intro τ _; rfl
          | cons j us ih =>
            intro τ h
            unfold wipe
            rw [ih τ fun j' h' => h j' (List.mem_cons_of_mem _ h')]
            rcases h j List.mem_cons_self with e | e
            · apply List.ext_getElem?
              intro n
              by_cases z : j = n
              · subst z
                have hl : j < τ.length := (List.getElem?_eq_some_iff.mp e).1
                rw [List.getElem?_set_self hl, e]
              · rw [List.getElem?_set_ne z]
            · exact List.set_eq_of_length_le e
        refine this vs _ fun j hj => ?_
        by_cases hl : j < (wipe σ vs).length
        · cases e : (wipe σ vs)[j]? with
          | none => rw [List.getElem?_eq_none_iff] at e; exact .inr e
          | some o =>
            cases o with
            | none => exact .inl rfl
            | some v => exact absurd hj (wipe_some e).2
        · exact .inr (by omega)
      rw [p4, w]
    · have kk := ((k2.trans k3).trans k4).trans k5
      have k25 := (k3.trans k4).trans k5
      cases b with
      | true =>
        refine iteT ?_
        refine ⟨F5, δ4, G5, _, R5, S4.mono R4 k5, q5, fun v H6 ⟨d, F6, G6, k6, R6, p6, hl, q6⟩ => ?_⟩
        have k26 := k25.trans k6
        obtain ⟨h6, g6, f6⟩ := k26.k D _ g2 hD2
        have nf : ¬ F6 D := fun z => f2 (f6.mp z)
        have ra6 := RepL.mono R2 k26 _ _ ra
        have st := stay_hid (F := F6) (o := .lst (xs ++ [v])) h6 nf
        have k16 := kk.trans k6
        refine ⟨xs, h6, by rw [ra.len]; exact hl, F6, G6, acc ++ [d], xs ++ [v], ⟨fun a u ga ha => ?_⟩, rel_hid R6 h6 nf g6, ?_, g6, nf, upd_same, (RepL.stay st _ _ ra6).app (.one (Rep.stay st _ _ p6)), q6⟩
        · obtain ⟨a1, a2, a3⟩ := k16.k a u ga ha
          refine ⟨by rw [upd_ne (fun z => by subst z; rw [hD] at ha; cases ha)]; exact a1, a2, a3⟩
        · have s6 := S2.mono R2 k26
          exact ⟨s6.len, fun j d' ej => by obtain ⟨v', e1, e2⟩ := s6.at' j d' ej; exact ⟨v', e1, Rep.stay st _ _ e2⟩⟩
      | false =>
        refine iteF ?_
        obtain ⟨h5, g5, f5⟩ := k25.k D _ g2 hD2
        exact ⟨F5, G5, acc, xs, kk, R5, S2.mono R2 k25, g5, fun z => f2 (f5.mp z), h5, RepL.mono R2 k25 _ _ ra, q5⟩
  · have ei : i = ds.length := by omega
    subst ei
    rw [List.drop_length] at q2
    obtain ⟨s2, q2⟩ := q2
    obtain ⟨stop, _⟩ := wk F2 H2 G2 k2 R2 s2
    refine .inl ⟨stop _ (Nat.le_refl _), k _ _ ⟨.lv acc, frzF F2 D, G2, ⟨fun a' u ga ha => ?_⟩, ⟨fun a' m e => ?_, fun a' f => ?_, fun a' f => ?_⟩, ⟨D, xs, rfl, ⟨.inr rfl, hD2⟩, ?_⟩, q2⟩⟩
    · obtain ⟨a1, a2, a3⟩ := (k1.trans k2).k a' u ga ha
      have nD : a' ≠ D := fun z => by
        subst z
        have := (k1.k a' u ga ha).1
        rw [hD] at this
        cases this
      exact ⟨a1, a2, ⟨fun z => z.elim a3.mp fun w => absurd w nD, fun z => .inl (a3.mpr z)⟩⟩
    · have st : Stay F2 H2 (frzF F2 D) H2 := ⟨fun _ _ h => h, fun _ _ f h => ⟨.inl f, h⟩, fun _ _ _ h => h, fun _ _ f h => ⟨.inl f, h⟩⟩
      exact RepO.stay st (fun _ _ h => h) rfl (R2.obj a' m e)
    · rcases f with f | f
      · exact R2.fr a' f
      · rw [f]; exact g2
    · rcases f with f | f
      · exact R2.al a' f
      · rw [f, hD2]; intro z; cases z
    · have st : Stay F2 H2 (frzF F2 D) H2 := ⟨fun _ _ h => h, fun _ _ f h => ⟨.inl f, h⟩, fun _ _ _ h => h, fun _ _ f h => ⟨.inl f, h⟩⟩
      exact RepL.stay st _ _ ra
theorem q_lc {elt iter : Expr} {ifs : List Expr} {scope : Scope} {own : List (Str × Nat)} {wi : DTI} {g : DTG} (hc : X.calm = true) (hN : X.N.Nodup) (hi : QI X tg iter wi) (ok : blkC X.N X.env.scope scope own = true)
    (hg : ∀ (s : Shared) (H : Hp) (C : Addr) (cl : List (Str × Addr)) (fp : List Addr), QG (X.blk s H scope (compEnvC scope cl C X.env) fp) (Pw (own.map (·.2))) tg g) (ht : ∀ (s : Shared) (H : Hp) (C : Addr) (cl : List (Str × Addr)) (fp : List Addr), QTs (X.blk s H scope (compEnvC scope cl C X.env) fp) ifs t)
    (he : ∀ (s : Shared) (H : Hp) (C : Addr) (cl : List (Str × Addr)) (fp : List Addr), QE (X.blk s H scope (compEnvC scope cl C X.env) fp) elt te) (hs : ∀ x, foldedSetIterable iter X.env x = pure x := by intro _; rfl) :
    QE X (.ListComp elt [⟨tg, iter, ifs, 0⟩] scope pos) (dLc wi g t te (own.map (·.2))) := PEmono (pe_lc (g := upG X.K (Pw (own.map fun (p : Str × Nat) => p.2)) g) (tt := upT X.K t) (te := up X.K te) hc hN hi (blkOk_by ok) hg ht he hs) fun _ _ _ h => upLc h
theorem qs_setLc {i : Nat} {y : Str} {py : Pos} {elt iter : Expr} {ifs : List Expr} {scope : Scope} {own : List (Str × Nat)} {spos : Pos} {wi : DTI} {g : DTG} (hc : X.calm = true) (hN : X.N.Nodup) (hy : X.N[i]? = some y) (hyl : X.env.scope.names.lookup y = some .local)
    (hk : X.env.scope.kind = .function) (hl : (py.line == pos.line) = true) (hn : (scope.names.any fun (n, k) => n == y && (k == .local || k == .cell)) = false) (hi : QI X tg iter wi) (ok : blkC X.N X.env.scope scope own = true)
    (hg : ∀ (s : Shared) (H : Hp) (C : Addr) (cl : List (Str × Addr)) (fp : List Addr), QG (X.blk s H scope (compEnvC scope cl C X.env) fp) (Pw (own.map (·.2))) tg g) (ht : ∀ (s : Shared) (H : Hp) (C : Addr) (cl : List (Str × Addr)) (fp : List Addr), QTs (X.blk s H scope (compEnvC scope cl C X.env) fp) ifs t)
    (he : ∀ (s : Shared) (H : Hp) (C : Addr) (cl : List (Str × Addr)) (fp : List Addr), QE (X.blk s H scope (compEnvC scope cl C X.env) fp) elt te) (hs : ∀ x, foldedSetIterable iter X.env x = pure x := by intro _; rfl) :
    QS X (.Assign [.Name y py] (.ListComp elt [⟨tg, iter, ifs, 0⟩] scope pos) spos) (dAsg (dLc wi g t te (own.map (·.2))) (dName i)) := PSmono (ps_setLc (g := upG X.K (Pw (own.map fun (p : Str × Nat) => p.2)) g) (tt := upT X.K t) (te := up X.K te) hc hN hy hyl (sw_true hk hyl hl hn) hi (blkOk_by ok) hg ht he hs) fun _ _ _ h => upSet (fun _ _ _ h => upLc h) h

/-! ### the text ''.join(xs) -/
def strsOf : List D → Option (List Str)
  | [] => some []
  | .str b :: r => (strsOf r).map (b :: ·)
  | _ :: _ => none
theorem strsOf_rep : ∀ {ds : List D} {vs : List V} {bs : List Str}, RepL K F H ds vs → strsOf ds = some bs → vs = bs.map V.str ∧ ∀ x ∈ bs, sOk x = true
  | [], vs, bs, r, e => by cases r; cases e; exact ⟨rfl, by simp⟩
  | d :: ds, vs, bs, ⟨v, r', e1, h, q⟩, e => by
    subst e1
    cases d with
    | str b =>
      unfold strsOf at e
      cases e2 : strsOf ds with
      | none => rw [e2] at e; cases e
      | some bs' =>
        rw [e2] at e
        cases e
        obtain ⟨h, hb⟩ := h
        cases h
        obtain ⟨g1, g2⟩ := strsOf_rep q e2
        refine ⟨by rw [g1]; rfl, fun x hx => ?_⟩
        rcases List.mem_cons.mp hx with rfl | hx
        · exact hb
        · exact g2 x hx
    | _ => cases e
def dJoin (to te : DTE) : DTE := fun δ G Q => to δ G fun o G1 => optQ (strOf o) fun a => te δ G1 fun y G2 => optQ ((itemsOf y G2).bind strsOf) fun ys =>
  (ys.map (·.length)).sum + ys.length * a.length ≤ 16777216 ∧ Q (.str (Str.join a ys)) G2
theorem sOk_join {a : Str} (ha : sOk a = true) : ∀ {ys : List Str}, (∀ x ∈ ys, sOk x = true) → sOk (Str.join a ys) = true
  | [], _ => by unfold Str.join sOk; simp [Str.empty]
  | [x], h => h x (by simp)
  | x :: y :: r, h => sOk_app (sOk_app (h x (by simp)) ha) (sOk_join ha fun z hz => h z (List.mem_cons_of_mem _ hz))
theorem q_join {apos cpos : Pos} {to : DTE} (ho : QE X a to) (he : QE X e te) (hs : starEach [e] X.env = [(false, eval e X.env)] := by rfl) (hbase : attributeBase a "join" X.env (eval a X.env) = eval a X.env := by rfl) (hline : (apos.endLine == cpos.line) = true := by rfl) :
    QE X (.Call (.Attribute a "join" apos) [e] [] cpos) (dJoin to te) := PEmono (pe_join ho he hs hbase hline) fun σ H Q ⟨F, δ, G, Q', R, S, q, k⟩ => by
  refine ⟨F, δ, G, _, R, S, q, fun v H1 ⟨o, F1, G1, k1, R1, p1, q1⟩ => ?_⟩
  replace q1 := optQ_ex q1
  obtain ⟨z, eo, q1⟩ := q1
  have eo := strOf_eq eo
  subst eo
  obtain ⟨p1, hz⟩ := p1
  cases p1
  refine ⟨⟨z, rfl⟩, F1, δ, G1, _, R1, S.mono R k1, q1, fun w H2 ⟨d, F2, G2, k2, R2, p2, q2⟩ => ?_⟩
  replace q2 := optQ_ex q2
  obtain ⟨ys, ey, q2⟩ := q2
  cases ei : itemsOf d G2 with
  | none => rw [ei] at ey; cases ey
  | some ds =>
    rw [ei] at ey
    have es : strsOf ds = some ys := ey
    obtain ⟨a, xs, rfl, hs, hr⟩ := items_rep R2 p2 ei
    obtain ⟨e3, e4⟩ := strsOf_rep hr es
    subst e3
    refine ⟨z, a, ys, rfl, rfl, hs, q2.1, ?_⟩
    rw [show Txt.join z ys = Str.join z ys from PySem.StrLaws.glued_eq_join z ys]
    exact k _ _ ⟨.str (Str.join z ys), F2, G2, k1.trans k2, R2, ⟨rfl, sOk_join hz e4⟩, q2.2⟩

/-! ### calls of own defs -/
def spQ (sp : DSp) (ds : List D) (G : Gp) (Q : D → Gp → Prop) : Prop := sp ds G Q fun _ _ => False
theorem spQ_congr {sp : DSp} {ds ds' : List D} {G : Gp} {Q : D → Gp → Prop} (h : ds = ds') : spQ sp ds G Q = spQ sp ds' G Q := by rw [h]
def dCall (sp : DSp) (tr : DTA) : DTE := fun δ G Q => tr δ G fun ds G1 => spQ sp ds G1 Q
theorem q_call {k : Nat} {f : Addr} {fd : FuncData} {ps : List Str} {sp : DSp} {x : Str} {p : Pos} (Fn : FnOk X.prog X.w X.K X.mg X.base CX0 k f fd ps (upSp X.K sp)) (hr : Room k X.A) (hg : Gl X x) (hm : X.mg x = some (.ref f)) (hk : PySem.W.keepIn X.K (.ref f) = true) (hb : Binds X.K fd ps [])
    (ha : QA X (e :: es) tr) (hdb : (x == ("__debug__" : Str)) = false := by decide) (he : starEach (e :: es) X.env = (false, eval e X.env) :: starEach es X.env := by rfl) (hpl : (backTo pos (starEach es X.env)).any (·.1) = false := by rfl) :
    QE X (.Call (.Name x p) (e :: es) [] pos) (dCall sp tr) := PEmono (pe_call Fn hr hg hm hk hb .nil pass0 ha hdb he hpl) fun σ H Q ⟨F, δ, G, Q', R, S, q, k⟩ => by
  refine ⟨F, δ, G, _, R, S, q, fun vs H1 ⟨ds, F1, G1, k1, R1, p1, q1⟩ => ?_⟩
  show upSp X.K sp (vs ++ []) H1 Q E0
  rw [List.append_nil]
  exact ⟨F1, ds, G1, Q', R1, p1, q1, fun v H2 q2 => k v H2 (.trans k1 q2)⟩

/-! ### what a def promises: by its body -/
/-- what is handed back: things of the def's own go, lists of its own stay as they are -/
def MO.own : MO → Bool
  | .lst _ => true
  | .dic _ => true
  | _ => false
def F0 (F : Fr) (G' G0 : Gp) : Fr := fun a => F a ∨ ((∃ m : MO, G' a = some m ∧ m.own = true) ∧ G0 a = none)
def Fz (G' G0 : Gp) (d d0 : D) : Prop := ∀ (K : PySem.W.Frag) F H v, Rel K F H G' → Rep K F H d v → Rep K (F0 F G' G0) H d0 v
/-- what may be forgotten of a mutable thing -/
def WkO (G1 : Gp) (a : Addr) : MO → Prop
  | .drw r => G1 a = some (.drw r) ∨ ∃ i : Int, 0 ≤ i ∧ G1 a = some (.lst [.int i, .ref r])
  | .row => G1 a = some .row ∨ ∃ ns : List Int, G1 a = some (.lst (ns.map D.int))
  | m => G1 a = some m
theorem WkO.of {G1 : Gp} {a : Addr} {m : MO} (h : G1 a = some m) : WkO G1 a m := by
  cases m with
  | drw r => exact .inl h
  | row => exact .inl h
  | _ => exact h
theorem WkO.some {G1 : Gp} {a : Addr} {m : MO} (h : WkO G1 a m) : ∃ m', G1 a = some m' := by
  cases m with
  | drw r => rcases h with h | ⟨i, _, h⟩ <;> exact ⟨_, h⟩
  | row => rcases h with h | ⟨i, h⟩ <;> exact ⟨_, h⟩
  | _ => exact ⟨_, h⟩
theorem repL_ints : ∀ {ns : List Int} {xs : List V}, RepL K F H (ns.map D.int) xs → xs = ns.map V.int
  | [], xs, h => by cases h; rfl
  | n :: ns, xs, ⟨v, r, e, h, q⟩ => by cases h; subst e; rw [repL_ints q]; rfl
theorem WkO.rep {G1 : Gp} {a : Addr} {m : MO} (R : Rel K F H G1) (h : WkO G1 a m) : RepO K F H a m := by
  cases m with
  | drw r =>
    rcases h with h | ⟨i, h0, h⟩
    · exact R.obj a _ h
    · obtain ⟨xs, h1, v, r', e1, h2, q⟩ := R.obj a _ h
      obtain ⟨v', e2, h3⟩ := rl1 q
      cases h2
      cases h3
      subst e2
      subst e1
      exact ⟨i, h0, h1⟩
  | row =>
    rcases h with h | ⟨ns, h⟩
    · exact R.obj a _ h
    · obtain ⟨xs, h1, h2⟩ := R.obj a _ h
      rw [repL_ints h2] at h1
      exact ⟨ns, h1⟩
  | lst _ => exact R.obj a _ h
  | dic _ => exact R.obj a _ h
  | ins _ _ _ => exact R.obj a _ h
def Drop (G' : Gp) (d : D) (G0 : Gp) (d0 : D) : Prop := (∀ a m, G0 a = some m → WkO G' a m) ∧ Fz G' G0 d d0
theorem stayF {H : Hp} {F : Fr} {G' G0 : Gp} : Stay F H (F0 F G' G0) H := ⟨fun _ _ h => h, fun _ _ f h => ⟨.inl f, h⟩, fun _ _ _ h => h, fun _ _ f h => ⟨.inl f, h⟩⟩
theorem Fz.same {G' G0 : Gp} {d : D} : Fz G' G0 d d := fun K F H v R r => Rep.stay stayF d v r
def FzL (G' G0 : Gp) : List D → List D → Prop
  | [], [] => True
  | d :: ds, e :: es => Fz G' G0 d e ∧ FzL G' G0 ds es
  | _, _ => False
theorem FzL.rep {G' G0 : Gp} : ∀ {ds es : List D}, FzL G' G0 ds es → ∀ (K : PySem.W.Frag) F H vs, Rel K F H G' → RepL K F H ds vs → RepL K (F0 F G' G0) H es vs
  | [], [], _, K, F, H, vs, R, r => r
  | d :: ds, e :: es, h, K, F, H, vs, R, ⟨v, r', e1, h1, q⟩ => ⟨v, r', e1, h.1 K F H v R h1, FzL.rep h.2 K F H r' R q⟩
  | [], _ :: _, h, _, _, _, _, _, _ => h.elim
  | _ :: _, [], h, _, _, _, _, _, _ => h.elim
theorem Fz.lst {G' G0 : Gp} {a : Addr} {ds es : List D} (h : G' a = some (.lst ds)) (h0 : G0 a = none) (q : FzL G' G0 ds es) : Fz G' G0 (.ref a) (.lv es) := fun K F H v R r => by
  cases r
  obtain ⟨xs, h1, h2⟩ := R.obj a _ h
  exact ⟨a, xs, rfl, ⟨.inr ⟨⟨_, h, rfl⟩, h0⟩, h1⟩, q.rep K F H xs R h2⟩
def FzK (G' G0 : Gp) : List (Key × D) → List (Key × D) → Prop
  | [], [] => True
  | (k, d) :: ds, (k', e) :: es => k = k' ∧ Fz G' G0 d e ∧ FzK G' G0 ds es
  | _, _ => False
theorem FzK.rep {G' G0 : Gp} : ∀ {ds es : List (Key × D)}, FzK G' G0 ds es → ∀ (K : PySem.W.Frag) F H vs, Rel K F H G' → RepK K F H ds vs → RepK K (F0 F G' G0) H es vs
  | [], [], _, K, F, H, vs, R, r => r
  | (k, d) :: ds, (k', e) :: es, h, K, F, H, vs, R, ⟨k2, v, r', e1, h1, q⟩ => ⟨k2, v, r', e1, ⟨h1.1.trans h.1, h.2.1 K F H v R h1.2⟩, FzK.rep h.2.2 K F H r' R q⟩
  | [], _ :: _, h, _, _, _, _, _, _ => h.elim
  | _ :: _, [], h, _, _, _, _, _, _ => h.elim
theorem FzK.same {G' G0 : Gp} : ∀ ds : List (Key × D), FzK G' G0 ds ds
  | [] => trivial
  | (k, d) :: ds => ⟨rfl, fun K F H v R r => Rep.stay ⟨fun _ _ h => h, fun _ _ f h => ⟨.inl f, h⟩, fun _ _ _ h => h, fun _ _ f h => ⟨.inl f, h⟩⟩ d v r, FzK.same ds⟩
theorem Fz.dic {G' G0 : Gp} {a : Addr} {ds es : List (Key × D)} (h : G' a = some (.dic ds)) (h0 : G0 a = none) (q : FzK G' G0 ds es) : Fz G' G0 (.ref a) (.dv es) := fun K F H v R r => by
  cases r
  obtain ⟨xs, h1, h2⟩ := R.obj a _ h
  exact ⟨a, xs, rfl, ⟨.inr ⟨⟨_, h, rfl⟩, h0⟩, .of h1⟩, q.rep K F H xs R h2⟩
theorem Fz.lv {G' G0 : Gp} {ds es : List D} (q : FzL G' G0 ds es) : Fz G' G0 (.lv ds) (.lv es) := fun K F H v R ⟨a, xs, e, f, r⟩ => ⟨a, xs, e, ⟨.inl f.1, f.2⟩, q.rep K F H xs R r⟩
theorem Fz.tup {G' G0 : Gp} {ds es : List D} (q : FzL G' G0 ds es) : Fz G' G0 (.tup ds) (.tup es) := fun K F H v R ⟨a, xs, e, f, r⟩ => ⟨a, xs, e, f, q.rep K F H xs R r⟩
theorem FzL.same {G' G0 : Gp} : ∀ ds : List D, FzL G' G0 ds ds
  | [] => trivial
  | d :: ds => ⟨.same, FzL.same ds⟩
theorem Drop.same {G : Gp} {d : D} : Drop G d G d := ⟨fun _ _ h => .of h, .same⟩
theorem Drop.sub {G' G0 : Gp} {d : D} (h : ∀ a m, G0 a = some m → G' a = some m) : Drop G' d G0 d := ⟨fun a m e => .of (h a m e), .same⟩
theorem sub_new {G : Gp} {p : Addr} {m : MO} (h : G p = none) : ∀ a m', G a = some m' → updG G p m a = some m' := fun a m' e => by
  rw [updG_ne (fun z => by subst z; rw [h] at e; cases e)]; exact e
theorem sub_trans {G G1 G2 : Gp} (h : ∀ a m, G a = some m → G1 a = some m) (g : ∀ a m, G1 a = some m → G2 a = some m) : ∀ a m, G a = some m → G2 a = some m := fun a m e => g a m (h a m e)
theorem Drop.post {G' G0 : Gp} {d d0 : D} {Q : D → Gp → Prop} {v : V} (h : Drop G' d G0 d0) (k : Keep F H G F' H' G') (R : Rel K F' H' G') (r : Rep K F' H' d v) (q : Q d0 G0) : post K F H G Q v H' := by
  refine ⟨d0, F0 F' G' G0, G0, ⟨fun a u ga ha => ?_⟩, ⟨fun a m e => ?_, fun a f => ?_, fun a f => ?_⟩, h.2 K F' H' v R r, q⟩
  · obtain ⟨a1, a2, a3⟩ := k.k a u ga ha
    have g0 : G0 a = none := by
      cases e : G0 a with
      | none => rfl
      | some m => obtain ⟨m', e'⟩ := (h.1 a m e).some; rw [e'] at a2; cases a2
    exact ⟨a1, g0, ⟨fun z => z.elim a3.mp (fun ⟨⟨_, e, _⟩, _⟩ => by rw [a2] at e; cases e), fun z => Or.inl (a3.mpr z)⟩⟩
  · exact RepO.stay stayF (fun _ _ h => h) rfl ((h.1 a m e).rep R)
  · rcases f with f | ⟨_, f⟩
    · cases e : G0 a with
      | none => rfl
      | some m =>
        obtain ⟨m', e'⟩ := (h.1 a m e).some
        rw [R.fr a f] at e'
        cases e'
    · exact f
  · rcases f with f | ⟨⟨m, f, fm⟩, _⟩
    · exact R.al a f
    · cases m with
      | lst ds =>
        obtain ⟨xs, h1, _⟩ := R.obj a _ f
        rw [h1]; intro z; cases z
      | dic ds =>
        obtain ⟨xs, h1, _⟩ := R.obj a _ f
        rw [h1]; intro z; cases z
      | _ => cases fm
def rtOf (Q : D → Gp → Prop) : D → Gp → Prop := fun d G' => ∃ d0 G0, Drop G' d G0 d0 ∧ Q d0 G0
/-- m parameters, n other names -/
def spOf (m n : Nat) (t : DTS) : DSp := fun ds G Q _ => ds.length = m ∧ t { nx := fun _ G' => rtOf Q .non G', rt := rtOf Q } (ds.map some ++ List.replicate n none) G
theorem fn_ok {P : Program} {w : World} {K : PySem.W.Frag} {mg : Str → Option Value} {base : Heap} {x qual : Str} {st : Stmt} {f : Addr} {fd : FuncData} {N ps : List Str} {k m n : Nat} {t : DTS} (Fn : Fun K x qual st f fd) (Sc : FnScope N ps (defScope st)) (hm : ps.length = m) (hn : N.length = m + n)
    (hb : ∀ (cdv : Value) (A : Around) (outer : List Env) (s : Shared) (H : Hp) (E : XK), Room k (A.deeper (envOfC qual (defScope st) s.heap.objs.size f cdv)) → QSs (cxOf CX0 P w K mg base N qual (defScope st) f cdv A outer s H E).nox (defBody st) t) :
    FnOk P w K mg base CX0 (k + 1) f fd ps (upSp K (spOf m n t)) := by
  refine Fn.ok Sc (fun vs H Q E h => ?_) (fun cdv A outer s H vs Q E hr h => ?_)
  · obtain ⟨F, ds, G, Q', R, r, ⟨q, _⟩, _⟩ := h
    rw [r.len, q, hm]
  · obtain ⟨F, ds, G, Q', R, r, ⟨q1, q⟩, kk⟩ := h
    refine ⟨_, hb cdv A outer s H E hr, F, _, G, _, R, ?_, q, ⟨fun σ' H' ⟨δ', F1, G1, k1, R1, S1, d0, G0, dr, q1⟩ => ?_, fun v H' ⟨d, F1, G1, k1, R1, p1, d0, G0, dr, q1⟩ => ?_, fun σ' H' ⟨_, _, _, _, _, _, q⟩ => q.elim, fun σ' H' ⟨_, _, _, _, _, _, q⟩ => q.elim⟩⟩
    · have hl := r.len
      refine ⟨?_, fun i d e => ?_⟩
      · unfold L2.start
        rw [List.length_append, List.length_append, List.length_map, List.length_map, List.length_replicate, List.length_replicate, hl]
        omega
      · have key : ∀ (ds : List D) (n i : Nat) (d : D), getS (ds.map some ++ List.replicate n none) i = some d → ds[i]? = some d := by
          intro ds
          induction ds with
          | nil =>
            intro n
            induction n with
            | zero => intro i d e; cases e
            | succ n ih =>
              intro i d e
              cases i with
              | zero => cases e
              | succ i => have := ih i d e; simp at this
          | cons x ds ih =>
            intro n i d e
            cases i with
            | zero => cases e; rfl
            | succ i => simpa using ih n i d e
        obtain ⟨v, e1, e2⟩ := r.get (key _ _ _ _ e)
        refine ⟨v, ?_, e2⟩
        unfold L2.start
        rw [List.getElem?_append_left (by rw [List.length_map]; exact (List.getElem?_eq_some_iff.mp e1).1), List.getElem?_map, e1]
        rfl
    · exact kk _ _ (dr.post k1 R1 rfl q1)
    · exact kk _ _ (dr.post k1 R1 p1 q1)
/-! ### a def of the text by its name -/
def Cal (P : Program) (w : World) (K : PySem.W.Frag) (mg : Str → Option Value) (base : Heap) (k : Nat) (x : Str) (ps : List Str) (sp : DSp) : Prop :=
  ∃ f fd, FnOk P w K mg base CX0 k f fd ps (upSp K sp) ∧ mg x = some (.ref f) ∧ PySem.W.keepIn K (.ref f) = true ∧ Binds K fd ps []
theorem q_c {j k : Nat} {ps : List Str} {sp : DSp} {x : Str} {p : Pos} (c : Cal X.prog X.w X.K X.mg X.base k x ps sp) (hr : Room j X.A) (hk : k ≤ j) (hg : Gl X x)
    (ha : QA X (e :: es) tr) (hdb : (x == ("__debug__" : Str)) = false := by decide) (he : starEach (e :: es) X.env = (false, eval e X.env) :: starEach es X.env := by rfl) (hpl : (backTo pos (starEach es X.env)).any (·.1) = false := by rfl) :
    QE X (.Call (.Name x p) (e :: es) [] pos) (dCall sp tr) := by
  obtain ⟨f, fd, Fn, hm, hkp, hb⟩ := c
  exact q_call Fn (hr.mono hk) hg hm hkp hb ha hdb he hpl
/-- a weaker promise -/
theorem Cal.imp {P : Program} {w : World} {K : PySem.W.Frag} {mg : Str → Option Value} {base : Heap} {k : Nat} {x : Str} {ps : List Str} {sp sp' : DSp} (c : Cal P w K mg base k x ps sp) (h : ∀ vs H Q E, upSp K sp' vs H Q E → upSp K sp vs H Q E) : Cal P w K mg base k x ps sp' := by
  obtain ⟨f, fd, Fn, r⟩ := c
  exact ⟨f, fd, Fn.imp h, r⟩
theorem Cal.imp' {P : Program} {w : World} {K : PySem.W.Frag} {mg : Str → Option Value} {base : Heap} {k : Nat} {x : Str} {ps : List Str} {sp sp' : DSp} (c : Cal P w K mg base k x ps sp) (h : ∀ ds G Q E, sp' ds G Q E → sp ds G Q E) : Cal P w K mg base k x ps sp' :=
  c.imp fun vs H Q E ⟨F, ds, G, Q', R, r, q, kk⟩ => ⟨F, ds, G, Q', R, r, h _ _ _ _ q, kk⟩
theorem hu190 {A : Around} {k : Nat} (hr : Room k A) : A.units + 190 < cLine := by have := hr.un; omega
theorem nodup_of {N ps : List Str} {sc : Scope} (S : FnScope N ps sc) : N.Nodup := S.nd
end
end DL
set_option Elab.async false
set_option linter.all false
set_option maxRecDepth 100000
set_option maxHeartbeats 4000000
namespace DL
open PySem PySem.Spec PyProof.Rows L2
theorem szL : sizeLine = 16777216 := by decide
/-! ### loops, by what holds between the turns -/
theorem dLoop_congr {S : Gp → Prop} {g : DTG} {tb : DTS} {E : DEnds} {ds ds' : List D} {δ δ' : DS} {G : Gp} (h : ds = ds') (h2 : δ = δ') : dLoop S g tb E ds δ G = dLoop S g tb E ds' δ' G := by rw [h, h2]
theorem dComp_congr {S : Gp → Prop} {g : DTG} {tt : DTT} {te : DTE} {δ δ' : DS} {Q : List D → Gp → Prop} {ds ds' acc acc' : List D} {G : Gp} (h : ds = ds') (h2 : acc = acc') (h3 : δ = δ') : dComp S g tt te δ Q ds acc G = dComp S g tt te δ' Q ds' acc' G := by rw [h, h2, h3]
theorem loop_ind {S : Gp → Prop} {g : DTG} {tb : DTS} {E : DEnds} (W : List D → DS → Gp → Prop)
    (hs : ∀ d r δ G (K : DS → Gp → Prop), W (d :: r) δ G → (∀ δ G, W r δ G → K δ G) → S G ∧ g d δ G fun δ1 G1 => tb { nx := K, ct := K, bk := E.nx, rt := E.rt } δ1 G1)
    (he : ∀ δ G, W [] δ G → S G ∧ E.nx δ G) : ∀ (ds : List D) (δ : DS) (G : Gp), W ds δ G → dLoop S g tb E ds δ G := by
  intro ds
  induction ds with
  | nil => intro δ G h; exact he δ G h
  | cons d r ih => intro δ G h; exact hs d r δ G _ h ih
theorem comp_ind {S : Gp → Prop} {g : DTG} {tt : DTT} {te : DTE} {δ : DS} {Q : List D → Gp → Prop} (W : List D → List D → Gp → Prop)
    (hs : ∀ d r acc G (K : List D → Gp → Prop), W (d :: r) acc G → (∀ acc G, W r acc G → K acc G) → S G ∧ g d δ G fun δ1 G1 => tt δ1 G1 fun b G2 => dCond b (te δ1 G2 fun y G3 => acc.length < sizeLine ∧ K (acc ++ [y]) G3) (K acc G2))
    (he : ∀ acc G, W [] acc G → S G ∧ Q acc G) : ∀ (ds acc : List D) (G : Gp), W ds acc G → dComp S g tt te δ Q ds acc G := by
  intro ds
  induction ds with
  | nil => intro acc G h; exact he acc G h
  | cons d r ih => intro acc G h; exact hs d r acc G _ h ih
/-- a comprehension whose turns change nothing -/
theorem comp_pure {S : Gp → Prop} {g : DTG} {tt : DTT} {te : DTE} {δ : DS} {Q : List D → Gp → Prop} {G : Gp} (p : D → Bool) (f : D → D) (hS : S G) : ∀ (ds acc : List D), acc.length + ds.length ≤ sizeLine →
    (∀ d ∈ ds, ∀ (K1 : D → Gp → Prop) (K0 : Gp → Prop), (p d = true → K1 (f d) G) → (p d = false → K0 G) → g d δ G fun δ1 G1 => tt δ1 G1 fun b G2 => dCond b (te δ1 G2 K1) (K0 G2)) →
    Q (acc ++ (ds.filter p).map f) G → dComp S g tt te δ Q ds acc G
  | [], acc, _, _, q => ⟨hS, by simpa using q⟩
  | d :: r, acc, hl, h, q => by
    rw [List.length_cons] at hl
    refine ⟨hS, h d List.mem_cons_self _ _ (fun hp => ⟨by omega, ?_⟩) (fun hp => ?_)⟩
    · refine comp_pure p f hS r (acc ++ [f d]) (by rw [List.length_append, List.length_singleton]; omega) (fun d' hd => h d' (List.mem_cons_of_mem _ hd)) ?_
      rw [List.filter_cons_of_pos hp, List.map_cons] at q
      rw [List.append_assoc]
      exact q
    · refine comp_pure p f hS r acc (by omega) (fun d' hd => h d' (List.mem_cons_of_mem _ hd)) ?_
      rw [List.filter_cons_of_neg (by rw [hp]; exact Bool.false_ne_true)] at q
      exact q
theorem comp_all {S : Gp → Prop} {g : DTG} {te : DTE} {δ : DS} {Q : List D → Gp → Prop} {G : Gp} (f : D → D) (hS : S G) (ds : List D) (hl : ds.length ≤ sizeLine)
    (h : ∀ d ∈ ds, ∀ (K1 : D → Gp → Prop), K1 (f d) G → g d δ G fun δ1 G1 => te δ1 G1 K1) (q : Q (ds.map f) G) : dComp S g dYes te δ Q ds [] G := by
  refine comp_pure (fun _ => true) f hS ds [] (by simpa using hl) (fun d hd K1 K0 h1 _ => ?_) ?_
  · have := h d hd K1 (h1 rfl)
    exact this
  · rw [List.filter_eq_self.mpr (fun _ _ => rfl)]
    exact q
/-! ### the law's draws -/
def isDr (G : Gp) (d : Addr) : Prop := ∃ r, G d = some (.drw r) ∧ G r = some .row
theorem isDr.mono {G G' : Gp} {d : Addr} (h : ∀ a m, G a = some m → G' a = some m) (q : isDr G d) : isDr G' d := by
  obtain ⟨r, h1, h2⟩ := q
  exact ⟨r, h _ _ h1, h _ _ h2⟩
def sp__law_next : DSp := fun ds G Q _ => ∃ d many, ds = [.ref d, .int many] ∧ isDr G d ∧ 0 < many ∧ ∀ k, 0 ≤ k → k < many → Q (.int k) G
def sp__law_cell : DSp := fun ds G Q _ => ∃ (ns : List Int) (k : Nat), ds = [.rl (ns.map D.int), .int k] ∧ ∀ i, Q (.int i) G
def sp__law_draws : DSp := fun ds G Q _ => ∃ i, ds = [.int i] ∧ ∀ d G', (∀ a m, G a = some m → G' a = some m) → isDr G' d → G d = none → Q (.ref d) G'
end DL
set_option Elab.async false
set_option linter.all false
set_option maxRecDepth 100000
set_option autoImplicit true
namespace DL
open PySem PySem.Spec PyProof.Rows L2
theorem dVar_e {i : Nat} {δ : DS} {G : Gp} {Q : D → Gp → Prop} : (dVar i δ G Q) = (optQ (getS δ i) fun d => Q d G) := (rfl)
theorem dC_e {d : D} {z0 : DS} {G : Gp} {Q : D → Gp → Prop} : (dC d z0 G Q) = (Q d G) := (rfl)
theorem dOp_e {r : R2d} {ta tb : DTE} {δ : DS} {G : Gp} {Q : D → Gp → Prop} : (dOp r ta tb δ G Q) = (ta δ G fun x G1 => tb δ G1 fun y G2 => r x y G2 Q) := (rfl)
theorem dUn_e {r : R1} {ta : DTE} {δ : DS} {G : Gp} {Q : D → Gp → Prop} : (dUn r ta δ G Q) = (ta δ G fun x G1 => r x G1 Q) := (rfl)
theorem dTest_e {t : DTE} {δ : DS} {G : Gp} {Q : Bool → Gp → Prop} : (dTest t δ G Q) = (t δ G fun x G1 => optQ (blOf x) fun k => Q k G1) := (rfl)
theorem dChain_e {r r' : R2d} {ta tb tc : DTE} {δ : DS} {G : Gp} {Q : D → Gp → Prop} : (dChain r r' ta tb tc δ G Q) = (ta δ G fun x G1 => tb δ G1 fun y G2 => r x y G2 fun z G3 => optQ (blOf z) fun c => dCond c (tc δ G3 fun w G4 => r' y w G4 Q) (Q (.bl false) G3)) := (rfl)
theorem dPure2_e {f : D → D → Option D} {x : D} {y : D} {G : Gp} {Q : D → Gp → Prop} : (dPure2 f x y G Q) = (optQ (f x y) fun z => Q z G) := (rfl)
theorem dPure1_e {f : D → Option D} {x : D} {G : Gp} {Q : D → Gp → Prop} : (dPure1 f x G Q) = (optQ (f x) fun z => Q z G) := (rfl)
theorem dEqR_e  {x : D} {y : D} {G : Gp} {Q : D → Gp → Prop} : (dEqR x y G Q) = (okEq x y = true ∧ Q (.bl (dEq x y)) G) := (rfl)
theorem dNeR_e  {x : D} {y : D} {G : Gp} {Q : D → Gp → Prop} : (dNeR x y G Q) = (okEq x y = true ∧ Q (.bl (!dEq x y)) G) := (rfl)
theorem dInR_e {n : Bool} {x : D} {y : D} {G : Gp} {Q : D → Gp → Prop} : (dInR n x y G Q) = (optQ (itemsOf y G) fun ds => dPl x = true ∧ dPlL ds = true ∧ min (dDepL ds) (dDep x) ≤ 180 ∧ Q (.bl (if n then !ds.any (fun z => dEq z x) else ds.any (fun z => dEq z x))) G) := (rfl)
theorem dIsN_e {n : Bool} {x : D} {G : Gp} {Q : D → Gp → Prop} : (dIsN n x G Q) = (Q (.bl (xor n (isNon x))) G) := (rfl)
theorem dTruth_e {t : DTE} {δ : DS} {G : Gp} {Q : Bool → Gp → Prop} : (dTruth t δ G Q) = (t δ G fun x G1 => optQ (truthD x G1) fun k => Q k G1) := (rfl)
theorem dAndT_e {t u : DTT} {δ : DS} {G : Gp} {Q : Bool → Gp → Prop} : (dAndT t u δ G Q) = (t δ G fun c G1 => dCond c (u δ G1 Q) (Q false G1)) := (rfl)
theorem dOrT_e {t u : DTT} {δ : DS} {G : Gp} {Q : Bool → Gp → Prop} : (dOrT t u δ G Q) = (t δ G fun c G1 => dCond c (Q true G1) (u δ G1 Q)) := (rfl)
theorem dNotT_e {t : DTT} {δ : DS} {G : Gp} {Q : Bool → Gp → Prop} : (dNotT t δ G Q) = (t δ G fun c G1 => Q (!c) G1) := (rfl)
theorem dAnd_e {ta tb : DTE} {δ : DS} {G : Gp} {Q : D → Gp → Prop} : (dAnd ta tb δ G Q) = (ta δ G fun x G1 => optQ (truthD x G1) fun c => dCond c (tb δ G1 Q) (Q x G1)) := (rfl)
theorem dOr_e {ta tb : DTE} {δ : DS} {G : Gp} {Q : D → Gp → Prop} : (dOr ta tb δ G Q) = (ta δ G fun x G1 => optQ (truthD x G1) fun c => dCond c (Q x G1) (tb δ G1 Q)) := (rfl)
theorem dNot_e {ta : DTE} {δ : DS} {G : Gp} {Q : D → Gp → Prop} : (dNot ta δ G Q) = (ta δ G fun x G1 => optQ (truthD x G1) fun c => Q (.bl (!c)) G1) := (rfl)
theorem dIf_e {c : DTT} {ta tb : DTE} {δ : DS} {G : Gp} {Q : D → Gp → Prop} : (dIf c ta tb δ G Q) = (c δ G fun b G1 => dCond b (ta δ G1 Q) (tb δ G1 Q)) := (rfl)
theorem dNil_e  {z0 : DS} {G : Gp} {Q : List D → Gp → Prop} : (dNil z0 G Q) = (Q [] G) := (rfl)
theorem dCons_e {ta : DTE} {tr : DTA} {δ : DS} {G : Gp} {Q : List D → Gp → Prop} : (dCons ta tr δ G Q) = (ta δ G fun x G1 => tr δ G1 fun xs G2 => Q (x :: xs) G2) := (rfl)
theorem dTup_e {tr : DTA} {δ : DS} {G : Gp} {Q : D → Gp → Prop} : (dTup tr δ G Q) = (tr δ G fun ds G1 => ds.length ≤ sizeLine ∧ Q (.tup ds) G1) := (rfl)
theorem dLv_e {tr : DTA} {δ : DS} {G : Gp} {Q : D → Gp → Prop} : (dLv tr δ G Q) = (tr δ G fun ds G1 => ds.length ≤ sizeLine ∧ Q (.lv ds) G1) := (rfl)
theorem dRef_e {tr : DTA} {δ : DS} {G : Gp} {Q : D → Gp → Prop} : (dRef tr δ G Q) = (tr δ G fun ds G1 => ds.length ≤ sizeLine ∧ ∀ p, G1 p = none → Q (.ref p) (updG G1 p (.lst ds))) := (rfl)
theorem dIx_e  {x : D} {y : D} {G : Gp} {Q : D → Gp → Prop} : (dIx x y G Q) = (optQ (ixD x y G) fun d => Q d G) := (rfl)
theorem dNoPart_e  {z0 : DS} {G : Gp} {Q : Option Int → Gp → Prop} : (dNoPart z0 G Q) = (Q none G) := (rfl)
theorem dPart_e {t : DTE} {δ : DS} {G : Gp} {Q : Option Int → Gp → Prop} : (dPart t δ G Q) = (t δ G fun x G1 => optQ (intOf x) fun i => Q (some i) G1) := (rfl)
theorem dSl_e {te : DTE} {tl th : DTO} {δ : DS} {G : Gp} {Q : D → Gp → Prop} : (dSl te tl th δ G Q) = (te δ G fun x G1 => tl δ G1 fun l G2 => th δ G2 fun u G3 => optQ (slD x l u G3) fun d => Q d G3) := (rfl)
theorem dF_e {f : List D → Gp → Option D} {ds : List D} {G : Gp} {Q : D → Gp → Prop} : (dF f ds G Q) = (optQ (f ds G) fun d => Q d G) := (rfl)
theorem dB_e {r : RA} {tr : DTA} {δ : DS} {G : Gp} {Q : D → Gp → Prop} : (dB r tr δ G Q) = (tr δ G fun ds G1 => r ds G1 Q) := (rfl)
theorem dTupleC_e  {ds : List D} {G : Gp} {Q : D → Gp → Prop} : (dTupleC ds G Q) = (optQ (itemsA ds G) fun xs => Q (.tup xs) G) := (rfl)
theorem dListC_e  {ds : List D} {G : Gp} {Q : D → Gp → Prop} : (dListC ds G Q) = (optQ (itemsA ds G) fun xs => Q (.lv xs) G) := (rfl)
theorem dListM_e  {ds : List D} {G : Gp} {Q : D → Gp → Prop} : (dListM ds G Q) = (optQ (itemsA ds G) fun xs => ∀ p, G p = none → Q (.ref p) (updG G p (.lst xs))) := (rfl)
theorem dAll_e {f : List Bool → Bool} {ds : List D} {G : Gp} {Q : D → Gp → Prop} : (dAll f ds G Q) = (optQ ((lv1 ds).bind blsOf) fun bs => Q (.bl (f bs)) G) := (rfl)
theorem dSum_e  {ds : List D} {G : Gp} {Q : D → Gp → Prop} : (dSum ds G Q) = (optQ ((lv1 ds).bind intsOf) fun bs => Q (.int bs.sum) G) := (rfl)
theorem dIsi_e {T : String} {ta : DTE} {δ : DS} {G : Gp} {Q : D → Gp → Prop} : (dIsi T ta δ G Q) = (ta δ G fun x G1 => optQ (tyD x G1) fun n => Q (.bl (isiB T n)) G1) := (rfl)
theorem dName_e {i : Nat} {d : D} {δ : DS} {G : Gp} {Q : DS → Gp → Prop} : (dName i d δ G Q) = (Q (setS δ i (some d)) G) := (rfl)
theorem dGnil_e  {ds : List D} {δ : DS} {G : Gp} {Q : DS → Gp → Prop} : (dGnil ds δ G Q) = (optQ (isNil ds) fun _ => Q δ G) := (rfl)
theorem dGcons_e {g : DTG} {gs : DTGs} {ds : List D} {δ : DS} {G : Gp} {Q : DS → Gp → Prop} : (dGcons g gs ds δ G Q) = (optQ (uncons ds) fun p => g p.1 δ G fun δ1 G1 => gs p.2 δ1 G1 Q) := (rfl)
theorem dTupG_e {n : Nat} {gs : DTGs} {d : D} {δ : DS} {G : Gp} {Q : DS → Gp → Prop} : (dTupG n gs d δ G Q) = (optQ (tupOf d) fun ds => ds.length = n ∧ gs ds δ G Q) := (rfl)
theorem dSubL_e {to ti : DTE} {v : D} {δ : DS} {G : Gp} {Q : DS → Gp → Prop} : (dSubL to ti v δ G Q) = (to δ G fun o G1 => ti δ G1 fun i G2 => optQ (setD o i v G2) fun G3 => Q δ G3) := (rfl)
theorem dNext_e  {E : DEnds} {δ : DS} {G : Gp} : (dNext E δ G) = (E.nx δ G) := (rfl)
theorem dSeq_e {t u : DTS} {E : DEnds} {δ : DS} {G : Gp} : (dSeq t u E δ G) = (t { E with nx := u E } δ G) := (rfl)
theorem dBreak_e  {E : DEnds} {δ : DS} {G : Gp} : (dBreak E δ G) = (E.bk δ G) := (rfl)
theorem dCont_e  {E : DEnds} {δ : DS} {G : Gp} : (dCont E δ G) = (E.ct δ G) := (rfl)
theorem dDrop_e {te : DTE} {E : DEnds} {δ : DS} {G : Gp} : (dDrop te E δ G) = (te δ G fun _ G1 => E.nx δ G1) := (rfl)
theorem dRet_e {te : DTE} {E : DEnds} {δ : DS} {G : Gp} : (dRet te E δ G) = (te δ G E.rt) := (rfl)
theorem dRetN_e  {E : DEnds} {z1 : DS} {G : Gp} : (dRetN E z1 G) = (E.rt .non G) := (rfl)
theorem dIfS_e {c : DTT} {t u : DTS} {E : DEnds} {δ : DS} {G : Gp} : (dIfS c t u E δ G) = (c δ G fun b G1 => dCond b (t E δ G1) (u E δ G1)) := (rfl)
theorem dAsg_e {te : DTE} {g : DTG} {E : DEnds} {δ : DS} {G : Gp} : (dAsg te g E δ G) = (te δ G fun x G1 => g x δ G1 E.nx) := (rfl)
theorem dAug_e {i : Nat} {te : DTE} {r : R2d} {E : DEnds} {δ : DS} {G : Gp} : (dAug i te r E δ G) = (optQ (getS δ i) fun x => te δ G fun y G1 => r x y G1 fun z G2 => E.nx (setS δ i (some z)) G2) := (rfl)
theorem dApp_e {to te : DTE} {δ : DS} {G : Gp} {Q : D → Gp → Prop} : (dApp to te δ G Q) = (to δ G fun o G1 => optQ (refOf o) fun p => optQ (lstOf (G1 p)) fun _ => te δ G1 fun y G2 => optQ (lstOf (G2 p)) fun ds => ds.length < sizeLine ∧ Q .non (updG G2 p (.lst (ds ++ [y])))) := (rfl)
theorem dIt_e {te : DTE} {δ : DS} {G : Gp} {Q : List D → (Gp → Prop) → Gp → Prop} : (dIt te δ G Q) = (te δ G fun x G1 => optQ (itD x G1) fun r => Q r.1 (stabS r) G1) := (rfl)
theorem dRng1_e {tr : DTA} {δ : DS} {G : Gp} {Q : List D → (Gp → Prop) → Gp → Prop} : (dRng1 tr δ G Q) = (tr δ G fun ds G1 => optQ (int1 ds) fun j => -(2 ^ 62) ≤ j ∧ j < 2 ^ 62 ∧ Q (rangeD 0 j.toNat) (fun _ => True) G1) := (rfl)
theorem dRng2_e {tr : DTA} {δ : DS} {G : Gp} {Q : List D → (Gp → Prop) → Gp → Prop} : (dRng2 tr δ G Q) = (tr δ G fun ds G1 => optQ (int2 ds) fun p => (-(2 ^ 62) ≤ p.1 ∧ p.1 < 2 ^ 62 ∧ -(2 ^ 62) ≤ p.2 ∧ p.2 < 2 ^ 62) ∧ Q (rangeD p.1 (p.2 - p.1).toNat) (fun _ => True) G1) := (rfl)
theorem dFor_e {t : DTI} {g : DTG} {tb : DTS} {E : DEnds} {δ : DS} {G : Gp} : (dFor t g tb E δ G) = (t δ G fun ds S G1 => dLoop S g tb E ds δ G1) := (rfl)
theorem dYes_e  {z0 : DS} {G : Gp} {Q : Bool → Gp → Prop} : (dYes z0 G Q) = (Q true G) := (rfl)
theorem dLc_e {wi : DTI} {g : DTG} {tt : DTT} {te : DTE} {vs : List Nat} {δ : DS} {G : Gp} {Q : D → Gp → Prop} : (dLc wi g tt te vs δ G Q) = (wi δ G fun ds S G1 => dComp S g tt te (wipeS δ vs) (fun acc G2 => Q (.lv acc) G2) ds [] G1) := (rfl)
theorem dJoin_e {to te : DTE} {δ : DS} {G : Gp} {Q : D → Gp → Prop} : (dJoin to te δ G Q) = (to δ G fun o G1 => optQ (strOf o) fun a => te δ G1 fun y G2 => optQ ((itemsOf y G2).bind strsOf) fun ys =>
  (ys.map (·.length)).sum + ys.length * a.length ≤ 16777216 ∧ Q (.str (Str.join a ys)) G2) := (rfl)
theorem dCall_e {sp : DSp} {tr : DTA} {δ : DS} {G : Gp} {Q : D → Gp → Prop} : (dCall sp tr δ G Q) = (tr δ G fun ds G1 => spQ sp ds G1 Q) := (rfl)
theorem setS_1 : (setS ([]) (w1) (w2)) = ([]) := (rfl)
theorem setS_2 : (setS (w1 :: r) (0) (d)) = (d :: r) := (rfl)
theorem setS_3 : (setS (x :: r) (i + 1) (d)) = (x :: setS r i d) := (rfl)
theorem getS_1 : (getS (x :: w1) (0)) = (x) := (rfl)
theorem getS_2 : (getS (w1 :: r) (i + 1)) = (getS r i) := (rfl)
theorem dAdd_1 : (dAdd (.int i) (.int j)) = (some (.int (i + j))) := (rfl)
theorem dAdd_2 : (dAdd (.str x) (.str y)) = (if x.length + y.length ≤ sizeLine then some (.str (x ++ y)) else none) := (rfl)
theorem dAdd_3 : (dAdd (.tup xs) (.tup ys)) = (if xs.length + ys.length ≤ sizeLine then some (.tup (xs ++ ys)) else none) := (rfl)
theorem dAdd_4 : (dAdd (.lv xs) (.lv ys)) = (if xs.length + ys.length ≤ sizeLine then some (.lv (xs ++ ys)) else none) := (rfl)
theorem dNeg_1 : (dNeg (.int i)) = (some (.int (-i))) := (rfl)
theorem itemsOf_1 : (itemsOf (.tup ds) (w1)) = (some ds) := (rfl)
theorem itemsOf_2 : (itemsOf (.lv ds) (w1)) = (some ds) := (rfl)
theorem itemsOf_3 : (itemsOf (.rl ds) (w1)) = (some ds) := (rfl)
theorem itemsOf_4 : (itemsOf (.ref a) (G)) = (match G a with | some (.lst ds) => some ds | _ => none) := (rfl)
theorem itemsA_1 : (itemsA ([d]) (G)) = (itemsOf d G) := (rfl)
theorem lenD_1 : (lenD ([.str z]) (w1)) = (if z.length ≤ sizeLine then some (.int (z.length : Nat)) else none) := (rfl)
theorem lenD_2 : (lenD ([.tup ds]) (w1)) = (some (.int (ds.length : Nat))) := (rfl)
theorem lenD_3 : (lenD ([.lv ds]) (w1)) = (some (.int (ds.length : Nat))) := (rfl)
theorem lenD_4 : (lenD ([.rl ds]) (w1)) = (some (.int (ds.length : Nat))) := (rfl)
theorem lenD_5 : (lenD ([.ref a]) (G)) = ((lstOf (G a)).map fun ds => .int (ds.length : Nat)) := (rfl)
theorem absD_1 : (absD ([.int i]) (w1)) = (some (.int (if i < 0 then -i else i))) := (rfl)
theorem intCD_1 : (intCD ([.int i]) (w1)) = (some (.int i)) := (rfl)
theorem intCD_2 : (intCD ([.bl b]) (w1)) = (some (.int (if b then 1 else 0))) := (rfl)
theorem max2D_1 : (max2D ([.int i, .int j]) (w1)) = (some (.int (if j > i then j else i))) := (rfl)
theorem min2D_1 : (min2D ([.int i, .int j]) (w1)) = (some (.int (if j < i then j else i))) := (rfl)
theorem ord1D_1 : (ord1D ([.str x]) (w1)) = (if x.length = 1 then some (.int (x.cps.getD 0 0 : Nat)) else none) := (rfl)
theorem ixD_1 : (ixD (.str z) (.int i) (w1)) = (if z.length ≤ sizeLine then (atI z.cps.toList i).map fun c => .str ⟨#[c]⟩ else none) := (rfl)
theorem ixD_2 : (ixD (.tup ds) (.int i) (w1)) = (atI ds i) := (rfl)
theorem ixD_3 : (ixD (.lv ds) (.int i) (w1)) = (atI ds i) := (rfl)
theorem ixD_4 : (ixD (.rl ds) (.int i) (w1)) = (atI ds i) := (rfl)
theorem ixD_5 : (ixD (.ref a) (.int i) (G)) = ((lstOf (G a)).bind fun ds => atI ds i) := (rfl)
theorem slD_1 : (slD (.tup ds) i1 i2 G) = (some (.tup (cutD ds i1 i2))) := (rfl)
theorem slD_2 : (slD (.lv ds) i1 i2 G) = (some (.lv (cutD ds i1 i2))) := (rfl)
theorem slD_3 : (slD (.rl ds) i1 i2 G) = (some (.lv (cutD ds i1 i2))) := (rfl)
theorem slD_4 : (slD (.str z) i1 i2 G) = (if z.length ≤ sizeLine then some (.str ⟨(cutD z.cps.toList i1 i2).toArray⟩) else none) := (rfl)
theorem slD_5 : (slD (.ref a) i1 i2 G) = ((lstOf (G a)).map fun ds => .lv (cutD ds i1 i2)) := (rfl)
theorem truthD_1 : (truthD (.non) (w1)) = (some false) := (rfl)
theorem truthD_2 : (truthD (.bl b) (w1)) = (some b) := (rfl)
theorem truthD_3 : (truthD (.int i) (w1)) = (some (i != 0)) := (rfl)
theorem truthD_4 : (truthD (.str x) (w1)) = (if x.length ≤ sizeLine then some ((x.length : Int) != 0) else none) := (rfl)
theorem truthD_5 : (truthD (.ref a) (G)) = (match G a with
    | some (.lst ds) => some (!ds.isEmpty)
    | some (.dic kvs) => some (!kvs.isEmpty)
    | _ => none) := (rfl)
theorem truthD_6 : (truthD (.tup ds) (w1)) = (some (!ds.isEmpty)) := (rfl)
theorem truthD_7 : (truthD (.lv ds) (w1)) = (some (!ds.isEmpty)) := (rfl)
theorem truthD_8 : (truthD (.rl ds) (w1)) = (some (!ds.isEmpty)) := (rfl)
theorem tyD_1 : (tyD (.non) (w1)) = (some "NoneType") := (rfl)
theorem tyD_2 : (tyD (.bl w1) (w2)) = (some "bool") := (rfl)
theorem tyD_3 : (tyD (.int w1) (w2)) = (some "int") := (rfl)
theorem tyD_4 : (tyD (.str w1) (w2)) = (some "str") := (rfl)
theorem tyD_5 : (tyD (.tup w1) (w2)) = (some "tuple") := (rfl)
theorem tyD_6 : (tyD (.lv w1) (w2)) = (some "list") := (rfl)
theorem tyD_7 : (tyD (.rl w1) (w2)) = (some "list") := (rfl)
theorem tyD_8 : (tyD (.dv w1) (w2)) = (some "dict") := (rfl)
theorem tyD_9 : (tyD (.ref a) (G)) = (match G a with
    | some (.lst _) => some "list"
    | some (.dic _) => some "dict"
    | _ => none) := (rfl)
theorem blOf_1 : (blOf (.bl b)) = (some b) := (rfl)
theorem intOf_1 : (intOf (.int b)) = (some b) := (rfl)
theorem refOf_1 : (refOf (.ref b)) = (some b) := (rfl)
theorem tupOf_1 : (tupOf (.tup b)) = (some b) := (rfl)
theorem strOf_1 : (strOf (.str b)) = (some b) := (rfl)
theorem lstOf_1 : (lstOf (some (.lst ds))) = (some ds) := (rfl)
theorem uncons_1 : (uncons (d :: r)) = (some (d, r)) := (rfl)
theorem isNil_1 : (isNil ([])) = (some ()) := (rfl)
theorem dPl_1 : (dPl (.ref w1)) = (false) := (rfl)
theorem dPl_2 : (dPl (.dv w1)) = (false) := (rfl)
theorem dPl_3 : (dPl (.tup ds)) = (dPlL ds) := (rfl)
theorem dPl_4 : (dPl (.lv ds)) = (dPlL ds) := (rfl)
theorem dPl_5 : (dPl (.rl ds)) = (dPlL ds) := (rfl)
theorem dPlL_1 : (dPlL ([])) = (true) := (rfl)
theorem dPlL_2 : (dPlL (d :: ds)) = (dPl d && dPlL ds) := (rfl)
theorem dDep_1 : (dDep (.tup ds)) = (dDepL ds + 1) := (rfl)
theorem dDep_2 : (dDep (.lv ds)) = (dDepL ds + 1) := (rfl)
theorem dDep_3 : (dDep (.rl ds)) = (dDepL ds + 1) := (rfl)
theorem dDepL_1 : (dDepL ([])) = (0) := (rfl)
theorem dDepL_2 : (dDepL (d :: ds)) = (max (dDep d) (dDepL ds)) := (rfl)
theorem dEq_1 : (dEq (.non) (.non)) = (true) := (rfl)
theorem dEq_2 : (dEq (.bl a) (.bl b)) = (a == b) := (rfl)
theorem dEq_3 : (dEq (.bl a) (.int j)) = ((if a then 1 else 0) == j) := (rfl)
theorem dEq_4 : (dEq (.int i) (.bl b)) = (i == (if b then 1 else 0)) := (rfl)
theorem dEq_5 : (dEq (.int i) (.int j)) = (i == j) := (rfl)
theorem dEq_6 : (dEq (.str x) (.str y)) = (x == y) := (rfl)
theorem dEq_7 : (dEq (.tup xs) (.tup ys)) = (dEqL xs ys) := (rfl)
theorem dEq_8 : (dEq (.lv xs) (.lv ys)) = (dEqL xs ys) := (rfl)
theorem dEq_9 : (dEq (.lv xs) (.rl ys)) = (dEqL xs ys) := (rfl)
theorem dEq_10 : (dEq (.rl xs) (.lv ys)) = (dEqL xs ys) := (rfl)
theorem dEq_11 : (dEq (.rl xs) (.rl ys)) = (dEqL xs ys) := (rfl)
theorem dEqL_1 : (dEqL ([]) ([])) = (true) := (rfl)
theorem dEqL_2 : (dEqL (x :: xs) (y :: ys)) = (dEq x y && dEqL xs ys) := (rfl)
theorem dIAdd_1 : (dIAdd (.int i) (.int j)) = (some (.int (i + j))) := (rfl)
theorem dIAdd_2 : (dIAdd (.str x) (.str y)) = (if x.length + y.length ≤ sizeLine then some (.str (x ++ y)) else none) := (rfl)
theorem setD_1 : (setD (.ref p) (.int k) v G) = ((lstOf (G p)).bind fun ds => (ixN ds.length k).map fun j => updG G p (.lst (ds.set j v))) := (rfl)
theorem itD_1 : (itD (.tup ds) (w1)) = (some (ds, none)) := (rfl)
theorem itD_2 : (itD (.lv ds) (w1)) = (some (ds, none)) := (rfl)
theorem itD_3 : (itD (.rl ds) (w1)) = (some (ds, none)) := (rfl)
theorem itD_4 : (itD (.ref a) (G)) = ((lstOf (G a)).map fun ds => (ds, some a)) := (rfl)
theorem itD_5 : (itD (.str z) (w1)) = (some (charsD z, none)) := (rfl)
theorem stabS_1 : (stabS ((w1, none)) (w2)) = (True) := (rfl)
theorem stabS_2 : (stabS ((ds, some a)) (G)) = (G a = some (.lst ds)) := (rfl)
theorem int1_1 : (int1 ([.int i])) = (some i) := (rfl)
theorem int2_1 : (int2 ([.int i, .int j])) = (some (i, j)) := (rfl)
theorem blsOf_1 : (blsOf ([])) = (some []) := (rfl)
theorem blsOf_2 : (blsOf (.bl b :: r)) = ((blsOf r).map (b :: ·)) := (rfl)
theorem intsOf_1 : (intsOf ([])) = (some []) := (rfl)
theorem intsOf_2 : (intsOf (.int b :: r)) = ((intsOf r).map (b :: ·)) := (rfl)
theorem strsOf_1 : (strsOf ([])) = (some []) := (rfl)
theorem strsOf_2 : (strsOf (.str b :: r)) = ((strsOf r).map (b :: ·)) := (rfl)
theorem lv1_1 : (lv1 ([.lv xs])) = (some xs) := (rfl)
theorem isNon_1 : (isNon (.non)) = (true) := (rfl)
theorem dI2_1 {C : Int → Int → Bool} {f : Int → Int → D} {i j : Int} : dI2 C f (.int i) (.int j) = if C i j = true then some (f i j) else none := (rfl)
theorem dOrd_1 {f : Int → Int → Bool} {g : List Nat → List Nat → Bool} {i j : Int} : dOrd f g (.int i) (.int j) = some (.bl (f i j)) := (rfl)
theorem dOrd_2 {f : Int → Int → Bool} {g : List Nat → List Nat → Bool} {x y : Str} : dOrd f g (.str x) (.str y) = some (.bl (g x.cps.toList y.cps.toList)) := (rfl)
theorem spOf_e {m n : Nat} {t : DTS} {ds : List D} {G : Gp} {Q : D → Gp → Prop} {E : DXK} : spOf m n t ds G Q E = (ds.length = m ∧ t { nx := fun _ G' => rtOf Q .non G', rt := rtOf Q } (ds.map some ++ List.replicate n none) G) := (rfl)
theorem optQ_e {α : Type} {x : α} {k : α → Prop} : optQ (some x) k = k x := (rfl)
theorem dCond_te {A B : Prop} : dCond true A B = A := (rfl)
theorem dCond_fe {A B : Prop} : dCond false A B = B := (rfl)
theorem bindS_e {α β : Type} {x : α} {f : α → Option β} : (some x).bind f = f x := (rfl)
theorem mapS_e {α β : Type} {x : α} {f : α → β} : (some x).map f = some (f x) := (rfl)
theorem dOkEq_e {x y : D} : okEq x y = (dPl x && dPl y && decide (min (dDep x) (dDep y) ≤ 190)) := (rfl)
theorem wipeS_1 {δ : DS} : wipeS δ [] = δ := (rfl)
theorem wipeS_2 {δ : DS} {v : Nat} {vs : List Nat} : wipeS δ (v :: vs) = setS (wipeS δ vs) v none := (rfl)
theorem isNon_2 {i : Int} : isNon (.int i) = false := (rfl)
theorem isNon_3 {i : Str} : isNon (.str i) = false := (rfl)
theorem isNon_4 {i : List D} : isNon (.tup i) = false := (rfl)
theorem dPl_non  : dPl .non = true := (rfl)
theorem dDep_non  : dDep .non = 0 := (rfl)
theorem dPl_bl {a : Bool} : dPl (.bl a) = true := (rfl)
theorem dDep_bl {a : Bool} : dDep (.bl a) = 0 := (rfl)
theorem dPl_int {a : Int} : dPl (.int a) = true := (rfl)
theorem dDep_int {a : Int} : dDep (.int a) = 0 := (rfl)
theorem dPl_str {a : Str} : dPl (.str a) = true := (rfl)
theorem dDep_str {a : Str} : dDep (.str a) = 0 := (rfl)
theorem dEq_non_bl  {b : Bool} : dEq .non (.bl b) = false := (rfl)
theorem dEq_non_int  {b : Int} : dEq .non (.int b) = false := (rfl)
theorem dEq_non_str  {b : Str} : dEq .non (.str b) = false := (rfl)
theorem dEq_non_tup  {b : List D} : dEq .non (.tup b) = false := (rfl)
theorem dEq_non_lv  {b : List D} : dEq .non (.lv b) = false := (rfl)
theorem dEq_bl_non {a : Bool}  : dEq (.bl a) .non = false := (rfl)
theorem dEq_bl_str {a : Bool} {b : Str} : dEq (.bl a) (.str b) = false := (rfl)
theorem dEq_bl_tup {a : Bool} {b : List D} : dEq (.bl a) (.tup b) = false := (rfl)
theorem dEq_bl_lv {a : Bool} {b : List D} : dEq (.bl a) (.lv b) = false := (rfl)
theorem dEq_int_non {a : Int}  : dEq (.int a) .non = false := (rfl)
theorem dEq_int_str {a : Int} {b : Str} : dEq (.int a) (.str b) = false := (rfl)
theorem dEq_int_tup {a : Int} {b : List D} : dEq (.int a) (.tup b) = false := (rfl)
theorem dEq_int_lv {a : Int} {b : List D} : dEq (.int a) (.lv b) = false := (rfl)
theorem dEq_str_non {a : Str}  : dEq (.str a) .non = false := (rfl)
theorem dEq_str_bl {a : Str} {b : Bool} : dEq (.str a) (.bl b) = false := (rfl)
theorem dEq_str_int {a : Str} {b : Int} : dEq (.str a) (.int b) = false := (rfl)
theorem dEq_str_tup {a : Str} {b : List D} : dEq (.str a) (.tup b) = false := (rfl)
theorem dEq_str_lv {a : Str} {b : List D} : dEq (.str a) (.lv b) = false := (rfl)
theorem dEq_tup_non {a : List D}  : dEq (.tup a) .non = false := (rfl)
theorem dEq_tup_bl {a : List D} {b : Bool} : dEq (.tup a) (.bl b) = false := (rfl)
theorem dEq_tup_int {a : List D} {b : Int} : dEq (.tup a) (.int b) = false := (rfl)
theorem dEq_tup_str {a : List D} {b : Str} : dEq (.tup a) (.str b) = false := (rfl)
theorem dEq_tup_lv {a : List D} {b : List D} : dEq (.tup a) (.lv b) = false := (rfl)
theorem dEq_lv_non {a : List D}  : dEq (.lv a) .non = false := (rfl)
theorem dEq_lv_bl {a : List D} {b : Bool} : dEq (.lv a) (.bl b) = false := (rfl)
theorem dEq_lv_int {a : List D} {b : Int} : dEq (.lv a) (.int b) = false := (rfl)
theorem dEq_lv_str {a : List D} {b : Str} : dEq (.lv a) (.str b) = false := (rfl)
theorem dEq_lv_tup {a : List D} {b : List D} : dEq (.lv a) (.tup b) = false := (rfl)
theorem isiB_e {T n : String} : isiB T n = ((n == T) || (n == "bool" && T == "int")) := (rfl)
end DL
set_option Elab.async false
set_option linter.all false
set_option maxRecDepth 100000
set_option maxHeartbeats 400000
set_option autoImplicit true
namespace DL
open PySem PySem.Spec PyProof.Rows L2
/-! ### text times a number, is of bools, three comparisons in a row, a def that promises nothing -/
theorem all_reps {p : Nat → Bool} {xs : Array Nat} (hx : xs.all p = true) : ∀ (k : Nat) (acc : Array Nat), acc.all p = true → ((List.replicate k xs).foldl (· ++ ·) acc).all p = true
  | 0, acc, h => h
  | k + 1, acc, h => by
    rw [List.replicate_succ, List.foldl_cons]
    refine all_reps hx k _ ?_
    rw [Array.all_append, h, hx]
    rfl
theorem sOk_mul {x : Str} (n : Int) (h : sOk x = true) : sOk (Txt.mul x n) = true := by
  unfold Txt.mul
  split
  · decide +kernel
  · split
    · exact h
    · exact all_reps (p := fun z => decide (z < 0x110000)) h _ _ (by decide +kernel)
section
variable {X : Cx} {K : PySem.W.Frag} {a b c d : Expr} {ta tb tc td : DTE} {pos : Pos}
def rMulS : R2 := fun x y H Q => ∃ i n, x = .str i ∧ y = .int n ∧ (i.length ≤ 16 ∧ -(2 ^ 63) ≤ n ∧ n ≤ 1048576) ∧ Q (.str (Txt.mul i n)) H
theorem op_mulS : OpR X (binaryOp .Mult) rMulS := by
  intro pins s σ H x y v u Q I rx ry h
  obtain ⟨i, n, rfl, rfl, ⟨h1, h2, h3⟩, q⟩ := h
  obtain ⟨t, rfl⟩ := rx
  obtain ⟨t', rfl⟩ := ry
  exact SB.mul (mulOk_of 16 1048576 h1 h3 h2 (by decide) (by decide)) fun t' k => ⟨.str _, H, I.tok _, ⟨_, rfl⟩, q⟩
def dMulS : D → D → Option D
  | .str x, .int n => if decide (x.length ≤ 16) && decide (-9223372036854775808 ≤ n) && decide (n ≤ 1048576) then some (.str (Txt.mul x n)) else none
  | _, _ => none
theorem dMulS_1 {x : Str} {n : Int} : dMulS (.str x) (.int n) = if decide (x.length ≤ 16) && decide (-9223372036854775808 ≤ n) && decide (n ≤ 1048576) then some (.str (Txt.mul x n)) else none := (rfl)
theorem lift_mulS : Lift2 K rMulS (dPure2 dMulS) := by
  intro F H G d e v u Q Q0 R rd re q k
  replace q := optQ_ex q
  obtain ⟨z, hz, q⟩ := q
  unfold dMulS at hz
  split at hz
  · split at hz
    · rename_i hl
      cases hz
      rw [Bool.and_eq_true, Bool.and_eq_true, decide_eq_true_eq, decide_eq_true_eq, decide_eq_true_eq] at hl
      exact ⟨_, _, rd.1, re, ⟨hl.1.1, by omega, hl.2⟩, fin R k q ⟨rfl, sOk_mul _ rd.2⟩⟩
    · cases hz
  · cases hz
theorem q_repS (ha : QE X a ta) (hb : QE X b tb) : QE X (.BinOp a .Mult b pos) (dOp (dPure2 dMulS) ta tb) := q_op op_mulS lift_mulS ha hb
def dIsB (n : Bool) : R2d := fun x y G Q => optQ (blOf x) fun a => optQ (blOf y) fun b => Q (.bl (xor n (decide (a = b)))) G
theorem dIsB_e {n : Bool} {x y : D} {G : Gp} {Q : D → Gp → Prop} : dIsB n x y G Q = optQ (blOf x) fun a => optQ (blOf y) fun b => Q (.bl (xor n (decide (a = b)))) G := (rfl)
theorem lift_isB : Lift2 K rIsB (dIsB false) := by
  intro F H G d e v u Q Q0 R rd re q k
  obtain ⟨x, ex, q⟩ := optQ_ex q
  obtain ⟨y, ey, q⟩ := optQ_ex q
  rw [blOf_eq ex] at rd
  rw [blOf_eq ey] at re
  exact ⟨x, y, rd, re, fin R k q (by rw [Bool.false_xor]; rfl)⟩
theorem lift_notB : Lift2 K rNotB (dIsB true) := by
  intro F H G d e v u Q Q0 R rd re q k
  obtain ⟨x, ex, q⟩ := optQ_ex q
  obtain ⟨y, ey, q⟩ := optQ_ex q
  rw [blOf_eq ex] at rd
  rw [blOf_eq ey] at re
  exact ⟨x, y, rd, re, fin R k q (by rw [Bool.true_xor]; rfl)⟩
theorem u_isN {σ : L2.St} {Q : VK} (h : up K (dUn (dIsN false) ta) σ H Q) : tIsN (up K ta) σ H Q := by
  refine up1 (r0 := fun x H Q => Q (.bl (decide (x = .non))) H) ?_ h
  intro F H G d v Q Q0 R rd q k
  show Q0 (.bl (decide (v = .non))) H
  rw [isN_ok rd]
  have q' : Q (.bl (xor false (isNon d))) G := q
  cases d <;> exact fin (d := .bl _) R k q' rfl
theorem u_notN {σ : L2.St} {Q : VK} (h : up K (dUn (dIsN true) ta) σ H Q) : tNotN (up K ta) σ H Q := by
  refine up1 (r0 := fun x H Q => Q (.bl (!decide (x = .non))) H) ?_ h
  intro F H G d v Q Q0 R rd q k
  show Q0 (.bl (!decide (v = .non))) H
  rw [isN_ok rd]
  have q' : Q (.bl (xor true (isNon d))) G := q
  cases d <;> exact fin (d := .bl _) R k q' rfl
theorem q_tisN {j pos'} (ha : QE X a ta) : QT X (.Compare a [.Is] [.Constant .none j pos'] pos) (dTest (dUn (dIsN false) ta)) := PTmono (pt_cmp (pc_isN ha) rfl) fun σ H Q h => upTest (t0 := tIsN (up X.K ta)) (fun _ _ _ h => u_isN h) h
theorem q_tnotN {j pos'} (ha : QE X a ta) : QT X (.Compare a [.IsNot] [.Constant .none j pos'] pos) (dTest (dUn (dIsN true) ta)) := PTmono (pt_cmp (pc_notN ha) rfl) fun σ H Q h => upTest (t0 := tNotN (up X.K ta)) (fun _ _ _ h => u_notN h) h
/-- three comparisons in a row -/
def tChain3 (r r' r'' : R2) (ta tb tc td : TE) : TE := fun σ H Q => ta σ H fun x H1 => tb σ H1 fun y H2 => r x y H2 fun z H3 => ∃ k, z = .bl k ∧
  (if k = true then tc σ H3 fun w H4 => r' y w H4 fun z2 H5 => ∃ k2, z2 = .bl k2 ∧ (if k2 = true then td σ H5 fun v H6 => r'' w v H6 Q else Q (.bl false) H5) else Q (.bl false) H3)
theorem pe_chain3 {op op' op'' : CmpOp} {r r' r'' : R2} {ta tb tc td : TE} (ho : OpR X (compareOp op) r) (ho' : OpR X (compareOp op') r') (ho'' : OpR X (compareOp op'') r'') (ha : PE X a ta) (hb : PE X b tb) (hc : PE X c tc) (hd : PE X d td)
    (hm : lastMarks [op, op', op''] [b, c, d] = false := by with_unfolding_all rfl) : PE X (.Compare a [op, op', op''] [b, c, d] pos) (tChain3 r r' r'' ta tb tc td) := by
  refine ⟨fun pins s σ H Q I h => ?_⟩
  refine Compare_chain (thn (ha.run pins s σ H _ I h) fun v s1 ⟨x, H1, I1, r1, q1⟩ => chain_link (thn (hb.run pins s1 σ H1 _ I1 q1) fun u s2 ⟨y, H2, I2, r2, q2⟩ =>
    thn (ho pins s2 σ H2 x y v u _ I2 r1 r2 q2) fun d s3 ⟨z, H3, I3, r3, k, e, q3⟩ => ?_)) hm
  subst e
  cases r3
  refine wpAny_truthy_bool ?_
  cases k with
  | false => exact ite_ff ⟨.bl false, H3, I3, rfl, q3⟩
  | true =>
    refine ite_tt (chain_link (thn (hc.run pins s3 σ H3 _ I3 q3) fun w' s4 ⟨z', H4, I4, r4, q4⟩ => thn (ho' pins s4 σ H4 y z' u w' _ I4 r2 r4 q4) fun d s5 ⟨z2, H5, I5, r5, k2, e2, q5⟩ => ?_))
    subst e2
    cases r5
    refine wpAny_truthy_bool ?_
    cases k2 with
    | false => exact ite_ff ⟨.bl false, H5, I5, rfl, q5⟩
    | true => exact ite_tt (chain_last (thn (hd.run pins s5 σ H5 _ I5 q5) fun w2 s6 ⟨z3, H6, I6, r6, q6⟩ => ho'' pins s6 σ H6 z' z3 w' w2 Q I6 r4 r6 q6))
def dChain3 (r r' r'' : R2d) (ta tb tc td : DTE) : DTE := fun δ G Q => ta δ G fun x G1 => tb δ G1 fun y G2 => r x y G2 fun z G3 => optQ (blOf z) fun c => dCond c (tc δ G3 fun w G4 => r' y w G4 fun z2 G5 => optQ (blOf z2) fun c2 => dCond c2 (td δ G5 fun v G6 => r'' w v G6 Q) (Q (.bl false) G5)) (Q (.bl false) G3)
theorem dChain3_e {r r' r'' : R2d} {ta tb tc td : DTE} {δ : DS} {G : Gp} {Q : D → Gp → Prop} : dChain3 r r' r'' ta tb tc td δ G Q = (ta δ G fun x G1 => tb δ G1 fun y G2 => r x y G2 fun z G3 => optQ (blOf z) fun c => dCond c (tc δ G3 fun w G4 => r' y w G4 fun z2 G5 => optQ (blOf z2) fun c2 => dCond c2 (td δ G5 fun v G6 => r'' w v G6 Q) (Q (.bl false) G5)) (Q (.bl false) G3)) := (rfl)
theorem upChain3 {r0 r0' r0'' : R2} {r r' r'' : R2d} (l : Lift2 K r0 r) (l' : Lift2 K r0' r') (l'' : Lift2 K r0'' r'') {σ : L2.St} {Q : VK} (h : up K (dChain3 r r' r'' ta tb tc td) σ H Q) : tChain3 r0 r0' r0'' (up K ta) (up K tb) (up K tc) (up K td) σ H Q := by
  obtain ⟨F, δ, G, Q', R, S, q, k⟩ := h
  refine ⟨F, δ, G, _, R, S, q, fun v H1 ⟨d, F1, G1, k1, R1, p1, q1⟩ => ?_⟩
  refine ⟨F1, δ, G1, _, R1, S.mono R k1, q1, fun u H2 ⟨e, F2, G2, k2, R2, p2, q2⟩ => ?_⟩
  have S2 := (S.mono R k1).mono R1 k2
  refine l F2 H2 G2 d e v u _ _ R2 (Rep.mono R1 k2 d v p1) p2 q2 fun v' H' ⟨z, F3, G3, k3, R3, p3, q3⟩ => ?_
  replace q3 := optQ_ex q3
  obtain ⟨x, ex, q3⟩ := q3
  have ez := blOf_eq ex
  subst ez
  cases x with
  | false =>
    refine ⟨false, p3, ?_⟩
    rw [if_neg Bool.false_ne_true]
    exact k _ _ ⟨.bl false, F3, G3, (k1.trans k2).trans k3, R3, rfl, q3⟩
  | true =>
    refine ⟨true, p3, ?_⟩
    rw [if_pos rfl]
    have S3 := S2.mono R2 k3
    refine ⟨F3, δ, G3, _, R3, S3, q3, fun w H4 ⟨f, F4, G4, k4, R4, p4, q4⟩ => ?_⟩
    have S4 := S3.mono R3 k4
    refine l' F4 H4 G4 e f u w _ _ R4 (Rep.mono R3 k4 e u (Rep.mono R2 k3 e u p2)) p4 q4 fun v' H' ⟨z, F5, G5, k5, R5, p5, q5⟩ => ?_
    replace q5 := optQ_ex q5
    obtain ⟨x, ex, q5⟩ := q5
    have ez := blOf_eq ex
    subst ez
    cases x with
    | false =>
      refine ⟨false, p5, ?_⟩
      rw [if_neg Bool.false_ne_true]
      exact k _ _ ⟨.bl false, F5, G5, (((k1.trans k2).trans k3).trans k4).trans k5, R5, rfl, q5⟩
    | true =>
      refine ⟨true, p5, ?_⟩
      rw [if_pos rfl]
      refine ⟨F5, δ, G5, _, R5, S4.mono R4 k5, q5, fun y H6 ⟨g, F6, G6, k6, R6, p6, q6⟩ => ?_⟩
      exact l'' F6 H6 G6 f g w y Q' Q R6 (Rep.mono R5 k6 f w (Rep.mono R4 k5 f w p4)) p6 q6 fun v' H' q7 => k v' H' (.trans (((((k1.trans k2).trans k3).trans k4).trans k5).trans k6) q7)
theorem q_chain3 {op op' op'' : CmpOp} {r0 r0' r0'' : R2} {r r' r'' : R2d} (ho : OpR X (compareOp op) r0) (l : Lift2 X.K r0 r) (ho' : OpR X (compareOp op') r0') (l' : Lift2 X.K r0' r') (ho'' : OpR X (compareOp op'') r0'') (l'' : Lift2 X.K r0'' r'')
    (ha : QE X a ta) (hb : QE X b tb) (hc : QE X c tc) (hd : QE X d td) (hm : lastMarks [op, op', op''] [b, c, d] = false := by with_unfolding_all rfl) : QE X (.Compare a [op, op', op''] [b, c, d] pos) (dChain3 r r' r'' ta tb tc td) :=
  PEmono (pe_chain3 ho ho' ho'' ha hb hc hd hm) fun _ _ _ h => upChain3 l l' l'' h
/-- nothing is promised -/
def dBot (m n : Nat) : DSp := spOf m n fun _ _ _ => False
theorem q_bot {ss : List Stmt} : QSs X ss (fun _ _ _ => False) := ⟨fun pins s σ H D I h => by obtain ⟨_, _, _, _, _, _, h, _⟩ := h; exact h.elim⟩
end
end DL
set_option Elab.async false
set_option linter.all false
set_option maxRecDepth 100000
set_option maxHeartbeats 400000
set_option autoImplicit true
namespace DL
open PySem PySem.Spec PyProof.Rows L2
/-! ### dictionaries: names or numbers to data -/
def kvOf (y : D) (G : Gp) : Option (List (Key × D)) := match y with
  | .dv kvs => some kvs
  | .ref a => match G a with
    | some (.dic kvs) => some kvs
    | _ => none
  | _ => none
def keyOf : D → Option Key
  | .int i => some (.inl i)
  | .str x => some (.inr x)
  | _ => none
def valD (kvs : List (Key × D)) (k : Key) : Option D := (kvs.find? fun kv => decide (kv.1 = k)).map (·.2)
def putD (kvs : List (Key × D)) (k : Key) (v : D) : List (Key × D) :=
  if (kvs.any fun kv => decide (kv.1 = k)) = true then kvs.map (fun kv => if kv.1 = k then (kv.1, v) else kv) else kvs ++ [(k, v)]
section
variable {X : Cx} {K : PySem.W.Frag} {F F' : Fr} {H H' : Hp} {G G' : Gp}
theorem keyOf_rep {d : D} {v : V} {k : Key} (h : keyOf d = some k) (r : Rep K F H d v) : v = kV k := by
  cases d with
  | int i => cases h; exact r
  | str x => cases h; exact r.1
  | _ => cases h
theorem kvOf_rep {d : D} {v : V} {kvs : List (Key × D)} (R : Rel K F H G) (h : kvOf d G = some kvs) (r : Rep K F H d v) : ∃ a xs, v = .ref a ∧ Rd H a (.dK xs) ∧ RepK K F H kvs xs := by
  cases d with
  | dv ks =>
    cases h
    obtain ⟨a, xs, e, ⟨_, h⟩, q⟩ := r
    exact ⟨a, xs, e, h, q⟩
  | ref a =>
    cases r
    simp only [kvOf] at h
    split at h
    · rename_i ks e
      cases h
      obtain ⟨xs, h1, h2⟩ := R.obj a _ e
      exact ⟨a, xs, rfl, .of h1, h2⟩
    · cases h
  | _ => cases h
theorem RepK.len : ∀ {kvs : List (Key × D)} {xs : List (Key × V)}, RepK K F H kvs xs → xs.length = kvs.length
  | [], _, h => by cases h; rfl
  | p :: ds, _, ⟨k, v, r, e, h, q⟩ => by
    subst e
    rw [List.length_cons, List.length_cons, RepK.len q]
theorem valK_rep (k : Key) : ∀ {kvs : List (Key × D)} {xs : List (Key × V)}, RepK K F H kvs xs → (∀ d, valD kvs k = some d → ∃ v, valV xs k = some v ∧ Rep K F H d v) ∧ (valD kvs k = none → valV xs k = none)
  | [], _, h => by
    cases h
    exact ⟨fun d e => (by cases e), fun _ => rfl⟩
  | (k1, d1) :: ds, _, ⟨k2, v, r, e, h, q⟩ => by
    subst e
    obtain ⟨h1, h2⟩ := h
    subst h1
    have ih := valK_rep k q
    by_cases z : k2 = k
    · have e1 : valD ((k2, d1) :: ds) k = some d1 := by
        unfold valD
        rw [List.find?_cons_of_pos (by simpa using z)]
        rfl
      have e2 : valV ((k2, v) :: r) k = some v := valV_pos z
      refine ⟨fun d e => ?_, fun e => ?_⟩
      · rw [e1] at e
        cases e
        exact ⟨v, e2, h2⟩
      · rw [e1] at e
        cases e
    · have e1 : valD ((k2, d1) :: ds) k = valD ds k := by
        unfold valD
        rw [List.find?_cons_of_neg (by simpa using z)]
      have e2 : valV ((k2, v) :: r) k = valV r k := valV_neg z
      rw [e1, e2]
      exact ih
theorem anyK_rep (k : Key) : ∀ {kvs : List (Key × D)} {xs : List (Key × V)}, RepK K F H kvs xs → (xs.any fun kv => decide (kv.1 = k)) = kvs.any fun kv => decide (kv.1 = k)
  | [], _, h => by cases h; rfl
  | (k1, d1) :: ds, _, ⟨k2, v, r, e, h, q⟩ => by
    subst e
    obtain ⟨h1, h2⟩ := h
    subst h1
    rw [List.any_cons, List.any_cons, anyK_rep k q]
theorem mapK_rep (k : Key) {d : D} {v : V} (h : Rep K F H d v) : ∀ {kvs : List (Key × D)} {xs : List (Key × V)}, RepK K F H kvs xs → RepK K F H (kvs.map fun kv => if kv.1 = k then (kv.1, d) else kv) (xs.map fun kv => if kv.1 = k then (kv.1, v) else kv)
  | [], _, q => by cases q; exact rfl
  | (k1, d1) :: ds, _, ⟨k2, v2, r, e, h1, q⟩ => by
    subst e
    obtain ⟨h1, h2⟩ := h1
    subst h1
    rw [List.map_cons, List.map_cons]
    by_cases z : k2 = k
    · rw [if_pos z, if_pos z]
      exact ⟨_, _, _, rfl, ⟨rfl, h⟩, mapK_rep k h q⟩
    · rw [if_neg z, if_neg z]
      exact ⟨_, _, _, rfl, ⟨rfl, h2⟩, mapK_rep k h q⟩
theorem RepK.snoc {k : Key} {d : D} {v : V} (h : Rep K F H d v) : ∀ {kvs : List (Key × D)} {xs : List (Key × V)}, RepK K F H kvs xs → RepK K F H (kvs ++ [(k, d)]) (xs ++ [(k, v)])
  | [], _, q => by cases q; exact ⟨_, _, _, rfl, ⟨rfl, h⟩, rfl⟩
  | p :: ds, _, ⟨k2, v2, r, e, h1, q⟩ => by
    subst e
    exact ⟨_, _, _, rfl, h1, RepK.snoc h q⟩
theorem putK_rep {k : Key} {d : D} {v : V} (h : Rep K F H d v) {kvs : List (Key × D)} {xs : List (Key × V)} (q : RepK K F H kvs xs) : RepK K F H (putD kvs k d) (putK xs k v) := by
  unfold putD putK
  rw [anyK_rep k q]
  split
  · exact mapK_rep k h q
  · exact q.snoc h
variable {a b c d : Expr} {ta tb tc td : DTE} {pos : Pos}
/-- an empty one -/
def dDic : DTE := fun _ G Q => ∀ p, G p = none → Q (.ref p) (updG G p (.dic []))
theorem dDic_e {δ : DS} {G : Gp} {Q : D → Gp → Prop} : dDic δ G Q = ∀ p, G p = none → Q (.ref p) (updG G p (.dic [])) := (rfl)
theorem q_dic : QE X (.Dict [] [] pos) dDic := PEmono pe_dnewK fun σ H Q ⟨F, δ, G, Q', R, S, q, k⟩ => fun p hp =>
  k _ _ ⟨.ref p, F, updG G p (.dic []), keep_obj R hp, rel_obj R hp ⟨[], upd_same, rfl⟩, rfl, q p (R.off0 hp)⟩
/-- d[k] -/
def dDGet : R2d := fun x y G Q => optQ (kvOf x G) fun kvs => optQ (keyOf y) fun k => optQ (valD kvs k) fun v => Q v G
theorem dDGet_e {x y : D} {G : Gp} {Q : D → Gp → Prop} : dDGet x y G Q = optQ (kvOf x G) fun kvs => optQ (keyOf y) fun k => optQ (valD kvs k) fun v => Q v G := (rfl)
def rDGet : R2 := fun x y H Q => ∃ a v, x = .ref a ∧ DGet H a y (some v) ∧ Q v H
theorem lift_dget : Lift2 K rDGet dDGet := by
  intro F H G d e v u Q Q0 R rd re q k
  obtain ⟨kvs, e1, q⟩ := optQ_ex q
  obtain ⟨ky, e2, q⟩ := optQ_ex q
  obtain ⟨z, e3, q⟩ := optQ_ex q
  obtain ⟨a, xs, rfl, h1, h2⟩ := kvOf_rep R e1 rd
  have ey := keyOf_rep e2 re
  obtain ⟨w, h3, h4⟩ := (valK_rep ky h2).1 z e3
  exact ⟨a, w, rfl, .inl ⟨xs, ky, h1, ey, h3.symm⟩, fin R k q h4⟩
theorem q_dget (hu : X.A.units + 190 < cLine) (ha : QE X a ta) (hb : QE X b tb) (hs : NoSl b := by intro _ _; rfl) : QE X (.Subscript a b pos) (dOp dDGet ta tb) := PEmono (pe_dget (by omega) ha hb hs) fun σ H Q h => up2 (r0 := rDGet) lift_dget h
/-- k in d -/
def dDIn (n : Bool) : R2d := fun y x G Q => optQ (kvOf x G) fun kvs => optQ (keyOf y) fun k => Q (.bl (xor n (valD kvs k).isSome)) G
theorem dDIn_e {n : Bool} {x y : D} {G : Gp} {Q : D → Gp → Prop} : dDIn n y x G Q = optQ (kvOf x G) fun kvs => optQ (keyOf y) fun k => Q (.bl (xor n (valD kvs k).isSome)) G := (rfl)
def rDIn (n : Bool) : R2 := fun y x H Q => ∃ a o, x = .ref a ∧ DGet H a y o ∧ Q (.bl (xor n o.isSome)) H
theorem op_din (hu : X.A.units + 190 < cLine) : OpR X (compareOp .In) (rDIn false) := by
  intro pins s σ H x y v u Q I rx ry h
  obtain ⟨a, o, rfl, g, q⟩ := h
  obtain rfl : u = Value.ref a := ry
  exact d_in (by omega) I g rx fun s' I' => ⟨.bl o.isSome, H, I', rfl, by rw [Bool.false_xor] at q; exact q⟩
theorem op_dnin (hu : X.A.units + 190 < cLine) : OpR X (compareOp .NotIn) (rDIn true) := by
  intro pins s σ H x y v u Q I rx ry h
  obtain ⟨a, o, rfl, g, q⟩ := h
  obtain rfl : u = Value.ref a := ry
  exact d_notIn (by omega) I g rx fun s' I' => ⟨.bl (!o.isSome), H, I', rfl, by rw [Bool.true_xor] at q; exact q⟩
theorem lift_din {n : Bool} : Lift2 K (rDIn n) (dDIn n) := by
  intro F H G d e v u Q Q0 R rd re q k
  obtain ⟨kvs, e1, q⟩ := optQ_ex q
  obtain ⟨ky, e2, q⟩ := optQ_ex q
  obtain ⟨a, xs, rfl, h1, h2⟩ := kvOf_rep R e1 re
  have ey := keyOf_rep e2 rd
  refine ⟨a, valV xs ky, rfl, .inl ⟨xs, ky, h1, ey, rfl⟩, ?_⟩
  have e3 : (valV xs ky).isSome = (valD kvs ky).isSome := by
    obtain ⟨s1, s2⟩ := valK_rep ky h2
    cases e : valD kvs ky with
    | none => rw [s2 e]; rfl
    | some z =>
      obtain ⟨w, h3, _⟩ := s1 z e
      rw [h3]; rfl
  rw [e3]
  exact fin R k q rfl
theorem q_din (hu : X.A.units + 190 < cLine) (ha : QE X a ta) (hb : QE X b tb) (hm : behindInMarks .In b = false := by rfl) : QE X (.Compare a [.In] [b] pos) (dOp (dDIn false) ta tb) := q_cmp (op_din hu) lift_din ha hb hm
theorem q_dnin (hu : X.A.units + 190 < cLine) (ha : QE X a ta) (hb : QE X b tb) (hm : behindInMarks .NotIn b = false := by rfl) : QE X (.Compare a [.NotIn] [b] pos) (dOp (dDIn true) ta tb) := q_cmp (op_dnin hu) lift_din ha hb hm
theorem q_tdin (hu : X.A.units + 190 < cLine) (ha : QE X a ta) (hb : QE X b tb) (hm : behindInMarks .In b = false := by rfl) : QT X (.Compare a [.In] [b] pos) (dTest (dOp (dDIn false) ta tb)) := q_tcmp (op_din hu) lift_din ha hb hm
theorem q_tdnin (hu : X.A.units + 190 < cLine) (ha : QE X a ta) (hb : QE X b tb) (hm : behindInMarks .NotIn b = false := by rfl) : QT X (.Compare a [.NotIn] [b] pos) (dTest (dOp (dDIn true) ta tb)) := q_tcmp (op_dnin hu) lift_din ha hb hm
/-- d[k] = v -/
def dicOf : D → Gp → Option (Addr × List (Key × D))
  | .ref a, G => match G a with
    | some (.dic kvs) => some (a, kvs)
    | _ => none
  | _, _ => none
def dSubD (to ti : DTE) : DTG := fun v δ G Q => to δ G fun o G1 => ti δ G1 fun i G2 => optQ (dicOf o G2) fun p => optQ (keyOf i) fun k => p.2.length < sizeLine ∧ Q δ (updG G2 p.1 (.dic (putD p.2 k v)))
theorem dSubD_e {to ti : DTE} {v : D} {δ : DS} {G : Gp} {Q : DS → Gp → Prop} : dSubD to ti v δ G Q = to δ G fun o G1 => ti δ G1 fun i G2 => optQ (dicOf o G2) fun p => optQ (keyOf i) fun k => p.2.length < sizeLine ∧ Q δ (updG G2 p.1 (.dic (putD p.2 k v))) := (rfl)
theorem dicOf_eq {o : D} {G : Gp} {p : Addr × List (Key × D)} (h : dicOf o G = some p) : o = .ref p.1 ∧ G p.1 = some (.dic p.2) := by
  cases o with
  | ref a =>
    simp only [dicOf] at h
    split at h
    · rename_i kvs e
      cases h
      exact ⟨rfl, e⟩
    · cases h
  | _ => cases h
theorem qg_subD {to ti : DTE} (hu : X.A.units + 190 < cLine) (ho : QE X a to) (hi : QE X b ti)
    (ha : ∀ v, assign (.Subscript a b pos) X.env v = (do let o ← holding [v] (eval a X.env); let i ← holding [v, o] (eval b X.env); standAt pos; holding [v, o, i] (setItem o i v); release [v, o, i] []) := by intro _; rfl) : QG X Pany (.Subscript a b pos) (dSubD to ti) :=
  PGmono (pg_sub ho hi (set_dict (by omega)) ha) fun v σ H Q ⟨F, d, δ, G, Q', R, r, S, q, k⟩ => by
    refine ⟨F, δ, G, _, R, S, q, fun w H1 ⟨o, F1, G1, k1, R1, p1, q1⟩ => ?_⟩
    have S1 := S.mono R k1
    refine ⟨F1, δ, G1, _, R1, S1, q1, fun x H2 ⟨i, F2, G2, k2, R2, p2, q2⟩ => ?_⟩
    have S2 := S1.mono R1 k2
    have r2 := Rep.mono R1 k2 d v (Rep.mono R k1 d v r)
    obtain ⟨⟨p, kvs⟩, hz, q3⟩ := optQ_ex q2
    obtain ⟨ky, hk, hl, q4⟩ := optQ_ex q3
    obtain ⟨eo, eg⟩ := dicOf_eq hz
    subst eo
    cases p1
    have ey := keyOf_rep hk p2
    obtain ⟨xs, h1, h2⟩ := R2.obj p _ eg
    have kk := keep_set (F := F2) (H := H2) (o := .dK (putK xs ky v)) (m' := .dic (putD kvs ky d)) eg
    refine ⟨p, _, rfl, .inl ⟨xs, ky, h1, ey, by rw [h2.len]; exact hl, rfl⟩, ?_⟩
    exact k _ _ trivial ⟨δ, F2, _, (k1.trans k2).trans kk, rel_set R2 eg ⟨_, upd_same, RepK.mono R2 kk _ _ (putK_rep r2 h2)⟩, S2.mono R2 kk, q4⟩
end
end DL
set_option Elab.async false
set_option linter.all false
set_option maxRecDepth 100000
set_option maxHeartbeats 400000
set_option autoImplicit true
namespace DL
open PySem PySem.Spec PyProof.Rows L2
/-! ### for over the names of a dictionary that nobody changes -/
section
variable {X : Cx} {K : PySem.W.Frag} {F F' : Fr} {H H' : Hp} {G G' : Gp} {a : Addr} {xs : List (Key × V)} {od : Obj}
theorem stay_lock (h : H a = some (.dK xs)) : Stay F H F (upd H a (.frz od (.dK xs))) where
  tup b ys q := by
    have n : b ≠ a := fun z => by
      subst z
      rcases q with q | ⟨o, q⟩ <;> (rw [h] at q; cases q)
    exact q.elim (fun q => .inl (by rw [upd_ne n]; exact q)) fun ⟨o, q⟩ => .inr ⟨o, by rw [upd_ne n]; exact q⟩
  lst b ys f q := ⟨f, by rw [upd_ne (fun z => by subst z; rw [h] at q; cases q)]; exact q⟩
  frz b ob ys q := by rw [upd_ne (fun z => by subst z; rw [h] at q; cases q)]; exact q
  dic b ys f q := by
    refine ⟨f, ?_⟩
    by_cases n : b = a
    · subst n
      rcases q with q | ⟨o, q⟩
      · rw [h] at q
        cases q
        exact .inr ⟨od, upd_same⟩
      · rw [h] at q
        cases q
    · exact q.elim (fun q => .inl (by rw [upd_ne n]; exact q)) fun ⟨o, q⟩ => .inr ⟨o, by rw [upd_ne n]; exact q⟩
theorem stay_free (h : H a = some (.frz od (.dK xs))) : Stay F H F (upd H a (.dK xs)) where
  tup b ys q := by
    have n : b ≠ a := fun z => by
      subst z
      rcases q with q | ⟨o, q⟩ <;> (rw [h] at q; cases q)
    exact q.elim (fun q => .inl (by rw [upd_ne n]; exact q)) fun ⟨o, q⟩ => .inr ⟨o, by rw [upd_ne n]; exact q⟩
  lst b ys f q := ⟨f, by rw [upd_ne (fun z => by subst z; rw [h] at q; cases q)]; exact q⟩
  frz b ob ys q := by rw [upd_ne (fun z => by subst z; rw [h] at q; cases q)]; exact q
  dic b ys f q := by
    refine ⟨f, ?_⟩
    by_cases n : b = a
    · subst n
      rcases q with q | ⟨o, q⟩
      · rw [h] at q
        cases q
      · rw [h] at q
        cases q
        exact .inl upd_same
    · exact q.elim (fun q => .inl (by rw [upd_ne n]; exact q)) fun ⟨o, q⟩ => .inr ⟨o, by rw [upd_ne n]; exact q⟩
theorem rel_at {o : HO} (R : Rel K F H G) (s : Stay F H F (upd H a o)) (nG : G a = none) (no : ∀ y, H a ≠ some (.own y)) : Rel K F (upd H a o) G where
  obj b m e := by
    have n : b ≠ a := fun z => by subst z; rw [nG] at e; cases e
    exact RepO.stay s (fun x y h => by rw [upd_ne (fun z => by subst z; exact no _ h)]; exact h) (upd_ne n) (R.obj b m e)
  fr := R.fr
  al b f := by
    by_cases n : b = a
    · subst n
      rw [upd_same]
      intro z
      cases z
    · rw [upd_ne n]
      exact R.al b f
theorem RepS.stay {δ : DS} {σ : L2.St} (k : Stay F H F' H') (h : RepS K F H δ σ) : RepS K F' H' δ σ :=
  ⟨h.len, fun i d e => by obtain ⟨v, h1, h2⟩ := h.at' i d e; exact ⟨v, h1, Rep.stay k d v h2⟩⟩
/-- what the locked stretch keeps, seen from outside -/
theorem keep_lock {F2 : Fr} {H2 : Hp} {G2 : Gp} (h : H a = some (.dK xs)) (nG : G a = none) (k : Keep F (upd H a (.frz od (.dK xs))) G F2 H2 G2) : H2 a = some (.frz od (.dK xs)) ∧ G2 a = none ∧ Keep F H G F2 (upd H2 a (.dK xs)) G2 := by
  obtain ⟨h1, g1, f1⟩ := k.k a _ nG upd_same
  refine ⟨h1, g1, ⟨fun b w gb hb => ?_⟩⟩
  by_cases n : b = a
  · subst n
    rw [h] at hb
    cases hb
    exact ⟨upd_same, g1, f1⟩
  · obtain ⟨h2, g2, f2⟩ := k.k b w gb (by rw [upd_ne n]; exact hb)
    exact ⟨by rw [upd_ne n]; exact h2, g2, f2⟩
theorem ends_lock {D' : DEnds} {D : Ends} (h : H a = some (.dK xs)) (nG : G a = none) (E : EndsUp K F H G D' D) : EndsUp K F (upd H a (.frz od (.dK xs))) G D'
    ⟨fun σ' H' => H' a = some (.frz od (.dK xs)) ∧ D.nx σ' (upd H' a (.dK xs)), fun v H' => H' a = some (.frz od (.dK xs)) ∧ D.rt v (upd H' a (.dK xs)), fun σ' H' => H' a = some (.frz od (.dK xs)) ∧ D.bk σ' (upd H' a (.dK xs)), fun σ' H' => H' a = some (.frz od (.dK xs)) ∧ D.ct σ' (upd H' a (.dK xs))⟩ := by
  have go : ∀ (Q : DS → Gp → Prop) σ' H', postS F K (upd H a (.frz od (.dK xs))) G Q σ' H' → H' a = some (.frz od (.dK xs)) ∧ postS F K H G Q σ' (upd H' a (.dK xs)) := fun Q σ' H' ⟨δ2, F2, G2, k2, R2, S2, q2⟩ => by
    obtain ⟨h1, g1, k3⟩ := keep_lock h nG k2
    have s := stay_free (F := F2) h1
    exact ⟨h1, δ2, F2, G2, k3, rel_at R2 s g1 (fun y z => by rw [h1] at z; cases z), S2.stay s, q2⟩
  refine ⟨fun σ' H' q => ?_, fun v H' ⟨d, F2, G2, k2, R2, p2, q2⟩ => ?_, fun σ' H' q => ?_, fun σ' H' q => ?_⟩
  · obtain ⟨h1, q⟩ := go _ _ _ q
    exact ⟨h1, E.nx _ _ q⟩
  · obtain ⟨h1, g1, k3⟩ := keep_lock h nG k2
    have s := stay_free (F := F2) h1
    exact ⟨h1, E.rt _ _ ⟨d, F2, G2, k3, rel_at R2 s g1 (fun y z => by rw [h1] at z; cases z), Rep.stay s d v p2, q2⟩⟩
  · obtain ⟨h1, q⟩ := go _ _ _ q
    exact ⟨h1, E.bk _ _ q⟩
  · obtain ⟨h1, q⟩ := go _ _ _ q
    exact ⟨h1, E.ct _ _ q⟩
def keyD : Key → D
  | .inl i => .int i
  | .inr x => .str x
def dvOf : D → Option (List (Key × D))
  | .dv kvs => some kvs
  | _ => none
/-- the names are texts that may be laid out -/
def keysOk (kvs : List (Key × D)) : Bool := kvs.all fun kv => match kv.1 with
  | .inl _ => true
  | .inr x => sOk x
def dForK (i : Nat) (g : DTG) (tb : DTS) : DTS := fun E δ G => optQ ((getS δ i).bind dvOf) fun kvs => keysOk kvs = true ∧ dLoop (fun _ => True) g tb E (kvs.map fun kv => keyD kv.1) δ G
theorem RepK.keys : ∀ {kvs : List (Key × D)} {xs : List (Key × V)}, RepK K F H kvs xs → xs.map (·.1) = kvs.map (·.1)
  | [], _, h => by cases h; rfl
  | (k, d) :: ds, _, ⟨k2, v, r, e, h, q⟩ => by
    subst e
    rw [List.map_cons, List.map_cons, RepK.keys q, h.1]
theorem walked_k {F0 : Fr} {H0 : Hp} {G0 : Gp} {kvs : List (Key × D)} (h : H0 a = some (.frz od (.dK xs))) (nG : G0 a = none) (ek : xs.map (·.1) = kvs.map (·.1)) (ok : keysOk kvs = true) : Walked K (Itk a od xs) F0 H0 G0 (kvs.map fun kv => keyD kv.1) (fun _ => True) := by
  intro F1 H1 G1 k R _
  have h1 := (k.k a _ nG h).1
  have hl : xs.length = kvs.length := by
    have := congrArg List.length ek
    rwa [List.length_map, List.length_map] at this
  refine ⟨fun i hi => ⟨h1, by rw [List.length_map] at hi; omega⟩, fun i d e => ?_⟩
  have hi : i < kvs.length := by
    have := (List.getElem?_eq_some_iff.mp e).1
    rwa [List.length_map] at this
  refine ⟨⟨h1, by omega⟩, fun x H2 y => ?_⟩
  obtain ⟨rfl, ky, v, e1, rfl⟩ := y
  refine ⟨F1, .refl, R, ?_⟩
  have e2 : kvs[i]?.map (·.1) = some ky := by
    rw [← List.getElem?_map, ← ek, List.getElem?_map, e1]
    rfl
  rw [List.getElem?_map] at e
  cases e3 : kvs[i]? with
  | none => rw [e3] at e2; cases e2
  | some p =>
    rw [e3] at e e2
    cases e
    cases e2
    have hm : p ∈ kvs := List.mem_of_getElem? e3
    have := List.all_eq_true.mp ok p hm
    obtain ⟨hk, dd⟩ := p
    cases hk with
    | inl z => exact (rfl : V.int z = V.int z)
    | inr z => exact (⟨rfl, this⟩ : V.str z = V.str z ∧ sOk z = true)
theorem pv (i : Nat) {x : Str} {pos : Pos} (hN : X.N[i]? = some x := by rfl) (hv : Vis X.env.scope x := by first | exact Or.inl rfl | exact Or.inr (Or.inl rfl) | exact Or.inr (Or.inr rfl)) (hd : (x == ("__debug__" : Str)) = false := by decide)
    (hcd : (x == ("__classdict__" : Str)) = false := by decide) : PE X (.Name x pos) (tVar i) := pe_var hN hv hd hcd
/-- the turns of a loop, by what its data say -/
theorem turns {J : It} {ds : List D} {Sb : Gp → Prop} {F1 : Fr} {H1 : Hp} {G1 : Gp} {g : DTG} {tb : DTS} {δ : DS} {σ : L2.St} {D' : DEnds} {D : Ends} (R1 : Rel X.K F1 H1 G1) (wk : Walked X.K J F1 H1 G1 ds Sb) (S1 : RepS X.K F1 H1 δ σ) (q1 : dLoop Sb g tb D' ds δ G1) (E : EndsUp X.K F1 H1 G1 D' D) :
    ∃ W : Nat → Nat → L2.St → Hp → Prop, (∃ m, W 0 m σ H1) ∧ ∀ i m σ H, W i m σ H → (J.stop i H ∧ D.nx σ H) ∨ (J.go i H ∧ ∃ N : L2.St → Hp → Prop, (∀ σ' H', N σ' H' → ∃ m', m' < m ∧ W (i + 1) m' σ' H') ∧ ∀ x H', J.yld i H x H' → upG X.K Pany g x σ H' fun σ2 H2 => upS X.K tb { D with nx := N, ct := N, bk := D.nx } σ2 H2) := by
  refine ⟨fun i m σ2 H2 => m = ds.length - i ∧ i ≤ ds.length ∧ ∃ F2 δ2 G2, Keep F1 H1 G1 F2 H2 G2 ∧ Rel X.K F2 H2 G2 ∧ RepS X.K F2 H2 δ2 σ2 ∧ dLoop Sb g tb D' (ds.drop i) δ2 G2,
    ⟨ds.length, by rw [Nat.sub_zero], Nat.zero_le _, F1, δ, G1, .refl, R1, S1, q1⟩, ?_⟩
  rintro i m σ2 H2 ⟨rfl, hi, F2, δ2, G2, k2, R2, S2, q2⟩
  by_cases hlt : i < ds.length
  · have ed : ds.drop i = ds[i] :: ds.drop (i + 1) := List.drop_eq_getElem_cons hlt
    rw [ed] at q2
    obtain ⟨s2, q2⟩ := q2
    obtain ⟨_, go⟩ := wk F2 H2 G2 k2 R2 s2
    obtain ⟨go, yl⟩ := go i ds[i] (List.getElem?_eq_getElem hlt)
    refine .inr ⟨go, fun σ' H' => ∃ F3 δ3 G3, Keep F1 H1 G1 F3 H' G3 ∧ Rel X.K F3 H' G3 ∧ RepS X.K F3 H' δ3 σ' ∧ dLoop Sb g tb D' (ds.drop (i + 1)) δ3 G3, fun σ' H' h => ⟨ds.length - (i + 1), by omega, rfl, hlt, h⟩, fun x H' y => ?_⟩
    obtain ⟨F3, k3, R3, r3⟩ := yl x H' y
    refine ⟨F3, ds[i], δ2, G2, _, R3, r3, S2.mono R2 k3, q2, fun σ4 H4 _ ⟨δ4, F4, G4, k4, R4, S4, q4⟩ => ?_⟩
    have kk := (k2.trans k3).trans k4
    refine ⟨F4, δ4, G4, _, R4, S4, q4, ?_⟩
    have back : ∀ σ' H', postS F4 X.K H4 G4 (dLoop Sb g tb D' (ds.drop (i + 1))) σ' H' → ∃ F3 δ3 G3, Keep F1 H1 G1 F3 H' G3 ∧ Rel X.K F3 H' G3 ∧ RepS X.K F3 H' δ3 σ' ∧ dLoop Sb g tb D' (ds.drop (i + 1)) δ3 G3 := fun σ' H' ⟨δ5, F5, G5, k5, R5, S5, q5⟩ => ⟨F5, δ5, G5, kk.trans k5, R5, S5, q5⟩
    have E4 := E.step kk
    exact ⟨back, E4.rt, E4.nx, back⟩
  · have e : i = ds.length := by omega
    subst e
    rw [List.drop_length] at q2
    obtain ⟨s2, q2⟩ := q2
    obtain ⟨stop, _⟩ := wk F2 H2 G2 k2 R2 s2
    exact .inl ⟨stop _ (Nat.le_refl _), (E.step k2).nx _ _ ⟨δ2, F2, G2, .refl, R2, S2, q2⟩⟩
theorem qs_forK {tg : Expr} {x : Str} {p pos : Pos} {i : Nat} {body : List Stmt} {g : DTG} {tb : DTS} (hp : PassesOwn (model X.prog X.w) X.A X.env X.xe) (hc : X.calm = true) (hi : PE X (.Name x p) (tVar i)) (hg : QG X Pany tg g) (hb : QSs X body tb)
    (hs : ∀ z, foldedSetIterable (.Name x p) X.env z = pure z := by intro _; rfl) : QS X (.For tg (.Name x p) body [] pos) (dForK i g tb) := by
  have base := ps_for (pos := pos) hp hc (pi_keys hi) hg hb hs
  have lock := ps_lock base
  have both : PS X (.For tg (.Name x p) body [] pos) (fun D σ H => tLock (tFor (iKeys (tVar i)) (upG X.K Pany g) (upS X.K tb)) D σ H ∨ tFor (iKeys (tVar i)) (upG X.K Pany g) (upS X.K tb) D σ H) :=
    ⟨fun pins s σ H D I h => h.elim (lock.run pins s σ H D I) (base.run pins s σ H D I)⟩
  refine PSmono both fun D σ H ⟨F, δ, G, D', R, S, q, E⟩ => ?_
  obtain ⟨kvs, e0, ok, q⟩ := optQ_ex q
  cases e1 : getS δ i with
  | none => rw [e1] at e0; cases e0
  | some dd =>
    rw [e1] at e0
    cases dd with
    | dv ks =>
      cases e0
      obtain ⟨v, hv, rv⟩ := S.at' i _ e1
      obtain ⟨a, xs, rfl, ⟨f, hr⟩, rk⟩ := rv
      have nG := R.fr a f
      rcases hr with hr | ⟨o, hr⟩
      · refine .inl ⟨a, _, hr, trivial, fun od => ⟨.ref a, hv, a, od, rfl, .inl ⟨xs, upd_same, ?_⟩⟩⟩
        have s := stay_lock (F := F) (od := od) hr
        exact turns (rel_at R s nG (fun y z => by rw [hr] at z; cases z)) (walked_k upd_same nG rk.keys ok) (S.stay s) q (ends_lock hr nG E)
      · exact .inr ⟨.ref a, hv, a, o, rfl, .inl ⟨xs, hr, turns R (walked_k hr nG rk.keys ok) S q E⟩⟩
    | _ => cases e0
/-- a list times a number -/
def dRepLD : D → D → Option D
  | .lv ds, .int n => if decide (-9223372036854775808 ≤ n) && decide (n ≤ 1048576) && decide (ds.length ≤ 16) then some (.lv (List.replicate n.toNat ds).flatten) else none
  | _, _ => none
theorem dRepLD_1 {ds : List D} {n : Int} : dRepLD (.lv ds) (.int n) = if decide (-9223372036854775808 ≤ n) && decide (n ≤ 1048576) && decide (ds.length ≤ 16) then some (.lv (List.replicate n.toNat ds).flatten) else none := (rfl)
theorem RepL.reps {ds : List D} {vs : List V} {H : Hp} {F : Fr} (r : RepL K F H ds vs) : ∀ n : Nat, RepL K F H (List.replicate n ds).flatten (List.replicate n vs).flatten
  | 0 => rfl
  | n + 1 => by
    rw [List.replicate_succ, List.replicate_succ, List.flatten_cons, List.flatten_cons]
    exact r.app (RepL.reps r n)
theorem lift_repL : Lift2 K rRep (dPure2 dRepLD) := by
  intro F H G d e v u Q Q0 R rd re q k
  obtain ⟨z, hz, q⟩ := optQ_ex q
  unfold dRepLD at hz
  split at hz
  · split at hz
    · rename_i hl
      cases hz
      rw [Bool.and_eq_true, Bool.and_eq_true, decide_eq_true_eq, decide_eq_true_eq, decide_eq_true_eq] at hl
      obtain ⟨a, xs, rfl, h, r⟩ := rd
      have h1 := Int.toNat_le.mpr (show _ ≤ ((1048576 : Nat) : Int) from hl.1.2)
      refine ⟨a, _, xs, rfl, re, h.2, by omega, by omega, ?_, fin_lv R k (r.reps _) q⟩
      rw [r.len, szL]
      exact Nat.le_trans (Nat.mul_le_mul hl.2 h1) (by decide : 16 * 1048576 ≤ 16777216)
    · cases hz
  · cases hz
theorem q_repL {a b : Expr} {ta tb : DTE} {pos : Pos} (ha : QE X a ta) (hb : QE X b tb) : QE X (.BinOp a .Mult b pos) (dOp (dPure2 dRepLD) ta tb) := q_op op_rep lift_repL ha hb
theorem keyOf_1 {i : Int} : keyOf (.int i) = some (.inl i) := (rfl)
theorem keyOf_2 {x : Str} : keyOf (.str x) = some (.inr x) := (rfl)
theorem kvOf_1 {kvs : List (Key × D)} : kvOf (.dv kvs) G = some kvs := (rfl)
theorem kvOf_u {p : Addr} {kvs : List (Key × D)} : kvOf (.ref p) (updG G p (.dic kvs)) = some kvs := by
  simp only [kvOf, updG_same]
theorem dicOf_u {p : Addr} {kvs : List (Key × D)} : dicOf (.ref p) (updG G p (.dic kvs)) = some (p, kvs) := by
  simp only [dicOf, updG_same]
theorem dvOf_1 {kvs : List (Key × D)} : dvOf (.dv kvs) = some kvs := (rfl)
theorem dForK_e {i : Nat} {g : DTG} {tb : DTS} {E : DEnds} {δ : DS} {G : Gp} : dForK i g tb E δ G = optQ ((getS δ i).bind dvOf) fun kvs => keysOk kvs = true ∧ dLoop (fun _ => True) g tb E (kvs.map fun kv => keyD kv.1) δ G := (rfl)
/-- len of a dictionary -/
theorem call_lenK : CallR X (.builtin "len") (fun xs H Q => ∃ a kvs, xs = [V.ref a] ∧ Rd H a (.dK kvs) ∧ Q (.int kvs.length) H) := by
  intro pins s σ H xs us Q I r h
  obtain ⟨a, kvs, rfl, ha, q⟩ := h
  obtain ⟨u, rfl, ru⟩ := vals1 r
  cases ru
  exact d_len I ha fun t s' I' => ⟨.int kvs.length, H, I', ⟨t, rfl⟩, q⟩
def dLenK : RA := fun ds G Q => optQ (uncons ds) fun p => optQ (kvOf p.1 G) fun kvs => p.2 = [] ∧ Q (.int (kvs.length : Nat)) G
theorem dLenK_e {ds : List D} {G : Gp} {Q : D → Gp → Prop} : dLenK ds G Q = optQ (uncons ds) fun p => optQ (kvOf p.1 G) fun kvs => p.2 = [] ∧ Q (.int (kvs.length : Nat)) G := (rfl)
theorem lift_lenK : LiftA K (fun xs H Q => ∃ a kvs, xs = [V.ref a] ∧ Rd H a (.dK kvs) ∧ Q (.int kvs.length) H) dLenK := by
  intro F H G ds vs Q Q0 R rd q k
  obtain ⟨⟨d, r⟩, e1, q1⟩ := optQ_ex q
  obtain ⟨kvs, e2, e3, q2⟩ := optQ_ex q1
  cases ds with
  | nil => cases e1
  | cons d' r' =>
    cases e1
    have e3 : r = [] := e3
    subst e3
    obtain ⟨v, rr, rfl, rv, r0⟩ := rd
    cases r0
    obtain ⟨a, xs, rfl, h1, h2⟩ := kvOf_rep R e2 rv
    refine ⟨a, xs, rfl, h1, ?_⟩
    rw [h2.len]
    exact fin R k q2 rfl
end
end DL
set_option Elab.async false
set_option linter.all false
set_option maxRecDepth 100000
set_option maxHeartbeats 4000000
namespace DL
open PySem PySem.Spec PyProof.Rows L2
/-! ### walks by place, walks by what is behind and ahead -/
theorem rangeD_s (lo : Int) (n : Nat) : rangeD lo (n + 1) = .int lo :: rangeD (lo + 1) n := by
  unfold rangeD
  rw [List.range_succ_eq_map, List.map_cons, List.map_map]
  congr 1
  · show D.int (lo + ((0 : Nat) : Int)) = _
    rw [Int.natCast_zero, Int.add_zero]
  · apply List.map_congr_left
    intro a _
    show D.int (lo + ((a + 1 : Nat) : Int)) = D.int (lo + 1 + (a : Int))
    congr 1
    omega
theorem loop_rng {S : Gp → Prop} {g : DTG} {tb : DTS} {E : DEnds} (n : Nat) (lo : Int) (W : Nat → DS → Gp → Prop)
    (hs : ∀ j δ G (K : DS → Gp → Prop), j < n → W j δ G → (∀ δ G, W (j + 1) δ G → K δ G) → S G ∧ g (.int (lo + (j : Nat))) δ G fun δ1 G1 => tb { nx := K, ct := K, bk := E.nx, rt := E.rt } δ1 G1)
    (he : ∀ δ G, W n δ G → S G ∧ E.nx δ G) (δ : DS) (G : Gp) (h0 : W 0 δ G) : dLoop S g tb E (rangeD lo n) δ G := by
  refine loop_ind (fun ds δ G' => ∃ j, j ≤ n ∧ ds = rangeD (lo + (j : Nat)) (n - j) ∧ W j δ G') ?_ ?_ _ _ _ ⟨0, Nat.zero_le _, by rw [Int.natCast_zero, Int.add_zero, Nat.sub_zero], h0⟩
  · rintro x r δ G' K ⟨j, hj, e, w⟩ hK
    have lt : j < n := by
      rcases Nat.lt_or_ge j n with h | h
      · exact h
      · rw [show n - j = 0 by omega] at e
        cases e
    rw [show n - j = (n - (j + 1)) + 1 by omega, rangeD_s] at e
    injection e with e1 e2
    subst e1
    refine hs j δ G' K lt w fun δ2 G2 w2 => hK _ _ ⟨j + 1, lt, ?_, w2⟩
    rw [e2]
    congr 1
    omega
  · rintro δ G' ⟨j, hj, e, w⟩
    have : j = n := by
      rcases Nat.lt_or_ge j n with h | h
      · rw [show n - j = (n - (j + 1)) + 1 by omega, rangeD_s] at e
        cases e
      · omega
    subst this
    exact he _ _ w
theorem loop_map {α : Type} {S : Gp → Prop} {g : DTG} {tb : DTS} {E : DEnds} (f : α → D) (xs : List α) (W : List α → DS → Gp → Prop)
    (hs : ∀ pre x post δ G (K : DS → Gp → Prop), xs = pre ++ x :: post → W pre δ G → (∀ δ G, W (pre ++ [x]) δ G → K δ G) → S G ∧ g (f x) δ G fun δ1 G1 => tb { nx := K, ct := K, bk := E.nx, rt := E.rt } δ1 G1)
    (he : ∀ δ G, W xs δ G → S G ∧ E.nx δ G) (δ : DS) (G : Gp) (h0 : W [] δ G) : dLoop S g tb E (xs.map f) δ G := by
  refine loop_ind (fun ds δ G' => ∃ pre post, xs = pre ++ post ∧ ds = post.map f ∧ W pre δ G') ?_ ?_ _ _ _ ⟨[], xs, rfl, rfl, h0⟩
  · rintro x r δ G' K ⟨pre, post, e, e2, w⟩ hK
    cases post with
    | nil => cases e2
    | cons y post =>
      rw [List.map_cons] at e2
      injection e2 with e3 e4
      subst e3
      exact hs pre y post δ G' K e w fun δ2 G2 w2 => hK _ _ ⟨pre ++ [y], post, by rw [e, List.append_assoc]; rfl, e4, w2⟩
  · rintro δ G' ⟨pre, post, e, e2, w⟩
    cases post with
    | cons y post => cases e2
    | nil =>
      rw [List.append_nil] at e
      subst e
      exact he _ _ w
theorem comp_rng {S : Gp → Prop} {g : DTG} {tt : DTT} {te : DTE} {δ : DS} {Q : List D → Gp → Prop} (n : Nat) (lo : Int) (W : Nat → List D → Gp → Prop)
    (hs : ∀ j acc G (K : List D → Gp → Prop), j < n → W j acc G → (∀ acc G, W (j + 1) acc G → K acc G) → S G ∧ g (.int (lo + (j : Nat))) δ G fun δ1 G1 => tt δ1 G1 fun b G2 => dCond b (te δ1 G2 fun y G3 => acc.length < sizeLine ∧ K (acc ++ [y]) G3) (K acc G2))
    (he : ∀ acc G, W n acc G → S G ∧ Q acc G) (G : Gp) (h0 : W 0 [] G) : dComp S g tt te δ Q (rangeD lo n) [] G := by
  refine comp_ind (fun ds acc G' => ∃ j, j ≤ n ∧ ds = rangeD (lo + (j : Nat)) (n - j) ∧ W j acc G') ?_ ?_ _ _ _ ⟨0, Nat.zero_le _, by rw [Int.natCast_zero, Int.add_zero, Nat.sub_zero], h0⟩
  · rintro x r acc G' K ⟨j, hj, e, w⟩ hK
    have lt : j < n := by
      rcases Nat.lt_or_ge j n with h | h
      · exact h
      · rw [show n - j = 0 by omega] at e
        cases e
    rw [show n - j = (n - (j + 1)) + 1 by omega, rangeD_s] at e
    injection e with e1 e2
    subst e1
    refine hs j acc G' K lt w fun δ2 G2 w2 => hK _ _ ⟨j + 1, lt, ?_, w2⟩
    rw [e2]
    congr 1
    omega
  · rintro acc G' ⟨j, hj, e, w⟩
    have : j = n := by
      rcases Nat.lt_or_ge j n with h | h
      · rw [show n - j = (n - (j + 1)) + 1 by omega, rangeD_s] at e
        cases e
      · omega
    subst this
    exact he _ _ w
theorem comp_list {α : Type} {S : Gp → Prop} {g : DTG} {tt : DTT} {te : DTE} {δ : DS} {Q : List D → Gp → Prop} (f : α → D) (xs : List α) (W : List α → List D → Gp → Prop)
    (hs : ∀ pre x post acc G (K : List D → Gp → Prop), xs = pre ++ x :: post → W pre acc G → (∀ acc G, W (pre ++ [x]) acc G → K acc G) → S G ∧ g (f x) δ G fun δ1 G1 => tt δ1 G1 fun b G2 => dCond b (te δ1 G2 fun y G3 => acc.length < sizeLine ∧ K (acc ++ [y]) G3) (K acc G2))
    (he : ∀ acc G, W xs acc G → S G ∧ Q acc G) (G : Gp) (h0 : W [] [] G) : dComp S g tt te δ Q (xs.map f) [] G := by
  refine comp_ind (fun ds acc G' => ∃ pre post, xs = pre ++ post ∧ ds = post.map f ∧ W pre acc G') ?_ ?_ _ _ _ ⟨[], xs, rfl, rfl, h0⟩
  · rintro x r acc G' K ⟨pre, post, e, e2, w⟩ hK
    cases post with
    | nil => cases e2
    | cons y post =>
      rw [List.map_cons] at e2
      injection e2 with e3 e4
      subst e3
      exact hs pre y post acc G' K e w fun δ2 G2 w2 => hK _ _ ⟨pre ++ [y], post, by rw [e, List.append_assoc]; rfl, e4, w2⟩
  · rintro acc G' ⟨pre, post, e, e2, w⟩
    cases post with
    | cons y post => cases e2
    | nil =>
      rw [List.append_nil] at e
      subst e
      exact he _ _ w
theorem cut_map {α : Type} (f : α → D) (xs : List α) (lo hi : Option Int) : cutD (xs.map f) lo hi = (cutD xs lo hi).map f := by
  unfold cutD
  rw [List.length_map, List.map_take, List.map_drop]
end DL
set_option Elab.async false
set_option linter.all false
set_option maxRecDepth 100000
set_option maxHeartbeats 4000000
namespace DL
open PySem PySem.Spec PyProof.Rows L2
/-! ### sorted of ints -/
def dSortI : RA := fun ds G Q => optQ ((lv1 ds).bind intsOf) fun ns => ∀ ns' : List Int, ns'.Perm ns → ns'.Pairwise (· ≤ ·) → Q (.lv (ns'.map .int)) G
theorem dSortI_e {ds : List D} {G : Gp} {Q : D → Gp → Prop} : dSortI ds G Q = optQ ((lv1 ds).bind intsOf) fun ns => ∀ ns' : List Int, ns'.Perm ns → ns'.Pairwise (· ≤ ·) → Q (.lv (ns'.map .int)) G := (rfl)
theorem lift_sortI {K : PySem.W.Frag} : LiftA K (rSortedI K) dSortI := by
  intro F H G ds vs Q Q0 R rd q k
  replace q := optQ_ex q
  obtain ⟨bs, hz, q⟩ := q
  cases h1 : lv1 ds with
  | none => rw [h1] at hz; cases hz
  | some xs =>
    rw [h1] at hz
    have hi : intsOf xs = some bs := hz
    rw [lv1_eq h1] at rd
    obtain ⟨v, rfl, a, ys, rfl, hs, hr⟩ := rl1 rd
    have e := intsOf_rep hr hi
    subst e
    exact ⟨a, bs, rfl, .of hs.2, fun ns' p h1 h2 hp => fin_lv R k (RepL.ints ns') (q ns' h1 h2) p hp⟩
theorem ints_map : ∀ ns : List Int, intsOf (ns.map .int) = some ns
  | [] => rfl
  | n :: ns => by
    show (intsOf (ns.map .int)).map _ = _
    rw [ints_map ns]
    rfl
theorem sorted_eq : ∀ {xs ys : List Int}, xs.Perm ys → xs.Pairwise (· < ·) → ys.Pairwise (· ≤ ·) → ys = xs := by
  intro xs
  induction xs with
  | nil => intro ys p _ _; exact List.Perm.nil_eq p |>.symm
  | cons x xs ih =>
    intro ys p h1 h2
    rw [List.pairwise_cons] at h1
    cases ys with
    | nil => cases p.length_eq
    | cons y ys =>
      rw [List.pairwise_cons] at h2
      have e : y = x := by
        have m1 : x ∈ y :: ys := p.subset List.mem_cons_self
        have m2 : y ∈ x :: xs := p.symm.subset List.mem_cons_self
        rcases List.mem_cons.mp m1 with m1 | m1
        · exact m1.symm
        · rcases List.mem_cons.mp m2 with m2 | m2
          · exact m2
          · have a := h2.1 x m1
            have b := h1.1 y m2
            omega
      subst e
      rw [ih (p.cons_inv) h1.2 h2.2]
/-! ### one statement after the other -/
theorem seq_step {s rest : DTS} {E : DEnds} {δ : DS} {G : Gp} (h : ∀ nx : DS → Gp → Prop, (∀ δ G, rest E δ G → nx δ G) → s { E with nx := nx } δ G) : dSeq s rest E δ G := h _ fun _ _ q => q
theorem seq_join {s rest : DTS} {E : DEnds} {δ : DS} {G : Gp} (W : DS → Gp → Prop) (h1 : ∀ nx : DS → Gp → Prop, (∀ δ G, W δ G → nx δ G) → s { E with nx := nx } δ G) (h2 : ∀ δ G, W δ G → rest E δ G) : dSeq s rest E δ G := h1 _ h2
theorem atI_m1 {α : Type} (a b c : α) : atI [a, b, c] (-2) = some b := rfl
theorem atI_m2 {α : Type} (a b c : α) : atI [a, b, c] (-1) = some c := rfl
theorem atI_m3 {α : Type} (a b c d : α) : atI [a, b, c, d] (-2) = some c := rfl
theorem atI_m4 {α : Type} (a b c d : α) : atI [a, b, c, d] (-1) = some d := rfl
end DL
set_option Elab.async false
set_option linter.all false
set_option maxRecDepth 100000
set_option maxHeartbeats 4000000
namespace DL
open PySem PySem.Spec PyProof.Rows L2
section
variable {X : Cx} {K : PySem.W.Frag} {F F' : Fr} {H H' : Hp} {G G' : Gp} {a b c e tg : Expr} {es rest : List Expr} {ta tb tc te : DTE} {t u : DTT} {tr : DTA} {pos : Pos}
theorem stay_hidK {D : Addr} {xs : List (L2.Key × V)} {o : HO} (hD : H D = some (.dK xs)) (nF : ¬ F D) : Stay F H F (upd H D o) where
  tup a ys h := by
    have n : a ≠ D := fun z => by
      subst z
      rcases h with h | ⟨o, h⟩ <;> (rw [hD] at h; cases h)
    rcases h with h | ⟨o, h⟩
    · exact .inl (by rw [upd_ne n]; exact h)
    · exact .inr ⟨o, by rw [upd_ne n]; exact h⟩
  lst a ys f h := ⟨f, by rw [upd_ne (show a ≠ D from fun z => nF (z ▸ f))]; exact h⟩
  frz a ob ys h := by rw [upd_ne (fun z => by subst z; rw [hD] at h; cases h)]; exact h
  dic a ys f h := by
    have n : a ≠ D := fun z => nF (z ▸ f)
    refine ⟨f, ?_⟩
    rcases h with h | ⟨o, h⟩
    · exact .inl (by rw [upd_ne n]; exact h)
    · exact .inr ⟨o, by rw [upd_ne n]; exact h⟩
theorem rel_hidK (R : Rel K F H G) {D : Addr} {xs : List (L2.Key × V)} {o : HO} (hD : H D = some (.dK xs)) (nF : ¬ F D) (nG : G D = none) : Rel K F (upd H D o) G where
  obj a m e := by
    have n : a ≠ D := fun z => by subst z; rw [nG] at e; cases e
    exact RepO.stay (stay_hidK hD nF) (fun x y h => by rw [upd_ne (fun z => by subst z; rw [hD] at h; cases h)]; exact h) (upd_ne n) (R.obj a m e)
  fr := R.fr
  al a f := by rw [upd_ne (show a ≠ D from fun z => nF (z ▸ f))]; exact R.al a f
def dDComp (S : Gp → Prop) (g : DTG) (tt : DTT) (tk te : DTE) (δ : DS) (Q : List (L2.Key × D) → Gp → Prop) : List D → List (L2.Key × D) → Gp → Prop
  | [], acc, G => S G ∧ Q acc G
  | d :: r, acc, G => S G ∧ g d δ G fun δ1 G1 => tt δ1 G1 fun b G2 => dCond b (tk δ1 G2 fun x G3 => te δ1 G3 fun y G4 => optQ (keyOf x) fun k => acc.length < sizeLine ∧ dDComp S g tt tk te δ Q r (putD acc k y) G4) (dDComp S g tt tk te δ Q r acc G2)
def dDc (wi : DTI) (g : DTG) (tt : DTT) (tk te : DTE) (vs : List Nat) : DTE := fun δ G Q => wi δ G fun ds S G1 => dDComp S g tt tk te (wipeS δ vs) (fun acc G2 => Q (.dv acc) G2) ds [] G1
theorem dDc_e {wi : DTI} {g : DTG} {tt : DTT} {tk te : DTE} {vs : List Nat} {δ : DS} {G : Gp} {Q : D → Gp → Prop} : dDc wi g tt tk te vs δ G Q = wi δ G fun ds S G1 => dDComp S g tt tk te (wipeS δ vs) (fun acc G2 => Q (.dv acc) G2) ds [] G1 := (rfl)
/-- the turns of a list comprehension -/
theorem comp_core {g : DTG} {vs : List Nat} {δ : DS} {σ : L2.St} {Q' : D → Gp → Prop} {Q : VK} (R : Rel K F H G) (S : RepS K F H δ σ) (k : ∀ v H', post (F := F) K H G Q' v H' → Q v H') {ds : List D} {Sb : Gp → Prop} {J : It} {F1 : Fr} {H1 : Hp} {G1 : Gp} (k1 : Keep F H G F1 H1 G1) (R1 : Rel K F1 H1 G1) (wk : Walked K J F1 H1 G1 ds Sb)
    (q1 : dComp Sb g t te (wipeS δ vs) (fun acc G2 => Q' (.lv acc) G2) ds [] G1) : ∀ D, H1 D = none → ∃ W : Nat → Nat → Hp → Prop, (∃ m, W 0 m (upd H1 D (.lst []))) ∧ ∀ i m H, W i m H →
  (J.stop i H ∧ Q (.ref D) H) ∨ (J.go i H ∧ ∃ Nx : Hp → Prop, (∀ H', Nx H' → ∃ m', m' < m ∧ W (i + 1) m' H') ∧ ∀ x H', J.yld i H x H' → upG K (Pw vs) g x (wipe σ vs) H' fun σ2 H2 => wipe σ2 vs = wipe σ vs ∧ upT K t σ2 H2 fun b H3 =>
    if b = true then up K te σ2 H3 fun y H4 => ∃ acc, H4 D = some (.lst acc) ∧ acc.length < sizeLine ∧ Nx (upd H4 D (.lst (acc ++ [y]))) else Nx H3) := by
  intro D hD
  have S1 := (S.mono R k1).wipe vs
  have gD : G1 D = none := R1.off0 hD
  have fD : ¬ F1 D := fun f => R1.al D f hD
  refine ⟨fun i m H2 => m = ds.length - i ∧ i ≤ ds.length ∧ ∃ F2 G2 acc xs, Keep F1 H1 G1 F2 H2 G2 ∧ Rel K F2 H2 G2 ∧ RepS K F2 H2 (wipeS δ vs) (wipe σ vs) ∧ G2 D = none ∧ ¬ F2 D ∧ H2 D = some (.lst xs) ∧ RepL K F2 H2 acc xs ∧
      dComp Sb g t te (wipeS δ vs) (fun acc G2 => Q' (.lv acc) G2) (ds.drop i) acc G2,
    ⟨ds.length, by rw [Nat.sub_zero], Nat.zero_le _, F1, G1, [], [], keep_new R1 hD, rel_new R1 hD, S1.mono R1 (keep_new R1 hD), gD, fD, upd_same, rfl, q1⟩, ?_⟩
  rintro i m H2 ⟨rfl, hi, F2, G2, acc, xs, k2, R2, S2, g2, f2, hD2, ra, q2⟩
  by_cases hlt : i < ds.length
  · have ed : ds.drop i = ds[i] :: ds.drop (i + 1) := List.drop_eq_getElem_cons hlt
    rw [ed] at q2
    obtain ⟨s2, q2⟩ := q2
    obtain ⟨_, go⟩ := wk F2 H2 G2 k2 R2 s2
    obtain ⟨go, yl⟩ := go i ds[i] (List.getElem?_eq_getElem hlt)
    refine .inr ⟨go, fun H' => ∃ F3 G3 acc xs, Keep F1 H1 G1 F3 H' G3 ∧ Rel K F3 H' G3 ∧ RepS K F3 H' (wipeS δ vs) (wipe σ vs) ∧ G3 D = none ∧ ¬ F3 D ∧ H' D = some (.lst xs) ∧ RepL K F3 H' acc xs ∧
      dComp Sb g t te (wipeS δ vs) (fun acc G2 => Q' (.lv acc) G2) (ds.drop (i + 1)) acc G3, fun H' h => ⟨ds.length - (i + 1), by omega, rfl, hlt, h⟩, fun x H' y => ?_⟩
    obtain ⟨F3, k3, R3, r3⟩ := yl x H' y
    refine ⟨F3, ds[i], wipeS δ vs, G2, _, R3, r3, S2.mono R2 k3, q2, fun σ4 H4 p4 ⟨δ4, F4, G4, k4, R4, S4, q4⟩ => ?_⟩
    refine ⟨?_, F4, δ4, G4, _, R4, S4, q4, fun b H5 ⟨F5, G5, k5, R5, q5⟩ => ?_⟩
    · have w : wipe (wipe σ vs) vs = wipe σ vs := by
        have : ∀ (us : List Nat) (τ : L2.St), (∀ j ∈ us, τ[j]? = some none ∨ τ.length ≤ j) → wipe τ us = τ := by
          intro us
          induction us with
          | nil => intro τ _; rfl
          | cons j us ih =>
            intro τ h
            unfold wipe
            rw [ih τ fun j' h' => h j' (List.mem_cons_of_mem _ h')]
            rcases h j List.mem_cons_self with e | e
            · apply List.ext_getElem?
              intro n
              by_cases z : j = n
              · subst z
                have hl : j < τ.length := (List.getElem?_eq_some_iff.mp e).1
                rw [List.getElem?_set_self hl, e]
              · rw [List.getElem?_set_ne z]
            · exact List.set_eq_of_length_le e
        refine this vs _ fun j hj => ?_
        by_cases hl : j < (wipe σ vs).length
        · cases e : (wipe σ vs)[j]? with
          | none => rw [List.getElem?_eq_none_iff] at e; exact .inr e
          | some o =>
            cases o with
            | none => exact .inl rfl
            | some v => exact absurd hj (wipe_some e).2
        · exact .inr (by omega)
      rw [p4, w]
    · have kk := ((k2.trans k3).trans k4).trans k5
      have k25 := (k3.trans k4).trans k5
      cases b with
      | true =>
        refine iteT ?_
        refine ⟨F5, δ4, G5, _, R5, S4.mono R4 k5, q5, fun v H6 ⟨d, F6, G6, k6, R6, p6, hl, q6⟩ => ?_⟩
        have k26 := k25.trans k6
        obtain ⟨h6, g6, f6⟩ := k26.k D _ g2 hD2
        have nf : ¬ F6 D := fun z => f2 (f6.mp z)
        have ra6 := RepL.mono R2 k26 _ _ ra
        have st := stay_hid (F := F6) (o := .lst (xs ++ [v])) h6 nf
        have k16 := kk.trans k6
        refine ⟨xs, h6, by rw [ra.len]; exact hl, F6, G6, acc ++ [d], xs ++ [v], ⟨fun a u ga ha => ?_⟩, rel_hid R6 h6 nf g6, ?_, g6, nf, upd_same, (RepL.stay st _ _ ra6).app (.one (Rep.stay st _ _ p6)), q6⟩
        · obtain ⟨a1, a2, a3⟩ := k16.k a u ga ha
          refine ⟨by rw [upd_ne (fun z => by subst z; rw [hD] at ha; cases ha)]; exact a1, a2, a3⟩
        · have s6 := S2.mono R2 k26
          exact ⟨s6.len, fun j d' ej => by obtain ⟨v', e1, e2⟩ := s6.at' j d' ej; exact ⟨v', e1, Rep.stay st _ _ e2⟩⟩
      | false =>
        refine iteF ?_
        obtain ⟨h5, g5, f5⟩ := k25.k D _ g2 hD2
        exact ⟨F5, G5, acc, xs, kk, R5, S2.mono R2 k25, g5, fun z => f2 (f5.mp z), h5, RepL.mono R2 k25 _ _ ra, q5⟩
  · have ei : i = ds.length := by omega
    subst ei
    rw [List.drop_length] at q2
    obtain ⟨s2, q2⟩ := q2
    obtain ⟨stop, _⟩ := wk F2 H2 G2 k2 R2 s2
    refine .inl ⟨stop _ (Nat.le_refl _), k _ _ ⟨.lv acc, frzF F2 D, G2, ⟨fun a' u ga ha => ?_⟩, ⟨fun a' m e => ?_, fun a' f => ?_, fun a' f => ?_⟩, ⟨D, xs, rfl, ⟨.inr rfl, hD2⟩, ?_⟩, q2⟩⟩
    · obtain ⟨a1, a2, a3⟩ := (k1.trans k2).k a' u ga ha
      have nD : a' ≠ D := fun z => by
        subst z
        have := (k1.k a' u ga ha).1
        rw [hD] at this
        cases this
      exact ⟨a1, a2, ⟨fun z => z.elim a3.mp fun w => absurd w nD, fun z => .inl (a3.mpr z)⟩⟩
    · have st : Stay F2 H2 (frzF F2 D) H2 := ⟨fun _ _ h => h, fun _ _ f h => ⟨.inl f, h⟩, fun _ _ _ h => h, fun _ _ f h => ⟨.inl f, h⟩⟩
      exact RepO.stay st (fun _ _ h => h) rfl (R2.obj a' m e)
    · rcases f with f | f
      · exact R2.fr a' f
      · rw [f]; exact g2
    · rcases f with f | f
      · exact R2.al a' f
      · rw [f, hD2]; intro z; cases z
    · have st : Stay F2 H2 (frzF F2 D) H2 := ⟨fun _ _ h => h, fun _ _ f h => ⟨.inl f, h⟩, fun _ _ _ h => h, fun _ _ f h => ⟨.inl f, h⟩⟩
      exact RepL.stay st _ _ ra
/-- the turns of a dictionary's comprehension -/
theorem dcomp_core {g : DTG} {tk : DTE} {vs : List Nat} {δ : DS} {σ : L2.St} {Q' : D → Gp → Prop} {Q : VK} (R : Rel K F H G) (S : RepS K F H δ σ) (k : ∀ v H', post (F := F) K H G Q' v H' → Q v H') {ds : List D} {Sb : Gp → Prop} {J : It} {F1 : Fr} {H1 : Hp} {G1 : Gp} (k1 : Keep F H G F1 H1 G1) (R1 : Rel K F1 H1 G1) (wk : Walked K J F1 H1 G1 ds Sb)
    (q1 : dDComp Sb g t tk te (wipeS δ vs) (fun acc G2 => Q' (.dv acc) G2) ds [] G1) : ∀ D, H1 D = none → ∃ W : Nat → Nat → Hp → Prop, (∃ m, W 0 m (upd H1 D (.dK []))) ∧ ∀ i m H, W i m H →
  (J.stop i H ∧ Q (.ref D) H) ∨ (J.go i H ∧ ∃ Nx : Hp → Prop, (∀ H', Nx H' → ∃ m', m' < m ∧ W (i + 1) m' H') ∧ ∀ x H', J.yld i H x H' → upG K (Pw vs) g x (wipe σ vs) H' fun σ2 H2 => wipe σ2 vs = wipe σ vs ∧ upT K t σ2 H2 fun b H3 =>
    if b = true then up K tk σ2 H3 fun y H4 => up K te σ2 H4 fun z H5 => ∃ kvs k, y = kV k ∧ H5 D = some (.dK kvs) ∧ kvs.length < sizeLine ∧ Nx (upd H5 D (.dK (putK kvs k z))) else Nx H3) := by
  intro D hD
  have S1 := (S.mono R k1).wipe vs
  have gD : G1 D = none := R1.off0 hD
  have fD : ¬ F1 D := fun f => R1.al D f hD
  refine ⟨fun i m H2 => m = ds.length - i ∧ i ≤ ds.length ∧ ∃ F2 G2 acc xs, Keep F1 H1 G1 F2 H2 G2 ∧ Rel K F2 H2 G2 ∧ RepS K F2 H2 (wipeS δ vs) (wipe σ vs) ∧ G2 D = none ∧ ¬ F2 D ∧ H2 D = some (.dK xs) ∧ RepK K F2 H2 acc xs ∧
      dDComp Sb g t tk te (wipeS δ vs) (fun acc G2 => Q' (.dv acc) G2) (ds.drop i) acc G2,
    ⟨ds.length, by rw [Nat.sub_zero], Nat.zero_le _, F1, G1, [], [], keep_new R1 hD, rel_new R1 hD, S1.mono R1 (keep_new R1 hD), gD, fD, upd_same, rfl, q1⟩, ?_⟩
  rintro i m H2 ⟨rfl, hi, F2, G2, acc, xs, k2, R2, S2, g2, f2, hD2, ra, q2⟩
  by_cases hlt : i < ds.length
  · have ed : ds.drop i = ds[i] :: ds.drop (i + 1) := List.drop_eq_getElem_cons hlt
    rw [ed] at q2
    obtain ⟨s2, q2⟩ := q2
    obtain ⟨_, go⟩ := wk F2 H2 G2 k2 R2 s2
    obtain ⟨go, yl⟩ := go i ds[i] (List.getElem?_eq_getElem hlt)
    refine .inr ⟨go, fun H' => ∃ F3 G3 acc xs, Keep F1 H1 G1 F3 H' G3 ∧ Rel K F3 H' G3 ∧ RepS K F3 H' (wipeS δ vs) (wipe σ vs) ∧ G3 D = none ∧ ¬ F3 D ∧ H' D = some (.dK xs) ∧ RepK K F3 H' acc xs ∧
      dDComp Sb g t tk te (wipeS δ vs) (fun acc G2 => Q' (.dv acc) G2) (ds.drop (i + 1)) acc G3, fun H' h => ⟨ds.length - (i + 1), by omega, rfl, hlt, h⟩, fun x H' y => ?_⟩
    obtain ⟨F3, k3, R3, r3⟩ := yl x H' y
    refine ⟨F3, ds[i], wipeS δ vs, G2, _, R3, r3, S2.mono R2 k3, q2, fun σ4 H4 p4 ⟨δ4, F4, G4, k4, R4, S4, q4⟩ => ?_⟩
    refine ⟨?_, F4, δ4, G4, _, R4, S4, q4, fun b H5 ⟨F5, G5, k5, R5, q5⟩ => ?_⟩
    · have w : wipe (wipe σ vs) vs = wipe σ vs := by
        have : ∀ (us : List Nat) (τ : L2.St), (∀ j ∈ us, τ[j]? = some none ∨ τ.length ≤ j) → wipe τ us = τ := by
          intro us
          induction us with
          | nil => intro τ _; rfl
          | cons j us ih =>
            intro τ h
            unfold wipe
            rw [ih τ fun j' h' => h j' (List.mem_cons_of_mem _ h')]
            rcases h j List.mem_cons_self with e | e
            · apply List.ext_getElem?
              intro n
              by_cases z : j = n
              · subst z
                have hl : j < τ.length := (List.getElem?_eq_some_iff.mp e).1
                rw [List.getElem?_set_self hl, e]
              · rw [List.getElem?_set_ne z]
            · exact List.set_eq_of_length_le e
        refine this vs _ fun j hj => ?_
        by_cases hl : j < (wipe σ vs).length
        · cases e : (wipe σ vs)[j]? with
          | none => rw [List.getElem?_eq_none_iff] at e; exact .inr e
          | some o =>
            cases o with
            | none => exact .inl rfl
            | some v => exact absurd hj (wipe_some e).2
        · exact .inr (by omega)
      rw [p4, w]
    · have kk := ((k2.trans k3).trans k4).trans k5
      have k25 := (k3.trans k4).trans k5
      cases b with
      | true =>
        refine iteT ?_
        refine ⟨F5, δ4, G5, _, R5, S4.mono R4 k5, q5, fun v0 H5' ⟨d0, F5', G5', k5', R5', p5', q5'⟩ => ?_⟩
        refine ⟨F5', δ4, G5', _, R5', (S4.mono R4 k5).mono R5 k5', q5', fun v H6 ⟨d, F6, G6, k6, R6, p6, q6⟩ => ?_⟩
        obtain ⟨ky, ek, hl, q6⟩ := optQ_ex q6
        have k26 := (k25.trans k5').trans k6
        obtain ⟨h6, g6, f6⟩ := k26.k D _ g2 hD2
        have nf : ¬ F6 D := fun z => f2 (f6.mp z)
        have ra6 := RepK.mono R2 k26 _ _ ra
        have st := stay_hidK (F := F6) (o := .dK (putK xs ky v)) h6 nf
        have k16 := (kk.trans k5').trans k6
        refine ⟨xs, ky, keyOf_rep ek p5', h6, by rw [ra.len]; exact hl, F6, G6, putD acc ky d, putK xs ky v, ⟨fun a u ga ha => ?_⟩, rel_hidK R6 h6 nf g6, ?_, g6, nf, upd_same, putK_rep (Rep.stay st _ _ p6) (RepK.stay st _ _ ra6), q6⟩
        · obtain ⟨a1, a2, a3⟩ := k16.k a u ga ha
          refine ⟨by rw [upd_ne (fun z => by subst z; rw [hD] at ha; cases ha)]; exact a1, a2, a3⟩
        · have s6 := S2.mono R2 k26
          exact ⟨s6.len, fun j d' ej => by obtain ⟨v', e1, e2⟩ := s6.at' j d' ej; exact ⟨v', e1, Rep.stay st _ _ e2⟩⟩
      | false =>
        refine iteF ?_
        obtain ⟨h5, g5, f5⟩ := k25.k D _ g2 hD2
        exact ⟨F5, G5, acc, xs, kk, R5, S2.mono R2 k25, g5, fun z => f2 (f5.mp z), h5, RepK.mono R2 k25 _ _ ra, q5⟩
  · have ei : i = ds.length := by omega
    subst ei
    rw [List.drop_length] at q2
    obtain ⟨s2, q2⟩ := q2
    obtain ⟨stop, _⟩ := wk F2 H2 G2 k2 R2 s2
    refine .inl ⟨stop _ (Nat.le_refl _), k _ _ ⟨.dv acc, frzF F2 D, G2, ⟨fun a' u ga ha => ?_⟩, ⟨fun a' m e => ?_, fun a' f => ?_, fun a' f => ?_⟩, ⟨D, xs, rfl, ⟨.inr rfl, .of hD2⟩, ?_⟩, q2⟩⟩
    · obtain ⟨a1, a2, a3⟩ := (k1.trans k2).k a' u ga ha
      have nD : a' ≠ D := fun z => by
        subst z
        have := (k1.k a' u ga ha).1
        rw [hD] at this
        cases this
      exact ⟨a1, a2, ⟨fun z => z.elim a3.mp fun w => absurd w nD, fun z => .inl (a3.mpr z)⟩⟩
    · have st : Stay F2 H2 (frzF F2 D) H2 := ⟨fun _ _ h => h, fun _ _ f h => ⟨.inl f, h⟩, fun _ _ _ h => h, fun _ _ f h => ⟨.inl f, h⟩⟩
      exact RepO.stay st (fun _ _ h => h) rfl (R2.obj a' m e)
    · rcases f with f | f
      · exact R2.fr a' f
      · rw [f]; exact g2
    · rcases f with f | f
      · exact R2.al a' f
      · rw [f, hD2]; intro z; cases z
    · have st : Stay F2 H2 (frzF F2 D) H2 := ⟨fun _ _ h => h, fun _ _ f h => ⟨.inl f, h⟩, fun _ _ _ h => h, fun _ _ f h => ⟨.inl f, h⟩⟩
      exact RepK.stay st _ _ ra
theorem q_dc {kx vx iter : Expr} {ifs : List Expr} {scope : Scope} {own : List (Str × Nat)} {wi : DTI} {g : DTG} {tk : DTE} (hc : X.calm = true) (hN : X.N.Nodup) (hi : QI X tg iter wi) (ok : blkC X.N X.env.scope scope own = true)
    (hg : ∀ (s : Shared) (H : Hp) (C : Addr) (cl : List (Str × Addr)) (fp : List Addr), QG (X.blk s H scope (compEnvC scope cl C X.env) fp) (Pw (own.map (·.2))) tg g) (ht : ∀ (s : Shared) (H : Hp) (C : Addr) (cl : List (Str × Addr)) (fp : List Addr), QTs (X.blk s H scope (compEnvC scope cl C X.env) fp) ifs t)
    (hk : ∀ (s : Shared) (H : Hp) (C : Addr) (cl : List (Str × Addr)) (fp : List Addr), QE (X.blk s H scope (compEnvC scope cl C X.env) fp) kx tk)
    (he : ∀ (s : Shared) (H : Hp) (C : Addr) (cl : List (Str × Addr)) (fp : List Addr), QE (X.blk s H scope (compEnvC scope cl C X.env) fp) vx te) (hs : ∀ x, foldedSetIterable iter X.env x = pure x := by intro _; rfl) :
    QE X (.DictComp kx vx [⟨tg, iter, ifs, 0⟩] scope pos) (dDc wi g t tk te (own.map (·.2))) := PEmono (pe_dc (g := upG X.K (Pw (own.map fun (p : Str × Nat) => p.2)) g) (tt := upT X.K t) (tk := up X.K tk) (tv := up X.K te) hc hN hi (blkOk_by ok) hg ht hk he hs) fun σ H Q ⟨F, δ, G, Q', R, S, q, k⟩ =>
    ⟨F, δ, G, _, R, S, q, fun ds Sb J F1 H1 G1 k1 R1 wk q1 => dcomp_core R S k k1 R1 wk q1⟩
/-! ### in, over a row or a dictionary -/
def dInU (n : Bool) : R2d := fun x y G Q => match kvOf y G with
  | some _ => dDIn n x y G Q
  | none => dInR n x y G Q
theorem dInU_1 {n : Bool} {x : D} {kvs : List (L2.Key × D)} {G : Gp} {Q : D → Gp → Prop} : dInU n x (.dv kvs) G Q = optQ (keyOf x) fun k => Q (.bl (xor n (valD kvs k).isSome)) G := (rfl)
theorem dInU_2 {n : Bool} {x : D} {ds : List D} {G : Gp} {Q : D → Gp → Prop} : dInU n x (.tup ds) G Q = dInR n x (.tup ds) G Q := (rfl)
theorem dInU_3 {n : Bool} {x : D} {ds : List D} {G : Gp} {Q : D → Gp → Prop} : dInU n x (.lv ds) G Q = dInR n x (.lv ds) G Q := (rfl)
theorem lift_inU {n : Bool} : Lift2 K (fun x y H Q => r0In K n x y H Q ∨ rDIn n x y H Q) (dInU n) := by
  intro F H G d e v u Q Q0 R rd re q k
  unfold dInU at q
  split at q
  · exact .inr (lift_din F H G d e v u Q Q0 R rd re q k)
  · exact .inl (lift_in n F H G d e v u Q Q0 R rd re q k)
theorem q_uin (hu : X.A.units + 190 < cLine) (ha : QE X a ta) (hb : QE X b tb) (hm : behindInMarks .In b = false := by rfl) : QE X (.Compare a [.In] [b] pos) (dOp (dInU false) ta tb) := q_cmp (OpR.or (op_inU hu) (op_din hu)) lift_inU ha hb hm
theorem q_unin (hu : X.A.units + 190 < cLine) (ha : QE X a ta) (hb : QE X b tb) (hm : behindInMarks .NotIn b = false := by rfl) : QE X (.Compare a [.NotIn] [b] pos) (dOp (dInU true) ta tb) := q_cmp (OpR.or (op_ninU hu) (op_dnin hu)) lift_inU ha hb hm
theorem q_tuin (hu : X.A.units + 190 < cLine) (ha : QE X a ta) (hb : QE X b tb) (hm : behindInMarks .In b = false := by rfl) : QT X (.Compare a [.In] [b] pos) (dTest (dOp (dInU false) ta tb)) := q_tcmp (OpR.or (op_inU hu) (op_din hu)) lift_inU ha hb hm
theorem q_tunin (hu : X.A.units + 190 < cLine) (ha : QE X a ta) (hb : QE X b tb) (hm : behindInMarks .NotIn b = false := by rfl) : QT X (.Compare a [.NotIn] [b] pos) (dTest (dOp (dInU true) ta tb)) := q_tcmp (OpR.or (op_ninU hu) (op_dnin hu)) lift_inU ha hb hm
/-! ### a list comprehension over a row or a dictionary's names -/
def dLcU (i : Nat) (g : DTG) (tt : DTT) (te : DTE) (vs : List Nat) : DTE := fun δ G Q => match (getS δ i).bind dvOf with
  | some kvs => keysOk kvs = true ∧ dComp (fun _ => True) g tt te (wipeS δ vs) (fun acc G2 => Q (.lv acc) G2) (kvs.map fun kv => keyD kv.1) [] G
  | none => dLc (dIt (dVar i)) g tt te vs δ G Q
theorem dLcU_e {i : Nat} {g : DTG} {tt : DTT} {te : DTE} {vs : List Nat} {δ : DS} {G : Gp} {Q : D → Gp → Prop} : dLcU i g tt te vs δ G Q = match (getS δ i).bind dvOf with
  | some kvs => keysOk kvs = true ∧ dComp (fun _ => True) g tt te (wipeS δ vs) (fun acc G2 => Q (.lv acc) G2) (kvs.map fun kv => keyD kv.1) [] G
  | none => dLc (dIt (dVar i)) g tt te vs δ G Q := (rfl)
theorem q_lcU {elt : Expr} {ifs : List Expr} {scope : Scope} {own : List (Str × Nat)} {g : DTG} {x : Str} {p : Pos} (i : Nat) (hc : X.calm = true) (hN : X.N.Nodup) (hi : PE X (.Name x p) (tVar i)) (ok : blkC X.N X.env.scope scope own = true)
    (hg : ∀ (s : Shared) (H : Hp) (C : Addr) (cl : List (Str × Addr)) (fp : List Addr), QG (X.blk s H scope (compEnvC scope cl C X.env) fp) (Pw (own.map (·.2))) tg g) (ht : ∀ (s : Shared) (H : Hp) (C : Addr) (cl : List (Str × Addr)) (fp : List Addr), QTs (X.blk s H scope (compEnvC scope cl C X.env) fp) ifs t)
    (he : ∀ (s : Shared) (H : Hp) (C : Addr) (cl : List (Str × Addr)) (fp : List Addr), QE (X.blk s H scope (compEnvC scope cl C X.env) fp) elt te) (hs : ∀ z, foldedSetIterable (.Name x p) X.env z = pure z := by intro _; rfl) :
    QE X (.ListComp elt [⟨tg, .Name x p, ifs, 0⟩] scope pos) (dLcU i g t te (own.map (·.2))) := by
  have base1 := q_lc (pos := pos) hc hN (qi (q_of hi)) ok hg ht he hs
  have base2 := pe_lc (pos := pos) (g := upG X.K (Pw (own.map fun (p : Str × Nat) => p.2)) g) (tt := upT X.K t) (te := up X.K te) hc hN (pi_keys hi) (blkOk_by ok) hg ht he hs
  have lock := pe_lock base2
  refine ⟨fun pins s σ H Q I h => ?_⟩
  obtain ⟨F, δ, G, Q', R, S, q, k⟩ := h
  unfold dLcU at q
  cases e1 : getS δ i with
  | none =>
    rw [e1] at q
    exact base1.run pins s σ H Q I ⟨F, δ, G, Q', R, S, q, k⟩
  | some dd =>
    rw [e1] at q
    cases e2 : dvOf dd with
    | none =>
      rw [Option.bind_some, e2] at q
      exact base1.run pins s σ H Q I ⟨F, δ, G, Q', R, S, q, k⟩
    | some kvs =>
      rw [Option.bind_some, e2] at q
      obtain ⟨okk, q⟩ := q
      cases dd with
      | dv ks =>
        cases e2
        obtain ⟨v, hv, rv⟩ := S.at' i _ e1
        obtain ⟨a, xs, rfl, ⟨f, hr⟩, rk⟩ := rv
        have nG := R.fr a f
        rcases hr with hr | ⟨o, hr⟩
        · refine lock.run pins s σ H Q I ⟨a, _, hr, trivial, fun od => ⟨.ref a, hv, a, od, rfl, .inl ⟨xs, upd_same, ?_⟩⟩⟩
          have sl := stay_lock (F := F) (od := od) hr
          have R2 := rel_at R sl nG (fun y z => by rw [hr] at z; cases z)
          refine comp_core (Q' := Q') (Q := fun v H' => H' a = some (.frz od (.dK xs)) ∧ Q v (upd H' a (.dK xs))) R2 (S.stay sl) (fun v H' h => ?_) .refl R2 (walked_k upd_same nG rk.keys okk) q
          obtain ⟨d, F2, G2, k2, R3, p2, q2⟩ := h
          obtain ⟨h1, g1, k3⟩ := keep_lock hr nG k2
          have s2 := stay_free (F := F2) h1
          exact ⟨h1, k _ _ ⟨d, F2, G2, k3, rel_at R3 s2 g1 (fun y z => by rw [h1] at z; cases z), Rep.stay s2 d v p2, q2⟩⟩
        · exact base2.run pins s σ H Q I ⟨.ref a, hv, a, o, rfl, .inl ⟨xs, hr, comp_core (Q' := Q') R S k .refl R (walked_k hr nG rk.keys okk) q⟩⟩
      | _ => cases e2
/-! ### name = {k: v for ..} -/
theorem swapDc {kx vx : Expr} {gs : List Comprehension} {sco : Scope} {p1 py : Pos} {y : Str} {ln : Nat} {ev : Env} (h1 : ev.scope.kind = .function) (h2 : ev.scope.names.lookup y = some .local) (h3 : (py.line == p1.line) = true)
    (h4 : (sco.names.any fun (m, j) => m == y && (j == .local || j == .cell)) = false) : swapsWith (.DictComp kx vx gs sco p1) (some (.Name y py)) ln ev = pure true := by
  have k1 : ev.kindOf y = some .local := h2
  have k2 : ev.blockKind = .function := by
    unfold Env.blockKind
    rw [h1] <;> rfl
  unfold swapsWith
  simp only [k2, k1, h4, Expr.pos, h3]
  first | rfl | decide
theorem ps_setDc {i : Nat} {y : Str} {py : Pos} {kx vx iter : Expr} {ifs : List Expr} {sco : Scope} {own : List (Str × Nat)} {p1 p2 : Pos} {wi : TI} {g : TG} {tt : TT} {tk tv : TE} (hcal : X.calm = true) (hnd : X.N.Nodup) (hy : X.N[i]? = some y) (hloc : X.env.scope.names.lookup y = some .local)
    (hsw : swapsWith (.DictComp kx vx [⟨tg, iter, ifs, 0⟩] sco p1) (some (.Name y py)) p2.line X.env = pure true) (hi : PI X tg iter wi) (okb : BlkOk X.N X.env.scope sco own)
    (fg : ∀ (s : Shared) (H : Hp) (C : Addr) (cl : List (Str × Addr)) (fp : List Addr), PG (X.blk s H sco (compEnvC sco cl C X.env) fp) tg g) (ft : ∀ (s : Shared) (H : Hp) (C : Addr) (cl : List (Str × Addr)) (fp : List Addr), PTs (X.blk s H sco (compEnvC sco cl C X.env) fp) ifs tt)
    (fk : ∀ (s : Shared) (H : Hp) (C : Addr) (cl : List (Str × Addr)) (fp : List Addr), PE (X.blk s H sco (compEnvC sco cl C X.env) fp) kx tk)
    (fv : ∀ (s : Shared) (H : Hp) (C : Addr) (cl : List (Str × Addr)) (fp : List Addr), PE (X.blk s H sco (compEnvC sco cl C X.env) fp) vx tv) (hs : ∀ x, foldedSetIterable iter X.env x = pure x := by intro _; rfl) :
    PS X (.Assign [.Name y py] (.DictComp kx vx [⟨tg, iter, ifs, 0⟩] sco p1) p2) (tAsg (tDc wi g tt tk tv (own.map (·.2))) (gName i)) := by
  refine ⟨fun pins s σ H D Iv hh => ?_⟩
  rw [exec_Assign_Name_used _ _ _ _ hsw]
  refine wpAny_bind (wpAny_standAt (wpAny_bind ?_))
  show wpAny _ X.A (comprehension (.DictComp kx vx [⟨tg, iter, ifs, 0⟩] sco p1) sco X.env (firstIterPos [⟨tg, iter, ifs, 0⟩] p1) newDict false (eval iter X.env) (some (assign (.Name y py) X.env)) >>= _) _ _ s
  have hh : tDc wi g tt tk tv (own.map (·.2)) σ H (fun x H1 => gName i x σ H1 D.nx) := hh
  refine wpAny_bind (thn (dc_core (Qf := fun _ s' => SP X pins D .next s') hcal hnd Iv hi okb fg ft fk fv hs hh fun DA C s' m H' J q hn fo => ?_) fun _ s' hq => wpAny_pure (wpAny_pure hq))
  show wpAny _ _ (assign (.Name y py) X.env (.ref DA)) _ _ _
  refine wpAny_assign_Name (store_ok2 (v := V.ref DA) J hnd hy (.inl hloc) rfl (fun s2 J2 ⟨a, sb, ha⟩ => ?_) (.inr hloc))
  obtain ⟨o0, o1, o2, o3, o4, o5⟩ := fo
  have hne : C ≠ a := by
    rcases ha with z | z
    · rw [z] <;> exact o1
    · exact fun e => o4 y a z e.symm
  refine ⟨m, hn.sameBut sb hne, fun h3 sb3 => ?_⟩
  exact ⟨_, H', J2.turned (t' := s2.toks) (fun b o hb e => Eq.trans (sb3.2 b hb) e) o0 o1 o3 o4 o5, q⟩
theorem qs_setDc {i : Nat} {y : Str} {py : Pos} {kx vx iter : Expr} {ifs : List Expr} {scope : Scope} {own : List (Str × Nat)} {spos : Pos} {wi : DTI} {g : DTG} {tk : DTE} (hc : X.calm = true) (hN : X.N.Nodup) (hy : X.N[i]? = some y) (hyl : X.env.scope.names.lookup y = some .local)
    (hk : X.env.scope.kind = .function) (hl : (py.line == pos.line) = true) (hn : (scope.names.any fun (n, k) => n == y && (k == .local || k == .cell)) = false) (hi : QI X tg iter wi) (ok : blkC X.N X.env.scope scope own = true)
    (hg : ∀ (s : Shared) (H : Hp) (C : Addr) (cl : List (Str × Addr)) (fp : List Addr), QG (X.blk s H scope (compEnvC scope cl C X.env) fp) (Pw (own.map (·.2))) tg g) (ht : ∀ (s : Shared) (H : Hp) (C : Addr) (cl : List (Str × Addr)) (fp : List Addr), QTs (X.blk s H scope (compEnvC scope cl C X.env) fp) ifs t)
    (hx : ∀ (s : Shared) (H : Hp) (C : Addr) (cl : List (Str × Addr)) (fp : List Addr), QE (X.blk s H scope (compEnvC scope cl C X.env) fp) kx tk)
    (he : ∀ (s : Shared) (H : Hp) (C : Addr) (cl : List (Str × Addr)) (fp : List Addr), QE (X.blk s H scope (compEnvC scope cl C X.env) fp) vx te) (hs : ∀ x, foldedSetIterable iter X.env x = pure x := by intro _; rfl) :
    QS X (.Assign [.Name y py] (.DictComp kx vx [⟨tg, iter, ifs, 0⟩] scope pos) spos) (dAsg (dDc wi g t tk te (own.map (·.2))) (dName i)) :=
  PSmono (ps_setDc (g := upG X.K (Pw (own.map fun (p : Str × Nat) => p.2)) g) (tt := upT X.K t) (tk := up X.K tk) (tv := up X.K te) hc hN hy hyl (swapDc hk hyl hl hn) hi (blkOk_by ok) hg ht hx he hs)
    fun _ _ _ h => upSet (fun σ H Q ⟨F, δ, G, Q', R, S, q, k⟩ => ⟨F, δ, G, _, R, S, q, fun ds Sb J F1 H1 G1 k1 R1 wk q1 => dcomp_core R S k k1 R1 wk q1⟩) h
end
end DL
set_option Elab.async false
set_option linter.all false
set_option maxRecDepth 100000
set_option maxHeartbeats 4000000
namespace DL
open PySem PySem.Spec PyProof.Rows L2
section
variable {X : Cx} {K : PySem.W.Frag} {F F' : Fr} {H H' : Hp} {G G' : Gp} {a : Expr}
/-! ### xs.pop() -/
def dPop (to : DTE) : DTE := fun δ G Q => to δ G fun o G1 => optQ (refOf o) fun p => optQ (lstOf (G1 p)) fun ds => optQ ds[ds.length - 1]? fun d => Q d (updG G1 p (.lst ds.dropLast))
theorem upPop {to : DTE} {σ : L2.St} {Q : VK} (h : up K (dPop to) σ H Q) : tBM0 K "list" rPop (up K to) σ H Q := by
  obtain ⟨F, δ, G, Q', R, S, q, k⟩ := h
  refine ⟨F, δ, G, _, R, S, q, fun v H1 ⟨o, F1, G1, k1, R1, p1, q1⟩ => ?_⟩
  replace q1 := optQ_ex q1
  obtain ⟨p, ep, q1⟩ := q1
  replace q1 := optQ_ex q1
  obtain ⟨es, el, q1⟩ := q1
  replace q1 := optQ_ex q1
  obtain ⟨d, ed, q1⟩ := q1
  have eo := refOf_eq ep
  subst eo
  cases p1
  have eg := lstOf_eq el
  obtain ⟨xs, h1, h2⟩ := R1.obj p _ eg
  obtain ⟨y, e1, r1⟩ := h2.get ed
  have kk := keep_set (F := F1) (H := H1) (o := .lst xs.dropLast) (m' := .lst es.dropLast) eg
  refine ⟨.inl ⟨rfl, _, .of h1⟩, p, xs, y, rfl, rfl, h1, by rw [h2.len]; exact e1, ?_⟩
  have hd : RepL K F1 H1 es.dropLast xs.dropLast := by
    rw [List.dropLast_eq_take, List.dropLast_eq_take, h2.len]
    exact h2.take _
  exact k _ _ ⟨d, F1, _, k1.trans kk, rel_set R1 eg ⟨_, upd_same, RepL.mono R1 kk _ _ hd⟩, Rep.mono R1 kk _ _ r1, q1⟩
theorem q_pop {apos cpos : Pos} {to : DTE} (ho : QE X a to)
    (hbase : attributeBase a "pop" X.env (eval a X.env) = eval a X.env := by rfl)
    (hline : (apos.endLine == cpos.line) = true := by rfl) : QE X (.Call (.Attribute a "pop" apos) [] [] cpos) (dPop to) :=
  PEmono (pe_bm0 PySem.F.plainAttrs_list PySem.F.slot_list_pop PySem.F.type_list_pop mt_pop ho hbase hline) fun _ _ _ h => upPop h
end
/-! ### xs + ys, of which one may still be changed -/
def lsOf : D → Gp → Option (List D)
  | .lv ds, _ => some ds
  | .ref a, G => lstOf (G a)
  | _, _ => none
theorem lsOf_rep {K : PySem.W.Frag} {F : Fr} {H : Hp} {G : Gp} {d : D} {v : V} {ds : List D} (R : Rel K F H G) (r : Rep K F H d v) (e : lsOf d G = some ds) : ∃ a xs, v = .ref a ∧ H a = some (.lst xs) ∧ RepL K F H ds xs := by
  unfold lsOf at e
  split at e
  · cases e
    obtain ⟨a, xs, rfl, ha, pa⟩ := r
    exact ⟨a, xs, rfl, ha.2, pa⟩
  · cases r
    obtain ⟨xs, h1, h2⟩ := R.obj _ _ (lstOf_eq e)
    exact ⟨_, xs, rfl, h1, h2⟩
  · cases e
def dAddM : R2d := fun x y G Q => optQ (lsOf x G) fun xs => optQ (lsOf y G) fun ys => xs.length + ys.length ≤ sizeLine ∧ Q (.lv (xs ++ ys)) G
theorem lift_addM {K : PySem.W.Frag} : Lift2 K (r0Add K) dAddM := by
  intro F H G d e v u Q Q0 R rd re q k
  replace q := optQ_ex q
  obtain ⟨xs, hx, q⟩ := q
  replace q := optQ_ex q
  obtain ⟨ys, hy, hl, q⟩ := q
  obtain ⟨a, us, rfl, ha, pa⟩ := lsOf_rep R rd hx
  obtain ⟨b, ws, rfl, hb, pb⟩ := lsOf_rep R re hy
  exact .inr (.inr (.inr ⟨a, b, us, ws, rfl, rfl, ha, hb, by rw [pa.len, pb.len]; exact hl, fun p hp => fin_lv R k (pa.app pb) q p hp⟩))
theorem q_addM {X : Cx} {a b : Expr} {ta tb : DTE} {pos : Pos} (ha : QE X a ta) (hb : QE X b tb) : QE X (.BinOp a .Add b pos) (dOp dAddM ta tb) := q_op op_addU lift_addM ha hb
theorem dAddM_e {x y : D} {G : Gp} {Q : D → Gp → Prop} : dAddM x y G Q = optQ (lsOf x G) fun xs => optQ (lsOf y G) fun ys => xs.length + ys.length ≤ sizeLine ∧ Q (.lv (xs ++ ys)) G := (rfl)
theorem lsOf_1 {xs : List D} {G : Gp} : lsOf (.lv xs) G = some xs := (rfl)
theorem lsOf_2 {a : Addr} {G : Gp} : lsOf (.ref a) G = lstOf (G a) := (rfl)
section
variable {to : DTE} {δ : DS} {G : Gp} {Q : D → Gp → Prop}
theorem dPop_e : dPop to δ G Q = to δ G fun o G1 => optQ (refOf o) fun p => optQ (lstOf (G1 p)) fun ds => optQ ds[ds.length - 1]? fun d => Q d (updG G1 p (.lst ds.dropLast)) := (rfl)
end
end DL
set_option Elab.async false
set_option linter.all false
set_option maxRecDepth 100000
set_option maxHeartbeats 4000000
/-! BX: an own error below an own error below ValueError, whose __init__ says super().__init__ of a text and then keeps its arguments. -/
namespace PySem
namespace BX
open PySem.W PySem.Calls PyProof.Rows PySem.HandSPX
section
variable {prog : Program} {w : World} {A : Around} {E : Value → Shared → Prop} {h : Heap} {g : Array GenState} {d : Drawn} {t : Nat} {os : OsState}
variable {nm q : Str} {C N : Addr} {bs bm : List Value} {hdct : Bool} {sn : List Str} {sub : List Value} {ab : Bool} {col : Option Bool} {dd : Option Addr} {k0 k1 k2 k3 k5 : Option Value}
/-- the bound ValueError.__init__ is called: the arguments are laid anew -/
theorem wrapped {u e t0 : Addr} {us : List Value} {Q : Value → Shared → Prop} (cC : h.get? C = some (excClassObj nm q C N bs bm hdct sn sub ab col dd k0 k1 k2 k3 k5 "ValueError.__new__"))
    (ce : h.get? e = some (excO C t0)) (cu : h.get? u = some (kxs_mw "ValueError.__init__" e)) (hus : us.length ≤ sizeLine)
    (fin : ∀ h' t1, (∀ b o, b ≠ e → h.get? b = some o → h'.get? b = some o) → h'.get? e = some (excO C t1) → Q .none ⟨h', g, d, t, os⟩) :
    wpAny (model prog w) A (call (.ref u) us) Q E ⟨h, g, d, t, os⟩ := by
  have FV := F.excBase_ValueError
  refine wpAny_call (codeAny_of_tree ?_)
  show wpAny _ A.in1 (callAny (.ref u) ⟨us, []⟩) _ _ _
  unfold callAny
  refine wpAny_bind (wpAny_load cu ?_)
  simp only [kxs_mw]
  refine KFB.if_so (by decide) ?_
  refine wpAny_bind ?_
  refine check_bound_init FV.toExcCallFacts cC ce rfl ?_
  refine wpAny_bind (wpAny_pure ?_)
  refine wpAny_pure ?_
  refine ⟨plainId_quiet FV.init.plain _, codeAny_builtin FV.initEntry ?_⟩
  rw [Around.under_plainId FV.init.plain _]
  wp_walk
  refine fin _ h.objs.size (fun b o hb ho => ?_) ?_
  · rw [Heap.get?_update_other _ _ (Ne.symm hb)]
    exact Heap.get?_push_of_some _ ho
  · rw [Heap.get?_update_self _ (Heap.get?_push_of_some _ ce) rfl]
    first | rfl | skip
end

/-- the text of __init__ of two arguments, its places open -/
def args3 (a b : Str) (p : Nat → Pos) : Arguments := { posonlyargs := [], args := [⟨"self", none, p 0⟩, ⟨a, none, p 1⟩, ⟨b, none, p 2⟩], vararg := none, kwonlyargs := [], kw_defaults := [], kwarg := none, defaults := [] }
def supS (vals : List Expr) (p : Nat → Pos) : Stmt := .Expr (.Call (.Attribute (.Call (.Name "super" (p 0)) [] [] (p 1)) "__init__" (p 2)) [.JoinedStr vals (p 3)] [] (p 4)) (p 5)
def keepS (f : Str) (p : Nat → Pos) : Stmt := .Assign [.Attribute (.Name "self" (p 0)) f (p 1)] (.Name f (p 2)) (p 3)
def scope3 (a b : Str) : Scope := { kind := .function, names := [("self", .local), (a, .local), (b, .local), ("__class__", .free), ("super", .globalImplicit)], isGenerator := false, isCoroutine := false, more := [] }
def valsBad (p : Nat → Pos) : List Expr := [.FormattedValue (.Name "reason" (p 0)) (-1) none (p 1), .Constant (.str " at ") 0 (p 2), .FormattedValue (.Name "at" (p 3)) (-1) none (p 4)]
abbrev callS (vals : List Expr) (p : Nat → Pos) : Expr := .Call (.Attribute (.Call (.Name "super" (p 0)) [] [] (p 1)) "__init__" (p 2)) [.JoinedStr vals (p 3)] [] (p 4)
abbrev fnBad (qual : Str) (pa ps pv p1 p2 : Nat → Pos) (kV doc pm : Value) (an : Option Addr) (cdv ct : Value) (cc : Addr) : FuncData :=
  ksFn "__init__" qual (args3 "at" "reason" pa) [supS (valsBad pv) ps, keepS "at" p1, keepS "reason" p2] (scope3 "at" "reason") .none kV doc pm an cdv ct cc
/-- what the written part says of BadOctets, at C: its __init__ at fI, the cell of its class, the code object -/
structure Txt (P : Program) (K : Frag) (C fI cc cda : Addr) : Prop where
  cls : ∃ nm q N bs bm sn sub ab col dd k0 k1 k2 k3 k5, K.lookup C = some (excClassObj nm q C N bs bm true sn sub ab col dd k0 k1 k2 k3 k5 "ValueError.__new__") ∧ refsVE bm = true
  sa : findIn K (.ref C) "__setattr__" = some (some (.builtin "object.__setattr__"))
  n1 : findIn K (.ref C) "at" = some none
  n2 : findIn K (.ref C) "reason" = some none
  iC : findIn K (.ref C) "__init__" = some (some (.ref fI))
  tC : typeIn K (.ref fI) = some (.type "function")
  op : nsIn K cStatics "thirdparty.any" = some none
  sm : ks_superIn K C C "__init__" = some (some (.builtin "ValueError.__init__"))
  sv : subIn K (.ref C) (.type "ValueError") = some true
  mr : mroIn K C (.ref C) = some true
  su : nsIn K mainGlobals "super" = some none
  cell : ∃ cl cld csl, K.lookup cc = some ⟨cl, cld, .cell (some (.ref C)), csl⟩
  code : ∃ ccl cdd vs ccs file tf, K.lookup cda = some ⟨ccl, cdd, .fields vs, ccs⟩ ∧ vs[2]? = some (.str file tf) ∧ ((P.main.file : Str) == file) = true
  top : (P.main.scope.names.lookup ("super" : Str)).isSome = false
  fn : ∃ (qual : Str) (oc : Value) (od : Option Addr) (kV doc pm : Value) (an : Option Addr) (ct : Value) (osl : Array (Option Value)) (pa ps pv p1 p2 : Nat → Pos),
    K.lookup fI = some ⟨oc, od, .func (fnBad qual pa ps pv p1 p2 kV doc pm an (.ref cda) ct cc), osl⟩ ∧ codeIn K (.ref cda) qual = true ∧
    ∀ L : Addr, ∃ pl, eval (callS (valsBad pv) ps) (ksEnv qual (scope3 "at" "reason") L fI (.ref cda) cc) = (do
      let ov ← attributeBase (.Call (.Name "super" (ps 0)) [] [] (ps 1)) "__init__" (ksEnv qual (scope3 "at" "reason") L fI (.ref cda) cc) (eval (.Call (.Name "super" (ps 0)) [] [] (ps 1)) (ksEnv qual (scope3 "at" "reason") L fI (.ref cda) cc))
      standAt (ps 2).atName
      let (f, first) ← holding [ov] (getMethod ov "__init__" pl)
      callWith (ps 4) f first (backTo (ps 4) (starEach [.JoinedStr (valsBad pv) (ps 3)] (ksEnv qual (scope3 "at" "reason") L fI (.ref cda) cc))) [])
/-- what __init__ leaves at x -/
structure Left (h h' : Heap) (x C dx : Addr) (v1 v2 : Value) : Prop where
  keep : ∀ b o, b ≠ x → h.get? b = some o → h'.get? b = some o
  obj : ∃ t1, h'.get? x = some { cls := .ref C, dict := some dx, data := .fields #[.ref t1, .none, .none, .none, .bool false, .none] }
  dbig : h.objs.size ≤ dx
  dne : dx ≠ x
  ns : h'.Ns1 dx (fun y => if y = "reason" then some v2 else if y = "at" then some v1 else none)
theorem ldN {M : Model} {A : Around} {E : Value → Shared → Prop} {s : Shared} {env : Env} {m : Str → Option Value} {x : Str} {pos : Pos} {v : Value} {Q : Value → Shared → Prop} (hn : s.heap.Ns env.locals m) (hv : m x = some v) (h : Q v s)
    (hk : env.scope.kind = .function := by rfl) (hl : env.kindOf x = some .local := by rfl) (hd : (x == ("__debug__" : Str)) = false := by decide) :
    wpAny M A (eval (.Name x pos) env) Q E s := wpAny_Name (wpAny_loadName_local hk hl hn hv h) hd
section
variable {prog : Program} {w : World} {A : Around} {E : Value → Shared → Prop} {h : Heap} {g : Array GenState} {d : Drawn} {os : OsState}
theorem bad_text {env : Env} {m : Str → Option Value} {i : Int} {z : Str} {ti tz : Tok} {pv : Nat → Pos} {p : Pos} {t : Nat} {Q : Value → Shared → Prop} (hn : h.Ns env.locals m) (h1 : m "reason" = some (.str z tz)) (h2 : m "at" = some (.int i ti)) (hk : env.scope.kind = .function) (l1 : env.kindOf "reason" = some .local) (l2 : env.kindOf "at" = some .local)
    (hi : i.natAbs.log2 < 1920) (hz : z.length ≤ 1000) (q : ∀ u tk, Q u ⟨h, g, d, tk, os⟩) : wpAny (model prog w) A (eval (.JoinedStr (valsBad pv) p) env) Q E ⟨h, g, d, t, os⟩ := by
  have hL := int_text_len_1921 hi
  have e0 : Str.empty.length = 0 := rfl
  have e1 : (Str.ofString " at ").length = 4 := by decide +kernel
  have ap : ∀ a b : Str, (a ++ b).length = a.length + b.length := fun a b => strLen_append a b
  have hsz : sizeLine = 16777216 := by decide
  refine wpAny_JoinedStr ?_
  refine wpAny_FormattedValue_plain (ldN hn h1 ?_ hk l1 (by decide))
  have two : ∀ tk, Joins (model prog w) A E (evalEach [.Constant (.str " at ") 0 (pv 2), .FormattedValue (.Name "at" (pv 3)) (-1) none (pv 4)] env) (Str.empty ++ z) (fun out s₁ => out.length ≤ sizeLine ∧ Q (.str out s₁.toks) { s₁ with toks := s₁.toks + 1 }) ⟨h, g, d, tk, os⟩ := fun tk => by
    refine wpAny_Constant_str ⟨_, _, rfl, by rw [ap, ap, e0, e1, hsz]; omega, ?_⟩
    refine wpAny_FormattedValue_plain (ldN (s := ⟨h, g, d, _, os⟩) hn h2 ?_ hk l2 (by decide))
    refine wpAny_formatField_int hi ⟨_, _, rfl, by rw [ap, ap, ap, e0, e1, hsz]; have : (toString i : Str).length ≤ 1921 := hL; omega, ?_⟩
    exact ⟨by rw [ap, ap, ap, e0, e1, hsz]; have : (toString i : Str).length ≤ 1921 := hL; omega, q _ _⟩
  exact wpAny_formatField_str ⟨z, _, rfl, by rw [ap, e0, hsz]; omega, two _⟩ ⟨z, _, rfl, by rw [ap, e0, hsz]; omega, two _⟩ (by rw [hsz]; omega)
end
section
variable {prog : Program} {w : World} {A : Around} {R : Result → Shared → Prop} {s : Shared} {K : Frag} {mg mb : Str → Option Value} {C fI cc cda : Addr}
theorem init_walk (T : Txt prog K C fI cc cda) (base : Heap) {x t0 : Addr} {i : Int} {z : Str} {ti tz : Tok} (X0 : K.In base) (G0 : base.Ns mainGlobals mg) (B0 : base.Ns builtinsNs mb) (hB : mb "super" = some (.type "super")) (up : ∀ b o, base.get? b = some o → s.heap.get? b = some o)
    (hlim : s.heap.NoLimit) (hx : s.heap.get? x = some (excO C t0)) (hnx : K.lookup x = none) (hroom : A.depth < recursionLimit) (hi : i.natAbs.log2 < 1000) (hz : z.length ≤ 1000)
    (hq : ∀ h' tk dx, Left s.heap h' x C dx (.int i ti) (.str z tz) → R (.ok (.ret .none)) { s with heap := h', toks := tk }) :
    codeAny (model prog w) A (.call (.ref fI) ⟨[.ref x, .int i ti, .str z tz], []⟩) R s := by
  obtain ⟨qual, oc, od, kV, doc, pm, an, ct, osl, pa, ps, pv, p1, p2, hfn, hcd, hev⟩ := T.fn
  obtain ⟨cl, cld, csl, hcc⟩ := T.cell
  obtain ⟨ccl, cdd, vs, ccs, file, tf, hcda, hvs, hfile⟩ := T.code
  obtain ⟨nm, q, N, bs, bm, sn, sub, ab, col, dd, k0, k1, k2, k3, k5, hC, hbm⟩ := T.cls
  have hcl : clsIn K C = some { name := nm, bases := bs, mro := .ref C :: bm, ns := N, qualname := q, hasDict := true, slotNames := sn, subclasses := sub, abstract := ab, collection := col, hasDel := false } := by unfold clsIn; rw [hC] <;> rfl
  have X : K.In s.heap := X0.keeps up
  obtain ⟨pl, hev⟩ := hev s.heap.objs.size
  refine ks_codeAny_call_defAt (fd := fnBad qual pa ps pv p1 p2 kV doc pm an (.ref cda) ct cc) (body := [supS (valsBad pv) ps, keepS "at" p1, keepS "reason" p2]) (binds := [("self", .ref x), ("at", .int i ti), ("reason", .str z tz)]) hroom (X _ _ hfn) rfl hlim (codeRec_of X hcd) rfl (BindsTo.of_eq (by rfl)) (by show ∀ x ∈ (scope3 "at" "reason").names, x.2 ≠ .cell; decide) (by intro y hy; simp only [List.mem_cons, List.not_mem_nil, or_false] at hy; rcases hy with rfl | rfl | rfl <;> rfl) (fun h₁ hns k => ?_)
  have X₁ : K.In h₁ := X.keeps k
  have hx₁ := k _ _ hx
  have L0 : h₁.Ns s.heap.objs.size (fun y => ([(("self" : Str), Value.ref x), ("at", .int i ti), ("reason", .str z tz)].reverse : List (Str × Value)).lookup y) := hns
  refine ks_wpAt_execs_cons (ks_wpAt_Expr_any (ks_wpAt_MethodCall (pl := pl) ?_ hev))
  refine ks_wpAt_super_base (env := ksEnv qual (scope3 "at" "reason") s.heap.objs.size fI (.ref cda) cc) rfl rfl (by decide) rfl (k _ _ (X _ _ hfn)) rfl rfl rfl (X₁ _ _ hcda) rfl hvs hfile T.top ?_
  refine ks_loadName_global rfl rfl (loadGlobal_builtin (env := ksEnv qual (scope3 "at" "reason") s.heap.objs.size fI (.ref cda) cc) ((G0.keeps up).keeps k) (mg_none_of X0 G0 T.su) ((B0.keeps up).keeps k) hB ⟨rfl, ?_⟩)
  refine wpAny_loadName_free rfl rfl rfl ⟨_, X₁ _ _ hcc, rfl⟩ ?_
  refine wpAny_loadName_local rfl rfl hns (by rfl) ?_
  refine ks_wpAny_isType_cls (X₁ _ _ hC) rfl ⟨rfl, ?_⟩
  refine ks_wpAny_call_super (X₁ _ _ hC) rfl hx₁ rfl (fun c e => by cases e) (looks_mroIn X₁ T.mr) (fun h₂ e₂ k₂ => ?_)
  have X₂ : K.In h₂ := X₁.keeps k₂
  have hx₂ := k₂ _ _ hx₁
  have hm : alongIn K "__init__" (((Value.ref C :: bm).dropWhile (· != .ref C)).drop 1) = some (some (.builtin "ValueError.__init__")) := by
    have e := T.sm
    unfold ks_superIn at e
    rw [hcl] at e
    exact e
  have I₂ : InstAt h₂ x (excO C t0) C none := ⟨hx₂, rfl, rfl, trivial⟩
  have hxC : x ≠ C := fun e => by rw [e, hC] at hnx; cases hnx
  refine kxs_getMethod kxs_ValueError e₂ (looks_opaque X₂ T.op) (l₀ := .ref C :: bm) (fun A Q E s k q => wpAny_bind ((looks_clsIn X₂ hcl) A _ E s k (wpAny_pure q))) rfl X₂ hm (I₂.type.andThen (looks_subIn X₂ T.sv)) hxC (by decide) ?_
  have k₃ : ∀ b o, h₂.get? b = some o → (h₂.push (kxs_mw "ValueError.__init__" x)).get? b = some o := fun b o e => Heap.get?_push_of_some _ e
  have cu : (h₂.push (kxs_mw "ValueError.__init__" x)).get? h₂.objs.size = some (kxs_mw "ValueError.__init__" x) := Heap.get?_push_at rfl rfl
  generalize h₂.push (kxs_mw "ValueError.__init__" x) = h₃ at k₃ cu
  have n₃ : h₃.Ns s.heap.objs.size (fun y => ([(("self" : Str), Value.ref x), ("at", .int i ti), ("reason", .str z tz)].reverse : List (Str × Value)).lookup y) := (L0.keeps k₂).keeps k₃
  show wpAny _ _ (callWith (ps 4) (.ref h₂.objs.size) [] ((false, eval (.JoinedStr (valsBad pv) (ps 3)) (ksEnv qual (scope3 "at" "reason") s.heap.objs.size fI (.ref cda) cc)) :: []) []) _ _ _
  refine kxs_callWith (i := "ValueError.__init__") (x := x) rfl (evalArgs_plain (spliced_cons ?_))
  refine bad_text n₃ (by rfl) (by rfl) rfl rfl rfl (by omega) hz fun u tk => ?_
  refine spliced_nil ⟨cu, ?_⟩
  show wpAny _ _ (call (.ref h₂.objs.size) [u]) _ _ _
  have X₃ : K.In h₃ := X₂.keeps k₃
  refine wrapped (X₃ _ _ hC) (k₃ _ _ hx₂) cu (by rw [show sizeLine = 16777216 by decide]; exact (by decide : 1 ≤ 16777216)) fun h₄ t1 k₄ hx₄ => ?_
  have X₄ : K.In h₄ := fun a o e => k₄ a o (fun z => by rw [z, hnx] at e; cases e) (X₃ a o e)
  have old : ∀ b o, b ≠ x → s.heap.get? b = some o → h₄.get? b = some o := fun b o nb e => k₄ b o nb (k₃ b o (k₂ b o (k b o e)))
  have hLx : s.heap.objs.size ≠ x := Nat.ne_of_gt (Heap.lt_size hx)
  have n₄ : h₄.Ns s.heap.objs.size (fun y => ([(("self" : Str), Value.ref x), ("at", .int i ti), ("reason", .str z tz)].reverse : List (Str × Value)).lookup y) := n₃.at fun o q => k₄ _ o hLx q
  refine wpAt_of_wpAny ?_
  refine wpAny_execs_cons (plainObj_wpAny_Assign_Attribute ?_)
  refine ldN (v := .int i ti) n₄ (by rfl) (ldN (v := .ref x) n₄ (by rfl) ?_)
  refine set_plain X₄ (ox := excO C t1) (od := none) ⟨hx₄, rfl, rfl, trivial⟩ T.sa ?_
  refine exc_osa X₄ hx₄ hcl (show refsVE (.ref C :: bm) = true from hbm) rfl T.n1 (fun h₅ tk₅ dx k₅ dn dne hx₅ hn₅ => ?_)
  have X₅ : K.In h₅ := fun a o e => k₅ a o (fun z => by rw [z, hnx] at e; cases e) (X₄ a o e)
  have n₅ : h₅.Ns s.heap.objs.size (fun y => ([(("self" : Str), Value.ref x), ("at", .int i ti), ("reason", .str z tz)].reverse : List (Str × Value)).lookup y) := n₄.at fun o q => k₅ _ o hLx q
  show wpAny _ _ (execs [keepS "reason" p2] _) _ _ _
  refine wpAny_execs_cons (plainObj_wpAny_Assign_Attribute ?_)
  refine ldN (v := .str z tz) n₅ (by rfl) (ldN (v := .ref x) n₅ (by rfl) ?_)
  have hw₅ : Within (fun y => if y = ("at" : Str) then some (Value.int i ti) else none) [("at" : Str)] := fun y hy => by
    by_cases e : y = "at"
    · rw [e]; exact List.mem_cons_self
    · exact absurd (if_neg e) hy
  obtain ⟨oD, _, _, hoD, _, _⟩ := hn₅.count hw₅
  refine set_plain X₅ (ox := { cls := .ref C, dict := some dx, data := .fields #[.ref t1, .none, .none, .none, .bool false, .none] }) (od := some oD) ⟨hx₅, rfl, rfl, hoD⟩ T.sa ?_
  refine PySem.OEX.osa_old X₅ hx₅ hn₅ hw₅ (by decide) hcl (show refsVE (.ref C :: bm) = true from hbm) rfl T.n2 (fun h₆ tk₆ k₆ hn₆ => ?_)
  show wpAny _ _ (execs [] _) _ _ _
  have big : s.heap.objs.size ≤ dx := by
    have z1 : s.heap.objs.size < h₄.objs.size := n₄.lt
    exact Nat.le_of_lt (Nat.lt_of_lt_of_le z1 dn)
  refine wpAny_execs_nil (hq h₆ _ dx ⟨fun b o nb e => k₆ b o (fun z => ?_) (k₅ b o nb (old b o nb e)), ⟨t1, k₆ x _ dne.symm hx₅⟩, big, dne, hn₆⟩)
  rw [z] at e
  exact absurd (Heap.lt_size e) (Nat.not_lt.mpr big)
end
end BX
end PySem
set_option Elab.async false
set_option linter.all false
set_option maxRecDepth 100000
set_option maxHeartbeats 4000000
namespace PySem
namespace BX
open PySem.W PySem.Calls PyProof.Rows PySem.HandSPX
/-- a made BadOctets -/
structure Made (h h' : Heap) (e C d : Addr) (v1 v2 : Value) : Prop where
  keep : ∀ b o, h.get? b = some o → h'.get? b = some o
  new : h.objs.size ≤ e
  obj : ∃ oe vs, h'.get? e = some oe ∧ oe.cls = .ref C ∧ oe.dict = some d ∧ oe.data = .fields vs ∧ vs[1]? = some .none
  dbig : h.objs.size ≤ d
  dne : d ≠ e
  ns : h'.Ns1 d (fun y => if y = "reason" then some v2 else if y = "at" then some v1 else none)
section
variable {prog : Program} {w : World} {A : Around} {R : Result → Shared → Prop} {s : Shared} {K : Frag} {mg mb : Str → Option Value} {C fI cc cda : Addr}
theorem made_bad (T : Txt prog K C fI cc cda) (base : Heap) {i : Int} {z : Str} {ti tz : Tok} (X0 : K.In base) (G0 : base.Ns mainGlobals mg) (B0 : base.Ns builtinsNs mb) (hB : mb "super" = some (.type "super")) (up : ∀ b o, base.get? b = some o → s.heap.get? b = some o)
    (hlim : s.heap.NoLimit) (hroom : A.depth + 1 < recursionLimit) (hi : i.natAbs.log2 < 1000) (hz : z.length ≤ 1000)
    (hq : ∀ h' tk e d, Made s.heap h' e C d (.int i ti) (.str z tz) → R (.ok (.ret (.ref e))) { s with heap := h', toks := tk }) :
    codeAny (model prog w) A (.call (.ref C) ⟨[.int i ti, .str z tz], []⟩) R s := by
  obtain ⟨nm, q, N, bs, bm, sn, sub, ab, col, dd, k0, k1, k2, k3, k5, hC, hbm⟩ := T.cls
  obtain ⟨hp, g, dr, tk, os⟩ := s
  have X : K.In hp := X0.keeps up
  have k : ∀ b o, hp.get? b = some o → ((hp.push (kdv_tup [.int i ti, .str z tz])).push (excO C hp.objs.size)).get? b = some o := fun b o e => Heap.get?_push_of_some _ (Heap.get?_push_of_some _ e)
  have hget : ((hp.push (kdv_tup [.int i ti, .str z tz])).push (excO C hp.objs.size)).get? (hp.objs.size + 1) = some (excO C hp.objs.size) := by heap_get
  have hnx : K.lookup (hp.objs.size + 1) = none := by
    cases e : K.lookup (hp.objs.size + 1) with
    | none => rfl
    | some o => exact absurd (Nat.lt_of_succ_lt (Heap.lt_size (X _ _ e))) (Nat.lt_irrefl _)
  refine call_own F.excBase_ValueError (fun X => refsVE_contains X bm hbm) (X _ _ hC) (looks_findIn X T.iC) (fun self => bind_fn X self T.tC) (by rw [show sizeLine = 16777216 by decide]; exact (by decide : 2 ≤ 16777216)) ?_
  refine init_walk (s := ⟨(hp.push (kdv_tup [.int i ti, .str z tz])).push (excO C hp.objs.size), g, dr, tk, os⟩) T base X0 G0 B0 hB (fun b o e => k b o (up b o e)) (hlim.keeps k) hget hnx ?_ hi hz fun h' tk' dx L => ?_
  · show A.depth + 1 < recursionLimit
    exact hroom
  · have old : ∀ b o, hp.get? b = some o → h'.get? b = some o := fun b o e => L.keep b o (Nat.ne_of_lt (Nat.lt_succ_of_lt (Heap.lt_size e))) (k b o e)
    have zz : hp.objs.size + 1 + 1 ≤ dx := by
      have q := L.dbig
      first
        | (simpa only [Heap.size_push] using q)
        | exact q
        | (rw [Heap.size_push, Heap.size_push] at q; exact q)
    obtain ⟨t1, hx⟩ := L.obj
    exact ⟨rfl, hq h' tk' (hp.objs.size + 1) dx ⟨old, Nat.le_succ _, ⟨_, _, hx, rfl, rfl, rfl, rfl⟩, Nat.le_trans (Nat.le_trans (Nat.le_succ _) (Nat.le_succ _)) zz, L.dne, L.ns⟩⟩
end
end BX
end PySem
namespace L2
open PySem PySem.Spec PyProof.Rows
def badF (i : Int) (z : Str) : List (Str × V) := [(("reason" : Str), .str z), (("at" : Str), .int i)]
theorem rel_bad {i : Int} {z : Str} {ti tz : Tok} (f : Str) : RelO ((badF i z).lookup f) (if f = "reason" then some (Value.str z tz) else if f = "at" then some (Value.int i ti) else none) := by
  unfold badF
  rw [lookup_put]
  by_cases h1 : f = "reason"
  · rw [if_pos h1, if_pos h1]
    exact ⟨_, rfl⟩
  · rw [if_neg h1, if_neg h1, lookup_put]
    by_cases h2 : f = "at"
    · rw [if_pos h2, if_pos h2]
      exact ⟨_, rfl⟩
    · rw [if_neg h2, if_neg h2]
      exact True.intro
section
variable {X : Cx} {C fI cc cda : Addr}
/-- BadOctets(i, z) -/
def tMkBad (C : Addr) (ta : TA) : St → Hp → XK → Prop := fun σ H Q => ta σ H fun vs H1 => ∃ (i : Int) (z : Str), vs = [.int i, .str z] ∧ i.natAbs.log2 < 1000 ∧ z.length ≤ 1000 ∧ ∀ d, H1 d = none → Q (.ref C) (some d) (upd H1 d (.xd (badF i z)))
theorem pmk_bad {a b : Expr} {ta : TA} {p pos : Pos} {k : Nat} (T : PySem.BX.Txt X.prog X.K C fI cc cda) (gC : X.mg "BadOctets" = some (.ref C)) (kC : PySem.W.keepIn X.K (.ref C) = true) (exC : PySem.W.subIn X.K (.ref C) (.type "BaseException") = some true) (tyC : PySem.W.typeIn X.K (.ref C) = some (.type "type"))
    (hr : Room k X.A) (ha : PA X [a, b] ta) (hg : Gl X "BadOctets" := by rfl)
    (he : starEach (a :: [b]) X.env = (false, eval a X.env) :: starEach [b] X.env := by rfl) (hpl : (backTo pos (starEach [b] X.env)).any (·.1) = false := by rfl) :
    PMk X (.Call (.Name "BadOctets" p) [a, b] [] pos) (tMkBad C ta) := by
  intro pins s σ H Q I h
  refine wpAny_Call_Name_kw (ld_glob I hg gC ?_)
  refine PySem.W.callWith_K (h₀ := X.base) I.ok.mod.kin kC (thn (ha.run pos pins s σ H _ I h) fun us s1 hh => ?_) he hpl
  obtain ⟨vs, H1, I1, r1, i, z, ev, hi, hz, q1⟩ := hh
  subst ev
  refine ⟨I1.kIn, ?_⟩
  cases r1 with
  | cons rv rn =>
    cases rn with
    | cons rw2 rn =>
      cases rn
      obtain ⟨ti, rfl⟩ := rv
      obtain ⟨tz, rfl⟩ := rw2
      show wpAny _ _ (call (.ref C) [.int i ti, .str z tz]) _ _ _
      have hlim := I1.nolimit
      obtain ⟨mb, hb1, hb2⟩ := I1.ok.mod.blt
      have hup : ∀ b o, X.base.get? b = some o → s1.heap.get? b = some o := fun b o e => I1.bk b o e
      obtain ⟨hp, g, dr, tk, os⟩ := s1
      refine wpAny_call (PySem.BX.made_bad T X.base I1.ok.mod.kin I1.ok.mod.glob hb1 ((hb2 "super" (by decide)).trans (by decide +kernel)) hup hlim (by have := hr.dp; omega) hi hz fun h' tk' e d M => ?_)
      show MkP X pins σ Q (.ref e) ⟨h', g, dr, tk', os⟩
      obtain ⟨oe, fv, hoe, hc, hd, hdat, h1⟩ := M.obj
      have hns := M.ns
      obtain ⟨G', g1, g2⟩ := restrict h' fun b => decide (b ≠ e)
      have gk : ∀ b, b ≠ e → G'.get? b = h'.get? b := fun b hb => g1 b (decide_eq_true hb)
      have ge : G'.get? e = none := g2 e (by simp)
      have old : ∀ b o, hp.get? b = some o → G'.get? b = some o := fun b o q => (gk b (Nat.ne_of_lt (Nat.lt_of_lt_of_le (Heap.lt_size q) M.new))).trans (M.keep b o q)
      have ob : ObjOk X.prog X.w (upd H1 d (.xd (badF i z))) G' d (.xd (badF i z)) :=
        ⟨_, hns.at (fun o q => (gk d M.dne).trans q), fun f => rel_bad f⟩
      have J : Inv X pins σ (upd H1 d (.xd (badF i z))) ⟨G', g, dr, tk', os⟩ := I1.laid (t' := tk') old M.dbig ob
      refine ⟨e, oe, fv, ⟨G', g, dr, tk', os⟩, _, .ref C, some d, rfl, J, fun b o q => ?_, ge, hoe, ⟨hc, hd⟩, hdat, h1, ?_, rfl, I1.bare, raises_own exC tyC, q1 d (I1.hok.fresh M.dbig)⟩
      · by_cases hb : b = e
        · have q' : G'.get? b = some o := q
          rw [hb, ge] at q'; cases q'
        · exact (gk b hb).symm.trans q
      · rw [upd_ne (Ne.symm M.dne)]
        exact I1.hok.fresh M.new
end
end L2
set_option Elab.async false
set_option linter.all false
set_option maxRecDepth 100000
set_option maxHeartbeats 4000000
namespace L2
open PySem PySem.Spec PyProof.Rows
/-- e.f of a caught error whose dict holds the fields fs -/
def tFldX (C : Addr) (a : Addr) (cls : Value) (d : Option Addr) (f : Str) (te : TE) : TE := fun σ H Q => te σ H fun x H1 => x = .ref a ∧ cls = .ref C ∧ ∃ (dd : Addr) (fs : List (Str × V)) (v : V), d = some dd ∧ H1 dd = some (.xd fs) ∧ fs.lookup f = some v ∧ Q v H1
theorem pe_fldX {X : Cx} {C a : Addr} {oe : Obj} {cls : Value} {d : Option Addr} {pn : List (Addr × Obj)} {e : Expr} {te : TE} {pos : Pos} {f : Str} (ga : PySem.W.findIn X.K (.ref C) "__getattribute__" = some (some (.builtin "BaseException.__getattribute__"))) (gg : PySem.W.findIn X.K (.ref C) "__getattr__" = some none)
    (exC : PySem.W.subIn X.K (.ref C) (.type "BaseException") = some true) (hdC : PySem.W.hasDictIn X.K C = true) (noF : PySem.W.findIn X.K (.ref C) f = some none) (hz : Zc cls d oe) (hf : ∃ vs, oe.data = .fields vs) (he : PE (X.suite a ((a, oe) :: pn)) e te)
    (hb : attributeBase e f X.env (eval e X.env) = eval e X.env := by rfl) :
    PE (X.suite a ((a, oe) :: pn)) (.Attribute e f pos) (tFldX C a cls d f te) := by
  refine ⟨fun pins s σ H Q I h => ?_⟩
  refine attr_of hb (thn (he.run pins s σ H _ I h) fun u s1 hh => ?_)
  obtain ⟨x, H1, I1, rx, ex, ec, dd, fs, v, ed, ea, l, q⟩ := hh
  subst ex
  obtain rfl : u = Value.ref a := rx
  subst ec
  subst ed
  obtain ⟨ha, _⟩ := I1.pin (a, oe) (List.mem_append_left _ List.mem_cons_self)
  obtain ⟨vs, hd⟩ := hf
  have hx : ObjOk X.prog X.w H1 s1.heap dd (.xd fs) := I1.hok dd _ ea
  obtain ⟨mA, hns, hr⟩ := hx
  obtain ⟨od, ho, hl⟩ := lookIn_ns hns
  obtain ⟨u, hu, ru⟩ := RelO.some_of (v := v) (o := mA f) (by rw [← l]; exact hr f)
  have J : PySem.W.InstAt s1.heap a oe C (some od) := ⟨ha, hz.1, by unfold PySem.W.notCls; rw [hd] <;> rfl, by rw [hz.2]; exact ho⟩
  exact HandSPX.exc_get I1.kIn J ga gg exC (PySem.W.findObj_own hdC noF rfl (by rw [hl, hu])) (handed_of ru) ⟨v, H1, I1.tok _, ru, q⟩
end L2
namespace DL
open PySem PySem.Spec PyProof.Rows L2
/-! ### errors as data -/
/-- the class at C is the module's nm -/
def EC (K : PySem.W.Frag) (nm : Str) (C : Addr) : Prop := PySem.W.nsIn K mainGlobals nm = some (some (.ref C))
def badD (i : Int) (z : Str) : D := .tup [.str (Str.ofString "BadOctets"), .int i, .str z]
def plainD (nm : Str) : D := .tup [.str nm]
/-- an error x in the heap: its class, its dict -/
def RepX (K : PySem.W.Frag) (H : Hp) (x : D) (cls : Value) (d : Option Addr) : Prop :=
  (∃ C i z dd, x = badD i z ∧ cls = .ref C ∧ EC K "BadOctets" C ∧ d = some dd ∧ H dd = some (.xd (badF i z)) ∧ sOk z = true) ∨ (∃ C nm, x = plainD nm ∧ cls = .ref C ∧ EC K nm C ∧ d = none)
def postX (K : PySem.W.Frag) (F : Fr) (H : Hp) (G : Gp) (E : D → Gp → Prop) (cls : Value) (d : Option Addr) (H' : Hp) : Prop :=
  ∃ x F' G', Keep F H G F' H' G' ∧ Rel K F' H' G' ∧ RepX K H' x cls d ∧ E x G'
def postXS (K : PySem.W.Frag) (F : Fr) (H : Hp) (G : Gp) (E : D → DS → Gp → Prop) (cls : Value) (d : Option Addr) (σ : L2.St) (H' : Hp) : Prop :=
  ∃ x δ F' G', Keep F H G F' H' G' ∧ Rel K F' H' G' ∧ RepX K H' x cls d ∧ RepS K F' H' δ σ ∧ E x δ G'
/-- a promise that may be kept by an error -/
def upSpX (K : PySem.W.Frag) (sp : DSp) : Sp := fun vs H Q E => ∃ F ds G Q' E', Rel K F H G ∧ RepL K F H ds vs ∧ sp ds G Q' E' ∧ (∀ v H', post K F H G Q' v H' → Q v H') ∧ ∀ cls d H', postX K F H G E' cls d H' → E cls d H'
/-! ### expressions that may end in an error -/
abbrev DXE := DS → Gp → (D → Gp → Prop) → (D → Gp → Prop) → Prop
def upX (K : PySem.W.Frag) (W : WX) (t : DXE) : TE := fun σ H Q0 => ∃ F δ G Q E, Rel K F H G ∧ RepS K F H δ σ ∧ t δ G Q E ∧ (∀ v H', post K F H G Q v H' → Q0 v H') ∧ ∀ cls d H', postX K F H G E cls d H' → W cls d σ H'
def XE' (X : Cx) (W : WX) (e : Expr) (t : DXE) : Prop := PE X e (upX X.K W t)
structure XEnds where
  nx : DS → Gp → Prop
  rt : D → Gp → Prop
  bk : DS → Gp → Prop := fun _ _ => False
  ct : DS → Gp → Prop := fun _ _ => False
  ex : D → DS → Gp → Prop := fun _ _ _ => False
abbrev DXS := XEnds → DS → Gp → Prop
structure EndsUpX (K : PySem.W.Frag) (F : Fr) (H : Hp) (G : Gp) (D' : XEnds) (D : Ends) (W : WX) : Prop where
  nx : ∀ σ' H', postS F K H G D'.nx σ' H' → D.nx σ' H'
  rt : ∀ v H', post K F H G D'.rt v H' → D.rt v H'
  bk : ∀ σ' H', postS F K H G D'.bk σ' H' → D.bk σ' H'
  ct : ∀ σ' H', postS F K H G D'.ct σ' H' → D.ct σ' H'
  ex : ∀ cls d σ' H', postXS K F H G D'.ex cls d σ' H' → W cls d σ' H'
def upXS (K : PySem.W.Frag) (W : WX) (t : DXS) : TS := fun D σ H => ∃ F δ G D', Rel K F H G ∧ RepS K F H δ σ ∧ t D' δ G ∧ EndsUpX K F H G D' D W
def XS (X : Cx) (W : WX) (st : Stmt) (t : DXS) : Prop := PS X st (upXS X.K W t)
def XSs (X : Cx) (W : WX) (st : List Stmt) (t : DXS) : Prop := PSs X st (upXS X.K W t)
def XEnds.toD (E : XEnds) : DEnds := ⟨E.nx, E.rt, E.bk, E.ct⟩
section
variable {X : Cx} {K : PySem.W.Frag} {F F' : Fr} {H H' : Hp} {G G' : Gp} {W : WX} {a b c e tg : Expr} {es rest : List Expr} {ta tb te : DTE} {t u : DTT} {tr : DTA} {pos : Pos} {st : Stmt} {sts : List Stmt} {ts us : DXS} {g : DTG}
theorem EndsUpX.step {D' : XEnds} {D : Ends} (k : Keep F H G F' H' G') (h : EndsUpX K F H G D' D W) : EndsUpX K F' H' G' D' D W :=
  ⟨fun σ H2 ⟨δ, F2, G2, k2, q⟩ => h.nx σ H2 ⟨δ, F2, G2, k.trans k2, q⟩, fun v H2 ⟨d, F2, G2, k2, q⟩ => h.rt v H2 ⟨d, F2, G2, k.trans k2, q⟩,
   fun σ H2 ⟨δ, F2, G2, k2, q⟩ => h.bk σ H2 ⟨δ, F2, G2, k.trans k2, q⟩, fun σ H2 ⟨δ, F2, G2, k2, q⟩ => h.ct σ H2 ⟨δ, F2, G2, k.trans k2, q⟩, fun cls d σ H2 ⟨x, δ, F2, G2, k2, q⟩ => h.ex cls d σ H2 ⟨x, δ, F2, G2, k.trans k2, q⟩⟩
theorem EndsUpX.toD {D' : XEnds} {D : Ends} (h : EndsUpX K F H G D' D W) : EndsUp K F H G D'.toD D := ⟨h.nx, h.rt, h.bk, h.ct⟩
/-- what raises nothing -/
def xLift (t : DTS) : DXS := fun E δ G => t E.toD δ G
theorem xs_lift {t : DTS} (h : QS X st t) : XS X W st (xLift t) := PSmono h fun D σ H ⟨F, δ, G, D', R, S, q, E⟩ => ⟨F, δ, G, D'.toD, R, S, q, E.toD⟩
theorem xss_lift {t : DTS} (h : QSs X sts t) : XSs X W sts (xLift t) := PSsmono h fun D σ H ⟨F, δ, G, D', R, S, q, E⟩ => ⟨F, δ, G, D'.toD, R, S, q, E.toD⟩
def xSeq (t u : DXS) : DXS := fun E δ G => t { E with nx := u E } δ G
theorem xss_cons (h1 : XS X W st ts) (h2 : XSs X W sts us) : XSs X W (st :: sts) (xSeq ts us) := PSsmono (pss_cons h1 h2) fun D σ H ⟨F, δ, G, D', R, S, q, E⟩ =>
  ⟨F, δ, G, { D' with nx := us D' }, R, S, q, ⟨fun σ1 H1 ⟨δ1, F1, G1, k1, R1, S1, q1⟩ => ⟨F1, δ1, G1, D', R1, S1, q1, E.step k1⟩, E.rt, E.bk, E.ct, E.ex⟩⟩
theorem xss_one (h1 : XS X W st ts) : XSs X W [st] ts := pss_one h1
def xIf (c : DTT) (t u : DXS) : DXS := fun E δ G => c δ G fun b G1 => dCond b (t E δ G1) (u E δ G1)
theorem xs_if {sa sb : List Stmt} (hc : QT X c t) (ha : XSs X W sa ts) (hb : XSs X W sb us) : XS X W (.If c sa sb pos) (xIf t ts us) := PSmono (ps_if hc ha hb) fun D σ H ⟨F, δ, G, D', R, S, q, E⟩ => by
  refine ⟨F, δ, G, _, R, S, q, fun b H1 ⟨F1, G1, k1, R1, q1⟩ => ?_⟩
  cases b with
  | true => exact ⟨F1, δ, G1, D', R1, S.mono R k1, q1, E.step k1⟩
  | false => exact ⟨F1, δ, G1, D', R1, S.mono R k1, q1, E.step k1⟩
/-- an expression that raises nothing, a call that may -/
def xOf (te : DTE) : DXE := fun δ G Q _ => te δ G Q
theorem xe_of (h : QE X e te) : XE' X W e (xOf te) := PEmono h fun σ H Q ⟨F, δ, G, Q', E', R, S, q, k, _⟩ => ⟨F, δ, G, Q', R, S, q, k⟩
def xCall (sp : DSp) (tr : DTA) : DXE := fun δ G Q E => tr δ G fun ds G1 => sp ds G1 Q E
theorem RepX.keep (k : Keep F H G F' H' G') (R : Rel K F H G) {x : D} {cls : Value} {d : Option Addr} (r : RepX K H x cls d) : RepX K H' x cls d := by
  rcases r with ⟨C, i, z, dd, e1, e2, e3, e4, e5, e6⟩ | r
  · exact .inl ⟨C, i, z, dd, e1, e2, e3, e4, (k.k dd _ (R.off e5 (fun _ z => by cases z) (fun _ z => by cases z) (fun _ _ _ z => by cases z)) e5).1, e6⟩
  · exact .inr r
/-- a def of the text that may raise -/
def CalX (P : Program) (w : World) (K : PySem.W.Frag) (mg : Str → Option Value) (base : Heap) (k : Nat) (x : Str) (ps : List Str) (sp : DSp) : Prop :=
  ∃ f fd, FnOk P w K mg base (L2.CX P w) k f fd ps (upSpX K sp) ∧ mg x = some (.ref f) ∧ PySem.W.keepIn K (.ref f) = true ∧ Binds K fd ps []
theorem CalX.imp {P : Program} {w : World} {mg : Str → Option Value} {base : Heap} {k : Nat} {x : Str} {ps : List Str} {sp sp' : DSp} (c : CalX P w K mg base k x ps sp) (h : ∀ ds G Q E, sp' ds G Q E → sp ds G Q E) : CalX P w K mg base k x ps sp' := by
  obtain ⟨f, fd, Fn, r⟩ := c
  exact ⟨f, fd, Fn.imp fun vs H Q E ⟨F, ds, G, Q', E', R, rl, q, k1, k2⟩ => ⟨F, ds, G, Q', E', R, rl, h _ _ _ _ q, k1, k2⟩, r⟩
theorem xe_call {j k : Nat} {ps : List Str} {sp : DSp} {x : Str} {p : Pos} (c : CalX X.prog X.w X.K X.mg X.base k x ps sp) (tk : Takes X W) (hr : Room j X.A) (hk : k ≤ j) (hg : Gl X x)
    (ha : QA X (e :: es) tr) (hdb : (x == ("__debug__" : Str)) = false := by decide) (he : starEach (e :: es) X.env = (false, eval e X.env) :: starEach es X.env := by rfl) (hpl : (backTo pos (starEach es X.env)).any (·.1) = false := by rfl) :
    XE' X W (.Call (.Name x p) (e :: es) [] pos) (xCall sp tr) := by
  obtain ⟨f, fd, Fn, hm, hkp, hb⟩ := c
  refine PEmono (pe_callS Fn (hr.mono hk) hg hm hkp hb (fun σ => passAt tk σ) ha hdb he hpl) fun σ H Q ⟨F, δ, G, Q', E', R, S, q, k1, k2⟩ => ?_
  refine ⟨F, δ, G, _, R, S, q, fun vs H1 ⟨ds, F1, G1, kk, R1, p1, q1⟩ => ?_⟩
  exact ⟨F1, ds, G1, Q', E', R1, p1, q1, fun v H2 ⟨d, F2, G2, k3, r⟩ => k1 v H2 ⟨d, F2, G2, kk.trans k3, r⟩, fun cls d H2 ⟨x, F2, G2, k3, r⟩ => k2 cls d H2 ⟨x, F2, G2, kk.trans k3, r⟩⟩
def xAsg (te : DXE) (g : DTG) : DXS := fun E δ G => te δ G (fun x G1 => g x δ G1 E.nx) (fun x G1 => E.ex x δ G1)
theorem xs_asg {te : DXE} (he : XE' X W e te) (hg : QG X Pany tg g) (hs : swapsWithSole [tg] e pos.line X.env = pure false := by rfl) (hw : swappedStores [tg] e X.env = pure none := by rfl)
    (h1 : (assignEach [tg] X.env).map (·.2) = [assign tg X.env] := by rfl) : XS X W (.Assign [tg] e pos) (xAsg te g) := PSmono (ps_asg he hg hs hw h1) fun D σ H ⟨F, δ, G, D', R, S, q, E⟩ =>
  ⟨F, δ, G, _, _, R, S, q, fun v H1 ⟨d, F1, G1, k1, R1, p1, q1⟩ => ⟨F1, d, δ, G1, _, R1, p1, S.mono R k1, q1, fun σ' H' _ h => (E.step k1).nx σ' H' h⟩,
   fun cls d H1 ⟨x, F1, G1, k1, R1, r1, q1⟩ => E.ex cls d σ H1 ⟨x, δ, F1, G1, k1, R1, r1, S.mono R k1, q1⟩⟩
theorem xs_set {te : DXE} {i : Nat} {x : Str} {pos' : Pos} (hN : X.N.Nodup) (he : XE' X W e te) (hi : X.N[i]? = some x := by rfl) (hx : Loc X.env.scope x := by first | exact Or.inl rfl | exact Or.inr rfl) (hs : swapsWith e (some (.Name x pos')) pos.line X.env = pure false := by rfl) (hf : X.fn x = true ∨ X.env.scope.names.lookup x = some .local := by first | exact .inl rfl | exact .inr rfl) :
    XS X W (.Assign [.Name x pos'] e pos) (xAsg te (dName i)) := PSmono (ps_set hN hi hx he hs hf) fun D σ H ⟨F, δ, G, D', R, S, q, E⟩ =>
  ⟨F, δ, G, _, _, R, S, q, fun v H1 ⟨d, F1, G1, k1, R1, p1, q1⟩ => (E.step k1).nx _ _ ⟨setS δ i (some d), F1, G1, .refl, R1, (S.mono R k1).set i p1, q1⟩,
   fun cls d H1 ⟨x, F1, G1, k1, R1, r1, q1⟩ => E.ex cls d σ H1 ⟨x, δ, F1, G1, k1, R1, r1, S.mono R k1, q1⟩⟩
def xRet (te : DXE) : DXS := fun E δ G => te δ G E.rt (fun x G1 => E.ex x δ G1)
theorem xs_ret {te : DXE} (he : XE' X W e te) : XS X W (.Return (some e) pos) (xRet te) := PSmono (ps_ret he) fun D σ H ⟨F, δ, G, D', R, S, q, E⟩ =>
  ⟨F, δ, G, _, _, R, S, q, E.rt, fun cls d H1 ⟨x, F1, G1, k1, R1, r1, q1⟩ => E.ex cls d σ H1 ⟨x, δ, F1, G1, k1, R1, r1, S.mono R k1, q1⟩⟩
def xDrop (te : DXE) : DXS := fun E δ G => te δ G (fun _ G1 => E.nx δ G1) (fun x G1 => E.ex x δ G1)
theorem xs_expr {te : DXE} (he : XE' X W e te) (hs : swapsWith e none pos.line X.env = pure false := by rfl) : XS X W (.Expr e pos) (xDrop te) := PSmono (ps_expr he hs) fun D σ H ⟨F, δ, G, D', R, S, q, E⟩ =>
  ⟨F, δ, G, _, _, R, S, q, fun v H1 ⟨d, F1, G1, k1, R1, p1, q1⟩ => (E.step k1).nx _ _ ⟨δ, F1, G1, .refl, R1, S.mono R k1, q1⟩,
   fun cls d H1 ⟨x, F1, G1, k1, R1, r1, q1⟩ => E.ex cls d σ H1 ⟨x, δ, F1, G1, k1, R1, r1, S.mono R k1, q1⟩⟩
/-- what the written part says of BadOctets, for making and for catching -/
structure BadAt (P : Program) (K : PySem.W.Frag) (C fI cc cda : Addr) : Prop where
  txt : PySem.BX.Txt P K C fI cc cda
  ec : EC K "BadOctets" C
  kC : PySem.W.keepIn K (.ref C) = true
  exC : PySem.W.subIn K (.ref C) (.type "BaseException") = some true
  tyC : PySem.W.typeIn K (.ref C) = some (.type "type")
  ga : PySem.W.findIn K (.ref C) "__getattribute__" = some (some (.builtin "BaseException.__getattribute__"))
  gg : PySem.W.findIn K (.ref C) "__getattr__" = some none
  hd : PySem.W.hasDictIn K C = true
  te : PySem.W.exmOne K (.ref C) (.ref C) = some true
/-- raise BadOctets(i, z) -/
def xBad (tr : DTA) : DXS := fun E δ G => tr δ G fun ds G1 => ∃ i z, ds = [.int i, .str z] ∧ i.natAbs.log2 < 1000 ∧ z.length ≤ 1000 ∧ E.ex (badD i z) δ G1
theorem xs_bad {C fI cc cda : Addr} {p pos2 : Pos} {k : Nat} (T : BadAt X.prog X.K C fI cc cda) (gC : X.mg "BadOctets" = some (.ref C)) (hc : X.calm = true) (tk : Takes X W) (hr : Room k X.A) (ha : QA X [a, b] tr) (hg : Gl X "BadOctets" := by rfl)
    (he : starEach (a :: [b]) X.env = (false, eval a X.env) :: starEach [b] X.env := by rfl) (hpl : (backTo pos (starEach [b] X.env)).any (·.1) = false := by rfl) :
    XS X W (.Raise (some (.Call (.Name "BadOctets" p) [a, b] [] pos)) none pos2) (xBad tr) := PSmono (ps_raise hc tk (pmk_bad T.txt gC T.kC T.exC T.tyC hr ha hg he hpl)) fun D σ H ⟨F, δ, G, D', R, S, q, E⟩ => by
  refine ⟨F, δ, G, _, R, S, q, fun vs H1 ⟨ds, F1, G1, k1, R1, p1, i, z, e1, hi, hz, q1⟩ => ?_⟩
  subst e1
  obtain ⟨v1, r1, rfl, e2, v2, r2, rfl, e3, e4⟩ := p1
  cases e4
  have e2 : v1 = .int i := e2
  obtain ⟨e3, oz⟩ : v2 = .str z ∧ sOk z = true := e3
  subst e2 e3
  refine ⟨i, z, rfl, hi, hz, fun d hd => ?_⟩
  have kk := keep_new (o := .xd (badF i z)) R1 hd
  exact E.ex _ _ σ _ ⟨_, δ, F1, G1, k1.trans kk, rel_new R1 hd, .inl ⟨C, i, z, d, rfl, rfl, T.ec, rfl, upd_same, oz⟩, (S.mono R k1).mono R1 kk, q1⟩
/-! ### for, with turns that may raise -/
def dLoopX (S : Gp → Prop) (g : DTG) (tb : DXS) (E : XEnds) : List D → DS → Gp → Prop
  | [], δ, G => S G ∧ E.nx δ G
  | d :: r, δ, G => S G ∧ g d δ G fun δ1 G1 => tb { nx := dLoopX S g tb E r, rt := E.rt, bk := E.nx, ct := dLoopX S g tb E r, ex := E.ex } δ1 G1
theorem turnsX {J : It} {ds : List D} {Sb : Gp → Prop} {F1 : Fr} {H1 : Hp} {G1 : Gp} {g : DTG} {tb : DXS} {δ : DS} {σ : L2.St} {D' : XEnds} {D : Ends} (R1 : Rel X.K F1 H1 G1) (wk : Walked X.K J F1 H1 G1 ds Sb) (S1 : RepS X.K F1 H1 δ σ) (q1 : dLoopX Sb g tb D' ds δ G1) (E : EndsUpX X.K F1 H1 G1 D' D W) :
    ∃ Wl : Nat → Nat → L2.St → Hp → Prop, (∃ m, Wl 0 m σ H1) ∧ ∀ i m σ H, Wl i m σ H → (J.stop i H ∧ D.nx σ H) ∨ (J.go i H ∧ ∃ N : L2.St → Hp → Prop, (∀ σ' H', N σ' H' → ∃ m', m' < m ∧ Wl (i + 1) m' σ' H') ∧ ∀ x H', J.yld i H x H' → upG X.K Pany g x σ H' fun σ2 H2 => upXS X.K W tb { D with nx := N, ct := N, bk := D.nx } σ2 H2) := by
  refine ⟨fun i m σ2 H2 => m = ds.length - i ∧ i ≤ ds.length ∧ ∃ F2 δ2 G2, Keep F1 H1 G1 F2 H2 G2 ∧ Rel X.K F2 H2 G2 ∧ RepS X.K F2 H2 δ2 σ2 ∧ dLoopX Sb g tb D' (ds.drop i) δ2 G2,
    ⟨ds.length, by rw [Nat.sub_zero], Nat.zero_le _, F1, δ, G1, .refl, R1, S1, q1⟩, ?_⟩
  rintro i m σ2 H2 ⟨rfl, hi, F2, δ2, G2, k2, R2, S2, q2⟩
  by_cases hlt : i < ds.length
  · have ed : ds.drop i = ds[i] :: ds.drop (i + 1) := List.drop_eq_getElem_cons hlt
    rw [ed] at q2
    obtain ⟨s2, q2⟩ := q2
    obtain ⟨_, go⟩ := wk F2 H2 G2 k2 R2 s2
    obtain ⟨go, yl⟩ := go i ds[i] (List.getElem?_eq_getElem hlt)
    refine .inr ⟨go, fun σ' H' => ∃ F3 δ3 G3, Keep F1 H1 G1 F3 H' G3 ∧ Rel X.K F3 H' G3 ∧ RepS X.K F3 H' δ3 σ' ∧ dLoopX Sb g tb D' (ds.drop (i + 1)) δ3 G3, fun σ' H' h => ⟨ds.length - (i + 1), by omega, rfl, hlt, h⟩, fun x H' y => ?_⟩
    obtain ⟨F3, k3, R3, r3⟩ := yl x H' y
    refine ⟨F3, ds[i], δ2, G2, _, R3, r3, S2.mono R2 k3, q2, fun σ4 H4 _ ⟨δ4, F4, G4, k4, R4, S4, q4⟩ => ?_⟩
    have kk := (k2.trans k3).trans k4
    refine ⟨F4, δ4, G4, _, R4, S4, q4, ?_⟩
    have back : ∀ σ' H', postS F4 X.K H4 G4 (dLoopX Sb g tb D' (ds.drop (i + 1))) σ' H' → ∃ F3 δ3 G3, Keep F1 H1 G1 F3 H' G3 ∧ Rel X.K F3 H' G3 ∧ RepS X.K F3 H' δ3 σ' ∧ dLoopX Sb g tb D' (ds.drop (i + 1)) δ3 G3 := fun σ' H' ⟨δ5, F5, G5, k5, R5, S5, q5⟩ => ⟨F5, δ5, G5, kk.trans k5, R5, S5, q5⟩
    have E4 := E.step kk
    exact ⟨back, E4.rt, E4.nx, back, E4.ex⟩
  · have e : i = ds.length := by omega
    subst e
    rw [List.drop_length] at q2
    obtain ⟨s2, q2⟩ := q2
    obtain ⟨stop, _⟩ := wk F2 H2 G2 k2 R2 s2
    exact .inl ⟨stop _ (Nat.le_refl _), (E.step k2).nx _ _ ⟨δ2, F2, G2, .refl, R2, S2, q2⟩⟩
def xFor (t : DTI) (g : DTG) (tb : DXS) : DXS := fun E δ G => t δ G fun ds S G1 => dLoopX S g tb E ds δ G1
theorem xs_for {iter : Expr} {body : List Stmt} {wi : DTI} {tb : DXS} (hp : PassesOwn (model X.prog X.w) X.A X.env X.xe) (hc : X.calm = true) (hi : QI X tg iter wi) (hg : QG X Pany tg g) (hb : XSs X W body tb)
    (hs : ∀ x, foldedSetIterable iter X.env x = pure x := by intro _; rfl) : XS X W (.For tg iter body [] pos) (xFor wi g tb) := PSmono (ps_for hp hc hi hg hb hs) fun D σ H ⟨F, δ, G, D', R, S, q, E⟩ => by
  refine ⟨F, δ, G, _, R, S, q, fun ds Sb J F1 H1 G1 k1 R1 wk q1 => ?_⟩
  exact turnsX R1 wk (S.mono R k1) q1 (E.step k1)
/-! ### a def that may raise -/
def exOf (E : D → Gp → Prop) : D → DS → Gp → Prop := fun x _ G' => ∃ G0, (∀ a m, G0 a = some m → G' a = some m) ∧ E x G0
def spOfX (m n : Nat) (t : DXS) : DSp := fun ds G Q E => ds.length = m ∧ t { nx := fun _ G' => rtOf Q .non G', rt := rtOf Q, ex := exOf E } (ds.map some ++ List.replicate n none) G
theorem start_rep {ds : List D} {vs : List V} {N : List Str} {m n : Nat} (r : RepL K F H ds vs) (q1 : ds.length = m) (hn : N.length = m + n) : RepS K F H (ds.map some ++ List.replicate n none) (L2.start N vs) := by
  have hl := r.len
  refine ⟨?_, fun i d e => ?_⟩
  · unfold L2.start
    rw [List.length_append, List.length_append, List.length_map, List.length_map, List.length_replicate, List.length_replicate, hl]
    omega
  · have key : ∀ (ds : List D) (n i : Nat) (d : D), getS (ds.map some ++ List.replicate n none) i = some d → ds[i]? = some d := by
      intro ds
      induction ds with
      | nil =>
        intro n
        induction n with
        | zero => intro i d e; cases e
        | succ n ih =>
          intro i d e
          cases i with
          | zero => cases e
          | succ i => have := ih i d e; simp at this
      | cons x ds ih =>
        intro n i d e
        cases i with
        | zero => cases e; rfl
        | succ i => simpa using ih n i d e
    obtain ⟨v, e1, e2⟩ := r.get (key _ _ _ _ e)
    refine ⟨v, ?_, e2⟩
    unfold L2.start
    rw [List.getElem?_append_left (by rw [List.length_map]; exact (List.getElem?_eq_some_iff.mp e1).1), List.getElem?_map, e1]
    rfl
end
theorem fn_okX {P : Program} {w : World} {K : PySem.W.Frag} {mg : Str → Option Value} {base : Heap} {x qual : Str} {st : Stmt} {f : Addr} {fd : FuncData} {N ps : List Str} {k m n : Nat} {t : DXS} (Fn : Fun K x qual st f fd) (Sc : FnScope N ps (defScope st)) (hm : ps.length = m) (hn : N.length = m + n)
    (hb : ∀ (cdv : Value) (A : Around) (outer : List Env) (s : Shared) (H : Hp) (E : XK), Room k (A.deeper (envOfC qual (defScope st) s.heap.objs.size f cdv)) → XSs (cxOf (L2.CX P w) P w K mg base N qual (defScope st) f cdv A outer s H E) (fun cls d _ H => E cls d H) (defBody st) t) :
    FnOk P w K mg base (L2.CX P w) (k + 1) f fd ps (upSpX K (spOfX m n t)) := by
  refine Fn.okX Sc (fun vs H Q E h => ?_) (fun cdv A outer s H vs Q E hr h => ?_)
  · obtain ⟨F, ds, G, Q', E', R, r, ⟨q, _⟩, _⟩ := h
    rw [r.len, q, hm]
  · obtain ⟨F, ds, G, Q', E', R, r, ⟨q1, q⟩, k1, k2⟩ := h
    refine ⟨_, hb cdv A outer s H E hr, F, _, G, _, R, start_rep r q1 hn, q, ⟨fun σ' H' ⟨δ', F1, G1, kk, R1, S1, d0, G0, dr, q1⟩ => k1 _ _ (dr.post kk R1 rfl q1), fun v H' ⟨d, F1, G1, kk, R1, p1, d0, G0, dr, q1⟩ => k1 _ _ (dr.post kk R1 p1 q1),
      fun σ' H' ⟨_, _, _, _, _, _, q⟩ => q.elim, fun σ' H' ⟨_, _, _, _, _, _, q⟩ => q.elim, fun cls d σ' H' ⟨x, δ', F1, G1, kk, R1, rx, S1, G0, sub, q1⟩ => ?_⟩⟩
    obtain ⟨_, F2, G2, k3, R3, _, e3⟩ := (Drop.sub (d := .non) sub).post (Q := fun _ g => E' x g) (v := .non) kk R1 rfl q1
    exact k2 cls d H' ⟨x, F2, G2, k3, R3, rx, e3⟩
section
variable {X : Cx} {K : PySem.W.Frag} {F F' : Fr} {H H' : Hp} {G G' : Gp} {pos : Pos}
/-- try: .. except BadOctets as e: return (text, e.at, e.reason) -/
def dTryBad (n : Nat) (lit : Str) (t : DXS) : DTS := fun E δ G => t { nx := E.nx, rt := E.rt, bk := E.bk, ct := E.ct, ex := fun x δ1 G1 => n < δ1.length ∧ ∃ i z, x = badD i z ∧ E.rt (.tup [.str lit, .int i, .str z]) G1 } δ G
theorem qs_tryBad {C fI cc cda : Addr} {n : Str} {i : Nat} {body : List Stmt} {np p1 p2 p3 p4 p5 p6 p7 p8 : Pos} {j1 j2 : Nat} {lit : String} {t : DXS} (T : BadAt X.prog X.K C fI cc cda) (gC : X.mg "BadOctets" = some (.ref C)) (hs : X.stack = X.env :: X.outer) (hf : X.env.frame = some X.env.locals) (hN : X.N.Nodup) (hi : X.N[i]? = some n) (hln : X.env.kindOf n = some .local) (hg : Gl X "BadOctets")
    (hd : (n == ("__debug__" : Str)) = false) (hcd : (n == ("__classdict__" : Str)) = false)
    (hb : ∀ (W : WX) (pn : List (Addr × Obj)) (xe : Value → Shared → Prop), Takes (X.tr pn xe) W → PassesOwn (model X.prog X.w) X.A X.env xe → XSs (X.tr pn xe) W body t) :
    QS X (.Try body [.ExceptHandler (some (.Name "BadOctets" np)) (some n) [.Return (some (.Tuple [.Constant (.str (Str.ofString lit)) j1 p1, .Attribute (.Name n p2) "at" p3, .Attribute (.Name n p4) "reason" p5] j2 p6)) p7] p8] [] [] pos) (dTryBad i (Str.ofString lit) t) := by
  refine PSmono (ps_try_as (Wout := fun _ _ _ _ => False) (tb := fun W => upXS X.K W t) (ts := fun a cls d => tRet (tTup (tCons (tC (.str (Str.ofString lit))) (tCons (tFldX C a cls d "at" (tVar i)) (tCons (tFldX C a cls d "reason" (tVar i)) tNil))))) hs hf hN hi hln ⟨hg, by decide, .inl gC⟩ takes0 hb ?_) ?_
  · intro a oe cls d pn hz hfd
    exact pss_one (ps_ret (pe_tup (pa_cons pe_str (pa_cons (pe_fldX T.ga T.gg T.exC T.hd T.txt.n1 hz hfd (pe_var hi (Or.inl hln) hd hcd)) (pa_cons (pe_fldX T.ga T.gg T.exC T.hd T.txt.n2 hz hfd (pe_var hi (Or.inl hln) hd hcd)) pa_nil)))))
  · intro Dn σ H ⟨F, δ, G, D', R, S, q, E⟩
    refine ⟨F, δ, G, _, R, S, q, ⟨E.nx, E.rt, E.bk, E.ct, fun cls d σ' H' ⟨x, δ', F1, G1, k1, R1, rx, S1, iv⟩ => ?_⟩⟩
    obtain ⟨hln1, iv, z, ex, q1⟩ := iv
    rcases rx with ⟨C', i', z', dd, e1, e2, e3, e4, e5, e6⟩ | ⟨C', nm, e1, _⟩
    · rw [ex] at e1
      have e7 : i' = iv ∧ z' = z := by
        unfold badD at e1
        simp only [D.tup.injEq, List.cons.injEq, D.int.injEq, D.str.injEq, and_true, true_and] at e1
        exact ⟨e1.1.symm, e1.2.symm⟩
      obtain ⟨rfl, rfl⟩ := e7
      have eC : C' = C := by
        have := e3.symm.trans T.ec
        simpa using this
      subst eC e2 e4
      have hil : i < σ'.length := by
        have h2 := S1.len
        omega
      refine ⟨true, T.te, fun _ a ha => ?_, fun h => by cases h⟩
      have sl : (σ'.set i (some (V.ref a)))[i]? = some (some (.ref a)) := List.getElem?_set_self hil
      refine ⟨.ref a, sl, rfl, rfl, dd, _, .int i', rfl, e5, ?_, ?_⟩
      · unfold badF
        rw [lookup_put, if_neg (by decide), lookup_put, if_pos rfl]
      refine ⟨.ref a, sl, rfl, rfl, dd, _, .str z', rfl, e5, ?_, ?_⟩
      · unfold badF
        rw [lookup_put, if_pos rfl]
      refine ⟨by show 3 ≤ sizeLine; decide, fun p hp => ?_⟩
      have kk := keep_new (o := .tup [.str (Str.ofString lit), .int i', .str z']) R1 hp
      exact E.rt _ _ ⟨.tup [.str (Str.ofString lit), .int i', .str z'], F1, G1, k1.trans kk, rel_new R1 hp, ⟨p, _, rfl, .inl (.inl upd_same), ⟨_, _, rfl, ⟨rfl, sOk_of lit⟩, _, _, rfl, rfl, _, _, rfl, ⟨rfl, e6⟩, rfl⟩⟩, q1⟩
    · rw [ex] at e1
      cases e1
end
section
variable {t : DTS} {ts us : DXS} {c : DTT} {te : DTE} {xe : DXE} {tr : DTA} {sp : DSp} {E : XEnds} {E2 : DEnds} {δ : DS} {G : Gp} {g : DTG} {wi : DTI} {Q : D → Gp → Prop} {X2 : D → Gp → Prop}
theorem xLift_e : xLift t E δ G = t ⟨E.nx, E.rt, E.bk, E.ct⟩ δ G := (rfl)
theorem xSeq_e : xSeq ts us E δ G = ts { E with nx := us E } δ G := (rfl)
theorem xIf_e : xIf c ts us E δ G = c δ G fun b G1 => dCond b (ts E δ G1) (us E δ G1) := (rfl)
theorem xOf_e : xOf te δ G Q X2 = te δ G Q := (rfl)
theorem xCall_e : xCall sp tr δ G Q X2 = tr δ G fun ds G1 => sp ds G1 Q X2 := (rfl)
theorem xAsg_e : xAsg xe g E δ G = xe δ G (fun x G1 => g x δ G1 E.nx) (fun x G1 => E.ex x δ G1) := (rfl)
theorem xRet_e : xRet xe E δ G = xe δ G E.rt (fun x G1 => E.ex x δ G1) := (rfl)
theorem xDrop_e : xDrop xe E δ G = xe δ G (fun _ G1 => E.nx δ G1) (fun x G1 => E.ex x δ G1) := (rfl)
theorem xBad_e : xBad tr E δ G = tr δ G fun ds G1 => ∃ i z, ds = [.int i, .str z] ∧ i.natAbs.log2 < 1000 ∧ z.length ≤ 1000 ∧ E.ex (badD i z) δ G1 := (rfl)
theorem xFor_e : xFor wi g ts E δ G = wi δ G fun ds S G1 => dLoopX S g ts E ds δ G1 := (rfl)
theorem dTryBad_e {n : Nat} {lit : Str} : dTryBad n lit ts E2 δ G = ts { nx := E2.nx, rt := E2.rt, bk := E2.bk, ct := E2.ct, ex := fun x δ1 G1 => n < δ1.length ∧ ∃ i z, x = badD i z ∧ E2.rt (.tup [.str lit, .int i, .str z]) G1 } δ G := (rfl)
theorem spOfX_e {m n : Nat} {ds : List D} : spOfX m n ts ds G Q X2 = (ds.length = m ∧ ts { nx := fun _ G' => rtOf Q .non G', rt := rtOf Q, ex := exOf X2 } (ds.map some ++ List.replicate n none) G) := (rfl)
end
theorem ex_same {E : D → Gp → Prop} {x : D} {δ : DS} {G : Gp} (q : E x G) : exOf E x δ G := ⟨G, fun _ _ h => h, q⟩
theorem loopX_rng {S : Gp → Prop} {g : DTG} {tb : DXS} {E : XEnds} (n : Nat) (lo : Int) (W : Nat → DS → Gp → Prop)
    (hs : ∀ j δ G (K : DS → Gp → Prop), j < n → W j δ G → (∀ δ G, W (j + 1) δ G → K δ G) → S G ∧ g (.int (lo + (j : Nat))) δ G fun δ1 G1 => tb { nx := K, ct := K, bk := E.nx, rt := E.rt, ex := E.ex } δ1 G1)
    (he : ∀ δ G, W n δ G → S G ∧ E.nx δ G) (δ : DS) (G : Gp) (h0 : W 0 δ G) : dLoopX S g tb E (rangeD lo n) δ G := by
  have key : ∀ (m j : Nat) (δ : DS) (G : Gp), j + m = n → W j δ G → dLoopX S g tb E (rangeD (lo + (j : Nat)) m) δ G := by
    intro m
    induction m with
    | zero =>
      intro j δ G e w
      have e : j = n := e
      subst e
      exact he _ _ w
    | succ m ih =>
      intro j δ G e w
      rw [rangeD_s]
      refine hs j δ G _ (by omega) w fun δ2 G2 w2 => ?_
      have := ih (j + 1) δ2 G2 (by omega) w2
      rwa [show lo + ((j + 1 : Nat) : Int) = lo + (j : Int) + 1 by omega] at this
  have := key n 0 δ G (by omega) h0
  rwa [Int.natCast_zero, Int.add_zero] at this
/-- a class of one's own is what its own clause names -/
theorem exm_own {K : PySem.W.Frag} {S : Addr} (h1 : PySem.W.subIn K (.ref S) (.type "BaseException") = some true) (h2 : PySem.W.isClsIn K S = true) (h3 : PySem.W.typeIn K (.ref S) = some (.type "type")) (h4 : PySem.W.subIn K (.ref S) (.ref S) = some true) :
    PySem.W.exmOne K (.ref S) (.ref S) = some true := by
  have e1 : (PySem.W.subIn K (.ref S) (.type "BaseException") == some true) = true := by rw [h1] <;> rfl
  have e2 : ((PySem.W.clsIn K S).isSome && PySem.W.typeIn K (.ref S) == some (.type "type")) = true := by
    have e3 : (PySem.W.clsIn K S).isSome = true := h2
    rw [e3, h3] <;> rfl
  have go : PySem.W.exmOne K (.ref S) (.ref S) = (if (PySem.W.subIn K (.ref S) (.type "BaseException") == some true) = true then
      (if ((PySem.W.clsIn K S).isSome && PySem.W.typeIn K (.ref S) == some (.type "type")) = true then PySem.W.subIn K (.ref S) (.ref S) else none) else none) := rfl
  rw [go, if_pos e1, if_pos e2]
  exact h4
end DL
set_option autoImplicit false
namespace DL
open PySem PySem.Spec PyProof.Rows L2
/-! ### ends of a def -/
theorem rt_same {Q : D → Gp → Prop} {d : D} {G : Gp} (q : Q d G) : rtOf Q d G := ⟨d, G, .same, q⟩
theorem rt_sub {Q : D → Gp → Prop} {d : D} {G G' : Gp} (h : ∀ a m, G a = some m → G' a = some m) (q : Q d G) : rtOf Q d G' := ⟨d, G, .sub h, q⟩
theorem rt_frz {Q : D → Gp → Prop} {p : Addr} {ds : List D} {G : Gp} (hp : G p = none) (q : Q (.lv ds) G) : rtOf Q (.ref p) (updG G p (.lst ds)) :=
  ⟨.lv ds, G, ⟨fun a m e => .of (sub_new hp a m e), .lst updG_same hp (.same ds)⟩, q⟩
theorem isDr.new {G : Gp} {d p : Addr} {m : MO} (hd : isDr G d) (hp : G p = none) : isDr (updG G p m) d := hd.mono (sub_new hp)
/-! ### data that a value may be -/
mutual
def dVal : D → Bool
  | .non => true
  | .int _ => true
  | .str _ => true
  | .tup ds => dValL ds
  | _ => false
def dValL : List D → Bool
  | [] => true
  | d :: ds => dVal d && dValL ds
end
mutual
def dW : D → Nat
  | .str x => x.length + 1
  | .tup ds => dWL ds + 1
  | .lv ds => dWL ds + 1
  | .rl ds => dWL ds + 1
  | _ => 1
def dWL : List D → Nat
  | [] => 0
  | d :: ds => dW d + dWL ds
end
mutual
theorem dVal_pl : ∀ d : D, dVal d = true → dPl d = true
  | .non, _ => rfl
  | .int _, _ => rfl
  | .str _, _ => rfl
  | .bl _, _ => rfl
  | .tup ds, h => dValL_pl ds h
  | .ref _, h => by cases h
  | .lv _, h => by cases h
  | .rl _, h => by cases h
  | .dv _, h => by cases h
theorem dValL_pl : ∀ ds : List D, dValL ds = true → dPlL ds = true
  | [], _ => rfl
  | d :: ds, h => by
    unfold dValL at h
    rw [Bool.and_eq_true] at h
    unfold dPlL
    rw [dVal_pl d h.1, dValL_pl ds h.2]
    rfl
end
mutual
theorem dDep_le : ∀ d : D, dDep d ≤ dW d
  | .non => Nat.zero_le _
  | .int _ => Nat.zero_le _
  | .str _ => Nat.zero_le _
  | .bl _ => Nat.zero_le _
  | .ref _ => Nat.zero_le _
  | .dv _ => Nat.zero_le _
  | .tup ds => Nat.succ_le_succ (dDepL_le ds)
  | .lv ds => Nat.succ_le_succ (dDepL_le ds)
  | .rl ds => Nat.succ_le_succ (dDepL_le ds)
theorem dDepL_le : ∀ ds : List D, dDepL ds ≤ dWL ds
  | [] => Nat.zero_le _
  | d :: ds => by
    have h1 := dDep_le d
    have h2 := dDepL_le ds
    unfold dDepL dWL
    omega
end
theorem dW_pos (d : D) : 1 ≤ dW d := by cases d <;> simp [dW]
theorem dWL_len : ∀ ds : List D, ds.length ≤ dWL ds
  | [] => Nat.zero_le _
  | d :: ds => by
    have h1 := dW_pos d
    have h2 := dWL_len ds
    unfold dWL
    rw [List.length_cons]
    omega
theorem dWL_app : ∀ xs ys : List D, dWL (xs ++ ys) = dWL xs + dWL ys
  | [], ys => by simp [dWL]
  | x :: xs, ys => by
    show dW x + dWL (xs ++ ys) = dW x + dWL xs + dWL ys
    rw [dWL_app xs ys, Nat.add_assoc]
theorem dValL_app : ∀ xs ys : List D, dValL (xs ++ ys) = (dValL xs && dValL ys)
  | [], ys => by simp [dValL]
  | x :: xs, ys => by
    show (dVal x && dValL (xs ++ ys)) = (dVal x && dValL xs && dValL ys)
    rw [dValL_app xs ys, Bool.and_assoc]
theorem dValL_mem : ∀ {ds : List D} {d : D}, dValL ds = true → d ∈ ds → dVal d = true
  | x :: xs, d, h, m => by
    unfold dValL at h
    rw [Bool.and_eq_true] at h
    rcases List.mem_cons.mp m with rfl | m
    · exact h.1
    · exact dValL_mem h.2 m
theorem dWL_mem : ∀ {ds : List D} {d : D}, d ∈ ds → dW d ≤ dWL ds
  | x :: xs, d, m => by
    unfold dWL
    rcases List.mem_cons.mp m with rfl | m
    · omega
    · have := dWL_mem m
      omega
theorem dWL_take (n : Nat) (ds : List D) : dWL (ds.take n) ≤ dWL ds := by
  have h := dWL_app (ds.take n) (ds.drop n)
  rw [List.take_append_drop] at h
  omega
theorem dWL_drop (n : Nat) (ds : List D) : dWL (ds.drop n) ≤ dWL ds := by
  have h := dWL_app (ds.take n) (ds.drop n)
  rw [List.take_append_drop] at h
  omega
theorem dValL_take {ds : List D} (n : Nat) (h : dValL ds = true) : dValL (ds.take n) = true := by
  have e := dValL_app (ds.take n) (ds.drop n)
  rw [List.take_append_drop, h] at e
  exact (Bool.and_eq_true_iff.mp e.symm).1
theorem dValL_drop {ds : List D} (n : Nat) (h : dValL ds = true) : dValL (ds.drop n) = true := by
  have e := dValL_app (ds.take n) (ds.drop n)
  rw [List.take_append_drop, h] at e
  exact (Bool.and_eq_true_iff.mp e.symm).2
theorem at_mem {α : Type} {xs : List α} {i : Int} {v : α} (h : atI xs i = some v) : v ∈ xs := by
  unfold atI at h
  cases e : ixN xs.length i with
  | none => rw [e] at h; cases h
  | some j => rw [e] at h; exact List.mem_of_getElem? h
theorem at_ok {α : Type} (xs : List α) (i : Int) (h0 : 0 ≤ i) (h1 : i < xs.length) : ∃ v, atI xs i = some v ∧ v ∈ xs := by
  have hl : i.toNat < xs.length := by omega
  have e : atI xs i = some xs[i.toNat] := by
    have := atI_nat (List.getElem?_eq_getElem hl)
    rwa [Int.toNat_of_nonneg h0] at this
  exact ⟨_, e, at_mem e⟩
/-! ### texts -/
def okC (c : Nat) : Bool := decide (32 ≤ c) && decide (c ≤ 126) && decide (c ≠ 37)
def okT (s : Str) : Bool := s.cps.toList.all okC
/-! ### leaves -/
inductive Leaf where
  | number (lo hi : Int) | text (lo hi : Int) | choice (sy rt : List Int) (op : Bool)
def Leaf.d : Leaf → D
  | .number lo hi => .tup [.str (Str.ofString "number"), .int lo, .int hi]
  | .text lo hi => .tup [.str (Str.ofString "text"), .int lo, .int hi]
  | .choice sy rt op => .tup [.str (Str.ofString "choice"), .tup (sy.map .int), .tup (rt.map .int), .bl op]
def Ids (xs : List Int) : Prop := xs.Pairwise (· < ·) ∧ ∀ x ∈ xs, 1 ≤ x ∧ x ≤ 99
def Leaf.wf : Leaf → Prop
  | .number lo hi => -1000000000000000 ≤ lo ∧ lo ≤ hi ∧ hi ≤ 1000000000000000
  | .text lo hi => 0 ≤ lo ∧ lo ≤ hi ∧ hi ≤ 40
  | .choice sy rt op => Ids sy ∧ Ids rt ∧ (∀ x ∈ sy, x ∉ rt) ∧ (op = false → rt = [] ∧ sy ≠ [])
/-- the values of a leaf (point 5) -/
def Leaf.has : Leaf → D → Bool
  | .number lo hi, .int i => decide (lo ≤ i) && decide (i ≤ hi)
  | .text lo hi, .str s => decide (lo ≤ (s.length : Int)) && decide ((s.length : Int) ≤ hi) && okT s
  | .choice sy _ op, .int i => sy.contains i || (op && decide (i = 0))
  | _, _ => false
theorem Ids.len {xs : List Int} (h : Ids xs) : xs.length ≤ 99 := by
  have key : ∀ (xs : List Int) (lo : Int), xs.Pairwise (· < ·) → (∀ x ∈ xs, lo ≤ x ∧ x ≤ 99) → (xs.length : Int) ≤ max 0 (100 - lo) := by
    intro xs
    induction xs with
    | nil => intro lo _ _; simp; omega
    | cons x xs ih =>
      intro lo hp hb
      rw [List.pairwise_cons] at hp
      have h1 := hb x List.mem_cons_self
      have h2 := ih (x + 1) hp.2 fun y hy => ⟨by have := hp.1 y hy; omega, (hb y (List.mem_cons_of_mem _ hy)).2⟩
      rw [List.length_cons]
      omega
  have := key xs 1 h.1 h.2
  omega
theorem Str_lit {a b : String} : (Str.ofString a = Str.ofString b) ↔ a = b := by
  constructor
  · intro h
    rw [Str.ofString_eq_toList, Str.ofString_eq_toList] at h
    injection h with h
    have h2 : a.toList.map Char.toNat = b.toList.map Char.toNat := by simpa using congrArg Array.toList h
    have h3 : a.toList = b.toList := by
      have inj : ∀ (xs ys : List Char), xs.map Char.toNat = ys.map Char.toNat → xs = ys := by
        intro xs
        induction xs with
        | nil => intro ys h; cases ys with
          | nil => rfl
          | cons y ys => cases h
        | cons x xs ih => intro ys h; cases ys with
          | nil => cases h
          | cons y ys =>
            rw [List.map_cons, List.map_cons] at h
            injection h with e1 e2
            rw [ih ys e2]
            have : x = y := by
              have e3 : x.val.toNat = y.val.toNat := e1
              exact Char.ext (UInt32.toNat_inj.mp e3)
            rw [this]
      exact inj _ _ h2
    exact String.ext h3
  · intro h; rw [h]
theorem Str_beq {a b : String} : (Str.ofString a == Str.ofString b) = decide (a = b) := by
  by_cases h : a = b
  · subst h; simp
  · rw [decide_eq_false h]
    exact beq_eq_false_iff_ne.mpr fun e => h (Str_lit.mp e)
theorem atI_0 {α : Type} (a : α) (r : List α) : atI (a :: r) 0 = some a := atI_nat (j := 0) rfl
theorem atI_1 {α : Type} (a b : α) (r : List α) : atI (a :: b :: r) 1 = some b := atI_nat (j := 1) rfl
theorem atI_2 {α : Type} (a b c : α) (r : List α) : atI (a :: b :: c :: r) 2 = some c := atI_nat (j := 2) rfl
theorem atI_3 {α : Type} (a b c d : α) (r : List α) : atI (a :: b :: c :: d :: r) 3 = some d := atI_nat (j := 3) rfl
theorem atI_4 {α : Type} (a b c d e : α) (r : List α) : atI (a :: b :: c :: d :: e :: r) 4 = some e := atI_nat (j := 4) rfl
theorem join_chars : ∀ cs : List Nat, Str.join (Str.ofString "") (cs.map fun c => (⟨#[c]⟩ : Str)) = ⟨cs.toArray⟩
  | [] => rfl
  | [c] => rfl
  | c :: e :: r => by
    have ih := join_chars (e :: r)
    show (⟨#[c]⟩ : Str) ++ Str.ofString "" ++ Str.join (Str.ofString "") ((e :: r).map fun c => (⟨#[c]⟩ : Str)) = _
    rw [ih]
    have h0 : (Str.ofString "").cps = #[] := by decide +kernel
    show (⟨(#[c] ++ (Str.ofString "").cps) ++ (e :: r).toArray⟩ : Str) = _
    rw [h0]
    simp
theorem strs_chars : ∀ cs : List Nat, strsOf (cs.map fun c => D.str ⟨#[c]⟩) = some (cs.map fun c => (⟨#[c]⟩ : Str))
  | [] => rfl
  | c :: r => by
    show (strsOf (r.map fun c => D.str ⟨#[c]⟩)).map _ = _
    rw [strs_chars r]
    rfl
theorem sum_chars : ∀ cs : List Nat, ((cs.map fun c => (⟨#[c]⟩ : Str)).map (·.length)).sum = cs.length
  | [] => rfl
  | c :: r => by
    show 1 + ((r.map fun c => (⟨#[c]⟩ : Str)).map (·.length)).sum = r.length + 1
    rw [sum_chars r, Nat.add_comm]
theorem okT_chars (cs : List Nat) : okT ⟨cs.toArray⟩ = cs.all okC := rfl
theorem rangeD_len (lo : Int) (n : Nat) : (rangeD lo n).length = n := by unfold rangeD; rw [List.length_map, List.length_range]
theorem dEqL_any (i : Int) : ∀ sy : List Int, ((sy.map D.int).any fun z => dEq z (.int i)) = sy.contains i
  | [] => rfl
  | s :: sy => by
    rw [List.map_cons, List.any_cons, dEqL_any i sy, List.contains_cons]
    show ((s == i) || _) = _
    rw [show (s == i) = (i == s) from Bool.eq_iff_iff.mpr ⟨fun h => by rw [eq_of_beq h]; exact beq_self_eq_true _, fun h => by rw [eq_of_beq h]; exact beq_self_eq_true _⟩]
theorem pl_ints : ∀ ns : List Int, dPlL (ns.map D.int) = true
  | [] => rfl
  | n :: ns => pl_ints ns
theorem dep_ints : ∀ ns : List Int, dDepL (ns.map D.int) = 0
  | [] => rfl
  | n :: ns => by
    show max 0 (dDepL (ns.map D.int)) = 0
    rw [dep_ints ns]
    rfl
theorem dWL_ints : ∀ ns : List Int, dWL (ns.map .int) = ns.length
  | [] => rfl
  | n :: ns => by
    show 1 + dWL (ns.map .int) = ns.length + 1
    rw [dWL_ints ns, Nat.add_comm]
/-- ''.join of n drawn signs -/
theorem draw_text {d : Addr} {G : Gp} {Q : D → Gp → Prop} {δ : DS} {n : Nat} {tg : DTG} {te : DTE} (hn : n ≤ 1000) (ht : ∀ x (K : D → Gp → Prop), (∀ c, okC c = true → K (.str ⟨#[c]⟩) G) → tg x δ G fun δ1 G1 => te δ1 G1 K)
    (q : ∀ cs : List Nat, cs.length = n → cs.all okC = true → Q (.str ⟨cs.toArray⟩) G) :
    dComp (fun _ => True) tg dYes te δ (fun acc G2 => optQ ((itemsOf (.lv acc) G2).bind strsOf) fun ys => (ys.map (·.length)).sum + ys.length * (Str.ofString "").length ≤ 16777216 ∧ Q (.str (Str.join (Str.ofString "") ys)) G2) (rangeD 0 n) [] G := by
  refine comp_ind (fun ds acc G' => G' = G ∧ ∃ cs : List Nat, acc = cs.map (fun c => .str ⟨#[c]⟩) ∧ cs.all okC = true ∧ cs.length + ds.length = n) ?_ ?_ _ _ _ ⟨rfl, [], rfl, rfl, by rw [rangeD_len, List.length_nil, Nat.zero_add]⟩
  · rintro x r acc G' K ⟨rfl, cs, rfl, h1, h2⟩ hK
    refine ⟨trivial, ht x _ fun c hc => ?_⟩
    rw [List.length_cons] at h2
    refine ⟨by rw [List.length_map, szL]; omega, hK _ _ ⟨rfl, cs ++ [c], by rw [List.map_append]; rfl, by rw [List.all_append, h1]; simp [hc], by rw [List.length_append, List.length_singleton]; omega⟩⟩
  · rintro acc G' ⟨rfl, cs, rfl, h1, h2⟩
    refine ⟨trivial, ?_⟩
    show optQ ((some (cs.map fun c => D.str ⟨#[c]⟩)).bind strsOf) _
    rw [bindS_e, strs_chars, optQ_e, sum_chars, join_chars]
    have h0 : (Str.ofString "").length = 0 := by decide +kernel
    rw [h0]
    refine ⟨by rw [Nat.mul_zero]; simp only [List.length_nil] at h2; omega, q cs (by simpa using h2) h1⟩
theorem atI_ints {sy : List Int} {i : Int} {v : D} (h : atI (sy.map D.int) i = some v) : ∃ n, n ∈ sy ∧ v = .int n := by
  have := at_mem h
  rw [List.mem_map] at this
  obtain ⟨n, h1, h2⟩ := this
  exact ⟨n, h1, h2.symm⟩
theorem bls_map {α : Type} (f : α → Bool) : ∀ xs : List α, blsOf (xs.map fun x => D.bl (f x)) = some (xs.map f)
  | [] => rfl
  | x :: r => by
    show (blsOf (r.map fun x => D.bl (f x))).map _ = _
    rw [bls_map f r]
    rfl
/-! ### comprehensions over data -/
theorem comp_map {α : Type} {S : Gp → Prop} {tg : DTG} {tt : DTT} {te : DTE} {δ : DS} {Q : List D → Gp → Prop} {G : Gp} (f : α → D) (p : α → Bool) (g : α → D) (hS : S G) : ∀ (xs : List α) (acc : List D), acc.length + xs.length ≤ sizeLine →
    (∀ a ∈ xs, ∀ (K1 : D → Gp → Prop) (K0 : Gp → Prop), (p a = true → K1 (g a) G) → (p a = false → K0 G) → tg (f a) δ G fun δ1 G1 => tt δ1 G1 fun b G2 => dCond b (te δ1 G2 K1) (K0 G2)) →
    Q (acc ++ (xs.filter p).map g) G → dComp S tg tt te δ Q (xs.map f) acc G
  | [], acc, _, _, q => ⟨hS, by simpa using q⟩
  | d :: r, acc, hl, h, q => by
    rw [List.length_cons] at hl
    refine ⟨hS, h d List.mem_cons_self _ _ (fun hp => ⟨by omega, ?_⟩) (fun hp => ?_)⟩
    · refine comp_map f p g hS r (acc ++ [g d]) (by rw [List.length_append, List.length_singleton]; omega) (fun d' hd => h d' (List.mem_cons_of_mem _ hd)) ?_
      rw [List.filter_cons_of_pos hp, List.map_cons] at q
      rw [List.append_assoc]
      exact q
    · refine comp_map f p g hS r acc (by omega) (fun d' hd => h d' (List.mem_cons_of_mem _ hd)) ?_
      rw [List.filter_cons_of_neg (by rw [hp]; exact Bool.false_ne_true)] at q
      exact q
theorem at_map {α : Type} (f : α → D) (xs : List α) (i : Int) (h0 : 0 ≤ i) (h1 : i < xs.length) : ∃ a ∈ xs, atI (xs.map f) i = some (f a) := by
  obtain ⟨v, e, m⟩ := at_ok (xs.map f) i h0 (by rw [List.length_map]; exact h1)
  rw [List.mem_map] at m
  obtain ⟨a, ha, rfl⟩ := m
  exact ⟨a, ha, e⟩
local macro_rules | `(tactic| simp!) => `(tactic| try simp only [↓spOf_e, ↓optQ_e, ↓dCond_te, ↓dCond_fe, ↓dVar_e, ↓dC_e, ↓dOp_e, ↓dUn_e, ↓dTest_e, ↓dChain_e, ↓dPure2_e, ↓dPure1_e, ↓dEqR_e, ↓dNeR_e, ↓dInR_e, ↓dIsN_e, ↓dTruth_e, ↓dAndT_e, ↓dOrT_e, ↓dNotT_e, ↓dAnd_e, ↓dOr_e, ↓dNot_e, ↓dIf_e, ↓dNil_e, ↓dCons_e, ↓dTup_e, ↓dLv_e, ↓dRef_e, ↓dIx_e, ↓dNoPart_e, ↓dPart_e, ↓dSl_e, ↓dF_e, ↓dB_e, ↓dTupleC_e, ↓dListC_e, ↓dListM_e, ↓dAll_e, ↓dSum_e, ↓dIsi_e, ↓dName_e, ↓dGnil_e, ↓dGcons_e, ↓dTupG_e, ↓dSubL_e, ↓dNext_e, ↓dSeq_e, ↓dBreak_e, ↓dCont_e, ↓dDrop_e, ↓dRet_e, ↓dRetN_e, ↓dIfS_e, ↓dAsg_e, ↓dAug_e, ↓dApp_e, ↓dIt_e, ↓dRng1_e, ↓dRng2_e, ↓dFor_e, ↓dYes_e, ↓dLc_e, ↓dJoin_e, ↓dCall_e, optQ_e, dCond_te, dCond_fe, dI2_1, dOrd_1, dOrd_2, bindS_e, mapS_e, dOkEq_e, isiB_e, wipeS_1, wipeS_2, isNon_2, dPl_non, dDep_non, dPl_bl, dDep_bl, dPl_int, dDep_int, dPl_str, dDep_str, dEq_non_bl, dEq_non_int, dEq_non_str, dEq_non_tup, dEq_non_lv, dEq_bl_non, dEq_bl_str, dEq_bl_tup, dEq_bl_lv, dEq_int_non, dEq_int_str, dEq_int_tup, dEq_int_lv, dEq_str_non, dEq_str_bl, dEq_str_int, dEq_str_tup, dEq_str_lv, dEq_tup_non, dEq_tup_bl, dEq_tup_int, dEq_tup_str, dEq_tup_lv, dEq_lv_non, dEq_lv_bl, dEq_lv_int, dEq_lv_str, dEq_lv_tup, isNon_3, isNon_4, setS_1, setS_2, setS_3, getS_1, getS_2, dAdd_1, dAdd_2, dAdd_3, dAdd_4, dNeg_1, itemsOf_1, itemsOf_2, itemsOf_3, itemsOf_4, itemsA_1, lenD_1, lenD_2, lenD_3, lenD_4, lenD_5, absD_1, intCD_1, intCD_2, max2D_1, min2D_1, ord1D_1, ixD_1, ixD_2, ixD_3, ixD_4, ixD_5, slD_1, slD_2, slD_3, slD_4, slD_5, truthD_1, truthD_2, truthD_3, truthD_4, truthD_5, truthD_6, truthD_7, truthD_8, tyD_1, tyD_2, tyD_3, tyD_4, tyD_5, tyD_6, tyD_7, tyD_8, tyD_9, blOf_1, intOf_1, refOf_1, tupOf_1, strOf_1, lstOf_1, uncons_1, isNil_1, dPl_1, dPl_2, dPl_3, dPl_4, dPl_5, dPlL_1, dPlL_2, dDep_1, dDep_2, dDep_3, dDepL_1, dDepL_2, dEq_1, dEq_2, dEq_3, dEq_4, dEq_5, dEq_6, dEq_7, dEq_8, dEq_9, dEq_10, dEq_11, dEqL_1, dEqL_2, dIAdd_1, dIAdd_2, setD_1, itD_1, itD_2, itD_3, itD_4, itD_5, stabS_1, stabS_2, int1_1, int2_1, blsOf_1, blsOf_2, intsOf_1, intsOf_2, strsOf_1, strsOf_2, lv1_1, isNon_1, dLen, dAbs, dIntC, dMax2, dMin2, dOrd1, dSub, dMul, dDiv, dMod, dPow, dLt, dLe, dGt, dGe, List.map_cons, List.map_nil, List.replicate_succ, List.replicate_zero, List.nil_append, List.cons_append, List.length_cons, List.length_nil, List.length_map, updG_same, szL, Nat.reduceAdd, Str_beq, String.reduceEq, String.reduceBEq, Int.reduceBEq, Int.reduceEq, Bool.true_beq, Bool.false_beq, BEq.rfl, if_true, if_false, reduceIte, decide_eq_true_eq, Bool.false_eq_true, Bool.not_true, Bool.not_false, decide_true, decide_false, Bool.and_true, Bool.true_and, Bool.and_false, Bool.false_and, Bool.or_false, Bool.or_true, Bool.false_or, Bool.true_or, Nat.zero_le, Nat.min_zero, Nat.zero_min, true_and, and_true, beq_self_eq_true, Int.reduceLT, Int.reduceLE, Int.reduceNeg, Int.reducePow, Int.reduceAdd, Int.reduceSub, Int.reduceMul, Nat.reducePow, Nat.reduceLT, Nat.reduceLeDiff, Nat.reduceSub, Nat.reduceMul, Int.reduceToNat, Int.reduceGE, Int.reduceGT, atI_0, atI_1, atI_2, atI_3, atI_4, Nat.max_self, Bool.xor_true, Bool.xor_false, Bool.false_xor, Bool.true_xor, ↓dIsB_e, ↓dChain3_e, dMulS_1, ↓dDic_e, ↓dDGet_e, ↓dDIn_e, ↓dSubD_e, dRepLD_1, keyOf_1, keyOf_2, kvOf_1, kvOf_u, dicOf_u, dvOf_1, ↓dForK_e, ↓dLenK_e, ↓dSortI_e, ↓dDc_e, dInU_1, dInU_2, dInU_3, ↓dLcU_e, ↓dPop_e, ↓dAddM_e, lsOf_1, lsOf_2, ↓xLift_e, ↓xSeq_e, ↓xIf_e, ↓xOf_e, ↓xCall_e, ↓xAsg_e, ↓xRet_e, ↓xDrop_e, ↓xBad_e, ↓xFor_e, ↓dTryBad_e, ↓spOfX_e, lv1_1, ints_map, atI_m1, atI_m2, atI_m3, atI_m4])
local macro_rules | `(tactic| simp! only [$args,*]) => `(tactic| try simp only [$args,*, ↓spOf_e, ↓optQ_e, ↓dCond_te, ↓dCond_fe, ↓dVar_e, ↓dC_e, ↓dOp_e, ↓dUn_e, ↓dTest_e, ↓dChain_e, ↓dPure2_e, ↓dPure1_e, ↓dEqR_e, ↓dNeR_e, ↓dInR_e, ↓dIsN_e, ↓dTruth_e, ↓dAndT_e, ↓dOrT_e, ↓dNotT_e, ↓dAnd_e, ↓dOr_e, ↓dNot_e, ↓dIf_e, ↓dNil_e, ↓dCons_e, ↓dTup_e, ↓dLv_e, ↓dRef_e, ↓dIx_e, ↓dNoPart_e, ↓dPart_e, ↓dSl_e, ↓dF_e, ↓dB_e, ↓dTupleC_e, ↓dListC_e, ↓dListM_e, ↓dAll_e, ↓dSum_e, ↓dIsi_e, ↓dName_e, ↓dGnil_e, ↓dGcons_e, ↓dTupG_e, ↓dSubL_e, ↓dNext_e, ↓dSeq_e, ↓dBreak_e, ↓dCont_e, ↓dDrop_e, ↓dRet_e, ↓dRetN_e, ↓dIfS_e, ↓dAsg_e, ↓dAug_e, ↓dApp_e, ↓dIt_e, ↓dRng1_e, ↓dRng2_e, ↓dFor_e, ↓dYes_e, ↓dLc_e, ↓dJoin_e, ↓dCall_e, optQ_e, dCond_te, dCond_fe, dI2_1, dOrd_1, dOrd_2, bindS_e, mapS_e, dOkEq_e, isiB_e, wipeS_1, wipeS_2, isNon_2, dPl_non, dDep_non, dPl_bl, dDep_bl, dPl_int, dDep_int, dPl_str, dDep_str, dEq_non_bl, dEq_non_int, dEq_non_str, dEq_non_tup, dEq_non_lv, dEq_bl_non, dEq_bl_str, dEq_bl_tup, dEq_bl_lv, dEq_int_non, dEq_int_str, dEq_int_tup, dEq_int_lv, dEq_str_non, dEq_str_bl, dEq_str_int, dEq_str_tup, dEq_str_lv, dEq_tup_non, dEq_tup_bl, dEq_tup_int, dEq_tup_str, dEq_tup_lv, dEq_lv_non, dEq_lv_bl, dEq_lv_int, dEq_lv_str, dEq_lv_tup, isNon_3, isNon_4, setS_1, setS_2, setS_3, getS_1, getS_2, dAdd_1, dAdd_2, dAdd_3, dAdd_4, dNeg_1, itemsOf_1, itemsOf_2, itemsOf_3, itemsOf_4, itemsA_1, lenD_1, lenD_2, lenD_3, lenD_4, lenD_5, absD_1, intCD_1, intCD_2, max2D_1, min2D_1, ord1D_1, ixD_1, ixD_2, ixD_3, ixD_4, ixD_5, slD_1, slD_2, slD_3, slD_4, slD_5, truthD_1, truthD_2, truthD_3, truthD_4, truthD_5, truthD_6, truthD_7, truthD_8, tyD_1, tyD_2, tyD_3, tyD_4, tyD_5, tyD_6, tyD_7, tyD_8, tyD_9, blOf_1, intOf_1, refOf_1, tupOf_1, strOf_1, lstOf_1, uncons_1, isNil_1, dPl_1, dPl_2, dPl_3, dPl_4, dPl_5, dPlL_1, dPlL_2, dDep_1, dDep_2, dDep_3, dDepL_1, dDepL_2, dEq_1, dEq_2, dEq_3, dEq_4, dEq_5, dEq_6, dEq_7, dEq_8, dEq_9, dEq_10, dEq_11, dEqL_1, dEqL_2, dIAdd_1, dIAdd_2, setD_1, itD_1, itD_2, itD_3, itD_4, itD_5, stabS_1, stabS_2, int1_1, int2_1, blsOf_1, blsOf_2, intsOf_1, intsOf_2, strsOf_1, strsOf_2, lv1_1, isNon_1, dLen, dAbs, dIntC, dMax2, dMin2, dOrd1, dSub, dMul, dDiv, dMod, dPow, dLt, dLe, dGt, dGe, List.map_cons, List.map_nil, List.replicate_succ, List.replicate_zero, List.nil_append, List.cons_append, List.length_cons, List.length_nil, List.length_map, updG_same, szL, Nat.reduceAdd, Str_beq, String.reduceEq, String.reduceBEq, Int.reduceBEq, Int.reduceEq, Bool.true_beq, Bool.false_beq, BEq.rfl, if_true, if_false, reduceIte, decide_eq_true_eq, Bool.false_eq_true, Bool.not_true, Bool.not_false, decide_true, decide_false, Bool.and_true, Bool.true_and, Bool.and_false, Bool.false_and, Bool.or_false, Bool.or_true, Bool.false_or, Bool.true_or, Nat.zero_le, Nat.min_zero, Nat.zero_min, true_and, and_true, beq_self_eq_true, Int.reduceLT, Int.reduceLE, Int.reduceNeg, Int.reducePow, Int.reduceAdd, Int.reduceSub, Int.reduceMul, Nat.reducePow, Nat.reduceLT, Nat.reduceLeDiff, Nat.reduceSub, Nat.reduceMul, Int.reduceToNat, Int.reduceGE, Int.reduceGT, atI_0, atI_1, atI_2, atI_3, atI_4, Nat.max_self, Bool.xor_true, Bool.xor_false, Bool.false_xor, Bool.true_xor, ↓dIsB_e, ↓dChain3_e, dMulS_1, ↓dDic_e, ↓dDGet_e, ↓dDIn_e, ↓dSubD_e, dRepLD_1, keyOf_1, keyOf_2, kvOf_1, kvOf_u, dicOf_u, dvOf_1, ↓dForK_e, ↓dLenK_e, ↓dSortI_e, ↓dDc_e, dInU_1, dInU_2, dInU_3, ↓dLcU_e, ↓dPop_e, ↓dAddM_e, lsOf_1, lsOf_2, ↓xLift_e, ↓xSeq_e, ↓xIf_e, ↓xOf_e, ↓xCall_e, ↓xAsg_e, ↓xRet_e, ↓xDrop_e, ↓xBad_e, ↓xFor_e, ↓dTryBad_e, ↓spOfX_e, lv1_1, ints_map, atI_m1, atI_m2, atI_m3, atI_m4])
mutual
/-- plain data: no list, no dictionary, no address -/
def dPn : D → Bool
  | .non => true
  | .bl _ => true
  | .int _ => true
  | .str _ => true
  | .tup ds => dPnL ds
  | _ => false
def dPnL : List D → Bool
  | [] => true
  | d :: r => dPn d && dPnL r
end
theorem dPnL_mem : ∀ {ds : List D} {d : D}, dPnL ds = true → d ∈ ds → dPn d = true
  | x :: xs, d, h, m => by
    unfold dPnL at h
    rw [Bool.and_eq_true] at h
    rcases List.mem_cons.mp m with rfl | m
    · exact h.1
    · exact dPnL_mem h.2 m
theorem dDepL_mem : ∀ {ds : List D} {d : D}, d ∈ ds → dDep d ≤ dDepL ds
  | x :: xs, d, m => by
    unfold dDepL
    rcases List.mem_cons.mp m with rfl | m
    · exact Nat.le_max_left _ _
    · exact Nat.le_trans (dDepL_mem m) (Nat.le_max_right _ _)

def rd_write_number : DTS :=
  (dSeq (dAsg (dRef dNil) (dName 1))
  (dSeq (dAsg (dVar 0) (dName 2))
  (dSeq (dWhile (dTest (dOp (dPure2 dGe) (dVar 2) (dC (.int 128))))
  (dSeq (dDrop (dApp (dVar 1) (dOp (dPure2 dAdd) (dOp (dPure2 dMod) (dVar 2) (dC (.int 128))) (dC (.int 128)))))
  (dAsg (dOp (dPure2 dDiv) (dVar 2) (dC (.int 128))) (dName 2))))
  (dSeq (dDrop (dApp (dVar 1) (dVar 2)))
  (dRet (dVar 1))))))
def sq_write_number : DSp := spOf 1 2 rd_write_number

/-- a natural number's octets -/
def wrF : Nat → Int → List Int
  | 0, r => [r]
  | k + 1, r => if r < 128 then [r] else (r % 128 + 128) :: wrF k (r / 128)
theorem wrF_lo {k : Nat} {r : Int} (h : r < 128) : wrF k r = [r] := by
  cases k with
  | zero => rfl
  | succ k => unfold wrF; rw [if_pos h]
theorem wrF_hi {k : Nat} {r : Int} (h : ¬ r < 128) : wrF (k + 1) r = (r % 128 + 128) :: wrF k (r / 128) := by
  rw [wrF, if_neg h]
theorem pow_step (k : Nat) : (128 : Int) ^ (k + 1) = 128 * 128 ^ k := by rw [Int.pow_succ, Int.mul_comm]
theorem wrF_len : ∀ (k : Nat) (r : Int), 1 ≤ (wrF k r).length ∧ (wrF k r).length ≤ k + 1 := by
  intro k
  induction k with
  | zero => intro r; exact ⟨Nat.le_refl _, Nat.le_refl _⟩
  | succ k ih =>
    intro r
    by_cases h : r < 128
    · rw [wrF_lo h]; exact ⟨Nat.le_refl _, by show 1 ≤ k + 1 + 1; omega⟩
    · rw [wrF_hi h, List.length_cons]; have := ih (r / 128); omega
theorem wrF_oct : ∀ (k : Nat) (r : Int), 0 ≤ r → r < 128 ^ k → ∀ o ∈ wrF k r, 0 ≤ o ∧ o ≤ 255 := by
  intro k
  induction k with
  | zero =>
    intro r h0 h1 o ho
    rw [Int.pow_zero] at h1
    have : o = r := List.mem_singleton.mp ho
    omega
  | succ k ih =>
    intro r h0 h1 o ho
    rw [pow_step] at h1
    by_cases h : r < 128
    · rw [wrF_lo h] at ho
      have : o = r := List.mem_singleton.mp ho
      omega
    · rw [wrF_hi h] at ho
      rcases List.mem_cons.mp ho with rfl | ho
      · omega
      · exact ih (r / 128) (by omega) (by generalize (128 : Int) ^ k = z at h1; omega) o ho
def sp_write_number : DSp := fun ds G Q E => ∃ n : Int, ds = [.int n] ∧ 0 ≤ n ∧ n < 128 ^ 20 ∧ ∀ p G', (∀ a m, G a = some m → G' a = some m) → G p = none → G' p = some (.lst ((wrF 20 n).map .int)) → Q (.ref p) G'
theorem abs_write_number (ds : List D) (G : Gp) (Q : D → Gp → Prop) (E : DXK) (h : sp_write_number ds G Q E) : sq_write_number ds G Q E := by
  obtain ⟨n, rfl, n0, n1, q⟩ := h
  simp! only [↓sq_write_number, ↓rd_write_number]
  intro p hp
  have sub : ∀ (l : List D) (a : Addr) (m : MO), G a = some m → updG G p (.lst l) a = some m := fun l a m e => by rw [updG_ne (fun z => by subst z; rw [hp] at e; cases e)]; exact e
  refine ⟨fun k δ G' => ∃ (acc : List Int) (r : Int), δ = [some (.int n), some (.ref p), some (.int r)] ∧ G' = updG G p (.lst (acc.map .int)) ∧ 0 ≤ r ∧ r < 128 ^ k ∧ acc.length + k = 20 ∧ acc ++ wrF k r = wrF 20 n, ⟨20, [], n, rfl, rfl, n0, n1, rfl, rfl⟩, ?_⟩
  rintro k δ G' ⟨acc, r, rfl, rfl, r0, r1, hl, e⟩
  try simp!
  refine dCond2 (fun c => ?_) (fun c => ?_)
  · have c := of_decide_eq_true c
    cases k with
    | zero => rw [Int.pow_zero] at r1; omega
    | succ k =>
      rw [pow_step] at r1
      try simp!
      refine ⟨by omega, k, Nat.lt_succ_self k, acc ++ [r % 128 + 128], r / 128, rfl, by rw [updG_updG, List.map_append]; rfl, by omega, by generalize (128 : Int) ^ k = z at r1; omega, by rw [List.length_append, List.length_singleton]; omega, ?_⟩
      rw [← e, wrF_hi (by omega), List.append_assoc]
      rfl
  · have c := of_decide_eq_false c
    try simp!
    rw [wrF_lo (by omega)] at e
    refine ⟨by omega, ?_⟩
    rw [updG_updG]
    refine rt_same (q p _ (sub _) hp ?_)
    rw [updG_same, ← e, List.map_append]
    rfl

def rd_read_number : DXS :=
  (xSeq (xLift (dAsg (dC (.int 0)) (dName 2)))
  (xSeq (xLift (dAsg (dC (.int 1)) (dName 3)))
  (xSeq (xFor (dRng2 (dCons (dVar 1) (dCons (dOp (dPure2 dAdd) (dVar 1) (dC (.int 8))) dNil))) (dName 4)
  (xSeq (xIf (dTest (dOp (dEqR) (dVar 4) (dB dLen (dCons (dVar 0) dNil))))
  (xBad (dCons (dVar 4) (dCons (dC (.str (Str.ofString "end"))) dNil)))
  (xLift dNext))
  (xSeq (xLift (dAsg (dOp dIx (dVar 0) (dVar 4)) (dName 5)))
  (xSeq (xIf (dTest (dOp (dPure2 dLt) (dVar 5) (dC (.int 128))))
  (xSeq (xIf (dAndT (dTest (dOp (dEqR) (dVar 5) (dC (.int 0)))) (dTest (dOp (dPure2 dGt) (dVar 4) (dVar 1))))
  (xBad (dCons (dVar 1) (dCons (dC (.str (Str.ofString "form"))) dNil)))
  (xLift dNext))
  (xLift (dRet (dTup (dCons (dOp (dPure2 dAdd) (dVar 2) (dOp (dPure2 dMul) (dVar 5) (dVar 3))) (dCons (dOp (dPure2 dAdd) (dVar 4) (dC (.int 1))) dNil))))))
  (xLift dNext))
  (xSeq (xLift (dAug 2 (dOp (dPure2 dMul) (dOp (dPure2 dSub) (dVar 5) (dC (.int 128))) (dVar 3)) (dPure2 dIAdd)))
  (xLift (dAsg (dOp (dPure2 dMul) (dVar 3) (dC (.int 128))) (dName 3))))))))
  (xBad (dCons (dVar 1) (dCons (dC (.str (Str.ofString "form"))) dNil))))))
def sq_read_number : DSp := spOfX 2 4 rd_read_number

theorem mulL {o : Int} {b : Bool} (h : -18446744073709551616 < o ∧ o < 18446744073709551616) : (decide (-18446744073709551616 < o) && decide (o < 18446744073709551616) || b) = true := by
  rw [decide_eq_true h.1, decide_eq_true h.2]; rfl
theorem mulR {o : Int} {b : Bool} (h : -18446744073709551616 < o ∧ o < 18446744073709551616) : (b || decide (-18446744073709551616 < o) && decide (o < 18446744073709551616)) = true := by
  rw [decide_eq_true h.1, decide_eq_true h.2, Bool.and_self, Bool.or_true]
/-- what reading a natural number gives -/
inductive NumR where
  | val (n behind : Int) | bad (i : Int) (r : String)
def rdN (os : List Int) (a : Nat) : Nat → Int → Int → NumR
  | 0, _, _ => .bad a "form"
  | n + 1, num, w =>
    if os.length ≤ a + (7 - n) then .bad os.length "end"
    else if os.getD (a + (7 - n)) 0 < 128 then (if os.getD (a + (7 - n)) 0 = 0 ∧ 0 < 7 - n then .bad a "form" else .val (num + w * os.getD (a + (7 - n)) 0) ((a + (7 - n) + 1 : Nat) : Int))
    else rdN os a n (num + w * (os.getD (a + (7 - n)) 0 - 128)) (w * 128)
def numQ (Q E : D → Gp → Prop) (G : Gp) : NumR → Prop
  | .val n b => Q (.tup [.int n, .int b]) G
  | .bad i r => E (badD i (Str.ofString r)) G
def sp_read_number : DSp := fun ds G Q E => ∃ (os : List Int) (a : Nat), ds = [.lv (os.map .int), .int a] ∧ a ≤ os.length ∧ os.length ≤ 100000 ∧ (∀ o ∈ os, 0 ≤ o ∧ o ≤ 255) ∧
  numQ Q E G (rdN os a 8 0 1)
theorem at_int (os : List Int) (i : Int) (h0 : 0 ≤ i) (h1 : i < os.length) : atI (os.map D.int) i = some (.int (os.getD i.toNat 0)) := by
  have e : atI (os.map D.int) ((i.toNat : Nat) : Int) = some (.int (os.getD i.toNat 0)) := by
    refine atI_nat ?_
    rw [List.getElem?_map, List.getD_eq_getElem?_getD, List.getElem?_eq_getElem (by omega)]
    rfl
  rwa [Int.toNat_of_nonneg h0] at e
theorem log_small {i : Int} (h0 : 0 ≤ i) (h1 : i ≤ 1000000) : i.natAbs.log2 < 1000 := by
  have h : i.natAbs < 2 ^ 20 := by omega
  by_cases z : i.natAbs = 0
  · rw [z]; decide
  · have := (Nat.log2_lt z).mpr h
    omega
theorem abs_read_number (ds : List D) (G : Gp) (Q : D → Gp → Prop) (E : DXK) (h : sp_read_number ds G Q E) : sq_read_number ds G Q E := by
  obtain ⟨os, a, rfl, ha, hl, ho, q⟩ := h
  simp! only [↓sq_read_number, ↓rd_read_number]
  refine ⟨⟨by omega, by omega, by omega, by omega⟩, ?_⟩
  rw [show ((a : Int) + 8 - a).toNat = 8 by omega]
  refine loopX_rng 8 a (fun j δ G' => G = G' ∧ a + j ≤ os.length ∧ ∃ num w k4 k5, δ = [some (.lv (os.map .int)), some (.int a), some (.int num), some (.int w), k4, k5] ∧ numQ Q E G (rdN os a (8 - j) num w)) ?_ ?_ _ _ ⟨rfl, ha, 0, 1, none, none, rfl, q⟩
  · rintro j δ G' K hj ⟨rfl, hl2, num, w, k4, k5, rfl, q⟩ hK
    refine ⟨trivial, ?_⟩
    obtain ⟨n, hn⟩ : ∃ n, 8 - j = n + 1 := ⟨7 - j, by omega⟩
    have hj7 : 7 - n = j := by omega
    rw [hn] at q
    unfold rdN at q
    rw [hj7] at q
    try simp!
    refine dCond2 (fun e => ?_) (fun e => ?_)
    · have e := eq_of_beq e
      rw [if_pos (by omega)] at q
      refine ⟨_, _, rfl, log_small (by omega) (by omega), by decide +kernel, ex_same ?_⟩
      rw [e]
      exact q
    · have e := ne_of_beq_false e
      have hlt : a + j < os.length := by omega
      rw [if_neg (by omega)] at q
      rw [at_int os (a + j) (by omega) (by omega), show ((a : Int) + j).toNat = a + j by omega]
      have hm : os.getD (a + j) 0 ∈ os := by
        rw [List.getD_eq_getElem?_getD, List.getElem?_eq_getElem hlt]
        exact List.getElem_mem _
      obtain ⟨o0, o1⟩ := ho _ hm
      generalize os.getD (a + j) 0 = o at q o0 o1
      try simp!
      refine dCond2 (fun c => ?_) (fun c => ?_)
      · have c := of_decide_eq_true c
        rw [if_pos c] at q
        try simp!
        have fin : ¬ (o = 0 ∧ 0 < j) → rtOf Q (.tup [.int (num + o * w), .int (a + j + 1)]) G := fun h => by
          rw [if_neg h, Int.mul_comm w o] at q
          have q : Q (.tup [.int (num + o * w), .int (((a + j : Nat) : Int) + 1)]) G := q
          rw [Int.natCast_add] at q
          exact rt_same q
        have bad : o = 0 ∧ 0 < j → exOf E (badD a (Str.ofString "form")) [some (.lv (os.map .int)), some (.int a), some (.int num), some (.int w), some (.int (a + j)), some (.int o)] G := fun h => by
          rw [if_pos h] at q
          exact ex_same q
        refine dCond2 (fun d => dCond2 (fun d2 => ?_) (fun d2 => ?_)) (fun d => ?_)
        · have d2 := of_decide_eq_true d2
          exact ⟨_, _, rfl, log_small (by omega) (by omega), by decide +kernel, bad ⟨eq_of_beq d, by omega⟩⟩
        · have d2 := of_decide_eq_false d2
          rw [if_pos (mulL ⟨by omega, by omega⟩)]
          try simp!
          exact fin fun h => by omega
        · have d := ne_of_beq_false d
          rw [if_pos (mulL ⟨by omega, by omega⟩)]
          try simp!
          exact fin fun h => d h.1
      · have c := of_decide_eq_false c
        rw [if_neg c] at q
        try simp!
        rw [if_pos (mulL ⟨by omega, by omega⟩)]
        try simp!
        refine hK _ _ ⟨rfl, by omega, _, _, _, _, rfl, ?_⟩
        rw [Int.mul_comm (o - 128) w, show 8 - (j + 1) = n by omega]
        exact q
  · rintro δ G' ⟨rfl, hl2, num, w, k4, k5, rfl, q⟩
    refine ⟨trivial, ?_⟩
    try simp!
    exact ⟨_, _, rfl, log_small (by omega) (by omega), by decide +kernel, ex_same q⟩
def numT : NumR → D
  | .val n b => .tup [.str (Str.ofString "value"), .int n, .int b]
  | .bad i r => .tup [.str (Str.ofString "bad"), .int i, .str (Str.ofString r)]
theorem rdN_txt (os : List Int) (a : Nat) : ∀ (n : Nat) (num w i : Int) (r : String), rdN os a n num w = .bad i r → r = "end" ∨ r = "form" := by
  intro n
  induction n with
  | zero => intro num w i r e; unfold rdN at e; cases e; exact .inr rfl
  | succ n ih =>
    intro num w i r e
    unfold rdN at e
    split at e
    · cases e; exact .inl rfl
    · split at e
      · split at e
        · cases e; exact .inr rfl
        · cases e
      · exact ih _ _ _ _ e
theorem numT_ok (os : List Int) (a : Nat) : dPn (numT (rdN os a 8 0 1)) = true ∧ dDep (numT (rdN os a 8 0 1)) ≤ 1 ∧ dWL [numT (rdN os a 8 0 1), numT (rdN os a 8 0 1)] ≤ 1000000 := by
  have h := rdN_txt os a 8 0 1
  generalize rdN os a 8 0 1 = R at h ⊢
  cases R with
  | val n b => exact ⟨rfl, by show max 0 (max 0 (max 0 0)) + 1 ≤ 1; decide, Nat.le_of_ble_eq_true rfl⟩
  | bad i r => rcases h i r rfl with rfl | rfl <;> exact ⟨rfl, by show max 0 (max 0 (max 0 0)) + 1 ≤ 1; decide, Nat.le_of_ble_eq_true rfl⟩
theorem eqL_self : ∀ os : List Int, dEqL (os.map D.int) (os.map D.int) = true
  | [] => rfl
  | x :: xs => by
    show (dEq (.int x) (.int x) && dEqL (xs.map D.int) (xs.map D.int)) = true
    rw [eqL_self xs, Bool.and_true]
    exact beq_self_eq_true x
def Oct (os : List Int) : Prop := ∀ o ∈ os, 0 ≤ o ∧ o ≤ 255

def rd__law_cell : DTS :=
  (dSeq (dIfS (dTest (dOp (dPure2 dLt) (dVar 1) (dB dLen (dCons (dVar 0) dNil))))
  (dRet (dOp dIx (dVar 0) (dVar 1)))
  dNext)
  (dRet (dC (.int 0))))
def sq__law_cell : DSp := spOf 2 0 rd__law_cell

theorem abs__law_cell (ds : List D) (G : Gp) (Q : D → Gp → Prop) (E : DXK) (h : sp__law_cell ds G Q E) : sq__law_cell ds G Q E := by
  obtain ⟨ns, k, rfl, q⟩ := h
  simp! only [↓sq__law_cell, ↓rd__law_cell]
  refine dCond2 (fun a => ?_) (fun _ => rt_same (q 0))
  have a := of_decide_eq_true a
  obtain ⟨v, e, m⟩ := at_ok (ns.map D.int) (k : Int) (by omega) (by rw [List.length_map]; exact a)
  try simp! only [e]
  rw [List.mem_map] at m
  obtain ⟨n, _, rfl⟩ := m
  exact rt_same (q n)

def rd__law_draws : DTS :=
  (dSeq (dAsg (dRef dNil) (dName 1))
  (dSeq (dAsg (dB dAbs (dCons (dVar 0) dNil)) (dName 2))
  (dSeq (dAsg (dOp (dPure2 dMod) (dB dIntC (dCons (dVar 2) dNil)) (dC (.int 2147483647))) (dName 3))
  (dSeq (dAsg (dOp (dPure2 dGe) (dVar 2) (dOp (dPure2 dPow) (dC (.int 10)) (dC (.int 18)))) (dName 4))
  (dSeq (dFor (dRng1 (dCons (dC (.int 160)) dNil)) (dName 5)
  (dIfS (dAndT (dTruth (dVar 4)) (dTest (dOp (dPure2 dGt) (dVar 2) (dC (.int 0)))))
  (dSeq (dDrop (dApp (dVar 1) (dOp (dPure2 dMod) (dB dIntC (dCons (dVar 2) dNil)) (dC (.int 1000)))))
  (dAsg (dOp (dPure2 dDiv) (dVar 2) (dC (.int 1000))) (dName 2)))
  (dSeq (dAsg (dOp (dPure2 dMod) (dB dIntC (dCons (dOp (dPure2 dAdd) (dOp (dPure2 dMul) (dVar 3) (dC (.int 48271))) (dC (.int 7919))) dNil)) (dC (.int 2147483647))) (dName 3))
  (dDrop (dApp (dVar 1) (dOp (dPure2 dDiv) (dVar 3) (dC (.int 65536))))))))
  (dRet (dRef (dCons (dC (.int 0)) (dCons (dVar 1) dNil)))))))))
def sq__law_draws : DSp := spOf 1 5 rd__law_draws

theorem abs__law_draws (ds : List D) (G : Gp) (Q : D → Gp → Prop) (E : DXK) (h : sp__law_draws ds G Q E) : sq__law_draws ds G Q E := by
  obtain ⟨i, rfl, q⟩ := h
  simp! only [↓sq__law_draws, ↓rd__law_draws]
  intro p hp
  refine loop_ind (fun ds δ G' => ∃ (ns : List Int) (r m : Int) (g : Bool) (k : Option D), δ = [some (.int i), some (.ref p), some (.int r), some (.int m), some (.bl g), k] ∧ G' = updG G p (.lst (ns.map .int)) ∧ 0 ≤ m ∧ m < 2147483647 ∧ ns.length + ds.length ≤ 160) ?_ ?_ _ _ _
    ⟨[], _, _, _, none, rfl, rfl, Int.emod_nonneg _ (by decide), Int.emod_lt_of_pos _ (by decide), by rw [rangeD_len]; decide⟩
  · rintro x r δ G' K ⟨ns, r1, m, g, k, rfl, rfl, m0, m1, hl⟩ hK
    rw [List.length_cons] at hl
    try simp!
    have h1 : ns.length < 16777216 := by omega
    have one : ∀ n : Int, updG (updG G p (.lst (ns.map .int))) p (.lst (ns.map .int ++ [.int n])) = updG G p (.lst ((ns ++ [n]).map .int)) := fun n => by rw [updG_updG, List.map_append]; rfl
    have go : ∀ (n r2 m2 : Int), 0 ≤ m2 → m2 < 2147483647 → K [some (.int i), some (.ref p), some (.int r2), some (.int m2), some (.bl g), some x] (updG (updG G p (.lst (ns.map .int))) p (.lst (ns.map .int ++ [.int n]))) := fun n r2 m2 a b => by
      rw [one]
      exact hK _ _ ⟨ns ++ [n], _, _, _, _, rfl, rfl, a, b, by rw [List.length_append, List.length_singleton]; omega⟩
    have els : ∀ K2 : Prop, True := fun _ => trivial
    have bnd : ∀ z : Int, 0 ≤ z % 2147483647 ∧ z % 2147483647 < 2147483647 := fun z => ⟨Int.emod_nonneg _ (by decide), Int.emod_lt_of_pos _ (by decide)⟩
    have c1 : (-18446744073709551616 : Int) < m ∧ m < 18446744073709551616 := by omega
    refine dCond2 (fun a => ?_) (fun a => ?_)
    · refine dCond2 (fun b => ?_) (fun b => ?_)
      · try simp! only [h1]
        exact go _ _ _ m0 m1
      · try simp! only [h1, c1]
        exact go _ _ _ (bnd _).1 (bnd _).2
    · try simp! only [h1, c1]
      exact go _ _ _ (bnd _).1 (bnd _).2
  · rintro δ G' ⟨ns, r1, m, g, k, rfl, rfl, m0, m1, hl⟩
    try simp!
    intro p2 hp2
    have n2 : p2 ≠ p := fun z => by subst z; rw [updG_same] at hp2; cases hp2
    have hG : G p2 = none := by rw [updG_ne n2] at hp2; exact hp2
    refine ⟨.ref p2, updG (updG G p .row) p2 (.drw p), ⟨fun a m' e => ?_, .same⟩, q p2 _ (fun a m' e => ?_) ⟨p, updG_same, by rw [updG_ne n2.symm, updG_same]⟩ hG⟩
    · by_cases a2 : a = p2
      · subst a2
        rw [updG_same] at e
        cases e
        exact .inr ⟨0, by decide, updG_same⟩
      · rw [updG_ne a2] at e
        by_cases a1 : a = p
        · subst a1
          rw [updG_same] at e
          cases e
          exact .inr ⟨ns, by rw [updG_ne n2.symm, updG_same]⟩
        · rw [updG_ne a1] at e
          exact .of (by rw [updG_ne a2, updG_ne a1]; exact e)
    · rw [updG_ne (fun z => by subst z; rw [hG] at e; cases e), updG_ne (fun z => by subst z; rw [hp] at e; cases e)]
      exact e

def rd__law_next : DTS :=
  (dSeq (dAsg (dOp dIx (dVar 0) (dC (.int 0))) (dName 2))
  (dSeq (dAsg (dOp (dPure2 dAdd) (dVar 2) (dC (.int 1))) (dSubL (dVar 0) (dC (.int 0))))
  (dSeq (dAsg (dOp dIx (dVar 0) (dC (.int 1))) (dName 3))
  (dSeq (dIfS (dTest (dOp (dPure2 dGe) (dVar 2) (dB dLen (dCons (dVar 3) dNil))))
  (dRet (dC (.int 0)))
  dNext)
  (dRet (dOp (dPure2 dMod) (dB dIntC (dCons (dOp dIx (dVar 3) (dVar 2)) dNil)) (dVar 1)))))))
def sq__law_next : DSp := spOf 2 2 rd__law_next

def conc__law_next : DSp := fun ds G Q _ => ∃ (d r : Addr) (i many : Int) (ns : List Int), ds = [.ref d, .int many] ∧ d ≠ r ∧ G d = some (.lst [.int i, .ref r]) ∧ G r = some (.lst (ns.map .int)) ∧ 0 ≤ i ∧ 0 < many ∧ ∀ k, 0 ≤ k → k < many → Q (.int k) (updG G d (.lst [.int (i + 1), .ref r]))
theorem conc_next (ds : List D) (G : Gp) (Q : D → Gp → Prop) (E : DXK) (h : conc__law_next ds G Q E) : sq__law_next ds G Q E := by
  obtain ⟨d, r, i, many, ns, rfl, nr, hd, hr, i0, m0, q⟩ := h
  have ix : ixN [D.int i, D.ref r].length 0 = some 0 := rfl
  have ix2 : ixN (0 + 1 + 1) 0 = some 0 := rfl
  have ix3 : ixN 2 0 = some 0 := rfl
  simp! only [↓sq__law_next, ↓rd__law_next, hd, hr, ix, ix2, ix3, List.set_cons_zero, updG_ne nr.symm, decide_eq_true m0, m0]
  refine dCond2 (fun a => ?_) (fun a => ?_)
  · exact rt_same (q 0 (by decide) m0)
  · have a := of_decide_eq_false a
    obtain ⟨v, e, m⟩ := at_ok (ns.map D.int) i i0 (by rw [List.length_map]; omega)
    rw [List.mem_map] at m
    obtain ⟨n, _, rfl⟩ := m
    try simp! only [e, m0]
    exact rt_same (q _ (Int.emod_nonneg _ (by omega)) (Int.emod_lt_of_pos _ m0))
theorem abs__law_next {K : PySem.W.Frag} (vs : List V) (H : Hp) (Q : VK) (E : XK) (h : upSp K sp__law_next vs H Q E) : upSp K sq__law_next vs H Q E := by
  obtain ⟨F, ds, G, Q', R, rv, ⟨d, many, rfl, ⟨r, hd, hr⟩, m0, q⟩, kk⟩ := h
  obtain ⟨i, i0, h1⟩ := R.obj d _ hd
  obtain ⟨ns, h2⟩ := R.obj r _ hr
  have nr : d ≠ r := fun z => by subst z; rw [hd] at hr; cases hr
  have g0 : ∀ a, G a = none ↔ updG (updG G r (.lst (ns.map .int))) d (.lst [.int i, .ref r]) a = none := fun a => by
    unfold updG
    by_cases a1 : a = d
    · subst a1; simp [hd]
    · by_cases a2 : a = r
      · subst a2; simp [hr, a1]
      · simp [a1, a2]
  have R1 : Rel K F H (updG (updG G r (.lst (ns.map .int))) d (.lst [.int i, .ref r])) := by
    refine ⟨fun a m e => ?_, fun a f => (g0 a).mp (R.fr a f), R.al⟩
    by_cases a1 : a = d
    · subst a1
      rw [updG_same] at e
      cases e
      exact ⟨_, h1, _, _, rfl, rfl, _, _, rfl, rfl, rfl⟩
    · rw [updG_ne a1] at e
      by_cases a2 : a = r
      · subst a2
        rw [updG_same] at e
        cases e
        exact ⟨_, h2, RepL.ints ns⟩
      · rw [updG_ne a2] at e
        exact R.obj a m e
  refine ⟨F, _, _, fun v G2 => (∃ k, v = .int k ∧ 0 ≤ k ∧ k < many) ∧ G2 = updG (updG (updG G r (.lst (ns.map .int))) d (.lst [.int i, .ref r])) d (.lst [.int (i + 1), .ref r]), R1, rv, conc_next _ _ _ _ ⟨d, r, i, many, ns, rfl, nr, updG_same, by rw [updG_ne nr.symm, updG_same], i0, m0, fun k k0 k1 => ⟨⟨k, rfl, k0, k1⟩, rfl⟩⟩, fun v H' ⟨x, F', G', k1, R', rx, ⟨⟨k, ex, k0, k2⟩, eg⟩⟩ => kk v H' ?_⟩
  subst ex eg
  refine ⟨.int k, F', G, ⟨fun a u ga ha => ?_⟩, ⟨fun a m e => ?_, fun a f => ?_, R'.al⟩, rx, q k k0 k2⟩
  · obtain ⟨a1, a2, a3⟩ := k1.k a u ((g0 a).mp ga) ha
    exact ⟨a1, ga, a3⟩
  · by_cases a1 : a = d
    · subst a1
      rw [hd] at e
      cases e
      obtain ⟨xs, e1, v1, r1, e2, e3, e4⟩ := R'.obj a _ updG_same
      obtain ⟨v2, e5, e6⟩ := rl1 e4
      cases e3
      cases e6
      subst e5 e2
      exact ⟨i + 1, by omega, e1⟩
    · by_cases a2 : a = r
      · subst a2
        rw [hr] at e
        cases e
        obtain ⟨xs, e1, e2⟩ := R'.obj a (.lst (ns.map .int)) (by rw [updG_ne a1, updG_ne a1, updG_same])
        rw [repL_ints e2] at e1
        exact ⟨ns, e1⟩
      · exact R'.obj a m (by rw [updG_ne a1, updG_ne a1, updG_ne a2]; exact e)
  · have := R'.fr a f
    rw [updG_updG] at this
    refine (g0 a).mpr ?_
    unfold updG at this ⊢
    by_cases a1 : a = d
    · subst a1; simp at this
    · simpa [a1] using this

def rd__law_write_number : DTS :=
  (dSeq (dAsg (dRef dNil) (dName 1))
  (dSeq (dAsg (dVar 0) (dName 2))
  (dSeq (dFor (dRng1 (dCons (dC (.int 20)) dNil)) (dName 3)
  (dSeq (dIfS (dTest (dOp (dPure2 dLt) (dVar 2) (dC (.int 128))))
  dBreak
  dNext)
  (dSeq (dDrop (dApp (dVar 1) (dOp (dPure2 dAdd) (dC (.int 128)) (dOp (dPure2 dMod) (dB dIntC (dCons (dVar 2) dNil)) (dC (.int 128))))))
  (dAsg (dOp (dPure2 dDiv) (dVar 2) (dC (.int 128))) (dName 2)))))
  (dSeq (dDrop (dApp (dVar 1) (dVar 2)))
  (dRet (dVar 1))))))
def sq__law_write_number : DSp := spOf 1 3 rd__law_write_number

def sp__law_write_number : DSp := fun ds G Q E => ∃ n : Int, ds = [.int n] ∧ 0 ≤ n ∧ n < 128 ^ 20 ∧ Q (.lv ((wrF 20 n).map .int)) G
theorem abs__law_write_number (ds : List D) (G : Gp) (Q : D → Gp → Prop) (E : DXK) (h : sp__law_write_number ds G Q E) : sq__law_write_number ds G Q E := by
  obtain ⟨n, rfl, n0, n1, q⟩ := h
  simp! only [↓sq__law_write_number, ↓rd__law_write_number]
  intro p hp
  have fin : ∀ (acc : List Int) (r : Int), acc ++ [r] = wrF 20 n → rtOf Q (.ref p) (updG (updG G p (.lst (acc.map .int))) p (.lst (acc.map .int ++ [.int r]))) := fun acc r e => by
    rw [updG_updG]
    refine rt_frz hp ?_
    rw [← e, List.map_append] at q
    exact q
  refine loop_rng 20 0 (fun j δ G' => ∃ (acc : List Int) (r : Int) (k : Option D), δ = [some (.int n), some (.ref p), some (.int r), k] ∧ G' = updG G p (.lst (acc.map .int)) ∧ acc.length = j ∧ 0 ≤ r ∧ r < 128 ^ (20 - j) ∧ acc ++ wrF (20 - j) r = wrF 20 n) ?_ ?_ _ _ ⟨[], n, none, rfl, rfl, rfl, n0, n1, rfl⟩
  · rintro j δ G' K hj ⟨acc, r, k, rfl, rfl, hl, r0, r1, e⟩ hK
    refine ⟨trivial, ?_⟩
    obtain ⟨m, hm⟩ : ∃ m, 20 - j = m + 1 := ⟨19 - j, by omega⟩
    rw [hm] at e r1
    rw [pow_step] at r1
    try simp!
    refine dCond2 (fun c => ?_) (fun c => ?_)
    · have c := of_decide_eq_true c
      rw [wrF_lo c] at e
      try simp!
      exact ⟨by omega, fin _ _ e⟩
    · have c := of_decide_eq_false c
      rw [wrF_hi c] at e
      try simp!
      refine ⟨by omega, ?_⟩
      rw [updG_updG]
      refine hK _ _ ⟨acc ++ [128 + r % 128], r / 128, _, rfl, by rw [List.map_append]; rfl, by rw [List.length_append, List.length_singleton]; omega, by omega, ?_, ?_⟩
      · rw [show 20 - (j + 1) = m by omega]
        generalize (128 : Int) ^ m = z at r1
        omega
      · rw [show 20 - (j + 1) = m by omega, ← e, List.append_assoc, Int.add_comm 128]
        rfl
  · rintro δ G' ⟨acc, r, k, rfl, rfl, hl, r0, r1, e⟩
    try simp!
    exact ⟨by omega, fin _ _ e⟩

def rd__law_same (sb__law_same : DSp) : DTS :=
  (dSeq (dIfS (dTest (dUn (dIsN false) (dVar 1)))
  (dRet (dUn (dIsN false) (dVar 0)))
  dNext)
  (dSeq (dIfS (dTruth (dIsi "tuple" (dVar 1)))
  (dSeq (dIfS (dOrT (dNotT (dTruth (dIsi "tuple" (dVar 0)))) (dTest (dOp (dNeR) (dB dLen (dCons (dVar 0) dNil)) (dB dLen (dCons (dVar 1) dNil)))))
  (dRet (dC (.bl false)))
  dNext)
  (dSeq (dFor (dRng1 (dCons (dB dLen (dCons (dVar 1) dNil)) dNil)) (dName 2)
  (dIfS (dNotT (dTruth (dCall sb__law_same (dCons (dOp dIx (dVar 0) (dVar 2)) (dCons (dOp dIx (dVar 1) (dVar 2)) dNil)))))
  (dRet (dC (.bl false)))
  dNext))
  (dRet (dC (.bl true)))))
  dNext)
  (dSeq (dIfS (dTruth (dIsi "bool" (dVar 1)))
  (dRet (dAnd (dIsi "bool" (dVar 0)) (dOp (dEqR) (dVar 0) (dVar 1))))
  dNext)
  (dSeq (dIfS (dTruth (dIsi "int" (dVar 1)))
  (dRet (dAnd (dIsi "int" (dVar 0)) (dAnd (dNot (dIsi "bool" (dVar 0))) (dOp (dEqR) (dVar 0) (dVar 1)))))
  dNext)
  (dRet (dAnd (dIsi "str" (dVar 0)) (dOp (dEqR) (dVar 0) (dVar 1))))))))
def sq__law_same (sb__law_same : DSp) : DSp := spOf 2 1 (rd__law_same sb__law_same)

def sp__law_same : Nat → DSp
  | 0 => fun _ _ _ _ => False
  | n + 1 => fun ds G Q _ => ∃ a e, ds = [a, e] ∧ dPn a = true ∧ dPn e = true ∧ dDep e ≤ n ∧ dWL [a, e] ≤ 1000000 ∧ (a = e → Q (.bl true) G) ∧ (a ≠ e → Q (.bl false) G)
theorem abs__law_same (n : Nat) (ds : List D) (G : Gp) (Q : D → Gp → Prop) (E : DXK) (h : sp__law_same (n + 1) ds G Q E) : sq__law_same (sp__law_same n) ds G Q E := by
  obtain ⟨a, e, rfl, ha, he, hd, hw, q1, q0⟩ := h
  have f0 : a ≠ e → rtOf Q (.bl false) G := fun h => rt_same (q0 h)
  have f1 : a = e → rtOf Q (.bl true) G := fun h => rt_same (q1 h)
  cases e with
  | non =>
    simp! only [↓sq__law_same, ↓rd__law_same]
    cases a with
    | non => exact f1 rfl
    | dv _ => cases ha
    | lv _ => cases ha
    | rl _ => cases ha
    | ref _ => cases ha
    | _ => exact f0 (by intro z; cases z)
  | bl b =>
    simp! only [↓sq__law_same, ↓rd__law_same]
    cases a with
    | bl c =>
      try simp!
      by_cases z : c = b
      · subst z
        try simp!
        exact f1 rfl
      · have : (c == b) = false := beq_eq_false_iff_ne.mpr z
        rw [this]
        exact f0 (fun q => z (D.bl.inj q))
    | dv _ => cases ha
    | lv _ => cases ha
    | rl _ => cases ha
    | ref _ => cases ha
    | _ =>
      try simp!
      exact f0 (by intro z; cases z)
  | int i =>
    simp! only [↓sq__law_same, ↓rd__law_same]
    cases a with
    | int c =>
      try simp!
      by_cases z : c = i
      · subst z
        try simp!
        exact f1 rfl
      · have : (c == i) = false := beq_eq_false_iff_ne.mpr z
        rw [this]
        exact f0 (fun q => z (D.int.inj q))
    | dv _ => cases ha
    | lv _ => cases ha
    | rl _ => cases ha
    | ref _ => cases ha
    | _ =>
      try simp!
      exact f0 (by intro z; cases z)
  | str s =>
    simp! only [↓sq__law_same, ↓rd__law_same]
    cases a with
    | str c =>
      try simp!
      by_cases z : c = s
      · subst z
        try simp!
        exact f1 rfl
      · have : (c == s) = false := beq_eq_false_iff_ne.mpr z
        rw [this]
        exact f0 (fun q => z (D.str.inj q))
    | dv _ => cases ha
    | lv _ => cases ha
    | rl _ => cases ha
    | ref _ => cases ha
    | _ =>
      try simp!
      exact f0 (by intro z; cases z)
  | tup es =>
    simp! only [↓sq__law_same, ↓rd__law_same]
    cases a with
    | tup as =>
      have hl1 := dWL_len es
      have hw' : dWL as + 1 + (dWL es + 1 + 0) ≤ 1000000 := hw
      have hd' : dDepL es + 1 ≤ n := hd
      try simp!
      refine dCond2 (fun a => ?_) (fun a => ?_)
      · refine f0 fun z => ?_
        cases z
        simp at a
      · have hl : as.length = es.length := by
          rw [Bool.not_eq_false'] at a
          have := eq_of_beq a
          omega
        refine ⟨by omega, by omega, ?_⟩
        rw [Int.toNat_natCast]
        refine loop_rng _ 0 (fun j δ G' => G = G' ∧ (∃ k, δ = [some (.tup as), some (.tup es), k]) ∧ as.take j = es.take j) ?_ ?_ _ _ ⟨rfl, ⟨none, rfl⟩, rfl⟩
        · rintro j δ G' K hj ⟨rfl, ⟨k, rfl⟩, ht⟩ hK
          have e1 : atI as (0 + (j : Int)) = some as[j] := by rw [Int.zero_add]; exact atI_nat (List.getElem?_eq_getElem (by omega))
          have e2 : atI es (0 + (j : Int)) = some es[j] := by rw [Int.zero_add]; exact atI_nat (List.getElem?_eq_getElem hj)
          try simp! only [e1, e2]
          have m1 : as[j] ∈ as := List.getElem_mem _
          have m2 : es[j] ∈ es := List.getElem_mem _
          have w1 := dWL_mem m1
          have w2 := dWL_mem m2
          have d2 := dDepL_mem m2
          cases n with
          | zero => omega
          | succ n =>
            refine ⟨as[j], es[j], rfl, dPnL_mem ha m1, dPnL_mem he m2, by omega, by show dW as[j] + (dW es[j] + 0) ≤ 1000000; omega, fun z => ?_, fun z => ?_⟩
            · try simp!
              refine hK _ _ ⟨rfl, ⟨_, rfl⟩, ?_⟩
              rw [List.take_succ, List.take_succ, ht, List.getElem?_eq_getElem hj, List.getElem?_eq_getElem (by omega : j < as.length), z]
            · try simp!
              refine f0 fun q => z ?_
              cases q
              rfl
        · rintro δ G' ⟨rfl, ⟨k, rfl⟩, ht⟩
          try simp!
          refine f1 ?_
          rw [List.take_length, ← hl, List.take_length] at ht
          rw [ht]
    | dv _ => cases ha
    | lv _ => cases ha
    | rl _ => cases ha
    | ref _ => cases ha
    | _ =>
      try simp!
      exact f0 (by intro z; cases z)
  | _ => cases he

def rd__law_same_octets : DTS :=
  (dSeq (dIfS (dOrT (dNotT (dTruth (dIsi "list" (dVar 0)))) (dTest (dOp (dNeR) (dB dLen (dCons (dVar 0) dNil)) (dB dLen (dCons (dVar 1) dNil)))))
  (dRet (dC (.bl false)))
  dNext)
  (dSeq (dFor (dRng1 (dCons (dB dLen (dCons (dVar 1) dNil)) dNil)) (dName 2)
  (dIfS (dOrT (dNotT (dTruth (dIsi "int" (dOp dIx (dVar 0) (dVar 2))))) (dOrT (dTruth (dIsi "bool" (dOp dIx (dVar 0) (dVar 2)))) (dTest (dOp (dNeR) (dOp dIx (dVar 0) (dVar 2)) (dOp dIx (dVar 1) (dVar 2))))))
  (dRet (dC (.bl false)))
  dNext))
  (dRet (dC (.bl true)))))
def sq__law_same_octets : DSp := spOf 2 1 rd__law_same_octets

def sp__law_same_octets : DSp := fun ds G Q E => ∃ (x : D) (os : List Int), ds = [x, .lv (os.map .int)] ∧ os.length ≤ 100000 ∧ (x = .lv (os.map .int) ∨ ∃ p, x = .ref p ∧ G p = some (.lst (os.map .int))) ∧ Q (.bl true) G
theorem abs__law_same_octets (ds : List D) (G : Gp) (Q : D → Gp → Prop) (E : DXK) (h : sp__law_same_octets ds G Q E) : sq__law_same_octets ds G Q E := by
  obtain ⟨x, os, rfl, hl, hx, q⟩ := h
  have len1 : dEq (.int (os.length : Nat)) (.int (os.length : Nat)) = true := beq_self_eq_true (os.length : Int)
  rcases hx with rfl | ⟨p, rfl, hp⟩
  · simp! only [↓sq__law_same_octets, ↓rd__law_same_octets]
    refine ⟨by omega, by omega, ?_⟩
    rw [Int.toNat_natCast]
    refine loop_rng os.length 0 (fun j δ G' => G = G' ∧ ∃ k, δ = [some (.lv (os.map .int)), some (.lv (os.map .int)), k]) ?_ ?_ _ _ ⟨rfl, _, rfl⟩
    · rintro j δ G' K hj ⟨rfl, k, rfl⟩ hK
      refine ⟨trivial, ?_⟩
      try simp!
      rw [at_int os _ (by omega) (by omega)]
      try simp!
      exact hK _ _ ⟨rfl, _, rfl⟩
    · rintro δ G' ⟨rfl, k, rfl⟩
      try simp!
      exact rt_same q
  · simp! only [↓sq__law_same_octets, ↓rd__law_same_octets]
    rw [hp]
    simp! only [lstOf, Option.map]
    refine ⟨by omega, by omega, ?_⟩
    rw [Int.toNat_natCast]
    refine loop_rng os.length 0 (fun j δ G' => G = G' ∧ ∃ k, δ = [some (.ref p), some (.lv (os.map .int)), k]) ?_ ?_ _ _ ⟨rfl, _, rfl⟩
    · rintro j δ G' K hj ⟨rfl, k, rfl⟩ hK
      refine ⟨trivial, ?_⟩
      try simp!
      rw [hp]
      simp! only [lstOf, Option.bind]
      rw [at_int os _ (by omega) (by omega)]
      try simp!
      exact hK _ _ ⟨rfl, _, rfl⟩
    · rintro δ G' ⟨rfl, k, rfl⟩
      try simp!
      exact rt_same q

def rd__law_try : DTS :=
  (dTryBad 3 (Str.ofString "bad")
  (xSeq (xAsg (xCall sp_read_number (dCons (dVar 0) (dCons (dVar 1) dNil))) (dName 2))
  (xSeq (xLift (dIfS (dOrT (dNotT (dTruth (dIsi "tuple" (dVar 2)))) (dTest (dOp (dNeR) (dB dLen (dCons (dVar 2) dNil)) (dC (.int 2)))))
  (dRet (dTup (dCons (dC (.str (Str.ofString "none"))) (dCons (dC (.int 0)) (dCons (dC (.int 0)) dNil)))))
  dNext))
  (xLift (dRet (dTup (dCons (dC (.str (Str.ofString "value"))) (dCons (dOp dIx (dVar 2) (dC (.int 0))) (dCons (dOp dIx (dVar 2) (dC (.int 1))) dNil)))))))))
def sq__law_try : DSp := spOf 2 2 rd__law_try

def sp__law_try : DSp := fun ds G Q E => ∃ (os : List Int) (a : Nat), ds = [.lv (os.map .int), .int a] ∧ a ≤ os.length ∧ os.length ≤ 100000 ∧ (∀ o ∈ os, 0 ≤ o ∧ o ≤ 255) ∧ Q (numT (rdN os a 8 0 1)) G
theorem abs__law_try (ds : List D) (G : Gp) (Q : D → Gp → Prop) (E : DXK) (h : sp__law_try ds G Q E) : sq__law_try ds G Q E := by
  obtain ⟨os, a, rfl, ha, hl, ho, q⟩ := h
  simp! only [↓sq__law_try, ↓rd__law_try]
  refine ⟨os, a, rfl, ha, hl, ho, ?_⟩
  generalize rdN os a 8 0 1 = R at q ⊢
  cases R with
  | val n b =>
    simp! only [numQ]
    exact rt_same q
  | bad i r =>
    exact ⟨_, _, rfl, rt_same q⟩

def rd_law : DTS :=
  (dSeq (dAsg (dCall sp__law_draws (dCons (dCall sp__law_cell (dCons (dVar 0) (dCons (dC (.int 0)) dNil))) dNil)) (dName 1))
  (dSeq (dAsg (dOp (dPure2 dMod) (dB dIntC (dCons (dB dAbs (dCons (dCall sp__law_cell (dCons (dVar 0) (dCons (dC (.int 1)) dNil))) dNil)) dNil)) (dOp (dPure2 dPow) (dC (.int 10)) (dC (.int 20)))) (dName 2))
  (dSeq (dAsg (dCall sp__law_next (dCons (dVar 1) (dCons (dC (.int 3)) dNil))) (dName 3))
  (dSeq (dIfS (dTest (dOp (dEqR) (dVar 3) (dC (.int 0))))
  (dAsg (dOp (dPure2 dMod) (dB dIntC (dCons (dVar 2) dNil)) (dC (.int 300))) (dName 2))
  dNext)
  (dSeq (dIfS (dTest (dOp (dEqR) (dVar 3) (dC (.int 1))))
  (dAsg (dOp (dPure2 dSub) (dOp (dPure2 dAdd) (dOp dIx (dLv (dCons (dC (.int 128)) (dCons (dOp (dPure2 dPow) (dC (.int 128)) (dC (.int 2))) (dCons (dOp (dPure2 dPow) (dC (.int 128)) (dC (.int 4))) (dCons (dOp (dPure2 dPow) (dC (.int 128)) (dC (.int 7))) (dCons (dOp (dPure2 dPow) (dC (.int 128)) (dC (.int 8))) (dCons (dOp (dPure2 dPow) (dC (.int 10)) (dC (.int 15))) dNil))))))) (dCall sp__law_next (dCons (dVar 1) (dCons (dC (.int 6)) dNil)))) (dCall sp__law_next (dCons (dVar 1) (dCons (dC (.int 3)) dNil)))) (dC (.int 1))) (dName 2))
  dNext)
  (dSeq (dAsg (dCall sp_write_number (dCons (dVar 2) dNil)) (dName 4))
  (dSeq (dIfS (dNotT (dTruth (dCall sp__law_same_octets (dCons (dVar 4) (dCons (dCall sp__law_write_number (dCons (dVar 2) dNil)) dNil)))))
  (dRet (dC (.bl false)))
  dNext)
  (dSeq (dAsg (dLc (dRng1 (dCons (dCall sp__law_next (dCons (dVar 1) (dCons (dC (.int 5)) dNil))) dNil)) (dName 6) dYes (dCall sp__law_next (dCons (dVar 1) (dCons (dC (.int 256)) dNil))) [6]) (dName 5))
  (dSeq (dAsg (dLc (dRng1 (dCons (dCall sp__law_next (dCons (dVar 1) (dCons (dC (.int 5)) dNil))) dNil)) (dName 6) dYes (dCall sp__law_next (dCons (dVar 1) (dCons (dC (.int 256)) dNil))) [6]) (dName 7))
  (dSeq (dIfS (dTest (dOp (dEqR) (dCall sp__law_next (dCons (dVar 1) (dCons (dC (.int 4)) dNil))) (dC (.int 0))))
  (dAsg (dOp (dPure2 dAdd) (dVar 5) (dLc (dRng1 (dCons (dCall sp__law_next (dCons (dVar 1) (dCons (dC (.int 40)) dNil))) dNil)) (dName 6) dYes (dCall sp__law_next (dCons (dVar 1) (dCons (dC (.int 256)) dNil))) [6])) (dName 5))
  dNext)
  (dSeq (dAsg (dOp (dPure2 dAdd) (dOp dAddM (dVar 5) (dVar 4)) (dVar 7)) (dName 8))
  (dSeq (dAsg (dB dListC (dCons (dVar 8) dNil)) (dName 9))
  (dSeq (dAsg (dCall sp__law_try (dCons (dVar 8) (dCons (dB dLen (dCons (dVar 5) dNil)) dNil))) (dName 10))
  (dSeq (dDrop (dApp (dVar 4) (dC (.int 7))))
  (dSeq (dIfS (dOrT (dTest (dOp (dNeR) (dVar 8) (dVar 9))) (dNotT (dTruth (dCall sp__law_same_octets (dCons (dCall sp_write_number (dCons (dVar 2) dNil)) (dCons (dSl (dVar 9) (dPart (dB dLen (dCons (dVar 5) dNil))) (dPart (dOp (dPure2 dSub) (dB dLen (dCons (dVar 9) dNil)) (dB dLen (dCons (dVar 7) dNil))))) dNil))))))
  (dRet (dC (.bl false)))
  dNext)
  (dSeq (dDrop (dPop (dVar 4)))
  (dSeq (dIfS (dTest (dOp (dPure2 dGt) (dB dLen (dCons (dVar 4) dNil)) (dC (.int 8))))
  (dRet (dCall (sp__law_same 8) (dCons (dVar 10) (dCons (dTup (dCons (dC (.str (Str.ofString "bad"))) (dCons (dB dLen (dCons (dVar 5) dNil)) (dCons (dC (.str (Str.ofString "form"))) dNil)))) dNil))))
  dNext)
  (dRet (dCall (sp__law_same 8) (dCons (dVar 10) (dCons (dTup (dCons (dC (.str (Str.ofString "value"))) (dCons (dVar 2) (dCons (dOp (dPure2 dAdd) (dB dLen (dCons (dVar 5) dNil)) (dB dLen (dCons (dVar 4) dNil))) dNil)))) dNil)))))))))))))))))))))
def sq_law : DSp := spOf 1 10 rd_law

theorem getD_mid (pre : List Int) (d : Int) (rest : List Int) : (pre ++ d :: rest).getD pre.length 0 = d := by
  rw [List.getD_eq_getElem?_getD, List.getElem?_append_right (Nat.le_refl _), Nat.sub_self]; rfl
theorem rdN_wr (post : List Int) : ∀ (m k : Nat) (r num w : Int) (a : Nat) (pre : List Int), m ≤ 8 → pre.length = a + (8 - m) → 0 ≤ r → r < 128 ^ k → (0 < r ∨ m = 8) →
    rdN (pre ++ wrF k r ++ post) a m num w = if (wrF k r).length ≤ m then .val (num + w * r) ((a + (8 - m) + (wrF k r).length : Nat) : Int) else .bad a "form" := by
  intro m
  induction m with
  | zero =>
    intro k r num w a pre _ _ _ _ _
    have := (wrF_len k r).1
    rw [if_neg (by omega)]
    rfl
  | succ n ih =>
    intro k r num w a pre hm hp r0 r1 hz
    have hpl : a + (7 - n) = pre.length := by omega
    unfold rdN
    rw [hpl]
    by_cases h : r < 128
    · rw [wrF_lo h, List.append_assoc]
      have e : (pre ++ ([r] ++ post)).getD pre.length 0 = r := getD_mid pre r post
      rw [e, if_neg (by rw [List.length_append]; show ¬ pre.length + (post.length + 1) ≤ _; omega), if_pos h, if_neg (by omega), if_pos (show ([r] : List Int).length ≤ n + 1 by show 1 ≤ n + 1; omega)]
      have : pre.length + 1 = a + (8 - (n + 1)) + ([r] : List Int).length := by show _ = _ + 1; omega
      rw [this]
    · cases k with
      | zero => rw [Int.pow_zero] at r1; omega
      | succ k =>
        rw [pow_step] at r1
        rw [wrF_hi h, List.append_assoc]
        have e : (pre ++ ((r % 128 + 128) :: wrF k (r / 128) ++ post)).getD pre.length 0 = r % 128 + 128 := getD_mid pre _ _
        rw [e, if_neg (by rw [List.length_append, List.cons_append, List.length_cons]; omega), if_neg (by omega)]
        have := ih k (r / 128) (num + w * (r % 128 + 128 - 128)) (w * 128) a (pre ++ [r % 128 + 128]) (by omega) (by rw [List.length_append, List.length_singleton]; omega) (by omega) (by generalize (128 : Int) ^ k = z at r1; omega) (.inl (by omega))
        rw [List.append_assoc, List.append_assoc] at this
        rw [List.cons_append]
        refine this.trans ?_
        rw [List.length_cons]
        have q1 : w * 128 * (r / 128) = w * (128 * (r / 128)) := Int.mul_assoc _ _ _
        have q2 : num + w * (r % 128 + 128 - 128) + w * 128 * (r / 128) = num + w * r := by
          rw [q1, Int.add_assoc, ← Int.mul_add, show r % 128 + 128 - 128 + 128 * (r / 128) = r by omega]
        rw [q2]
        by_cases c : (wrF k (r / 128)).length ≤ n
        · rw [if_pos c, if_pos (by omega), show a + (8 - n) + (wrF k (r / 128)).length = a + (8 - (n + 1)) + ((wrF k (r / 128)).length + 1) by omega]
        · rw [if_neg c, if_neg (by omega)]
theorem oct_list {S : Gp → Prop} {g : DTG} {te : DTE} {δ : DS} {Q : List D → Gp → Prop} (n : Nat) (hn : n ≤ 1000) {G : Gp} (hS : S G)
    (hs : ∀ (j : Nat) (K : D → Gp → Prop), (∀ i : Int, 0 ≤ i → i < 256 → K (.int i) G) → g (.int (0 + (j : Nat))) δ G fun δ1 G1 => te δ1 G1 K)
    (q : ∀ os : List Int, os.length = n → Oct os → Q (os.map .int) G) : dComp S g dYes te δ Q (rangeD 0 n) [] G := by
  refine comp_rng n 0 (fun j acc G2 => G2 = G ∧ ∃ os, acc = os.map D.int ∧ os.length = j ∧ Oct os) ?_ ?_ _ ⟨rfl, [], rfl, rfl, fun _ h => by cases h⟩
  · rintro j acc G2 K hj ⟨rfl, os, rfl, hl, ho⟩ hK
    refine ⟨hS, ?_⟩
    have := hs j (fun y G3 => (os.map D.int).length < sizeLine ∧ K (os.map .int ++ [y]) G3) fun i i0 i1 => ⟨by rw [List.length_map, szL]; omega, hK _ _ ⟨rfl, os ++ [i], by rw [List.map_append]; rfl, by rw [List.length_append, List.length_singleton, hl], fun x hx => ?_⟩⟩
    · exact this
    · rcases List.mem_append.mp hx with hx | hx
      · exact ho x hx
      · rw [List.mem_singleton] at hx; omega
  · rintro acc G2 ⟨rfl, os, rfl, hl, ho⟩
    exact ⟨hS, q os hl ho⟩
theorem abs_law (ns : List Int) (G : Gp) (Q : D → Gp → Prop) (E : DXK) (_ : ns.length ≤ 63) (hG : ∀ a, G a = none) (hq : ∀ G', Q (.bl true) G') : sq_law [.rl (ns.map D.int)] G Q E := by
  have qt : ∀ G', rtOf Q (.bl true) G' := fun G' => rt_same (hq G')
  unfold sq_law rd_law
  rw [spOf_e]
  refine ⟨rfl, ?_⟩
  refine seq_step fun nx hnx => ?_
  try simp!
  refine ⟨ns, 0, rfl, fun c => ⟨c, rfl, fun d G1 s1 hd n1 => hnx _ _ ?_⟩⟩
  refine seq_step fun nx hnx => ?_
  try simp!
  refine ⟨ns, 1, rfl, fun c2 => ?_⟩
  try simp!
  generalize hz : (if c2 < 0 then -c2 else c2) % 100000000000000000000 = z
  have z0 : 0 ≤ z := by omega
  have z1 : z < 128 ^ 20 := by omega
  refine hnx _ _ ?_
  refine seq_step fun nx hnx => ?_
  try simp!
  refine ⟨d, 3, rfl, hd, by decide, fun m m0 m1 => hnx _ _ ?_⟩
  refine seq_join (fun δ G' => G1 = G' ∧ ∃ z : Int, 0 ≤ z ∧ z < 128 ^ 20 ∧ δ = [some (.rl (ns.map .int)), some (.ref d), some (.int z), some (.int m), none, none, none, none, none, none, none]) (fun nx hnx => ?_) ?_
  · try simp!
    refine dCond2 (fun _ => ?_) (fun _ => ?_)
    · try simp!
      exact hnx _ _ ⟨rfl, _, by omega, by omega, rfl⟩
    · exact hnx _ _ ⟨rfl, z, z0, z1, rfl⟩
  clear z0 z1 hz
  rintro δ G' ⟨rfl, z, z0, z1, rfl⟩
  refine seq_join (fun δ G' => G1 = G' ∧ ∃ z : Int, 0 ≤ z ∧ z < 128 ^ 20 ∧ δ = [some (.rl (ns.map .int)), some (.ref d), some (.int z), some (.int m), none, none, none, none, none, none, none]) (fun nx hnx => ?_) ?_
  · try simp!
    refine dCond2 (fun _ => ?_) (fun _ => hnx _ _ ⟨rfl, z, z0, z1, rfl⟩)
    try simp!
    refine ⟨d, 6, rfl, hd, by decide, fun i i0 i1 => ?_⟩
    have this : i = 0 ∨ i = 1 ∨ i = 2 ∨ i = 3 ∨ i = 4 ∨ i = 5 := by omega
    have menu : ∃ o : Int, ixD (.lv [D.int 128, D.int 16384, D.int 268435456, D.int 562949953421312, D.int 72057594037927936, D.int 1000000000000000]) (.int i) G1 = some (.int o) ∧ 128 ≤ o ∧ o ≤ 72057594037927936 := by
      rcases this with rfl | rfl | rfl | rfl | rfl | rfl <;> exact ⟨_, rfl, by omega, by omega⟩
    obtain ⟨o, eo, o0, o1⟩ := menu
    dsimp only
    rw [eo]
    try simp!
    refine ⟨d, 3, rfl, hd, by decide, fun k k0 k1 => ?_⟩
    try simp!
    exact hnx _ _ ⟨rfl, _, by omega, by omega, rfl⟩
  clear z0 z1
  rintro δ G' ⟨rfl, z, z0, z1, rfl⟩
  refine seq_step fun nx hnx => ?_
  try simp!
  refine ⟨z, rfl, z0, z1, fun p G2 s2 np hp => hnx _ _ ?_⟩
  have hd2 := hd.mono s2
  have npd : p ≠ d := fun e => by subst e; obtain ⟨r, h1, _⟩ := hd; rw [np] at h1; cases h1
  obtain ⟨l1, l2⟩ := wrF_len 20 z
  refine seq_step fun nx hnx => ?_
  try simp!
  refine ⟨z, rfl, z0, z1, ?_⟩
  refine ⟨_, _, rfl, by omega, .inr ⟨p, rfl, hp⟩, ?_⟩
  try simp!
  refine hnx _ _ ?_
  refine seq_step fun nx hnx => ?_
  try simp!
  refine ⟨d, 5, rfl, hd2, by decide, fun i i0 i1 => ?_⟩
  try simp!
  refine ⟨by omega, by omega, ?_⟩
  refine oct_list _ (by omega) trivial (fun j K hK => ?_) fun ah la oa => ?_
  · try simp!
    exact ⟨d, 256, rfl, hd2, by decide, hK⟩
  refine hnx _ _ ?_
  refine seq_step fun nx hnx => ?_
  try simp!
  refine ⟨d, 5, rfl, hd2, by decide, fun i2 i20 i21 => ?_⟩
  try simp!
  refine ⟨by omega, by omega, ?_⟩
  refine oct_list _ (by omega) trivial (fun j K hK => ?_) fun be lb ob => ?_
  · try simp!
    exact ⟨d, 256, rfl, hd2, by decide, hK⟩
  refine hnx _ _ ?_
  refine seq_join (fun δ G' => G2 = G' ∧ ∃ ah : List Int, ah.length ≤ 50 ∧ Oct ah ∧ δ = [some (.rl (ns.map .int)), some (.ref d), some (.int z), some (.int m), some (.ref p), some (.lv (ah.map .int)), none, some (.lv (be.map .int)), none, none, none]) (fun nx hnx => ?_) ?_
  · try simp!
    refine ⟨d, 4, rfl, hd2, by decide, fun i3 i30 i31 => ?_⟩
    try simp!
    refine dCond2 (fun _ => ?_) (fun _ => hnx _ _ ⟨rfl, ah, by omega, oa, rfl⟩)
    try simp!
    refine ⟨d, 40, rfl, hd2, by decide, fun i4 i40 i41 => ?_⟩
    try simp!
    refine ⟨by omega, by omega, ?_⟩
    refine oct_list _ (by omega) trivial (fun j K hK => ?_) fun mo lm om => ?_
    · try simp!
      exact ⟨d, 256, rfl, hd2, by decide, hK⟩
    try simp!
    rw [if_pos (show ah.length + mo.length ≤ 16777216 by omega)]
    try simp!
    exact hnx _ _ ⟨rfl, ah ++ mo, by rw [List.length_append]; omega, fun x hx => (List.mem_append.mp hx).elim (oa x) (om x), by rw [List.map_append]⟩
  clear oa la
  rintro δ G' ⟨rfl, ah, la, oa, rfl⟩
  have ow := wrF_oct 20 z z0 z1
  have key := fun h => rdN_wr be 8 20 z 0 1 ah.length ah (by decide) (by omega) z0 z1 h
  replace key := key (.inr rfl)
  generalize hw : wrF 20 z = wr at hp l1 l2 ow key
  refine seq_step fun nx hnx => ?_
  try simp!
  rw [hp]
  simp! only [lstOf]
  refine ⟨by omega, ?_⟩
  rw [← List.map_append, if_pos (by rw [List.length_map, List.length_append]; omega), ← List.map_append]
  try simp!
  refine hnx _ _ ?_
  have los : (ah ++ wr ++ be).length = ah.length + wr.length + be.length := by rw [List.length_append, List.length_append]
  have oos : Oct (ah ++ wr ++ be) := fun x hx => by
    rcases List.mem_append.mp hx with hx | hx
    · exact (List.mem_append.mp hx).elim (oa x) (ow x)
    · exact ob x hx
  have cut : cutD ((ah ++ wr ++ be).map D.int) (some (ah.length : Nat)) (some (((ah ++ wr ++ be).length : Nat) - (be.length : Nat))) = wr.map D.int := by
    rw [cut_map]
    have la1 : ah.length ≤ (ah ++ wr ++ be).length := by omega
    have e1 : HT.sIx (ah ++ wr ++ be).length 0 (some (ah.length : Nat)) = ah.length := by
      unfold HT.sIx
      dsimp only
      rw [if_neg (by omega), Int.toNat_natCast]
      omega
    have e2 : HT.sIx (ah ++ wr ++ be).length (ah ++ wr ++ be).length (some (((ah ++ wr ++ be).length : Nat) - (be.length : Nat))) = ah.length + wr.length := by
      unfold HT.sIx
      dsimp only
      rw [if_neg (by omega)]
      omega
    unfold cutD
    rw [e1, e2, List.append_assoc, List.drop_left' rfl, show ah.length + wr.length - ah.length = wr.length by omega, List.take_left' rfl]
  generalize ah ++ wr ++ be = os at key los oos cut
  refine seq_step fun nx hnx => ?_
  try simp!
  refine hnx _ _ ?_
  refine seq_step fun nx hnx => ?_
  try simp!
  refine ⟨os, ah.length, rfl, by omega, by omega, oos, ?_⟩
  rw [key]
  refine hnx _ _ ?_
  refine seq_step fun nx hnx => ?_
  try simp!
  rw [hp]
  simp! only [lstOf]
  refine ⟨by omega, hnx _ _ ?_⟩
  refine seq_step fun nx hnx => ?_
  try simp!
  refine ⟨by rw [dep_ints, pl_ints]; rfl, ?_⟩
  rw [eqL_self os]
  try simp!
  generalize hG3 : updG G2 p (.lst (wr.map .int ++ [.int 7])) = G3
  have hp3 : G3 p = some (.lst (wr.map .int ++ [.int 7])) := by rw [← hG3, updG_same]
  refine ⟨z, rfl, z0, z1, fun p2 G4 s4 np2 hp2 => ?_⟩
  rw [hw] at hp2
  refine ⟨_, wr, by rw [cut], by omega, .inr ⟨p2, rfl, hp2⟩, ?_⟩
  try simp!
  refine hnx _ _ ?_
  have hp4 : G4 p = some (.lst (wr.map .int ++ [.int 7])) := s4 _ _ hp3
  refine seq_step fun nx hnx => ?_
  try simp!
  rw [hp4]
  simp! only [lstOf]
  have g7 : (wr.map D.int ++ [D.int 7])[(wr.map D.int ++ [D.int 7]).length - 1]? = some (.int 7) := by
    rw [List.length_append, List.length_singleton, Nat.add_sub_cancel, List.getElem?_append_right (Nat.le_refl _), Nat.sub_self]
    rfl
  rw [g7, List.dropLast_concat]
  try simp!
  refine hnx _ _ ?_
  generalize hG5 : updG G4 p (.lst (wr.map .int)) = G5
  have hp5 : G5 p = some (.lst (wr.map .int)) := by rw [← hG5, updG_same]
  obtain ⟨okp, okd, okw⟩ := numT_ok os ah.length
  rw [key] at okp okd okw
  refine seq_step fun nx hnx => ?_
  try simp!
  rw [hp5]
  simp! only [lstOf]
  refine dCond2 (fun c => ?_) (fun c => ?_)
  · have c := of_decide_eq_true c
    have cn : ¬ wr.length ≤ 8 := by omega
    rw [if_neg cn] at okp okd okw
    rw [if_neg cn]
    exact ⟨_, _, rfl, okp, okp, Nat.le_trans okd (by decide), okw, fun _ => qt _, fun z => absurd rfl z⟩
  · have c := of_decide_eq_false c
    have cn : wr.length ≤ 8 := by omega
    rw [if_pos cn] at okp okd okw
    rw [if_pos cn]
    refine hnx _ _ ?_
    try simp!
    rw [hp5]
    simp! only [lstOf]
    have eq : numT (.val (0 + 1 * z) ((ah.length + 0 + wr.length : Nat) : Int)) = .tup [.str (Str.ofString "value"), .int z, .int ((ah.length : Int) + wr.length)] := by
      show D.tup [.str (Str.ofString "value"), .int (0 + 1 * z), .int ((ah.length + 0 + wr.length : Nat) : Int)] = _
      rw [Int.zero_add, Int.one_mul, Nat.add_zero, Int.natCast_add]
    rw [eq] at okp okd okw ⊢
    exact ⟨_, _, rfl, okp, okp, Nat.le_trans okd (by decide), okw, fun _ => qt _, fun z => absurd rfl z⟩
def topS (i : Nat) : Stmt := PySem.Challenge.pw_schemabridge_k08_natural_numbers.main.body.getD i (.Pass ⟨0, 0, 0, 0⟩)
abbrev s_write_number : Stmt := topS 6
theorem sc_write_number : FnScope ["number", "octets", "rest"] ["number"] (defScope s_write_number) := ⟨rfl, rfl, rfl, by decide +kernel, rfl, by decide +kernel, by decide +kernel⟩
abbrev s_read_number : Stmt := topS 7
theorem sc_read_number : FnScope ["octets", "at", "number", "weight", "place", "octet"] ["octets", "at"] (defScope s_read_number) := ⟨rfl, rfl, rfl, by decide +kernel, rfl, by decide +kernel, by decide +kernel⟩
abbrev s__law_cell : Stmt := topS 9
theorem sc__law_cell : FnScope ["script", "k"] ["script", "k"] (defScope s__law_cell) := ⟨rfl, rfl, rfl, by decide +kernel, rfl, by decide +kernel, by decide +kernel⟩
abbrev s__law_draws : Stmt := topS 10
theorem sc__law_draws : FnScope ["cell", "row", "rest", "mixed", "is_great", "k"] ["cell"] (defScope s__law_draws) := ⟨rfl, rfl, rfl, by decide +kernel, rfl, by decide +kernel, by decide +kernel⟩
abbrev s__law_next : Stmt := topS 11
theorem sc__law_next : FnScope ["draws", "many", "at", "row"] ["draws", "many"] (defScope s__law_next) := ⟨rfl, rfl, rfl, by decide +kernel, rfl, by decide +kernel, by decide +kernel⟩
abbrev s__law_write_number : Stmt := topS 12
theorem sc__law_write_number : FnScope ["number", "octets", "rest", "k"] ["number"] (defScope s__law_write_number) := ⟨rfl, rfl, rfl, by decide +kernel, rfl, by decide +kernel, by decide +kernel⟩
abbrev s__law_same : Stmt := topS 13
theorem sc__law_same : FnScope ["actual", "expected", "k"] ["actual", "expected"] (defScope s__law_same) := ⟨rfl, rfl, rfl, by decide +kernel, rfl, by decide +kernel, by decide +kernel⟩
abbrev s__law_same_octets : Stmt := topS 14
theorem sc__law_same_octets : FnScope ["actual", "expected", "k"] ["actual", "expected"] (defScope s__law_same_octets) := ⟨rfl, rfl, rfl, by decide +kernel, rfl, by decide +kernel, by decide +kernel⟩
abbrev s__law_try : Stmt := topS 15
theorem sc__law_try : FnScope ["octets", "at", "found", "e"] ["octets", "at"] (defScope s__law_try) := ⟨rfl, rfl, rfl, by decide +kernel, rfl, by decide +kernel, by decide +kernel⟩
abbrev s_law : Stmt := topS 16
theorem sc_law : FnScope ["script", "draws", "number", "pick", "octets", "ahead", "k", "behind", "passed", "kept", "found"] ["script"] (defScope s_law) := ⟨rfl, rfl, rfl, by decide +kernel, rfl, by decide +kernel, by decide +kernel⟩
section
variable {P : Program} {w : World} {K : PySem.W.Frag} {mg : Str → Option Value} {base : Heap}
theorem ok_write_number {f : Addr} {fd : FuncData} (Fn : Fun K "write_number" "write_number" s_write_number f fd) (m_BASE : ∃ t, mg "BASE" = some (.int 128 t)) : FnOk P w K mg base CX0 1 f fd ["number"] (upSp K sq_write_number) := by
  refine fn_ok (t := rd_write_number) (m := 1) (n := 2) (k := 0) Fn sc_write_number rfl rfl fun cdv A outer s H E hr => ?_
  have hu := hu190 hr
  have nd := sc_write_number.nd
  unfold rd_write_number
  exact (qss_cons (qs_set (i := 1) nd (q_ref qa_nil))
    (qss_cons (qs_set (i := 2) nd (qv 0))
    (qss_cons (qs_while PassesOwn.never (q_tcmp op_geU lift_ord (qv 2) (q_gi (by rfl) m_BASE) (nomark _))
    (qss_cons (qs_expr (q_app (qv 1) (q_add (q_mod (qv 2) (q_gi (by rfl) m_BASE)) (q_gi (by rfl) m_BASE))))
    (qss_one (qs_set (i := 2) nd (q_div (qv 2) (q_gi (by rfl) m_BASE))))))
    (qss_cons (qs_expr (q_app (qv 1) (qv 2)))
    (qss_one (qs_ret (qv 1)))))))
theorem ok_read_number {f : Addr} {fd : FuncData} {C fI cc cda : Addr} (T_bad : BadAt P K C fI cc cda) (g_bad : mg "BadOctets" = some (.ref C)) (Fn : Fun K "read_number" "read_number" s_read_number f fd) (b_range : mg "range" = none) (b_len : mg "len" = none) (m_MOST_OCTETS : ∃ t, mg "MOST_OCTETS" = some (.int 8 t)) (m_BASE : ∃ t, mg "BASE" = some (.int 128 t)) : FnOk P w K mg base (L2.CX P w) 3 f fd ["octets", "at"] (upSpX K sq_read_number) := by
  refine fn_okX (t := rd_read_number) (m := 2) (n := 4) (k := 2) Fn sc_read_number rfl rfl fun cdv A outer s H E hr => ?_
  have hu := hu190 hr
  have nd := sc_read_number.nd
  have tk := takes_of (X := cxOf (L2.CX P w) P w K mg base ["octets", "at", "number", "weight", "place", "octet"] "read_number" (defScope s_read_number) f cdv A outer s H E) rfl rfl rfl rfl
  have hp := passes_of (X := cxOf (L2.CX P w) P w K mg base ["octets", "at", "number", "weight", "place", "octet"] "read_number" (defScope s_read_number) f cdv A outer s H E) rfl
  unfold rd_read_number
  exact (xss_cons (xs_lift (qs_set (i := 2) nd q_int))
    (xss_cons (xs_lift (qs_set (i := 3) nd q_int))
    (xss_cons (xs_for hp rfl (qi_range2 (by rfl) b_range (qa_cons (qv 1) (qa_cons (q_add (qv 1) (q_gi (by rfl) m_MOST_OCTETS)) qa_nil))) (qg_name nd (fun _ _ => trivial))
    (xss_cons (xs_if (q_tcmp (op_eqU hu) lift_eq (qv 4) (q_callB call_len lift_len (by rfl) b_len boot_len (qa_cons (qv 0) qa_nil)) (nomark _))
    (xss_one (xs_bad T_bad g_bad rfl tk hr (qa_cons (qv 4) (qa_cons q_str qa_nil))))
    (xss_lift qss_nil))
    (xss_cons (xs_lift (qs_set (i := 5) nd (q_ix (qv 0) (qv 4))))
    (xss_cons (xs_if (q_tcmp op_ltU lift_ord (qv 5) (q_gi (by rfl) m_BASE) (nomark _))
    (xss_cons (xs_if (QW.pt (qw_and (q_tcmp (op_eqU hu) lift_eq (qv 5) q_int (nomark _)) (qw_and1 (q_tcmp op_gtU lift_ord (qv 4) (qv 1) (nomark _)))))
    (xss_one (xs_bad T_bad g_bad rfl tk hr (qa_cons (qv 1) (qa_cons q_str qa_nil))))
    (xss_lift qss_nil))
    (xss_one (xs_lift (qs_ret (q_tup (qa_cons (q_add (qv 2) (q_mul (qv 5) (qv 3))) (qa_cons (q_add (qv 4) q_int) qa_nil)))))))
    (xss_lift qss_nil))
    (xss_cons (xs_lift (qs_aadd (i := 2) nd (q_mul (q_sub (qv 5) (q_gi (by rfl) m_BASE)) (qv 3))))
    (xss_one (xs_lift (qs_set (i := 3) nd (q_mul (qv 3) (q_gi (by rfl) m_BASE))))))))))
    (xss_one (xs_bad T_bad g_bad rfl tk hr (qa_cons (qv 1) (qa_cons q_str qa_nil)))))))
theorem ok__law_cell {f : Addr} {fd : FuncData} (Fn : Fun K "_law_cell" "_law_cell" s__law_cell f fd) (b_len : mg "len" = none) : FnOk P w K mg base CX0 1 f fd ["script", "k"] (upSp K sq__law_cell) := by
  refine fn_ok (t := rd__law_cell) (m := 2) (n := 0) (k := 0) Fn sc__law_cell rfl rfl fun cdv A outer s H E hr => ?_
  have hu := hu190 hr
  have nd := sc__law_cell.nd
  unfold rd__law_cell
  exact (qss_cons (qs_if (q_tcmp op_ltU lift_ord (qv 1) (q_callB call_len lift_len (by rfl) b_len boot_len (qa_cons (qv 0) qa_nil)) (nomark _))
    (qss_one (qs_ret (q_ix (qv 0) (qv 1))))
    qss_nil)
    (qss_one (qs_ret q_int)))
theorem ok__law_draws {f : Addr} {fd : FuncData} (Fn : Fun K "_law_draws" "_law_draws" s__law_draws f fd) (b_abs : mg "abs" = none) (b_int : mg "int" = none) (b_range : mg "range" = none) : FnOk P w K mg base CX0 1 f fd ["cell"] (upSp K sq__law_draws) := by
  refine fn_ok (t := rd__law_draws) (m := 1) (n := 5) (k := 0) Fn sc__law_draws rfl rfl fun cdv A outer s H E hr => ?_
  have hu := hu190 hr
  have nd := sc__law_draws.nd
  unfold rd__law_draws
  exact (qss_cons (qs_set (i := 1) nd (q_ref qa_nil))
    (qss_cons (qs_set (i := 2) nd (q_callB call_abs lift_abs (by rfl) b_abs boot_abs (qa_cons (qv 0) qa_nil)))
    (qss_cons (qs_set (i := 3) nd (q_mod (q_callTy call_int1 lift_intC (by rfl) b_int PyProof.Rows.boot_int (qa_cons (qv 2) qa_nil)) q_int))
    (qss_cons (qs_set (i := 4) nd (q_ge (qv 2) (q_pow q_int q_int)))
    (qss_cons (qs_for PassesOwn.never rfl (qi_range1 (by rfl) b_range (qa_cons q_int qa_nil)) (qg_name nd (fun _ _ => trivial))
    (qss_one (qs_if (QW.pt (qw_and (q_truth (qv 4)) (qw_and1 (q_tcmp op_gtU lift_ord (qv 2) q_int (nomark _)))))
    (qss_cons (qs_expr (q_app (qv 1) (q_mod (q_callTy call_int1 lift_intC (by rfl) b_int PyProof.Rows.boot_int (qa_cons (qv 2) qa_nil)) q_int)))
    (qss_one (qs_set (i := 2) nd (q_div (qv 2) q_int))))
    (qss_cons (qs_set (i := 3) nd (q_mod (q_callTy call_int1 lift_intC (by rfl) b_int PyProof.Rows.boot_int (qa_cons (q_add (q_mul (qv 3) q_int) q_int) qa_nil)) q_int))
    (qss_one (qs_expr (q_app (qv 1) (q_div (qv 3) q_int))))))))
    (qss_one (qs_ret (q_ref (qa_cons q_int (qa_cons (qv 1) qa_nil))))))))))
theorem ok__law_next {f : Addr} {fd : FuncData} (Fn : Fun K "_law_next" "_law_next" s__law_next f fd) (b_len : mg "len" = none) (b_int : mg "int" = none) : FnOk P w K mg base CX0 1 f fd ["draws", "many"] (upSp K sq__law_next) := by
  refine fn_ok (t := rd__law_next) (m := 2) (n := 2) (k := 0) Fn sc__law_next rfl rfl fun cdv A outer s H E hr => ?_
  have hu := hu190 hr
  have nd := sc__law_next.nd
  unfold rd__law_next
  exact (qss_cons (qs_set (i := 2) nd (q_ix (qv 0) q_int))
    (qss_cons (qs_asg (q_add (qv 2) q_int) (qg_subL (qv 0) q_int))
    (qss_cons (qs_set (i := 3) nd (q_ix (qv 0) q_int))
    (qss_cons (qs_if (q_tcmp op_geU lift_ord (qv 2) (q_callB call_len lift_len (by rfl) b_len boot_len (qa_cons (qv 3) qa_nil)) (nomark _))
    (qss_one (qs_ret q_int))
    qss_nil)
    (qss_one (qs_ret (q_mod (q_callTy call_int1 lift_intC (by rfl) b_int PyProof.Rows.boot_int (qa_cons (q_ix (qv 3) (qv 2)) qa_nil)) (qv 1))))))))
theorem ok__law_write_number {f : Addr} {fd : FuncData} (Fn : Fun K "_law_write_number" "_law_write_number" s__law_write_number f fd) (b_range : mg "range" = none) (b_int : mg "int" = none) : FnOk P w K mg base CX0 1 f fd ["number"] (upSp K sq__law_write_number) := by
  refine fn_ok (t := rd__law_write_number) (m := 1) (n := 3) (k := 0) Fn sc__law_write_number rfl rfl fun cdv A outer s H E hr => ?_
  have hu := hu190 hr
  have nd := sc__law_write_number.nd
  unfold rd__law_write_number
  exact (qss_cons (qs_set (i := 1) nd (q_ref qa_nil))
    (qss_cons (qs_set (i := 2) nd (qv 0))
    (qss_cons (qs_for PassesOwn.never rfl (qi_range1 (by rfl) b_range (qa_cons q_int qa_nil)) (qg_name nd (fun _ _ => trivial))
    (qss_cons (qs_if (q_tcmp op_ltU lift_ord (qv 2) q_int (nomark _))
    (qss_one qs_brk)
    qss_nil)
    (qss_cons (qs_expr (q_app (qv 1) (q_add q_int (q_mod (q_callTy call_int1 lift_intC (by rfl) b_int PyProof.Rows.boot_int (qa_cons (qv 2) qa_nil)) q_int))))
    (qss_one (qs_set (i := 2) nd (q_div (qv 2) q_int))))))
    (qss_cons (qs_expr (q_app (qv 1) (qv 2)))
    (qss_one (qs_ret (qv 1)))))))
theorem ok__law_same (n : Nat) {f : Addr} {fd : FuncData} (Fn : Fun K "_law_same" "_law_same" s__law_same f fd) (c__law_same : Cal P w K mg base (1 + n) "_law_same" ["actual", "expected"] (sp__law_same n)) (b_isinstance : mg "isinstance" = none) (b_tuple : mg "tuple" = none) (b_len : mg "len" = none) (b_range : mg "range" = none) (b_bool : mg "bool" = none) (b_int : mg "int" = none) (b_str : mg "str" = none) : FnOk P w K mg base CX0 (1 + n + 1) f fd ["actual", "expected"] (upSp K (sq__law_same (sp__law_same n))) := by
  refine fn_ok (t := rd__law_same (sp__law_same n)) (m := 2) (n := 1) (k := 1 + n) Fn sc__law_same rfl rfl fun cdv A outer s H E hr => ?_
  have hu := hu190 hr
  have nd := sc__law_same.nd
  unfold rd__law_same
  exact (qss_cons (qs_if (q_tisN (qv 1))
    (qss_one (qs_ret (q_isN (qv 0))))
    qss_nil)
    (qss_cons (qs_if (q_truth (q_isi (T := "tuple") (by decide) (by rfl) b_isinstance (by rfl) b_tuple PyProof.Rows.boot_tuple (qv 1)))
    (qss_cons (qs_if (QW.pt (qw_or (qt_not (q_truth (q_isi (T := "tuple") (by decide) (by rfl) b_isinstance (by rfl) b_tuple PyProof.Rows.boot_tuple (qv 0)))) (qw_or1 (q_tcmp (op_neU hu) lift_ne (q_callB call_len lift_len (by rfl) b_len boot_len (qa_cons (qv 0) qa_nil)) (q_callB call_len lift_len (by rfl) b_len boot_len (qa_cons (qv 1) qa_nil)) (nomark _)))))
    (qss_one (qs_ret q_bl))
    qss_nil)
    (qss_cons (qs_for PassesOwn.never rfl (qi_range1 (by rfl) b_range (qa_cons (q_callB call_len lift_len (by rfl) b_len boot_len (qa_cons (qv 1) qa_nil)) qa_nil)) (qg_name nd (fun _ _ => trivial))
    (qss_one (qs_if (qt_not (q_truth (q_c c__law_same hr (by omega) (by rfl) (qa_cons (q_ix (qv 0) (qv 2)) (qa_cons (q_ix (qv 1) (qv 2)) qa_nil)))))
    (qss_one (qs_ret q_bl))
    qss_nil)))
    (qss_one (qs_ret q_bl))))
    qss_nil)
    (qss_cons (qs_if (q_truth (q_isi (T := "bool") (by decide) (by rfl) b_isinstance (by rfl) b_bool PyProof.Rows.boot_bool (qv 1)))
    (qss_one (qs_ret (q_and (q_isi (T := "bool") (by decide) (by rfl) b_isinstance (by rfl) b_bool PyProof.Rows.boot_bool (qv 0)) (q_one (q_eq hu (qv 0) (qv 1))))))
    qss_nil)
    (qss_cons (qs_if (q_truth (q_isi (T := "int") (by decide) (by rfl) b_isinstance (by rfl) b_int PyProof.Rows.boot_int (qv 1)))
    (qss_one (qs_ret (q_and (q_isi (T := "int") (by decide) (by rfl) b_isinstance (by rfl) b_int PyProof.Rows.boot_int (qv 0)) (q_and (q_not (q_isi (T := "bool") (by decide) (by rfl) b_isinstance (by rfl) b_bool PyProof.Rows.boot_bool (qv 0))) (q_one (q_eq hu (qv 0) (qv 1)))))))
    qss_nil)
    (qss_one (qs_ret (q_and (q_isi (T := "str") (by decide) (by rfl) b_isinstance (by rfl) b_str PyProof.Rows.boot_str (qv 0)) (q_one (q_eq hu (qv 0) (qv 1))))))))))
theorem ok__law_same_octets {f : Addr} {fd : FuncData} (Fn : Fun K "_law_same_octets" "_law_same_octets" s__law_same_octets f fd) (b_len : mg "len" = none) (b_isinstance : mg "isinstance" = none) (b_list : mg "list" = none) (b_range : mg "range" = none) (b_bool : mg "bool" = none) (b_int : mg "int" = none) : FnOk P w K mg base CX0 1 f fd ["actual", "expected"] (upSp K sq__law_same_octets) := by
  refine fn_ok (t := rd__law_same_octets) (m := 2) (n := 1) (k := 0) Fn sc__law_same_octets rfl rfl fun cdv A outer s H E hr => ?_
  have hu := hu190 hr
  have nd := sc__law_same_octets.nd
  unfold rd__law_same_octets
  exact (qss_cons (qs_if (QW.pt (qw_or (qt_not (q_truth (q_isi (T := "list") (by decide) (by rfl) b_isinstance (by rfl) b_list PyProof.Rows.boot_list (qv 0)))) (qw_or1 (q_tcmp (op_neU hu) lift_ne (q_callB call_len lift_len (by rfl) b_len boot_len (qa_cons (qv 0) qa_nil)) (q_callB call_len lift_len (by rfl) b_len boot_len (qa_cons (qv 1) qa_nil)) (nomark _)))))
    (qss_one (qs_ret q_bl))
    qss_nil)
    (qss_cons (qs_for PassesOwn.never rfl (qi_range1 (by rfl) b_range (qa_cons (q_callB call_len lift_len (by rfl) b_len boot_len (qa_cons (qv 1) qa_nil)) qa_nil)) (qg_name nd (fun _ _ => trivial))
    (qss_one (qs_if (QW.pt (qw_or (qt_not (q_truth (q_isi (T := "int") (by decide) (by rfl) b_isinstance (by rfl) b_int PyProof.Rows.boot_int (q_ix (qv 0) (qv 2))))) (qw_or (q_truth (q_isi (T := "bool") (by decide) (by rfl) b_isinstance (by rfl) b_bool PyProof.Rows.boot_bool (q_ix (qv 0) (qv 2)))) (qw_or1 (q_tcmp (op_neU hu) lift_ne (q_ix (qv 0) (qv 2)) (q_ix (qv 1) (qv 2)) (nomark _))))))
    (qss_one (qs_ret q_bl))
    qss_nil)))
    (qss_one (qs_ret q_bl))))
theorem ok__law_try {f : Addr} {fd : FuncData} {C fI cc cda : Addr} (T_bad : BadAt P K C fI cc cda) (g_bad : mg "BadOctets" = some (.ref C)) (Fn : Fun K "_law_try" "_law_try" s__law_try f fd) (c_read_number : CalX P w K mg base 3 "read_number" ["octets", "at"] sp_read_number) (b_len : mg "len" = none) (b_isinstance : mg "isinstance" = none) (b_tuple : mg "tuple" = none) : FnOk P w K mg base CX0 4 f fd ["octets", "at"] (upSp K sq__law_try) := by
  refine fn_ok (t := rd__law_try) (m := 2) (n := 2) (k := 3) Fn sc__law_try rfl rfl fun cdv A outer s H E hr => ?_
  have hu := hu190 hr
  have nd := sc__law_try.nd
  unfold rd__law_try
  exact (qss_one (qs_tryBad (i := 3) T_bad g_bad rfl rfl nd rfl rfl (by rfl) (by decide) (by decide) (fun W pn xe tk hp =>
    (xss_cons (xs_set (i := 2) nd (xe_call c_read_number tk hr (by decide) (by rfl) (qa_cons (qv 0) (qa_cons (qv 1) qa_nil))))
    (xss_cons (xs_lift (qs_if (QW.pt (qw_or (qt_not (q_truth (q_isi (T := "tuple") (by decide) (by rfl) b_isinstance (by rfl) b_tuple PyProof.Rows.boot_tuple (qv 2)))) (qw_or1 (q_tcmp (op_neU hu) lift_ne (q_callB call_len lift_len (by rfl) b_len boot_len (qa_cons (qv 2) qa_nil)) q_int (nomark _)))))
    (qss_one (qs_ret (q_tup (qa_cons q_str (qa_cons q_int (qa_cons q_int qa_nil))))))
    qss_nil))
    (xss_one (xs_lift (qs_ret (q_tup (qa_cons q_str (qa_cons (q_ix (qv 2) q_int) (qa_cons (q_ix (qv 2) q_int) qa_nil))))))))))))
theorem ok_law {f : Addr} {fd : FuncData} (Fn : Fun K "law" "law" s_law f fd) (c__law_draws : Cal P w K mg base 1 "_law_draws" ["cell"] sp__law_draws) (c__law_cell : Cal P w K mg base 1 "_law_cell" ["script", "k"] sp__law_cell) (c__law_next : Cal P w K mg base 1 "_law_next" ["draws", "many"] sp__law_next) (c_write_number : Cal P w K mg base 1 "write_number" ["number"] sp_write_number) (c__law_same_octets : Cal P w K mg base 1 "_law_same_octets" ["actual", "expected"] sp__law_same_octets) (c__law_write_number : Cal P w K mg base 1 "_law_write_number" ["number"] sp__law_write_number) (c__law_try : Cal P w K mg base 4 "_law_try" ["octets", "at"] sp__law_try) (c__law_same : Cal P w K mg base 9 "_law_same" ["actual", "expected"] (sp__law_same 8)) (b_int : mg "int" = none) (b_abs : mg "abs" = none) (b_range : mg "range" = none) (b_list : mg "list" = none) (b_len : mg "len" = none) : FnOk P w K mg base CX0 10 f fd ["script"] (upSp K sq_law) := by
  refine fn_ok (t := rd_law) (m := 1) (n := 10) (k := 9) Fn sc_law rfl rfl fun cdv A outer s H E hr => ?_
  have hu := hu190 hr
  have nd := sc_law.nd
  unfold rd_law
  exact (qss_cons (qs_set (i := 1) nd (q_c c__law_draws hr (by decide) (by rfl) (qa_cons (q_c c__law_cell hr (by decide) (by rfl) (qa_cons (qv 0) (qa_cons q_int qa_nil))) qa_nil)))
    (qss_cons (qs_set (i := 2) nd (q_mod (q_callTy call_int1 lift_intC (by rfl) b_int PyProof.Rows.boot_int (qa_cons (q_callB call_abs lift_abs (by rfl) b_abs boot_abs (qa_cons (q_c c__law_cell hr (by decide) (by rfl) (qa_cons (qv 0) (qa_cons q_int qa_nil))) qa_nil)) qa_nil)) (q_pow q_int q_int)))
    (qss_cons (qs_set (i := 3) nd (q_c c__law_next hr (by decide) (by rfl) (qa_cons (qv 1) (qa_cons q_int qa_nil))))
    (qss_cons (qs_if (q_tcmp (op_eqU hu) lift_eq (qv 3) q_int (nomark _))
    (qss_one (qs_set (i := 2) nd (q_mod (q_callTy call_int1 lift_intC (by rfl) b_int PyProof.Rows.boot_int (qa_cons (qv 2) qa_nil)) q_int)))
    qss_nil)
    (qss_cons (qs_if (q_tcmp (op_eqU hu) lift_eq (qv 3) q_int (nomark _))
    (qss_one (qs_set (i := 2) nd (q_sub (q_add (q_ix (q_lv (qa_cons q_int (qa_cons (q_pow q_int q_int) (qa_cons (q_pow q_int q_int) (qa_cons (q_pow q_int q_int) (qa_cons (q_pow q_int q_int) (qa_cons (q_pow q_int q_int) qa_nil))))))) (q_c c__law_next hr (by decide) (by rfl) (qa_cons (qv 1) (qa_cons q_int qa_nil)))) (q_c c__law_next hr (by decide) (by rfl) (qa_cons (qv 1) (qa_cons q_int qa_nil)))) q_int)))
    qss_nil)
    (qss_cons (qs_set (i := 4) nd (q_c c_write_number hr (by decide) (by rfl) (qa_cons (qv 2) qa_nil)))
    (qss_cons (qs_if (qt_not (q_truth (q_c c__law_same_octets hr (by decide) (by rfl) (qa_cons (qv 4) (qa_cons (q_c c__law_write_number hr (by decide) (by rfl) (qa_cons (qv 2) qa_nil)) qa_nil)))))
    (qss_one (qs_ret q_bl))
    qss_nil)
    (qss_cons (qs_setLc (i := 5) (own := [("k", 6)]) rfl nd rfl rfl rfl rfl (by decide +kernel) (qi_range1 (by rfl) b_range (qa_cons (q_c c__law_next hr (by decide) (by rfl) (qa_cons (qv 1) (qa_cons q_int qa_nil))) qa_nil)) (by show blkC ["script", "draws", "number", "pick", "octets", "ahead", "k", "behind", "passed", "kept", "found"] (defScope s_law) _ _ = true; decide +kernel) (fun _ _ _ _ _ => (qg_name nd (fun _ _ => pw_set (by decide) _ _))) (fun _ _ _ _ _ => qts_nil) (fun _ _ _ _ _ => (q_c c__law_next hr (by decide) (by rfl) (qa_cons (qv 1) (qa_cons q_int qa_nil)))))
    (qss_cons (qs_setLc (i := 7) (own := [("k", 6)]) rfl nd rfl rfl rfl rfl (by decide +kernel) (qi_range1 (by rfl) b_range (qa_cons (q_c c__law_next hr (by decide) (by rfl) (qa_cons (qv 1) (qa_cons q_int qa_nil))) qa_nil)) (by show blkC ["script", "draws", "number", "pick", "octets", "ahead", "k", "behind", "passed", "kept", "found"] (defScope s_law) _ _ = true; decide +kernel) (fun _ _ _ _ _ => (qg_name nd (fun _ _ => pw_set (by decide) _ _))) (fun _ _ _ _ _ => qts_nil) (fun _ _ _ _ _ => (q_c c__law_next hr (by decide) (by rfl) (qa_cons (qv 1) (qa_cons q_int qa_nil)))))
    (qss_cons (qs_if (q_tcmp (op_eqU hu) lift_eq (q_c c__law_next hr (by decide) (by rfl) (qa_cons (qv 1) (qa_cons q_int qa_nil))) q_int (nomark _))
    (qss_one (qs_set (i := 5) nd (q_add (qv 5) (q_lc (own := [("k", 6)]) rfl nd (qi_range1 (by rfl) b_range (qa_cons (q_c c__law_next hr (by decide) (by rfl) (qa_cons (qv 1) (qa_cons q_int qa_nil))) qa_nil)) (by show blkC ["script", "draws", "number", "pick", "octets", "ahead", "k", "behind", "passed", "kept", "found"] (defScope s_law) _ _ = true; decide +kernel) (fun _ _ _ _ _ => (qg_name nd (fun _ _ => pw_set (by decide) _ _))) (fun _ _ _ _ _ => qts_nil) (fun _ _ _ _ _ => (q_c c__law_next hr (by decide) (by rfl) (qa_cons (qv 1) (qa_cons q_int qa_nil))))))))
    qss_nil)
    (qss_cons (qs_set (i := 8) nd (q_add (q_addM (qv 5) (qv 4)) (qv 7)))
    (qss_cons (qs_set (i := 9) nd (q_callTy call_list_of lift_listC (by rfl) b_list PyProof.Rows.boot_list (qa_cons (qv 8) qa_nil)))
    (qss_cons (qs_set (i := 10) nd (q_c c__law_try hr (by decide) (by rfl) (qa_cons (qv 8) (qa_cons (q_callB call_len lift_len (by rfl) b_len boot_len (qa_cons (qv 5) qa_nil)) qa_nil))))
    (qss_cons (qs_expr (q_app (qv 4) q_int))
    (qss_cons (qs_if (QW.pt (qw_or (q_tcmp (op_neU hu) lift_ne (qv 8) (qv 9) (nomark _)) (qw_or1 (qt_not (q_truth (q_c c__law_same_octets hr (by decide) (by rfl) (qa_cons (q_c c_write_number hr (by decide) (by rfl) (qa_cons (qv 2) qa_nil)) (qa_cons (q_sl (qv 9) (qo_some (q_callB call_len lift_len (by rfl) b_len boot_len (qa_cons (qv 5) qa_nil))) (qo_some (q_sub (q_callB call_len lift_len (by rfl) b_len boot_len (qa_cons (qv 9) qa_nil)) (q_callB call_len lift_len (by rfl) b_len boot_len (qa_cons (qv 7) qa_nil))))) qa_nil))))))))
    (qss_one (qs_ret q_bl))
    qss_nil)
    (qss_cons (qs_expr (q_pop (qv 4)))
    (qss_cons (qs_if (q_tcmp op_gtU lift_ord (q_callB call_len lift_len (by rfl) b_len boot_len (qa_cons (qv 4) qa_nil)) q_int (nomark _))
    (qss_one (qs_ret (q_c c__law_same hr (by decide) (by rfl) (qa_cons (qv 10) (qa_cons (q_tup (qa_cons q_str (qa_cons (q_callB call_len lift_len (by rfl) b_len boot_len (qa_cons (qv 5) qa_nil)) (qa_cons q_str qa_nil)))) qa_nil)))))
    qss_nil)
    (qss_one (qs_ret (q_c c__law_same hr (by decide) (by rfl) (qa_cons (qv 10) (qa_cons (q_tup (qa_cons q_str (qa_cons (qv 2) (qa_cons (q_add (q_callB call_len lift_len (by rfl) b_len boot_len (qa_cons (qv 5) qa_nil)) (q_callB call_len lift_len (by rfl) b_len boot_len (qa_cons (qv 4) qa_nil))) qa_nil)))) qa_nil))))))))))))))))))))))
end
def DefAt (K : PySem.W.Frag) (x : Str) (st : Stmt) : Prop := ∃ f, PySem.W.nsIn K mainGlobals x = some (some (.ref f)) ∧ PySem.W.keepIn K (.ref f) = true ∧ ∃ oc od kV doc pm an cdv ct osl,
  K.lookup f = some ⟨oc, od, .func (PySem.W.fnOf x x (defArgs st) (defBody st) (defScope st) .none kV doc pm an cdv ct), osl⟩ ∧ PySem.W.codeIn K cdv x = true
theorem def_mk {K : PySem.W.Frag} {x : Str} {st : Stmt} {f : Addr} {oc : Value} {od an : Option Addr} {osl : Array (Option Value)} {kV doc pm cdv ct : Value} (a : PySem.W.nsIn K mainGlobals x = some (some (.ref f)))
    (l : K.lookup f = some ⟨oc, od, .func (PySem.W.fnOf x x (defArgs st) (defBody st) (defScope st) .none kV doc pm an cdv ct), osl⟩) (c : PySem.W.codeIn K cdv x = true) (k : PySem.W.keepIn K (.ref f) = true) : DefAt K x st :=
  ⟨f, a, k, oc, od, kV, doc, pm, an, cdv, ct, osl, l, c⟩
theorem cal_of {P : Program} {w : World} {K : PySem.W.Frag} {h : Heap} {mg : Str → Option Value} {base : Heap} {k : Nat} {x : Str} {st : Stmt} {ps : List Str} {sp : DSp} (X : K.In h) (G : h.Ns mainGlobals mg) (d : DefAt K x st)
    (hb : ∀ (kV doc pm : Value) (an : Option Addr) (cdv ct : Value) (us : List Value), us.length = ps.length → bindArgs (PySem.W.fnOf x x (defArgs st) (defBody st) (defScope st) .none kV doc pm an cdv ct) ⟨us, []⟩ = pure (ps.zip us))
    (ok : ∀ f fd, Fun K x x st f fd → FnOk P w K mg base CX0 k f fd ps (upSp K sp)) : Cal P w K mg base k x ps sp := by
  obtain ⟨f, a, kp, oc, od, kV, doc, pm, an, cdv, ct, osl, l, c⟩ := d
  have F := fun_mk l c kp
  exact ⟨f, _, ok f _ F, PySem.W.mg_of X G a, kp, F.binds hb⟩
theorem law_end {l : PySem.W.OpenLaw} {n k : Nat} {w : World} {K : PySem.W.Frag} {sp : DSp} (h : ∀ (ns : List Int) (G : Gp) (Q : D → Gp → Prop) (E : DXK), ns.length ≤ n → (∀ a, G a = none) → (∀ G', Q (.bl true) G') → sp [.rl (ns.map D.int)] G Q E) (H : Hp) (a : Addr) (ns : List Int) (hl : ns.length ≤ n) (hO : Only H) (hS : SqL K H a (ns.map V.int)) :
    upSp K sp [.ref a] H (fun v _ => v = .bl true) (fun _ _ _ => False) := by
  refine ⟨fun _ => False, [.rl (ns.map D.int)], fun _ => none, fun d _ => d = .bl true, ⟨(fun _ _ e => by cases e), (fun _ f => f.elim), (fun _ f => f.elim)⟩, ?_, h ns _ _ _ hl (fun _ => rfl) (fun _ => rfl), fun v H' ⟨d, F', G', _, _, r, e⟩ => ?_⟩
  · refine RepL.one ⟨a, ns.map V.int, rfl, ?_, RepL.ints ns⟩
    rcases hS with (hS | ⟨o, hS⟩) | hS
    · rcases hO a with e | ⟨o, xs, e⟩
      · rw [e] at hS; cases hS
      · rw [e] at hS; cases hS
    · exact .inl ⟨o, hS⟩
    · exact .inr hS
  · subst e
    exact r
theorem calX_of {P : Program} {w : World} {K : PySem.W.Frag} {h : Heap} {mg : Str → Option Value} {base : Heap} {k : Nat} {x : Str} {st : Stmt} {ps : List Str} {sp : DSp} (X : K.In h) (G : h.Ns mainGlobals mg) (d : DefAt K x st)
    (hb : ∀ (kV doc pm : Value) (an : Option Addr) (cdv ct : Value) (us : List Value), us.length = ps.length → bindArgs (PySem.W.fnOf x x (defArgs st) (defBody st) (defScope st) .none kV doc pm an cdv ct) ⟨us, []⟩ = pure (ps.zip us))
    (ok : ∀ f fd, Fun K x x st f fd → FnOk P w K mg base (L2.CX P w) k f fd ps (upSpX K sp)) : CalX P w K mg base k x ps sp := by
  obtain ⟨f, a, kp, oc, od, kV, doc, pm, an, cdv, ct, osl, l, c⟩ := d
  have F := fun_mk l c kp
  exact ⟨f, _, ok f _ F, PySem.W.mg_of X G a, kp, F.binds hb⟩
open PySem.W PySem.Calls PySem.HandSPX in
theorem bad_mk {P : Program} {K : PySem.W.Frag} {C fI cc cda B N : Addr} {nm q qual file : Str} {bs : List Value} {sn : List Str} {sub : List Value} {ab : Bool} {col : Option Bool} {dd : Option Addr} {m0 m1 m2 m3 m5 : Option Value}
    {oc kV doc pm ct cl ccl : Value} {od an cld cdd : Option Addr} {osl csl ccs : Array (Option Value)} {vs : Array Value} {tf : Tok} {pa ps pv p1 p2 : Nat → Pos} {nmB qB : Str} {NB : Addr} {bsB : List Value} {hdB : Bool} {snB : List Str} {subB : List Value} {abB : Bool} {colB : Option Bool} {ddB : Option Addr} {b0 b1 b2 b3 b5 : Option Value}
    (ec : PySem.W.nsIn K mainGlobals "BadOctets" = some (some (.ref C)))
    (xL : K.lookup C = some (excClassObj nm q C N bs [.ref B, .type "ValueError", .type "Exception", .type "BaseException", .type "object"] true sn sub ab col dd m0 m1 m2 m3 m5 "ValueError.__new__"))
    (iC : PySem.W.findIn K (.ref C) "__init__" = some (some (.ref fI))) (tF : PySem.W.typeIn K (.ref fI) = some (.type "function"))
    (xf : K.lookup fI = some ⟨oc, od, .func (PySem.BX.fnBad qual pa ps pv p1 p2 kV doc pm an (.ref cda) ct cc), osl⟩) (cd : PySem.W.codeIn K (.ref cda) qual = true)
    (xc : K.lookup cc = some ⟨cl, cld, .cell (some (.ref C)), csl⟩) (xd : K.lookup cda = some ⟨ccl, cdd, .fields vs, ccs⟩) (hv : vs[2]? = some (.str file tf)) (hf : ((P.main.file : Str) == file) = true) (top : (P.main.scope.names.lookup ("super" : Str)).isSome = false)
    (sa : PySem.W.findIn K (.ref C) "__setattr__" = some (some (.builtin "object.__setattr__"))) (ga : PySem.W.findIn K (.ref C) "__getattribute__" = some (some (.builtin "BaseException.__getattribute__"))) (gg : PySem.W.findIn K (.ref C) "__getattr__" = some none)
    (n1 : PySem.W.findIn K (.ref C) "at" = some none) (n2 : PySem.W.findIn K (.ref C) "reason" = some none) (op : PySem.W.nsIn K cStatics "thirdparty.any" = some none) (fB : PySem.W.findIn K (.ref B) "__init__" = some (some (.builtin "ValueError.__init__"))) (xB : K.lookup B = some (excClassObj nmB qB B NB bsB [.type "ValueError", .type "Exception", .type "BaseException", .type "object"] hdB snB subB abB colB ddB b0 b1 b2 b3 b5 "ValueError.__new__"))
    (sv : PySem.W.subIn K (.ref C) (.type "ValueError") = some true) (mr : PySem.W.mroIn K C (.ref C) = some true) (su : PySem.W.nsIn K mainGlobals "super" = some none)
    (kC : PySem.W.keepIn K (.ref C) = true) (eC : PySem.W.subIn K (.ref C) (.type "BaseException") = some true) (tC : PySem.W.typeIn K (.ref C) = some (.type "type")) (hC : PySem.W.hasDictIn K C = true) (jC : PySem.W.isClsIn K C = true) (sC : PySem.W.subIn K (.ref C) (.ref C) = some true)
    (hev : ∀ L : Addr, ∃ pl, eval (PySem.BX.callS (PySem.BX.valsBad pv) ps) (ksEnv qual (PySem.BX.scope3 "at" "reason") L fI (.ref cda) cc) = (do
      let ov ← attributeBase (.Call (.Name "super" (ps 0)) [] [] (ps 1)) "__init__" (ksEnv qual (PySem.BX.scope3 "at" "reason") L fI (.ref cda) cc) (eval (.Call (.Name "super" (ps 0)) [] [] (ps 1)) (ksEnv qual (PySem.BX.scope3 "at" "reason") L fI (.ref cda) cc))
      standAt (ps 2).atName
      let (f, first) ← holding [ov] (getMethod ov "__init__" pl)
      callWith (ps 4) f first (backTo (ps 4) (starEach [.JoinedStr (PySem.BX.valsBad pv) (ps 3)] (ksEnv qual (PySem.BX.scope3 "at" "reason") L fI (.ref cda) cc))) [])) : BadAt P K C fI cc cda :=
  have sm : ks_superIn K C C "__init__" = some (some (.builtin "ValueError.__init__")) := by
    have e1 : clsIn K C = some { name := nm, bases := bs, mro := [.ref C, .ref B, .type "ValueError", .type "Exception", .type "BaseException", .type "object"], ns := N, qualname := q, hasDict := true, slotNames := sn, subclasses := sub, abstract := ab, collection := col, hasDel := false } := by unfold clsIn; rw [xL] <;> rfl
    have e2 : (Value.ref C != Value.ref C) = false := by simp
    have e3 : findIn K (.ref B) "__init__" = alongIn K "__init__" [.ref B, .type "ValueError", .type "Exception", .type "BaseException", .type "object"] := by
      have go : findIn K (.ref B) "__init__" = (match List.lookup B K with | some { cls := _, dict := _, data := Data.cls cd, slots := _ } => alongIn K "__init__" cd.mro | _ => none) := rfl
      rw [go, xB] <;> rfl
    unfold ks_superIn
    rw [e1]
    show alongIn K "__init__" (List.drop 1 (List.dropWhile (fun x => x != Value.ref C) (Value.ref C :: [.ref B, .type "ValueError", .type "Exception", .type "BaseException", .type "object"]))) = _
    rw [List.dropWhile_cons, e2]
    exact e3.symm.trans fB
  { txt := { cls := ⟨nm, q, N, bs, _, sn, sub, ab, col, dd, m0, m1, m2, m3, m5, xL, rfl⟩, sa := sa, n1 := n1, n2 := n2, iC := iC, tC := tF, op := op, sm := sm, sv := sv, mr := mr, su := su,
             cell := ⟨_, _, _, xc⟩, code := ⟨_, _, _, _, _, _, xd, hv, hf⟩, top := top, fn := ⟨qual, oc, od, kV, doc, pm, an, ct, osl, pa, ps, pv, p1, p2, xf, cd, hev⟩ },
    ec := ec, kC := kC, exC := eC, tyC := tC, ga := ga, gg := gg, hd := hC, te := exm_own eC jC tC sC }
theorem all_mk {l : PySem.W.OpenLaw} {w : World} {K : PySem.W.Frag} {h : Heap} {mg : Str → Option Value} {fa : Addr} (X : K.In h) (G : h.Ns mainGlobals mg) (hfa : mg "law" = some (.ref fa))
    (d_write_number : DefAt K "write_number" s_write_number) (d_read_number : DefAt K "read_number" s_read_number) (d__law_cell : DefAt K "_law_cell" s__law_cell) (d__law_draws : DefAt K "_law_draws" s__law_draws) (d__law_next : DefAt K "_law_next" s__law_next) (d__law_write_number : DefAt K "_law_write_number" s__law_write_number) (d__law_same : DefAt K "_law_same" s__law_same) (d__law_same_octets : DefAt K "_law_same_octets" s__law_same_octets) (d__law_try : DefAt K "_law_try" s__law_try) (d_law : DefAt K "law" s_law) (z_range : PySem.W.nsIn K mainGlobals "range" = some none) (z_len : PySem.W.nsIn K mainGlobals "len" = some none) (z_abs : PySem.W.nsIn K mainGlobals "abs" = some none) (z_int : PySem.W.nsIn K mainGlobals "int" = some none) (z_isinstance : PySem.W.nsIn K mainGlobals "isinstance" = some none) (z_tuple : PySem.W.nsIn K mainGlobals "tuple" = some none) (z_bool : PySem.W.nsIn K mainGlobals "bool" = some none) (z_str : PySem.W.nsIn K mainGlobals "str" = some none) (z_list : PySem.W.nsIn K mainGlobals "list" = some none) {t_BASE : Tok} (g_BASE : PySem.W.nsIn K mainGlobals "BASE" = some (some (.int 128 t_BASE))) {t_MOST_OCTETS : Tok} (g_MOST_OCTETS : PySem.W.nsIn K mainGlobals "MOST_OCTETS" = some (some (.int 8 t_MOST_OCTETS))) {C fI cc cda : Addr} (T_bad : BadAt l.prog K C fI cc cda) :
    ∃ fd : FuncData, (∀ (s : Shared) (v : Value), BindsTo s fd ⟨[v], []⟩ [("script", v)]) ∧ ∀ base : Heap, K.In base → base.Ns mainGlobals mg → FnOk l.prog w K mg base CX0 10 fa fd ["script"] (upSp K sq_law) := by
  have g_bad : mg "BadOctets" = some (.ref C) := PySem.W.mg_of X G T_bad.ec
  have b_range : mg "range" = none := PySem.W.mg_none_of X G z_range
  have b_len : mg "len" = none := PySem.W.mg_none_of X G z_len
  have b_abs : mg "abs" = none := PySem.W.mg_none_of X G z_abs
  have b_int : mg "int" = none := PySem.W.mg_none_of X G z_int
  have b_isinstance : mg "isinstance" = none := PySem.W.mg_none_of X G z_isinstance
  have b_tuple : mg "tuple" = none := PySem.W.mg_none_of X G z_tuple
  have b_bool : mg "bool" = none := PySem.W.mg_none_of X G z_bool
  have b_str : mg "str" = none := PySem.W.mg_none_of X G z_str
  have b_list : mg "list" = none := PySem.W.mg_none_of X G z_list
  have m_BASE := PySem.W.mg_of X G g_BASE
  have m_MOST_OCTETS := PySem.W.mg_of X G g_MOST_OCTETS
  have c_write_number : ∀ base, Cal l.prog w K mg base 1 "write_number" ["number"] sq_write_number := fun base => cal_of X G d_write_number (fun _ _ _ _ _ _ us hl => match us, hl with | [_], _ => rfl) fun f fd Fn => ok_write_number Fn  ⟨_, m_BASE⟩
  replace c_write_number := fun base => (c_write_number base).imp' (sp' := sp_write_number) abs_write_number
  have c_read_number : ∀ base, CalX l.prog w K mg base 3 "read_number" ["octets", "at"] sq_read_number := fun base => calX_of X G d_read_number (fun _ _ _ _ _ _ us hl => match us, hl with | [_, _], _ => rfl) fun f fd Fn => ok_read_number T_bad g_bad Fn  b_range b_len ⟨_, m_MOST_OCTETS⟩ ⟨_, m_BASE⟩
  replace c_read_number := fun base => (c_read_number base).imp (sp' := sp_read_number) abs_read_number
  have c__law_cell : ∀ base, Cal l.prog w K mg base 1 "_law_cell" ["script", "k"] sq__law_cell := fun base => cal_of X G d__law_cell (fun _ _ _ _ _ _ us hl => match us, hl with | [_, _], _ => rfl) fun f fd Fn => ok__law_cell Fn  b_len
  replace c__law_cell := fun base => (c__law_cell base).imp' (sp' := sp__law_cell) abs__law_cell
  have c__law_draws : ∀ base, Cal l.prog w K mg base 1 "_law_draws" ["cell"] sq__law_draws := fun base => cal_of X G d__law_draws (fun _ _ _ _ _ _ us hl => match us, hl with | [_], _ => rfl) fun f fd Fn => ok__law_draws Fn  b_abs b_int b_range
  replace c__law_draws := fun base => (c__law_draws base).imp' (sp' := sp__law_draws) abs__law_draws
  have c__law_next : ∀ base, Cal l.prog w K mg base 1 "_law_next" ["draws", "many"] sq__law_next := fun base => cal_of X G d__law_next (fun _ _ _ _ _ _ us hl => match us, hl with | [_, _], _ => rfl) fun f fd Fn => ok__law_next Fn  b_len b_int
  replace c__law_next := fun base => (c__law_next base).imp (sp' := sp__law_next) abs__law_next
  have c__law_write_number : ∀ base, Cal l.prog w K mg base 1 "_law_write_number" ["number"] sq__law_write_number := fun base => cal_of X G d__law_write_number (fun _ _ _ _ _ _ us hl => match us, hl with | [_], _ => rfl) fun f fd Fn => ok__law_write_number Fn  b_range b_int
  replace c__law_write_number := fun base => (c__law_write_number base).imp' (sp' := sp__law_write_number) abs__law_write_number
  have c__law_same : ∀ (n : Nat) base, Cal l.prog w K mg base (1 + n) "_law_same" ["actual", "expected"] (sp__law_same n) := by
    intro n
    induction n with
    | zero => exact fun base => (cal_of X G d__law_same (fun _ _ _ _ _ _ us hl => match us, hl with | [_, _], _ => rfl) fun f fd Fn => fn_ok (k := 0) (t := fun _ _ _ => False) (m := 2) (n := 1) Fn sc__law_same rfl rfl fun _ _ _ _ _ _ _ => q_bot).imp' (sp' := sp__law_same 0) (fun _ _ _ _ h => h.elim)
    | succ n ih => exact fun base => (cal_of X G d__law_same (fun _ _ _ _ _ _ us hl => match us, hl with | [_, _], _ => rfl) fun f fd Fn => ok__law_same n Fn (ih base) b_isinstance b_tuple b_len b_range b_bool b_int b_str).imp' (sp' := sp__law_same (n + 1)) (abs__law_same n)
  replace c__law_same := c__law_same 8
  have c__law_same_octets : ∀ base, Cal l.prog w K mg base 1 "_law_same_octets" ["actual", "expected"] sq__law_same_octets := fun base => cal_of X G d__law_same_octets (fun _ _ _ _ _ _ us hl => match us, hl with | [_, _], _ => rfl) fun f fd Fn => ok__law_same_octets Fn  b_len b_isinstance b_list b_range b_bool b_int
  replace c__law_same_octets := fun base => (c__law_same_octets base).imp' (sp' := sp__law_same_octets) abs__law_same_octets
  have c__law_try : ∀ base, Cal l.prog w K mg base 4 "_law_try" ["octets", "at"] sq__law_try := fun base => cal_of X G d__law_try (fun _ _ _ _ _ _ us hl => match us, hl with | [_, _], _ => rfl) fun f fd Fn => ok__law_try T_bad g_bad Fn (c_read_number base) b_len b_isinstance b_tuple
  replace c__law_try := fun base => (c__law_try base).imp' (sp' := sp__law_try) abs__law_try
  obtain ⟨f, a, kp, oc, od, kV, doc, pm, an, cdv, ct, osl, hl, hc⟩ := d_law
  have e := hfa.symm.trans (PySem.W.mg_of X G a)
  cases e
  have F := fun_mk (st := s_law) hl hc kp
  refine ⟨PySem.W.fnOf "law" "law" (defArgs s_law) (defBody s_law) (defScope s_law) .none kV doc pm an cdv ct, fun s v => .of_eq rfl, fun base _ _ => ?_⟩
  exact ok_law F (c__law_draws base) (c__law_cell base) (c__law_next base) (c_write_number base) (c__law_same_octets base) (c__law_write_number base) (c__law_try base) (c__law_same base) b_int b_abs b_range b_list b_len
end DL
open PySem PySem.W PyProof.Rows
set_option maxHeartbeats 0 in
theorem PySem.Challenge.cw_schemabridge_k08_natural_numbers_holds : PySem.Challenge.rw_schemabridge_k08_natural_numbers.Holds := by
  w_on; o_law; k_head; (case hw => w_witness2)
  k_fill
  refine L2.walk_of (l := PySem.Challenge.rw_schemabridge_k08_natural_numbers) (n := 63) (k := 10) (x := "script") (CX := fun _ => L2.CX0) (sp := fun w => DL.upSp _ DL.sq_law) rfl (by decide) rfl ⟨rfl, by decide, by decide⟩ (fun w h Y => PySem.W.kIn_of Y) ?F (fun w H a ns hl hO hS => DL.law_end (l := PySem.Challenge.rw_schemabridge_k08_natural_numbers) (k := 0) (w := w) DL.abs_law H a ns hl hO hS) (fun _ _ _ _ _ h => h)
  case F =>
    intro w mg fa h KX G hmg
    refine' DL.all_mk KX G hmg (DL.def_mk ?qa0 ?ql0 ?qc0 ?qk0) (DL.def_mk ?qa1 ?ql1 ?qc1 ?qk1) (DL.def_mk ?qa2 ?ql2 ?qc2 ?qk2) (DL.def_mk ?qa3 ?ql3 ?qc3 ?qk3) (DL.def_mk ?qa4 ?ql4 ?qc4 ?qk4) (DL.def_mk ?qa5 ?ql5 ?qc5 ?qk5) (DL.def_mk ?qa6 ?ql6 ?qc6 ?qk6) (DL.def_mk ?qa7 ?ql7 ?qc7 ?qk7) (DL.def_mk ?qa8 ?ql8 ?qc8 ?qk8) (DL.def_mk ?qa9 ?ql9 ?qc9 ?qk9) ?qz0 ?qz1 ?qz2 ?qz3 ?qz4 ?qz5 ?qz6 ?qz7 ?qz8 ?qg0 ?qg1 (DL.bad_mk (pa := (fun n => ([⟨6, 17, 6, 21⟩, ⟨6, 23, 6, 25⟩, ⟨6, 27, 6, 33⟩] : List Pos).getD n ⟨0, 0, 0, 0⟩)) (ps := (fun n => ([⟨7, 8, 7, 13⟩, ⟨7, 8, 7, 15⟩, ⟨7, 8, 7, 24⟩, ⟨7, 25, 7, 44⟩, ⟨7, 8, 7, 45⟩, ⟨7, 8, 7, 45⟩] : List Pos).getD n ⟨0, 0, 0, 0⟩)) (pv := (fun n => ([⟨7, 28, 7, 34⟩, ⟨7, 27, 7, 35⟩, ⟨7, 35, 7, 39⟩, ⟨7, 40, 7, 42⟩, ⟨7, 39, 7, 43⟩] : List Pos).getD n ⟨0, 0, 0, 0⟩)) (p1 := (fun n => ([⟨8, 8, 8, 12⟩, ⟨8, 8, 8, 15⟩, ⟨8, 18, 8, 20⟩, ⟨8, 8, 8, 20⟩] : List Pos).getD n ⟨0, 0, 0, 0⟩)) (p2 := (fun n => ([⟨9, 8, 9, 12⟩, ⟨9, 8, 9, 19⟩, ⟨9, 22, 9, 28⟩, ⟨9, 8, 9, 28⟩] : List Pos).getD n ⟨0, 0, 0, 0⟩)) ?e_ec ?e_xL ?e_iC ?e_tF ?e_xf ?e_cd ?e_xc ?e_xd ?e_hv ?e_hf ?e_top ?e_sa ?e_ga ?e_gg ?e_n1 ?e_n2 ?e_op ?e_fB ?e_xB ?e_sv ?e_mr ?e_su ?e_kC ?e_eC ?e_tC ?e_hC ?e_jC ?e_sC ?e_hev)
    (case qa0 => k_is); (case ql0 => k_is); (case qc0 => k_is); (case qk0 => k_is); (case qa1 => k_is); (case ql1 => k_is); (case qc1 => k_is); (case qk1 => k_is); (case qa2 => k_is); (case ql2 => k_is); (case qc2 => k_is); (case qk2 => k_is); (case qa3 => k_is); (case ql3 => k_is); (case qc3 => k_is); (case qk3 => k_is); (case qa4 => k_is); (case ql4 => k_is); (case qc4 => k_is); (case qk4 => k_is); (case qa5 => k_is); (case ql5 => k_is); (case qc5 => k_is); (case qk5 => k_is); (case qa6 => k_is); (case ql6 => k_is); (case qc6 => k_is); (case qk6 => k_is); (case qa7 => k_is); (case ql7 => k_is); (case qc7 => k_is); (case qk7 => k_is); (case qa8 => k_is); (case ql8 => k_is); (case qc8 => k_is); (case qk8 => k_is); (case qa9 => k_is); (case ql9 => k_is); (case qc9 => k_is); (case qk9 => k_is); (case qz0 => k_is); (case qz1 => k_is); (case qz2 => k_is); (case qz3 => k_is); (case qz4 => k_is); (case qz5 => k_is); (case qz6 => k_is); (case qz7 => k_is); (case qz8 => k_is); (case qg0 => k_is); (case qg1 => k_is); (case e_ec => k_is); (case e_xL => k_is); (case e_iC => k_is); (case e_tF => k_is); (case e_xf => k_is); (case e_cd => k_is); (case e_xc => k_is); (case e_xd => k_is); (case e_hv => first | rfl | k_is); (case e_hf => first | rfl | k_is); (case e_top => first | rfl | k_is); (case e_sa => k_is); (case e_ga => k_is); (case e_gg => k_is); (case e_n1 => k_is); (case e_n2 => k_is); (case e_op => k_is); (case e_fB => k_is); (case e_xB => k_is); (case e_sv => k_is); (case e_mr => k_is); (case e_su => k_is); (case e_kC => k_is); (case e_eC => k_is); (case e_tC => k_is); (case e_hC => k_is); (case e_jC => k_is); (case e_sC => first | rfl | k_is); (case e_hev => exact fun _ => ⟨_, rfl⟩)

