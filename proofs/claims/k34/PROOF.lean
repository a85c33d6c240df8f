import PyProof.Rows.All
import Wide.All
import OpenK.AllK
import Wide.FinOn
import HandS.ForMost
import HandS.IsInst
import HandS.TupAny
import HandS.Deep
import HandS.Flow
import HandS.Style
import HandS.Dict
import HandS.Small
import HandS.Iter
import HandS.WordsDict
import HandS.SortInts
import HandS.DictComp
import HandS.List
import KE.KDictPairs
import HandS.Zip
import PyProof.Draws
import HandS.TupSets
import KE.SortData
import HandS.Strs
import HandS.DictComp
import HandS.Iter
import HandS.Lambda
import KE.KExcSuper
import HandS.FStr
import HandS.FStrTup
import HandS.ExcInit
import HandS.WordsExc
import HandS.Lambda
import KE.KExcIs
import HandS.Conv
import PySem.Challenge.RW_schemabridge_k34_joined_leaves
set_option Elab.async false
set_option linter.all false
set_option maxRecDepth 100000
set_option maxHeartbeats 4000000
set_option Elab.async false
set_option linter.all false
set_option maxRecDepth 100000
set_option maxHeartbeats 4000000
/-! DL0: tuples that are known to have no dict of their own. -/
namespace L2
open PySem PySem.Spec PyProof.Rows
/-- a tuple whose object has no dict -/
def BT (K : PySem.W.Frag) (H : Hp) (a : Addr) (xs : List V) : Prop := (∃ o, H a = some (.frz o (.tup xs)) ∧ o.dict = none) ∨
  ∃ (o : Obj) (its : Array Value) (n : Nat), K.lookup a = some o ∧ o.cls = .type "tuple" ∧ o.dict = none ∧ o.data = .seq its n ∧ its.size ≤ sizeLine ∧ Vals xs its.toList
theorem BT.sq {K : PySem.W.Frag} {H : Hp} {a : Addr} {xs : List V} : BT K H a xs → SqT K H a xs
  | .inl ⟨o, h, _⟩ => .inl (.inr ⟨o, h⟩)
  | .inr ⟨o, its, n, h1, h2, _, h3, h4, h5⟩ => .inr ⟨o, its, n, h1, h2, h3, h4, h5⟩
theorem vals_lenB {xs : List V} {us : List Value} (r : Vals xs us) : us.length = xs.length := by
  induction r with
  | nil => rfl
  | cons _ _ ih => rw [List.length_cons, List.length_cons, ih]
section
variable {X : Cx} {pins : List (Addr × Obj)} {σ : St} {H : Hp} {s : Shared}
theorem Inv.layB (I : Inv X pins σ H s) {its : List Value} {xs : List V} {t' : Nat} (hl : xs.length ≤ sizeLine) (hv : Vals xs its) {Q : VK} (q : ∀ p o, o.dict = none → H p = none → Q (.ref p) (upd H p (.frz o (.tup xs)))) :
    EP X pins σ Q (.ref s.heap.objs.size) { heap := s.heap.push { cls := .type "tuple", data := .seq its.toArray }, gens := s.gens, drawn := s.drawn, toks := t', os := s.os } := by
  have at' : (s.heap.push { cls := .type "tuple", data := .seq its.toArray }).get? s.heap.objs.size = some { cls := .type "tuple", data := .seq its.toArray } := Heap.get?_push_size _ rfl
  exact ⟨.ref s.heap.objs.size, upd H s.heap.objs.size (.frz { cls := .type "tuple", data := .seq its.toArray } (.tup xs)), I.laid (fun b u e => Heap.get?_push_of_some _ e) (Nat.le_refl _) ⟨at', hl, its, hv, ⟨_, at', rfl, _, rfl⟩⟩, rfl, q _ _ rfl (I.hok.fresh (Nat.le_refl _))⟩
/-- a display -/
def tTupB (t : TA) : TE := fun σ H Q => t σ H fun xs H1 => xs.length ≤ sizeLine ∧ ∀ p o, o.dict = none → H1 p = none → Q (.ref p) (upd H1 p (.frz o (.tup xs)))
theorem pe_tupB {es : List Expr} {t : TA} {pos : Pos} {x1 : Nat} (h : PA X es t) : PE X (.Tuple es x1 pos) (tTupB t) := ⟨fun pins s σ H Q I q =>
  wpAny_Tuple_spliced (thn (h.run pos pins s σ H _ I q) fun us s1 ⟨vs, H1, I1, r1, hl, q1⟩ => ⟨by rw [vals_lenB r1]; exact hl, I1.layB hl r1 q1⟩)⟩
/-- tuple(xs) -/
theorem call_tupB : CallR X (.type "tuple") fun xs H Q => ∃ p ys, xs = [.ref p] ∧ ((SqL X.K H p ys ∧ ∀ l o, o.dict = none → H l = none → Q (.ref l) (upd H l (.frz o (.tup ys)))) ∨ SqT X.K H p ys ∧ Q (.ref p) H) := by
  intro pins s σ H xs us Q I r ⟨p, ys, e, h⟩
  rcases h with ⟨hs, q⟩ | ⟨hs, q⟩
  · subst e
    obtain ⟨its, hv, pl, hl⟩ := I.list hs
    cases r with
    | cons r1 r2 =>
      cases r2
      obtain rfl := r1
      refine call_tuple_list pl.isList (fun h' old => ?_) (by rw [List.size_toArray, vals_lenB hv]; exact hl)
      have I2 : Inv X pins σ H { heap := h', gens := s.gens, drawn := s.drawn, toks := s.toks, os := s.os } := I.turnedL (ch := []) (fun b o _ e => old b o e) (fun b h => by cases h)
      exact I2.layB hl hv q
  · subst e
    exact call_tuple_of pins s σ H _ us Q I r ⟨p, ys, rfl, .inr ⟨hs, q⟩⟩
/-- + -/
def rCatB (K : PySem.W.Frag) : R2 := fun x y H Q => ∃ a b xs ys, x = .ref a ∧ y = .ref b ∧ SqT K H a xs ∧ SqT K H b ys ∧ xs.length + ys.length ≤ sizeLine ∧ (xs = [] → Q (.ref b) H) ∧ (xs ≠ [] → ys = [] → Q (.ref a) H) ∧
  (xs ≠ [] → ys ≠ [] → ∀ p o, o.dict = none → H p = none → Q (.ref p) (upd H p (.frz o (.tup (xs ++ ys)))))
theorem Vals.appB {xs ys : List V} {us ws : List Value} (h : Vals xs us) (g : Vals ys ws) : Vals (xs ++ ys) (us ++ ws) := by
  induction h with
  | nil => exact g
  | cons a _ ih => exact .cons a ih
theorem op_catB : OpR X (binaryOp .Add) (rCatB X.K) := by
  intro pins s σ H x y v u Q I rx ry ⟨a, b, xs, ys, ex, ey, ha, hb, hl, q1, q2, q3⟩
  subst ex ey
  obtain rfl := rx
  obtain rfl := ry
  obtain ⟨us, h1, h2, _⟩ := I.tuple ha
  obtain ⟨ws, g1, g2, _⟩ := I.tuple hb
  have l1 := vals_lenB h1
  have l2 := vals_lenB g1
  by_cases e : xs = []
  · subst e
    obtain rfl : us = [] := List.eq_nil_of_length_eq_zero l1
    exact cat_tup0 h2 g2 ⟨.ref b, H, I, rfl, q1 rfl⟩
  · refine HT.cat_tup h2 g2 (fun z => e (List.eq_nil_of_length_eq_zero (by rw [← l1, z]; rfl))) (fun z => ⟨.ref a, H, I, rfl, q2 e (List.eq_nil_of_length_eq_zero (by rw [← l2, z]; rfl))⟩) (fun z => ?_) (by rw [l1, l2]; exact hl)
    refine I.layB (by rw [List.length_append]; exact hl) (h1.appB g1) (q3 e fun w => z (List.eq_nil_of_length_eq_zero (by rw [l2, w]; rfl)))
/-- a slice -/
def rSlDl (K : PySem.W.Frag) : V → Option Int → Option Int → Hp → VK → Prop := fun x lo hi H Q => ∃ a xs, x = .ref a ∧ SqT K H a xs ∧ (HT.sIx xs.length 0 lo = 0 ∧ HT.sIx xs.length xs.length hi = xs.length → Q (.ref a) H) ∧
  (¬ (HT.sIx xs.length 0 lo = 0 ∧ HT.sIx xs.length xs.length hi = xs.length) → ∀ p o, o.dict = none → H p = none → Q (.ref p) (upd H p (.frz o (.tup (cutV xs lo hi)))))
theorem Vals.takeB {xs : List V} {us : List Value} (h : Vals xs us) : ∀ n, Vals (xs.take n) (us.take n) := by
  induction h with
  | nil => intro n; rw [List.take_nil, List.take_nil]; exact .nil
  | cons a _ ih =>
    intro n
    cases n with
    | zero => exact .nil
    | succ n => exact .cons a (ih n)
theorem Vals.dropB {xs : List V} {us : List Value} (h : Vals xs us) : ∀ n, Vals (xs.drop n) (us.drop n) := by
  induction h with
  | nil => intro n; rw [List.drop_nil, List.drop_nil]; exact .nil
  | cons a b ih =>
    intro n
    cases n with
    | zero => exact .cons a b
    | succ n => exact ih n
theorem sl_tupB : SlR X (rSlDl X.K) := by
  intro pins s σ H x v vl vu lo hi sl Q I rx hsl h1 h2 ⟨a, xs, ex, ha, q1, q2⟩
  subst ex
  obtain ⟨us, g1, g2, gl⟩ := I.tuple ha
  have l1 := vals_lenB g1
  have asz : us.toArray.size = xs.length := by rw [List.size_toArray, l1]
  by_cases w : HT.sIx xs.length 0 lo = 0 ∧ HT.sIx xs.length xs.length hi = xs.length
  · exact sl_tupA pins s σ H _ v vl vu lo hi sl Q I rx hsl h1 h2 ⟨a, xs, rfl, ha, fun _ => q1 w, fun z => absurd w z⟩
  · obtain ⟨T, id, e1, e2, _⟩ := sl_tupA pins s σ H _ v vl vu lo hi sl (fun _ _ => True) I rx hsl h1 h2 ⟨a, xs, rfl, ha, fun z => absurd z w, fun _ _ _ => trivial⟩
    obtain rfl := rx
    refine ⟨T, id, e1, e2, HT.getItem_tuple_cut g2 hsl h1 h2 (by rw [asz]; exact w) ?_ (by rw [asz]; exact gl)⟩
    rw [asz]
    refine I.layB ?_ ((g1.dropB _).takeB _) (q2 w)
    rw [List.length_take, List.length_drop]
    omega
end
end L2
set_option Elab.async false
set_option linter.all false
set_option maxRecDepth 100000
set_option maxHeartbeats 4000000
/-! dict(t) of a tuple t of pairs. -/
namespace L2
open PySem PySem.Spec PyProof.Rows
section
variable {X : Cx} {pins : List (Addr × Obj)} {σ : St} {H : Hp} {s : Shared}
theorem keyIs_relB {k : Key} {u : Value} (h : RelV (kV k) u) : keyIs k u = true := by
  cases k with
  | inl i =>
    obtain ⟨t, e⟩ := h
    subst e
    exact beq_self_eq_true i
  | inr x =>
    obtain ⟨t, e⟩ := h
    subst e
    exact beq_self_eq_true x
theorem pairsB_of (I : Inv X pins σ H s) : ∀ {ps : List Addr} {kvs : List (Key × V)}, Paired (fun p (kv : Key × V) => SqT X.K H p [kV kv.1, kv.2]) ps kvs → ∃ (psV : List (Value × Value)) (prs : List (Key × Value)), psV.length = ps.length ∧ prs.length = ps.length ∧ kvs.length = ps.length ∧ KV kvs prs ∧
    ∀ (j : Nat) (k v : Value), psV[j]? = some (k, v) → (∃ p, ps[j]? = some p ∧ s.heap.IsTuple p #[k, v]) ∧ ∃ kk, prs[j]? = some (kk, v) ∧ keyIs kk k = true := by
  intro ps kvs h
  induction h with
  | nil => exact ⟨[], [], rfl, rfl, rfl, .nil, fun j k v e => by cases e⟩
  | @cons p kv ps kvs h1 _ ih =>
    obtain ⟨psV, prs, l1, l2, l3, hk, ih⟩ := ih
    obtain ⟨its, hv, ht, _⟩ := I.tuple h1
    cases hv with
    | cons r1 hv =>
      cases hv with
      | cons r2 hv =>
        cases hv
        rename_i u1 u2
        refine ⟨(u1, u2) :: psV, (kv.1, u2) :: prs, by rw [List.length_cons, List.length_cons, l1], by rw [List.length_cons, List.length_cons, l2], by rw [List.length_cons, List.length_cons, l3], .cons ⟨rfl, r2⟩ hk, fun j k v e => ?_⟩
        cases j with
        | zero => cases e; exact ⟨⟨p, rfl, ht⟩, kv.1, rfl, keyIs_relB r1⟩
        | succ j => exact ih j k v e
theorem vals_refsB : ∀ {ps : List Addr} {its : List Value}, Vals (ps.map V.ref) its → its = ps.map Value.ref
  | [], _, h => by cases h; rfl
  | p :: ps, _, h => by
    cases h with
    | cons a b =>
      obtain rfl := a
      rw [vals_refsB b]
      rfl
theorem BT.plain {a : Addr} {xs : List V} (I : Inv X pins σ H s) (h : BT X.K H a xs) : ∃ its : List Value, Vals xs its ∧ PlainSeq "tuple" s.heap a its.toArray ∧ xs.length ≤ sizeLine := by
  rcases h with ⟨o, h, hd⟩ | ⟨o, its, n, h1, h2, hd, h3, h4, h5⟩
  · obtain ⟨g, hl, its, hv, o', g2, hc, n, hdat⟩ := I.hok a _ h
    rw [g] at g2
    cases g2
    exact ⟨its, hv, ⟨o, n, g, hc, hd, hdat⟩, hl⟩
  · refine ⟨its.toList, h5, ⟨o, n, I.kIn _ _ h1, h2, hd, by rw [Array.toArray_toList]; exact h3⟩, ?_⟩
    rw [← vals_lenB h5, Array.length_toList]
    exact h4
theorem call_dictB (hc : X.calm = true) : CallR X (.type "dict") fun xs H Q => ∃ a ps kvs, xs = [.ref a] ∧ BT X.K H a (ps.map V.ref) ∧ Paired (fun p (kv : Key × V) => SqT X.K H p [kV kv.1, kv.2]) ps kvs ∧ ∀ p, H p = none → Q (.ref p) (upd H p (.dK (mergeK [] kvs))) := by
  intro pins s σ H xs us Q I r ⟨a, ps, kvs, e, hb, hp, q⟩
  subst e
  obtain ⟨its, hv, pl, hl⟩ := hb.plain I
  obtain rfl := vals_refsB hv
  obtain ⟨psV, prs, l1, l2, l3, hk, hj⟩ := pairsB_of I hp
  rw [List.length_map] at hl
  cases r with
  | cons r1 r2 =>
    cases r2
    obtain rfl := r1
    refine PySem.call_dict_pairs (knd := mixKind X.prog X.w) (kvs := prs) (PairArg.tuple a (ps.map Value.ref).toArray (fun j => ps.getD j 0) psV) (I.ok.hd hc) ⟨pl, ?_, fun j k v ej => ?_⟩ ⟨by rw [l1, l2], fun j k v ej => (hj j k v ej).2⟩ (by rw [l1]; exact hl) fun h' tk hd hkeep => ?_
    · rw [List.size_toArray, List.length_map, l1]
    · obtain ⟨⟨p, e1, e2⟩, _⟩ := hj j k v ej
      have e3 : ps.getD j 0 = p := by rw [List.getD_eq_getElem?_getD, e1]; rfl
      refine ⟨?_, .inl ?_⟩
      · show (List.map Value.ref ps).toArray[j]? = some (Value.ref (ps.getD j 0))
        rw [e3, List.getElem?_toArray, List.getElem?_map, e1]; rfl
      · show s.heap.IsTuple (ps.getD j 0) #[k, v]
        rw [e3]; exact e2
    · have big := I.big
      refine ⟨.ref s.heap.objs.size, upd H s.heap.objs.size (.dK (mergeK [] kvs)), I.laid (fun b u e => hkeep b u (by intro z; cases z) e) (Nat.le_refl _) ⟨?_, ?_, merged [] prs, KV.merge hk .nil, hd⟩, rfl, q _ (I.hok.fresh (Nat.le_refl _))⟩
      · have := length_mergeK kvs []
        rw [List.length_nil, Nat.zero_add, l3] at this
        exact Nat.le_trans this hl
      · exact beq_eq_false_iff_ne.mpr (Nat.ne_of_gt big)
end
end L2
namespace DL
/-- the written part of the heap, with the program and the world that it stands in -/
structure KW where
  fr : PySem.W.Frag
  pg : PySem.Program
  wd : PySem.World
instance : CoeOut KW PySem.W.Frag := ⟨KW.fr⟩
@[reducible] def kw (X : L2.Cx) : KW := ⟨X.K, X.prog, X.w⟩
end DL
set_option Elab.async false
set_option linter.all false
set_option maxRecDepth 100000
set_option maxHeartbeats 4000000
namespace DL
open PySem PySem.Spec PyProof.Rows L2
/-! ### sets of tuples of texts and ints: the table that stands below them -/
section
variable {P : Program} {w : World} {A : Around} {E : Value → Shared → Prop} {s : Shared}
/-- a tuple's hash, a tuple in the heap -/
abbrev kh (P : Program) (w : World) (k : List Key) : Int := tupleKeyHash (mixKind P w) k
abbrev KT (P : Program) (w : World) (h : Heap) (k : List Key) (a : Addr) : Prop := IsTupleKey (mixKind P w) h k a
theorem item_of {k : List Key} {vs : List Value} (h : ItemsAre (mixKind P w) k vs) : ∀ v ∈ vs, (∀ n, ofAClassStatement n v = pure false) ∧ ∃ b, ∀ n, hashByValue n v = pure b := by
  induction h with
  | nil => intro v m; cases m
  | @cons k0 v0 ks vs h1 _ ih =>
    intro v m
    rcases List.mem_cons.mp m with rfl | m
    · rcases keyIs_shape h1 with ⟨i, t, rfl, rfl⟩ | ⟨x, t, rfl, rfl⟩
      · exact ⟨fun n => by cases n <;> rfl, true, fun n => by cases n <;> rfl⟩
      · exact ⟨fun n => by cases n <;> rfl, false, fun n => by cases n <;> rfl⟩
    · exact ih v m
theorem cls_no {k : List Key} {b : Addr} {Q : Bool → Shared → Prop} (kb : KT P w s.heap k b) (q : Q false s) : wpAny (model P w) A (ofAClassStatement 8 (.ref b)) Q E s := by
  have ty := kb.typeIs
  obtain ⟨ob, arr, n, g1, _, g2, g3⟩ := kb
  have all := item_of g3
  unfold ofAClassStatement
  refine wpAny_bind (wpAny_typeOf ty ?_)
  dsimp only
  have e : (("tuple" : String) == "tuple") = true := by decide
  simp only [e, if_true, Bool.not_true, Bool.false_eq_true, if_false]
  try refine wpAny_bind (wpAny_pure ?_)
  try simp only [Bool.not_true, Bool.false_eq_true, if_false]
  show wpAny _ _ (seqItems? (.ref b) >>= _) _ _ s
  refine wpAny_bind (wpAny_seqItems g1 g2 ?_)
  dsimp only
  refine wpAny_bind ?_
  show wpAny _ _ (forIn arr _ _) _ _ s
  rw [← Array.forIn_toList]
  refine wpAny_forIn_list _ (fun left r z => r.1 = none ∧ z = s ∧ ∀ v ∈ left, ∀ n, ofAClassStatement n v = pure false) _ ?_ ?_ _ _ ⟨rfl, rfl, fun v m => (all v m).1⟩
  · rintro v left r z ⟨hr, rfl, al⟩
    rw [al v List.mem_cons_self]
    refine wpAny_bind (wpAny_pure ?_)
    simp only [Bool.false_eq_true, if_false]
    exact wpAny_pure ⟨rfl, rfl, fun u m => al u (List.mem_cons_of_mem _ m)⟩
  · rintro ⟨r1, r2⟩ z ⟨hr, rfl, _⟩
    simp only at hr
    subst hr
    exact wpAny_pure q
/-- whether a tuple's hash stands by its value: one way or the other -/
theorem hbv {k : List Key} {b : Addr} {Q : Bool → Shared → Prop} (kb : KT P w s.heap k b) (q : ∀ c, Q c s) : wpAny (model P w) A (hashByValue 8 (.ref b)) Q E s := by
  have ty := kb.typeIs
  obtain ⟨ob, arr, n, g1, _, g2, g3⟩ := kb
  have all := item_of g3
  unfold hashByValue
  refine wpAny_bind (wpAny_specialOf ty F.slot_tuple_hash.lookup ?_)
  show wpAny _ _ (seqItems? (.ref b) >>= _) _ _ s
  refine wpAny_bind (wpAny_seqItems g1 g2 ?_)
  refine wpAny_bind ?_
  show wpAny _ _ (forIn arr _ _) _ _ s
  rw [← Array.forIn_toList]
  refine wpAny_forIn_list _ (fun left r z => r.1 = none ∧ z = s ∧ ∀ v ∈ left, ∃ c, ∀ n, hashByValue n v = pure c) _ ?_ ?_ _ _ ⟨rfl, rfl, fun v m => (all v m).2⟩
  · rintro v left r z ⟨hr, rfl, al⟩
    obtain ⟨c, e⟩ := al v List.mem_cons_self
    rw [e]
    refine wpAny_bind (wpAny_pure ?_)
    cases c with
    | true =>
      simp only [Bool.not_true, Bool.false_eq_true, if_false]
      exact wpAny_pure ⟨rfl, rfl, fun u m => al u (List.mem_cons_of_mem _ m)⟩
    | false =>
      simp only [Bool.not_false, if_true]
      exact wpAny_pure (wpAny_pure (q false))
  · rintro ⟨r1, r2⟩ z ⟨hr, rfl, _⟩
    simp only at hr
    subst hr
    exact wpAny_pure (q true)
/-- a search among tuples shows nothing -/
theorem unseen {k : List Key} {b : Addr} {Q : Bool → Shared → Prop} (kb : KT P w s.heap k b) {ys : List Value} (hy : ∀ y ∈ ys, ∃ k2 c, y = Value.ref c ∧ KT P w s.heap k2 c) (q : Q false s) :
    wpAny (model P w) A (searchCouldBeSeen (.ref b) ys) Q E s := by
  unfold searchCouldBeSeen
  refine wpAny_bind ?_
  refine wpAny_forIn_list _ (fun left r z => r.1 = none ∧ z = s ∧ ∀ y ∈ left, ∃ k2 c, y = Value.ref c ∧ KT P w s.heap k2 c) _ ?_ ?_ _ _ ⟨rfl, rfl, hy⟩
  · rintro v left r z ⟨hr, rfl, al⟩
    obtain ⟨k2, c, rfl, kc⟩ := al v List.mem_cons_self
    have al2 : ∀ y ∈ left, ∃ k2 c, y = Value.ref c ∧ KT P w z.heap k2 c := fun u m => al u (List.mem_cons_of_mem _ m)
    dsimp only
    by_cases c1 : (b == c || (carriedByValue (.ref b) && carriedByValue (.ref c))) = true
    · exact wp_if_pos c1 (wpAny_pure ⟨rfl, rfl, al2⟩)
    · refine wp_if_neg c1 (wpAny_bind (wpAny_eqIsQuiet_tuple kb ?_))
      simp only [Bool.not_true, Bool.false_eq_true, if_false]
      refine wpAny_bind (wpAny_eqIsQuiet_tuple kc ?_)
      simp only [Bool.not_true, Bool.false_eq_true, if_false]
      refine wpAny_bind (cls_no kb ?_)
      simp only [Bool.false_eq_true, if_false]
      refine wpAny_bind (cls_no kc ?_)
      simp only [Bool.false_eq_true, if_false]
      exact wpAny_pure ⟨rfl, rfl, al2⟩
  · rintro ⟨r1, r2⟩ z ⟨hr, rfl, _⟩
    simp only at hr
    subst hr
    exact wpAny_pure q
/-- the entries: each with its hash -/
def ents (P : Program) (w : World) (L : List (Addr × List Key)) : List (Int × Value) := L.map fun q => (kh P w q.2, Value.ref q.1)
structure ZS (P : Program) (w : World) (h : Heap) (a : Addr) (L : List (Addr × List Key)) (es : Array (Int × Value)) (ep : Nat) (t : SetTable) : Prop where
  obj : ∃ o, h.get? a = some o ∧ o.ExactSet ∧ o.data = .set es ep t
  row : es.toList = ents P w L
  lay : TabOk t (L.map fun q => kh P w q.2)
  dis : (L.map (·.2)).Nodup
  key : ∀ q ∈ L, KT P w h q.2 q.1
  led : w.params.followText "set-order" = true ∨ t.led = true
  gap : L.length * 5 < t.mask * 3
  cap : L.length ≤ 70
variable {a : Addr} {L : List (Addr × List Key)} {es : Array (Int × Value)} {ep : Nat} {t : SetTable}
theorem ents_size (h : es.toList = ents P w L) : es.size = L.length := by
  have := congrArg List.length h
  unfold ents at this
  rwa [Array.length_toList, List.length_map] at this
theorem ZS.size (Z : ZS P w s.heap a L es ep t) : es.size = L.length := ents_size Z.row
theorem ZS.fit (Z : ZS P w s.heap a L es ep t) : t.fits es.size = true := by
  have z1 := Z.lay.sz
  rw [List.length_map] at z1
  have z2 := Z.size
  have z3 := Z.gap
  unfold SetTable.fits SetTable.fill
  rw [Z.lay.dm, Bool.and_eq_true, beq_iff_eq, decide_eq_true_eq]
  show t.place.size = es.size ∧ t.place.size + 0 ≤ t.mask
  omega
theorem ZS.ent (Z : ZS P w s.heap a L es ep t) {i : Nat} {q : Addr × List Key} (h : L[i]? = some q) : es[i]? = some (kh P w q.2, Value.ref q.1) := by
  rw [← Array.getElem?_toList, Z.row]
  unfold ents
  rw [List.getElem?_map, h]
  rfl
/-- the steps of a key's way through a table -/
abbrev wayP (P : Program) (w : World) (t : SetTable) (k : List Key) (c : Nat) : SetTable.Probe := nth t.mask (runAt t.mask (SetTable.bits (kh P w k) % (t.mask + 1)) (SetTable.bits (kh P w k))) c
theorem wayP_dummy (t : SetTable) (k : List Key) (c : Nat) : (wayP P w t k c).dummy = none := by
  have key : ∀ (n : Nat) (p : SetTable.Probe), p.dummy = none → (nth t.mask p n).dummy = none := by
    intro n
    induction n with
    | zero => intro p h; exact h
    | succ n ih =>
      intro p h
      refine ih (adv t.mask p) ?_
      unfold adv
      split <;> exact h
  exact key c _ rfl
/-- what stands at a place that a key's way meets -/
theorem seek (Z : ZS P w s.heap a L es ep t) (adding : Bool) {x : Addr} {k : List Key} (kx : KT P w s.heap k x) (room : A.units < cLine) {N : Nat} (hN : N < 10 * SetTable.turns t.mask)
    (free : way t.mask (kh P w k) N ∉ t.place.toList) (used : ∀ c, c < N → way t.mask (kh P w k) c ∈ t.place.toList) {Q : SetFound → Shared → Prop}
    (yes : ∀ i, k ∈ L.map (·.2) → Q (.there (if adding then none else some i)) s) (no : k ∉ L.map (·.2) → Q (.free (way t.mask (kh P w k) N) false) s) :
    ∀ (f c : Nat) (st : Option SetTable.Probe), st.getD (t.probeStart (kh P w k)) = wayP P w t k c → c ≤ N → N - c < f →
      (∀ (i : Nat) q, L[i]? = some q → q.2 = k → ∃ d, c ≤ d ∧ d < N ∧ t.place.toList[i]? = some (way t.mask (kh P w k) d)) →
      wpAny (model P w) A (setSearchFrom a (.ref x) (kh P w k) adding f st) Q E s
  | 0, c, st, _, _, hf, _ => absurd hf (Nat.not_lt_zero _)
  | f + 1, c, st, hst, hc, hf, left => by
    obtain ⟨o, g1, g2, g3⟩ := Z.obj
    have gave : ¬ t.gaveWay = true := by
      unfold SetTable.gaveWay
      rw [mask_odd Z.lay.mok]
      decide
    rw [setSearchFrom_succ]
    refine wpAny_bind (wpAny_setState_of g1 g3 Z.fit ?_)
    dsimp only
    refine wp_if_neg gave ?_
    try refine wpAny_bind (wpAny_pure ?_)
    have sh : ∀ n, nth t.mask (wayP P w t k c) n = wayP P w t k (c + n) := fun n => (nth_add t.mask c _ n).symm
    have ej : ∀ n, (nth t.mask (wayP P w t k c) n).j = way t.mask (kh P w k) (c + n) := fun n => congrArg SetTable.Probe.j (sh n)
    have hat : ∀ (i : Nat) q, L[i]? = some q → (es[i]?.map (·.1)).getD 0 = kh P w q.2 := fun i q hq => by
      rw [Z.ent hq]
      rfl
    have spec := go_spec t Z.lay.ris Z.lay.dm (fun i => (es[i]?.map (·.1)).getD 0) (kh P w k) (10 * SetTable.turns t.mask) (N - c) _ (wayP_dummy t k c) (by omega)
      (fun n hn => by rw [ej]; exact used (c + n) (by omega)) (by rw [ej, show c + (N - c) = N by omega]; exact free)
    rcases spec with ⟨n, i, hn, hi, hh, before, pr⟩ | ⟨before, pr⟩
    · have pr2 : t.probe (fun i => (es[i]?.map (·.1)).getD 0) (kh P w k) (st.getD (t.probeStart (kh P w k))) = some (.candidate (way t.mask (kh P w k) (c + n)) i (wayP P w t k (c + (n + 1)))) := by
        rw [hst, ← ej, ← sh]
        exact pr
      rw [pr2]
      dsimp only
      rw [ej] at hi
      have il : i < L.length := by
        have z1 := (List.getElem?_eq_some_iff.mp hi).1
        have z2 := Z.lay.sz
        rw [List.length_map] at z2
        rw [Array.length_toList] at z1
        omega
      have hq : L[i]? = some L[i] := List.getElem?_eq_getElem il
      generalize L[i] = q at hq
      have mq : q ∈ L := List.mem_of_getElem? hq
      have rest : wpAny (model P w) A (searchRest a (.ref x) (kh P w k) adding f es t (way t.mask (kh P w k) (c + n)) i (wayP P w t k (c + (n + 1)))) Q E s := by
        unfold searchRest
        rw [Z.ent hq]
        dsimp only
        refine wpAny_bind (wpAny_holding (wpAny_eqBool_tuple room (Z.key q mq) kx ?_))
        refine wpAny_bind (wpAny_setState_of g1 g3 Z.fit ?_)
        dsimp only
        have live : t.slot (way t.mask (kh P w k) (c + n)) = .live i := slot_live Z.lay.ris hi
        have sm : t.sameMemory t.moves t.mask = some true := by
          unfold SetTable.sameMemory
          rw [if_pos (beq_self_eq_true _)]
        by_cases hk : q.2 = k
        · have mk : k ∈ L.map (·.2) := List.mem_map.mpr ⟨q, mq, hk⟩
          have y := yes i mk
          cases adding with
          | true => exact wp_if_pos (by simp [hk]) (wpAny_pure y)
          | false =>
            refine wp_if_neg (by simp) ?_
            try refine wpAny_bind (wpAny_pure ?_)
            rw [sm]
            dsimp only
            simp only [if_true, live, Z.ent hq]
            refine wpAny_bind (wpAny_isSame_ref_self (wpAny_bind (wpAny_pure ?_)))
            simp only [if_true]
            exact wp_if_pos (by simp [hk]) (wpAny_pure y)
        · refine wp_if_neg (by simp [hk]) ?_
          try refine wpAny_bind (wpAny_pure ?_)
          rw [sm]
          dsimp only
          simp only [if_true, live, Z.ent hq]
          refine wpAny_bind (wpAny_isSame_ref_self (wpAny_bind (wpAny_pure ?_)))
          simp only [if_true]
          refine wp_if_neg (by simp [hk]) (seek Z adding kx room hN free used yes no f (c + (n + 1)) _ rfl (by omega) (by omega) fun i0 q0 h0 e0 => ?_)
          obtain ⟨d, d1, d2, d3⟩ := left i0 q0 h0 e0
          refine ⟨d, ?_, d2, d3⟩
          rcases Nat.lt_trichotomy d (c + n) with z | z | z
          · refine absurd ?_ (before (d - c) i0 (by omega) (by rw [ej, show c + (d - c) = d by omega]; exact d3))
            show (es[i0]?.map (·.1)).getD 0 = _
            rw [hat i0 q0 h0, e0]
          · rw [z] at d3
            have l2 := slot_live Z.lay.ris d3
            rw [live] at l2
            injection l2 with l2
            rw [← l2, hq] at h0
            cases h0
            exact absurd e0 hk
          · omega
      by_cases hl : t.led = true
      · refine wp_if_neg (by simp [hl]) ?_
        try refine wpAny_bind (wpAny_pure ?_)
        exact rest
      · refine wp_if_pos (by simp [hl]) (wpAny_bind (unseen kx (fun y hy => ?_) ?_))
        · obtain ⟨e, he, ee⟩ := List.mem_map.mp hy
          have he2 : e ∈ es.toList := by
            have : e ∈ es ∧ e.1 = kh P w k := by simpa using he
            simpa using this.1
          rw [Z.row] at he2
          obtain ⟨r, mr, er⟩ := List.mem_map.mp he2
          exact ⟨r.2, r.1, by rw [← ee, ← er], Z.key r mr⟩
        · refine wp_if_neg (by decide) ?_
          try refine wpAny_bind (wpAny_pure ?_)
          exact rest
    · have pr2 : t.probe (fun i => (es[i]?.map (·.1)).getD 0) (kh P w k) (st.getD (t.probeStart (kh P w k))) = some (.empty (way t.mask (kh P w k) N) none) := by
        have z : way t.mask (kh P w k) N = (nth t.mask (wayP P w t k c) (N - c)).j := by
          rw [ej, show c + (N - c) = N by omega]
        rw [hst, z]
        exact pr
      rw [pr2]
      dsimp only
      refine wpAny_pure (no fun m => ?_)
      obtain ⟨q, mq, e⟩ := List.mem_map.mp m
      obtain ⟨i, il, ei⟩ := List.getElem_of_mem mq
      have hq : L[i]? = some q := by rw [List.getElem?_eq_getElem il, ei]
      obtain ⟨d, d1, d2, d3⟩ := left i q hq e
      refine before (d - c) i (by omega) (by rw [ej, show c + (d - c) = d by omega]; exact d3) ?_
      show (es[i]?.map (·.1)).getD 0 = _
      rw [hat i q hq, e]
theorem seek_all (Z : ZS P w s.heap a L es ep t) (adding : Bool) {x : Addr} {k : List Key} (kx : KT P w s.heap k x) (room : A.units < cLine) {Q : SetFound → Shared → Prop}
    (yes : ∀ i, k ∈ L.map (·.2) → Q (.there (if adding then none else some i)) s)
    (no : ∀ N, k ∉ L.map (·.2) → way t.mask (kh P w k) N ∉ t.place.toList → (∀ c, c < N → way t.mask (kh P w k) c ∈ t.place.toList) → Q (.free (way t.mask (kh P w k) N) false) s) :
    wpAny (model P w) A (setSearch a (.ref x) (kh P w k) adding) Q E s := by
  have gap := Z.gap
  obtain ⟨N, n1, n2, n3⟩ := Z.lay.first (by rw [List.length_map]; omega) (kh P w k)
  have small : N < 100000 := by
    have : 10 * SetTable.turns t.mask ≤ 1420 := by
      unfold SetTable.turns
      rcases Z.lay.mok with e | e | e <;> omega
    omega
  unfold setSearch
  refine seek Z adding kx room n1 n2 n3 yes (fun m => no N m n2 n3) 100000 0 none rfl (Nat.zero_le _) (by omega) fun i q hq e => ?_
  have h1 : (L.map fun q => kh P w q.2)[i]? = some (kh P w k) := by rw [List.getElem?_map, hq, ← e]; rfl
  have il : i < t.place.toList.length := by
    have z1 := (List.getElem?_eq_some_iff.mp hq).1
    have z2 := Z.lay.sz
    rw [List.length_map] at z2
    rw [Array.length_toList]
    omega
  have hj := List.getElem?_eq_getElem il
  obtain ⟨d, d1, d2⟩ := Z.lay.before n2 h1 hj
  exact ⟨d, Nat.zero_le _, d1, by rw [hj, d2]⟩
/-- whether a key stands there -/
def hasK (L : List (Addr × List Key)) (k : List Key) : Bool := L.any fun q => decide (q.2 = k)
theorem hasK_iff {L : List (Addr × List Key)} {k : List Key} : hasK L k = true ↔ k ∈ L.map (·.2) := by
  unfold hasK
  rw [List.any_eq_true, List.mem_map]
  exact ⟨fun ⟨q, m, e⟩ => ⟨q, m, of_decide_eq_true e⟩, fun ⟨q, m, e⟩ => ⟨q, m, decide_eq_true e⟩⟩
theorem hasK_no {L : List (Addr × List Key)} {k : List Key} (h : k ∉ L.map (·.2)) : hasK L k = false := by
  rw [← Bool.not_eq_true, hasK_iff]
  exact h
theorem ps_find (Z : ZS P w s.heap a L es ep t) {x : Addr} {k : List Key} (kx : KT P w s.heap k x) (room : A.units < cLine) {Q : Option Nat → Shared → Prop} (q : ∀ r : Option Nat, r.isSome = hasK L k → Q r s) :
    wpAny (model P w) A (setFind a (.ref x) (kh P w k)) Q E s := by
  obtain ⟨o, g1, g2, g3⟩ := Z.obj
  unfold setFind setFindIn
  refine wpAny_bind (wpAny_setState_of g1 g3 Z.fit ?_)
  dsimp only
  refine wp_if_neg (by simp [byScan, Value.scannable]) ?_
  try refine wpAny_bind (wpAny_pure ?_)
  refine wpAny_bind (seek_all Z false kx room (fun i m => ?_) fun N m _ _ => ?_)
  · exact wpAny_pure (q (some i) (by rw [hasK_iff.mpr m]; rfl))
  · exact wpAny_pure (q none (by rw [hasK_no m]; rfl))
theorem in_set (neg : Bool) (Z : ZS P w s.heap a L es ep t) {x : Addr} {k : List Key} (kx : KT P w s.heap k x) (room : A.units + 64 < cLine) {Q : Value → Shared → Prop}
    (q : Q (.bool (xor neg (hasK L k))) { s with toks := s.toks + (k.length + 1) }) : wpAny (model P w) A (compareOp (if neg then .NotIn else .In) (.ref x) (.ref a)) Q E s := by
  obtain ⟨o, g1, g2, g3⟩ := Z.obj
  have ty : s.TypeIs (.ref a) "set" := ⟨o, g1, g2.1⟩
  have main : ∀ {R : Bool → Shared → Prop}, R (hasK L k) { s with toks := s.toks + (k.length + 1) } → wpAny (model P w) A (contains (.ref a) (.ref x)) R E s := fun {R} r0 => by
    unfold contains
    try with_reducible refine wpAny_holding ?_
    refine wpAny_bind (wpAny_specialOf ty F.slot_set_contains.lookup ?_)
    show wpAny _ _ (if (some (Value.builtin "set.__contains__") == some Value.none) = true then _ else _) _ E s
    rw [if_neg (by rw [beq_builtin_none]; exact Bool.false_ne_true)]
    refine wpAny_bind (wpAny_callSpecialUnlessNone?_slot (name := Str.ofString "__contains__") ty F.slot_set_contains
      (wpAny_call_entry F.slot_set_contains ty entry_set_contains ?_ (F.args_set_contains_2 _ _)))
    unfold Builtin.«frozenset.__contains__» Builtin.Frozenset.oneOther
    simp only [List.isEmpty_nil, bind_assoc]
    unfold Builtin.Frozenset.addrOf Builtin.Frozenset.withSetAsKey setContains
    refine wpAny_bind (wpAny_pure ?_)
    try dsimp only
    refine wpAny_bind (wpAny_pure ?_)
    try dsimp only
    refine wpAny_bind (wpAny_tryCatch ?_)
    refine wpAny_holding ?_
    refine wpAny_bind (wpAny_pyHash_tuple ?_ kx ?_)
    · show A.units + 1 < cLine; omega
    · refine wpAny_bind (ps_find (s := { s with toks := s.toks + (k.length + 1) }) ⟨⟨o, g1, g2, g3⟩, Z.row, Z.lay, Z.dis, Z.key, Z.led, Z.gap, Z.cap⟩ kx ?_ fun r hr => ?_)
      · show A.units + 1 < cLine; omega
      · refine wpAny_pure ?_
        show wpAny _ _ (ret (Value.bool r.isSome)) _ _ _
        rw [hr]
        exact wpAny_pure ⟨_, rfl, wpAny_truthy_bool r0⟩
  cases neg with
  | false =>
    show wpAny _ _ (do return .bool (← contains (.ref a) (.ref x))) Q E s
    exact wpAny_bind (main (wpAny_pure (by rw [Bool.false_xor] at q; exact q)))
  | true =>
    show wpAny _ _ (do return .bool (!(← contains (.ref a) (.ref x)))) Q E s
    exact wpAny_bind (main (wpAny_pure (by rw [Bool.true_xor] at q; exact q)))
/-- the entries, taken in another order -/
theorem reorder {order : Array Nat} (hr : es.toList = ents P w L) (hp : order.toList.Perm (List.range L.length)) :
    ∃ M, (order.filterMap (es[·]?)).toList = ents P w M ∧ M.Perm L ∧ (M.map fun q => kh P w q.2) = order.toList.map fun i => (es.map (·.1)).getD i 0 := by
  have eg : ∀ i : Nat, es[i]? = (L[i]?).map fun q => (kh P w q.2, Value.ref q.1) := fun i => by
    rw [← Array.getElem?_toList, hr]
    unfold ents
    rw [List.getElem?_map]
  have lt : ∀ i ∈ order.toList, i < L.length := fun i m => List.mem_range.mp (hp.mem_iff.mp m)
  refine ⟨order.toList.filterMap fun i => L[i]?, ?_, ?_, ?_⟩
  · rw [Array.toList_filterMap]
    unfold ents
    rw [List.map_filterMap]
    congr 1
    funext i
    exact eg i
  · have h1 : (order.toList.filterMap fun i => L[i]?).Perm ((List.range L.length).filterMap fun i => L[i]?) := hp.filterMap _
    have h2 : ∀ n, n ≤ L.length → ((List.range n).filterMap fun i => L[i]?) = L.take n := fun n => by
      induction n with
      | zero => intro _; rfl
      | succ n ih =>
        intro hn
        rw [List.range_succ, List.filterMap_append, ih (by omega), List.take_add_one, List.getElem?_eq_getElem hn]
        congr 1
        rw [List.filterMap_cons_some (List.getElem?_eq_getElem hn)]
        rfl
    rw [h2 _ (Nat.le_refl _), List.take_length] at h1
    exact h1
  · have go : ∀ l : List Nat, (∀ i ∈ l, i < L.length) → ((l.filterMap fun i => L[i]?).map fun q => kh P w q.2) = l.map fun i => (es.map (·.1)).getD i 0 := by
      intro l
      induction l with
      | nil => intro _; rfl
      | cons i l ih =>
        intro hl
        have il := hl i List.mem_cons_self
        rw [List.filterMap_cons_some (List.getElem?_eq_getElem il), List.map_cons, List.map_cons, ih fun j m => hl j (List.mem_cons_of_mem _ m)]
        congr 1
        have e1 : (es.map (·.1))[i]? = some (kh P w (L[i]).2) := by
          rw [Array.getElem?_map, eg i, List.getElem?_eq_getElem il]
          rfl
        simp [Array.getD_eq_getD_getElem?, e1]
    exact go _ lt
theorem KT.but {h h' : Heap} {k : List Key} {a b : Addr} {o : Obj} {es : Array (Int × Value)} {ep : Nat} {t : SetTable} (kb : KT P w h k b) (ho : h.get? a = some o) (hd : o.data = .set es ep t) (sb : Heap.SameBut a h h') : KT P w h' k b := by
  obtain ⟨o2, arr, n, g1, g2, g3, g4⟩ := kb
  have ne : b ≠ a := fun z => by
    subst z
    rw [ho] at g1
    cases g1
    rw [hd] at g3
    cases g3
  exact ⟨o2, arr, n, (sb.2 b ne).trans g1, g2, g3, g4⟩
/-- what a table must keep when it is laid anew -/
structure ZS0 (P : Program) (w : World) (h : Heap) (a : Addr) (L : List (Addr × List Key)) (es : Array (Int × Value)) (ep : Nat) (t : SetTable) : Prop where
  obj : ∃ o, h.get? a = some o ∧ o.ExactSet ∧ o.data = .set es ep t
  row : es.toList = ents P w L
  siz : t.place.size = es.size
  dum : t.dummies = #[]
  fil : es.size ≤ t.mask
  dis : (L.map (·.2)).Nodup
  key : ∀ q ∈ L, KT P w h q.2 q.1
  led : w.params.followText "set-order" = true ∨ t.led = true
  cap : L.length ≤ 70
theorem relay (Z : ZS0 P w s.heap a L es ep t) {wanted M : Nat} (hw : SetTable.sizeAbove wanted - 1 = M) (hM : MaskOk M) (h128 : SetTable.sizeAbove wanted ≤ 128) (gap : L.length * 5 < M * 3) {Q : Unit → Shared → Prop}
    (q : ∀ h' N es' ep' t', Heap.SameBut a s.heap h' → ZS P w h' a N es' ep' t' → N.Perm L → Q () { s with heap := h' }) : wpAny (model P w) A (setRelay a wanted) Q E s := by
  obtain ⟨o, g1, g2, g3⟩ := Z.obj
  have sz := ents_size Z.row
  have fit : t.fits es.size = true := by
    have := Z.fil
    have z := Z.siz
    unfold SetTable.fits SetTable.fill
    rw [Z.dum, Bool.and_eq_true, beq_iff_eq, decide_eq_true_eq]
    show t.place.size = es.size ∧ t.place.size + 0 ≤ t.mask
    omega
  have cap := Z.cap
  obtain ⟨t2, order, e, hp, T, m2, l2, _, d2⟩ := relaid_ok t (hs := es.map (·.1)) (wanted := wanted) hw hM (by rw [Array.size_map, sz]; omega)
  rw [Array.size_map, sz] at hp
  obtain ⟨N, r1, r2, r3⟩ := reorder Z.row hp
  rw [← r3] at T
  have sz2 : (order.filterMap (es[·]?)).size = es.size := by rw [ents_size r1, r2.length_eq, sz]
  rw [setRelay_eq]
  refine wpAny_bind (wpAny_setState_of g1 g3 fit ?_)
  dsimp only
  refine wp_if_neg (by rw [sizeLine_eq]; omega) ?_
  try refine wpAny_bind (wpAny_pure ?_)
  rw [e]
  dsimp only
  refine wpAny_bind (wp_if_neg (by rw [sz2]; simp) ?_)
  try refine wpAny_bind (wpAny_pure ?_)
  refine wpAny_pure ?_
  dsimp only
  refine wpAny_storeSet_of g1 g3 ?_ (by rw [sz2, sz, sizeLine_eq]; omega)
  have sb : Heap.SameBut a s.heap (s.heap.update a (Obj.putSet (order.filterMap (es[·]?)) t2)) := Heap.SameBut.update ..
  exact q _ N _ (ep + 1) t2 sb ⟨⟨_, store_at g1 g3, ⟨g2.1, g2.2.1, g2.2.2⟩, rfl⟩, r1, T, (r2.map (·.2)).nodup_iff.mpr Z.dis, fun x m => (Z.key x (r2.mem_iff.mp m)).but g1 g3 sb, by rw [l2]; exact Z.led, by rw [r2.length_eq, m2]; exact gap, by rw [r2.length_eq]; exact cap⟩ r2
theorem ents_ins (L : List (Addr × List Key)) (p : Nat) (x : Addr) (k : List Key) : ents P w (L.take p ++ (x, k) :: L.drop p) = (ents P w L).take p ++ (kh P w k, Value.ref x) :: (ents P w L).drop p := by
  unfold ents
  rw [List.map_append, List.map_cons, List.map_take, List.map_drop]
theorem add_key (Z : ZS P w s.heap a L es ep t) {x : Addr} {k : List Key} (kx : KT P w s.heap k x) (room : A.units < cLine) (few : L.length + 1 ≤ 70) {Q : Bool → Shared → Prop}
    (q : ∀ b h' N es' ep' t', Heap.SameBut a s.heap h' → ZS P w h' a N es' ep' t' → (k ∈ L.map (·.2) → N = L) → (k ∉ L.map (·.2) → N.Perm ((x, k) :: L)) → Q b { s with heap := h' }) :
    wpAny (model P w) A (setAddHashed a (.ref x) (kh P w k)) Q E s := by
  obtain ⟨o, g1, g2, g3⟩ := Z.obj
  have sz := Z.size
  have gap := Z.gap
  unfold setAddHashed
  refine wpAny_holding ?_
  rw [show (100000 : Nat) = 99999 + 1 from rfl, setAddHashedIn_succ]
  refine wpAny_bind (wpAny_setState_of g1 g3 Z.fit ?_)
  dsimp only
  refine wp_if_neg (by simp [byScan, Value.scannable]) ?_
  try refine wpAny_bind (wpAny_pure ?_)
  refine wpAny_bind (seek_all Z true kx room (fun i m => ?_) fun N m hK hb => ?_)
  · dsimp only
    exact wpAny_pure (q false s.heap L es ep t (Heap.SameBut.refl a s.heap) Z (fun _ => rfl) fun z => absurd m z)
  · dsimp only
    refine wpAny_bind (wpAny_setState_of g1 g3 Z.fit ?_)
    dsimp only
    obtain ⟨u1, u2, u3, u4, u5, u6, u7, u8, u9⟩ := Z.lay.put hK hb
    generalize hpt : t.put (way t.mask (kh P w k) N) = pt at u1 u3 u4 u5 u6 u7 u8 u9 ⊢
    obtain ⟨t1, p⟩ := pt
    dsimp only at u1 u3 u4 u5 u6 u7 u8 u9 ⊢
    subst u1
    have hin : (SetTable.insertAt es (SetTable.below t.place (way t.mask (kh P w k) N)) (kh P w k, Value.ref x)).toList = ents P w (L.take (SetTable.below t.place (way t.mask (kh P w k) N)) ++ (x, k) :: L.drop (SetTable.below t.place (way t.mask (kh P w k) N))) := by
      rw [SetTable.toList_insertAt, ents_ins, Z.row]
    generalize SetTable.below t.place (way t.mask (kh P w k) N) = p at u2 u3 hin ⊢
    have pm : (L.take p ++ (x, k) :: L.drop p).Perm ((x, k) :: L) := put_perm L p (x, k)
    have ln : (L.take p ++ (x, k) :: L.drop p).length = L.length + 1 := pm.length_eq
    have hh : (L.take p ++ (x, k) :: L.drop p).map (fun q => kh P w q.2) = (L.map fun q => kh P w q.2).take p ++ kh P w k :: (L.map fun q => kh P w q.2).drop p := by
      rw [List.map_append, List.map_cons, List.map_take, List.map_drop]
    rw [← hh] at u3
    have nd : ((L.take p ++ (x, k) :: L.drop p).map (·.2)).Nodup := by
      refine (pm.map (·.2)).nodup_iff.mpr ?_
      rw [List.map_cons]
      exact List.nodup_cons.mpr ⟨m, Z.dis⟩
    have se : (SetTable.insertAt es p (kh P w k, Value.ref x)).size = L.length + 1 := by rw [ents_size hin, ln]
    generalize SetTable.insertAt es p (kh P w k, Value.ref x) = es1 at hin se ⊢
    generalize L.take p ++ (x, k) :: L.drop p = L1 at pm ln u3 nd hin
    -- whichever way the hash stands, the table is the same but for one mark
    have go : ∀ (t2 : SetTable), t2.place = t1.place → t2.dummies = t1.dummies → t2.mask = t1.mask → t2.led = t1.led → t2.fill = t1.fill →
        wpAny (model P w) A (do
          storeSet a es1 t2
          if !false && t2.tooFull then setRelay a (SetTable.grown (es.size + 1))
          return true) Q E s := fun t2 e1 e2 e3 e4 e5 => by
      have T2 : TabOk t2 (L1.map fun q => kh P w q.2) := ⟨by rw [e1]; exact u3.ris, by rw [e2]; exact u3.dm, by rw [e1]; exact u3.sz, by rw [e3]; exact u3.mok, by rw [e1, e3]; exact u3.bd, by rw [e1, e3]; exact u3.reach⟩
      refine wpAny_bind (wpAny_storeSet_of g1 g3 ?_ (by rw [se, sizeLine_eq]; omega))
      have sb : Heap.SameBut a s.heap (s.heap.update a (Obj.putSet es1 t2)) := Heap.SameBut.update ..
      have o1 := store_at (es' := es1) (t' := t2) g1 g3
      generalize s.heap.update a (Obj.putSet es1 t2) = h1 at sb o1 ⊢
      have keys : ∀ r ∈ L1, KT P w h1 r.2 r.1 := fun r mr => by
        rcases List.mem_cons.mp (pm.mem_iff.mp mr) with e | mr
        · rw [e]; exact kx.but g1 g3 sb
        · exact (Z.key r mr).but g1 g3 sb
      have led : w.params.followText "set-order" = true ∨ t2.led = true := by rw [e4, u5]; exact Z.led
      have fill : t2.fill = L.length + 1 := by rw [e5, u9, List.length_map]
      by_cases full : t2.tooFull = true
      · have hf : (L.length + 1) * 5 ≥ t2.mask * 3 := by
          have h := full
          unfold SetTable.tooFull at h
          rw [decide_eq_true_eq, fill] at h
          exact h
        rw [e3, u4] at hf
        have two : (t.mask = 7 ∧ L.length = 4) ∨ (t.mask = 31 ∧ L.length = 18) := by
          rcases Z.lay.mok with e | e | e
          · left; rw [e] at hf gap; exact ⟨e, by omega⟩
          · right; rw [e] at hf gap; exact ⟨e, by omega⟩
          · rw [e] at hf; omega
        have big : ∀ M, SetTable.sizeAbove (SetTable.grown (L.length + 1)) - 1 = M → MaskOk M → SetTable.sizeAbove (SetTable.grown (L.length + 1)) ≤ 128 → (L.length + 1) * 5 < M * 3 →
            wpAny (model P w) A (setRelay a (SetTable.grown (L.length + 1))) (fun _ z => wpAny (model P w) A (pure true) Q E z) E { s with heap := h1 } := fun M b1 b2 b3 b4 => by
          have p1 : t2.place.size = es1.size := by rw [T2.sz, List.length_map, ln, se]
          refine relay (s := { s with heap := h1 }) ⟨⟨_, o1, ⟨g2.1, g2.2.1, g2.2.2⟩, rfl⟩, hin, p1, T2.dm, by rw [se, e3, u4]; rcases two with ⟨e, e6⟩ | ⟨e, e6⟩ <;> omega, nd, keys, led, by rw [ln]; exact few⟩ b1 b2 b3 (by rw [ln]; exact b4) ?_
          intro h2 N2 es2 ep2 t3 sb2 Z2 pm2
          exact wpAny_pure (q true h2 N2 es2 ep2 t3 (sb.trans sb2) Z2 (fun z => absurd z m) fun _ => pm2.trans pm)
        first
          | (refine wpAny_bind ?_; refine wp_if_pos (by simp [full]) ?_; rw [sz])
          | (refine wp_if_pos (by simp [full]) ?_; refine wpAny_bind ?_; rw [sz])
        rcases two with ⟨_, e6⟩ | ⟨_, e6⟩
        · exact big 31 (by rw [e6, size_20]) (.inr (.inl rfl)) (by rw [e6, size_20]; decide) (by omega)
        · exact big 127 (by rw [e6, size_76]) (.inr (.inr rfl)) (by rw [e6, size_76]; decide) (by omega)
      · have nf : (L.length + 1) * 5 < t2.mask * 3 := by
          have h := full
          unfold SetTable.tooFull at h
          rw [decide_eq_true_eq, fill] at h
          omega
        first
          | refine wp_if_neg (by simp [full]) ?_
          | (refine wpAny_bind ?_; refine wp_if_neg (by simp [full]) ?_; refine wpAny_pure ?_)
        exact wpAny_pure (q true h1 L1 es1 (ep + 1) t2 sb ⟨⟨_, o1, ⟨g2.1, g2.2.1, g2.2.2⟩, rfl⟩, hin, T2, nd, keys, led, by rw [ln]; exact nf, by rw [ln]; exact few⟩ (fun z => absurd z m) fun _ => pm)
    have end1 : ∀ c : Bool, wpAny (model P w) A (do
          storeSet a es1 (if c = true then t1 else { t1 with plain := false })
          if !false && (if c = true then t1 else { t1 with plain := false }).tooFull then setRelay a (SetTable.grown (es.size + 1))
          return true) Q E s := fun c => by
      cases c with
      | true => exact go t1 rfl rfl rfl rfl rfl
      | false => exact go { t1 with plain := false } rfl rfl rfl rfl rfl
    by_cases pl : t1.plain = true
    · exact wp_if_pos pl (wpAny_bind (hbv kx fun c => end1 c))
    · first
        | exact wp_if_neg pl (end1 true)
        | exact wp_if_neg pl (wpAny_bind (wpAny_pure (end1 true)))
/-- set.add -/
theorem call_add (Z : ZS P w s.heap a L es ep t) {x : Addr} {k : List Key} (kx : KT P w s.heap k x) (room : A.units + 64 < cLine) (few : L.length + 1 ≤ 70) {Q : Value → Shared → Prop}
    (q : ∀ h' N es' ep' t', Heap.SameBut a s.heap h' → ZS P w h' a N es' ep' t' → (k ∈ L.map (·.2) → N = L) → (k ∉ L.map (·.2) → N.Perm ((x, k) :: L)) → Q .none { s with heap := h', toks := s.toks + (k.length + 1) }) :
    wpAny (model P w) A (call (.builtin "set.add") [.ref a, .ref x]) Q E s := by
  obtain ⟨o, g1, g2, g3⟩ := Z.obj
  have ty : s.TypeIs (.ref a) "set" := ⟨o, g1, g2.1⟩
  refine wpAny_call_entry F.slot_set_add ty F.entry_set_add ?_ (F.args_set_add_2 _ _)
  unfold Builtin.«set.add» Builtin.Frozenset.oneOther
  simp only [List.isEmpty_nil, bind_assoc]
  unfold Builtin.Frozenset.addrOf setAdd
  refine wpAny_bind (wpAny_pure ?_)
  try dsimp only
  refine wpAny_bind (wpAny_pure ?_)
  try dsimp only
  refine wpAny_bind (wpAny_holding (wpAny_bind (wpAny_pyHash_tuple (by show A.units + 1 < cLine; omega) kx ?_)))
  refine add_key (s := { s with toks := s.toks + (k.length + 1) }) ⟨⟨o, g1, g2, g3⟩, Z.row, Z.lay, Z.dis, Z.key, Z.led, Z.gap, Z.cap⟩ kx (by show A.units + 1 < cLine; omega) few fun b h' N es' ep' t' sb Z' y n => ?_
  show wpAny _ _ (ret Value.none) _ _ _
  exact wpAny_pure ⟨_, rfl, q h' N es' ep' t' sb Z' y n⟩
/-- a new set -/
theorem ps_new {h : Heap} (ho : h.get? a = some { cls := .type "set", dict := none, data := .set #[] 0 (.fresh 0 0 (!w.params.followText "set-order")) }) : ZS P w h a [] #[] 0 (.fresh 0 0 (!w.params.followText "set-order")) where
  obj := ⟨_, ho, ⟨rfl, rfl, rfl⟩, rfl⟩
  row := rfl
  lay := ⟨List.Pairwise.nil, rfl, rfl, .inl rfl, fun x hx => (by cases hx), fun i h j hi => (by simp at hi)⟩
  dis := List.nodup_nil
  key := fun p hp => (by cases hp)
  led := by
    show _ ∨ (!w.params.followText "set-order") = true
    cases w.params.followText "set-order"
    · exact .inr rfl
    · exact .inl rfl
  gap := by show 0 * 5 < 7 * 3; decide
  cap := by show 0 ≤ 70; decide
end
/-! ### such a set as a thing of the abstract heap -/
/-- the set, without the tuples themselves -/
def ZS1 (P : Program) (w : World) (h : Heap) (a : Addr) (L : List (Addr × List Key)) : Prop := ∃ (es : Array (Int × Value)) (ep : Nat) (t : SetTable), (∃ o, h.get? a = some o ∧ o.ExactSet ∧ o.data = .set es ep t) ∧ es.toList = ents P w L ∧ TabOk t (L.map fun q => kh P w q.2) ∧
  (L.map (·.2)).Nodup ∧ (w.params.followText "set-order" = true ∨ t.led = true) ∧ L.length * 5 < t.mask * 3 ∧ L.length ≤ 70
def SetPO (P : Program) (w : World) (a : Addr) (L : List (Addr × List Key)) : HO := .ext fun h => ZS1 P w h a L
theorem ZS.one {P : Program} {w : World} {h : Heap} {a : Addr} {L : List (Addr × List Key)} {es : Array (Int × Value)} {ep : Nat} {t : SetTable} (Z : ZS P w h a L es ep t) : ZS1 P w h a L := ⟨es, ep, t, Z.obj, Z.row, Z.lay, Z.dis, Z.led, Z.gap, Z.cap⟩
theorem ZS1.full {P : Program} {w : World} {h : Heap} {a : Addr} {L : List (Addr × List Key)} (Z : ZS1 P w h a L) (k : ∀ q ∈ L, KT P w h q.2 q.1) : ∃ es ep t, ZS P w h a L es ep t := by
  obtain ⟨es, ep, t, h1, h2, h3, h4, h5, h6, h7⟩ := Z
  exact ⟨es, ep, t, h1, h2, h3, h4, k, h5, h6, h7⟩
theorem setPO_ok {P : Program} {w : World} {H : Hp} {h : Heap} {a : Addr} {L : List (Addr × List Key)} (Z : ZS1 P w h a L) : ObjOk P w H h a (SetPO P w a L) := by
  have ⟨es, ep, t, ⟨o, ho, r⟩, q⟩ := Z
  refine ⟨Z, ⟨o, ho⟩, fun h1 h2 ⟨es', ep', t', ⟨o', ho', r'⟩, q'⟩ k => ⟨es', ep', t', ⟨o', k o' ho', r'⟩, q'⟩⟩
theorem items_keys {P : Program} {w : World} : ∀ {k : List Key} {us : List Value}, Vals (k.map kV) us → ItemsAre (mixKind P w) k us
  | [], _, .nil => .nil
  | _ :: _, _, .cons r t => .cons (kV_is r) (items_keys t)
section
variable {X : Cx} {pins : List (Addr × Obj)} {σ : L2.St} {H : Hp} {s : Shared}
theorem kt_of {b : Addr} {k : List Key} (I : Inv X pins σ H s) (h : SqT X.K H b (k.map kV)) : KT X.prog X.w s.heap k b := by
  obtain ⟨its, r, ⟨o, ho, hc, n, hd⟩, _⟩ := I.tuple h
  exact ⟨o, its.toArray, n, ho, hc, hd, by simpa using items_keys r⟩
/-- its tuples stand in the abstract heap -/
def Tups (K : PySem.W.Frag) (H : Hp) (L : List (Addr × List Key)) : Prop := ∀ q ∈ L, SqT K H q.1 (q.2.map kV)
theorem ps_of {a : Addr} {L : List (Addr × List Key)} (I : Inv X pins σ H s) (ha : H a = some (SetPO X.prog X.w a L)) (hk : Tups X.K H L) : ∃ es ep t, ZS X.prog X.w s.heap a L es ep t :=
  ((show ZS1 X.prog X.w s.heap a L from (I.hok a _ ha).1)).full fun q m => kt_of I (hk q m)
/-- set() -/
def rSetNew (P : Program) (w : World) : List V → Hp → VK → Prop := fun xs H Q => xs = [] ∧ ∀ p, H p = none → Q (.ref p) (upd H p (SetPO P w p []))
theorem cr_setNew : CallR X (.type "set") (rSetNew X.prog X.w) := by
  intro pins s σ H xs us Q I r h
  obtain ⟨rfl, q⟩ := h
  cases r
  refine setR_new fun _ => ?_
  have nw : ZS1 X.prog X.w (s.heap.push { cls := .type "set", dict := none, data := .set #[] 0 (.fresh 0 0 (!X.w.params.followText "set-order")) }) s.heap.objs.size [] := (ps_new (Heap.get?_push_size _ rfl)).one
  exact ⟨.ref _, upd H s.heap.objs.size (SetPO X.prog X.w s.heap.objs.size []), I.laid (t' := s.toks) (fun b u e => Heap.get?_push_of_some _ e) (Nat.le_refl _) (setPO_ok nw), rfl, q _ (I.hok.fresh (Nat.le_refl _))⟩
/-- t in s, t not in s -/
def rSetIn (K : PySem.W.Frag) (P : Program) (w : World) (neg : Bool) : R2 := fun x y H Q => ∃ (b a : Addr) (k : List Key) (L : List (Addr × List Key)), x = .ref b ∧ y = .ref a ∧ SqT K H b (k.map kV) ∧ H a = some (SetPO P w a L) ∧ Tups K H L ∧ Q (.bl (xor neg (hasK L k))) H
theorem op_setIn (hu : X.A.units + 190 < cLine) : OpR X (compareOp .In) (rSetIn X.K X.prog X.w false) := by
  intro pins s σ H x y v u Q I rx ry h
  obtain ⟨b, a, k, L, rfl, rfl, hb, ha, hk, q⟩ := h
  obtain rfl : v = Value.ref b := rx
  obtain rfl : u = Value.ref a := ry
  obtain ⟨es, ep, t, Z⟩ := ps_of I ha hk
  exact in_set false Z (kt_of I hb) (by omega) ⟨.bl _, H, I.tok _, rfl, q⟩
theorem op_setNin (hu : X.A.units + 190 < cLine) : OpR X (compareOp .NotIn) (rSetIn X.K X.prog X.w true) := by
  intro pins s σ H x y v u Q I rx ry h
  obtain ⟨b, a, k, L, rfl, rfl, hb, ha, hk, q⟩ := h
  obtain rfl : v = Value.ref b := rx
  obtain rfl : u = Value.ref a := ry
  obtain ⟨es, ep, t, Z⟩ := ps_of I ha hk
  exact in_set true Z (kt_of I hb) (by omega) ⟨.bl _, H, I.tok _, rfl, q⟩
/-- s.add(t) -/
def rSetAdd (K : PySem.W.Frag) (P : Program) (w : World) : V → List V → Hp → VK → Prop := fun x xs H Q => ∃ (a b : Addr) (k : List Key) (L : List (Addr × List Key)), x = V.ref a ∧ xs = [V.ref b] ∧ SqT K H b (k.map kV) ∧ H a = some (SetPO P w a L) ∧ Tups K H L ∧ L.length + 1 ≤ 70 ∧
  ∀ N, (k ∈ L.map (·.2) → N = L) → (k ∉ L.map (·.2) → N.Perm ((b, k) :: L)) → Q .non (upd H a (SetPO P w a N))
theorem mt_setAdd (hu : X.A.units + 190 < cLine) : MtR X "set.add" (rSetAdd X.K X.prog X.w) := by
  intro pins s σ H x xs v us Q I rx rxs h
  obtain ⟨a, b, k, L, rfl, rfl, hb, ha, hk, few, q⟩ := h
  cases rx
  rw [Vals.ref1 rxs]
  obtain ⟨es, ep, t, Z⟩ := ps_of I ha hk
  refine call_add Z (kt_of I hb) (by omega) few fun h' N es' ep' t' sb Z' y n => ?_
  have he : ∃ o, h'.get? a = some o := let ⟨o, ho, _⟩ := Z'.obj; ⟨o, ho⟩
  exact ⟨.non, upd H a (SetPO X.prog X.w a N), I.write (e := a) (t' := s.toks + (k.length + 1)) (by rw [ha]; trivial) (.inl rfl) (fun b u hb hu => (sb.2 b hb).trans hu) he (setPO_ok Z'.one), rfl, q N y n⟩
end
/-- a pair of texts as a key -/
def keyP (p : Str × Str) : List Key := [.inr p.1, .inr p.2]
/-- the set at L holds the pairs ps -/
def PairL (K : PySem.W.Frag) (H : Hp) (L : List (Addr × List Key)) (ps : List (Str × Str)) : Prop := (L.map (·.2)).Perm (ps.map keyP) ∧ (∀ q ∈ L, BT K H q.1 (q.2.map kV)) ∧ ps.Nodup
theorem PairL.stay {K : PySem.W.Frag} {H H' : Hp} {L : List (Addr × List Key)} {ps : List (Str × Str)} (q : PairL K H L ps) (k : ∀ a xs o, H a = some (.frz o (.tup xs)) → H' a = some (.frz o (.tup xs))) : PairL K H' L ps :=
  ⟨q.1, fun x m => (q.2.1 x m).elim (fun ⟨o, h, d⟩ => .inl ⟨o, k _ _ o h, d⟩) .inr, q.2.2⟩
end DL
set_option Elab.async false
set_option linter.all false
set_option maxRecDepth 100000
set_option maxHeartbeats 4000000
namespace DL
open PySem PySem.Spec PyProof.Rows L2
/-! ### dictionaries whose keys are tuples of texts and ints and whose values are all True -/
def rowsT (L : List (Addr × List Key)) : List (List Key × Addr × Value) := L.map fun q => (q.2, q.1, Value.bool true)
def DT1 (P : Program) (w : World) (h : Heap) (a : Addr) (L : List (Addr × List Key)) : Prop := (a == sysModules) = false ∧ L.length ≤ sizeLine ∧
  (∃ o es ep, h.get? a = some o ∧ o.ExactDict ∧ o.data = .dict es ep ∧ es.toList = (rowsT L).map (entryOfKey (tupleKind (mixKind P w)))) ∧ (L.map (·.2)).Nodup
def DicPO (P : Program) (w : World) (a : Addr) (L : List (Addr × List Key)) : HO := .ext fun h => DT1 P w h a L
theorem rowsT_keys (L : List (Addr × List Key)) : (rowsT L).map (·.1) = L.map (·.2) := by
  unfold rowsT
  rw [List.map_map]
  rfl
theorem DT1.full {P : Program} {w : World} {h : Heap} {a : Addr} {L : List (Addr × List Key)} (Z : DT1 P w h a L) (k : ∀ q ∈ L, KT P w h q.2 q.1) : h.DictOfH (tupleKind (mixKind P w)) a (rowsT L) := by
  obtain ⟨_, _, ⟨o, es, ep, h1, h2, h3, h4⟩, nd⟩ := Z
  refine ⟨o, es, ep, h1, h2, h3, h4, fun x hx => ?_, by rw [rowsT_keys]; exact nd⟩
  obtain ⟨q, mq, e⟩ := List.mem_map.mp hx
  rw [← e]
  exact k q mq
theorem dicPO_ok {P : Program} {w : World} {H : Hp} {h : Heap} {a : Addr} {L : List (Addr × List Key)} (Z : DT1 P w h a L) : ObjOk P w H h a (DicPO P w a L) := by
  have ⟨z1, z2, ⟨o, es, ep, h1, r⟩, nd⟩ := Z
  exact ⟨Z, ⟨o, h1⟩, fun g1 g2 ⟨y1, y2, ⟨o', es', ep', e', r'⟩, nd'⟩ k => ⟨y1, y2, ⟨o', es', ep', k o' e', r'⟩, nd'⟩⟩
theorem dic_new {P : Program} {w : World} {h : Heap} (hb : sysModules < h.objs.size) : DT1 P w (h.push { cls := .type "dict", data := .dict #[] }) h.objs.size [] :=
  ⟨by rw [beq_eq_false_iff_ne]; exact fun z => absurd hb (by rw [z]; exact Nat.lt_irrefl _), Nat.zero_le _, ⟨_, #[], 0, Heap.get?_push_size _ rfl, ⟨rfl, rfl, rfl⟩, rfl, rfl⟩, List.nodup_nil⟩
section
variable {X : Cx} {pins : List (Addr × Obj)} {σ : L2.St} {H : Hp} {s : Shared}
theorem dic_of {a : Addr} {L : List (Addr × List Key)} (I : Inv X pins σ H s) (ha : H a = some (DicPO X.prog X.w a L)) (hk : Tups X.K H L) : DT1 X.prog X.w s.heap a L ∧ s.heap.DictOfH (tupleKind (mixKind X.prog X.w)) a (rowsT L) :=
  have Z := (show DT1 X.prog X.w s.heap a L from (I.hok a _ ha).1)
  ⟨Z, Z.full fun q m => kt_of I (hk q m)⟩
theorem at_rows {L : List (Addr × List Key)} {k : List Key} : (atKey (rowsT L) k).isSome = hasK L k := by
  unfold rowsT hasK
  induction L with
  | nil => rfl
  | cons q L ih =>
    rw [List.map_cons, List.any_cons, ← ih]
    unfold atKey
    by_cases c : q.2 = k
    · simp [c]
    · simp [c]
/-- a locked one -/
theorem dic_frz {a : Addr} {od : Obj} {L : List (Addr × List Key)} (I : Inv X pins σ H s) (ha : H a = some (.frz od (DicPO X.prog X.w a L))) (hk : Tups X.K H L) : s.heap.get? a = some od ∧ DT1 X.prog X.w s.heap a L ∧ s.heap.DictOfH (tupleKind (mixKind X.prog X.w)) a (rowsT L) :=
  have Z := I.hok a _ ha
  ⟨Z.1, Z.2.1, (show DT1 X.prog X.w s.heap a L from Z.2.1).full fun q m => kt_of I (hk q m)⟩
/-- t in d, t not in d -/
def rDicIn (K : PySem.W.Frag) (P : Program) (w : World) (neg : Bool) : R2 := fun x y H Q => ∃ (b a : Addr) (k : List Key) (od : Obj) (L : List (Addr × List Key)), x = .ref b ∧ y = .ref a ∧ SqT K H b (k.map kV) ∧ H a = some (.frz od (DicPO P w a L)) ∧ Tups K H L ∧ Q (.bl (xor neg (hasK L k))) H
theorem op_dicIn (hu : X.A.units + 190 < cLine) : OpR X (compareOp .In) (rDicIn X.K X.prog X.w false) := by
  intro pins s σ H x y v u Q I rx ry h
  obtain ⟨b, a, k, od, L, rfl, rfl, hb, ha, hk, q⟩ := h
  obtain rfl : v = Value.ref b := rx
  obtain rfl : u = Value.ref a := ry
  obtain ⟨_, Z, Z2⟩ := dic_frz I ha hk
  refine wpAny_in_heap (knd := tupleKind (mixKind X.prog X.w)) (tupleKind_room_in1 (by omega)) (kt_of I hb) Z.1 Z2 ?_
  rw [at_rows]
  rw [Bool.false_xor] at q
  exact ⟨.bl _, H, I.tok _, rfl, q⟩
theorem op_dicNin (hu : X.A.units + 190 < cLine) : OpR X (compareOp .NotIn) (rDicIn X.K X.prog X.w true) := by
  intro pins s σ H x y v u Q I rx ry h
  obtain ⟨b, a, k, od, L, rfl, rfl, hb, ha, hk, q⟩ := h
  obtain rfl : v = Value.ref b := rx
  obtain rfl : u = Value.ref a := ry
  obtain ⟨_, Z, Z2⟩ := dic_frz I ha hk
  refine wpAny_notIn_heap (knd := tupleKind (mixKind X.prog X.w)) (tupleKind_room_in1 (by omega)) (kt_of I hb) Z.1 Z2 ?_
  rw [at_rows]
  rw [Bool.true_xor] at q
  exact ⟨.bl _, H, I.tok _, rfl, q⟩
/-- d[t] = True -/
def putT (L : List (Addr × List Key)) (b : Addr) (k : List Key) : List (Addr × List Key) := if hasK L k then L else L ++ [(b, k)]
theorem putT_rows (L : List (Addr × List Key)) (b : Addr) (k : List Key) : storedH (rowsT L) k b (.bool true) = rowsT (putT L b k) := by
  unfold storedH putT
  rw [at_rows]
  cases hasK L k with
  | true =>
    simp only [if_true]
    unfold rowsT
    rw [List.map_map]
    refine List.map_congr_left fun q _ => ?_
    show putAt k _ _ = _
    unfold putAt
    split
    · rename_i e; simp_all
    · rfl
  | false =>
    simp only [Bool.false_eq_true, if_false]
    unfold rowsT
    rw [List.map_append]
    rfl
theorem putT_keys {L : List (Addr × List Key)} {b : Addr} {k : List Key} (nd : (L.map (·.2)).Nodup) : ((putT L b k).map (·.2)).Nodup := by
  unfold putT
  cases h : hasK L k with
  | true => simpa using nd
  | false =>
    simp only [Bool.false_eq_true, if_false]
    rw [List.map_append]
    refine List.nodup_append.mpr ⟨nd, by simp, fun x hx y hy z => ?_⟩
    have hy : y ∈ [k] := hy
    rw [List.mem_singleton] at hy
    rw [z, hy] at hx
    rw [hasK_iff.mpr hx] at h
    cases h
theorem d_dicSet {E : Value → Shared → Prop} {D b : Addr} {L : List (Addr × List Key)} {k : List Key} {Q : Unit → Shared → Prop} (hu : X.A.units + 190 < cLine) (I : Inv X pins σ H s) (hD : H D = some (DicPO X.prog X.w D L)) (hk : Tups X.K H L) (hb : SqT X.K H b (k.map kV)) (hz : L.length < sizeLine)
    (h : ∀ s', Inv X pins σ (upd H D (DicPO X.prog X.w D (putT L b k))) s' → Q () s') : wpAny (model X.prog X.w) X.A (dictSet D (.ref b) (.bool true)) Q E s := by
  obtain ⟨Z, Z2⟩ := dic_of I hD hk
  have hl : (rowsT L).length ≤ sizeLine := by unfold rowsT; rw [List.length_map]; omega
  refine wpAny_dictSet_heap (knd := tupleKind (mixKind X.prog X.w)) (hsz := hl) (show X.A.units < cLine by omega) (kt_of I hb) Z2 fun h' dd hs => h _ ?_
  rw [putT_rows] at dd
  obtain ⟨o, es, ep, d1, d2, d3, d4, _, _⟩ := dd
  have new : DT1 X.prog X.w h' D (putT L b k) := ⟨Z.1, by
    unfold putT
    split
    · exact Nat.le_of_lt hz
    · rw [List.length_append]
      exact hz, ⟨o, es, ep, d1, d2, d3, d4⟩, putT_keys Z.2.2.2⟩
  exact I.write (e := D) (by rw [hD]; trivial) (.inl rfl) (fun c u hc e => (hs.2 c hc).trans e) ⟨o, d1⟩ (dicPO_ok new)
end
/-- the dictionary at L has the pairs ps as its keys, in their order -/
def PairD (K : PySem.W.Frag) (H : Hp) (L : List (Addr × List Key)) (ps : List (Str × Str)) : Prop := L.map (·.2) = ps.map keyP ∧ (∀ q ∈ L, BT K H q.1 (q.2.map kV)) ∧ ps.Nodup
theorem PairD.stay {K : PySem.W.Frag} {H H' : Hp} {L : List (Addr × List Key)} {ps : List (Str × Str)} (q : PairD K H L ps) (k : ∀ a xs o, H a = some (.frz o (.tup xs)) → H' a = some (.frz o (.tup xs))) : PairD K H' L ps :=
  ⟨q.1, fun x m => (q.2.1 x m).elim (fun ⟨o, h, d⟩ => .inl ⟨o, k _ _ o h, d⟩) .inr, q.2.2⟩
end DL
set_option Elab.async false
set_option linter.all false
set_option maxRecDepth 100000
set_option maxHeartbeats 4000000
namespace DL
open PySem PySem.Spec PyProof.Rows L2
/-! ### a dictionary comprehension, whatever its keys are: how the dictionary starts, what a turn puts into it -/
/-- what stands at the new dictionary, how an entry is put: over any context of the same program -/
structure Puts (X : Cx) where
  start : Addr → HO
  put : V → V → Addr → Hp → (Hp → Prop) → Prop
  fresh : ∀ (H : Hp) (h : Heap), sysModules < h.objs.size → ObjOk X.prog X.w H (h.push { cls := .type "dict", data := .dict #[] }) h.objs.size (start h.objs.size)
  step : ∀ (X' : Cx) (pins : List (Addr × Obj)) (σ : L2.St) (H : Hp) (s : Shared) (y z : V) (u r : Value) (D : Addr) (Nx : Hp → Prop) (Q : Unit → Shared → Prop) (E : Value → Shared → Prop), X'.prog = X.prog → X'.w = X.w → X'.K = X.K → X'.A = X.A → Inv X' pins σ H s → RelV y u → RelV z r → put y z D H Nx →
    (∀ H' s', Inv X' pins σ H' s' → Nx H' → Q () s') → wpAny (model X'.prog X'.w) X'.A (dictSet D u r) Q E s
section
variable {X : Cx}
/-- the dictionary, locked as soon as it is whole -/
def tDg (B : Puts X) (wi : TI) (g : TG) (tt : TT) (tk tv : TE) (vs : List Nat) : TE := fun σ H Q => wi σ H fun J H1 => ∀ D, H1 D = none → ∃ W : Nat → Nat → Hp → Prop, (∃ m, W 0 m (upd H1 D (B.start D))) ∧ ∀ i m H, W i m H →
  (J.stop i H ∧ ∃ u, H D = some u ∧ Mut (some u) ∧ ∀ od, Q (.ref D) (upd H D (.frz od u))) ∨ (J.go i H ∧ ∃ Nx : Hp → Prop, (∀ H', Nx H' → ∃ m', m' < m ∧ W (i + 1) m' H') ∧ ∀ x H', J.yld i H x H' → g x (wipe σ vs) H' fun σ2 H2 => wipe σ2 vs = wipe σ vs ∧ tt σ2 H2 fun b H3 =>
    if b = true then tk σ2 H3 fun y H4 => tv σ2 H4 fun z H5 => B.put y z D H5 Nx else Nx H3)
/-- the comprehension, over any way of putting -/
theorem dg_core (B : Puts X) {pins : List (Addr × Obj)} {s0 : Shared} {σ : L2.St} {H0 : Hp} {Q : VK} {kx vx tg iter : Expr} {ifs : List Expr} {scope : Scope} {own : List (Str × Nat)} {pos pos' : Pos} {wi : TI} {g : TG} {tt : TT} {tk tv : TE} {use : Option (Value → Sem Unit)} {Qf : Value → Shared → Prop} (calm : X.calm = true) (nd : X.N.Nodup) (walk : PI X tg iter wi) (blk : BlkOk X.N X.env.scope scope own)
    (pg : ∀ (s : Shared) (H : Hp) (C : Addr) (cl : List (Str × Addr)) (fp : List Addr), PG (X.blk s H scope (compEnvC scope cl C X.env) fp) tg g) (pt : ∀ (s : Shared) (H : Hp) (C : Addr) (cl : List (Str × Addr)) (fp : List Addr), PTs (X.blk s H scope (compEnvC scope cl C X.env) fp) ifs tt)
    (pk : ∀ (s : Shared) (H : Hp) (C : Addr) (cl : List (Str × Addr)) (fp : List Addr), PE (X.blk s H scope (compEnvC scope cl C X.env) fp) kx tk)
    (pv : ∀ (s : Shared) (H : Hp) (C : Addr) (cl : List (Str × Addr)) (fp : List Addr), PE (X.blk s H scope (compEnvC scope cl C X.env) fp) vx tv) (fold : ∀ x, foldedSetIterable iter X.env x = pure x) (I0 : Inv X pins σ H0 s0) (pre : tDg B wi g tt tk tv (own.map (·.2)) σ H0 Q)
    (hRR : ∀ D C s' m H', Inv X pins σ H' s' → Q (.ref D) H' → s'.heap.Ns C m → FpOk X pins H' C → compPost (model X.prog X.w) X.A X.xe use Qf (.ref D) C (.ok .next) s') :
    wpAny (model X.prog X.w) X.A (comprehension (.DictComp kx vx [⟨tg, iter, ifs, 0⟩] scope pos) scope X.env pos' newDict false (eval iter X.env) use) Qf X.xe s0 := by
  have cells : ∀ y ∈ scope.names, y.2 = .free → ∃ c, X.env.cells.lookup y.1 = some c := fun y my ey => (blk.free y my ey).elim (fun k => I0.ok.has _ (.inl k)) fun k => I0.ok.has _ (.inr k)
  refine wpAny_comprehension_free (use := use) rfl fold (closure_ok cells) blk.kind (fun y my ey => by rw [blk.uniq y my, ey]) (thn (walk.run pins s0 σ H0 _ I0 pre) fun xv sA hA => thn hA fun iv sB hB => ?_)
  obtain ⟨it, fp, tn, J, HB, rfl, IB, T, tB, fB, next⟩ := hB
  refine wpAny_newObj_type (newEnv_comp ?_)
  -- D: the new dictionary
  have freeD : HB sB.heap.objs.size = none := IB.hok.fresh (Nat.le_refl _)
  obtain ⟨W, ⟨m0, w0⟩, turn⟩ := next _ freeD
  have grow : ∀ b o, sB.heap.get? b = some o → (sB.heap.push { cls := .type "dict", data := .dict #[] }).get? b = some o := fun b o e => Heap.get?_push_of_some _ e
  have IC : Inv X pins σ (upd HB sB.heap.objs.size (B.start sB.heap.objs.size)) { sB with heap := sB.heap.push { cls := .type "dict", data := .dict #[] } } :=
    IB.laid (t' := sB.toks) grow (Nat.le_refl _) (B.fresh _ _ IB.big)
  have old : ∀ b ∈ fp, b < sB.heap.objs.size := fun b mb => let ⟨_, e, _⟩ := T.obj _ _ tB b mb; Heap.lt_size e
  generalize hD : sB.heap.objs.size = D at *
  generalize hC : ({ sB with heap := sB.heap.push { cls := .type "dict", data := .dict #[] } } : Shared) = sC at *
  have heapC : sC.heap = sB.heap.push { cls := .type "dict", data := .dict #[] } := by rw [← hC]
  generalize hH : upd HB D (B.start D) = HC at *
  have fC : ∀ b ∈ fp, FpOk X pins HC b ∧ b < sC.heap.objs.size := fun b mb => by
    have lt := old b mb
    refine ⟨⟨?_, (fB b mb).2⟩, by rw [heapC, Heap.size_push, hD]; exact Nat.lt_succ_of_lt lt⟩
    rw [← hH, upd_ne (Nat.ne_of_lt lt)]
    exact (fB b mb).1
  have tC : tn 0 sC.heap := T.keep _ _ _ tB fun b _ o e => by rw [heapC]; exact grow b o e
  have ID := block_start IC blk nd fC
  have qg := pg sC HC sC.heap.objs.size (cellsFrom (sC.heap.objs.size + 1) scope.names (cloFrom X.env.cells scope.names [])) fp
  have qt := pt sC HC sC.heap.objs.size (cellsFrom (sC.heap.objs.size + 1) scope.names (cloFrom X.env.cells scope.names [])) fp
  have qk := pk sC HC sC.heap.objs.size (cellsFrom (sC.heap.objs.size + 1) scope.names (cloFrom X.env.cells scope.names [])) fp
  have qv := pv sC HC sC.heap.objs.size (cellsFrom (sC.heap.objs.size + 1) scope.names (cloFrom X.env.cells scope.names [])) fp
  have nC : ∀ b ∈ fp, HC b = none := fun b mb => (fC b mb).1.1
  show codeAny _ _ (.compStart (.DictComp kx vx [⟨tg, iter, ifs, 0⟩] scope pos) 0 (.ref it) (.ref D) (compEnvC scope (cellsFrom (sC.heap.objs.size + 1) scope.names (cloFrom X.env.cells scope.names [])) sC.heap.objs.size X.env)) _ { sC with heap := pushCells (sC.heap.push { cls := .type "dict", data := .dict #[] }) scope.names }
  generalize hE : compEnvC scope (cellsFrom (sC.heap.objs.size + 1) scope.names (cloFrom X.env.cells scope.names [])) sC.heap.objs.size X.env = ce at ID qg qt qk qv ⊢
  have locE : ce.locals = sC.heap.objs.size := by rw [← hE] <;> rfl
  generalize hS : ({ sC with heap := pushCells (sC.heap.push { cls := .type "dict", data := .dict #[] }) scope.names } : Shared) = sD at ID ⊢
  have tD : tn 0 sD.heap := T.keep _ _ _ tC fun b _ o e => by rw [← hS]; exact pushCells_keeps _ _ _ _ (Heap.get?_push_of_some _ e)
  have own' : ∀ {τ : L2.St} {H' : Hp} {s' : Shared}, Inv (X.blk sC HC scope ce fp) [] τ H' s' → (∀ b ∈ fp, H' b = none) → ∀ b ∈ fp, FpOk (X.blk sC HC scope ce fp) [] H' b := fun {τ H' s'} I' hn b mb =>
    ⟨hn b mb, (I'.ok.exf b mb).1, I'.ok.exfs b mb, .inl mb, fun x c e => (I'.ok.exf b mb).2 x c e, fun p mp => absurd (show p ∈ ([] : List (Addr × Obj)) ++ [] from mp) (by simp)⟩
  refine (fun loop => codeAny_compStart_dict loop (T.self X.A 0 _ _ _ tD loop)) ?_
  refine compLoop_anyD (fun n s' => ∃ i H', Inv (X.blk sC HC scope ce fp) [] (wipe σ (own.map (·.2))) H' s' ∧ tn i s'.heap ∧ (∀ b ∈ fp, H' b = none) ∧ W i n H') ?_ m0 ⟨0, HC, ID, tD, nC, w0⟩
  rintro n sE ⟨i, HE, IE, tE, nE, wE⟩
  rcases turn i n HE wE with ⟨stop, fin⟩ | ⟨go, Nx, less, body⟩
  · refine thnF (T.done (X.blk sC HC scope ce fp) rfl rfl rfl calm i [] sE _ HE (fun _ _ => False) IE (own' IE nE) tE stop) fun r sF ⟨er, IF⟩ => ?_
    subst er
    have IG : Inv X pins σ HE sF := IC.call' (ch := fp) IF.os IF.base IF.hok IF.bare fun b mb => ⟨(fC b mb).1.2.2.2.1, (fC b mb).1.2.1, (fC b mb).1.2.2.2.2.1, (fC b mb).1.2.2.2.2.2⟩
    have freeL : HE sC.heap.objs.size = none := by
      have z : HE ce.locals = none := IF.free
      rwa [locE] at z
    obtain ⟨m, hn, _⟩ := IF.loc
    have hn : sF.heap.Ns ce.locals m := hn
    rw [locE] at hn
    obtain ⟨U, hU, mU, fin⟩ := fin
    obtain ⟨od, IL⟩ := IG.lock hU mU
    have nD : sC.heap.objs.size ≠ D := fun z => by rw [z, hU] at freeL; cases freeL
    exact hRR D _ sF m _ IL (fin od) hn (IC.fpOk (Nat.le_refl _) (show upd HE D (.frz od U) sC.heap.objs.size = none by rw [upd_ne nD]; exact freeL))
  · refine thnF (T.item (X.blk sC HC scope ce fp) rfl rfl rfl calm i [] sE _ HE (fun _ _ => False) IE (own' IE nE) tE go) fun r sF ⟨u, er, hF⟩ => ?_
    subst er
    refine thnF hF fun _ sG ⟨x, HG, IG, rG, yG, tG, nG⟩ => ?_
    have IP := IG.pinned (own' IG nG) (T.obj _ _ tG)
    -- what every turn leaves
    have leave : ∀ {τ : L2.St} {s' : Shared} {H' : Hp}, wipe τ (own.map (·.2)) = wipe σ (own.map (·.2)) → Inv (X.blk sC HC scope ce fp) ([] ++ pinsAt fp sG.heap) τ H' s' → Nx H' → ∃ m, m < n ∧ ∃ i H', Inv (X.blk sC HC scope ce fp) [] (wipe σ (own.map (·.2))) H' s' ∧ tn i s'.heap ∧ (∀ b ∈ fp, H' b = none) ∧ W i m H' := fun {τ s' H'} hw I' nx => by
      obtain ⟨m', lt, w'⟩ := less H' nx
      have kept : ∀ b ∈ fp, ∀ o, sG.heap.get? b = some o → s'.heap.get? b = some o ∧ H' b = none := fun b mb o e =>
        let z := I'.pin (b, o) (List.mem_append_right _ (List.mem_append_right _ (mem_pinsAt mb e)))
        ⟨z.1, z.2.1⟩
      refine ⟨m', lt, i + 1, H', (I'.unpinned (pins := [])).weak (by rw [← hw, wipe_length]) (fun j v e => by rw [← hw] at e; exact (wipe_some e).1), T.keep _ _ _ tG fun b mb o e => (kept b mb o e).1, fun b mb => ?_, w'⟩
      obtain ⟨o, e, _⟩ := T.obj _ _ tG b mb
      exact (kept b mb o e).2
    refine thnF (qg.run _ sG _ HG x u _ IP rG (body x HG yG)) fun _ sH ⟨τ, HH, IH, wH, pH⟩ => ?_
    refine thnF (qt.run _ sH τ HH _ IH pH) fun b sI ⟨HI, II, pI⟩ => ?_
    cases b with
    | false =>
      simp only [Bool.false_eq_true, if_false] at pI ⊢
      exact leave wH II pI
    | true =>
      simp only [if_true] at pI ⊢
      refine thnF (qk.run _ sI τ HI _ II pI) fun ku sJ ⟨y, HJ, IJ, rJ, pJ⟩ => ?_
      refine thnF (qv.run _ sJ τ HJ _ IJ pJ) fun vu sK ⟨z, HK, IK, rK, pK⟩ => ?_
      exact B.step (X.blk sC HC scope ce fp) _ _ _ _ y z ku vu D Nx _ _ rfl rfl rfl rfl IK rJ rK pK fun H' s' I' nx => leave wH I' nx
theorem pe_dg (B : Puts X) {kx vx tg iter : Expr} {ifs : List Expr} {scope : Scope} {own : List (Str × Nat)} {pos : Pos} {wi : TI} {g : TG} {tt : TT} {tk tv : TE} (calm : X.calm = true) (nd : X.N.Nodup) (walk : PI X tg iter wi) (blk : BlkOk X.N X.env.scope scope own)
    (pg : ∀ (s : Shared) (H : Hp) (C : Addr) (cl : List (Str × Addr)) (fp : List Addr), PG (X.blk s H scope (compEnvC scope cl C X.env) fp) tg g) (pt : ∀ (s : Shared) (H : Hp) (C : Addr) (cl : List (Str × Addr)) (fp : List Addr), PTs (X.blk s H scope (compEnvC scope cl C X.env) fp) ifs tt)
    (pk : ∀ (s : Shared) (H : Hp) (C : Addr) (cl : List (Str × Addr)) (fp : List Addr), PE (X.blk s H scope (compEnvC scope cl C X.env) fp) kx tk)
    (pv : ∀ (s : Shared) (H : Hp) (C : Addr) (cl : List (Str × Addr)) (fp : List Addr), PE (X.blk s H scope (compEnvC scope cl C X.env) fp) vx tv) (fold : ∀ x, foldedSetIterable iter X.env x = pure x := by intro _; rfl) :
    PE X (.DictComp kx vx [⟨tg, iter, ifs, 0⟩] scope pos) (tDg B wi g tt tk tv (own.map (·.2))) := by
  constructor
  intro pins s0 σ H0 Q I0 pre
  rw [arm_eval_DictComp]
  refine dg_core B calm nd walk blk pg pt pk pv fold I0 pre fun D C s' m H' J q hn fo => ⟨m, hn, fun h3 sb => ?_⟩
  obtain ⟨f0, f1, f2, f3, f4, f5⟩ := fo
  exact ⟨.ref D, H', J.turned (t' := s'.toks) (fun b o hb e => (sb.2 b hb).trans e) f0 f1 f3 f4 f5, rfl, q⟩
end
end DL
set_option Elab.async false
set_option linter.all false
set_option maxRecDepth 100000
set_option maxHeartbeats 4000000
namespace DL
open PySem PySem.Spec PyProof.Rows L2
/-! ### a locked dictionary of tuples is walked -/
def Itp (P : Program) (w : World) (d : Addr) (od : Obj) (L : List (Addr × List Key)) : It :=
  ⟨fun i H => H d = some (.frz od (DicPO P w d L)) ∧ i < L.length, fun i H x H' => H' = H ∧ ∃ q, L[i]? = some q ∧ x = .ref q.1, fun i H => H d = some (.frz od (DicPO P w d L)) ∧ L.length ≤ i⟩
section
variable {X : Cx} {pins : List (Addr × Obj)} {σ : L2.St} {H : Hp} {s : Shared}
theorem dicF {d : Addr} {od : Obj} {L : List (Addr × List Key)} (I : Inv X pins σ H s) (h : H d = some (.frz od (DicPO X.prog X.w d L))) : (d == sysModules) = false ∧ s.heap.get? d = some od ∧ od.ExactDict ∧ ∃ es ep, od.data = .dict es ep ∧ es.toList = (rowsT L).map (entryOfKey (tupleKind (mixKind X.prog X.w))) := by
  have Z := I.hok d _ h
  obtain ⟨z1, _, ⟨o, es, ep, e1, e2, e3, e4⟩, _⟩ := (show DT1 X.prog X.w s.heap d L from Z.2.1)
  have e0 : s.heap.get? d = some od := Z.1
  rw [e0] at e1
  cases e1
  exact ⟨z1, e0, e2, es, ep, e3, e4⟩
theorem rows_size {P : Program} {w : World} {es : Array DictEntry} {L : List (Addr × List Key)} (h : es.toList = (rowsT L).map (entryOfKey (tupleKind (mixKind P w)))) : es.size = L.length := by
  have := congrArg List.length h
  unfold rowsT at this
  rwa [Array.length_toList, List.length_map, List.length_map] at this
end
theorem turn_pairs {P : Program} {w : World} {K : PySem.W.Frag} {tg : Expr} {d : Addr} {o : Obj} {es : Array DictEntry} {ep : Nat} {L : List (Addr × List Key)} (it : Addr) (hod : o.data = .dict es ep) : Turn P w K tg (Itp P w d o L) [it] it (fun i h => h.IsKeyIter it d i L.length ep) where
  mem := List.mem_cons_self
  obj := fun i h st b hb => by
    obtain rfl := List.mem_singleton.mp hb
    obtain ⟨oi, e, c, dd⟩ := st
    exact ⟨oi, e, fun v z => by rw [dd] at z; cases z⟩
  keep := fun i h h' st k => st.at fun oi e => k it List.mem_cons_self oi e
  item := by
    rintro X rfl rfl rfl hc i pins s σ H E I hf st ⟨hd, hi⟩
    obtain ⟨f0, f1, f2, f3, f4, f5⟩ := hf it List.mem_cons_self
    obtain ⟨_, h0, _, es', ep', hdt, hr⟩ := dicF I hd
    obtain ⟨rfl, rfl⟩ := dict_ep hod hdt
    have hq := List.getElem?_eq_getElem hi
    generalize L[i] = q at hq
    have hen : es'[i]? = some (entryOfKey (tupleKind (mixKind X.prog X.w)) (q.2, q.1, Value.bool true)) := by
      rw [← Array.getElem?_toList, hr]
      unfold rowsT
      rw [List.getElem?_map, List.getElem?_map, hq]
      rfl
    refine next_key_item st h0 hdt (rows_size hr) hen fun h' st' sb => ?_
    have I1 : Inv X pins σ H { s with heap := h' } := I.turned (t' := s.toks) (fun b ob hb e => (sb.2 b hb).trans e) f0 f1 f3 f4 f5
    obtain ⟨oi, e, c, dd⟩ := id st'
    exact ⟨_, rfl, go_of (s := { s with heap := h' }) e c dd (by decide) ⟨.ref q.1, H, I1, rfl, ⟨rfl, q, hq, rfl⟩, st', fun b hb => (hf b hb).1⟩⟩
  done := by
    rintro X rfl rfl rfl hc i pins s σ H E I hf st ⟨hd, hi⟩
    obtain ⟨f0, f1, f2, f3, f4, f5⟩ := hf it List.mem_cons_self
    obtain ⟨_, h0, _, es', ep', hdt, hr⟩ := dicF I hd
    obtain ⟨rfl, rfl⟩ := dict_ep hod hdt
    exact next_key_end (I.ok.hd hc) st h0 hdt (rows_size hr) hi fun h' eb => ⟨rfl, I.turned (t' := s.toks) (fun b ob hb e => eb b ob hb e) f0 f1 f3 f4 f5⟩
  self := fun A i s Q E st h => wpAny_pyIter_keyiter st h
/-- for t in d -/
def iPairs (P : Program) (w : World) (td : TE) : TI := fun σ H R => td σ H fun x H1 => ∃ d o L, x = .ref d ∧ H1 d = some (.frz o (DicPO P w d L)) ∧ R (Itp P w d o L) H1
theorem pi_pairs {X : Cx} {tg e : Expr} {td : TE} (he : PE X e td) : PI X tg e (iPairs X.prog X.w td) := by
  refine ⟨fun pins s σ H R I h => ?_⟩
  refine thn (he.run pins s σ H _ I h) fun u s1 ⟨x, H1, I1, rx, d, o, L, ex, hd, q⟩ => ?_
  subst ex
  obtain rfl : u = Value.ref d := rx
  obtain ⟨hs, h0, hx, es, ep, hdt, hr⟩ := dicF I1 hd
  refine iter_keys hs h0 hx hdt (pi_one (tk := s1.toks) I1 _ (turn_pairs _ hdt) ⟨_, Heap.get?_push_size _ rfl, rfl, ?_⟩ q)
  rw [rows_size hr] <;> rfl
end DL
set_option Elab.async false
set_option linter.all false
set_option maxRecDepth 100000
set_option maxHeartbeats 4000000

namespace DL
open PySem PySem.Spec PyProof.Rows L2

inductive D where
  | non | bl (b : Bool) | int (i : Int) | str (x : Str) | ref (a : Addr)
  | tup (ds : List D) | lv (ds : List D) | rl (ds : List D) | dv (kvs : List (Key × D)) | pv (ps : List (Str × Str))
  deriving Inhabited
inductive MO where
  | lst (ds : List D) | dic (kvs : List (Key × D)) | drw (r : Addr) (n : Nat) | row | ins (C dx : Addr) (fs : List (Str × D)) | st (ps : List (Str × Str)) | tab (x : Str)
abbrev Gp := Addr → Option MO
abbrev Fr := Addr → Prop
def updG (G : Gp) (a : Addr) (m : MO) : Gp := fun b => if b = a then some m else G b
theorem updG_same {G : Gp} {a : Addr} {m : MO} : updG G a m a = some m := by unfold updG; rw [if_pos rfl]
theorem updG_ne {G : Gp} {a b : Addr} {m : MO} (h : b ≠ a) : updG G a m b = G b := by unfold updG; rw [if_neg h]
theorem updG_updG {G : Gp} {a : Addr} {m n : MO} : updG (updG G a m) a n = updG G a n := by
  funext b; unfold updG; split <;> rfl
def KL (K : KW) (a : Addr) (xs : List V) : Prop :=
  ∃ (o : Obj) (its : Array Value) (n : Nat), K.fr.lookup a = some o ∧ o.cls = .type "list" ∧ o.dict = none ∧ o.data = .seq its n ∧ its.size ≤ sizeLine ∧ Vals xs its.toList
def sOk (x : Str) : Bool := x.cps.all (· < 0x110000)
theorem sOk_of (s : String) : sOk (Str.ofString s) = true := by
  rw [Str.ofString_eq_toList]
  unfold sOk
  rw [← Array.all_toList]
  simp only [List.all_map, List.all_eq_true, Function.comp, decide_eq_true_eq]
  intro c _
  have h := c.valid
  unfold UInt32.isValidChar Nat.isValidChar at h
  show c.val.toNat < 0x110000
  omega
theorem sOk_app {x y : Str} (hx : sOk x = true) (hy : sOk y = true) : sOk (x ++ y) = true := by
  show (x.cps ++ y.cps).all _ = true
  rw [Array.all_append, Bool.and_eq_true]
  exact ⟨hx, hy⟩
section
variable (K : KW) (F : Fr) (H : Hp)
mutual
def Rep : D → V → Prop
  | .non, v => v = .non
  | .bl b, v => v = .bl b
  | .int i, v => v = .int i
  | .str x, v => v = .str x ∧ sOk x = true
  | .ref a, v => v = .ref a
  | .tup ds, v => ∃ a xs, v = .ref a ∧ BT K H a xs ∧ RepL ds xs
  | .lv ds, v => ∃ a xs, v = .ref a ∧ (F a ∧ H a = some (.lst xs)) ∧ RepL ds xs
  | .rl ds, v => ∃ a xs, v = .ref a ∧ ((∃ o, H a = some (.frz o (.lst xs))) ∨ KL K a xs) ∧ RepL ds xs
  | .dv kvs, v => ∃ a xs, v = .ref a ∧ (F a ∧ Rd H a (.dK xs)) ∧ RepK kvs xs
  | .pv ps, v => ∃ a od L, v = .ref a ∧ H a = some (.frz od (DicPO K.pg K.wd a L)) ∧ PairD K.fr H L ps ∧ ∀ p ∈ ps, sOk p.1 = true ∧ sOk p.2 = true
def RepL : List D → List V → Prop
  | [], vs => vs = []
  | d :: ds, vs => ∃ v r, vs = v :: r ∧ Rep d v ∧ RepL ds r
def RepK : List (Key × D) → List (Key × V) → Prop
  | [], vs => vs = []
  | p :: ds, vs => ∃ k v r, vs = (k, v) :: r ∧ RepP p k v ∧ RepK ds r
def RepP : Key × D → Key → V → Prop
  | (k, d), k', v => k' = k ∧ Rep d v
end
def RepF : List (Str × D) → List (Str × V) → Prop
  | [], vs => vs = []
  | (f, d) :: ds, vs => ∃ v r, vs = (f, v) :: r ∧ Rep K F H d v ∧ RepF ds r
/-- the name of the lambda in a def -/
def lamN (x : Str) : Str := x ++ Str.ofString ".<locals>.<lambda>"
/-- a table of code objects, all of which bear the name q and stay -/
def TabF (P : Addr) (q : Str) : Prop := ∃ ps : Array Value, H P = some (.tbl ps) ∧ TriplesOk ps.toList ∧ ∀ (pos : Pos) (cv : Value), codeAmong pos ps.toList = some cv → ∃ c, cv = .ref c ∧ F c ∧ H c = some (LamX.CodeO c q)
def RepO (a : Addr) : MO → Prop
  | .lst ds => ∃ xs, H a = some (.lst xs) ∧ RepL K F H ds xs
  | .dic kvs => ∃ xs, H a = some (.dK xs) ∧ RepK K F H kvs xs
  | .drw r n => ∃ i : Int, (0 ≤ i ∧ 160 ≤ i + n) ∧ H a = some (.lst [.int i, .ref r])
  | .row => ∃ ns : List Int, ns.length ≤ 160 ∧ H a = some (.lst (ns.map V.int))
  | .ins C dx fs => ∃ xs, H a = some (.ins C dx xs) ∧ H dx = some (.own a) ∧ RepF K F H fs xs
  | .st ps => ∃ L, H a = some (SetPO K.pg K.wd a L) ∧ PairL K.fr H L ps ∧ ∀ p ∈ ps, sOk p.1 = true ∧ sOk p.2 = true
  | .tab x => (∃ c, PySem.W.tabIn K.fr x = some (c, a)) ∧ TabF F H a (lamN x)
structure Rel (G : Gp) : Prop where
  obj : ∀ a m, G a = some m → RepO K F H a m
  fr : ∀ a, F a → G a = none
  al : ∀ a, F a → H a ≠ none
end
structure Keep (F : Fr) (H : Hp) (G : Gp) (F' : Fr) (H' : Hp) (G' : Gp) : Prop where
  k : ∀ a u, G a = none → H a = some u → H' a = some u ∧ G' a = none ∧ (F' a ↔ F a)
theorem Keep.refl {F H G} : Keep F H G F H G := ⟨fun _ _ g h => ⟨h, g, Iff.rfl⟩⟩
theorem Keep.trans {F H G F1 H1 G1 F2 H2 G2} (a : Keep F H G F1 H1 G1) (b : Keep F1 H1 G1 F2 H2 G2) : Keep F H G F2 H2 G2 := ⟨fun c u g h => by
  obtain ⟨h1, g1, f1⟩ := a.k c u g h
  obtain ⟨h2, g2, f2⟩ := b.k c u g1 h1
  exact ⟨h2, g2, f2.trans f1⟩⟩
section
variable {K : KW} {F F' : Fr} {H H' : Hp} {G G' : Gp}
/-- what is not mutable stands in G as nothing -/
theorem Rel.off (R : Rel K F H G) {a : Addr} {u : HO} (h : H a = some u) (n1 : ∀ xs, u ≠ .lst xs) (n2 : ∀ xs, u ≠ .dK xs) (n3 : ∀ C dx xs, u ≠ .ins C dx xs) (n4 : ∀ φ, u ≠ .ext φ := by intro _ z; cases z) (n5 : ∀ ps, u ≠ .tbl ps := by intro _ z; cases z) : G a = none := by
  cases e : G a with
  | none => rfl
  | some m =>
    have q := R.obj a m e
    cases m with
    | lst ds => obtain ⟨xs, h1, _⟩ := q; rw [h] at h1; exact absurd (Option.some.inj h1) (n1 _)
    | dic kvs => obtain ⟨xs, h1, _⟩ := q; rw [h] at h1; exact absurd (Option.some.inj h1) (n2 _)
    | drw r n => obtain ⟨i, _, h1⟩ := q; rw [h] at h1; exact absurd (Option.some.inj h1) (n1 _)
    | row => obtain ⟨ns, _, h1⟩ := q; rw [h] at h1; exact absurd (Option.some.inj h1) (n1 _)
    | ins C dx fs => obtain ⟨xs, h1, _⟩ := q; rw [h] at h1; exact absurd (Option.some.inj h1) (n3 _ _ _)
    | st ps => obtain ⟨L, h1, _⟩ := q; rw [h] at h1; exact absurd (Option.some.inj h1) (n4 _)
    | tab x => obtain ⟨_, ps, h1, _⟩ := q; rw [h] at h1; exact absurd (Option.some.inj h1) (n5 _)
theorem Rel.off0 (R : Rel K F H G) {a : Addr} (h : H a = none) : G a = none := by
  cases e : G a with
  | none => rfl
  | some m =>
    have q := R.obj a m e
    cases m with
    | lst ds => obtain ⟨xs, h1, _⟩ := q; rw [h] at h1; cases h1
    | dic kvs => obtain ⟨xs, h1, _⟩ := q; rw [h] at h1; cases h1
    | drw r n => obtain ⟨i, _, h1⟩ := q; rw [h] at h1; cases h1
    | row => obtain ⟨ns, _, h1⟩ := q; rw [h] at h1; cases h1
    | ins C dx fs => obtain ⟨xs, h1, _⟩ := q; rw [h] at h1; cases h1
    | st ps => obtain ⟨L, h1, _⟩ := q; rw [h] at h1; cases h1
    | tab x => obtain ⟨_, ps, h1, _⟩ := q; rw [h] at h1; cases h1
theorem Keep.sqT (R : Rel K F H G) (k : Keep F H G F' H' G') {a : Addr} {xs : List V} (h : SqT K H a xs) : SqT K H' a xs := by
  rcases h with (h | ⟨o, h⟩) | h
  · exact .inl (.inl (k.k a _ (R.off h (by intro _ z; cases z) (by intro _ z; cases z) (by intro _ _ _ z; cases z)) h).1)
  · exact .inl (.inr ⟨o, (k.k a _ (R.off h (by intro _ z; cases z) (by intro _ z; cases z) (by intro _ _ _ z; cases z)) h).1⟩)
  · exact .inr h
/-- what holds data up -/
structure Stay (F : Fr) (H : Hp) (F' : Fr) (H' : Hp) : Prop where
  tup : ∀ a xs o, H a = some (.frz o (.tup xs)) → H' a = some (.frz o (.tup xs))
  lst : ∀ a xs, F a → H a = some (.lst xs) → F' a ∧ H' a = some (.lst xs)
  frz : ∀ a o xs, H a = some (.frz o (.lst xs)) → H' a = some (.frz o (.lst xs))
  dic : ∀ a xs, F a → Rd H a (.dK xs) → F' a ∧ Rd H' a (.dK xs)
  pdc : ∀ a od (φ : Heap → Prop), H a = some (.frz od (.ext φ)) → H' a = some (.frz od (.ext φ))
  cod : ∀ a q, F a → H a = some (LamX.CodeO a q) → F' a ∧ H' a = some (LamX.CodeO a q)
mutual
theorem Rep.stay (k : Stay F H F' H') : ∀ (d : D) (v : V), Rep K F H d v → Rep K F' H' d v
  | .non, _, h => h
  | .bl _, _, h => h
  | .int _, _, h => h
  | .str _, _, h => h
  | .ref _, _, h => h
  | .tup ds, _, ⟨a, xs, e, h, q⟩ => ⟨a, xs, e, h.elim (fun ⟨o, h, d⟩ => .inl ⟨o, k.tup a xs o h, d⟩) .inr, RepL.stay k ds xs q⟩
  | .lv ds, _, ⟨a, xs, e, ⟨f, h⟩, q⟩ => ⟨a, xs, e, k.lst a xs f h, RepL.stay k ds xs q⟩
  | .rl ds, _, ⟨a, xs, e, h, q⟩ => by
    refine ⟨a, xs, e, ?_, RepL.stay k ds xs q⟩
    rcases h with ⟨o, h⟩ | h
    · exact .inl ⟨o, k.frz a o xs h⟩
    · exact .inr h
  | .dv kvs, _, ⟨a, xs, e, ⟨f, h⟩, q⟩ => ⟨a, xs, e, k.dic a xs f h, RepK.stay k kvs xs q⟩
  | .pv ps, _, ⟨a, od, L, e, h, q, o⟩ => ⟨a, od, L, e, k.pdc a od _ h, q.stay k.tup, o⟩
theorem RepL.stay (k : Stay F H F' H') : ∀ (ds : List D) (vs : List V), RepL K F H ds vs → RepL K F' H' ds vs
  | [], _, h => h
  | d :: ds, _, ⟨v, r, e, h, q⟩ => ⟨v, r, e, Rep.stay k d v h, RepL.stay k ds r q⟩
theorem RepK.stay (k : Stay F H F' H') : ∀ (ds : List (Key × D)) (vs : List (Key × V)), RepK K F H ds vs → RepK K F' H' ds vs
  | [], _, h => h
  | p :: ds, _, ⟨j, v, r, e, h, q⟩ => ⟨j, v, r, e, RepP.stay k p j v h, RepK.stay k ds r q⟩
theorem RepP.stay (k : Stay F H F' H') : ∀ (p : Key × D) (j : Key) (v : V), RepP K F H p j v → RepP K F' H' p j v
  | (_, d), _, v, ⟨e, h⟩ => ⟨e, Rep.stay k d v h⟩
end
theorem TabF.stay (k : Stay F H F' H') {P : Addr} {q : Str} (e : H' P = H P) (h : TabF F H P q) : TabF F' H' P q := by
  obtain ⟨ps, h1, h2, h3⟩ := h
  exact ⟨ps, e.trans h1, h2, fun pos cv hc => by
    obtain ⟨c, e1, f, e2⟩ := h3 pos cv hc
    exact ⟨c, e1, k.cod c q f e2⟩⟩
theorem RepF.stay (k : Stay F H F' H') : ∀ (ds : List (Str × D)) (vs : List (Str × V)), RepF K F H ds vs → RepF K F' H' ds vs
  | [], _, h => h
  | (_, d) :: ds, _, ⟨v, r, e, h, q⟩ => ⟨v, r, e, Rep.stay k d v h, RepF.stay k ds r q⟩
theorem Keep.stay (R : Rel K F H G) (k : Keep F H G F' H' G') : Stay F H F' H' where
  tup a xs o h := (k.k a _ (R.off h (by intro _ z; cases z) (by intro _ z; cases z) (by intro _ _ _ z; cases z)) h).1
  lst a xs f h := by
    obtain ⟨h1, _, f1⟩ := k.k a _ (R.fr a f) h
    exact ⟨f1.mpr f, h1⟩
  frz a o xs h := (k.k a _ (R.off h (by intro _ z; cases z) (by intro _ z; cases z) (by intro _ _ _ z; cases z)) h).1
  dic a xs f h := by
    rcases h with h | ⟨o, h⟩
    · obtain ⟨h1, _, f1⟩ := k.k a _ (R.fr a f) h
      exact ⟨f1.mpr f, .inl h1⟩
    · obtain ⟨h1, _, f1⟩ := k.k a _ (R.fr a f) h
      exact ⟨f1.mpr f, .inr ⟨o, h1⟩⟩
  pdc a od φ h := (k.k a _ (R.off h (by intro _ z; cases z) (by intro _ z; cases z) (by intro _ _ _ z; cases z)) h).1
  cod a q f h := by
    obtain ⟨h1, _, f1⟩ := k.k a _ (R.fr a f) h
    exact ⟨f1.mpr f, h1⟩
theorem Rep.mono (R : Rel K F H G) (k : Keep F H G F' H' G') (d : D) (v : V) (h : Rep K F H d v) : Rep K F' H' d v := Rep.stay (k.stay R) d v h
theorem RepL.mono (R : Rel K F H G) (k : Keep F H G F' H' G') (ds : List D) (vs : List V) (h : RepL K F H ds vs) : RepL K F' H' ds vs := RepL.stay (k.stay R) ds vs h
theorem RepK.mono (R : Rel K F H G) (k : Keep F H G F' H' G') (ds : List (Key × D)) (vs : List (Key × V)) (h : RepK K F H ds vs) : RepK K F' H' ds vs := RepK.stay (k.stay R) ds vs h
theorem RepF.mono (R : Rel K F H G) (k : Keep F H G F' H' G') (ds : List (Str × D)) (vs : List (Str × V)) (h : RepF K F H ds vs) : RepF K F' H' ds vs := RepF.stay (k.stay R) ds vs h
theorem RepL.len : ∀ {ds : List D} {vs : List V}, RepL K F H ds vs → vs.length = ds.length
  | [], _, h => by cases h; rfl
  | d :: ds, _, ⟨v, r, e, h, q⟩ => by subst e; rw [List.length_cons, List.length_cons, RepL.len q]
theorem RepL.get : ∀ {ds : List D} {vs : List V}, RepL K F H ds vs → ∀ {i : Nat} {d : D}, ds[i]? = some d → ∃ v, vs[i]? = some v ∧ Rep K F H d v
  | [], _, _, i, d, e => by simp at e
  | d :: ds, _, ⟨v, r, e, h, q⟩, 0, d', e' => by
    subst e
    have : d = d' := by simpa using e'
    subst this
    exact ⟨v, rfl, h⟩
  | d :: ds, _, ⟨v, r, e, h, q⟩, i + 1, d', e' => by
    subst e
    obtain ⟨w, h1, h2⟩ := RepL.get q (i := i) (d := d') (by simpa using e')
    exact ⟨w, by simpa using h1, h2⟩
theorem RepL.app : ∀ {ds es : List D} {vs us : List V}, RepL K F H ds vs → RepL K F H es us → RepL K F H (ds ++ es) (vs ++ us)
  | [], _, _, _, h, g => by cases h; exact g
  | d :: ds, _, _, _, ⟨v, r, e, h, q⟩, g => by subst e; exact ⟨v, r ++ _, rfl, h, RepL.app q g⟩
theorem RepL.one {d : D} {v : V} (h : Rep K F H d v) : RepL K F H [d] [v] := ⟨v, [], rfl, h, rfl⟩
theorem RepL.take : ∀ {ds : List D} {vs : List V} (n : Nat), RepL K F H ds vs → RepL K F H (ds.take n) (vs.take n)
  | _, _, 0, _ => rfl
  | [], _, n + 1, h => by cases h; rfl
  | d :: ds, _, n + 1, ⟨v, r, e, h, q⟩ => by subst e; exact ⟨v, r.take n, rfl, h, RepL.take n q⟩
theorem RepL.drop : ∀ {ds : List D} {vs : List V} (n : Nat), RepL K F H ds vs → RepL K F H (ds.drop n) (vs.drop n)
  | _, _, 0, h => h
  | [], _, n + 1, h => by cases h; rfl
  | d :: ds, _, n + 1, ⟨v, r, e, h, q⟩ => by subst e; exact RepL.drop n q
theorem RepL.set : ∀ {ds : List D} {vs : List V} (n : Nat) {d : D} {v : V}, RepL K F H ds vs → Rep K F H d v → RepL K F H (ds.set n d) (vs.set n v)
  | [], _, _, _, _, h, _ => by cases h; rfl
  | d :: ds, _, 0, _, _, ⟨v, r, e, h, q⟩, g => by subst e; exact ⟨_, r, rfl, g, q⟩
  | d :: ds, _, n + 1, _, _, ⟨v, r, e, h, q⟩, g => by subst e; exact ⟨v, _, rfl, h, RepL.set n q g⟩
theorem RepL.ints : ∀ (ns : List Int), RepL K F H (ns.map D.int) (ns.map V.int)
  | [] => rfl
  | n :: ns => ⟨_, _, rfl, rfl, RepL.ints ns⟩

/-! ### the steps of the heap -/
/-- a new thing that is not listed in G -/
theorem keep_new (R : Rel K F H G) {p : Addr} {o : HO} (hp : H p = none) : Keep F H G F (upd H p o) G :=
  ⟨fun a u g h => ⟨by rw [upd_ne (ne_of_none h hp)]; exact h, g, Iff.rfl⟩⟩
theorem RepO.keep (R : Rel K F H G) (k : Keep F H G F' H' G') {a : Addr} {m : MO} (e : H' a = H a) (h : RepO K F H a m) : RepO K F' H' a m := by
  cases m with
  | lst ds => obtain ⟨xs, h1, q⟩ := h; exact ⟨xs, e.trans h1, RepL.mono R k _ _ q⟩
  | dic kvs => obtain ⟨xs, h1, q⟩ := h; exact ⟨xs, e.trans h1, RepK.mono R k _ _ q⟩
  | drw r n => obtain ⟨i, h0, h1⟩ := h; exact ⟨i, h0, e.trans h1⟩
  | row => obtain ⟨ns, h0, h1⟩ := h; exact ⟨ns, h0, e.trans h1⟩
  | ins C dx fs =>
    obtain ⟨xs, h1, h2, q⟩ := h
    exact ⟨xs, e.trans h1, (k.k dx _ (R.off h2 (by intro _ z; cases z) (by intro _ z; cases z) (by intro _ _ _ z; cases z)) h2).1, RepF.mono R k _ _ q⟩
  | st ps => obtain ⟨L, h1, q⟩ := h; exact ⟨L, e.trans h1, q.1.stay (fun b xs o h => (k.stay R).tup b xs o h), q.2⟩
  | tab x => exact ⟨h.1, h.2.stay (k.stay R) e⟩
theorem rel_new (R : Rel K F H G) {p : Addr} {o : HO} (hp : H p = none) : Rel K F (upd H p o) G := by
  have k := keep_new (o := o) R hp
  refine ⟨fun a m e => ?_, R.fr, fun a f => ?_⟩
  · refine RepO.keep R k ?_ (R.obj a m e)
    refine upd_ne ?_
    intro z
    subst z
    rw [R.off0 hp] at e
    cases e
  · rw [upd_ne (fun z => R.al a f (by rw [z]; exact hp))]
    exact R.al a f
/-- a new list that is to stay as it is -/
def frzF (F : Fr) (p : Addr) : Fr := fun a => F a ∨ a = p
theorem keep_frz (R : Rel K F H G) {p : Addr} {o : HO} (hp : H p = none) : Keep F H G (frzF F p) (upd H p o) G :=
  ⟨fun a u g h => ⟨by rw [upd_ne (ne_of_none h hp)]; exact h, g, ⟨fun z => z.elim id (fun e => by subst e; rw [hp] at h; cases h), Or.inl⟩⟩⟩
theorem rel_frz (R : Rel K F H G) {p : Addr} {o : HO} (hp : H p = none) : Rel K (frzF F p) (upd H p o) G := by
  have k := keep_frz (o := o) R hp
  refine ⟨fun a m e => ?_, fun a f => ?_, fun a f => ?_⟩
  · refine RepO.keep R k ?_ (R.obj a m e)
    refine upd_ne ?_
    intro z
    subst z
    rw [R.off0 hp] at e
    cases e
  · rcases f with f | e
    · exact R.fr a f
    · rw [e]; exact R.off0 hp
  · by_cases z : a = p
    · subst z; rw [upd_same]; intro q; cases q
    · rw [upd_ne z]
      rcases f with f | e
      · exact R.al a f
      · exact absurd e z
/-- a new mutable thing -/
theorem keep_obj (R : Rel K F H G) {p : Addr} {o : HO} {m : MO} (hp : H p = none) : Keep F H G F (upd H p o) (updG G p m) :=
  ⟨fun a u g h => ⟨by rw [upd_ne (ne_of_none h hp)]; exact h, by rw [updG_ne (ne_of_none h hp)]; exact g, Iff.rfl⟩⟩
theorem rel_obj (R : Rel K F H G) {p : Addr} {o : HO} {m : MO} (hp : H p = none) (hm : RepO K F (upd H p o) p m) : Rel K F (upd H p o) (updG G p m) := by
  have k := keep_obj (o := o) (m := m) R hp
  refine ⟨fun a m' e => ?_, fun a f => ?_, fun a f => ?_⟩
  · by_cases z : a = p
    · subst z
      rw [updG_same] at e
      cases e
      exact hm
    · rw [updG_ne z] at e
      exact RepO.keep R k (upd_ne z) (R.obj a m' e)
  · rw [updG_ne (fun z => R.al a f (by rw [z]; exact hp))]
    exact R.fr a f
  · rw [upd_ne (fun z => R.al a f (by rw [z]; exact hp))]
    exact R.al a f
/-- a mutable thing changes -/
theorem keep_set {a : Addr} {o : HO} {m m' : MO} (e : G a = some m) : Keep F H G F (upd H a o) (updG G a m') :=
  ⟨fun b u g h => by
    have n : b ≠ a := fun z => by subst z; rw [g] at e; cases e
    exact ⟨by rw [upd_ne n]; exact h, by rw [updG_ne n]; exact g, Iff.rfl⟩⟩
theorem rel_set (R : Rel K F H G) {a : Addr} {o : HO} {m m' : MO} (e : G a = some m) (hm : RepO K F (upd H a o) a m') : Rel K F (upd H a o) (updG G a m') := by
  have k := keep_set (F := F) (H := H) (o := o) (m' := m') e
  refine ⟨fun b n e' => ?_, fun b f => ?_, fun b f => ?_⟩
  · by_cases z : b = a
    · subst z
      rw [updG_same] at e'
      cases e'
      exact hm
    · rw [updG_ne z] at e'
      exact RepO.keep R k (upd_ne z) (R.obj b n e')
  · have n : b ≠ a := fun z => by subst z; rw [R.fr b f] at e; cases e
    rw [updG_ne n]
    exact R.fr b f
  · have n : b ≠ a := fun z => by subst z; rw [R.fr b f] at e; cases e
    rw [upd_ne n]
    exact R.al b f

/-! ### what is behind a step -/
def post (K : KW) (F : Fr) (H : Hp) (G : Gp) (Q : D → Gp → Prop) (v : V) (H' : Hp) : Prop :=
  ∃ d F' G', Keep F H G F' H' G' ∧ Rel K F' H' G' ∧ Rep K F' H' d v ∧ Q d G'
theorem post.trans {Q : D → Gp → Prop} {v : V} {H2 : Hp} (k : Keep F H G F' H' G') (h : post K F' H' G' Q v H2) : post K F H G Q v H2 := by
  obtain ⟨d, F2, G2, k2, r, p, q⟩ := h
  exact ⟨d, F2, G2, k.trans k2, r, p, q⟩
theorem post.here {Q : D → Gp → Prop} {v : V} {d : D} (R : Rel K F H G) (h : Rep K F H d v) (q : Q d G) : post K F H G Q v H := ⟨d, F, G, .refl, R, h, q⟩
end

/-! ### states -/
abbrev DS := List (Option D)
def getS : DS → Nat → Option D
  | [], _ => none
  | x :: _, 0 => x
  | _ :: r, i + 1 => getS r i
def setS : DS → Nat → Option D → DS
  | [], _, _ => []
  | _ :: r, 0, d => d :: r
  | x :: r, i + 1, d => x :: setS r i d
theorem setS_len : ∀ (δ : DS) (i : Nat) (d : Option D), (setS δ i d).length = δ.length
  | [], _, _ => rfl
  | _ :: _, 0, _ => rfl
  | _ :: r, i + 1, d => by
    show (setS r i d).length + 1 = r.length + 1
    rw [setS_len r i d]
theorem getS_setS : ∀ (δ : DS) (i j : Nat) (d : Option D), getS (setS δ i d) j = if j = i then (if i < δ.length then d else none) else getS δ j
  | [], i, j, d => by
    show (none : Option D) = _
    split
    · rw [if_neg (by simp)]
    · rfl
  | x :: r, 0, 0, d => by simp [setS, getS]
  | x :: r, 0, j + 1, d => by simp [setS, getS]
  | x :: r, i + 1, 0, d => by simp [setS, getS]
  | x :: r, i + 1, j + 1, d => by
    show getS (setS r i d) j = _
    rw [getS_setS r i j d]
    simp [getS]
structure RepS (K : KW) (F : Fr) (H : Hp) (δ : DS) (σ : L2.St) : Prop where
  len : σ.length = δ.length
  at' : ∀ i d, getS δ i = some d → ∃ v, σ[i]? = some (some v) ∧ Rep K F H d v
section
variable {K : KW} {F F' : Fr} {H H' : Hp} {G G' : Gp}
theorem RepS.mono {δ : DS} {σ : L2.St} (R : Rel K F H G) (k : Keep F H G F' H' G') (h : RepS K F H δ σ) : RepS K F' H' δ σ :=
  ⟨h.len, fun i d e => by obtain ⟨v, h1, h2⟩ := h.at' i d e; exact ⟨v, h1, Rep.mono R k d v h2⟩⟩
theorem RepS.set {δ : DS} {σ : L2.St} (h : RepS K F H δ σ) (i : Nat) {d : D} {v : V} (r : Rep K F H d v) : RepS K F H (setS δ i (some d)) (σ.set i (some v)) := by
  refine ⟨by rw [List.length_set, setS_len, h.len], fun j e hj => ?_⟩
  rw [getS_setS] at hj
  by_cases z : j = i
  · subst z
    rw [if_pos rfl] at hj
    by_cases l : j < δ.length
    · rw [if_pos l] at hj
      cases hj
      exact ⟨v, by rw [List.getElem?_set_self (by rw [h.len]; exact l)], r⟩
    · rw [if_neg l] at hj; cases hj
  · rw [if_neg z] at hj
    obtain ⟨w, h1, h2⟩ := h.at' j e hj
    exact ⟨w, by rw [List.getElem?_set_ne (fun q => z q.symm)]; exact h1, h2⟩
def wipeS (δ : DS) : List Nat → DS
  | [] => δ
  | v :: vs => setS (wipeS δ vs) v none
theorem RepS.wipe {δ : DS} {σ : L2.St} (h : RepS K F H δ σ) : ∀ vs : List Nat, RepS K F H (wipeS δ vs) (wipe σ vs)
  | [] => h
  | v :: vs => by
    have ih := RepS.wipe h vs
    refine ⟨by unfold wipeS L2.wipe; rw [List.length_set, setS_len, ih.len], fun j e hj => ?_⟩
    unfold wipeS at hj
    rw [getS_setS] at hj
    by_cases z : j = v
    · subst z
      rw [if_pos rfl] at hj
      split at hj <;> cases hj
    · rw [if_neg z] at hj
      obtain ⟨w, h1, h2⟩ := ih.at' j e hj
      exact ⟨w, by unfold L2.wipe; rw [List.getElem?_set_ne (fun q => z q.symm)]; exact h1, h2⟩
end
end DL
set_option Elab.async false
set_option linter.all false
set_option maxRecDepth 100000
set_option maxHeartbeats 4000000
namespace DL
open PySem PySem.Spec PyProof.Rows L2

/-! ### readings over data -/
abbrev DTE := DS → Gp → (D → Gp → Prop) → Prop
abbrev DTT := DS → Gp → (Bool → Gp → Prop) → Prop
abbrev DTA := DS → Gp → (List D → Gp → Prop) → Prop
def dCond (b : Bool) (A B : Prop) : Prop := match b with | true => A | false => B
theorem dCond_t {A B : Prop} : dCond true A B = A := rfl
theorem dCond_f {A B : Prop} : dCond false A B = B := rfl
theorem dCond2 {b : Bool} {A B : Prop} (h1 : b = true → A) (h2 : b = false → B) : dCond b A B := by
  cases b with
  | true => exact h1 rfl
  | false => exact h2 rfl
theorem dCond_congr {b b' : Bool} {A B : Prop} (h : b = b') : dCond b A B = dCond b' A B := by rw [h]
/-- a value that must be there -/
def optQ {α : Type} (o : Option α) (k : α → Prop) : Prop := match o with | some x => k x | none => False
theorem optQ_some {α : Type} {x : α} {k : α → Prop} : optQ (some x) k = k x := rfl
theorem optQ_congr {α : Type} {o o' : Option α} {k : α → Prop} (h : o = o') : optQ o k = optQ o' k := by rw [h]
theorem optQ_ex {α : Type} {o : Option α} {k : α → Prop} (h : optQ o k) : ∃ x, o = some x ∧ k x := by
  cases o with
  | none => exact h.elim
  | some x => exact ⟨x, rfl, h⟩
structure DEnds where
  nx : DS → Gp → Prop
  rt : D → Gp → Prop
  bk : DS → Gp → Prop := fun _ _ => False
  ct : DS → Gp → Prop := fun _ _ => False
abbrev DTS := DEnds → DS → Gp → Prop
abbrev DXK := D → Gp → Prop
abbrev DSp := List D → Gp → (D → Gp → Prop) → DXK → Prop
def blOf : D → Option Bool
  | .bl b => some b
  | _ => none
def intOf : D → Option Int
  | .int b => some b
  | _ => none
def refOf : D → Option Addr
  | .ref b => some b
  | _ => none
def tupOf : D → Option (List D)
  | .tup b => some b
  | _ => none
def strOf : D → Option Str
  | .str b => some b
  | _ => none
def lstOf : Option MO → Option (List D)
  | some (.lst ds) => some ds
  | _ => none
def uncons : List D → Option (D × List D)
  | d :: r => some (d, r)
  | [] => none
theorem blOf_eq {d : D} {b : Bool} (h : blOf d = some b) : d = .bl b := by cases d <;> cases h; rfl
theorem intOf_eq {d : D} {b : Int} (h : intOf d = some b) : d = .int b := by cases d <;> cases h; rfl
theorem refOf_eq {d : D} {b : Addr} (h : refOf d = some b) : d = .ref b := by cases d <;> cases h; rfl
theorem tupOf_eq {d : D} {b : List D} (h : tupOf d = some b) : d = .tup b := by cases d <;> cases h; rfl
theorem strOf_eq {d : D} {b : Str} (h : strOf d = some b) : d = .str b := by cases d <;> cases h; rfl
theorem lstOf_eq {o : Option MO} {ds : List D} (h : lstOf o = some ds) : o = some (.lst ds) := by
  cases o with
  | none => cases h
  | some m => cases m <;> cases h; rfl

def postT (F : Fr) (K : KW) (H : Hp) (G : Gp) (Q : Bool → Gp → Prop) (b : Bool) (H' : Hp) : Prop :=
  ∃ F' G', Keep F H G F' H' G' ∧ Rel K F' H' G' ∧ Q b G'
def postA (F : Fr) (K : KW) (H : Hp) (G : Gp) (Q : List D → Gp → Prop) (vs : List V) (H' : Hp) : Prop :=
  ∃ ds F' G', Keep F H G F' H' G' ∧ Rel K F' H' G' ∧ RepL K F' H' ds vs ∧ Q ds G'
def postS (F : Fr) (K : KW) (H : Hp) (G : Gp) (Q : DS → Gp → Prop) (σ : L2.St) (H' : Hp) : Prop :=
  ∃ δ F' G', Keep F H G F' H' G' ∧ Rel K F' H' G' ∧ RepS K F' H' δ σ ∧ Q δ G'

def up (K : KW) (t : DTE) : TE := fun σ H Q0 => ∃ F δ G Q, Rel K F H G ∧ RepS K F H δ σ ∧ t δ G Q ∧ ∀ v H', post K F H G Q v H' → Q0 v H'
def upT (K : KW) (t : DTT) : TT := fun σ H Q0 => ∃ F δ G Q, Rel K F H G ∧ RepS K F H δ σ ∧ t δ G Q ∧ ∀ b H', postT F K H G Q b H' → Q0 b H'
def upA (K : KW) (t : DTA) : TA := fun σ H Q0 => ∃ F δ G Q, Rel K F H G ∧ RepS K F H δ σ ∧ t δ G Q ∧ ∀ vs H', postA F K H G Q vs H' → Q0 vs H'
structure EndsUp (K : KW) (F : Fr) (H : Hp) (G : Gp) (D' : DEnds) (D : Ends) : Prop where
  nx : ∀ σ' H', postS F K H G D'.nx σ' H' → D.nx σ' H'
  rt : ∀ v H', post K F H G D'.rt v H' → D.rt v H'
  bk : ∀ σ' H', postS F K H G D'.bk σ' H' → D.bk σ' H'
  ct : ∀ σ' H', postS F K H G D'.ct σ' H' → D.ct σ' H'
def upS (K : KW) (t : DTS) : TS := fun D σ H => ∃ F δ G D', Rel K F H G ∧ RepS K F H δ σ ∧ t D' δ G ∧ EndsUp K F H G D' D
def upSp (K : KW) (sp : DSp) : Sp := fun vs H Q E => ∃ F ds G Q', Rel K F H G ∧ RepL K F H ds vs ∧ sp ds G Q' (fun _ _ => False) ∧ ∀ v H', post K F H G Q' v H' → Q v H'

def QE (X : Cx) (e : Expr) (t : DTE) : Prop := PE X e (up (kw X) t)
def QT (X : Cx) (e : Expr) (t : DTT) : Prop := PT X e (upT (kw X) t)
def QA (X : Cx) (es : List Expr) (t : DTA) : Prop := PA X es (upA (kw X) t)
def QS (X : Cx) (st : Stmt) (t : DTS) : Prop := PS X st (upS (kw X) t)
def QSs (X : Cx) (st : List Stmt) (t : DTS) : Prop := PSs X st (upS (kw X) t)

section
variable {X : Cx} {K : KW} {F F' : Fr} {H H' : Hp} {G G' : Gp}
theorem PEmono {e : Expr} {t t' : TE} (h : PE X e t) (i : ∀ σ H Q, t' σ H Q → t σ H Q) : PE X e t' := ⟨fun pins s σ H Q I q => h.run pins s σ H Q I (i _ _ _ q)⟩
theorem PTmono {e : Expr} {t t' : TT} (h : PT X e t) (i : ∀ σ H Q, t' σ H Q → t σ H Q) : PT X e t' := ⟨fun pins s σ H Q I q => h.run pins s σ H Q I (i _ _ _ q)⟩
theorem PAmono {e : List Expr} {t t' : TA} (h : PA X e t) (i : ∀ σ H Q, t' σ H Q → t σ H Q) : PA X e t' := ⟨fun pos pins s σ H Q I q => h.run pos pins s σ H Q I (i _ _ _ q)⟩
theorem PSmono {e : Stmt} {t t' : TS} (h : PS X e t) (i : ∀ D σ H, t' D σ H → t D σ H) : PS X e t' := ⟨fun pins s σ H D I q => h.run pins s σ H D I (i _ _ _ q)⟩
theorem PSsmono {e : List Stmt} {t t' : TS} (h : PSs X e t) (i : ∀ D σ H, t' D σ H → t D σ H) : PSs X e t' := ⟨fun pins s σ H D I q => h.run pins s σ H D I (i _ _ _ q)⟩
theorem EndsUp.step {D' : DEnds} {D : Ends} (k : Keep F H G F' H' G') (h : EndsUp K F H G D' D) : EndsUp K F' H' G' D' D :=
  ⟨fun σ H2 ⟨δ, F2, G2, k2, q⟩ => h.nx σ H2 ⟨δ, F2, G2, k.trans k2, q⟩, fun v H2 ⟨d, F2, G2, k2, q⟩ => h.rt v H2 ⟨d, F2, G2, k.trans k2, q⟩,
   fun σ H2 ⟨δ, F2, G2, k2, q⟩ => h.bk σ H2 ⟨δ, F2, G2, k.trans k2, q⟩, fun σ H2 ⟨δ, F2, G2, k2, q⟩ => h.ct σ H2 ⟨δ, F2, G2, k.trans k2, q⟩⟩

/-! ### names, constants -/
def dVar (i : Nat) : DTE := fun δ G Q => optQ (getS δ i) fun d => Q d G
def dC (d : D) : DTE := fun _ G Q => Q d G
theorem q_of {e : Expr} {i : Nat} (h : PE X e (tVar i)) : QE X e (dVar i) := PEmono h fun σ H Q ⟨F, δ, G, Q', R, S, q, k⟩ => by
  replace q := optQ_ex q
  obtain ⟨d, e1, q⟩ := q
  obtain ⟨v, h1, h2⟩ := S.at' i d e1
  exact ⟨v, h1, k v H (.here R h2 q)⟩
theorem qv (i : Nat) {x : Str} {pos : Pos} (hN : X.N[i]? = some x := by rfl) (hv : Vis X.env.scope x := by first | exact Or.inl rfl | exact Or.inr (Or.inl rfl) | exact Or.inr (Or.inr rfl)) (hd : (x == ("__debug__" : Str)) = false := by decide)
    (hcd : (x == ("__classdict__" : Str)) = false := by decide) : QE X (.Name x pos) (dVar i) := q_of (pe_var hN hv hd hcd)
theorem q_const {e : Expr} {v : V} {d : D} (h : PE X e (tC v)) (r : ∀ F H G, Rel (kw X) F H G → Rep (kw X) F H d v) : QE X e (dC d) := PEmono h fun σ H Q ⟨F, δ, G, Q', R, S, q, k⟩ => k v H (.here R (r F H G R) q)
theorem q_int {i j pos} : QE X (.Constant (.int i) j pos) (dC (.int i)) := q_const pe_int fun _ _ _ _ => rfl
theorem q_bl {b j pos} : QE X (.Constant (.bool b) j pos) (dC (.bl b)) := q_const pe_bl fun _ _ _ _ => rfl
theorem q_non {j pos} : QE X (.Constant .none j pos) (dC .non) := q_const pe_non fun _ _ _ _ => rfl
theorem q_str {x : String} {j pos} : QE X (.Constant (.str (Str.ofString x)) j pos) (dC (.str (Str.ofString x))) := q_const pe_str fun _ _ _ _ => ⟨rfl, sOk_of x⟩
/-- a constant of the module -/
theorem q_gi {x : Str} {i : Int} {pos : Pos} (hg : Gl X x) (hm : ∃ t, X.mg x = some (.int i t)) (hd : (x == ("__debug__" : Str)) = false := by decide) : QE X (.Name x pos) (dC (.int i)) := by
  obtain ⟨t, hm⟩ := hm
  exact q_const (v := .int i) (pe_glob hg hm ⟨t, rfl⟩ hd) fun _ _ _ _ => rfl
theorem q_gs {x : Str} {z : String} {pos : Pos} (hg : Gl X x) (hm : ∃ t, X.mg x = some (.str (Str.ofString z) t)) (hd : (x == ("__debug__" : Str)) = false := by decide) : QE X (.Name x pos) (dC (.str (Str.ofString z))) := by
  obtain ⟨t, hm⟩ := hm
  exact q_const (v := .str (Str.ofString z)) (pe_glob hg hm ⟨t, rfl⟩ hd) fun _ _ _ _ => ⟨rfl, sOk_of z⟩

/-! ### operators -/
abbrev R1 := D → Gp → (D → Gp → Prop) → Prop
abbrev R2d := D → D → Gp → (D → Gp → Prop) → Prop
abbrev RA := List D → Gp → (D → Gp → Prop) → Prop
def Lift1 (K : KW) (r0 : V → Hp → VK → Prop) (r : R1) : Prop :=
  ∀ F H G d v Q Q0, Rel K F H G → Rep K F H d v → r d G Q → (∀ v' H', post K F H G Q v' H' → Q0 v' H') → r0 v H Q0
def Lift2 (K : KW) (r0 : R2) (r : R2d) : Prop :=
  ∀ F H G d e v u Q Q0, Rel K F H G → Rep K F H d v → Rep K F H e u → r d e G Q → (∀ v' H', post K F H G Q v' H' → Q0 v' H') → r0 v u H Q0
def LiftA (K : KW) (r0 : List V → Hp → VK → Prop) (r : RA) : Prop :=
  ∀ F H G ds vs Q Q0, Rel K F H G → RepL K F H ds vs → r ds G Q → (∀ v' H', post K F H G Q v' H' → Q0 v' H') → r0 vs H Q0
def dOp (r : R2d) (ta tb : DTE) : DTE := fun δ G Q => ta δ G fun x G1 => tb δ G1 fun y G2 => r x y G2 Q
def dUn (r : R1) (ta : DTE) : DTE := fun δ G Q => ta δ G fun x G1 => r x G1 Q
theorem up2 {ta tb : DTE} {r0 : R2} {r : R2d} (l : Lift2 K r0 r) {σ : L2.St} {Q : VK} (h : up K (dOp r ta tb) σ H Q) : tOp r0 (up K ta) (up K tb) σ H Q := by
  obtain ⟨F, δ, G, Q', R, S, q, k⟩ := h
  refine ⟨F, δ, G, _, R, S, q, fun v H1 ⟨d, F1, G1, k1, R1, p1, q1⟩ => ?_⟩
  refine ⟨F1, δ, G1, _, R1, S.mono R k1, q1, fun u H2 ⟨e, F2, G2, k2, R2, p2, q2⟩ => ?_⟩
  exact l F2 H2 G2 d e v u Q' Q R2 (Rep.mono R1 k2 d v p1) p2 q2 fun v' H' q3 => k v' H' (.trans (k1.trans k2) q3)
theorem up1 {ta : DTE} {r0 : V → Hp → VK → Prop} {r : R1} (l : Lift1 K r0 r) {σ : L2.St} {Q : VK} (h : up K (dUn r ta) σ H Q) : tUn r0 (up K ta) σ H Q := by
  obtain ⟨F, δ, G, Q', R, S, q, k⟩ := h
  refine ⟨F, δ, G, _, R, S, q, fun v H1 ⟨d, F1, G1, k1, R1, p1, q1⟩ => ?_⟩
  exact l F1 H1 G1 d v Q' Q R1 p1 q1 fun v' H' q3 => k v' H' (.trans k1 q3)
variable {a b c : Expr} {ta tb tc : DTE} {pos : Pos}
theorem q_op {op : Operator} {r0 : R2} {r : R2d} (ho : OpR X (binaryOp op) r0) (l : Lift2 (kw X) r0 r) (ha : QE X a ta) (hb : QE X b tb) : QE X (.BinOp a op b pos) (dOp r ta tb) :=
  PEmono (pe_op ho ha hb) fun _ _ _ h => up2 l h
theorem q_un {op : UnaryOp} {r0 : V → Hp → VK → Prop} {r : R1} (ho : UnR X (unaryOp op) r0) (l : Lift1 (kw X) r0 r) (ha : QE X a ta) : QE X (.UnaryOp op a pos) (dUn r ta) :=
  PEmono (pe_un ho ha) fun _ _ _ h => up1 l h
theorem q_cmp {op : CmpOp} {r0 : R2} {r : R2d} (ho : OpR X (compareOp op) r0) (l : Lift2 (kw X) r0 r) (ha : QE X a ta) (hb : QE X b tb) (hm : behindInMarks op b = false) : QE X (.Compare a [op] [b] pos) (dOp r ta tb) :=
  PEmono (pe_cmpR ho ha hb hm) fun _ _ _ h => up2 l h
/-- a bool as a test -/
def dTest (t : DTE) : DTT := fun δ G Q => t δ G fun x G1 => optQ (blOf x) fun k => Q k G1
theorem upTest {t : DTE} {t0 : TE} (h : ∀ σ H Q, up K t σ H Q → t0 σ H Q) {σ : L2.St} {Q : Bool → Hp → Prop} (q : upT K (dTest t) σ H Q) : tTest t0 σ H Q := by
  obtain ⟨F, δ, G, Q', R, S, q, k⟩ := q
  refine h _ _ _ ⟨F, δ, G, _, R, S, q, fun v H1 ⟨d, F1, G1, k1, R1, p1, q1⟩ => ?_⟩
  replace q1 := optQ_ex q1
  obtain ⟨x, e, q1⟩ := q1
  rw [blOf_eq e] at p1
  exact ⟨x, p1, k x H1 ⟨F1, G1, k1, R1, q1⟩⟩
theorem q_tcmp {op : CmpOp} {r0 : R2} {r : R2d} (ho : OpR X (compareOp op) r0) (l : Lift2 (kw X) r0 r) (ha : QE X a ta) (hb : QE X b tb) (hm : behindInMarks op b = false) : QT X (.Compare a [op] [b] pos) (dTest (dOp r ta tb)) :=
  PTmono (pt_cmpR ho ha hb hm) fun _ _ _ h => upTest (fun _ _ _ => up2 l) h
/-- two comparisons in a row -/
def dChain (r r' : R2d) (ta tb tc : DTE) : DTE := fun δ G Q => ta δ G fun x G1 => tb δ G1 fun y G2 => r x y G2 fun z G3 => optQ (blOf z) fun c => dCond c (tc δ G3 fun w G4 => r' y w G4 Q) (Q (.bl false) G3)
theorem upChain {r0 r0' : R2} {r r' : R2d} (l : Lift2 K r0 r) (l' : Lift2 K r0' r') {σ : L2.St} {Q : VK} (h : up K (dChain r r' ta tb tc) σ H Q) : tChain r0 r0' (up K ta) (up K tb) (up K tc) σ H Q := by
  obtain ⟨F, δ, G, Q', R, S, q, k⟩ := h
  refine ⟨F, δ, G, _, R, S, q, fun v H1 ⟨d, F1, G1, k1, R1, p1, q1⟩ => ?_⟩
  refine ⟨F1, δ, G1, _, R1, S.mono R k1, q1, fun u H2 ⟨e, F2, G2, k2, R2, p2, q2⟩ => ?_⟩
  have S2 := (S.mono R k1).mono R1 k2
  refine l F2 H2 G2 d e v u _ _ R2 (Rep.mono R1 k2 d v p1) p2 q2 fun v' H' ⟨z, F3, G3, k3, R3, p3, q3⟩ => ?_
  replace q3 := optQ_ex q3
  obtain ⟨x, ex, q3⟩ := q3
  have ez := blOf_eq ex
  subst ez
  · cases x with
    | true =>
      refine ⟨true, p3, ?_⟩
      rw [if_pos rfl]
      refine ⟨F3, δ, G3, _, R3, S2.mono R2 k3, q3, fun w H4 ⟨f, F4, G4, k4, R4, p4, q4⟩ => ?_⟩
      refine l' F4 H4 G4 e f u w Q' Q R4 (Rep.mono R3 k4 e u (Rep.mono R2 k3 e u p2)) p4 q4 fun v' H' q5 => k v' H' (.trans (((k1.trans k2).trans k3).trans k4) q5)
    | false =>
      refine ⟨false, p3, ?_⟩
      rw [if_neg Bool.false_ne_true]
      exact k _ _ ⟨.bl false, F3, G3, (k1.trans k2).trans k3, R3, rfl, q3⟩
theorem q_chain {op op' : CmpOp} {r0 r0' : R2} {r r' : R2d} (ho : OpR X (compareOp op) r0) (l : Lift2 (kw X) r0 r) (ho' : OpR X (compareOp op') r0') (l' : Lift2 (kw X) r0' r') (ha : QE X a ta) (hb : QE X b tb) (hc : QE X c tc)
    (hm : lastMarks [op, op'] [b, c] = false := by with_unfolding_all rfl) : QE X (.Compare a [op, op'] [b, c] pos) (dChain r r' ta tb tc) :=
  PEmono (pe_chain ho ho' ha hb hc hm) fun _ _ _ h => upChain l l' h
theorem q_tchain {op op' : CmpOp} {r0 r0' : R2} {r r' : R2d} (ho : OpR X (compareOp op) r0) (l : Lift2 (kw X) r0 r) (ho' : OpR X (compareOp op') r0') (l' : Lift2 (kw X) r0' r') (ha : QE X a ta) (hb : QE X b tb) (hc : QE X c tc)
    (hm : lastMarks [op, op'] [b, c] = false := by with_unfolding_all rfl) : QT X (.Compare a [op, op'] [b, c] pos) (dTest (dChain r r' ta tb tc)) :=
  PTmono (pt_chain ho ho' ha hb hc hm) fun _ _ _ h => upTest (fun _ _ _ => upChain l l') h

/-! ### operators by their data -/
def dPure2 (f : D → D → Option D) : R2d := fun x y G Q => optQ (f x y) fun z => Q z G
def dPure1 (f : D → Option D) : R1 := fun x G Q => optQ (f x) fun z => Q z G
theorem lift_or {r0 r0' : R2} {r : R2d} (h : ∀ F H G d e v u Q Q0, Rel K F H G → Rep K F H d v → Rep K F H e u → r d e G Q → (∀ v' H', post K F H G Q v' H' → Q0 v' H') → r0 v u H Q0 ∨ r0' v u H Q0) :
    Lift2 K (fun x y H Q => r0 x y H Q ∨ r0' x y H Q) r := h
end
end DL
set_option Elab.async false
set_option linter.all false
set_option maxRecDepth 100000
set_option maxHeartbeats 4000000
namespace DL
open PySem PySem.Spec PyProof.Rows L2
section
variable {X : Cx} {K : KW} {F F' : Fr} {H H' : Hp} {G G' : Gp}
/-- the end of a step that changes nothing -/
theorem fin {Q : D → Gp → Prop} {Q0 : VK} {d : D} {v : V} (R : Rel K F H G) (k : ∀ v' H', post K F H G Q v' H' → Q0 v' H') (q : Q d G) (r : Rep K F H d v) : Q0 v H := k v H (.here R r q)
theorem fin_lv {Q : D → Gp → Prop} {Q0 : VK} {ds : List D} {xs : List V} (R : Rel K F H G) (k : ∀ v' H', post K F H G Q v' H' → Q0 v' H') (r : RepL K F H ds xs) (q : Q (.lv ds) G) : ∀ p, H p = none → Q0 (.ref p) (upd H p (.lst xs)) := fun p hp =>
  k _ _ ⟨.lv ds, frzF F p, G, keep_frz R hp, rel_frz R hp, ⟨p, xs, rfl, ⟨.inr rfl, upd_same⟩, RepL.mono R (keep_frz R hp) _ _ r⟩, q⟩
theorem fin_ref {Q : D → Gp → Prop} {Q0 : VK} {ds : List D} {xs : List V} (R : Rel K F H G) (k : ∀ v' H', post K F H G Q v' H' → Q0 v' H') (r : RepL K F H ds xs) (q : ∀ p, G p = none → Q (.ref p) (updG G p (.lst ds))) : ∀ p, H p = none → Q0 (.ref p) (upd H p (.lst xs)) := fun p hp =>
  k _ _ ⟨.ref p, F, updG G p (.lst ds), keep_obj R hp, rel_obj R hp ⟨xs, upd_same, RepL.mono R (keep_obj (m := .lst ds) R hp) _ _ r⟩, rfl, q p (R.off0 hp)⟩
theorem fin_tup {Q : D → Gp → Prop} {Q0 : VK} {ds : List D} {xs : List V} (R : Rel K F H G) (k : ∀ v' H', post K F H G Q v' H' → Q0 v' H') (r : RepL K F H ds xs) (q : Q (.tup ds) G) : ∀ p (o : Obj), o.dict = none → H p = none → Q0 (.ref p) (upd H p (.frz o (.tup xs))) := fun p o hd hp =>
  k _ _ ⟨.tup ds, F, G, keep_new R hp, rel_new R hp, ⟨p, xs, rfl, .inl ⟨o, upd_same, hd⟩, RepL.mono R (keep_new R hp) _ _ r⟩, q⟩

/-! ### + - * // % ** -/
def dAdd : D → D → Option D
  | .int i, .int j => some (.int (i + j))
  | .str x, .str y => if x.length + y.length ≤ sizeLine then some (.str (x ++ y)) else none
  | .tup xs, .tup ys => if xs.length + ys.length ≤ sizeLine then some (.tup (xs ++ ys)) else none
  | .lv xs, .lv ys => if xs.length + ys.length ≤ sizeLine then some (.lv (xs ++ ys)) else none
  | _, _ => none
def r0Add (K : KW) : R2 := fun x y H Q => (rI0 (fun i j => .int (i + j))) x y H Q ∨ (∃ i j, x = .str i ∧ y = .str j ∧ i.length + j.length ≤ sizeLine ∧ Q (.str (i ++ j)) H) ∨ rCatB K x y H Q ∨ rCat x y H Q
theorem op_addU : OpR X (binaryOp .Add) (r0Add (kw X)) := .or op_add (.or op_add_str (.or op_catB op_cat))
theorem lift_add : Lift2 K (r0Add K) (dPure2 dAdd) := by
  intro F H G d e v u Q Q0 R rd re q k
  replace q := optQ_ex q
  obtain ⟨z, hz, q⟩ := q
  unfold dAdd at hz
  split at hz
  · cases hz
    exact .inl ⟨_, _, rd, re, fin R k q rfl⟩
  · split at hz
    · rename_i hl
      cases hz
      exact .inr (.inl ⟨_, _, rd.1, re.1, hl, fin R k q ⟨rfl, sOk_app rd.2 re.2⟩⟩)
    · cases hz
  · split at hz
    · rename_i hl
      cases hz
      obtain ⟨a, xs, rfl, ha, pa⟩ := rd
      obtain ⟨b, ys, rfl, hb, pb⟩ := re
      refine .inr (.inr (.inl ⟨a, b, xs, ys, rfl, rfl, ha.sq, hb.sq, by rw [pa.len, pb.len]; exact hl, fun e => ?_, fun n e => ?_, fun n n2 p o hd hp => fin_tup R k (pa.app pb) q p o hd hp⟩))
      · subst e
        refine fin R k q ⟨b, [] ++ ys, rfl, hb, pa.app pb⟩
      · subst e
        refine fin R k q ⟨a, xs ++ [], rfl, by rw [List.append_nil]; exact ha, pa.app pb⟩
    · cases hz
  · split at hz
    · rename_i hl
      cases hz
      obtain ⟨a, xs, rfl, ha, pa⟩ := rd
      obtain ⟨b, ys, rfl, hb, pb⟩ := re
      exact .inr (.inr (.inr ⟨a, b, xs, ys, rfl, rfl, ha.2, hb.2, by rw [pa.len, pb.len]; exact hl, fun p hp => fin_lv R k (pa.app pb) q p hp⟩))
    · cases hz
  · cases hz
/-- two ints, a condition, an answer -/
def dI2 (C : Int → Int → Bool) (f : Int → Int → D) : D → D → Option D
  | .int i, .int j => if C i j = true then some (f i j) else none
  | _, _ => none
theorem lift_I {C : Int → Int → Bool} {C0 : Int → Int → Prop} {f : Int → Int → D} {g : Int → Int → V} (hc : ∀ i j, C i j = true → C0 i j) (hf : ∀ F H i j, Rep K F H (f i j) (g i j)) : Lift2 K (rI C0 g) (dPure2 (dI2 C f)) := by
  intro F H G d e v u Q Q0 R rd re q k
  replace q := optQ_ex q
  obtain ⟨z, hz, q⟩ := q
  unfold dI2 at hz
  split at hz
  · split at hz
    · rename_i hl
      cases hz
      exact ⟨_, _, rd, re, hc _ _ hl, fin R k q (hf _ _ _ _)⟩
    · cases hz
  · cases hz
theorem lift_I0 {f : Int → Int → D} {g : Int → Int → V} (hf : ∀ F H i j, Rep K F H (f i j) (g i j)) : Lift2 K (rI0 g) (dPure2 (dI2 (fun _ _ => true) f)) := by
  intro F H G d e v u Q Q0 R rd re q k
  replace q := optQ_ex q
  obtain ⟨z, hz, q⟩ := q
  unfold dI2 at hz
  split at hz
  · rw [if_pos rfl] at hz
    cases hz
    exact ⟨_, _, rd, re, fin R k q (hf _ _ _ _)⟩
  · cases hz
abbrev dSub := dI2 (fun _ _ => true) fun i j => .int (i - j)
abbrev dMul := dI2 (fun i j => (decide (-(2 ^ 64) < i) && decide (i < 2 ^ 64)) || (decide (-(2 ^ 64) < j) && decide (j < 2 ^ 64))) fun i j => .int (i * j)
abbrev dDiv := dI2 (fun _ j => decide (0 < j) && decide (j < 1073741824)) fun i j => .int (i / j)
abbrev dMod := dI2 (fun _ j => decide (0 < j)) fun i j => .int (i % j)
abbrev dPow := dI2 (fun i j => decide (0 ≤ j) && decide (j ≤ 1000000) && (decide (-18446744073709551616 < i) && decide (i < 18446744073709551616))) fun i j => .int (i ^ j.toNat)
theorem lift_sub : Lift2 K (rI0 fun i j => .int (i - j)) (dPure2 dSub) := lift_I0 fun _ _ _ _ => rfl
theorem lift_mul : Lift2 K (rI CMul fun i j => .int (i * j)) (dPure2 dMul) := lift_I (fun i j h => by
  rw [Bool.or_eq_true, Bool.and_eq_true, Bool.and_eq_true, decide_eq_true_eq, decide_eq_true_eq, decide_eq_true_eq, decide_eq_true_eq] at h
  exact h) fun _ _ _ _ => rfl
theorem lift_div : Lift2 K (rI CDiv fun i j => .int (i / j)) (dPure2 dDiv) := lift_I (fun i j h => by
  rw [Bool.and_eq_true, decide_eq_true_eq, decide_eq_true_eq] at h
  exact h) fun _ _ _ _ => rfl
theorem lift_mod : Lift2 K (rI (fun _ j => 0 < j) fun i j => .int (i % j)) (dPure2 dMod) := lift_I (fun i j h => of_decide_eq_true h) fun _ _ _ _ => rfl
theorem lift_pow : Lift2 K (rI CPow fun i j => .int (i ^ j.toNat)) (dPure2 dPow) := lift_I (fun i j h => by
  rw [Bool.and_eq_true, Bool.and_eq_true, Bool.and_eq_true, decide_eq_true_eq, decide_eq_true_eq, decide_eq_true_eq, decide_eq_true_eq] at h
  exact ⟨h.1.1, h.1.2, by omega⟩) fun _ _ _ _ => rfl
variable {a b c : Expr} {ta tb tc : DTE} {pos : Pos}
theorem q_add (ha : QE X a ta) (hb : QE X b tb) : QE X (.BinOp a .Add b pos) (dOp (dPure2 dAdd) ta tb) := q_op op_addU lift_add ha hb
theorem q_sub (ha : QE X a ta) (hb : QE X b tb) : QE X (.BinOp a .Sub b pos) (dOp (dPure2 dSub) ta tb) := q_op op_sub lift_sub ha hb
theorem q_mul (ha : QE X a ta) (hb : QE X b tb) : QE X (.BinOp a .Mult b pos) (dOp (dPure2 dMul) ta tb) := q_op op_mul lift_mul ha hb
theorem q_div (ha : QE X a ta) (hb : QE X b tb) : QE X (.BinOp a .FloorDiv b pos) (dOp (dPure2 dDiv) ta tb) := q_op op_fdiv lift_div ha hb
theorem q_mod (ha : QE X a ta) (hb : QE X b tb) : QE X (.BinOp a .Mod b pos) (dOp (dPure2 dMod) ta tb) := q_op op_mod lift_mod ha hb
theorem q_pow (ha : QE X a ta) (hb : QE X b tb) : QE X (.BinOp a .Pow b pos) (dOp (dPure2 dPow) ta tb) := q_op op_pow lift_pow ha hb

/-! ### == and != -/
mutual
def pyD : D → Option PyData
  | .non => some .none
  | .bl b => some (.bool b)
  | .int i => some (.int i)
  | .str x => some (.str x)
  | .ref _ => none
  | .tup ds => (pyL ds).map .tuple
  | .lv ds => (pyL ds).map .list
  | .rl ds => (pyL ds).map .list
  | .dv _ => none
  | .pv _ => none
def pyL : List D → Option (List PyData)
  | [] => some []
  | d :: ds => match pyD d, pyL ds with
    | some x, some xs => some (x :: xs)
    | _, _ => none
end
/-! plain: no mutable thing, no dict in it -/
mutual
def dPl : D → Bool
  | .ref _ => false
  | .dv _ => false
  | .pv _ => false
  | .tup ds => dPlL ds
  | .lv ds => dPlL ds
  | .rl ds => dPlL ds
  | _ => true
def dPlL : List D → Bool
  | [] => true
  | d :: ds => dPl d && dPlL ds
end
mutual
def dDep : D → Nat
  | .tup ds => dDepL ds + 1
  | .lv ds => dDepL ds + 1
  | .rl ds => dDepL ds + 1
  | _ => 0
def dDepL : List D → Nat
  | [] => 0
  | d :: ds => max (dDep d) (dDepL ds)
end
mutual
def dEq : D → D → Bool
  | .non, .non => true
  | .bl a, .bl b => a == b
  | .bl a, .int j => (if a then 1 else 0) == j
  | .int i, .bl b => i == (if b then 1 else 0)
  | .int i, .int j => i == j
  | .str x, .str y => x == y
  | .tup xs, .tup ys => dEqL xs ys
  | .lv xs, .lv ys => dEqL xs ys
  | .lv xs, .rl ys => dEqL xs ys
  | .rl xs, .lv ys => dEqL xs ys
  | .rl xs, .rl ys => dEqL xs ys
  | _, _ => false
def dEqL : List D → List D → Bool
  | [], [] => true
  | x :: xs, y :: ys => dEq x y && dEqL xs ys
  | _, _ => false
end
mutual
theorem pyD_ok : ∀ (d : D) (v : V), dPl d = true → Rep K F H d v → ∃ p, pyD d = some p ∧ Dp K H v p ∧ p.canLay0 = true ∧ p.depth = dDep d
  | .non, v, _, h => by cases h; exact ⟨_, rfl, .non, rfl, rfl⟩
  | .bl b, v, _, h => by cases h; exact ⟨_, rfl, .bl b, rfl, rfl⟩
  | .int i, v, _, h => by cases h; exact ⟨_, rfl, .int i, rfl, rfl⟩
  | .str x, v, _, ⟨h, hs⟩ => by cases h; exact ⟨_, rfl, .str x, hs, rfl⟩
  | .ref _, v, n, _ => by cases n
  | .dv _, v, n, _ => by cases n
  | .pv _, v, n, _ => by cases n
  | .tup ds, v, n, ⟨a, xs, e, hs, hr⟩ => by
    subst e
    obtain ⟨ps, e1, e2, e3, e4⟩ := pyL_ok ds xs n hr
    exact ⟨.tuple ps, by unfold pyD; rw [e1]; rfl, .tup hs.sq e2, e3, by show PyData.depthAll ps + 1 = _; rw [e4]; rfl⟩
  | .lv ds, v, n, ⟨a, xs, e, hs, hr⟩ => by
    subst e
    obtain ⟨ps, e1, e2, e3, e4⟩ := pyL_ok ds xs n hr
    exact ⟨.list ps, by unfold pyD; rw [e1]; rfl, .lst (.of hs.2) e2, e3, by show PyData.depthAll ps + 1 = _; rw [e4]; rfl⟩
  | .rl ds, v, n, ⟨a, xs, e, hs, hr⟩ => by
    subst e
    obtain ⟨ps, e1, e2, e3, e4⟩ := pyL_ok ds xs n hr
    refine ⟨.list ps, by unfold pyD; rw [e1]; rfl, .lst ?_ e2, e3, by show PyData.depthAll ps + 1 = _; rw [e4]; rfl⟩
    rcases hs with ⟨o, hs⟩ | hs
    · exact .inl (.inr ⟨o, hs⟩)
    · exact .inr hs
theorem pyL_ok : ∀ (ds : List D) (vs : List V), dPlL ds = true → RepL K F H ds vs → ∃ ps, pyL ds = some ps ∧ DpAll K H vs ps ∧ PyData.canLayAll0 ps = true ∧ PyData.depthAll ps = dDepL ds
  | [], vs, _, h => by cases h; exact ⟨[], rfl, .nil, rfl, rfl⟩
  | d :: ds, vs, n, ⟨v, r, e, h, hr⟩ => by
    subst e
    unfold dPlL at n
    rw [Bool.and_eq_true] at n
    obtain ⟨p, e1, e2, e3, e4⟩ := pyD_ok d v n.1 h
    obtain ⟨ps, f1, f2, f3, f4⟩ := pyL_ok ds r n.2 hr
    refine ⟨p :: ps, by unfold pyL; rw [e1, f1], .cons e2 f2, by show (p.canLay0 && PyData.canLayAll0 ps) = true; rw [e3, f3]; rfl, ?_⟩
    show max p.depth (PyData.depthAll ps) = _
    rw [e4, f4]; rfl
end
mutual
theorem dEq_py : ∀ (d e : D) (p q : PyData), pyD d = some p → pyD e = some q → PyData.eqv p q = dEq d e
  | d, e, p, q, h1, h2 => by
    cases d with
    | ref => cases h1
    | dv => cases h1
    | pv => cases h1
    | tup ds =>
      unfold pyD at h1
      cases e1 : pyL ds with
      | none => rw [e1] at h1; cases h1
      | some ps =>
        rw [e1] at h1; cases h1
        cases e with
        | ref => cases h2
        | dv => cases h2
        | pv => cases h2
        | tup es =>
          unfold pyD at h2
          cases e2 : pyL es with
          | none => rw [e2] at h2; cases h2
          | some qs => rw [e2] at h2; cases h2; exact dEqL_py ds es ps qs e1 e2
        | lv es => unfold pyD at h2; cases e2 : pyL es with
          | none => rw [e2] at h2; cases h2
          | some qs => rw [e2] at h2; cases h2; rfl
        | rl es => unfold pyD at h2; cases e2 : pyL es with
          | none => rw [e2] at h2; cases h2
          | some qs => rw [e2] at h2; cases h2; rfl
        | _ => cases h2; rfl
    | lv ds =>
      unfold pyD at h1
      cases e1 : pyL ds with
      | none => rw [e1] at h1; cases h1
      | some ps =>
        rw [e1] at h1; cases h1
        cases e with
        | ref => cases h2
        | dv => cases h2
        | pv => cases h2
        | tup es => unfold pyD at h2; cases e2 : pyL es with
          | none => rw [e2] at h2; cases h2
          | some qs => rw [e2] at h2; cases h2; rfl
        | lv es => unfold pyD at h2; cases e2 : pyL es with
          | none => rw [e2] at h2; cases h2
          | some qs => rw [e2] at h2; cases h2; exact dEqL_py ds es ps qs e1 e2
        | rl es => unfold pyD at h2; cases e2 : pyL es with
          | none => rw [e2] at h2; cases h2
          | some qs => rw [e2] at h2; cases h2; exact dEqL_py ds es ps qs e1 e2
        | _ => cases h2; rfl
    | rl ds =>
      unfold pyD at h1
      cases e1 : pyL ds with
      | none => rw [e1] at h1; cases h1
      | some ps =>
        rw [e1] at h1; cases h1
        cases e with
        | ref => cases h2
        | dv => cases h2
        | pv => cases h2
        | tup es => unfold pyD at h2; cases e2 : pyL es with
          | none => rw [e2] at h2; cases h2
          | some qs => rw [e2] at h2; cases h2; rfl
        | lv es => unfold pyD at h2; cases e2 : pyL es with
          | none => rw [e2] at h2; cases h2
          | some qs => rw [e2] at h2; cases h2; exact dEqL_py ds es ps qs e1 e2
        | rl es => unfold pyD at h2; cases e2 : pyL es with
          | none => rw [e2] at h2; cases h2
          | some qs => rw [e2] at h2; cases h2; exact dEqL_py ds es ps qs e1 e2
        | _ => cases h2; rfl
    | non => cases h1; cases e with
      | ref => cases h2
      | dv => cases h2
      | pv => cases h2
      | tup es => unfold pyD at h2; cases e2 : pyL es with
        | none => rw [e2] at h2; cases h2
        | some qs => rw [e2] at h2; cases h2; rfl
      | lv es => unfold pyD at h2; cases e2 : pyL es with
        | none => rw [e2] at h2; cases h2
        | some qs => rw [e2] at h2; cases h2; rfl
      | rl es => unfold pyD at h2; cases e2 : pyL es with
        | none => rw [e2] at h2; cases h2
        | some qs => rw [e2] at h2; cases h2; rfl
      | _ => cases h2; rfl
    | bl x => cases h1; cases e with
      | ref => cases h2
      | dv => cases h2
      | pv => cases h2
      | tup es => unfold pyD at h2; cases e2 : pyL es with
        | none => rw [e2] at h2; cases h2
        | some qs => rw [e2] at h2; cases h2; rfl
      | lv es => unfold pyD at h2; cases e2 : pyL es with
        | none => rw [e2] at h2; cases h2
        | some qs => rw [e2] at h2; cases h2; rfl
      | rl es => unfold pyD at h2; cases e2 : pyL es with
        | none => rw [e2] at h2; cases h2
        | some qs => rw [e2] at h2; cases h2; rfl
      | _ => cases h2; rfl
    | int x => cases h1; cases e with
      | ref => cases h2
      | dv => cases h2
      | pv => cases h2
      | tup es => unfold pyD at h2; cases e2 : pyL es with
        | none => rw [e2] at h2; cases h2
        | some qs => rw [e2] at h2; cases h2; rfl
      | lv es => unfold pyD at h2; cases e2 : pyL es with
        | none => rw [e2] at h2; cases h2
        | some qs => rw [e2] at h2; cases h2; rfl
      | rl es => unfold pyD at h2; cases e2 : pyL es with
        | none => rw [e2] at h2; cases h2
        | some qs => rw [e2] at h2; cases h2; rfl
      | _ => cases h2; rfl
    | str x => cases h1; cases e with
      | ref => cases h2
      | dv => cases h2
      | pv => cases h2
      | tup es => unfold pyD at h2; cases e2 : pyL es with
        | none => rw [e2] at h2; cases h2
        | some qs => rw [e2] at h2; cases h2; rfl
      | lv es => unfold pyD at h2; cases e2 : pyL es with
        | none => rw [e2] at h2; cases h2
        | some qs => rw [e2] at h2; cases h2; rfl
      | rl es => unfold pyD at h2; cases e2 : pyL es with
        | none => rw [e2] at h2; cases h2
        | some qs => rw [e2] at h2; cases h2; rfl
      | _ => cases h2; rfl
theorem dEqL_py : ∀ (ds es : List D) (ps qs : List PyData), pyL ds = some ps → pyL es = some qs → PyData.eqvAll ps qs = dEqL ds es
  | [], [], ps, qs, h1, h2 => by cases h1; cases h2; rfl
  | [], e :: es, ps, qs, h1, h2 => by
    cases h1
    unfold pyL at h2
    split at h2
    · cases h2; rfl
    · cases h2
  | d :: ds, [], ps, qs, h1, h2 => by
    cases h2
    unfold pyL at h1
    split at h1
    · cases h1; rfl
    · cases h1
  | d :: ds, e :: es, ps, qs, h1, h2 => by
    unfold pyL at h1 h2
    split at h1
    · split at h2
      · rename_i _ _ p ps' e1 e2 _ _ q qs' f1 f2
        cases h1
        cases h2
        show (PyData.eqv p q && PyData.eqvAll ps' qs') = (dEq d e && dEqL ds es)
        rw [dEq_py d e p q e1 f1, dEqL_py ds es ps' qs' e2 f2]
      · cases h2
    · cases h1
end
def okEq (x y : D) : Bool := dPl x && dPl y && decide (min (dDep x) (dDep y) ≤ 190)
def dEqR : R2d := fun x y G Q => okEq x y = true ∧ Q (.bl (dEq x y)) G
def dNeR : R2d := fun x y G Q => okEq x y = true ∧ Q (.bl (!dEq x y)) G
/-- by data, as the library says it -/
def r0Eq (K : KW) (n : Bool) : R2 := fun x y H Q => ∃ d e, Dp K H x d ∧ Dp K H y e ∧ d.canLay0 = true ∧ e.canLay0 = true ∧ min d.depth e.depth ≤ 190 ∧ Q (.bl (if n then !PyData.eqv d e else PyData.eqv d e)) H
theorem op_eqU (hu : X.A.units + 190 < cLine) : OpR X (compareOp .Eq) (r0Eq (kw X) false) := by
  intro pins s σ H x y v u Q I rx ry h
  obtain ⟨d, e, hd, he, sd, se, dp, q⟩ := h
  obtain ⟨as, r1⟩ := Dp.reads I d x v hd rx
  obtain ⟨bs, r2⟩ := Dp.reads I e y u he ry
  exact SeqAt.compareEq_reads r1 r2 sd se (by omega) ⟨.bl _, H, I, rfl, q⟩
theorem op_neU (hu : X.A.units + 190 < cLine) : OpR X (compareOp .NotEq) (r0Eq (kw X) true) := by
  intro pins s σ H x y v u Q I rx ry h
  obtain ⟨d, e, hd, he, sd, se, dp, q⟩ := h
  obtain ⟨as, r1⟩ := Dp.reads I d x v hd rx
  obtain ⟨bs, r2⟩ := Dp.reads I e y u he ry
  exact SeqAt.compareNe_reads r1 r2 sd se (by omega) ⟨.bl _, H, I, rfl, q⟩
theorem lift_eq : Lift2 K (r0Eq K false) dEqR := by
  intro F H G d e v u Q Q0 R rd re ⟨ok, q⟩ k
  unfold okEq at ok
  rw [Bool.and_eq_true, Bool.and_eq_true, decide_eq_true_eq] at ok
  obtain ⟨p, e1, e2, e3, e4⟩ := pyD_ok d v ok.1.1 rd
  obtain ⟨p', f1, f2, f3, f4⟩ := pyD_ok e u ok.1.2 re
  refine ⟨p, p', e2, f2, e3, f3, by rw [e4, f4]; exact ok.2, ?_⟩
  rw [if_neg Bool.false_ne_true, dEq_py d e p p' e1 f1]
  exact fin R k q rfl
theorem lift_ne : Lift2 K (r0Eq K true) dNeR := by
  intro F H G d e v u Q Q0 R rd re ⟨ok, q⟩ k
  unfold okEq at ok
  rw [Bool.and_eq_true, Bool.and_eq_true, decide_eq_true_eq] at ok
  obtain ⟨p, e1, e2, e3, e4⟩ := pyD_ok d v ok.1.1 rd
  obtain ⟨p', f1, f2, f3, f4⟩ := pyD_ok e u ok.1.2 re
  refine ⟨p, p', e2, f2, e3, f3, by rw [e4, f4]; exact ok.2, ?_⟩
  rw [if_pos rfl, dEq_py d e p p' e1 f1]
  exact fin R k q rfl
/-! ### in, not in: a tuple or a list of data -/
def itemsOf : D → Gp → Option (List D)
  | .tup ds, _ => some ds
  | .lv ds, _ => some ds
  | .rl ds, _ => some ds
  | .ref a, G => match G a with | some (.lst ds) => some ds | _ => none
  | _, _ => none
def dInR (n : Bool) : R2d := fun x y G Q => optQ (itemsOf y G) fun ds => dPl x = true ∧ dPlL ds = true ∧ min (dDepL ds) (dDep x) ≤ 180 ∧ Q (.bl (if n then !ds.any (fun z => dEq z x) else ds.any (fun z => dEq z x))) G
def r0In (K : KW) (n : Bool) : R2 := fun x y H Q => ∃ d ds a ys, Dp K H x d ∧ y = .ref a ∧ (SqL K H a ys ∨ SqT K H a ys) ∧ DpAll K H ys ds ∧ d.canLay0 = true ∧ PyData.canLayAll0 ds = true ∧ min (PyData.depthAll ds) d.depth ≤ 180 ∧
  Q (.bl (if n then !ds.any (fun z => PyData.eqv z d) else ds.any (fun z => PyData.eqv z d))) H
theorem op_inU (hu : X.A.units + 190 < cLine) : OpR X (compareOp .In) (r0In (kw X) false) := by
  intro pins s σ H x y v u Q I rx ry h
  obtain ⟨d, ds, a, ys, hd, rfl, hs, hys, sd, se, dp, q⟩ := h
  obtain ⟨as, r1⟩ := Dp.reads I d x v hd rx
  rcases hs with hs | hs
  · obtain ⟨bs, r2⟩ := Dp.reads I (.list ds) (.ref a) u (.lst hs hys) ry
    exact SeqAt.in_list_reads r2 r1 se sd (by omega) ⟨.bl _, H, I, rfl, q⟩
  · obtain ⟨bs, r2⟩ := Dp.reads I (.tuple ds) (.ref a) u (.tup hs hys) ry
    exact SeqAt.in_tuple_reads r2 r1 se sd (by omega) ⟨.bl _, H, I, rfl, q⟩
theorem op_ninU (hu : X.A.units + 190 < cLine) : OpR X (compareOp .NotIn) (r0In (kw X) true) := by
  intro pins s σ H x y v u Q I rx ry h
  obtain ⟨d, ds, a, ys, hd, rfl, hs, hys, sd, se, dp, q⟩ := h
  obtain ⟨as, r1⟩ := Dp.reads I d x v hd rx
  rcases hs with hs | hs
  · obtain ⟨bs, r2⟩ := Dp.reads I (.list ds) (.ref a) u (.lst hs hys) ry
    exact SeqAt.notIn_list_reads r2 r1 se sd (by omega) ⟨.bl _, H, I, rfl, q⟩
  · obtain ⟨bs, r2⟩ := Dp.reads I (.tuple ds) (.ref a) u (.tup hs hys) ry
    exact SeqAt.notIn_tuple_reads r2 r1 se sd (by omega) ⟨.bl _, H, I, rfl, q⟩
/-- what is walked, read, measured: its items in the heap -/
theorem items_rep {y : D} {u : V} {ds : List D} (R : Rel K F H G) (r : Rep K F H y u) (e : itemsOf y G = some ds) : ∃ a ys, u = .ref a ∧ (SqL K H a ys ∨ SqT K H a ys) ∧ RepL K F H ds ys := by
  cases y with
  | tup es => cases e; obtain ⟨a, xs, h1, h2, h3⟩ := r; exact ⟨a, xs, h1, .inr h2.sq, h3⟩
  | lv es => cases e; obtain ⟨a, xs, h1, h2, h3⟩ := r; exact ⟨a, xs, h1, .inl (.of h2.2), h3⟩
  | rl es =>
    cases e
    obtain ⟨a, xs, h1, h2, h3⟩ := r
    refine ⟨a, xs, h1, .inl ?_, h3⟩
    rcases h2 with ⟨o, h2⟩ | h2
    · exact .inl (.inr ⟨o, h2⟩)
    · exact .inr h2
  | ref a =>
    have r' : u = .ref a := r
    subst r'
    unfold itemsOf at e
    cases eg : G a with
    | none => simp only [eg] at e; cases e
    | some m =>
      cases m with
      | lst es =>
        simp only [eg] at e
        cases e
        obtain ⟨xs, h1, h2⟩ := R.obj a _ eg
        exact ⟨a, xs, rfl, .inl (.of h1), h2⟩
      | _ => simp only [eg] at e; cases e
  | _ => cases e
theorem items_repB {y : D} {u : V} {ds : List D} (R : Rel K F H G) (r : Rep K F H y u) (e : itemsOf y G = some ds) : ∃ a ys, u = .ref a ∧ (SqL K H a ys ∨ BT K H a ys) ∧ RepL K F H ds ys := by
  cases y with
  | tup es => cases e; obtain ⟨a, xs, h1, h2, h3⟩ := r; exact ⟨a, xs, h1, .inr h2, h3⟩
  | lv es => cases e; obtain ⟨a, xs, h1, h2, h3⟩ := r; exact ⟨a, xs, h1, .inl (.of h2.2), h3⟩
  | rl es =>
    cases e
    obtain ⟨a, xs, h1, h2, h3⟩ := r
    refine ⟨a, xs, h1, .inl ?_, h3⟩
    rcases h2 with ⟨o, h2⟩ | h2
    · exact .inl (.inr ⟨o, h2⟩)
    · exact .inr h2
  | ref a =>
    have r' : u = .ref a := r
    subst r'
    unfold itemsOf at e
    cases eg : G a with
    | none => simp only [eg] at e; cases e
    | some m =>
      cases m with
      | lst es =>
        simp only [eg] at e
        cases e
        obtain ⟨xs, h1, h2⟩ := R.obj a _ eg
        exact ⟨a, xs, rfl, .inl (.of h1), h2⟩
      | _ => simp only [eg] at e; cases e
  | _ => cases e
theorem any_py (d : D) (p : PyData) (hp : pyD d = some p) : ∀ (ds : List D) (ps : List PyData), pyL ds = some ps → (ps.any fun z => PyData.eqv z p) = ds.any fun z => dEq z d
  | [], ps, h => by cases h; rfl
  | e :: es, ps, h => by
    unfold pyL at h
    split at h
    · rename_i q qs e1 e2
      cases h
      rw [List.any_cons, List.any_cons, dEq_py e d q p e1 hp, any_py d p hp es qs e2]
    · cases h
theorem lift_in (n : Bool) : Lift2 K (r0In K n) (dInR n) := by
  intro F H G d e v u Q Q0 R rd re q k
  · replace q := optQ_ex q
    obtain ⟨ds, ei, h1, h2, h3, q⟩ := q
    obtain ⟨a, ys, rfl, hs, hr⟩ := items_rep R re ei
    obtain ⟨p, e1, e2, e3, e4⟩ := pyD_ok d v h1 rd
    obtain ⟨ps, f1, f2, f3, f4⟩ := pyL_ok ds ys h2 hr
    refine ⟨p, ps, a, ys, e2, rfl, hs, f2, e3, f3, by rw [e4, f4]; exact h3, ?_⟩
    rw [any_py d p e1 ds ps f1]
    exact fin R k q rfl
theorem q_eq (hu : X.A.units + 190 < cLine) (ha : QE X a ta) (hb : QE X b tb) : QE X (.Compare a [.Eq] [b] pos) (dOp dEqR ta tb) := q_cmp (op_eqU hu) lift_eq ha hb (nomark _)
theorem q_ne (hu : X.A.units + 190 < cLine) (ha : QE X a ta) (hb : QE X b tb) : QE X (.Compare a [.NotEq] [b] pos) (dOp dNeR ta tb) := q_cmp (op_neU hu) lift_ne ha hb (nomark _)
theorem q_in (hu : X.A.units + 190 < cLine) (ha : QE X a ta) (hb : QE X b tb) (hm : behindInMarks .In b = false := by rfl) : QE X (.Compare a [.In] [b] pos) (dOp (dInR false) ta tb) := q_cmp (op_inU hu) (lift_in _) ha hb hm
theorem q_nin (hu : X.A.units + 190 < cLine) (ha : QE X a ta) (hb : QE X b tb) (hm : behindInMarks .NotIn b = false := by rfl) : QE X (.Compare a [.NotIn] [b] pos) (dOp (dInR true) ta tb) := q_cmp (op_ninU hu) (lift_in _) ha hb hm
/-! ### order -/
def dOrd (f : Int → Int → Bool) (g : List Nat → List Nat → Bool) : D → D → Option D
  | .int i, .int j => some (.bl (f i j))
  | .str x, .str y => some (.bl (g x.cps.toList y.cps.toList))
  | _, _ => none
theorem lift_ord {f : Int → Int → Bool} {g : List Nat → List Nat → Bool} : Lift2 K (fun x y H Q => (rI0 fun i j => .bl (f i j)) x y H Q ∨ (∃ i j, x = .str i ∧ y = .str j ∧ Q (.bl (g i.cps.toList j.cps.toList)) H)) (dPure2 (dOrd f g)) := by
  intro F H G d e v u Q Q0 R rd re q k
  replace q := optQ_ex q
  obtain ⟨z, hz, q⟩ := q
  unfold dOrd at hz
  split at hz
  · cases hz; exact .inl ⟨_, _, rd, re, fin R k q rfl⟩
  · cases hz; exact .inr ⟨_, _, rd.1, re.1, fin R k q rfl⟩
  · cases hz
abbrev dLt := dOrd (fun i j => decide (i < j)) fun x y => decide (x < y)
abbrev dLe := dOrd (fun i j => decide (i ≤ j)) fun x y => !decide (y < x)
abbrev dGt := dOrd (fun i j => decide (j < i)) fun x y => decide (y < x)
abbrev dGe := dOrd (fun i j => decide (j ≤ i)) fun x y => !decide (x < y)
theorem op_ltU : OpR X (compareOp .Lt) (fun x y H Q => (rI0 fun i j => .bl (decide (i < j))) x y H Q ∨ (∃ i j, x = .str i ∧ y = .str j ∧ Q (.bl (decide (i.cps.toList < j.cps.toList))) H)) := .or op_lt op_lt_str
theorem op_leU : OpR X (compareOp .LtE) (fun x y H Q => (rI0 fun i j => .bl (decide (i ≤ j))) x y H Q ∨ (∃ i j, x = .str i ∧ y = .str j ∧ Q (.bl (!decide (j.cps.toList < i.cps.toList))) H)) := .or op_le op_le_str
theorem op_gtU : OpR X (compareOp .Gt) (fun x y H Q => (rI0 fun i j => .bl (decide (j < i))) x y H Q ∨ (∃ i j, x = .str i ∧ y = .str j ∧ Q (.bl (decide (j.cps.toList < i.cps.toList))) H)) := .or op_gt op_gt_str
theorem op_geU : OpR X (compareOp .GtE) (fun x y H Q => (rI0 fun i j => .bl (decide (j ≤ i))) x y H Q ∨ (∃ i j, x = .str i ∧ y = .str j ∧ Q (.bl (!decide (i.cps.toList < j.cps.toList))) H)) := .or op_ge op_ge_str
theorem q_lt (ha : QE X a ta) (hb : QE X b tb) : QE X (.Compare a [.Lt] [b] pos) (dOp (dPure2 dLt) ta tb) := q_cmp op_ltU lift_ord ha hb (nomark _)
theorem q_le (ha : QE X a ta) (hb : QE X b tb) : QE X (.Compare a [.LtE] [b] pos) (dOp (dPure2 dLe) ta tb) := q_cmp op_leU lift_ord ha hb (nomark _)
theorem q_gt (ha : QE X a ta) (hb : QE X b tb) : QE X (.Compare a [.Gt] [b] pos) (dOp (dPure2 dGt) ta tb) := q_cmp op_gtU lift_ord ha hb (nomark _)
theorem q_ge (ha : QE X a ta) (hb : QE X b tb) : QE X (.Compare a [.GtE] [b] pos) (dOp (dPure2 dGe) ta tb) := q_cmp op_geU lift_ord ha hb (nomark _)
/-- is None -/
def isNon : D → Bool
  | .non => true
  | _ => false
def dIsN (n : Bool) : R1 := fun x G Q => Q (.bl (xor n (isNon x))) G
theorem isN_ok {d : D} {v : V} (r : Rep K F H d v) : decide (v = .non) = (match d with | .non => true | _ => false) := by
  cases d with
  | non => cases r; rfl
  | bl _ => cases r; rfl
  | int _ => cases r; rfl
  | str _ => obtain ⟨r, _⟩ := r; cases r; rfl
  | ref _ => cases r; rfl
  | tup _ => obtain ⟨_, _, r, _⟩ := r; cases r; rfl
  | lv _ => obtain ⟨_, _, r, _⟩ := r; cases r; rfl
  | rl _ => obtain ⟨_, _, r, _⟩ := r; cases r; rfl
  | dv _ => obtain ⟨_, _, r, _⟩ := r; cases r; rfl
  | pv _ => obtain ⟨_, _, _, r, _⟩ := r; cases r; rfl
theorem q_isN {j pos'} (ha : QE X a ta) : QE X (.Compare a [.Is] [.Constant .none j pos'] pos) (dUn (dIsN false) ta) := PEmono (pe_cmp (pc_isN ha) rfl) fun σ H Q h => by
  refine up1 (r0 := fun x H Q => Q (.bl (decide (x = .non))) H) ?_ h
  intro F H G d v Q Q0 R rd q k
  show Q0 (.bl (decide (v = .non))) H
  rw [isN_ok rd]
  have q' : Q (.bl (xor false (isNon d))) G := q
  cases d <;> exact fin (d := .bl _) R k q' rfl
theorem q_notN {j pos'} (ha : QE X a ta) : QE X (.Compare a [.IsNot] [.Constant .none j pos'] pos) (dUn (dIsN true) ta) := PEmono (pe_cmp (pc_notN ha) rfl) fun σ H Q h => by
  refine up1 (r0 := fun x H Q => Q (.bl (!decide (x = .non))) H) ?_ h
  intro F H G d v Q Q0 R rd q k
  show Q0 (.bl (!decide (v = .non))) H
  rw [isN_ok rd]
  have q' : Q (.bl (xor true (isNon d))) G := q
  cases d <;> exact fin (d := .bl _) R k q' rfl
end
end DL
set_option Elab.async false
set_option linter.all false
set_option maxRecDepth 100000
set_option maxHeartbeats 4000000
namespace DL
open PySem PySem.Spec PyProof.Rows L2
section
variable {X : Cx} {K : KW} {F F' : Fr} {H H' : Hp} {G G' : Gp} {a b c e : Expr} {es rest : List Expr} {ta tb tc te : DTE} {t u tA tB' : DTT} {pos : Pos}
/-! ### truth -/
def truthD : D → Gp → Option Bool
  | .non, _ => some false
  | .bl b, _ => some b
  | .int i, _ => some (i != 0)
  | .str x, _ => if x.length ≤ sizeLine then some ((x.length : Int) != 0) else none
  | .ref a, G => match G a with
    | some (.lst ds) => some (!ds.isEmpty)
    | some (.dic kvs) => some (!kvs.isEmpty)
    | _ => none
  | .tup ds, _ => some (!ds.isEmpty)
  | .lv ds, _ => some (!ds.isEmpty)
  | .rl ds, _ => some (!ds.isEmpty)
  | .dv _, _ => none
  | .pv _, _ => none
theorem RepL.emp {ds : List D} {xs : List V} (r : RepL K F H ds xs) : ds.isEmpty = xs.isEmpty := by
  cases ds with
  | nil => cases r; rfl
  | cons d ds => obtain ⟨v, r', e, _⟩ := r; subst e; rfl
theorem RepK.emp {ds : List (Key × D)} {xs : List (Key × V)} (r : RepK K F H ds xs) : ds.isEmpty = xs.isEmpty := by
  cases ds with
  | nil => cases r; rfl
  | cons d ds => obtain ⟨k, v, r', e, _⟩ := r; subst e; rfl
theorem truth_ok {d : D} {v : V} {k : Bool} (R : Rel K F H G) (r : Rep K F H d v) (e : truthD d G = some k) : TruV K v H k := by
  cases d with
  | non => cases r; cases e; rfl
  | bl x => cases r; cases e; rfl
  | int i => cases r; cases e; rfl
  | str x =>
    obtain ⟨r, _⟩ := r
    cases r
    simp only [truthD] at e
    split at e
    · cases e
      rename_i h
      exact ⟨h, rfl⟩
    · cases e
  | tup ds => obtain ⟨a, xs, r1, r2, r3⟩ := r; cases r1; cases e; exact .inr (.inl ⟨xs, r2.sq, by rw [r3.emp]⟩)
  | lv ds => obtain ⟨a, xs, r1, r2, r3⟩ := r; cases r1; cases e; exact .inl ⟨xs, .of r2.2, by rw [r3.emp]⟩
  | rl ds =>
    obtain ⟨a, ys, e1, h1, h2⟩ := items_rep R r (show itemsOf (.rl ds) G = some ds from rfl)
    cases e1
    cases e
    rcases h1 with h1 | h1
    · exact .inl ⟨ys, h1, by rw [h2.emp]⟩
    · exact .inr (.inl ⟨ys, h1, by rw [h2.emp]⟩)
  | dv _ => cases e
  | pv _ => cases e
  | ref a =>
    have r' : v = .ref a := r
    subst r'
    simp only [truthD] at e
    split at e
    · rename_i ds eg
      cases e
      obtain ⟨xs, h1, h2⟩ := R.obj a _ eg
      exact .inl ⟨xs, .of h1, by rw [h2.emp]⟩
    · rename_i ds eg
      cases e
      obtain ⟨xs, h1, h2⟩ := R.obj a _ eg
      exact .inr (.inr ⟨xs, h1, by rw [h2.emp]⟩)
    · cases e
def dTruth (t : DTE) : DTT := fun δ G Q => t δ G fun x G1 => optQ (truthD x G1) fun k => Q k G1
theorem q_truth (ha : QE X a ta) (he : ∀ whole, isTrue a X.env whole = (do let v ← whole; standAt a.pos; holding [v] (truthy v)) := by intro _; rfl) : QT X a (dTruth ta) := PTmono (pt_truth ha he) fun σ H Q ⟨F, δ, G, Q', R, S, q, k⟩ => by
  refine ⟨F, δ, G, _, R, S, q, fun v H1 ⟨d, F1, G1, k1, R1, p1, q1⟩ => ?_⟩
  replace q1 := optQ_ex q1
  obtain ⟨b, e1, q1⟩ := q1
  exact ⟨b, truth_ok R1 p1 e1, k b H1 ⟨F1, G1, k1, R1, q1⟩⟩
/-! ### and, or, not -/
def QW (X : Cx) (e : Expr) (t : DTT) : Prop := PW X e (upT (kw X) t)
theorem QW.pt (h : QW X e t) : QT X e t := PW.pt h
theorem PWmono {e : Expr} {t t' : TT} (h : PW X e t) (i : ∀ σ H Q, t' σ H Q → t σ H Q) : PW X e t' := ⟨fun wh pins s σ H Q I q => h.run wh pins s σ H Q I (i _ _ _ q)⟩
def dAndT (t u : DTT) : DTT := fun δ G Q => t δ G fun c G1 => dCond c (u δ G1 Q) (Q false G1)
def dOrT (t u : DTT) : DTT := fun δ G Q => t δ G fun c G1 => dCond c (Q true G1) (u δ G1 Q)
def dNotT (t : DTT) : DTT := fun δ G Q => t δ G fun c G1 => Q (!c) G1
theorem qw_and1 (ha : QT X a t) : QW X (.BoolOp .And [a] pos) t := pw_and1 ha
theorem qw_or1 (ha : QT X a t) : QW X (.BoolOp .Or [a] pos) t := pw_or1 ha
theorem qw_and (ha : QT X a t) (hb : QW X (.BoolOp .And (b :: rest) pos) u) : QW X (.BoolOp .And (a :: b :: rest) pos) (dAndT t u) := PWmono (pw_and ha hb) fun σ H Q ⟨F, δ, G, Q', R, S, q, k⟩ => by
  refine ⟨F, δ, G, _, R, S, q, fun b H1 ⟨F1, G1, k1, R1, q1⟩ => ?_⟩
  cases b with
  | true => exact ⟨F1, δ, G1, Q', R1, S.mono R k1, q1, fun b H2 ⟨F2, G2, k2, R2, q2⟩ => k b H2 ⟨F2, G2, k1.trans k2, R2, q2⟩⟩
  | false => exact k _ _ ⟨F1, G1, k1, R1, q1⟩
theorem qw_or (ha : QT X a t) (hb : QW X (.BoolOp .Or (b :: rest) pos) u) : QW X (.BoolOp .Or (a :: b :: rest) pos) (dOrT t u) := PWmono (pw_or ha hb) fun σ H Q ⟨F, δ, G, Q', R, S, q, k⟩ => by
  refine ⟨F, δ, G, _, R, S, q, fun b H1 ⟨F1, G1, k1, R1, q1⟩ => ?_⟩
  cases b with
  | false => exact ⟨F1, δ, G1, Q', R1, S.mono R k1, q1, fun b H2 ⟨F2, G2, k2, R2, q2⟩ => k b H2 ⟨F2, G2, k1.trans k2, R2, q2⟩⟩
  | true => exact k _ _ ⟨F1, G1, k1, R1, q1⟩
theorem qt_not (ha : QT X a t) : QT X (.UnaryOp .Not a pos) (dNotT t) := PTmono (pt_not ha) fun σ H Q ⟨F, δ, G, Q', R, S, q, k⟩ =>
  ⟨F, δ, G, _, R, S, q, fun b H1 ⟨F1, G1, k1, R1, q1⟩ => k _ _ ⟨F1, G1, k1, R1, q1⟩⟩
/-- .. as values -/
def dAnd (ta tb : DTE) : DTE := fun δ G Q => ta δ G fun x G1 => optQ (truthD x G1) fun c => dCond c (tb δ G1 Q) (Q x G1)
def dOr (ta tb : DTE) : DTE := fun δ G Q => ta δ G fun x G1 => optQ (truthD x G1) fun c => dCond c (Q x G1) (tb δ G1 Q)
def dNot (ta : DTE) : DTE := fun δ G Q => ta δ G fun x G1 => optQ (truthD x G1) fun c => Q (.bl (!c)) G1
theorem q_one {op} (h : QE X a ta) : QE X (.BoolOp op [a] pos) ta := pe_one h
theorem q_and (ha : QE X a ta) (hb : QE X (.BoolOp .And (b :: rest) pos) tb) : QE X (.BoolOp .And (a :: b :: rest) pos) (dAnd ta tb) := PEmono (pe_andT ha hb) fun σ H Q ⟨F, δ, G, Q', R, S, q, k⟩ => by
  refine ⟨F, δ, G, _, R, S, q, fun v H1 ⟨d, F1, G1, k1, R1, p1, q1⟩ => ?_⟩
  · replace q1 := optQ_ex q1
    obtain ⟨b, e1, q1⟩ := q1
    refine ⟨b, truth_ok R1 p1 e1, ?_⟩
    cases b with
    | true => exact ⟨F1, δ, G1, Q', R1, S.mono R k1, q1, fun v H2 q2 => k v H2 (.trans k1 q2)⟩
    | false => exact k v H1 ⟨d, F1, G1, k1, R1, p1, q1⟩
theorem q_or (ha : QE X a ta) (hb : QE X (.BoolOp .Or (b :: rest) pos) tb) : QE X (.BoolOp .Or (a :: b :: rest) pos) (dOr ta tb) := PEmono (pe_orT ha hb) fun σ H Q ⟨F, δ, G, Q', R, S, q, k⟩ => by
  refine ⟨F, δ, G, _, R, S, q, fun v H1 ⟨d, F1, G1, k1, R1, p1, q1⟩ => ?_⟩
  · replace q1 := optQ_ex q1
    obtain ⟨b, e1, q1⟩ := q1
    refine ⟨b, truth_ok R1 p1 e1, ?_⟩
    cases b with
    | false => exact ⟨F1, δ, G1, Q', R1, S.mono R k1, q1, fun v H2 q2 => k v H2 (.trans k1 q2)⟩
    | true => exact k v H1 ⟨d, F1, G1, k1, R1, p1, q1⟩
theorem q_not (ha : QE X a ta) : QE X (.UnaryOp .Not a pos) (dNot ta) := PEmono (pe_notT ha) fun σ H Q ⟨F, δ, G, Q', R, S, q, k⟩ => by
  refine ⟨F, δ, G, _, R, S, q, fun v H1 ⟨d, F1, G1, k1, R1, p1, q1⟩ => ?_⟩
  · replace q1 := optQ_ex q1
    obtain ⟨b, e1, q1⟩ := q1
    exact ⟨b, truth_ok R1 p1 e1, k _ _ ⟨.bl (!b), F1, G1, k1, R1, rfl, q1⟩⟩
def dNeg : D → Option D
  | .int i => some (.int (-i))
  | _ => none
theorem q_neg (ha : QE X a ta) : QE X (.UnaryOp .USub a pos) (dUn (dPure1 dNeg) ta) := q_un un_neg (by
  intro F H G d v Q Q0 R rd q k
  replace q := optQ_ex q
  obtain ⟨z, hz, q⟩ := q
  cases d with
  | int i => cases hz; exact ⟨i, rd, fin R k q rfl⟩
  | _ => cases hz) ha
def dIf (c : DTT) (ta tb : DTE) : DTE := fun δ G Q => c δ G fun b G1 => dCond b (ta δ G1 Q) (tb δ G1 Q)
theorem q_if (hc : QT X c t) (ha : QE X a ta) (hb : QE X b tb) : QE X (.IfExp c a b pos) (dIf t ta tb) := PEmono (pe_ifExp hc ha hb) fun σ H Q ⟨F, δ, G, Q', R, S, q, k⟩ => by
  refine ⟨F, δ, G, _, R, S, q, fun b H1 ⟨F1, G1, k1, R1, q1⟩ => ?_⟩
  cases b with
  | true => exact ⟨F1, δ, G1, Q', R1, S.mono R k1, q1, fun v H2 q2 => k v H2 (.trans k1 q2)⟩
  | false => exact ⟨F1, δ, G1, Q', R1, S.mono R k1, q1, fun v H2 q2 => k v H2 (.trans k1 q2)⟩

/-! ### rows of expressions -/
variable {tr : DTA}
def dNil : DTA := fun _ G Q => Q [] G
def dCons (ta : DTE) (tr : DTA) : DTA := fun δ G Q => ta δ G fun x G1 => tr δ G1 fun xs G2 => Q (x :: xs) G2
theorem qa_nil : QA X [] dNil := PAmono pa_nil fun σ H Q ⟨F, δ, G, Q', R, S, q, k⟩ => k [] H ⟨[], F, G, .refl, R, rfl, q⟩
theorem qa_cons (ha : QE X e te) (hr : QA X es tr) (hs : starEach (e :: es) X.env = (false, eval e X.env) :: starEach es X.env := by rfl) : QA X (e :: es) (dCons te tr) := PAmono (pa_cons ha hr hs) fun σ H Q ⟨F, δ, G, Q', R, S, q, k⟩ => by
  refine ⟨F, δ, G, _, R, S, q, fun v H1 ⟨d, F1, G1, k1, R1, p1, q1⟩ => ?_⟩
  refine ⟨F1, δ, G1, _, R1, S.mono R k1, q1, fun vs H2 ⟨ds, F2, G2, k2, R2, p2, q2⟩ => ?_⟩
  exact k _ _ ⟨d :: ds, F2, G2, k1.trans k2, R2, ⟨v, vs, rfl, Rep.mono R1 k2 d v p1, p2⟩, q2⟩
def dTup (tr : DTA) : DTE := fun δ G Q => tr δ G fun ds G1 => ds.length ≤ sizeLine ∧ Q (.tup ds) G1
def dLv (tr : DTA) : DTE := fun δ G Q => tr δ G fun ds G1 => ds.length ≤ sizeLine ∧ Q (.lv ds) G1
def dRef (tr : DTA) : DTE := fun δ G Q => tr δ G fun ds G1 => ds.length ≤ sizeLine ∧ ∀ p, G1 p = none → Q (.ref p) (updG G1 p (.lst ds))
theorem q_tup {x1} (h : QA X es tr) : QE X (.Tuple es x1 pos) (dTup tr) := PEmono (pe_tupB h) fun σ H Q ⟨F, δ, G, Q', R, S, q, k⟩ =>
  ⟨F, δ, G, _, R, S, q, fun vs H1 ⟨ds, F1, G1, k1, R1, p1, hl, q1⟩ => ⟨by rw [p1.len]; exact hl, fin_tup R1 (fun v' H' q2 => k v' H' (.trans k1 q2)) p1 q1⟩⟩
theorem q_lv (h : QA X es tr) : QE X (.List es pos) (dLv tr) := PEmono (pe_lst h) fun σ H Q ⟨F, δ, G, Q', R, S, q, k⟩ =>
  ⟨F, δ, G, _, R, S, q, fun vs H1 ⟨ds, F1, G1, k1, R1, p1, hl, q1⟩ => ⟨by rw [p1.len]; exact hl, fin_lv R1 (fun v' H' q2 => k v' H' (.trans k1 q2)) p1 q1⟩⟩
theorem q_ref (h : QA X es tr) : QE X (.List es pos) (dRef tr) := PEmono (pe_lst h) fun σ H Q ⟨F, δ, G, Q', R, S, q, k⟩ =>
  ⟨F, δ, G, _, R, S, q, fun vs H1 ⟨ds, F1, G1, k1, R1, p1, hl, q1⟩ => ⟨by rw [p1.len]; exact hl, fin_ref R1 (fun v' H' q2 => k v' H' (.trans k1 q2)) p1 q1⟩⟩

/-! ### x[i], x[i:j] -/
theorem atI_rep {ds : List D} {vs : List V} {i : Int} {d : D} (r : RepL K F H ds vs) (e : atI ds i = some d) : ∃ v, atI vs i = some v ∧ Rep K F H d v := by
  unfold atI at e ⊢
  rw [r.len]
  cases h : ixN ds.length i with
  | none => rw [h] at e; cases e
  | some j =>
    rw [h] at e
    exact r.get (show ds[j]? = some d from e)
def ixD : D → D → Gp → Option D
  | .str z, .int i, _ => if z.length ≤ sizeLine then (atI z.cps.toList i).map fun c => .str ⟨#[c]⟩ else none
  | .tup ds, .int i, _ => atI ds i
  | .lv ds, .int i, _ => atI ds i
  | .rl ds, .int i, _ => atI ds i
  | .ref a, .int i, G => (lstOf (G a)).bind fun ds => atI ds i
  | _, _, _ => none
def dIx : R2d := fun x y G Q => optQ (ixD x y G) fun d => Q d G
theorem sOk_at {z : Str} {i : Int} {c : Nat} (hz : sOk z = true) (e : atI z.cps.toList i = some c) : sOk ⟨#[c]⟩ = true := by
  unfold atI at e
  cases h : ixN z.cps.toList.length i with
  | none => rw [h] at e; cases e
  | some j =>
    rw [h] at e
    have e' : z.cps.toList[j]? = some c := e
    have hm := List.mem_of_getElem? e'
    unfold sOk at hz ⊢
    rw [← Array.all_toList, List.all_eq_true] at hz
    have := hz c hm
    simpa using this
theorem lift_ix : Lift2 K (rIx K) dIx := by
  intro F H G d e v u Q Q0 R rd re q k
  replace q := optQ_ex q
  obtain ⟨z, hz, q⟩ := q
  cases e with
  | int i =>
    cases re
    have gen : ∀ ds, itemsOf d G = some ds → atI ds i = some z → rIx K v (.int i) H Q0 := fun ds hi ea => by
      obtain ⟨a, ys, rfl, hs, hr⟩ := items_rep R rd hi
      obtain ⟨w, h1, h2⟩ := atI_rep hr ea
      rcases hs with hs | hs
      · exact .inl ⟨a, ys, i, w, rfl, rfl, hs, h1, fin R k q h2⟩
      · exact .inr (.inl ⟨a, ys, i, w, rfl, rfl, hs, h1, fin R k q h2⟩)
    cases d with
    | str x =>
      obtain ⟨rd, hx⟩ := rd
      cases rd
      simp only [ixD] at hz
      split at hz
      · rename_i hl
        cases ea : atI x.cps.toList i with
        | none => rw [ea] at hz; cases hz
        | some c => rw [ea] at hz; cases hz; exact .inr (.inr ⟨x, i, c, rfl, rfl, hl, ea, fin R k q ⟨rfl, sOk_at hx ea⟩⟩)
      · cases hz
    | tup ds => exact gen ds rfl hz
    | lv ds => exact gen ds rfl hz
    | rl ds => exact gen ds rfl hz
    | ref a =>
      simp only [ixD] at hz
      cases hi : lstOf (G a) with
      | none => rw [hi] at hz; cases hz
      | some ds =>
        rw [hi] at hz
        have e1 := lstOf_eq hi
        exact gen ds (by simp only [itemsOf, e1]) hz
    | _ => cases hz
  | _ => cases d <;> cases hz
theorem q_ix (ha : QE X a ta) (hb : QE X b tb) (hs : PlainIx b := by intro _ _; rfl) : QE X (.Subscript a b pos) (dOp dIx ta tb) := PEmono (pe_ix ix_seq ha hb hs) fun _ _ _ h => up2 lift_ix h
abbrev DTO := DS → Gp → (Option Int → Gp → Prop) → Prop
def upO (K : KW) (t : DTO) : TO := fun σ H Q0 => ∃ F δ G Q, Rel K F H G ∧ RepS K F H δ σ ∧ t δ G Q ∧ ∀ o H', (∃ F' G', Keep F H G F' H' G' ∧ Rel K F' H' G' ∧ Q o G') → Q0 o H'
def QO (X : Cx) (e : Option Expr) (t : DTO) : Prop := PO X e (upO (kw X) t)
theorem POmono {e : Option Expr} {t t' : TO} (h : PO X e t) (i : ∀ σ H Q, t' σ H Q → t σ H Q) : PO X e t' := ⟨fun pins s σ H Q I q => h.run pins s σ H Q I (i _ _ _ q)⟩
def dNoPart : DTO := fun _ G Q => Q none G
def dPart (t : DTE) : DTO := fun δ G Q => t δ G fun x G1 => optQ (intOf x) fun i => Q (some i) G1
theorem qo_none : QO X none dNoPart := POmono po_none fun σ H Q ⟨F, δ, G, Q', R, S, q, k⟩ => k none H ⟨F, G, .refl, R, q⟩
theorem qo_some (h : QE X e te) : QO X (some e) (dPart te) := POmono (po_some h) fun σ H Q ⟨F, δ, G, Q', R, S, q, k⟩ => by
  refine ⟨F, δ, G, _, R, S, q, fun v H1 ⟨d, F1, G1, k1, R1, p1, q1⟩ => ?_⟩
  replace q1 := optQ_ex q1
  obtain ⟨i, e, q1⟩ := q1
  rw [intOf_eq e] at p1
  exact ⟨i, p1, k _ _ ⟨F1, G1, k1, R1, q1⟩⟩
def cutD {α : Type} (xs : List α) (lo hi : Option Int) : List α := (xs.drop (HT.sIx xs.length 0 lo)).take (HT.sIx xs.length xs.length hi - HT.sIx xs.length 0 lo)
def slD (x : D) (i1 i2 : Option Int) (G : Gp) : Option D := match x with
  | .tup ds => some (.tup (cutD ds i1 i2))
  | .lv ds => some (.lv (cutD ds i1 i2))
  | .rl ds => some (.lv (cutD ds i1 i2))
  | .str z => if z.length ≤ sizeLine then some (.str ⟨(cutD z.cps.toList i1 i2).toArray⟩) else none
  | .ref a => (lstOf (G a)).map fun ds => .lv (cutD ds i1 i2)
  | _ => none
def rSlU (K : KW) : V → Option Int → Option Int → Hp → VK → Prop := fun x lo hi H Q => rSlDl K x lo hi H Q ∨ rSlL K x lo hi H Q ∨ rSlS x lo hi H Q
theorem sl_any : SlR X (rSlU (kw X)) := .or sl_tupB (.or sl_list sl_str)
theorem RepL.cut {ds : List D} {vs : List V} (r : RepL K F H ds vs) (lo hi : Option Int) : RepL K F H (cutD ds lo hi) (cutV vs lo hi) := by
  unfold cutD cutV
  rw [r.len]
  exact (r.drop _).take _
theorem cut_whole {α : Type} {xs : List α} {lo hi : Option Int} (h : HT.sIx xs.length 0 lo = 0 ∧ HT.sIx xs.length xs.length hi = xs.length) : cutD xs lo hi = xs := by
  unfold cutD
  rw [h.1, h.2, List.drop_zero, Nat.sub_zero, List.take_length]
theorem sOk_cut {z : Str} (hz : sOk z = true) (lo hi : Option Int) : sOk ⟨(cutD z.cps.toList lo hi).toArray⟩ = true := by
  unfold sOk at hz ⊢
  rw [← Array.all_toList, List.all_eq_true] at hz ⊢
  intro c hc
  exact hz c (List.mem_of_mem_drop (List.mem_of_mem_take (by simpa [cutD] using hc)))
def dSl (te : DTE) (tl th : DTO) : DTE := fun δ G Q => te δ G fun x G1 => tl δ G1 fun l G2 => th δ G2 fun u G3 => optQ (slD x l u G3) fun d => Q d G3
theorem q_sl {lo hi : Option Expr} {tl th : DTO} {p2 : Pos} (he : QE X e te) (hl : QO X lo tl) (hu : QO X hi th) : QE X (.Subscript e (.Slice lo hi none p2) pos) (dSl te tl th) := PEmono (pe_slice sl_any he hl hu) fun σ H Q ⟨F, δ, G, Q', R, S, q, k⟩ => by
  refine ⟨F, δ, G, _, R, S, q, fun v H1 ⟨d, F1, G1, k1, R1, p1, q1⟩ => ?_⟩
  have S1 := S.mono R k1
  refine ⟨F1, δ, G1, _, R1, S1, q1, fun l H2 ⟨F2, G2, k2, R2, q2⟩ => ?_⟩
  refine ⟨F2, δ, G2, _, R2, S1.mono R1 k2, q2, fun u H3 ⟨F3, G3, k3, R3, q3⟩ => ?_⟩
  have p3 := Rep.mono R2 k3 d v (Rep.mono R1 k2 d v p1)
  have kk : ∀ v' H', post (kw X) F3 H3 G3 Q' v' H' → Q v' H' := fun v' H' q => k v' H' (.trans ((k1.trans k2).trans k3) q)
  replace q3 := optQ_ex q3
  obtain ⟨z, hz, q3⟩ := q3
  cases d with
  | tup ds =>
    cases hz
    obtain ⟨a, xs, rfl, hs, hr⟩ := p3
    refine .inl ⟨a, xs, rfl, hs.sq, fun w => ?_, fun _ => fin_tup R3 kk (hr.cut l u) q3⟩
    have q3' : Q' (.tup (cutD ds l u)) G3 := q3
    rw [hr.len] at w
    rw [cut_whole w] at q3'
    exact fin R3 kk q3' ⟨a, xs, rfl, hs, hr⟩
  | lv ds =>
    cases hz
    obtain ⟨a, xs, rfl, hs, hr⟩ := p3
    exact .inr (.inl ⟨a, xs, rfl, .of hs.2, fin_lv R3 kk (hr.cut l u) q3⟩)
  | rl ds =>
    cases hz
    obtain ⟨a, xs, rfl, hs, hr⟩ := p3
    refine .inr (.inl ⟨a, xs, rfl, ?_, fin_lv R3 kk (hr.cut l u) q3⟩)
    rcases hs with ⟨o, hs⟩ | hs
    · exact .inl (.inr ⟨o, hs⟩)
    · exact .inr hs
  | str x =>
    obtain ⟨p3, hx⟩ := p3
    cases p3
    simp only [slD] at hz
    split at hz
    · rename_i hl
      cases hz
      exact .inr (.inr ⟨x, rfl, hl, fin R3 kk q3 ⟨rfl, sOk_cut hx l u⟩⟩)
    · cases hz
  | ref a =>
    have e' : v = .ref a := p3
    subst e'
    simp only [slD] at hz
    cases hi : lstOf (G3 a) with
    | none => rw [hi] at hz; cases hz
    | some ds =>
      rw [hi] at hz
      cases hz
      obtain ⟨xs, h1, h2⟩ := R3.obj _ _ (lstOf_eq hi)
      exact .inr (.inl ⟨a, xs, rfl, .of h1, fin_lv R3 kk (h2.cut l u) q3⟩)
  | _ => cases hz

/-! ### calls of built-ins -/
def dF (f : List D → Gp → Option D) : RA := fun ds G Q => optQ (f ds G) fun d => Q d G
def dB (r : RA) (tr : DTA) : DTE := fun δ G Q => tr δ G fun ds G1 => r ds G1 Q
theorem upB {r0 : List V → Hp → VK → Prop} {r : RA} (l : LiftA K r0 r) {σ : L2.St} {Q : VK} (h : up K (dB r tr) σ H Q) : tCB r0 (upA K tr) σ H Q := by
  obtain ⟨F, δ, G, Q', R, S, q, k⟩ := h
  refine ⟨F, δ, G, _, R, S, q, fun vs H1 ⟨ds, F1, G1, k1, R1, p1, q1⟩ => ?_⟩
  exact l F1 H1 G1 ds vs Q' Q R1 p1 q1 fun v' H' q3 => k v' H' (.trans k1 q3)
theorem q_callB {id : String} {x : Str} {p : Pos} {r0 : List V → Hp → VK → Prop} {r : RA} (hc : CallR X (.builtin id) r0) (l : LiftA (kw X) r0 r) (hg : Gl X x) (hm : X.mg x = none) (hv : bootBuiltins x = some (.builtin id)) (ha : QA X (e :: es) tr)
    (hn : x ≠ "__name__" := by decide) (hdb : (x == ("__debug__" : Str)) = false := by decide) (he : starEach (e :: es) X.env = (false, eval e X.env) :: starEach es X.env := by rfl) (hpl : (backTo pos (starEach es X.env)).any (·.1) = false := by rfl) :
    QE X (.Call (.Name x p) (e :: es) [] pos) (dB r tr) := PEmono (pe_callB hc hg hm hv ha hn hdb he hpl) fun _ _ _ h => upB l h
theorem q_callTy {T : String} {x : Str} {p : Pos} {r0 : List V → Hp → VK → Prop} {r : RA} (hc : CallR X (.type T) r0) (l : LiftA (kw X) r0 r) (hg : Gl X x) (hm : X.mg x = none) (hv : bootBuiltins x = some (.type T)) (ha : QA X (e :: es) tr)
    (hn : x ≠ "__name__" := by decide) (hdb : (x == ("__debug__" : Str)) = false := by decide) (he : starEach (e :: es) X.env = (false, eval e X.env) :: starEach es X.env := by rfl) (hpl : (backTo pos (starEach es X.env)).any (·.1) = false := by rfl) :
    QE X (.Call (.Name x p) (e :: es) [] pos) (dB r tr) := PEmono (pe_callTy hc hg hm hv ha hn hdb he hpl) fun _ _ _ h => upB l h
theorem rl1 {d : D} {vs : List V} (r : RepL K F H [d] vs) : ∃ v, vs = [v] ∧ Rep K F H d v := by
  obtain ⟨v, r', e, h, q⟩ := r
  cases q
  exact ⟨v, e, h⟩
theorem rl2 {d d' : D} {vs : List V} (r : RepL K F H [d, d'] vs) : ∃ v v', vs = [v, v'] ∧ Rep K F H d v ∧ Rep K F H d' v' := by
  obtain ⟨v, r', e, h, q⟩ := r
  obtain ⟨v', e', h'⟩ := rl1 q
  subst e'
  exact ⟨v, v', e, h, h'⟩
def lenD : List D → Gp → Option D
  | [.str z], _ => if z.length ≤ sizeLine then some (.int (z.length : Nat)) else none
  | [.tup ds], _ => some (.int (ds.length : Nat))
  | [.lv ds], _ => some (.int (ds.length : Nat))
  | [.rl ds], _ => some (.int (ds.length : Nat))
  | [.ref a], G => (lstOf (G a)).map fun ds => .int (ds.length : Nat)
  | _, _ => none
abbrev dLen : RA := dF lenD
theorem lift_len : LiftA K (fun xs H Q => ∃ x n, xs = [x] ∧ LenV K x H n ∧ Q (.int n) H) dLen := by
  intro F H G ds vs Q Q0 R rd q k
  replace q := optQ_ex q
  obtain ⟨z, hz, q⟩ := q
  have gen : ∀ d xs, ds = [d] → itemsOf d G = some xs → z = .int (xs.length : Nat) → ∃ x n, vs = [x] ∧ LenV K x H n ∧ Q0 (.int n) H := fun d xs hd hi hz5 => by
    subst hd
    subst hz5
    obtain ⟨v, rfl, r⟩ := rl1 rd
    obtain ⟨a, ys, rfl, hs, hr⟩ := items_rep R r hi
    refine ⟨_, xs.length, rfl, ?_, fin R k q rfl⟩
    rcases hs with hs | hs
    · exact .inl ⟨ys, hs, hr.len.symm⟩
    · exact .inr ⟨ys, hs, hr.len.symm⟩
  unfold lenD at hz
  split at hz
  · split at hz
    · rename_i hl
      cases hz
      obtain ⟨v, rfl, r, _⟩ := rl1 rd
      subst r
      exact ⟨_, _, rfl, ⟨hl, rfl⟩, fin R k q rfl⟩
    · cases hz
  · cases hz; exact gen _ _ rfl rfl rfl
  · cases hz; exact gen _ _ rfl rfl rfl
  · cases hz; exact gen _ _ rfl rfl rfl
  · rename_i a
    cases hi : lstOf (G a) with
    | none => rw [hi] at hz; cases hz
    | some xs =>
      rw [hi] at hz
      cases hz
      have e1 := lstOf_eq hi
      exact gen _ xs rfl (by simp only [itemsOf, e1]) rfl
  · cases hz
def absD : List D → Gp → Option D
  | [.int i], _ => some (.int (if i < 0 then -i else i))
  | _, _ => none
abbrev dAbs : RA := dF absD
theorem lift_abs : LiftA K (fun xs H Q => ∃ i, xs = [.int i] ∧ Q (.int (if i < 0 then -i else i)) H) dAbs := by
  intro F H G ds vs Q Q0 R rd q k
  replace q := optQ_ex q
  obtain ⟨z, hz, q⟩ := q
  unfold absD at hz
  split at hz
  · cases hz
    obtain ⟨v, rfl, r⟩ := rl1 rd
    cases r
    exact ⟨_, rfl, fin R k q rfl⟩
  · cases hz
def intCD : List D → Gp → Option D
  | [.int i], _ => some (.int i)
  | [.bl b], _ => some (.int (if b then 1 else 0))
  | _, _ => none
abbrev dIntC : RA := dF intCD
theorem lift_intC : LiftA K (fun xs H Q => (∃ i, xs = [.int i] ∧ Q (.int i) H) ∨ ∃ k, xs = [.bl k] ∧ Q (.int (if k then 1 else 0)) H) dIntC := by
  intro F H G ds vs Q Q0 R rd q k
  replace q := optQ_ex q
  obtain ⟨z, hz, q⟩ := q
  unfold intCD at hz
  split at hz
  · cases hz
    obtain ⟨v, rfl, r⟩ := rl1 rd
    cases r
    exact .inl ⟨_, rfl, fin R k q rfl⟩
  · cases hz
    obtain ⟨v, rfl, r⟩ := rl1 rd
    cases r
    exact .inr ⟨_, rfl, fin R k q rfl⟩
  · cases hz
def max2D : List D → Gp → Option D
  | [.int i, .int j], _ => some (.int (if j > i then j else i))
  | _, _ => none
abbrev dMax2 : RA := dF max2D
theorem lift_max2 : LiftA K (fun xs H Q => ∃ i j, xs = [.int i, .int j] ∧ Q (.int (if j > i then j else i)) H) dMax2 := by
  intro F H G ds vs Q Q0 R rd q k
  replace q := optQ_ex q
  obtain ⟨z, hz, q⟩ := q
  unfold max2D at hz
  split at hz
  · cases hz
    obtain ⟨v, v', rfl, r, r'⟩ := rl2 rd
    cases r
    cases r'
    exact ⟨_, _, rfl, fin R k q rfl⟩
  · cases hz
def min2D : List D → Gp → Option D
  | [.int i, .int j], _ => some (.int (if j < i then j else i))
  | _, _ => none
abbrev dMin2 : RA := dF min2D
theorem lift_min2 : LiftA K (fun xs H Q => ∃ i j, xs = [.int i, .int j] ∧ Q (.int (if j < i then j else i)) H) dMin2 := by
  intro F H G ds vs Q Q0 R rd q k
  replace q := optQ_ex q
  obtain ⟨z, hz, q⟩ := q
  unfold min2D at hz
  split at hz
  · cases hz
    obtain ⟨v, v', rfl, r, r'⟩ := rl2 rd
    cases r
    cases r'
    exact ⟨_, _, rfl, fin R k q rfl⟩
  · cases hz
def ord1D : List D → Gp → Option D
  | [.str x], _ => if x.length = 1 then some (.int (x.cps.getD 0 0 : Nat)) else none
  | _, _ => none
abbrev dOrd1 : RA := dF ord1D
theorem lift_ord1 : LiftA K (fun xs H Q => ∃ x, xs = [.str x] ∧ x.length = 1 ∧ Q (.int (x.cps.getD 0 0 : Nat)) H) dOrd1 := by
  intro F H G ds vs Q Q0 R rd q k
  replace q := optQ_ex q
  obtain ⟨z, hz, q⟩ := q
  unfold ord1D at hz
  split at hz
  · split at hz
    · rename_i hl
      cases hz
      obtain ⟨v, rfl, r, _⟩ := rl1 rd
      subst r
      exact ⟨_, rfl, hl, fin R k q rfl⟩
    · cases hz
  · cases hz
/-- tuple(x) -/
def itemsA : List D → Gp → Option (List D)
  | [d], G => itemsOf d G
  | _, _ => none
theorem itemsA_eq {ds : List D} {G : Gp} {xs : List D} (h : itemsA ds G = some xs) : ∃ d, ds = [d] ∧ itemsOf d G = some xs := by
  unfold itemsA at h
  split at h
  · exact ⟨_, rfl, h⟩
  · cases h
def dTupleC : RA := fun ds G Q => optQ (itemsA ds G) fun xs => Q (.tup xs) G
theorem lift_tupleC : LiftA K (fun xs H Q => ∃ p ys, xs = [.ref p] ∧ ((SqL K H p ys ∧ ∀ l o, o.dict = none → H l = none → Q (.ref l) (upd H l (.frz o (.tup ys)))) ∨ (SqT K H p ys ∧ Q (.ref p) H))) dTupleC := by
  intro F H G ds vs Q Q0 R rd q k
  replace q := optQ_ex q
  obtain ⟨xs, hz, q⟩ := q
  obtain ⟨d, rfl, hi⟩ := itemsA_eq hz
  · obtain ⟨v, rfl, r⟩ := rl1 rd
    · obtain ⟨a, ys, rfl, hs, hr⟩ := items_repB R r hi
      rcases hs with hs | hs
      · exact ⟨a, ys, rfl, .inl ⟨hs, fin_tup R k hr q⟩⟩
      · exact ⟨a, ys, rfl, .inr ⟨hs.sq, fin R k q ⟨a, ys, rfl, hs, hr⟩⟩⟩
/-- list(x), to stay | to change -/
def dListC : RA := fun ds G Q => optQ (itemsA ds G) fun xs => Q (.lv xs) G
def dListM : RA := fun ds G Q => optQ (itemsA ds G) fun xs => ∀ p, G p = none → Q (.ref p) (updG G p (.lst xs))
theorem lift_listC : LiftA K (fun xs H Q => ∃ p ys, xs = [.ref p] ∧ (SqL K H p ys ∨ SqT K H p ys) ∧ ∀ l, H l = none → Q (.ref l) (upd H l (.lst ys))) dListC := by
  intro F H G ds vs Q Q0 R rd q k
  replace q := optQ_ex q
  obtain ⟨xs, hz, q⟩ := q
  obtain ⟨d, rfl, hi⟩ := itemsA_eq hz
  · obtain ⟨v, rfl, r⟩ := rl1 rd
    · obtain ⟨a, ys, rfl, hs, hr⟩ := items_rep R r hi
      exact ⟨a, ys, rfl, hs, fin_lv R k hr q⟩
theorem lift_listM : LiftA K (fun xs H Q => ∃ p ys, xs = [.ref p] ∧ (SqL K H p ys ∨ SqT K H p ys) ∧ ∀ l, H l = none → Q (.ref l) (upd H l (.lst ys))) dListM := by
  intro F H G ds vs Q Q0 R rd q k
  replace q := optQ_ex q
  obtain ⟨xs, hz, q⟩ := q
  obtain ⟨d, rfl, hi⟩ := itemsA_eq hz
  · obtain ⟨v, rfl, r⟩ := rl1 rd
    · obtain ⟨a, ys, rfl, hs, hr⟩ := items_rep R r hi
      exact ⟨a, ys, rfl, hs, fin_ref R k hr q⟩
/-- all, any of a list of bools -/
def blsOf : List D → Option (List Bool)
  | [] => some []
  | .bl b :: r => (blsOf r).map (b :: ·)
  | _ :: _ => none
theorem blsOf_rep : ∀ {ds : List D} {vs : List V} {bs : List Bool}, RepL K F H ds vs → blsOf ds = some bs → vs = bs.map V.bl
  | [], vs, bs, r, e => by cases r; cases e; rfl
  | d :: ds, vs, bs, ⟨v, r', e1, h, q⟩, e => by
    subst e1
    cases d with
    | bl b =>
      unfold blsOf at e
      cases e2 : blsOf ds with
      | none => rw [e2] at e; cases e
      | some bs' =>
        rw [e2] at e
        cases e
        cases h
        rw [blsOf_rep q e2]
        rfl
    | _ => cases e
def lv1 : List D → Option (List D)
  | [.lv xs] => some xs
  | _ => none
theorem lv1_eq {ds : List D} {xs : List D} (h : lv1 ds = some xs) : ds = [.lv xs] := by
  unfold lv1 at h
  split at h
  · cases h; rfl
  · cases h
def dAll (f : List Bool → Bool) : RA := fun ds G Q => optQ ((lv1 ds).bind blsOf) fun bs => Q (.bl (f bs)) G
theorem lift_all {f : List Bool → Bool} : LiftA K (fun vs H Q => ∃ (a : Addr) (bs : List Bool), vs = [V.ref a] ∧ SqL K H a (bs.map V.bl) ∧ Q (.bl (f bs)) H) (dAll f) := by
  intro F H G ds vs Q Q0 R rd q k
  replace q := optQ_ex q
  obtain ⟨bs, hz, q⟩ := q
  cases h1 : lv1 ds with
  | none => rw [h1] at hz; cases hz
  | some xs =>
    rw [h1] at hz
    have hi : blsOf xs = some bs := hz
    rw [lv1_eq h1] at rd
    obtain ⟨v, rfl, a, ys, rfl, hs, hr⟩ := rl1 rd
    have e := blsOf_rep hr hi
    subst e
    exact ⟨a, bs, rfl, .of hs.2, fin R k q rfl⟩
/-- sum of a list of ints -/
def intsOf : List D → Option (List Int)
  | [] => some []
  | .int b :: r => (intsOf r).map (b :: ·)
  | _ :: _ => none
theorem intsOf_rep : ∀ {ds : List D} {vs : List V} {bs : List Int}, RepL K F H ds vs → intsOf ds = some bs → vs = bs.map V.int
  | [], vs, bs, r, e => by cases r; cases e; rfl
  | d :: ds, vs, bs, ⟨v, r', e1, h, q⟩, e => by
    subst e1
    cases d with
    | int b =>
      unfold intsOf at e
      cases e2 : intsOf ds with
      | none => rw [e2] at e; cases e
      | some bs' =>
        rw [e2] at e
        cases e
        cases h
        rw [intsOf_rep q e2]
        rfl
    | _ => cases e
def dSum : RA := fun ds G Q => optQ ((lv1 ds).bind intsOf) fun bs => Q (.int bs.sum) G
theorem lift_sum : LiftA K (rSum K) dSum := by
  intro F H G ds vs Q Q0 R rd q k
  replace q := optQ_ex q
  obtain ⟨bs, hz, q⟩ := q
  cases h1 : lv1 ds with
  | none => rw [h1] at hz; cases hz
  | some xs =>
    rw [h1] at hz
    have hi : intsOf xs = some bs := hz
    rw [lv1_eq h1] at rd
    obtain ⟨v, rfl, a, ys, rfl, hs, hr⟩ := rl1 rd
    have e := intsOf_rep hr hi
    subst e
    exact ⟨a, bs, rfl, .of hs.2, fin R k q rfl⟩
/-- isinstance(x, T), T a built-in type by its name -/
def tyD : D → Gp → Option String
  | .non, _ => some "NoneType"
  | .bl _, _ => some "bool"
  | .int _, _ => some "int"
  | .str _, _ => some "str"
  | .tup _, _ => some "tuple"
  | .lv _, _ => some "list"
  | .rl _, _ => some "list"
  | .dv _, _ => some "dict"
  | .pv _, _ => none
  | .ref a, G => match G a with
    | some (.lst _) => some "list"
    | some (.dic _) => some "dict"
    | _ => none
theorem tyD_ok {d : D} {v : V} {n : String} (R : Rel K F H G) (r : Rep K F H d v) (e : tyD d G = some n) : TyX K H v (.type n) := by
  cases d with
  | non => cases r; cases e; exact .base .non
  | bl b => cases r; cases e; exact .base (.bl b)
  | int b => cases r; cases e; exact .base (.int b)
  | str b => obtain ⟨r, _⟩ := r; cases r; cases e; exact .base (.str b)
  | tup ds =>
    obtain ⟨a, xs, r, h, _⟩ := r
    cases r; cases e
    rcases h with ⟨o, h, _⟩ | ⟨o, its, n, h1, h2, _⟩
    · exact .fTuple h
    · exact .kTuple h1 h2
  | lv ds =>
    obtain ⟨a, xs, r, h, _⟩ := r
    cases r; cases e
    exact .base (.lst h.2)
  | rl ds =>
    obtain ⟨a, xs, r, h, _⟩ := r
    cases r; cases e
    rcases h with ⟨o, h⟩ | ⟨o, its, n, h1, h2, _⟩
    · exact .base (.frz h)
    · exact .kList h1 h2
  | dv kvs =>
    obtain ⟨a, xs, r, h, _⟩ := r
    cases r; cases e
    rcases h.2 with h | ⟨o, h⟩
    · exact .base (.dK h)
    · exact .fDict h
  | pv _ => cases e
  | ref a =>
    have r' : v = .ref a := r
    subst r'
    simp only [tyD] at e
    split at e
    · rename_i ds eg
      cases e
      obtain ⟨xs, h1, _⟩ := R.obj a _ eg
      exact .base (.lst h1)
    · rename_i ds eg
      cases e
      obtain ⟨xs, h1, _⟩ := R.obj a _ eg
      exact .base (.dK h1)
    · cases e
def isiB (T n : String) : Bool := (n == T) || (n == "bool" && T == "int")
theorem isi_kit {d : D} {n : String} (e : tyD d G = some n) {T : String} (hT : T ∈ ["int", "str", "tuple", "list", "bool", "dict"]) : kitB n T = some (isiB T n) := by
  have hn : n ∈ ["NoneType", "bool", "int", "str", "tuple", "list", "dict"] := by
    cases d with
    | ref a =>
      simp only [tyD] at e
      split at e <;> (cases e; try decide)
    | pv _ => cases e
    | _ => cases e; decide
  have all : ∀ n ∈ ["NoneType", "bool", "int", "str", "tuple", "list", "dict"], ∀ T ∈ ["int", "str", "tuple", "list", "bool", "dict"], kitB n T = some (isiB T n) := by decide +kernel
  exact all n hn T hT
def dIsi (T : String) (ta : DTE) : DTE := fun δ G Q => ta δ G fun x G1 => optQ (tyD x G1) fun n => Q (.bl (isiB T n)) G1
theorem q_isi {T : String} {x : Str} {p p2 : Pos} (hT : T ∈ ["int", "str", "tuple", "list", "bool", "dict"]) (hg : Gl X "isinstance") (hm : X.mg "isinstance" = none) (hg2 : Gl X x) (hm2 : X.mg x = none) (hv2 : bootBuiltins x = some (.type T)) (ha : QE X a ta)
    (hn2 : x ≠ "__name__" := by decide) (hdb2 : (x == ("__debug__" : Str)) = false := by decide)
    (he : starEach [a, .Name x p2] X.env = (false, eval a X.env) :: starEach [.Name x p2] X.env := by rfl) (he2 : starEach [.Name x p2] X.env = (false, eval (.Name x p2) X.env) :: starEach [] X.env := by rfl) (hpl : (backTo pos (starEach [.Name x p2] X.env)).any (·.1) = false := by rfl) :
    QE X (.Call (.Name "isinstance" p) [a, .Name x p2] [] pos) (dIsi T ta) :=
  PEmono (pe_callB call_isi hg hm boot_isinstance (pa_cons ha (pa_cons (pe_bltn (v := .ty T) hg2 hm2 hv2 rfl hn2 hdb2) pa_nil he2) he) (by decide) (by decide) he hpl) fun σ H Q ⟨F, δ, G, Q', R, S, q, k⟩ => by
    refine ⟨F, δ, G, _, R, S, q, fun v H1 ⟨d, F1, G1, k1, R1, p1, q1⟩ => ?_⟩
    · replace q1 := optQ_ex q1
      obtain ⟨n, e1, q1⟩ := q1
      exact ⟨v, .ty T, .type n, .type T, isiB T n, rfl, .ty T, tyD_ok R1 p1 e1, kit_ty (isi_kit e1 hT), fin R1 (fun v' H' q2 => k v' H' (.trans k1 q2)) q1 rfl⟩
end
end DL
set_option Elab.async false
set_option linter.all false
set_option maxRecDepth 100000
set_option maxHeartbeats 4000000
namespace DL
open PySem PySem.Spec PyProof.Rows L2
section
variable {X : Cx} {K : KW} {F F' : Fr} {H H' : Hp} {G G' : Gp} {a b c e tg : Expr} {es rest : List Expr} {ta tb tc te : DTE} {t u : DTT} {tr : DTA} {pos : Pos}
theorem RepO.stay (k : Stay F H F' H') (ho : ∀ x y, H x = some (.own y) → H' x = some (.own y)) {a : Addr} {m : MO} (e : H' a = H a) (h : RepO K F H a m) : RepO K F' H' a m := by
  cases m with
  | lst ds => obtain ⟨xs, h1, q⟩ := h; exact ⟨xs, e.trans h1, RepL.stay k _ _ q⟩
  | dic kvs => obtain ⟨xs, h1, q⟩ := h; exact ⟨xs, e.trans h1, RepK.stay k _ _ q⟩
  | drw r n => obtain ⟨i, h0, h1⟩ := h; exact ⟨i, h0, e.trans h1⟩
  | row => obtain ⟨ns, h0, h1⟩ := h; exact ⟨ns, h0, e.trans h1⟩
  | ins C dx fs => obtain ⟨xs, h1, h2, q⟩ := h; exact ⟨xs, e.trans h1, ho dx a h2, RepF.stay k _ _ q⟩
  | st ps => obtain ⟨L, h1, q⟩ := h; exact ⟨L, e.trans h1, q.1.stay k.tup, q.2⟩
  | tab x => exact ⟨h.1, h.2.stay k e⟩
/-- a list that nothing speaks of changes -/
theorem stay_hid {D : Addr} {xs : List V} {o : HO} (hD : H D = some (.lst xs)) (nF : ¬ F D) : Stay F H F (upd H D o) where
  tup a ys ob h := by rw [upd_ne (fun z => by subst z; rw [hD] at h; cases h)]; exact h
  lst a ys f h := ⟨f, by rw [upd_ne (show a ≠ D from fun z => nF (z ▸ f))]; exact h⟩
  frz a ob ys h := by rw [upd_ne (fun z => by subst z; rw [hD] at h; cases h)]; exact h
  dic a ys f h := by
    have n : a ≠ D := fun z => nF (z ▸ f)
    refine ⟨f, ?_⟩
    rcases h with h | ⟨o, h⟩
    · exact .inl (by rw [upd_ne n]; exact h)
    · exact .inr ⟨o, by rw [upd_ne n]; exact h⟩
  pdc a od φ h := by rw [upd_ne (fun z => by subst z; rw [hD] at h; cases h)]; exact h
  cod a q f h := ⟨f, by rw [upd_ne (show a ≠ D from fun z => nF (z ▸ f))]; exact h⟩
theorem rel_hid (R : Rel K F H G) {D : Addr} {xs : List V} {o : HO} (hD : H D = some (.lst xs)) (nF : ¬ F D) (nG : G D = none) : Rel K F (upd H D o) G where
  obj a m e := by
    have n : a ≠ D := fun z => by subst z; rw [nG] at e; cases e
    exact RepO.stay (stay_hid hD nF) (fun x y h => by rw [upd_ne (fun z => by subst z; rw [hD] at h; cases h)]; exact h) (upd_ne n) (R.obj a m e)
  fr := R.fr
  al a f := by rw [upd_ne (show a ≠ D from fun z => nF (z ▸ f))]; exact R.al a f

/-! ### targets -/
abbrev DTG := D → DS → Gp → (DS → Gp → Prop) → Prop
abbrev DTGs := List D → DS → Gp → (DS → Gp → Prop) → Prop
def upG (K : KW) (P : L2.St → L2.St → Prop) (g : DTG) : TG := fun v σ H Q0 => ∃ F d δ G Q, Rel K F H G ∧ Rep K F H d v ∧ RepS K F H δ σ ∧ g d δ G Q ∧ ∀ σ' H', P σ σ' → postS F K H G Q σ' H' → Q0 σ' H'
def upGs (K : KW) (P : L2.St → L2.St → Prop) (g : DTGs) : TGs := fun vs σ H Q0 => ∃ F ds δ G Q, Rel K F H G ∧ RepL K F H ds vs ∧ RepS K F H δ σ ∧ g ds δ G Q ∧ ∀ σ' H', P σ σ' → postS F K H G Q σ' H' → Q0 σ' H'
def QG (X : Cx) (P : L2.St → L2.St → Prop) (tg : Expr) (g : DTG) : Prop := PG X tg (upG (kw X) P g)
def QGs (X : Cx) (P : L2.St → L2.St → Prop) (ts : List Expr) (g : DTGs) : Prop := PGs X ts (upGs (kw X) P g)
theorem PGmono {tg : Expr} {t t' : TG} (h : PG X tg t) (i : ∀ v σ H Q, t' v σ H Q → t v σ H Q) : PG X tg t' := ⟨fun pins s σ H v u Q I r q => h.run pins s σ H v u Q I r (i _ _ _ _ q)⟩
theorem PGsmono {ts : List Expr} {t t' : TGs} (h : PGs X ts t) (i : ∀ v σ H Q, t' v σ H Q → t v σ H Q) : PGs X ts t' := ⟨fun pins s σ H v u Q I r q => h.run pins s σ H v u Q I r (i _ _ _ _ q)⟩
structure Pok (P : L2.St → L2.St → Prop) : Prop where
  refl : ∀ σ, P σ σ
  trans : ∀ {σ σ1 σ2}, P σ σ1 → P σ1 σ2 → P σ σ2
def Pany : L2.St → L2.St → Prop := fun _ _ => True
theorem pany : Pok Pany := ⟨fun _ => trivial, fun _ _ => trivial⟩
def Pw (vs : List Nat) : L2.St → L2.St → Prop := fun σ σ' => wipe σ' vs = wipe σ vs
theorem pw (vs : List Nat) : Pok (Pw vs) := ⟨fun _ => rfl, fun h g => Eq.trans g h⟩
theorem wipe_set : ∀ (vs : List Nat) (σ : L2.St) (i : Nat) (x : Option V), wipe (σ.set i x) vs = if i ∈ vs then wipe σ vs else (wipe σ vs).set i x
  | [], σ, i, x => by rw [if_neg (by simp)]; rfl
  | v :: vs, σ, i, x => by
    unfold wipe
    rw [wipe_set vs σ i x]
    by_cases h1 : i = v
    · subst h1
      rw [if_pos (show i ∈ i :: vs from List.mem_cons_self)]
      split
      · rfl
      · rw [List.set_set]
    · by_cases h2 : i ∈ vs
      · rw [if_pos h2, if_pos (List.mem_cons_of_mem _ h2)]
      · rw [if_neg h2, if_neg (by simp only [List.mem_cons, not_or]; exact ⟨h1, h2⟩), List.set_comm _ _ h1]
theorem pw_set {vs : List Nat} {i : Nat} (h : i ∈ vs) (σ : L2.St) (v : V) : Pw vs σ (σ.set i (some v)) := by
  unfold Pw
  rw [wipe_set, if_pos h]
def dName (i : Nat) : DTG := fun d δ G Q => Q (setS δ i (some d)) G
theorem qg_name {P : L2.St → L2.St → Prop} {i : Nat} {x : Str} (hN : X.N.Nodup) (hP : ∀ σ v, P σ (σ.set i (some v))) (hi : X.N[i]? = some x := by rfl) (hx : Loc X.env.scope x := by first | exact Or.inl rfl | exact Or.inr rfl) (hf : X.fn x = true ∨ X.env.scope.names.lookup x = some .local := by first | exact .inl rfl | exact .inr rfl) : QG X P (.Name x pos) (dName i) :=
  PGmono (pg_name hN hi hx hf) fun v σ H Q ⟨F, d, δ, G, Q', R, r, S, q, k⟩ => k _ _ (hP σ v) ⟨setS δ i (some d), F, G, .refl, R, S.set i r, q⟩
def isNil : List D → Option Unit
  | [] => some ()
  | _ => none
def dGnil : DTGs := fun ds δ G Q => optQ (isNil ds) fun _ => Q δ G
def dGcons (g : DTG) (gs : DTGs) : DTGs := fun ds δ G Q => optQ (uncons ds) fun p => g p.1 δ G fun δ1 G1 => gs p.2 δ1 G1 Q
theorem qgs_nil {P : L2.St → L2.St → Prop} (o : Pok P) : QGs X P [] dGnil := PGsmono pgs_nil fun vs σ H Q ⟨F, ds, δ, G, Q', R, r, S, q, k⟩ => by
  replace q := optQ_ex q
  obtain ⟨_, hz, q⟩ := q
  cases ds with
  | nil => cases r; exact ⟨rfl, k _ _ (o.refl σ) ⟨δ, F, G, .refl, R, S, q⟩⟩
  | cons d ds => cases hz
theorem qgs_cons {P : L2.St → L2.St → Prop} {g : DTG} {gs : DTGs} (o : Pok P) (h1 : QG X P e g) (h2 : QGs X P es gs) (hs : (assignEach (e :: es) X.env).map (·.2) = assign e X.env :: (assignEach es X.env).map (·.2) := by rfl) : QGs X P (e :: es) (dGcons g gs) := PGsmono (pgs_cons h1 h2 hs) fun vs σ H Q ⟨F, ds, δ, G, Q', R, r, S, q, k⟩ => by
  replace q := optQ_ex q
  obtain ⟨pp, hz, q⟩ := q
  cases ds with
  | nil => cases hz
  | cons d ds =>
    cases hz
    obtain ⟨v, vr, e1, r1, r2⟩ := r
    subst e1
    refine ⟨v, vr, rfl, F, d, δ, G, _, R, r1, S, q, fun σ1 H1 p1 ⟨δ1, F1, G1, k1, R1, S1, q1⟩ => ?_⟩
    exact ⟨F1, ds, δ1, G1, Q', R1, RepL.mono R k1 ds vr r2, S1, q1, fun σ2 H2 p2 ⟨δ2, F2, G2, k2, R2, S2, q2⟩ => k _ _ (o.trans p1 p2) ⟨δ2, F2, G2, k1.trans k2, R2, S2, q2⟩⟩
def dTupG (n : Nat) (gs : DTGs) : DTG := fun d δ G Q => optQ (tupOf d) fun ds => ds.length = n ∧ gs ds δ G Q
theorem qg_tup {P : L2.St → L2.St → Prop} {k : Nat} {gs : DTGs} {n : Nat} (hc : X.calm = true) (h : QGs X P es gs) (hn : (assignEach es X.env).length = n := by rfl) (hst : (assignEach es X.env).findIdx? (·.1) = none := by rfl) : QG X P (.Tuple es k pos) (dTupG n gs) :=
  PGmono (pg_tup hc h hn hst) fun v σ H Q ⟨F, d, δ, G, Q', R, r, S, q, k⟩ => by
    replace q := optQ_ex q
    obtain ⟨ds, hz, q⟩ := q
    have ed := tupOf_eq hz
    subst ed
    obtain ⟨a, xs, e1, r1, r2⟩ := r
    exact ⟨a, xs, e1, r1.sq, by rw [r2.len]; exact q.1, F, ds, δ, G, Q', R, r2, S, q.2, k⟩
/-- o[i] = v, a list -/
def setD (o i : D) (v : D) (G : Gp) : Option Gp := match o, i with
  | .ref p, .int k => (lstOf (G p)).bind fun ds => (ixN ds.length k).map fun j => updG G p (.lst (ds.set j v))
  | _, _ => none
def dSubL (to ti : DTE) : DTG := fun v δ G Q => to δ G fun o G1 => ti δ G1 fun i G2 => optQ (setD o i v G2) fun G3 => Q δ G3
theorem qg_subL {to ti : DTE} (ho : QE X a to) (hi : QE X b ti)
    (ha : ∀ v, assign (.Subscript a b pos) X.env v = (do let o ← holding [v] (eval a X.env); let i ← holding [v, o] (eval b X.env); standAt pos; holding [v, o, i] (setItem o i v); release [v, o, i] []) := by intro _; rfl) : QG X Pany (.Subscript a b pos) (dSubL to ti) :=
  PGmono (pg_sub ho hi set_list ha) fun v σ H Q ⟨F, d, δ, G, Q', R, r, S, q, k⟩ => by
    refine ⟨F, δ, G, _, R, S, q, fun w H1 ⟨o, F1, G1, k1, R1, p1, q1⟩ => ?_⟩
    have S1 := S.mono R k1
    refine ⟨F1, δ, G1, _, R1, S1, q1, fun x H2 ⟨i, F2, G2, k2, R2, p2, q2⟩ => ?_⟩
    have S2 := S1.mono R1 k2
    have r2 := Rep.mono R1 k2 d v (Rep.mono R k1 d v r)
    replace q2 := optQ_ex q2
    obtain ⟨G3, hz, q2⟩ := q2
    cases o with
    | ref p =>
      cases i with
      | int z =>
        cases p1
        cases p2
        simp only [setD] at hz
        cases el : lstOf (G2 p) with
        | none => rw [el] at hz; cases hz
        | some ds =>
          rw [el] at hz
          simp only [Option.bind] at hz
          cases ej : ixN ds.length z with
          | none => rw [ej] at hz; cases hz
          | some j =>
            rw [ej] at hz
            cases hz
            have eg := lstOf_eq el
            obtain ⟨xs, h1, h2⟩ := R2.obj p _ eg
            refine ⟨p, xs, z, j, rfl, rfl, h1, by rw [h2.len]; exact ej, ?_⟩
            have kk := keep_set (F := F2) (H := H2) (o := .lst (xs.set j v)) (m' := .lst (ds.set j d)) eg
            refine k _ _ trivial ⟨δ, F2, _, (k1.trans k2).trans kk, rel_set R2 eg ⟨_, upd_same, RepL.mono R2 kk _ _ (h2.set j r2)⟩, S2.mono R2 kk, q2⟩
      | _ => cases hz
    | _ => cases hz

/-! ### statements -/
variable {st : Stmt} {sts : List Stmt} {ts us : DTS} {g : DTG}
def dNext : DTS := fun E δ G => E.nx δ G
def dSeq (t u : DTS) : DTS := fun E δ G => t { E with nx := u E } δ G
theorem up_nx {D' : DEnds} {D : Ends} {δ : DS} {σ : L2.St} (R : Rel K F H G) (S : RepS K F H δ σ) (E : EndsUp K F H G D' D) (q : D'.nx δ G) : D.nx σ H := E.nx σ H ⟨δ, F, G, .refl, R, S, q⟩
theorem qss_nil : QSs X [] dNext := PSsmono pss_nil fun D σ H ⟨F, δ, G, D', R, S, q, E⟩ => up_nx R S E q
theorem qss_cons (h1 : QS X st ts) (h2 : QSs X sts us) : QSs X (st :: sts) (dSeq ts us) := PSsmono (pss_cons h1 h2) fun D σ H ⟨F, δ, G, D', R, S, q, E⟩ =>
  ⟨F, δ, G, _, R, S, q, ⟨fun σ1 H1 ⟨δ1, F1, G1, k1, R1, S1, q1⟩ => ⟨F1, δ1, G1, D', R1, S1, q1, E.step k1⟩, E.rt, E.bk, E.ct⟩⟩
theorem qss_one (h1 : QS X st ts) : QSs X [st] ts := pss_one h1
def dBreak : DTS := fun E δ G => E.bk δ G
def dCont : DTS := fun E δ G => E.ct δ G
theorem qs_pass : QS X (.Pass pos) dNext := PSmono ps_pass fun D σ H ⟨F, δ, G, D', R, S, q, E⟩ => up_nx R S E q
theorem qs_brk : QS X (.Break pos) dBreak := PSmono ps_break fun D σ H ⟨F, δ, G, D', R, S, q, E⟩ => E.bk σ H ⟨δ, F, G, .refl, R, S, q⟩
theorem qs_cnt : QS X (.Continue pos) dCont := PSmono ps_continue fun D σ H ⟨F, δ, G, D', R, S, q, E⟩ => E.ct σ H ⟨δ, F, G, .refl, R, S, q⟩
def dDrop (te : DTE) : DTS := fun E δ G => te δ G fun _ G1 => E.nx δ G1
theorem qs_expr (he : QE X e te) (hs : swapsWith e none pos.line X.env = pure false := by rfl) : QS X (.Expr e pos) (dDrop te) := PSmono (ps_expr he hs) fun D σ H ⟨F, δ, G, D', R, S, q, E⟩ =>
  ⟨F, δ, G, _, R, S, q, fun v H1 ⟨d, F1, G1, k1, R1, p1, q1⟩ => up_nx R1 (S.mono R k1) (E.step k1) q1⟩
def dRet (te : DTE) : DTS := fun E δ G => te δ G E.rt
theorem qs_ret (he : QE X e te) : QS X (.Return (some e) pos) (dRet te) := PSmono (ps_ret he) fun D σ H ⟨F, δ, G, D', R, S, q, E⟩ => ⟨F, δ, G, _, R, S, q, E.rt⟩
def dRetN : DTS := fun E _ G => E.rt .non G
theorem qs_retN : QS X (.Return none pos) dRetN := PSmono ps_retN fun D σ H ⟨F, δ, G, D', R, S, q, E⟩ => E.rt _ _ (.here (d := .non) R rfl q)
def dIfS (c : DTT) (t u : DTS) : DTS := fun E δ G => c δ G fun b G1 => dCond b (t E δ G1) (u E δ G1)
theorem qs_if {sa sb : List Stmt} (hc : QT X c t) (ha : QSs X sa ts) (hb : QSs X sb us) : QS X (.If c sa sb pos) (dIfS t ts us) := PSmono (ps_if hc ha hb) fun D σ H ⟨F, δ, G, D', R, S, q, E⟩ => by
  refine ⟨F, δ, G, _, R, S, q, fun b H1 ⟨F1, G1, k1, R1, q1⟩ => ?_⟩
  cases b with
  | true => exact ⟨F1, δ, G1, D', R1, S.mono R k1, q1, E.step k1⟩
  | false => exact ⟨F1, δ, G1, D', R1, S.mono R k1, q1, E.step k1⟩
def dAsg (te : DTE) (g : DTG) : DTS := fun E δ G => te δ G fun x G1 => g x δ G1 E.nx
theorem qs_asg (he : QE X e te) (hg : QG X Pany tg g) (hs : swapsWithSole [tg] e pos.line X.env = pure false := by rfl) (hw : swappedStores [tg] e X.env = pure none := by rfl)
    (h1 : (assignEach [tg] X.env).map (·.2) = [assign tg X.env] := by rfl) : QS X (.Assign [tg] e pos) (dAsg te g) := PSmono (ps_asg he hg hs hw h1) fun D σ H ⟨F, δ, G, D', R, S, q, E⟩ =>
  ⟨F, δ, G, _, R, S, q, fun v H1 ⟨d, F1, G1, k1, R1, p1, q1⟩ => ⟨F1, d, δ, G1, _, R1, p1, S.mono R k1, q1, fun σ' H' _ h => (E.step k1).nx σ' H' h⟩⟩
theorem upSet {i : Nat} {D : Ends} {σ : L2.St} {H : Hp} {t0 : TE} (l : ∀ σ H Q, up K te σ H Q → t0 σ H Q) (h : upS K (dAsg te (dName i)) D σ H) : tAsg t0 (gName i) D σ H := by
  obtain ⟨F, δ, G, D', R, S, q, E⟩ := h
  exact l _ _ _ ⟨F, δ, G, _, R, S, q, fun v H1 ⟨d, F1, G1, k1, R1, p1, q1⟩ => (E.step k1).nx _ _ ⟨setS δ i (some d), F1, G1, .refl, R1, (S.mono R k1).set i p1, q1⟩⟩
theorem qs_set {i : Nat} {x : Str} {pos' : Pos} (hN : X.N.Nodup) (he : QE X e te) (hi : X.N[i]? = some x := by rfl) (hx : Loc X.env.scope x := by first | exact Or.inl rfl | exact Or.inr rfl) (hs : swapsWith e (some (.Name x pos')) pos.line X.env = pure false := by rfl) (hf : X.fn x = true ∨ X.env.scope.names.lookup x = some .local := by first | exact .inl rfl | exact .inr rfl) :
    QS X (.Assign [.Name x pos'] e pos) (dAsg te (dName i)) := PSmono (ps_set hN hi hx he hs hf) fun D σ H h => upSet (fun _ _ _ h => h) h
/-- name op= e -/
def dAug (i : Nat) (te : DTE) (r : R2d) : DTS := fun E δ G => optQ (getS δ i) fun x => te δ G fun y G1 => r x y G1 fun z G2 => E.nx (setS δ i (some z)) G2
theorem qs_aug {i : Nat} {x : Str} {op : Operator} {r0 : R2} {r : R2d} {pos' : Pos} (hN : X.N.Nodup) (ho : PIp X op r0) (l : Lift2 (kw X) r0 r) (he : QE X e te) (hi : X.N[i]? = some x := by rfl) (hx : Loc X.env.scope x := by first | exact Or.inl rfl | exact Or.inr rfl) (hf : X.fn x = true ∨ X.env.scope.names.lookup x = some .local := by first | exact .inl rfl | exact .inr rfl) :
    QS X (.AugAssign (.Name x pos') op e pos) (dAug i te r) := PSmono (ps_aug hN hi hx he ho hf) fun D σ H ⟨F, δ, G, D', R, S, q, E⟩ => by
  replace q := optQ_ex q
  obtain ⟨d, e1, q⟩ := q
  · obtain ⟨v, h1, h2⟩ := S.at' i d e1
    refine ⟨v, h1, F, δ, G, _, R, S, q, fun w H1 ⟨d2, F1, G1, k1, R1, p1, q1⟩ => ?_⟩
    refine l F1 H1 G1 d d2 v w _ _ R1 (Rep.mono R k1 d v h2) p1 q1 fun v' H' ⟨z, F2, G2, k2, R2, p2, q2⟩ => ?_
    exact (E.step (k1.trans k2)).nx _ _ ⟨_, F2, G2, .refl, R2, ((S.mono R k1).mono R1 k2).set i p2, q2⟩
theorem ip_addU : PIp X .Add (fun x y H Q => (rI0 (fun i j => .int (i + j))) x y H Q ∨ (∃ i j, x = .str i ∧ y = .str j ∧ i.length + j.length ≤ sizeLine ∧ Q (.str (i ++ j)) H)) := OpR.or iop_add iop_add_str
def dIAdd : D → D → Option D
  | .int i, .int j => some (.int (i + j))
  | .str x, .str y => if x.length + y.length ≤ sizeLine then some (.str (x ++ y)) else none
  | _, _ => none
theorem lift_iadd : Lift2 K (fun x y H Q => (rI0 (fun i j => .int (i + j))) x y H Q ∨ (∃ i j, x = .str i ∧ y = .str j ∧ i.length + j.length ≤ sizeLine ∧ Q (.str (i ++ j)) H)) (dPure2 dIAdd) := by
  intro F H G d e v u Q Q0 R rd re q k
  replace q := optQ_ex q
  obtain ⟨z, hz, q⟩ := q
  unfold dIAdd at hz
  split at hz
  · cases hz
    exact .inl ⟨_, _, rd, re, fin R k q rfl⟩
  · split at hz
    · rename_i hl
      cases hz
      exact .inr ⟨_, _, rd.1, re.1, hl, fin R k q ⟨rfl, sOk_app rd.2 re.2⟩⟩
    · cases hz
  · cases hz
theorem qs_aadd {i : Nat} {x : Str} {pos' : Pos} (hN : X.N.Nodup) (he : QE X e te) (hi : X.N[i]? = some x := by rfl) (hx : Loc X.env.scope x := by first | exact Or.inl rfl | exact Or.inr rfl) (hf : X.fn x = true ∨ X.env.scope.names.lookup x = some .local := by first | exact .inl rfl | exact .inr rfl) :
    QS X (.AugAssign (.Name x pos') .Add e pos) (dAug i te (dPure2 dIAdd)) := qs_aug hN ip_addU lift_iadd he hi hx hf
theorem ip_subU : PIp X .Sub (rI0 fun i j => .int (i - j)) := iop_sub
theorem qs_asub {i : Nat} {x : Str} {pos' : Pos} (hN : X.N.Nodup) (he : QE X e te) (hi : X.N[i]? = some x := by rfl) (hx : Loc X.env.scope x := by first | exact Or.inl rfl | exact Or.inr rfl) (hf : X.fn x = true ∨ X.env.scope.names.lookup x = some .local := by first | exact .inl rfl | exact .inr rfl) :
    QS X (.AugAssign (.Name x pos') .Sub e pos) (dAug i te (dPure2 dSub)) := qs_aug hN ip_subU lift_sub he hi hx hf

/-! ### xs.append(e) -/
def dApp (to te : DTE) : DTE := fun δ G Q => to δ G fun o G1 => optQ (refOf o) fun p => optQ (lstOf (G1 p)) fun _ => te δ G1 fun y G2 => optQ (lstOf (G2 p)) fun ds => ds.length < sizeLine ∧ Q .non (updG G2 p (.lst (ds ++ [y])))
theorem upApp {to : DTE} {σ : L2.St} {Q : VK} (h : up K (dApp to te) σ H Q) : tBM K "list" rAppend (up K to) (tCons (up K te) tNil) σ H Q := by
  obtain ⟨F, δ, G, Q', R, S, q, k⟩ := h
  refine ⟨F, δ, G, _, R, S, q, fun v H1 ⟨o, F1, G1, k1, R1, p1, q1⟩ => ?_⟩
  replace q1 := optQ_ex q1
  obtain ⟨p, ep, q1⟩ := q1
  replace q1 := optQ_ex q1
  obtain ⟨es, el, q1⟩ := q1
  have eo := refOf_eq ep
  subst eo
  cases p1
  have eg := lstOf_eq el
  obtain ⟨xs, h1, h2⟩ := R1.obj p _ eg
  refine ⟨.inl ⟨rfl, _, .of h1⟩, F1, δ, G1, _, R1, S.mono R k1, q1, fun w H2 ⟨d, F2, G2, k2, R2, p2, q2⟩ => ?_⟩
  replace q2 := optQ_ex q2
  obtain ⟨ds, el2, q2⟩ := q2
  have eg2 := lstOf_eq el2
  obtain ⟨ys, g1, g2⟩ := R2.obj p _ eg2
  refine ⟨p, ys, w, rfl, rfl, g1, by rw [g2.len]; exact q2.1, ?_⟩
  have kk := keep_set (F := F2) (H := H2) (o := .lst (ys ++ [w])) (m' := .lst (ds ++ [d])) eg2
  exact k _ _ ⟨.non, F2, _, (k1.trans k2).trans kk, rel_set R2 eg2 ⟨_, upd_same, RepL.mono R2 kk _ _ (g2.app (.one p2))⟩, rfl, q2.2⟩
theorem q_app {apos cpos : Pos} {to : DTE} (ho : QE X a to) (he : QE X e te)
    (hbase : attributeBase a "append" X.env (eval a X.env) = eval a X.env := by rfl)
    (hline : (apos.endLine == cpos.line) = true := by rfl) (hs : starEach [e] X.env = (false, eval e X.env) :: starEach [] X.env := by rfl)
    (hfew : ((backTo cpos (starEach [e] X.env)).all (fun x => !x.1) && (backToKw cpos (keywordEach [] X.env)).all (fun x => x.1.isSome)
      && decide ([e].length + ([] : List Keyword).length + (if ([] : List Keyword).isEmpty then 0 else 1) < 30)) = true := by rfl) : QE X (.Call (.Attribute a "append" apos) [e] [] cpos) (dApp to te) :=
  PEmono (pe_bm PySem.F.plainAttrs_list PySem.F.slot_list_append PySem.F.type_list_append mt_append ho (pa_cons he pa_nil hs) hbase hfew hline hs) fun _ _ _ h => upApp h

/-! ### what is walked -/
abbrev DTI := DS → Gp → (List D → (Gp → Prop) → Gp → Prop) → Prop
def Walked (K : KW) (J : It) (F0 : Fr) (H0 : Hp) (G0 : Gp) (ds : List D) (S : Gp → Prop) : Prop :=
  ∀ F1 H1 G1, Keep F0 H0 G0 F1 H1 G1 → Rel K F1 H1 G1 → S G1 → (∀ i, ds.length ≤ i → J.stop i H1) ∧
    ∀ i d, ds[i]? = some d → J.go i H1 ∧ ∀ x H2, J.yld i H1 x H2 → ∃ F2, Keep F1 H1 G1 F2 H2 G1 ∧ Rel K F2 H2 G1 ∧ Rep K F2 H2 d x
def upI (K : KW) (t : DTI) : TI := fun σ H R0 => ∃ F δ G Q, Rel K F H G ∧ RepS K F H δ σ ∧ t δ G Q ∧ ∀ ds S J F' H' G', Keep F H G F' H' G' → Rel K F' H' G' → Walked K J F' H' G' ds S → Q ds S G' → R0 J H'
def QI (X : Cx) (tg e : Expr) (t : DTI) : Prop := PI X tg e (upI (kw X) t)
theorem PImono {t t' : TI} (h : PI X tg e t) (i : ∀ σ H R, t' σ H R → t σ H R) : PI X tg e t' := ⟨fun pins s σ H R I q => h.run pins s σ H R I (i _ _ _ q)⟩
/-- a list, a tuple, a text -/
def iAny (K : KW) (tl : TE) : TI := fun σ H R => tl σ H fun x H1 => (∃ a, x = .ref a ∧ (∃ xs, SqL K H1 a xs) ∧ R (Itl K a) H1) ∨ (∃ a, x = .ref a ∧ (∃ xs, SqT K H1 a xs) ∧ R (Itt K a) H1) ∨ ∃ z, x = .str z ∧ R (Its z) H1
theorem pi_any {l : Expr} {tl : TE} (hl : PE X l tl) : PI X tg l (iAny (kw X) tl) := ⟨fun pins s σ H R I h => thn (hl.run pins s σ H _ I h) fun v s1 ⟨x, H1, I1, r1, q1⟩ => by
  have new : ∀ {o : Obj}, o.isFreed = false → (s1.heap.push o).get? s1.heap.objs.size = some o := fun h => Heap.get?_push_size _ h
  rcases q1 with ⟨a, rfl, ⟨xs, hq⟩, q⟩ | ⟨a, rfl, ⟨xs, hq⟩, q⟩ | ⟨z, rfl, q⟩
  · cases r1
    obtain ⟨us, _, pl, _⟩ := I1.list hq
    exact wpAny_pyIter_list pl.isList (pi_one (tk := s1.toks) I1 _ (turn_list a _) ⟨_, new rfl, rfl, rfl⟩ q)
  · cases r1
    obtain ⟨us, _, pt, _⟩ := I1.tuple hq
    exact wpAny_pyIter_tuple (items := us.toArray) pt (pi_one (tk := s1.toks) I1 _ (turn_tuple a _) ⟨_, new rfl, rfl, rfl⟩ q)
  · obtain ⟨t, rfl⟩ := r1
    by_cases hz : z.cps.all (· < 128) = true
    · exact wpAny_pyIter_ascii hz (pi_one (tk := s1.toks) I1 _ (turn_str _ z t _ (.inl rfl)) ⟨_, new rfl, rfl, rfl⟩ q)
    · exact wpAny_pyIter_wide (Bool.eq_false_iff.mpr hz) (pi_one (tk := s1.toks) I1 _ (turn_str _ z t _ (.inr rfl)) ⟨_, new rfl, rfl, rfl⟩ q)⟩
theorem walked_l {F0 : Fr} {H0 : Hp} {G0 : Gp} {a : Addr} {ds : List D} {S : Gp → Prop} (h : ∀ F1 H1 G1, Keep F0 H0 G0 F1 H1 G1 → Rel K F1 H1 G1 → S G1 → ∃ ys, SqL K H1 a ys ∧ RepL K F1 H1 ds ys) : Walked K (Itl K a) F0 H0 G0 ds S := by
  intro F1 H1 G1 k R s
  obtain ⟨ys, hs, hr⟩ := h F1 H1 G1 k R s
  refine ⟨fun i hi => ⟨ys, hs, by rw [hr.len]; exact hi⟩, fun i d e => ?_⟩
  obtain ⟨v, e1, r⟩ := hr.get e
  refine ⟨⟨ys, v, hs, e1⟩, fun x H2 y => ?_⟩
  obtain ⟨rfl, y⟩ := y
  have := (y ys hs).symm.trans e1
  cases this
  exact ⟨F1, .refl, R, r⟩
theorem walked_t {F0 : Fr} {H0 : Hp} {G0 : Gp} {a : Addr} {ds : List D} {S : Gp → Prop} (h : ∀ F1 H1 G1, Keep F0 H0 G0 F1 H1 G1 → Rel K F1 H1 G1 → S G1 → ∃ ys, SqT K H1 a ys ∧ RepL K F1 H1 ds ys) : Walked K (Itt K a) F0 H0 G0 ds S := by
  intro F1 H1 G1 k R s
  obtain ⟨ys, hs, hr⟩ := h F1 H1 G1 k R s
  refine ⟨fun i hi => ⟨ys, hs, by rw [hr.len]; exact hi⟩, fun i d e => ?_⟩
  obtain ⟨v, e1, r⟩ := hr.get e
  refine ⟨⟨ys, v, hs, e1⟩, fun x H2 y => ?_⟩
  obtain ⟨rfl, y⟩ := y
  have := (y ys hs).symm.trans e1
  cases this
  exact ⟨F1, .refl, R, r⟩
/-- a text, sign by sign -/
def charsD (z : Str) : List D := z.cps.toList.map fun c => .str ⟨#[c]⟩
theorem walked_s {F0 : Fr} {H0 : Hp} {G0 : Gp} {z : Str} (hz : sOk z = true) : Walked K (Its z) F0 H0 G0 (charsD z) (fun _ => True) := by
  intro F2 H2 G2 k2 R2 _
  have hl : (charsD z).length = z.cps.size := by unfold charsD; rw [List.length_map, Array.length_toList]
  refine ⟨fun i hi => by rw [hl] at hi; exact hi, fun i d e => ?_⟩
  have hi : i < z.cps.size := by
    have := (List.getElem?_eq_some_iff.mp e).1
    rw [hl] at this
    exact this
  refine ⟨hi, fun x H3 y => ?_⟩
  obtain ⟨rfl, c, hc, rfl⟩ := y
  refine ⟨F2, .refl, R2, ?_⟩
  unfold charsD at e
  rw [List.getElem?_map, Array.getElem?_toList, hc] at e
  cases e
  refine ⟨rfl, ?_⟩
  unfold sOk at hz ⊢
  rw [← Array.all_toList, List.all_eq_true] at hz
  have := hz c (List.mem_of_getElem? (by rw [Array.getElem?_toList]; exact hc))
  simpa using this
/-- for x in e: e a tuple, a list, a text; a mutable list stays as it is meanwhile -/
def itD : D → Gp → Option (List D × Option Addr)
  | .tup ds, _ => some (ds, none)
  | .lv ds, _ => some (ds, none)
  | .rl ds, _ => some (ds, none)
  | .ref a, G => (lstOf (G a)).map fun ds => (ds, some a)
  | .str z, _ => some (charsD z, none)
  | _, _ => none
def stabS : List D × Option Addr → Gp → Prop
  | (_, none), _ => True
  | (ds, some a), G => G a = some (.lst ds)
def dIt (te : DTE) : DTI := fun δ G Q => te δ G fun x G1 => optQ (itD x G1) fun r => Q r.1 (stabS r) G1
theorem qi (he : QE X e te) : QI X tg e (dIt te) := PImono (pi_any he) fun σ H R0 ⟨F, δ, G, Q, R, S, q, k⟩ => by
  refine ⟨F, δ, G, _, R, S, q, fun v H1 ⟨d, F1, G1, k1, R1, p1, q1⟩ => ?_⟩
  replace q1 := optQ_ex q1
  obtain ⟨r, hr0, q1⟩ := q1
  cases d with
  | tup ds =>
    cases hr0
    obtain ⟨a, xs, rfl, hs, hr⟩ := p1
    refine .inr (.inl ⟨a, rfl, ⟨xs, hs.sq⟩, k ds _ _ F1 H1 G1 k1 R1 (walked_t fun F2 H2 G2 k2 R2 _ => ⟨xs, k2.sqT R1 hs.sq, RepL.mono R1 k2 _ _ hr⟩) q1⟩)
  | lv ds =>
    cases hr0
    obtain ⟨a, xs, rfl, hs, hr⟩ := p1
    refine .inl ⟨a, rfl, ⟨xs, .of hs.2⟩, k ds _ _ F1 H1 G1 k1 R1 (walked_l fun F2 H2 G2 k2 R2 _ => ⟨xs, .of ((k2.stay R1).lst a xs hs.1 hs.2).2, RepL.mono R1 k2 _ _ hr⟩) q1⟩
  | rl ds =>
    cases hr0
    obtain ⟨a, xs, rfl, hs, hr⟩ := p1
    have sq : ∀ F2 H2 G2, Keep F1 H1 G1 F2 H2 G2 → SqL (kw X) H2 a xs := fun F2 H2 G2 k2 => by
      rcases hs with ⟨o, hs⟩ | hs
      · exact .inl (.inr ⟨o, (k2.stay R1).frz a o xs hs⟩)
      · exact .inr hs
    refine .inl ⟨a, rfl, ⟨xs, sq _ _ _ .refl⟩, k ds _ _ F1 H1 G1 k1 R1 (walked_l fun F2 H2 G2 k2 R2 _ => ⟨xs, sq _ _ _ k2, RepL.mono R1 k2 _ _ hr⟩) q1⟩
  | ref a =>
    cases p1
    simp only [itD] at hr0
    cases el : lstOf (G1 a) with
    | none => rw [el] at hr0; cases hr0
    | some ds =>
      rw [el] at hr0
      cases hr0
      obtain ⟨xs, h1, h2⟩ := R1.obj a _ (lstOf_eq el)
      refine .inl ⟨a, rfl, ⟨xs, .of h1⟩, k ds _ _ F1 H1 G1 k1 R1 (walked_l fun F2 H2 G2 k2 R2 s => ?_) q1⟩
      obtain ⟨ys, g1, g2⟩ := R2.obj a _ s
      exact ⟨ys, .of g1, g2⟩
  | str z =>
    cases hr0
    obtain ⟨p1, hz⟩ := p1
    cases p1
    exact .inr (.inr ⟨z, rfl, k (charsD z) _ _ F1 H1 G1 k1 R1 (fun F2 H2 G2 k2 R2 _ => walked_s hz F2 H2 G2 k2 R2 trivial) q1⟩)
  | _ => cases hr0
def rangeD (lo : Int) (n : Nat) : List D := (List.range n).map fun i => .int (lo + (i : Nat))
theorem walked_r {F0 : Fr} {H0 : Hp} {G0 : Gp} {lo : Int} {n : Nat} : Walked K (Itr lo n) F0 H0 G0 (rangeD lo n) (fun _ => True) := by
  intro F1 H1 G1 k R s
  have hl : (rangeD lo n).length = n := by unfold rangeD; rw [List.length_map, List.length_range]
  refine ⟨fun i hi => by rw [hl] at hi; exact hi, fun i d e => ?_⟩
  have hi : i < n := by
    have := (List.getElem?_eq_some_iff.mp e).1
    rw [hl] at this
    exact this
  refine ⟨hi, fun x H2 y => ?_⟩
  obtain ⟨rfl, rfl⟩ := y
  refine ⟨F1, .refl, R, ?_⟩
  unfold rangeD at e
  rw [List.getElem?_map, List.getElem?_range hi] at e
  cases e
  rfl
def int1 : List D → Option Int
  | [.int i] => some i
  | _ => none
def int2 : List D → Option (Int × Int)
  | [.int i, .int j] => some (i, j)
  | _ => none
theorem int1_eq {ds : List D} {i : Int} (h : int1 ds = some i) : ds = [.int i] := by
  unfold int1 at h
  split at h
  · cases h; rfl
  · cases h
theorem int2_eq {ds : List D} {p : Int × Int} (h : int2 ds = some p) : ds = [.int p.1, .int p.2] := by
  unfold int2 at h
  split at h
  · cases h; rfl
  · cases h
def dRng1 (tr : DTA) : DTI := fun δ G Q => tr δ G fun ds G1 => optQ (int1 ds) fun j => -(2 ^ 62) ≤ j ∧ j < 2 ^ 62 ∧ Q (rangeD 0 j.toNat) (fun _ => True) G1
def dRng2 (tr : DTA) : DTI := fun δ G Q => tr δ G fun ds G1 => optQ (int2 ds) fun p => (-(2 ^ 62) ≤ p.1 ∧ p.1 < 2 ^ 62 ∧ -(2 ^ 62) ≤ p.2 ∧ p.2 < 2 ^ 62) ∧ Q (rangeD p.1 (p.2 - p.1).toNat) (fun _ => True) G1
theorem qi_range1 {p : Pos} (hg : Gl X "range") (hm : X.mg "range" = none) (ha : QA X [a] tr) (hs : starEach [a] X.env = [(false, eval a X.env)] := by rfl) : QI X tg (.Call (.Name "range" p) [a] [] pos) (dRng1 tr) :=
  PImono (pi_range1 hg hm ha hs) fun σ H R0 ⟨F, δ, G, Q, R, S, q, k⟩ => by
    refine ⟨F, δ, G, _, R, S, q, fun vs H1 ⟨ds, F1, G1, k1, R1, p1, q1⟩ => ?_⟩
    replace q1 := optQ_ex q1
    obtain ⟨j, ej, q1⟩ := q1
    have e1 := int1_eq ej
    subst e1
    · obtain ⟨v, rfl, r⟩ := rl1 p1
      cases r
      exact ⟨_, rfl, q1.1, q1.2.1, k _ _ _ F1 H1 G1 k1 R1 walked_r q1.2.2⟩
theorem qi_range2 {p : Pos} (hg : Gl X "range") (hm : X.mg "range" = none) (ha : QA X [a, b] tr) (hs : starEach [a, b] X.env = [(false, eval a X.env), (false, eval b X.env)] := by rfl) (hs2 : starEach [b] X.env = [(false, eval b X.env)] := by rfl) : QI X tg (.Call (.Name "range" p) [a, b] [] pos) (dRng2 tr) :=
  PImono (pi_range2 hg hm ha hs hs2) fun σ H R0 ⟨F, δ, G, Q, R, S, q, k⟩ => by
    refine ⟨F, δ, G, _, R, S, q, fun vs H1 ⟨ds, F1, G1, k1, R1, p1, q1⟩ => ?_⟩
    replace q1 := optQ_ex q1
    obtain ⟨j, ej, q1⟩ := q1
    have e1 := int2_eq ej
    subst e1
    · obtain ⟨v, v', rfl, r, r'⟩ := rl2 p1
      cases r
      cases r'
      exact ⟨_, _, rfl, q1.1, k _ _ _ F1 H1 G1 k1 R1 walked_r q1.2⟩
/-! ### for, while -/
def dLoop (S : Gp → Prop) (g : DTG) (tb : DTS) (E : DEnds) : List D → DS → Gp → Prop
  | [], δ, G => S G ∧ E.nx δ G
  | d :: r, δ, G => S G ∧ g d δ G fun δ1 G1 => tb { nx := dLoop S g tb E r, ct := dLoop S g tb E r, bk := E.nx, rt := E.rt } δ1 G1
def dFor (t : DTI) (g : DTG) (tb : DTS) : DTS := fun E δ G => t δ G fun ds S G1 => dLoop S g tb E ds δ G1
theorem qs_for {iter : Expr} {body : List Stmt} {wi : DTI} {tb : DTS} (hp : PassesOwn (model X.prog X.w) X.A X.env X.xe) (hc : X.calm = true) (hi : QI X tg iter wi) (hg : QG X Pany tg g) (hb : QSs X body tb)
    (hs : ∀ x, foldedSetIterable iter X.env x = pure x := by intro _; rfl) : QS X (.For tg iter body [] pos) (dFor wi g tb) := PSmono (ps_for hp hc hi hg hb hs) fun D σ H ⟨F, δ, G, D', R, S, q, E⟩ => by
  refine ⟨F, δ, G, _, R, S, q, fun ds Sb J F1 H1 G1 k1 R1 wk q1 => ?_⟩
  have S1 := S.mono R k1
  refine ⟨fun i m σ2 H2 => m = ds.length - i ∧ i ≤ ds.length ∧ ∃ F2 δ2 G2, Keep F1 H1 G1 F2 H2 G2 ∧ Rel (kw X) F2 H2 G2 ∧ RepS (kw X) F2 H2 δ2 σ2 ∧ dLoop Sb g tb D' (ds.drop i) δ2 G2,
    ⟨ds.length, by rw [Nat.sub_zero], Nat.zero_le _, F1, δ, G1, .refl, R1, S1, q1⟩, ?_⟩
  rintro i m σ2 H2 ⟨rfl, hi, F2, δ2, G2, k2, R2, S2, q2⟩
  by_cases hlt : i < ds.length
  · have ed : ds.drop i = ds[i] :: ds.drop (i + 1) := List.drop_eq_getElem_cons hlt
    rw [ed] at q2
    obtain ⟨s2, q2⟩ := q2
    obtain ⟨_, go⟩ := wk F2 H2 G2 k2 R2 s2
    obtain ⟨go, yl⟩ := go i ds[i] (List.getElem?_eq_getElem hlt)
    refine .inr ⟨go, fun σ' H' => ∃ F3 δ3 G3, Keep F1 H1 G1 F3 H' G3 ∧ Rel (kw X) F3 H' G3 ∧ RepS (kw X) F3 H' δ3 σ' ∧ dLoop Sb g tb D' (ds.drop (i + 1)) δ3 G3, fun σ' H' h => ⟨ds.length - (i + 1), by omega, rfl, hlt, h⟩, fun x H' y => ?_⟩
    obtain ⟨F3, k3, R3, r3⟩ := yl x H' y
    refine ⟨F3, ds[i], δ2, G2, _, R3, r3, S2.mono R2 k3, q2, fun σ4 H4 _ ⟨δ4, F4, G4, k4, R4, S4, q4⟩ => ?_⟩
    have kk := (k2.trans k3).trans k4
    refine ⟨F4, δ4, G4, _, R4, S4, q4, ?_⟩
    have back : ∀ σ' H', postS F4 (kw X) H4 G4 (dLoop Sb g tb D' (ds.drop (i + 1))) σ' H' → ∃ F3 δ3 G3, Keep F1 H1 G1 F3 H' G3 ∧ Rel (kw X) F3 H' G3 ∧ RepS (kw X) F3 H' δ3 σ' ∧ dLoop Sb g tb D' (ds.drop (i + 1)) δ3 G3 := fun σ' H' ⟨δ5, F5, G5, k5, R5, S5, q5⟩ => ⟨F5, δ5, G5, kk.trans k5, R5, S5, q5⟩
    have E4 := E.step (k1.trans kk)
    exact ⟨back, E4.rt, E4.nx, back⟩
  · have e : i = ds.length := by omega
    subst e
    rw [List.drop_length] at q2
    obtain ⟨s2, q2⟩ := q2
    obtain ⟨stop, _⟩ := wk F2 H2 G2 k2 R2 s2
    exact .inl ⟨stop _ (Nat.le_refl _), (E.step (k1.trans k2)).nx _ _ ⟨δ2, F2, G2, .refl, R2, S2, q2⟩⟩
/-- while: an invariant with its measure -/
def dWhile (c : DTT) (tb : DTS) : DTS := fun E δ G => ∃ W : Nat → DS → Gp → Prop, (∃ m, W m δ G) ∧ ∀ m δ G, W m δ G →
  c δ G fun b G1 => dCond b (tb { nx := fun δ' G' => ∃ m', m' < m ∧ W m' δ' G', ct := fun δ' G' => ∃ m', m' < m ∧ W m' δ' G', bk := E.nx, rt := E.rt } δ G1) (E.nx δ G1)
theorem qs_while {c : Expr} {body : List Stmt} {tc : DTT} {tb : DTS} (hp : PassesOwn (model X.prog X.w) X.A X.env X.xe) (hc : QT X c tc) (hb : QSs X body tb) : QS X (.While c body [] pos) (dWhile tc tb) := PSmono (ps_while hp hc hb) fun D σ H ⟨F, δ, G, D', R, S, ⟨W, ⟨m0, w0⟩, turn⟩, E⟩ => by
  refine ⟨fun m σ' H' => ∃ F1 δ1 G1, Keep F H G F1 H' G1 ∧ Rel (kw X) F1 H' G1 ∧ RepS (kw X) F1 H' δ1 σ' ∧ W m δ1 G1, ⟨m0, F, δ, G, .refl, R, S, w0⟩, ?_⟩
  rintro m σ1 H1 ⟨F1, δ1, G1, k1, R1, S1, w1⟩
  refine ⟨F1, δ1, G1, _, R1, S1, turn m δ1 G1 w1, fun b H2 ⟨F2, G2, k2, R2, q2⟩ => ?_⟩
  have S2 := S1.mono R1 k2
  have kk := k1.trans k2
  have E2 := E.step kk
  cases b with
  | true =>
    refine iteT ?_
    refine ⟨fun σ' H' => ∃ m', m' < m ∧ ∃ F3 δ3 G3, Keep F H G F3 H' G3 ∧ Rel (kw X) F3 H' G3 ∧ RepS (kw X) F3 H' δ3 σ' ∧ W m' δ3 G3, fun σ' H' ⟨m', hm, h⟩ => ⟨m', hm, h⟩, F2, δ1, G2, _, R2, S2, q2, ?_⟩
    have back : ∀ σ' H', postS F2 (kw X) H2 G2 (fun δ' G' => ∃ m', m' < m ∧ W m' δ' G') σ' H' → ∃ m', m' < m ∧ ∃ F3 δ3 G3, Keep F H G F3 H' G3 ∧ Rel (kw X) F3 H' G3 ∧ RepS (kw X) F3 H' δ3 σ' ∧ W m' δ3 G3 := fun σ' H' ⟨δ5, F5, G5, k5, R5, S5, m', hm, q5⟩ => ⟨m', hm, F5, δ5, G5, kk.trans k5, R5, S5, q5⟩
    exact ⟨back, E2.rt, E2.nx, back⟩
  | false =>
    refine iteF ?_
    exact E2.nx _ _ ⟨δ1, F2, G2, .refl, R2, S2, q2⟩
end
end DL
set_option Elab.async false
set_option linter.all false
set_option maxRecDepth 100000
set_option maxHeartbeats 4000000
namespace DL
open PySem PySem.Spec PyProof.Rows L2
section
variable {X : Cx} {K : KW} {F F' : Fr} {H H' : Hp} {G G' : Gp} {a b c e tg : Expr} {es rest : List Expr} {ta tb tc te : DTE} {t u : DTT} {tr : DTA} {pos : Pos}
/-! ### comprehensions -/
def QTs (X : Cx) (ifs : List Expr) (t : DTT) : Prop := PTs X ifs (upT (kw X) t)
theorem PTsmono {ifs : List Expr} {t t' : TT} (h : PTs X ifs t) (i : ∀ σ H Q, t' σ H Q → t σ H Q) : PTs X ifs t' := ⟨fun pins s σ H Q I q => h.run pins s σ H Q I (i _ _ _ q)⟩
def dYes : DTT := fun _ G Q => Q true G
theorem qts_nil : QTs X [] dYes := PTsmono pts_nil fun σ H Q ⟨F, δ, G, Q', R, S, q, k⟩ => k true H ⟨F, G, .refl, R, q⟩
theorem qts_one (h : QT X c t) : QTs X [c] t := pts_one h
def dComp (S : Gp → Prop) (g : DTG) (tt : DTT) (te : DTE) (δ : DS) (Q : List D → Gp → Prop) : List D → List D → Gp → Prop
  | [], acc, G => S G ∧ Q acc G
  | d :: r, acc, G => S G ∧ g d δ G fun δ1 G1 => tt δ1 G1 fun b G2 => dCond b (te δ1 G2 fun y G3 => acc.length < sizeLine ∧ dComp S g tt te δ Q r (acc ++ [y]) G3) (dComp S g tt te δ Q r acc G2)
def dLc (wi : DTI) (g : DTG) (tt : DTT) (te : DTE) (vs : List Nat) : DTE := fun δ G Q => wi δ G fun ds S G1 => dComp S g tt te (wipeS δ vs) (fun acc G2 => Q (.lv acc) G2) ds [] G1
theorem upLc {wi : DTI} {g : DTG} {vs : List Nat} {σ : L2.St} {Q : VK} (h : up K (dLc wi g t te vs) σ H Q) : tLc (upI K wi) (upG K (Pw vs) g) (upT K t) (up K te) vs σ H Q := by
  obtain ⟨F, δ, G, Q', R, S, q, k⟩ := h
  refine ⟨F, δ, G, _, R, S, q, fun ds Sb J F1 H1 G1 k1 R1 wk q1 => ?_⟩
  intro D hD
  have S1 := (S.mono R k1).wipe vs
  have gD : G1 D = none := R1.off0 hD
  have fD : ¬ F1 D := fun f => R1.al D f hD
  refine ⟨fun i m H2 => m = ds.length - i ∧ i ≤ ds.length ∧ ∃ F2 G2 acc xs, Keep F1 H1 G1 F2 H2 G2 ∧ Rel K F2 H2 G2 ∧ RepS K F2 H2 (wipeS δ vs) (wipe σ vs) ∧ G2 D = none ∧ ¬ F2 D ∧ H2 D = some (.lst xs) ∧ RepL K F2 H2 acc xs ∧
      dComp Sb g t te (wipeS δ vs) (fun acc G2 => Q' (.lv acc) G2) (ds.drop i) acc G2,
    ⟨ds.length, by rw [Nat.sub_zero], Nat.zero_le _, F1, G1, [], [], keep_new R1 hD, rel_new R1 hD, S1.mono R1 (keep_new R1 hD), gD, fD, upd_same, rfl, q1⟩, ?_⟩
  rintro i m H2 ⟨rfl, hi, F2, G2, acc, xs, k2, R2, S2, g2, f2, hD2, ra, q2⟩
  by_cases hlt : i < ds.length
  · have ed : ds.drop i = ds[i] :: ds.drop (i + 1) := List.drop_eq_getElem_cons hlt
    rw [ed] at q2
    obtain ⟨s2, q2⟩ := q2
    obtain ⟨_, go⟩ := wk F2 H2 G2 k2 R2 s2
    obtain ⟨go, yl⟩ := go i ds[i] (List.getElem?_eq_getElem hlt)
    refine .inr ⟨go, fun H' => ∃ F3 G3 acc xs, Keep F1 H1 G1 F3 H' G3 ∧ Rel K F3 H' G3 ∧ RepS K F3 H' (wipeS δ vs) (wipe σ vs) ∧ G3 D = none ∧ ¬ F3 D ∧ H' D = some (.lst xs) ∧ RepL K F3 H' acc xs ∧
      dComp Sb g t te (wipeS δ vs) (fun acc G2 => Q' (.lv acc) G2) (ds.drop (i + 1)) acc G3, fun H' h => ⟨ds.length - (i + 1), by omega, rfl, hlt, h⟩, fun x H' y => ?_⟩
    obtain ⟨F3, k3, R3, r3⟩ := yl x H' y
    refine ⟨F3, ds[i], wipeS δ vs, G2, _, R3, r3, S2.mono R2 k3, q2, fun σ4 H4 p4 ⟨δ4, F4, G4, k4, R4, S4, q4⟩ => ?_⟩
    refine ⟨?_, F4, δ4, G4, _, R4, S4, q4, fun b H5 ⟨F5, G5, k5, R5, q5⟩ => ?_⟩
    · have w : wipe (wipe σ vs) vs = wipe σ vs := by
        have : ∀ (us : List Nat) (τ : L2.St), (∀ j ∈ us, τ[j]? = some none ∨ τ.length ≤ j) → wipe τ us = τ := by
          intro us
          induction us with
          | nil => intro τ _; rfl
          | cons j us ih =>
            intro τ h
            unfold wipe
            rw [ih τ fun j' h' => h j' (List.mem_cons_of_mem _ h')]
            rcases h j List.mem_cons_self with e | e
            · apply List.ext_getElem?
              intro n
              by_cases z : j = n
              · subst z
                have hl : j < τ.length := (List.getElem?_eq_some_iff.mp e).1
                rw [List.getElem?_set_self hl, e]
              · rw [List.getElem?_set_ne z]
            · exact List.set_eq_of_length_le e
        refine this vs _ fun j hj => ?_
        by_cases hl : j < (wipe σ vs).length
        · cases e : (wipe σ vs)[j]? with
          | none => rw [List.getElem?_eq_none_iff] at e; exact .inr e
          | some o =>
            cases o with
            | none => exact .inl rfl
            | some v => exact absurd hj (wipe_some e).2
        · exact .inr (by omega)
      rw [p4, w]
    · have kk := ((k2.trans k3).trans k4).trans k5
      have k25 := (k3.trans k4).trans k5
      cases b with
      | true =>
        refine iteT ?_
        refine ⟨F5, δ4, G5, _, R5, S4.mono R4 k5, q5, fun v H6 ⟨d, F6, G6, k6, R6, p6, hl, q6⟩ => ?_⟩
        have k26 := k25.trans k6
        obtain ⟨h6, g6, f6⟩ := k26.k D _ g2 hD2
        have nf : ¬ F6 D := fun z => f2 (f6.mp z)
        have ra6 := RepL.mono R2 k26 _ _ ra
        have st := stay_hid (F := F6) (o := .lst (xs ++ [v])) h6 nf
        have k16 := kk.trans k6
        refine ⟨xs, h6, by rw [ra.len]; exact hl, F6, G6, acc ++ [d], xs ++ [v], ⟨fun a u ga ha => ?_⟩, rel_hid R6 h6 nf g6, ?_, g6, nf, upd_same, (RepL.stay st _ _ ra6).app (.one (Rep.stay st _ _ p6)), q6⟩
        · obtain ⟨a1, a2, a3⟩ := k16.k a u ga ha
          refine ⟨by rw [upd_ne (fun z => by subst z; rw [hD] at ha; cases ha)]; exact a1, a2, a3⟩
        · have s6 := S2.mono R2 k26
          exact ⟨s6.len, fun j d' ej => by obtain ⟨v', e1, e2⟩ := s6.at' j d' ej; exact ⟨v', e1, Rep.stay st _ _ e2⟩⟩
      | false =>
        refine iteF ?_
        obtain ⟨h5, g5, f5⟩ := k25.k D _ g2 hD2
        exact ⟨F5, G5, acc, xs, kk, R5, S2.mono R2 k25, g5, fun z => f2 (f5.mp z), h5, RepL.mono R2 k25 _ _ ra, q5⟩
  · have ei : i = ds.length := by omega
    subst ei
    rw [List.drop_length] at q2
    obtain ⟨s2, q2⟩ := q2
    obtain ⟨stop, _⟩ := wk F2 H2 G2 k2 R2 s2
    refine .inl ⟨stop _ (Nat.le_refl _), k _ _ ⟨.lv acc, frzF F2 D, G2, ⟨fun a' u ga ha => ?_⟩, ⟨fun a' m e => ?_, fun a' f => ?_, fun a' f => ?_⟩, ⟨D, xs, rfl, ⟨.inr rfl, hD2⟩, ?_⟩, q2⟩⟩
    · obtain ⟨a1, a2, a3⟩ := (k1.trans k2).k a' u ga ha
      have nD : a' ≠ D := fun z => by
        subst z
        have := (k1.k a' u ga ha).1
        rw [hD] at this
        cases this
      exact ⟨a1, a2, ⟨fun z => z.elim a3.mp fun w => absurd w nD, fun z => .inl (a3.mpr z)⟩⟩
    · have st : Stay F2 H2 (frzF F2 D) H2 := ⟨fun _ _ _ h => h, fun _ _ f h => ⟨.inl f, h⟩, fun _ _ _ h => h, fun _ _ f h => ⟨.inl f, h⟩, fun _ _ _ h => h, fun _ _ f h => ⟨.inl f, h⟩⟩
      exact RepO.stay st (fun _ _ h => h) rfl (R2.obj a' m e)
    · rcases f with f | f
      · exact R2.fr a' f
      · rw [f]; exact g2
    · rcases f with f | f
      · exact R2.al a' f
      · rw [f, hD2]; intro z; cases z
    · have st : Stay F2 H2 (frzF F2 D) H2 := ⟨fun _ _ _ h => h, fun _ _ f h => ⟨.inl f, h⟩, fun _ _ _ h => h, fun _ _ f h => ⟨.inl f, h⟩, fun _ _ _ h => h, fun _ _ f h => ⟨.inl f, h⟩⟩
      exact RepL.stay st _ _ ra
theorem q_lc {elt iter : Expr} {ifs : List Expr} {scope : Scope} {own : List (Str × Nat)} {wi : DTI} {g : DTG} (hc : X.calm = true) (hN : X.N.Nodup) (hi : QI X tg iter wi) (ok : blkC X.N X.env.scope scope own = true)
    (hg : ∀ (s : Shared) (H : Hp) (C : Addr) (cl : List (Str × Addr)) (fp : List Addr), QG (X.blk s H scope (compEnvC scope cl C X.env) fp) (Pw (own.map (·.2))) tg g) (ht : ∀ (s : Shared) (H : Hp) (C : Addr) (cl : List (Str × Addr)) (fp : List Addr), QTs (X.blk s H scope (compEnvC scope cl C X.env) fp) ifs t)
    (he : ∀ (s : Shared) (H : Hp) (C : Addr) (cl : List (Str × Addr)) (fp : List Addr), QE (X.blk s H scope (compEnvC scope cl C X.env) fp) elt te) (hs : ∀ x, foldedSetIterable iter X.env x = pure x := by intro _; rfl) :
    QE X (.ListComp elt [⟨tg, iter, ifs, 0⟩] scope pos) (dLc wi g t te (own.map (·.2))) := PEmono (pe_lc (g := upG (kw X) (Pw (own.map fun (p : Str × Nat) => p.2)) g) (tt := upT (kw X) t) (te := up (kw X) te) hc hN hi (blkOk_by ok) hg ht he hs) fun _ _ _ h => upLc h
theorem qs_setLc {i : Nat} {y : Str} {py : Pos} {elt iter : Expr} {ifs : List Expr} {scope : Scope} {own : List (Str × Nat)} {spos : Pos} {wi : DTI} {g : DTG} (hc : X.calm = true) (hN : X.N.Nodup) (hy : X.N[i]? = some y) (hyl : X.env.scope.names.lookup y = some .local)
    (hk : X.env.scope.kind = .function) (hl : (py.line == pos.line) = true) (hn : (scope.names.any fun (n, k) => n == y && (k == .local || k == .cell)) = false) (hi : QI X tg iter wi) (ok : blkC X.N X.env.scope scope own = true)
    (hg : ∀ (s : Shared) (H : Hp) (C : Addr) (cl : List (Str × Addr)) (fp : List Addr), QG (X.blk s H scope (compEnvC scope cl C X.env) fp) (Pw (own.map (·.2))) tg g) (ht : ∀ (s : Shared) (H : Hp) (C : Addr) (cl : List (Str × Addr)) (fp : List Addr), QTs (X.blk s H scope (compEnvC scope cl C X.env) fp) ifs t)
    (he : ∀ (s : Shared) (H : Hp) (C : Addr) (cl : List (Str × Addr)) (fp : List Addr), QE (X.blk s H scope (compEnvC scope cl C X.env) fp) elt te) (hs : ∀ x, foldedSetIterable iter X.env x = pure x := by intro _; rfl) :
    QS X (.Assign [.Name y py] (.ListComp elt [⟨tg, iter, ifs, 0⟩] scope pos) spos) (dAsg (dLc wi g t te (own.map (·.2))) (dName i)) := PSmono (ps_setLc (g := upG (kw X) (Pw (own.map fun (p : Str × Nat) => p.2)) g) (tt := upT (kw X) t) (te := up (kw X) te) hc hN hy hyl (sw_true hk hyl hl hn) hi (blkOk_by ok) hg ht he hs) fun _ _ _ h => upSet (fun _ _ _ h => upLc h) h

/-! ### the text ''.join(xs) -/
def strsOf : List D → Option (List Str)
  | [] => some []
  | .str b :: r => (strsOf r).map (b :: ·)
  | _ :: _ => none
theorem strsOf_rep : ∀ {ds : List D} {vs : List V} {bs : List Str}, RepL K F H ds vs → strsOf ds = some bs → vs = bs.map V.str ∧ ∀ x ∈ bs, sOk x = true
  | [], vs, bs, r, e => by cases r; cases e; exact ⟨rfl, by simp⟩
  | d :: ds, vs, bs, ⟨v, r', e1, h, q⟩, e => by
    subst e1
    cases d with
    | str b =>
      unfold strsOf at e
      cases e2 : strsOf ds with
      | none => rw [e2] at e; cases e
      | some bs' =>
        rw [e2] at e
        cases e
        obtain ⟨h, hb⟩ := h
        cases h
        obtain ⟨g1, g2⟩ := strsOf_rep q e2
        refine ⟨by rw [g1]; rfl, fun x hx => ?_⟩
        rcases List.mem_cons.mp hx with rfl | hx
        · exact hb
        · exact g2 x hx
    | _ => cases e
def dJoin (to te : DTE) : DTE := fun δ G Q => to δ G fun o G1 => optQ (strOf o) fun a => te δ G1 fun y G2 => optQ ((itemsOf y G2).bind strsOf) fun ys =>
  (ys.map (·.length)).sum + ys.length * a.length ≤ 16777216 ∧ Q (.str (Str.join a ys)) G2
theorem sOk_join {a : Str} (ha : sOk a = true) : ∀ {ys : List Str}, (∀ x ∈ ys, sOk x = true) → sOk (Str.join a ys) = true
  | [], _ => by unfold Str.join sOk; simp [Str.empty]
  | [x], h => h x (by simp)
  | x :: y :: r, h => sOk_app (sOk_app (h x (by simp)) ha) (sOk_join ha fun z hz => h z (List.mem_cons_of_mem _ hz))
theorem q_join {apos cpos : Pos} {to : DTE} (ho : QE X a to) (he : QE X e te) (hs : starEach [e] X.env = [(false, eval e X.env)] := by rfl) (hbase : attributeBase a "join" X.env (eval a X.env) = eval a X.env := by rfl) (hline : (apos.endLine == cpos.line) = true := by rfl) :
    QE X (.Call (.Attribute a "join" apos) [e] [] cpos) (dJoin to te) := PEmono (pe_join ho he hs hbase hline) fun σ H Q ⟨F, δ, G, Q', R, S, q, k⟩ => by
  refine ⟨F, δ, G, _, R, S, q, fun v H1 ⟨o, F1, G1, k1, R1, p1, q1⟩ => ?_⟩
  replace q1 := optQ_ex q1
  obtain ⟨z, eo, q1⟩ := q1
  have eo := strOf_eq eo
  subst eo
  obtain ⟨p1, hz⟩ := p1
  cases p1
  refine ⟨⟨z, rfl⟩, F1, δ, G1, _, R1, S.mono R k1, q1, fun w H2 ⟨d, F2, G2, k2, R2, p2, q2⟩ => ?_⟩
  replace q2 := optQ_ex q2
  obtain ⟨ys, ey, q2⟩ := q2
  cases ei : itemsOf d G2 with
  | none => rw [ei] at ey; cases ey
  | some ds =>
    rw [ei] at ey
    have es : strsOf ds = some ys := ey
    obtain ⟨a, xs, rfl, hs, hr⟩ := items_rep R2 p2 ei
    obtain ⟨e3, e4⟩ := strsOf_rep hr es
    subst e3
    refine ⟨z, a, ys, rfl, rfl, hs, q2.1, ?_⟩
    rw [show Txt.join z ys = Str.join z ys from PySem.StrLaws.glued_eq_join z ys]
    exact k _ _ ⟨.str (Str.join z ys), F2, G2, k1.trans k2, R2, ⟨rfl, sOk_join hz e4⟩, q2.2⟩

/-! ### calls of own defs -/
def spQ (sp : DSp) (ds : List D) (G : Gp) (Q : D → Gp → Prop) : Prop := sp ds G Q fun _ _ => False
theorem spQ_congr {sp : DSp} {ds ds' : List D} {G : Gp} {Q : D → Gp → Prop} (h : ds = ds') : spQ sp ds G Q = spQ sp ds' G Q := by rw [h]
def dCall (sp : DSp) (tr : DTA) : DTE := fun δ G Q => tr δ G fun ds G1 => spQ sp ds G1 Q
theorem q_call {k : Nat} {f : Addr} {fd : FuncData} {ps : List Str} {sp : DSp} {x : Str} {p : Pos} (Fn : FnOk X.prog X.w (kw X) X.mg X.base CX0 k f fd ps (upSp (kw X) sp)) (hr : Room k X.A) (hg : Gl X x) (hm : X.mg x = some (.ref f)) (hk : PySem.W.keepIn (kw X) (.ref f) = true) (hb : Binds (kw X) fd ps [])
    (ha : QA X (e :: es) tr) (hdb : (x == ("__debug__" : Str)) = false := by decide) (he : starEach (e :: es) X.env = (false, eval e X.env) :: starEach es X.env := by rfl) (hpl : (backTo pos (starEach es X.env)).any (·.1) = false := by rfl) :
    QE X (.Call (.Name x p) (e :: es) [] pos) (dCall sp tr) := PEmono (pe_call Fn hr hg hm hk hb .nil pass0 ha hdb he hpl) fun σ H Q ⟨F, δ, G, Q', R, S, q, k⟩ => by
  refine ⟨F, δ, G, _, R, S, q, fun vs H1 ⟨ds, F1, G1, k1, R1, p1, q1⟩ => ?_⟩
  show upSp (kw X) sp (vs ++ []) H1 Q E0
  rw [List.append_nil]
  exact ⟨F1, ds, G1, Q', R1, p1, q1, fun v H2 q2 => k v H2 (.trans k1 q2)⟩

/-! ### what a def promises: by its body -/
/-- what is handed back: things of the def's own go, lists of its own stay as they are -/
def MO.own : MO → Bool
  | .lst _ => true
  | .dic _ => true
  | _ => false
def F0 (F : Fr) (G' G0 : Gp) : Fr := fun a => F a ∨ ((∃ m : MO, G' a = some m ∧ m.own = true) ∧ G0 a = none)
def Fz (G' G0 : Gp) (d d0 : D) : Prop := ∀ (K : KW) F H v, Rel K F H G' → Rep K F H d v → Rep K (F0 F G' G0) H d0 v
/-- what may be forgotten of a mutable thing -/
def WkO (G1 : Gp) (a : Addr) : MO → Prop
  | .drw r n => G1 a = some (.drw r n) ∨ ∃ i : Int, (0 ≤ i ∧ 160 ≤ i + n) ∧ G1 a = some (.lst [.int i, .ref r])
  | .row => G1 a = some .row ∨ ∃ ns : List Int, ns.length ≤ 160 ∧ G1 a = some (.lst (ns.map D.int))
  | m => G1 a = some m
theorem WkO.of {G1 : Gp} {a : Addr} {m : MO} (h : G1 a = some m) : WkO G1 a m := by
  cases m with
  | drw r n => exact .inl h
  | row => exact .inl h
  | _ => exact h
theorem WkO.some {G1 : Gp} {a : Addr} {m : MO} (h : WkO G1 a m) : ∃ m', G1 a = some m' := by
  cases m with
  | drw r n => rcases h with h | ⟨i, _, h⟩ <;> exact ⟨_, h⟩
  | row => rcases h with h | ⟨i, _, h⟩ <;> exact ⟨_, h⟩
  | _ => exact ⟨_, h⟩
theorem repL_ints : ∀ {ns : List Int} {xs : List V}, RepL K F H (ns.map D.int) xs → xs = ns.map V.int
  | [], xs, h => by cases h; rfl
  | n :: ns, xs, ⟨v, r, e, h, q⟩ => by cases h; subst e; rw [repL_ints q]; rfl
theorem WkO.rep {G1 : Gp} {a : Addr} {m : MO} (R : Rel K F H G1) (h : WkO G1 a m) : RepO K F H a m := by
  cases m with
  | drw r n =>
    rcases h with h | ⟨i, h0, h⟩
    · exact R.obj a _ h
    · obtain ⟨xs, h1, v, r', e1, h2, q⟩ := R.obj a _ h
      obtain ⟨v', e2, h3⟩ := rl1 q
      cases h2
      cases h3
      subst e2
      subst e1
      exact ⟨i, h0, h1⟩
  | row =>
    rcases h with h | ⟨ns, h0, h⟩
    · exact R.obj a _ h
    · obtain ⟨xs, h1, h2⟩ := R.obj a _ h
      rw [repL_ints h2] at h1
      exact ⟨ns, h0, h1⟩
  | lst _ => exact R.obj a _ h
  | dic _ => exact R.obj a _ h
  | st _ => exact R.obj a _ h
  | tab _ => exact R.obj a _ h
  | ins _ _ _ => exact R.obj a _ h
def Drop (G' : Gp) (d : D) (G0 : Gp) (d0 : D) : Prop := (∀ a m, G0 a = some m → WkO G' a m) ∧ Fz G' G0 d d0
theorem stayF {H : Hp} {F : Fr} {G' G0 : Gp} : Stay F H (F0 F G' G0) H := ⟨fun _ _ _ h => h, fun _ _ f h => ⟨.inl f, h⟩, fun _ _ _ h => h, fun _ _ f h => ⟨.inl f, h⟩, fun _ _ _ h => h, fun _ _ f h => ⟨.inl f, h⟩⟩
theorem Fz.same {G' G0 : Gp} {d : D} : Fz G' G0 d d := fun K F H v R r => Rep.stay stayF d v r
def FzL (G' G0 : Gp) : List D → List D → Prop
  | [], [] => True
  | d :: ds, e :: es => Fz G' G0 d e ∧ FzL G' G0 ds es
  | _, _ => False
theorem FzL.rep {G' G0 : Gp} : ∀ {ds es : List D}, FzL G' G0 ds es → ∀ (K : KW) F H vs, Rel K F H G' → RepL K F H ds vs → RepL K (F0 F G' G0) H es vs
  | [], [], _, K, F, H, vs, R, r => r
  | d :: ds, e :: es, h, K, F, H, vs, R, ⟨v, r', e1, h1, q⟩ => ⟨v, r', e1, h.1 K F H v R h1, FzL.rep h.2 K F H r' R q⟩
  | [], _ :: _, h, _, _, _, _, _, _ => h.elim
  | _ :: _, [], h, _, _, _, _, _, _ => h.elim
theorem Fz.lst {G' G0 : Gp} {a : Addr} {ds es : List D} (h : G' a = some (.lst ds)) (h0 : G0 a = none) (q : FzL G' G0 ds es) : Fz G' G0 (.ref a) (.lv es) := fun K F H v R r => by
  cases r
  obtain ⟨xs, h1, h2⟩ := R.obj a _ h
  exact ⟨a, xs, rfl, ⟨.inr ⟨⟨_, h, rfl⟩, h0⟩, h1⟩, q.rep K F H xs R h2⟩
def FzK (G' G0 : Gp) : List (Key × D) → List (Key × D) → Prop
  | [], [] => True
  | (k, d) :: ds, (k', e) :: es => k = k' ∧ Fz G' G0 d e ∧ FzK G' G0 ds es
  | _, _ => False
theorem FzK.rep {G' G0 : Gp} : ∀ {ds es : List (Key × D)}, FzK G' G0 ds es → ∀ (K : KW) F H vs, Rel K F H G' → RepK K F H ds vs → RepK K (F0 F G' G0) H es vs
  | [], [], _, K, F, H, vs, R, r => r
  | (k, d) :: ds, (k', e) :: es, h, K, F, H, vs, R, ⟨k2, v, r', e1, h1, q⟩ => ⟨k2, v, r', e1, ⟨h1.1.trans h.1, h.2.1 K F H v R h1.2⟩, FzK.rep h.2.2 K F H r' R q⟩
  | [], _ :: _, h, _, _, _, _, _, _ => h.elim
  | _ :: _, [], h, _, _, _, _, _, _ => h.elim
theorem FzK.same {G' G0 : Gp} : ∀ ds : List (Key × D), FzK G' G0 ds ds
  | [] => trivial
  | (k, d) :: ds => ⟨rfl, fun K F H v R r => Rep.stay ⟨fun _ _ _ h => h, fun _ _ f h => ⟨.inl f, h⟩, fun _ _ _ h => h, fun _ _ f h => ⟨.inl f, h⟩, fun _ _ _ h => h, fun _ _ f h => ⟨.inl f, h⟩⟩ d v r, FzK.same ds⟩
theorem Fz.dic {G' G0 : Gp} {a : Addr} {ds es : List (Key × D)} (h : G' a = some (.dic ds)) (h0 : G0 a = none) (q : FzK G' G0 ds es) : Fz G' G0 (.ref a) (.dv es) := fun K F H v R r => by
  cases r
  obtain ⟨xs, h1, h2⟩ := R.obj a _ h
  exact ⟨a, xs, rfl, ⟨.inr ⟨⟨_, h, rfl⟩, h0⟩, .of h1⟩, q.rep K F H xs R h2⟩
theorem Fz.lv {G' G0 : Gp} {ds es : List D} (q : FzL G' G0 ds es) : Fz G' G0 (.lv ds) (.lv es) := fun K F H v R ⟨a, xs, e, f, r⟩ => ⟨a, xs, e, ⟨.inl f.1, f.2⟩, q.rep K F H xs R r⟩
theorem Fz.tup {G' G0 : Gp} {ds es : List D} (q : FzL G' G0 ds es) : Fz G' G0 (.tup ds) (.tup es) := fun K F H v R ⟨a, xs, e, f, r⟩ => ⟨a, xs, e, f, q.rep K F H xs R r⟩
theorem FzL.same {G' G0 : Gp} : ∀ ds : List D, FzL G' G0 ds ds
  | [] => trivial
  | d :: ds => ⟨.same, FzL.same ds⟩
theorem Drop.same {G : Gp} {d : D} : Drop G d G d := ⟨fun _ _ h => .of h, .same⟩
theorem Drop.sub {G' G0 : Gp} {d : D} (h : ∀ a m, G0 a = some m → G' a = some m) : Drop G' d G0 d := ⟨fun a m e => .of (h a m e), .same⟩
theorem sub_new {G : Gp} {p : Addr} {m : MO} (h : G p = none) : ∀ a m', G a = some m' → updG G p m a = some m' := fun a m' e => by
  rw [updG_ne (fun z => by subst z; rw [h] at e; cases e)]; exact e
theorem sub_trans {G G1 G2 : Gp} (h : ∀ a m, G a = some m → G1 a = some m) (g : ∀ a m, G1 a = some m → G2 a = some m) : ∀ a m, G a = some m → G2 a = some m := fun a m e => g a m (h a m e)
theorem Drop.post {G' G0 : Gp} {d d0 : D} {Q : D → Gp → Prop} {v : V} (h : Drop G' d G0 d0) (k : Keep F H G F' H' G') (R : Rel K F' H' G') (r : Rep K F' H' d v) (q : Q d0 G0) : post K F H G Q v H' := by
  refine ⟨d0, F0 F' G' G0, G0, ⟨fun a u ga ha => ?_⟩, ⟨fun a m e => ?_, fun a f => ?_, fun a f => ?_⟩, h.2 K F' H' v R r, q⟩
  · obtain ⟨a1, a2, a3⟩ := k.k a u ga ha
    have g0 : G0 a = none := by
      cases e : G0 a with
      | none => rfl
      | some m => obtain ⟨m', e'⟩ := (h.1 a m e).some; rw [e'] at a2; cases a2
    exact ⟨a1, g0, ⟨fun z => z.elim a3.mp (fun ⟨⟨_, e, _⟩, _⟩ => by rw [a2] at e; cases e), fun z => Or.inl (a3.mpr z)⟩⟩
  · exact RepO.stay stayF (fun _ _ h => h) rfl ((h.1 a m e).rep R)
  · rcases f with f | ⟨_, f⟩
    · cases e : G0 a with
      | none => rfl
      | some m =>
        obtain ⟨m', e'⟩ := (h.1 a m e).some
        rw [R.fr a f] at e'
        cases e'
    · exact f
  · rcases f with f | ⟨⟨m, f, fm⟩, _⟩
    · exact R.al a f
    · cases m with
      | lst ds =>
        obtain ⟨xs, h1, _⟩ := R.obj a _ f
        rw [h1]; intro z; cases z
      | dic ds =>
        obtain ⟨xs, h1, _⟩ := R.obj a _ f
        rw [h1]; intro z; cases z
      | _ => cases fm
def rtOf (Q : D → Gp → Prop) : D → Gp → Prop := fun d G' => ∃ d0 G0, Drop G' d G0 d0 ∧ Q d0 G0
/-- m parameters, n other names -/
def spOf (m n : Nat) (t : DTS) : DSp := fun ds G Q _ => ds.length = m ∧ t { nx := fun _ G' => rtOf Q .non G', rt := rtOf Q } (ds.map some ++ List.replicate n none) G
theorem fn_ok {P : Program} {w : World} {K : PySem.W.Frag} {mg : Str → Option Value} {base : Heap} {x qual : Str} {st : Stmt} {f : Addr} {fd : FuncData} {N ps : List Str} {k m n : Nat} {t : DTS} (Fn : Fun K x qual st f fd) (Sc : FnScope N ps (defScope st)) (hm : ps.length = m) (hn : N.length = m + n)
    (hb : ∀ (cdv : Value) (A : Around) (outer : List Env) (s : Shared) (H : Hp) (E : XK), Room k (A.deeper (envOfC qual (defScope st) s.heap.objs.size f cdv)) → QSs (cxOf CX0 P w K mg base N qual (defScope st) f cdv A outer s H E).nox (defBody st) t) :
    FnOk P w K mg base CX0 (k + 1) f fd ps (upSp ⟨K, P, w⟩ (spOf m n t)) := by
  refine Fn.ok Sc (fun vs H Q E h => ?_) (fun cdv A outer s H vs Q E hr h => ?_)
  · obtain ⟨F, ds, G, Q', R, r, ⟨q, _⟩, _⟩ := h
    rw [r.len, q, hm]
  · obtain ⟨F, ds, G, Q', R, r, ⟨q1, q⟩, kk⟩ := h
    refine ⟨_, hb cdv A outer s H E hr, F, _, G, _, R, ?_, q, ⟨fun σ' H' ⟨δ', F1, G1, k1, R1, S1, d0, G0, dr, q1⟩ => ?_, fun v H' ⟨d, F1, G1, k1, R1, p1, d0, G0, dr, q1⟩ => ?_, fun σ' H' ⟨_, _, _, _, _, _, q⟩ => q.elim, fun σ' H' ⟨_, _, _, _, _, _, q⟩ => q.elim⟩⟩
    · have hl := r.len
      refine ⟨?_, fun i d e => ?_⟩
      · unfold L2.start
        rw [List.length_append, List.length_append, List.length_map, List.length_map, List.length_replicate, List.length_replicate, hl]
        omega
      · have key : ∀ (ds : List D) (n i : Nat) (d : D), getS (ds.map some ++ List.replicate n none) i = some d → ds[i]? = some d := by
          intro ds
          induction ds with
          | nil =>
            intro n
            induction n with
            | zero => intro i d e; cases e
            | succ n ih =>
              intro i d e
              cases i with
              | zero => cases e
              | succ i => have := ih i d e; simp at this
          | cons x ds ih =>
            intro n i d e
            cases i with
            | zero => cases e; rfl
            | succ i => simpa using ih n i d e
        obtain ⟨v, e1, e2⟩ := r.get (key _ _ _ _ e)
        refine ⟨v, ?_, e2⟩
        unfold L2.start
        rw [List.getElem?_append_left (by rw [List.length_map]; exact (List.getElem?_eq_some_iff.mp e1).1), List.getElem?_map, e1]
        rfl
    · exact kk _ _ (dr.post k1 R1 rfl q1)
    · exact kk _ _ (dr.post k1 R1 p1 q1)
/-! ### a def of the text by its name -/
def Cal (P : Program) (w : World) (K : PySem.W.Frag) (mg : Str → Option Value) (base : Heap) (k : Nat) (x : Str) (ps : List Str) (sp : DSp) : Prop :=
  ∃ f fd, FnOk P w K mg base CX0 k f fd ps (upSp ⟨K, P, w⟩ sp) ∧ mg x = some (.ref f) ∧ PySem.W.keepIn K (.ref f) = true ∧ Binds K fd ps []
theorem q_c {j k : Nat} {ps : List Str} {sp : DSp} {x : Str} {p : Pos} (c : Cal X.prog X.w (kw X) X.mg X.base k x ps sp) (hr : Room j X.A) (hk : k ≤ j) (hg : Gl X x)
    (ha : QA X (e :: es) tr) (hdb : (x == ("__debug__" : Str)) = false := by decide) (he : starEach (e :: es) X.env = (false, eval e X.env) :: starEach es X.env := by rfl) (hpl : (backTo pos (starEach es X.env)).any (·.1) = false := by rfl) :
    QE X (.Call (.Name x p) (e :: es) [] pos) (dCall sp tr) := by
  obtain ⟨f, fd, Fn, hm, hkp, hb⟩ := c
  exact q_call Fn (hr.mono hk) hg hm hkp hb ha hdb he hpl
/-- a weaker promise -/
theorem Cal.imp {P : Program} {w : World} {K : PySem.W.Frag} {mg : Str → Option Value} {base : Heap} {k : Nat} {x : Str} {ps : List Str} {sp sp' : DSp} (c : Cal P w K mg base k x ps sp) (h : ∀ vs H Q E, upSp ⟨K, P, w⟩ sp' vs H Q E → upSp ⟨K, P, w⟩ sp vs H Q E) : Cal P w K mg base k x ps sp' := by
  obtain ⟨f, fd, Fn, r⟩ := c
  exact ⟨f, fd, Fn.imp h, r⟩
theorem Cal.imp' {P : Program} {w : World} {K : PySem.W.Frag} {mg : Str → Option Value} {base : Heap} {k : Nat} {x : Str} {ps : List Str} {sp sp' : DSp} (c : Cal P w K mg base k x ps sp) (h : ∀ ds G Q E, sp' ds G Q E → sp ds G Q E) : Cal P w K mg base k x ps sp' :=
  c.imp fun vs H Q E ⟨F, ds, G, Q', R, r, q, kk⟩ => ⟨F, ds, G, Q', R, r, h _ _ _ _ q, kk⟩
theorem hu190 {A : Around} {k : Nat} (hr : Room k A) : A.units + 190 < cLine := by have := hr.un; omega
theorem nodup_of {N ps : List Str} {sc : Scope} (S : FnScope N ps sc) : N.Nodup := S.nd
end
end DL
set_option Elab.async false
set_option linter.all false
set_option maxRecDepth 100000
set_option maxHeartbeats 4000000
namespace DL
open PySem PySem.Spec PyProof.Rows L2
theorem szL : sizeLine = 16777216 := by decide
/-! ### loops, by what holds between the turns -/
theorem dLoop_congr {S : Gp → Prop} {g : DTG} {tb : DTS} {E : DEnds} {ds ds' : List D} {δ δ' : DS} {G : Gp} (h : ds = ds') (h2 : δ = δ') : dLoop S g tb E ds δ G = dLoop S g tb E ds' δ' G := by rw [h, h2]
theorem dComp_congr {S : Gp → Prop} {g : DTG} {tt : DTT} {te : DTE} {δ δ' : DS} {Q : List D → Gp → Prop} {ds ds' acc acc' : List D} {G : Gp} (h : ds = ds') (h2 : acc = acc') (h3 : δ = δ') : dComp S g tt te δ Q ds acc G = dComp S g tt te δ' Q ds' acc' G := by rw [h, h2, h3]
theorem loop_ind {S : Gp → Prop} {g : DTG} {tb : DTS} {E : DEnds} (W : List D → DS → Gp → Prop)
    (hs : ∀ d r δ G (K : DS → Gp → Prop), W (d :: r) δ G → (∀ δ G, W r δ G → K δ G) → S G ∧ g d δ G fun δ1 G1 => tb { nx := K, ct := K, bk := E.nx, rt := E.rt } δ1 G1)
    (he : ∀ δ G, W [] δ G → S G ∧ E.nx δ G) : ∀ (ds : List D) (δ : DS) (G : Gp), W ds δ G → dLoop S g tb E ds δ G := by
  intro ds
  induction ds with
  | nil => intro δ G h; exact he δ G h
  | cons d r ih => intro δ G h; exact hs d r δ G _ h ih
theorem comp_ind {S : Gp → Prop} {g : DTG} {tt : DTT} {te : DTE} {δ : DS} {Q : List D → Gp → Prop} (W : List D → List D → Gp → Prop)
    (hs : ∀ d r acc G (K : List D → Gp → Prop), W (d :: r) acc G → (∀ acc G, W r acc G → K acc G) → S G ∧ g d δ G fun δ1 G1 => tt δ1 G1 fun b G2 => dCond b (te δ1 G2 fun y G3 => acc.length < sizeLine ∧ K (acc ++ [y]) G3) (K acc G2))
    (he : ∀ acc G, W [] acc G → S G ∧ Q acc G) : ∀ (ds acc : List D) (G : Gp), W ds acc G → dComp S g tt te δ Q ds acc G := by
  intro ds
  induction ds with
  | nil => intro acc G h; exact he acc G h
  | cons d r ih => intro acc G h; exact hs d r acc G _ h ih
/-- a comprehension whose turns change nothing -/
theorem comp_pure {S : Gp → Prop} {g : DTG} {tt : DTT} {te : DTE} {δ : DS} {Q : List D → Gp → Prop} {G : Gp} (p : D → Bool) (f : D → D) (hS : S G) : ∀ (ds acc : List D), acc.length + ds.length ≤ sizeLine →
    (∀ d ∈ ds, ∀ (K1 : D → Gp → Prop) (K0 : Gp → Prop), (p d = true → K1 (f d) G) → (p d = false → K0 G) → g d δ G fun δ1 G1 => tt δ1 G1 fun b G2 => dCond b (te δ1 G2 K1) (K0 G2)) →
    Q (acc ++ (ds.filter p).map f) G → dComp S g tt te δ Q ds acc G
  | [], acc, _, _, q => ⟨hS, by simpa using q⟩
  | d :: r, acc, hl, h, q => by
    rw [List.length_cons] at hl
    refine ⟨hS, h d List.mem_cons_self _ _ (fun hp => ⟨by omega, ?_⟩) (fun hp => ?_)⟩
    · refine comp_pure p f hS r (acc ++ [f d]) (by rw [List.length_append, List.length_singleton]; omega) (fun d' hd => h d' (List.mem_cons_of_mem _ hd)) ?_
      rw [List.filter_cons_of_pos hp, List.map_cons] at q
      rw [List.append_assoc]
      exact q
    · refine comp_pure p f hS r acc (by omega) (fun d' hd => h d' (List.mem_cons_of_mem _ hd)) ?_
      rw [List.filter_cons_of_neg (by rw [hp]; exact Bool.false_ne_true)] at q
      exact q
theorem comp_all {S : Gp → Prop} {g : DTG} {te : DTE} {δ : DS} {Q : List D → Gp → Prop} {G : Gp} (f : D → D) (hS : S G) (ds : List D) (hl : ds.length ≤ sizeLine)
    (h : ∀ d ∈ ds, ∀ (K1 : D → Gp → Prop), K1 (f d) G → g d δ G fun δ1 G1 => te δ1 G1 K1) (q : Q (ds.map f) G) : dComp S g dYes te δ Q ds [] G := by
  refine comp_pure (fun _ => true) f hS ds [] (by simpa using hl) (fun d hd K1 K0 h1 _ => ?_) ?_
  · have := h d hd K1 (h1 rfl)
    exact this
  · rw [List.filter_eq_self.mpr (fun _ _ => rfl)]
    exact q
/-! ### the law's draws -/
def isDr (G : Gp) (d : Addr) : Prop := ∃ r n, G d = some (.drw r n) ∧ G r = some .row
theorem isDr.mono {G G' : Gp} {d : Addr} (h : ∀ a m, G a = some m → G' a = some m) (q : isDr G d) : isDr G' d := by
  obtain ⟨r, n, h1, h2⟩ := q
  exact ⟨r, n, h _ _ h1, h _ _ h2⟩
/-- .. with how many numbers are left at most -/
def isDn (G : Gp) (d r : Addr) (n : Nat) : Prop := G d = some (.drw r n) ∧ G r = some .row
theorem isDn.dr {G : Gp} {d r : Addr} {n : Nat} (h : isDn G d r n) : isDr G d := ⟨r, n, h.1, h.2⟩
theorem isDn.ne {G : Gp} {d r : Addr} {n : Nat} (h : isDn G d r n) : r ≠ d := fun z => by have := h.1; rw [← z, h.2] at this; cases this
def sp__law_next : DSp := fun ds G Q _ => ∃ d many, ds = [.ref d, .int many] ∧ isDr G d ∧ 0 < many ∧ ∀ k, 0 ≤ k → k < many → Q (.int k) G
def sp__law_cell : DSp := fun ds G Q _ => ∃ (ns : List Int) (k : Nat), ds = [.rl (ns.map D.int), .int k] ∧ ∀ i, Q (.int i) G
/-- .. by how many are left -/
def sp__law_nextS : DSp := fun ds G Q _ => ∃ d r n many, ds = [.ref d, .int many] ∧ isDn G d r n ∧ 0 < many ∧ ∀ k, 0 ≤ k → k < many → (n = 0 → k = 0) → Q (.int k) (updG G d (.drw r (n - 1)))
def sp__law_draws : DSp := fun ds G Q _ => ∃ i, ds = [.int i] ∧ ∀ d r G', (∀ a m, G a = some m → G' a = some m) → isDn G' d r 160 → G d = none → Q (.ref d) G'
end DL
set_option Elab.async false
set_option linter.all false
set_option maxRecDepth 100000
set_option autoImplicit true
namespace DL
open PySem PySem.Spec PyProof.Rows L2
theorem dVar_e {i : Nat} {δ : DS} {G : Gp} {Q : D → Gp → Prop} : (dVar i δ G Q) = (optQ (getS δ i) fun d => Q d G) := (rfl)
theorem dC_e {d : D} {z0 : DS} {G : Gp} {Q : D → Gp → Prop} : (dC d z0 G Q) = (Q d G) := (rfl)
theorem dOp_e {r : R2d} {ta tb : DTE} {δ : DS} {G : Gp} {Q : D → Gp → Prop} : (dOp r ta tb δ G Q) = (ta δ G fun x G1 => tb δ G1 fun y G2 => r x y G2 Q) := (rfl)
theorem dUn_e {r : R1} {ta : DTE} {δ : DS} {G : Gp} {Q : D → Gp → Prop} : (dUn r ta δ G Q) = (ta δ G fun x G1 => r x G1 Q) := (rfl)
theorem dTest_e {t : DTE} {δ : DS} {G : Gp} {Q : Bool → Gp → Prop} : (dTest t δ G Q) = (t δ G fun x G1 => optQ (blOf x) fun k => Q k G1) := (rfl)
theorem dChain_e {r r' : R2d} {ta tb tc : DTE} {δ : DS} {G : Gp} {Q : D → Gp → Prop} : (dChain r r' ta tb tc δ G Q) = (ta δ G fun x G1 => tb δ G1 fun y G2 => r x y G2 fun z G3 => optQ (blOf z) fun c => dCond c (tc δ G3 fun w G4 => r' y w G4 Q) (Q (.bl false) G3)) := (rfl)
theorem dPure2_e {f : D → D → Option D} {x : D} {y : D} {G : Gp} {Q : D → Gp → Prop} : (dPure2 f x y G Q) = (optQ (f x y) fun z => Q z G) := (rfl)
theorem dPure1_e {f : D → Option D} {x : D} {G : Gp} {Q : D → Gp → Prop} : (dPure1 f x G Q) = (optQ (f x) fun z => Q z G) := (rfl)
theorem dEqR_e  {x : D} {y : D} {G : Gp} {Q : D → Gp → Prop} : (dEqR x y G Q) = (okEq x y = true ∧ Q (.bl (dEq x y)) G) := (rfl)
theorem dNeR_e  {x : D} {y : D} {G : Gp} {Q : D → Gp → Prop} : (dNeR x y G Q) = (okEq x y = true ∧ Q (.bl (!dEq x y)) G) := (rfl)
theorem dInR_e {n : Bool} {x : D} {y : D} {G : Gp} {Q : D → Gp → Prop} : (dInR n x y G Q) = (optQ (itemsOf y G) fun ds => dPl x = true ∧ dPlL ds = true ∧ min (dDepL ds) (dDep x) ≤ 180 ∧ Q (.bl (if n then !ds.any (fun z => dEq z x) else ds.any (fun z => dEq z x))) G) := (rfl)
theorem dIsN_e {n : Bool} {x : D} {G : Gp} {Q : D → Gp → Prop} : (dIsN n x G Q) = (Q (.bl (xor n (isNon x))) G) := (rfl)
theorem dTruth_e {t : DTE} {δ : DS} {G : Gp} {Q : Bool → Gp → Prop} : (dTruth t δ G Q) = (t δ G fun x G1 => optQ (truthD x G1) fun k => Q k G1) := (rfl)
theorem dAndT_e {t u : DTT} {δ : DS} {G : Gp} {Q : Bool → Gp → Prop} : (dAndT t u δ G Q) = (t δ G fun c G1 => dCond c (u δ G1 Q) (Q false G1)) := (rfl)
theorem dOrT_e {t u : DTT} {δ : DS} {G : Gp} {Q : Bool → Gp → Prop} : (dOrT t u δ G Q) = (t δ G fun c G1 => dCond c (Q true G1) (u δ G1 Q)) := (rfl)
theorem dNotT_e {t : DTT} {δ : DS} {G : Gp} {Q : Bool → Gp → Prop} : (dNotT t δ G Q) = (t δ G fun c G1 => Q (!c) G1) := (rfl)
theorem dAnd_e {ta tb : DTE} {δ : DS} {G : Gp} {Q : D → Gp → Prop} : (dAnd ta tb δ G Q) = (ta δ G fun x G1 => optQ (truthD x G1) fun c => dCond c (tb δ G1 Q) (Q x G1)) := (rfl)
theorem dOr_e {ta tb : DTE} {δ : DS} {G : Gp} {Q : D → Gp → Prop} : (dOr ta tb δ G Q) = (ta δ G fun x G1 => optQ (truthD x G1) fun c => dCond c (Q x G1) (tb δ G1 Q)) := (rfl)
theorem dNot_e {ta : DTE} {δ : DS} {G : Gp} {Q : D → Gp → Prop} : (dNot ta δ G Q) = (ta δ G fun x G1 => optQ (truthD x G1) fun c => Q (.bl (!c)) G1) := (rfl)
theorem dIf_e {c : DTT} {ta tb : DTE} {δ : DS} {G : Gp} {Q : D → Gp → Prop} : (dIf c ta tb δ G Q) = (c δ G fun b G1 => dCond b (ta δ G1 Q) (tb δ G1 Q)) := (rfl)
theorem dNil_e  {z0 : DS} {G : Gp} {Q : List D → Gp → Prop} : (dNil z0 G Q) = (Q [] G) := (rfl)
theorem dCons_e {ta : DTE} {tr : DTA} {δ : DS} {G : Gp} {Q : List D → Gp → Prop} : (dCons ta tr δ G Q) = (ta δ G fun x G1 => tr δ G1 fun xs G2 => Q (x :: xs) G2) := (rfl)
theorem dTup_e {tr : DTA} {δ : DS} {G : Gp} {Q : D → Gp → Prop} : (dTup tr δ G Q) = (tr δ G fun ds G1 => ds.length ≤ sizeLine ∧ Q (.tup ds) G1) := (rfl)
theorem dLv_e {tr : DTA} {δ : DS} {G : Gp} {Q : D → Gp → Prop} : (dLv tr δ G Q) = (tr δ G fun ds G1 => ds.length ≤ sizeLine ∧ Q (.lv ds) G1) := (rfl)
theorem dRef_e {tr : DTA} {δ : DS} {G : Gp} {Q : D → Gp → Prop} : (dRef tr δ G Q) = (tr δ G fun ds G1 => ds.length ≤ sizeLine ∧ ∀ p, G1 p = none → Q (.ref p) (updG G1 p (.lst ds))) := (rfl)
theorem dIx_e  {x : D} {y : D} {G : Gp} {Q : D → Gp → Prop} : (dIx x y G Q) = (optQ (ixD x y G) fun d => Q d G) := (rfl)
theorem dNoPart_e  {z0 : DS} {G : Gp} {Q : Option Int → Gp → Prop} : (dNoPart z0 G Q) = (Q none G) := (rfl)
theorem dPart_e {t : DTE} {δ : DS} {G : Gp} {Q : Option Int → Gp → Prop} : (dPart t δ G Q) = (t δ G fun x G1 => optQ (intOf x) fun i => Q (some i) G1) := (rfl)
theorem dSl_e {te : DTE} {tl th : DTO} {δ : DS} {G : Gp} {Q : D → Gp → Prop} : (dSl te tl th δ G Q) = (te δ G fun x G1 => tl δ G1 fun l G2 => th δ G2 fun u G3 => optQ (slD x l u G3) fun d => Q d G3) := (rfl)
theorem dF_e {f : List D → Gp → Option D} {ds : List D} {G : Gp} {Q : D → Gp → Prop} : (dF f ds G Q) = (optQ (f ds G) fun d => Q d G) := (rfl)
theorem dB_e {r : RA} {tr : DTA} {δ : DS} {G : Gp} {Q : D → Gp → Prop} : (dB r tr δ G Q) = (tr δ G fun ds G1 => r ds G1 Q) := (rfl)
theorem dTupleC_e  {ds : List D} {G : Gp} {Q : D → Gp → Prop} : (dTupleC ds G Q) = (optQ (itemsA ds G) fun xs => Q (.tup xs) G) := (rfl)
theorem dListC_e  {ds : List D} {G : Gp} {Q : D → Gp → Prop} : (dListC ds G Q) = (optQ (itemsA ds G) fun xs => Q (.lv xs) G) := (rfl)
theorem dListM_e  {ds : List D} {G : Gp} {Q : D → Gp → Prop} : (dListM ds G Q) = (optQ (itemsA ds G) fun xs => ∀ p, G p = none → Q (.ref p) (updG G p (.lst xs))) := (rfl)
theorem dAll_e {f : List Bool → Bool} {ds : List D} {G : Gp} {Q : D → Gp → Prop} : (dAll f ds G Q) = (optQ ((lv1 ds).bind blsOf) fun bs => Q (.bl (f bs)) G) := (rfl)
theorem dSum_e  {ds : List D} {G : Gp} {Q : D → Gp → Prop} : (dSum ds G Q) = (optQ ((lv1 ds).bind intsOf) fun bs => Q (.int bs.sum) G) := (rfl)
theorem dIsi_e {T : String} {ta : DTE} {δ : DS} {G : Gp} {Q : D → Gp → Prop} : (dIsi T ta δ G Q) = (ta δ G fun x G1 => optQ (tyD x G1) fun n => Q (.bl (isiB T n)) G1) := (rfl)
theorem dName_e {i : Nat} {d : D} {δ : DS} {G : Gp} {Q : DS → Gp → Prop} : (dName i d δ G Q) = (Q (setS δ i (some d)) G) := (rfl)
theorem dGnil_e  {ds : List D} {δ : DS} {G : Gp} {Q : DS → Gp → Prop} : (dGnil ds δ G Q) = (optQ (isNil ds) fun _ => Q δ G) := (rfl)
theorem dGcons_e {g : DTG} {gs : DTGs} {ds : List D} {δ : DS} {G : Gp} {Q : DS → Gp → Prop} : (dGcons g gs ds δ G Q) = (optQ (uncons ds) fun p => g p.1 δ G fun δ1 G1 => gs p.2 δ1 G1 Q) := (rfl)
theorem dTupG_e {n : Nat} {gs : DTGs} {d : D} {δ : DS} {G : Gp} {Q : DS → Gp → Prop} : (dTupG n gs d δ G Q) = (optQ (tupOf d) fun ds => ds.length = n ∧ gs ds δ G Q) := (rfl)
theorem dSubL_e {to ti : DTE} {v : D} {δ : DS} {G : Gp} {Q : DS → Gp → Prop} : (dSubL to ti v δ G Q) = (to δ G fun o G1 => ti δ G1 fun i G2 => optQ (setD o i v G2) fun G3 => Q δ G3) := (rfl)
theorem dNext_e  {E : DEnds} {δ : DS} {G : Gp} : (dNext E δ G) = (E.nx δ G) := (rfl)
theorem dSeq_e {t u : DTS} {E : DEnds} {δ : DS} {G : Gp} : (dSeq t u E δ G) = (t { E with nx := u E } δ G) := (rfl)
theorem dBreak_e  {E : DEnds} {δ : DS} {G : Gp} : (dBreak E δ G) = (E.bk δ G) := (rfl)
theorem dCont_e  {E : DEnds} {δ : DS} {G : Gp} : (dCont E δ G) = (E.ct δ G) := (rfl)
theorem dDrop_e {te : DTE} {E : DEnds} {δ : DS} {G : Gp} : (dDrop te E δ G) = (te δ G fun _ G1 => E.nx δ G1) := (rfl)
theorem dRet_e {te : DTE} {E : DEnds} {δ : DS} {G : Gp} : (dRet te E δ G) = (te δ G E.rt) := (rfl)
theorem dRetN_e  {E : DEnds} {z1 : DS} {G : Gp} : (dRetN E z1 G) = (E.rt .non G) := (rfl)
theorem dIfS_e {c : DTT} {t u : DTS} {E : DEnds} {δ : DS} {G : Gp} : (dIfS c t u E δ G) = (c δ G fun b G1 => dCond b (t E δ G1) (u E δ G1)) := (rfl)
theorem dAsg_e {te : DTE} {g : DTG} {E : DEnds} {δ : DS} {G : Gp} : (dAsg te g E δ G) = (te δ G fun x G1 => g x δ G1 E.nx) := (rfl)
theorem dAug_e {i : Nat} {te : DTE} {r : R2d} {E : DEnds} {δ : DS} {G : Gp} : (dAug i te r E δ G) = (optQ (getS δ i) fun x => te δ G fun y G1 => r x y G1 fun z G2 => E.nx (setS δ i (some z)) G2) := (rfl)
theorem dApp_e {to te : DTE} {δ : DS} {G : Gp} {Q : D → Gp → Prop} : (dApp to te δ G Q) = (to δ G fun o G1 => optQ (refOf o) fun p => optQ (lstOf (G1 p)) fun _ => te δ G1 fun y G2 => optQ (lstOf (G2 p)) fun ds => ds.length < sizeLine ∧ Q .non (updG G2 p (.lst (ds ++ [y])))) := (rfl)
theorem dIt_e {te : DTE} {δ : DS} {G : Gp} {Q : List D → (Gp → Prop) → Gp → Prop} : (dIt te δ G Q) = (te δ G fun x G1 => optQ (itD x G1) fun r => Q r.1 (stabS r) G1) := (rfl)
theorem dRng1_e {tr : DTA} {δ : DS} {G : Gp} {Q : List D → (Gp → Prop) → Gp → Prop} : (dRng1 tr δ G Q) = (tr δ G fun ds G1 => optQ (int1 ds) fun j => -(2 ^ 62) ≤ j ∧ j < 2 ^ 62 ∧ Q (rangeD 0 j.toNat) (fun _ => True) G1) := (rfl)
theorem dRng2_e {tr : DTA} {δ : DS} {G : Gp} {Q : List D → (Gp → Prop) → Gp → Prop} : (dRng2 tr δ G Q) = (tr δ G fun ds G1 => optQ (int2 ds) fun p => (-(2 ^ 62) ≤ p.1 ∧ p.1 < 2 ^ 62 ∧ -(2 ^ 62) ≤ p.2 ∧ p.2 < 2 ^ 62) ∧ Q (rangeD p.1 (p.2 - p.1).toNat) (fun _ => True) G1) := (rfl)
theorem dFor_e {t : DTI} {g : DTG} {tb : DTS} {E : DEnds} {δ : DS} {G : Gp} : (dFor t g tb E δ G) = (t δ G fun ds S G1 => dLoop S g tb E ds δ G1) := (rfl)
theorem dYes_e  {z0 : DS} {G : Gp} {Q : Bool → Gp → Prop} : (dYes z0 G Q) = (Q true G) := (rfl)
theorem dLc_e {wi : DTI} {g : DTG} {tt : DTT} {te : DTE} {vs : List Nat} {δ : DS} {G : Gp} {Q : D → Gp → Prop} : (dLc wi g tt te vs δ G Q) = (wi δ G fun ds S G1 => dComp S g tt te (wipeS δ vs) (fun acc G2 => Q (.lv acc) G2) ds [] G1) := (rfl)
theorem dJoin_e {to te : DTE} {δ : DS} {G : Gp} {Q : D → Gp → Prop} : (dJoin to te δ G Q) = (to δ G fun o G1 => optQ (strOf o) fun a => te δ G1 fun y G2 => optQ ((itemsOf y G2).bind strsOf) fun ys =>
  (ys.map (·.length)).sum + ys.length * a.length ≤ 16777216 ∧ Q (.str (Str.join a ys)) G2) := (rfl)
theorem dCall_e {sp : DSp} {tr : DTA} {δ : DS} {G : Gp} {Q : D → Gp → Prop} : (dCall sp tr δ G Q) = (tr δ G fun ds G1 => spQ sp ds G1 Q) := (rfl)
theorem setS_1 : (setS ([]) (w1) (w2)) = ([]) := (rfl)
theorem setS_2 : (setS (w1 :: r) (0) (d)) = (d :: r) := (rfl)
theorem setS_3 : (setS (x :: r) (i + 1) (d)) = (x :: setS r i d) := (rfl)
theorem getS_1 : (getS (x :: w1) (0)) = (x) := (rfl)
theorem getS_2 : (getS (w1 :: r) (i + 1)) = (getS r i) := (rfl)
theorem dAdd_1 : (dAdd (.int i) (.int j)) = (some (.int (i + j))) := (rfl)
theorem dAdd_2 : (dAdd (.str x) (.str y)) = (if x.length + y.length ≤ sizeLine then some (.str (x ++ y)) else none) := (rfl)
theorem dAdd_3 : (dAdd (.tup xs) (.tup ys)) = (if xs.length + ys.length ≤ sizeLine then some (.tup (xs ++ ys)) else none) := (rfl)
theorem dAdd_4 : (dAdd (.lv xs) (.lv ys)) = (if xs.length + ys.length ≤ sizeLine then some (.lv (xs ++ ys)) else none) := (rfl)
theorem dNeg_1 : (dNeg (.int i)) = (some (.int (-i))) := (rfl)
theorem itemsOf_1 : (itemsOf (.tup ds) (w1)) = (some ds) := (rfl)
theorem itemsOf_2 : (itemsOf (.lv ds) (w1)) = (some ds) := (rfl)
theorem itemsOf_3 : (itemsOf (.rl ds) (w1)) = (some ds) := (rfl)
theorem itemsOf_4 : (itemsOf (.ref a) (G)) = (match G a with | some (.lst ds) => some ds | _ => none) := (rfl)
theorem itemsA_1 : (itemsA ([d]) (G)) = (itemsOf d G) := (rfl)
theorem lenD_1 : (lenD ([.str z]) (w1)) = (if z.length ≤ sizeLine then some (.int (z.length : Nat)) else none) := (rfl)
theorem lenD_2 : (lenD ([.tup ds]) (w1)) = (some (.int (ds.length : Nat))) := (rfl)
theorem lenD_3 : (lenD ([.lv ds]) (w1)) = (some (.int (ds.length : Nat))) := (rfl)
theorem lenD_4 : (lenD ([.rl ds]) (w1)) = (some (.int (ds.length : Nat))) := (rfl)
theorem lenD_5 : (lenD ([.ref a]) (G)) = ((lstOf (G a)).map fun ds => .int (ds.length : Nat)) := (rfl)
theorem absD_1 : (absD ([.int i]) (w1)) = (some (.int (if i < 0 then -i else i))) := (rfl)
theorem intCD_1 : (intCD ([.int i]) (w1)) = (some (.int i)) := (rfl)
theorem intCD_2 : (intCD ([.bl b]) (w1)) = (some (.int (if b then 1 else 0))) := (rfl)
theorem max2D_1 : (max2D ([.int i, .int j]) (w1)) = (some (.int (if j > i then j else i))) := (rfl)
theorem min2D_1 : (min2D ([.int i, .int j]) (w1)) = (some (.int (if j < i then j else i))) := (rfl)
theorem ord1D_1 : (ord1D ([.str x]) (w1)) = (if x.length = 1 then some (.int (x.cps.getD 0 0 : Nat)) else none) := (rfl)
theorem ixD_1 : (ixD (.str z) (.int i) (w1)) = (if z.length ≤ sizeLine then (atI z.cps.toList i).map fun c => .str ⟨#[c]⟩ else none) := (rfl)
theorem ixD_2 : (ixD (.tup ds) (.int i) (w1)) = (atI ds i) := (rfl)
theorem ixD_3 : (ixD (.lv ds) (.int i) (w1)) = (atI ds i) := (rfl)
theorem ixD_4 : (ixD (.rl ds) (.int i) (w1)) = (atI ds i) := (rfl)
theorem ixD_5 : (ixD (.ref a) (.int i) (G)) = ((lstOf (G a)).bind fun ds => atI ds i) := (rfl)
theorem slD_1 : (slD (.tup ds) i1 i2 G) = (some (.tup (cutD ds i1 i2))) := (rfl)
theorem slD_2 : (slD (.lv ds) i1 i2 G) = (some (.lv (cutD ds i1 i2))) := (rfl)
theorem slD_3 : (slD (.rl ds) i1 i2 G) = (some (.lv (cutD ds i1 i2))) := (rfl)
theorem slD_4 : (slD (.str z) i1 i2 G) = (if z.length ≤ sizeLine then some (.str ⟨(cutD z.cps.toList i1 i2).toArray⟩) else none) := (rfl)
theorem slD_5 : (slD (.ref a) i1 i2 G) = ((lstOf (G a)).map fun ds => .lv (cutD ds i1 i2)) := (rfl)
theorem truthD_1 : (truthD (.non) (w1)) = (some false) := (rfl)
theorem truthD_2 : (truthD (.bl b) (w1)) = (some b) := (rfl)
theorem truthD_3 : (truthD (.int i) (w1)) = (some (i != 0)) := (rfl)
theorem truthD_4 : (truthD (.str x) (w1)) = (if x.length ≤ sizeLine then some ((x.length : Int) != 0) else none) := (rfl)
theorem truthD_5 : (truthD (.ref a) (G)) = (match G a with
    | some (.lst ds) => some (!ds.isEmpty)
    | some (.dic kvs) => some (!kvs.isEmpty)
    | _ => none) := (rfl)
theorem truthD_6 : (truthD (.tup ds) (w1)) = (some (!ds.isEmpty)) := (rfl)
theorem truthD_7 : (truthD (.lv ds) (w1)) = (some (!ds.isEmpty)) := (rfl)
theorem truthD_8 : (truthD (.rl ds) (w1)) = (some (!ds.isEmpty)) := (rfl)
theorem tyD_1 : (tyD (.non) (w1)) = (some "NoneType") := (rfl)
theorem tyD_2 : (tyD (.bl w1) (w2)) = (some "bool") := (rfl)
theorem tyD_3 : (tyD (.int w1) (w2)) = (some "int") := (rfl)
theorem tyD_4 : (tyD (.str w1) (w2)) = (some "str") := (rfl)
theorem tyD_5 : (tyD (.tup w1) (w2)) = (some "tuple") := (rfl)
theorem tyD_6 : (tyD (.lv w1) (w2)) = (some "list") := (rfl)
theorem tyD_7 : (tyD (.rl w1) (w2)) = (some "list") := (rfl)
theorem tyD_8 : (tyD (.dv w1) (w2)) = (some "dict") := (rfl)
theorem tyD_9 : (tyD (.ref a) (G)) = (match G a with
    | some (.lst _) => some "list"
    | some (.dic _) => some "dict"
    | _ => none) := (rfl)
theorem blOf_1 : (blOf (.bl b)) = (some b) := (rfl)
theorem intOf_1 : (intOf (.int b)) = (some b) := (rfl)
theorem refOf_1 : (refOf (.ref b)) = (some b) := (rfl)
theorem tupOf_1 : (tupOf (.tup b)) = (some b) := (rfl)
theorem strOf_1 : (strOf (.str b)) = (some b) := (rfl)
theorem lstOf_1 : (lstOf (some (.lst ds))) = (some ds) := (rfl)
theorem uncons_1 : (uncons (d :: r)) = (some (d, r)) := (rfl)
theorem isNil_1 : (isNil ([])) = (some ()) := (rfl)
theorem dPl_1 : (dPl (.ref w1)) = (false) := (rfl)
theorem dPl_2 : (dPl (.dv w1)) = (false) := (rfl)
theorem dPl_3 : (dPl (.tup ds)) = (dPlL ds) := (rfl)
theorem dPl_4 : (dPl (.lv ds)) = (dPlL ds) := (rfl)
theorem dPl_5 : (dPl (.rl ds)) = (dPlL ds) := (rfl)
theorem dPlL_1 : (dPlL ([])) = (true) := (rfl)
theorem dPlL_2 : (dPlL (d :: ds)) = (dPl d && dPlL ds) := (rfl)
theorem dDep_1 : (dDep (.tup ds)) = (dDepL ds + 1) := (rfl)
theorem dDep_2 : (dDep (.lv ds)) = (dDepL ds + 1) := (rfl)
theorem dDep_3 : (dDep (.rl ds)) = (dDepL ds + 1) := (rfl)
theorem dDepL_1 : (dDepL ([])) = (0) := (rfl)
theorem dDepL_2 : (dDepL (d :: ds)) = (max (dDep d) (dDepL ds)) := (rfl)
theorem dEq_1 : (dEq (.non) (.non)) = (true) := (rfl)
theorem dEq_2 : (dEq (.bl a) (.bl b)) = (a == b) := (rfl)
theorem dEq_3 : (dEq (.bl a) (.int j)) = ((if a then 1 else 0) == j) := (rfl)
theorem dEq_4 : (dEq (.int i) (.bl b)) = (i == (if b then 1 else 0)) := (rfl)
theorem dEq_5 : (dEq (.int i) (.int j)) = (i == j) := (rfl)
theorem dEq_6 : (dEq (.str x) (.str y)) = (x == y) := (rfl)
theorem dEq_7 : (dEq (.tup xs) (.tup ys)) = (dEqL xs ys) := (rfl)
theorem dEq_8 : (dEq (.lv xs) (.lv ys)) = (dEqL xs ys) := (rfl)
theorem dEq_9 : (dEq (.lv xs) (.rl ys)) = (dEqL xs ys) := (rfl)
theorem dEq_10 : (dEq (.rl xs) (.lv ys)) = (dEqL xs ys) := (rfl)
theorem dEq_11 : (dEq (.rl xs) (.rl ys)) = (dEqL xs ys) := (rfl)
theorem dEqL_1 : (dEqL ([]) ([])) = (true) := (rfl)
theorem dEqL_2 : (dEqL (x :: xs) (y :: ys)) = (dEq x y && dEqL xs ys) := (rfl)
theorem dIAdd_1 : (dIAdd (.int i) (.int j)) = (some (.int (i + j))) := (rfl)
theorem dIAdd_2 : (dIAdd (.str x) (.str y)) = (if x.length + y.length ≤ sizeLine then some (.str (x ++ y)) else none) := (rfl)
theorem setD_1 : (setD (.ref p) (.int k) v G) = ((lstOf (G p)).bind fun ds => (ixN ds.length k).map fun j => updG G p (.lst (ds.set j v))) := (rfl)
theorem itD_1 : (itD (.tup ds) (w1)) = (some (ds, none)) := (rfl)
theorem itD_2 : (itD (.lv ds) (w1)) = (some (ds, none)) := (rfl)
theorem itD_3 : (itD (.rl ds) (w1)) = (some (ds, none)) := (rfl)
theorem itD_4 : (itD (.ref a) (G)) = ((lstOf (G a)).map fun ds => (ds, some a)) := (rfl)
theorem itD_5 : (itD (.str z) (w1)) = (some (charsD z, none)) := (rfl)
theorem stabS_1 : (stabS ((w1, none)) (w2)) = (True) := (rfl)
theorem stabS_2 : (stabS ((ds, some a)) (G)) = (G a = some (.lst ds)) := (rfl)
theorem int1_1 : (int1 ([.int i])) = (some i) := (rfl)
theorem int2_1 : (int2 ([.int i, .int j])) = (some (i, j)) := (rfl)
theorem blsOf_1 : (blsOf ([])) = (some []) := (rfl)
theorem blsOf_2 : (blsOf (.bl b :: r)) = ((blsOf r).map (b :: ·)) := (rfl)
theorem intsOf_1 : (intsOf ([])) = (some []) := (rfl)
theorem intsOf_2 : (intsOf (.int b :: r)) = ((intsOf r).map (b :: ·)) := (rfl)
theorem strsOf_1 : (strsOf ([])) = (some []) := (rfl)
theorem strsOf_2 : (strsOf (.str b :: r)) = ((strsOf r).map (b :: ·)) := (rfl)
theorem lv1_1 : (lv1 ([.lv xs])) = (some xs) := (rfl)
theorem isNon_1 : (isNon (.non)) = (true) := (rfl)
theorem dI2_1 {C : Int → Int → Bool} {f : Int → Int → D} {i j : Int} : dI2 C f (.int i) (.int j) = if C i j = true then some (f i j) else none := (rfl)
theorem dOrd_1 {f : Int → Int → Bool} {g : List Nat → List Nat → Bool} {i j : Int} : dOrd f g (.int i) (.int j) = some (.bl (f i j)) := (rfl)
theorem dOrd_2 {f : Int → Int → Bool} {g : List Nat → List Nat → Bool} {x y : Str} : dOrd f g (.str x) (.str y) = some (.bl (g x.cps.toList y.cps.toList)) := (rfl)
theorem spOf_e {m n : Nat} {t : DTS} {ds : List D} {G : Gp} {Q : D → Gp → Prop} {E : DXK} : spOf m n t ds G Q E = (ds.length = m ∧ t { nx := fun _ G' => rtOf Q .non G', rt := rtOf Q } (ds.map some ++ List.replicate n none) G) := (rfl)
theorem optQ_e {α : Type} {x : α} {k : α → Prop} : optQ (some x) k = k x := (rfl)
theorem dCond_te {A B : Prop} : dCond true A B = A := (rfl)
theorem dCond_fe {A B : Prop} : dCond false A B = B := (rfl)
theorem bindS_e {α β : Type} {x : α} {f : α → Option β} : (some x).bind f = f x := (rfl)
theorem mapS_e {α β : Type} {x : α} {f : α → β} : (some x).map f = some (f x) := (rfl)
theorem dOkEq_e {x y : D} : okEq x y = (dPl x && dPl y && decide (min (dDep x) (dDep y) ≤ 190)) := (rfl)
theorem wipeS_1 {δ : DS} : wipeS δ [] = δ := (rfl)
theorem wipeS_2 {δ : DS} {v : Nat} {vs : List Nat} : wipeS δ (v :: vs) = setS (wipeS δ vs) v none := (rfl)
theorem isNon_2 {i : Int} : isNon (.int i) = false := (rfl)
theorem isNon_3 {i : Str} : isNon (.str i) = false := (rfl)
theorem isNon_4 {i : List D} : isNon (.tup i) = false := (rfl)
theorem dPl_non  : dPl .non = true := (rfl)
theorem dDep_non  : dDep .non = 0 := (rfl)
theorem dPl_bl {a : Bool} : dPl (.bl a) = true := (rfl)
theorem dDep_bl {a : Bool} : dDep (.bl a) = 0 := (rfl)
theorem dPl_int {a : Int} : dPl (.int a) = true := (rfl)
theorem dDep_int {a : Int} : dDep (.int a) = 0 := (rfl)
theorem dPl_str {a : Str} : dPl (.str a) = true := (rfl)
theorem dDep_str {a : Str} : dDep (.str a) = 0 := (rfl)
theorem dEq_non_bl  {b : Bool} : dEq .non (.bl b) = false := (rfl)
theorem dEq_non_int  {b : Int} : dEq .non (.int b) = false := (rfl)
theorem dEq_non_str  {b : Str} : dEq .non (.str b) = false := (rfl)
theorem dEq_non_tup  {b : List D} : dEq .non (.tup b) = false := (rfl)
theorem dEq_non_lv  {b : List D} : dEq .non (.lv b) = false := (rfl)
theorem dEq_bl_non {a : Bool}  : dEq (.bl a) .non = false := (rfl)
theorem dEq_bl_str {a : Bool} {b : Str} : dEq (.bl a) (.str b) = false := (rfl)
theorem dEq_bl_tup {a : Bool} {b : List D} : dEq (.bl a) (.tup b) = false := (rfl)
theorem dEq_bl_lv {a : Bool} {b : List D} : dEq (.bl a) (.lv b) = false := (rfl)
theorem dEq_int_non {a : Int}  : dEq (.int a) .non = false := (rfl)
theorem dEq_int_str {a : Int} {b : Str} : dEq (.int a) (.str b) = false := (rfl)
theorem dEq_int_tup {a : Int} {b : List D} : dEq (.int a) (.tup b) = false := (rfl)
theorem dEq_int_lv {a : Int} {b : List D} : dEq (.int a) (.lv b) = false := (rfl)
theorem dEq_str_non {a : Str}  : dEq (.str a) .non = false := (rfl)
theorem dEq_str_bl {a : Str} {b : Bool} : dEq (.str a) (.bl b) = false := (rfl)
theorem dEq_str_int {a : Str} {b : Int} : dEq (.str a) (.int b) = false := (rfl)
theorem dEq_str_tup {a : Str} {b : List D} : dEq (.str a) (.tup b) = false := (rfl)
theorem dEq_str_lv {a : Str} {b : List D} : dEq (.str a) (.lv b) = false := (rfl)
theorem dEq_tup_non {a : List D}  : dEq (.tup a) .non = false := (rfl)
theorem dEq_tup_bl {a : List D} {b : Bool} : dEq (.tup a) (.bl b) = false := (rfl)
theorem dEq_tup_int {a : List D} {b : Int} : dEq (.tup a) (.int b) = false := (rfl)
theorem dEq_tup_str {a : List D} {b : Str} : dEq (.tup a) (.str b) = false := (rfl)
theorem dEq_tup_lv {a : List D} {b : List D} : dEq (.tup a) (.lv b) = false := (rfl)
theorem dEq_lv_non {a : List D}  : dEq (.lv a) .non = false := (rfl)
theorem dEq_lv_bl {a : List D} {b : Bool} : dEq (.lv a) (.bl b) = false := (rfl)
theorem dEq_lv_int {a : List D} {b : Int} : dEq (.lv a) (.int b) = false := (rfl)
theorem dEq_lv_str {a : List D} {b : Str} : dEq (.lv a) (.str b) = false := (rfl)
theorem dEq_lv_tup {a : List D} {b : List D} : dEq (.lv a) (.tup b) = false := (rfl)
theorem isiB_e {T n : String} : isiB T n = ((n == T) || (n == "bool" && T == "int")) := (rfl)
end DL
set_option Elab.async false
set_option linter.all false
set_option maxRecDepth 100000
set_option maxHeartbeats 400000
set_option autoImplicit true
namespace DL
open PySem PySem.Spec PyProof.Rows L2
/-! ### text times a number, is of bools, three comparisons in a row, a def that promises nothing -/
theorem all_reps {p : Nat → Bool} {xs : Array Nat} (hx : xs.all p = true) : ∀ (k : Nat) (acc : Array Nat), acc.all p = true → ((List.replicate k xs).foldl (· ++ ·) acc).all p = true
  | 0, acc, h => h
  | k + 1, acc, h => by
    rw [List.replicate_succ, List.foldl_cons]
    refine all_reps hx k _ ?_
    rw [Array.all_append, h, hx]
    rfl
theorem sOk_mul {x : Str} (n : Int) (h : sOk x = true) : sOk (Txt.mul x n) = true := by
  unfold Txt.mul
  split
  · decide +kernel
  · split
    · exact h
    · exact all_reps (p := fun z => decide (z < 0x110000)) h _ _ (by decide +kernel)
section
variable {X : Cx} {K : KW} {a b c d : Expr} {ta tb tc td : DTE} {pos : Pos}
def rMulS : R2 := fun x y H Q => ∃ i n, x = .str i ∧ y = .int n ∧ (i.length ≤ 16 ∧ -(2 ^ 63) ≤ n ∧ n ≤ 1048576) ∧ Q (.str (Txt.mul i n)) H
theorem op_mulS : OpR X (binaryOp .Mult) rMulS := by
  intro pins s σ H x y v u Q I rx ry h
  obtain ⟨i, n, rfl, rfl, ⟨h1, h2, h3⟩, q⟩ := h
  obtain ⟨t, rfl⟩ := rx
  obtain ⟨t', rfl⟩ := ry
  exact SB.mul (mulOk_of 16 1048576 h1 h3 h2 (by decide) (by decide)) fun t' k => ⟨.str _, H, I.tok _, ⟨_, rfl⟩, q⟩
def dMulS : D → D → Option D
  | .str x, .int n => if decide (x.length ≤ 16) && decide (-9223372036854775808 ≤ n) && decide (n ≤ 1048576) then some (.str (Txt.mul x n)) else none
  | _, _ => none
theorem dMulS_1 {x : Str} {n : Int} : dMulS (.str x) (.int n) = if decide (x.length ≤ 16) && decide (-9223372036854775808 ≤ n) && decide (n ≤ 1048576) then some (.str (Txt.mul x n)) else none := (rfl)
theorem lift_mulS : Lift2 K rMulS (dPure2 dMulS) := by
  intro F H G d e v u Q Q0 R rd re q k
  replace q := optQ_ex q
  obtain ⟨z, hz, q⟩ := q
  unfold dMulS at hz
  split at hz
  · split at hz
    · rename_i hl
      cases hz
      rw [Bool.and_eq_true, Bool.and_eq_true, decide_eq_true_eq, decide_eq_true_eq, decide_eq_true_eq] at hl
      exact ⟨_, _, rd.1, re, ⟨hl.1.1, by omega, hl.2⟩, fin R k q ⟨rfl, sOk_mul _ rd.2⟩⟩
    · cases hz
  · cases hz
theorem q_repS (ha : QE X a ta) (hb : QE X b tb) : QE X (.BinOp a .Mult b pos) (dOp (dPure2 dMulS) ta tb) := q_op op_mulS lift_mulS ha hb
def dIsB (n : Bool) : R2d := fun x y G Q => optQ (blOf x) fun a => optQ (blOf y) fun b => Q (.bl (xor n (decide (a = b)))) G
theorem dIsB_e {n : Bool} {x y : D} {G : Gp} {Q : D → Gp → Prop} : dIsB n x y G Q = optQ (blOf x) fun a => optQ (blOf y) fun b => Q (.bl (xor n (decide (a = b)))) G := (rfl)
theorem lift_isB : Lift2 K rIsB (dIsB false) := by
  intro F H G d e v u Q Q0 R rd re q k
  obtain ⟨x, ex, q⟩ := optQ_ex q
  obtain ⟨y, ey, q⟩ := optQ_ex q
  rw [blOf_eq ex] at rd
  rw [blOf_eq ey] at re
  exact ⟨x, y, rd, re, fin R k q (by rw [Bool.false_xor]; rfl)⟩
theorem lift_notB : Lift2 K rNotB (dIsB true) := by
  intro F H G d e v u Q Q0 R rd re q k
  obtain ⟨x, ex, q⟩ := optQ_ex q
  obtain ⟨y, ey, q⟩ := optQ_ex q
  rw [blOf_eq ex] at rd
  rw [blOf_eq ey] at re
  exact ⟨x, y, rd, re, fin R k q (by rw [Bool.true_xor]; rfl)⟩
theorem u_isN {σ : L2.St} {Q : VK} (h : up K (dUn (dIsN false) ta) σ H Q) : tIsN (up K ta) σ H Q := by
  refine up1 (r0 := fun x H Q => Q (.bl (decide (x = .non))) H) ?_ h
  intro F H G d v Q Q0 R rd q k
  show Q0 (.bl (decide (v = .non))) H
  rw [isN_ok rd]
  have q' : Q (.bl (xor false (isNon d))) G := q
  cases d <;> exact fin (d := .bl _) R k q' rfl
theorem u_notN {σ : L2.St} {Q : VK} (h : up K (dUn (dIsN true) ta) σ H Q) : tNotN (up K ta) σ H Q := by
  refine up1 (r0 := fun x H Q => Q (.bl (!decide (x = .non))) H) ?_ h
  intro F H G d v Q Q0 R rd q k
  show Q0 (.bl (!decide (v = .non))) H
  rw [isN_ok rd]
  have q' : Q (.bl (xor true (isNon d))) G := q
  cases d <;> exact fin (d := .bl _) R k q' rfl
theorem q_tisN {j pos'} (ha : QE X a ta) : QT X (.Compare a [.Is] [.Constant .none j pos'] pos) (dTest (dUn (dIsN false) ta)) := PTmono (pt_cmp (pc_isN ha) rfl) fun σ H Q h => upTest (t0 := tIsN (up (kw X) ta)) (fun _ _ _ h => u_isN h) h
theorem q_tnotN {j pos'} (ha : QE X a ta) : QT X (.Compare a [.IsNot] [.Constant .none j pos'] pos) (dTest (dUn (dIsN true) ta)) := PTmono (pt_cmp (pc_notN ha) rfl) fun σ H Q h => upTest (t0 := tNotN (up (kw X) ta)) (fun _ _ _ h => u_notN h) h
/-- three comparisons in a row -/
def tChain3 (r r' r'' : R2) (ta tb tc td : TE) : TE := fun σ H Q => ta σ H fun x H1 => tb σ H1 fun y H2 => r x y H2 fun z H3 => ∃ k, z = .bl k ∧
  (if k = true then tc σ H3 fun w H4 => r' y w H4 fun z2 H5 => ∃ k2, z2 = .bl k2 ∧ (if k2 = true then td σ H5 fun v H6 => r'' w v H6 Q else Q (.bl false) H5) else Q (.bl false) H3)
theorem pe_chain3 {op op' op'' : CmpOp} {r r' r'' : R2} {ta tb tc td : TE} (ho : OpR X (compareOp op) r) (ho' : OpR X (compareOp op') r') (ho'' : OpR X (compareOp op'') r'') (ha : PE X a ta) (hb : PE X b tb) (hc : PE X c tc) (hd : PE X d td)
    (hm : lastMarks [op, op', op''] [b, c, d] = false := by with_unfolding_all rfl) : PE X (.Compare a [op, op', op''] [b, c, d] pos) (tChain3 r r' r'' ta tb tc td) := by
  refine ⟨fun pins s σ H Q I h => ?_⟩
  refine Compare_chain (thn (ha.run pins s σ H _ I h) fun v s1 ⟨x, H1, I1, r1, q1⟩ => chain_link (thn (hb.run pins s1 σ H1 _ I1 q1) fun u s2 ⟨y, H2, I2, r2, q2⟩ =>
    thn (ho pins s2 σ H2 x y v u _ I2 r1 r2 q2) fun d s3 ⟨z, H3, I3, r3, k, e, q3⟩ => ?_)) hm
  subst e
  cases r3
  refine wpAny_truthy_bool ?_
  cases k with
  | false => exact ite_ff ⟨.bl false, H3, I3, rfl, q3⟩
  | true =>
    refine ite_tt (chain_link (thn (hc.run pins s3 σ H3 _ I3 q3) fun w' s4 ⟨z', H4, I4, r4, q4⟩ => thn (ho' pins s4 σ H4 y z' u w' _ I4 r2 r4 q4) fun d s5 ⟨z2, H5, I5, r5, k2, e2, q5⟩ => ?_))
    subst e2
    cases r5
    refine wpAny_truthy_bool ?_
    cases k2 with
    | false => exact ite_ff ⟨.bl false, H5, I5, rfl, q5⟩
    | true => exact ite_tt (chain_last (thn (hd.run pins s5 σ H5 _ I5 q5) fun w2 s6 ⟨z3, H6, I6, r6, q6⟩ => ho'' pins s6 σ H6 z' z3 w' w2 Q I6 r4 r6 q6))
def dChain3 (r r' r'' : R2d) (ta tb tc td : DTE) : DTE := fun δ G Q => ta δ G fun x G1 => tb δ G1 fun y G2 => r x y G2 fun z G3 => optQ (blOf z) fun c => dCond c (tc δ G3 fun w G4 => r' y w G4 fun z2 G5 => optQ (blOf z2) fun c2 => dCond c2 (td δ G5 fun v G6 => r'' w v G6 Q) (Q (.bl false) G5)) (Q (.bl false) G3)
theorem dChain3_e {r r' r'' : R2d} {ta tb tc td : DTE} {δ : DS} {G : Gp} {Q : D → Gp → Prop} : dChain3 r r' r'' ta tb tc td δ G Q = (ta δ G fun x G1 => tb δ G1 fun y G2 => r x y G2 fun z G3 => optQ (blOf z) fun c => dCond c (tc δ G3 fun w G4 => r' y w G4 fun z2 G5 => optQ (blOf z2) fun c2 => dCond c2 (td δ G5 fun v G6 => r'' w v G6 Q) (Q (.bl false) G5)) (Q (.bl false) G3)) := (rfl)
theorem upChain3 {r0 r0' r0'' : R2} {r r' r'' : R2d} (l : Lift2 K r0 r) (l' : Lift2 K r0' r') (l'' : Lift2 K r0'' r'') {σ : L2.St} {Q : VK} (h : up K (dChain3 r r' r'' ta tb tc td) σ H Q) : tChain3 r0 r0' r0'' (up K ta) (up K tb) (up K tc) (up K td) σ H Q := by
  obtain ⟨F, δ, G, Q', R, S, q, k⟩ := h
  refine ⟨F, δ, G, _, R, S, q, fun v H1 ⟨d, F1, G1, k1, R1, p1, q1⟩ => ?_⟩
  refine ⟨F1, δ, G1, _, R1, S.mono R k1, q1, fun u H2 ⟨e, F2, G2, k2, R2, p2, q2⟩ => ?_⟩
  have S2 := (S.mono R k1).mono R1 k2
  refine l F2 H2 G2 d e v u _ _ R2 (Rep.mono R1 k2 d v p1) p2 q2 fun v' H' ⟨z, F3, G3, k3, R3, p3, q3⟩ => ?_
  replace q3 := optQ_ex q3
  obtain ⟨x, ex, q3⟩ := q3
  have ez := blOf_eq ex
  subst ez
  cases x with
  | false =>
    refine ⟨false, p3, ?_⟩
    rw [if_neg Bool.false_ne_true]
    exact k _ _ ⟨.bl false, F3, G3, (k1.trans k2).trans k3, R3, rfl, q3⟩
  | true =>
    refine ⟨true, p3, ?_⟩
    rw [if_pos rfl]
    have S3 := S2.mono R2 k3
    refine ⟨F3, δ, G3, _, R3, S3, q3, fun w H4 ⟨f, F4, G4, k4, R4, p4, q4⟩ => ?_⟩
    have S4 := S3.mono R3 k4
    refine l' F4 H4 G4 e f u w _ _ R4 (Rep.mono R3 k4 e u (Rep.mono R2 k3 e u p2)) p4 q4 fun v' H' ⟨z, F5, G5, k5, R5, p5, q5⟩ => ?_
    replace q5 := optQ_ex q5
    obtain ⟨x, ex, q5⟩ := q5
    have ez := blOf_eq ex
    subst ez
    cases x with
    | false =>
      refine ⟨false, p5, ?_⟩
      rw [if_neg Bool.false_ne_true]
      exact k _ _ ⟨.bl false, F5, G5, (((k1.trans k2).trans k3).trans k4).trans k5, R5, rfl, q5⟩
    | true =>
      refine ⟨true, p5, ?_⟩
      rw [if_pos rfl]
      refine ⟨F5, δ, G5, _, R5, S4.mono R4 k5, q5, fun y H6 ⟨g, F6, G6, k6, R6, p6, q6⟩ => ?_⟩
      exact l'' F6 H6 G6 f g w y Q' Q R6 (Rep.mono R5 k6 f w (Rep.mono R4 k5 f w p4)) p6 q6 fun v' H' q7 => k v' H' (.trans (((((k1.trans k2).trans k3).trans k4).trans k5).trans k6) q7)
theorem q_chain3 {op op' op'' : CmpOp} {r0 r0' r0'' : R2} {r r' r'' : R2d} (ho : OpR X (compareOp op) r0) (l : Lift2 (kw X) r0 r) (ho' : OpR X (compareOp op') r0') (l' : Lift2 (kw X) r0' r') (ho'' : OpR X (compareOp op'') r0'') (l'' : Lift2 (kw X) r0'' r'')
    (ha : QE X a ta) (hb : QE X b tb) (hc : QE X c tc) (hd : QE X d td) (hm : lastMarks [op, op', op''] [b, c, d] = false := by with_unfolding_all rfl) : QE X (.Compare a [op, op', op''] [b, c, d] pos) (dChain3 r r' r'' ta tb tc td) :=
  PEmono (pe_chain3 ho ho' ho'' ha hb hc hd hm) fun _ _ _ h => upChain3 l l' l'' h
/-- nothing is promised -/
def dBot (m n : Nat) : DSp := spOf m n fun _ _ _ => False
theorem q_bot {ss : List Stmt} : QSs X ss (fun _ _ _ => False) := ⟨fun pins s σ H D I h => by obtain ⟨_, _, _, _, _, _, h, _⟩ := h; exact h.elim⟩
end
end DL
set_option Elab.async false
set_option linter.all false
set_option maxRecDepth 100000
set_option maxHeartbeats 400000
set_option autoImplicit true
namespace DL
open PySem PySem.Spec PyProof.Rows L2
/-! ### dictionaries: names or numbers to data -/
def kvOf (y : D) (G : Gp) : Option (List (Key × D)) := match y with
  | .dv kvs => some kvs
  | .ref a => match G a with
    | some (.dic kvs) => some kvs
    | _ => none
  | _ => none
def keyOf : D → Option Key
  | .int i => some (.inl i)
  | .str x => some (.inr x)
  | _ => none
def valD (kvs : List (Key × D)) (k : Key) : Option D := (kvs.find? fun kv => decide (kv.1 = k)).map (·.2)
def putD (kvs : List (Key × D)) (k : Key) (v : D) : List (Key × D) :=
  if (kvs.any fun kv => decide (kv.1 = k)) = true then kvs.map (fun kv => if kv.1 = k then (kv.1, v) else kv) else kvs ++ [(k, v)]
section
variable {X : Cx} {K : KW} {F F' : Fr} {H H' : Hp} {G G' : Gp}
theorem keyOf_rep {d : D} {v : V} {k : Key} (h : keyOf d = some k) (r : Rep K F H d v) : v = kV k := by
  cases d with
  | int i => cases h; exact r
  | str x => cases h; exact r.1
  | _ => cases h
theorem kvOf_rep {d : D} {v : V} {kvs : List (Key × D)} (R : Rel K F H G) (h : kvOf d G = some kvs) (r : Rep K F H d v) : ∃ a xs, v = .ref a ∧ Rd H a (.dK xs) ∧ RepK K F H kvs xs := by
  cases d with
  | dv ks =>
    cases h
    obtain ⟨a, xs, e, ⟨_, h⟩, q⟩ := r
    exact ⟨a, xs, e, h, q⟩
  | ref a =>
    cases r
    simp only [kvOf] at h
    split at h
    · rename_i ks e
      cases h
      obtain ⟨xs, h1, h2⟩ := R.obj a _ e
      exact ⟨a, xs, rfl, .of h1, h2⟩
    · cases h
  | _ => cases h
theorem RepK.len : ∀ {kvs : List (Key × D)} {xs : List (Key × V)}, RepK K F H kvs xs → xs.length = kvs.length
  | [], _, h => by cases h; rfl
  | p :: ds, _, ⟨k, v, r, e, h, q⟩ => by
    subst e
    rw [List.length_cons, List.length_cons, RepK.len q]
theorem valK_rep (k : Key) : ∀ {kvs : List (Key × D)} {xs : List (Key × V)}, RepK K F H kvs xs → (∀ d, valD kvs k = some d → ∃ v, valV xs k = some v ∧ Rep K F H d v) ∧ (valD kvs k = none → valV xs k = none)
  | [], _, h => by
    cases h
    exact ⟨fun d e => (by cases e), fun _ => rfl⟩
  | (k1, d1) :: ds, _, ⟨k2, v, r, e, h, q⟩ => by
    subst e
    obtain ⟨h1, h2⟩ := h
    subst h1
    have ih := valK_rep k q
    by_cases z : k2 = k
    · have e1 : valD ((k2, d1) :: ds) k = some d1 := by
        unfold valD
        rw [List.find?_cons_of_pos (by simpa using z)]
        rfl
      have e2 : valV ((k2, v) :: r) k = some v := valV_pos z
      refine ⟨fun d e => ?_, fun e => ?_⟩
      · rw [e1] at e
        cases e
        exact ⟨v, e2, h2⟩
      · rw [e1] at e
        cases e
    · have e1 : valD ((k2, d1) :: ds) k = valD ds k := by
        unfold valD
        rw [List.find?_cons_of_neg (by simpa using z)]
      have e2 : valV ((k2, v) :: r) k = valV r k := valV_neg z
      rw [e1, e2]
      exact ih
theorem anyK_rep (k : Key) : ∀ {kvs : List (Key × D)} {xs : List (Key × V)}, RepK K F H kvs xs → (xs.any fun kv => decide (kv.1 = k)) = kvs.any fun kv => decide (kv.1 = k)
  | [], _, h => by cases h; rfl
  | (k1, d1) :: ds, _, ⟨k2, v, r, e, h, q⟩ => by
    subst e
    obtain ⟨h1, h2⟩ := h
    subst h1
    rw [List.any_cons, List.any_cons, anyK_rep k q]
theorem mapK_rep (k : Key) {d : D} {v : V} (h : Rep K F H d v) : ∀ {kvs : List (Key × D)} {xs : List (Key × V)}, RepK K F H kvs xs → RepK K F H (kvs.map fun kv => if kv.1 = k then (kv.1, d) else kv) (xs.map fun kv => if kv.1 = k then (kv.1, v) else kv)
  | [], _, q => by cases q; exact rfl
  | (k1, d1) :: ds, _, ⟨k2, v2, r, e, h1, q⟩ => by
    subst e
    obtain ⟨h1, h2⟩ := h1
    subst h1
    rw [List.map_cons, List.map_cons]
    by_cases z : k2 = k
    · rw [if_pos z, if_pos z]
      exact ⟨_, _, _, rfl, ⟨rfl, h⟩, mapK_rep k h q⟩
    · rw [if_neg z, if_neg z]
      exact ⟨_, _, _, rfl, ⟨rfl, h2⟩, mapK_rep k h q⟩
theorem RepK.snoc {k : Key} {d : D} {v : V} (h : Rep K F H d v) : ∀ {kvs : List (Key × D)} {xs : List (Key × V)}, RepK K F H kvs xs → RepK K F H (kvs ++ [(k, d)]) (xs ++ [(k, v)])
  | [], _, q => by cases q; exact ⟨_, _, _, rfl, ⟨rfl, h⟩, rfl⟩
  | p :: ds, _, ⟨k2, v2, r, e, h1, q⟩ => by
    subst e
    exact ⟨_, _, _, rfl, h1, RepK.snoc h q⟩
theorem putK_rep {k : Key} {d : D} {v : V} (h : Rep K F H d v) {kvs : List (Key × D)} {xs : List (Key × V)} (q : RepK K F H kvs xs) : RepK K F H (putD kvs k d) (putK xs k v) := by
  unfold putD putK
  rw [anyK_rep k q]
  split
  · exact mapK_rep k h q
  · exact q.snoc h
variable {a b c d : Expr} {ta tb tc td : DTE} {pos : Pos}
/-- an empty one -/
def dDic : DTE := fun _ G Q => ∀ p, G p = none → Q (.ref p) (updG G p (.dic []))
theorem dDic_e {δ : DS} {G : Gp} {Q : D → Gp → Prop} : dDic δ G Q = ∀ p, G p = none → Q (.ref p) (updG G p (.dic [])) := (rfl)
theorem q_dic : QE X (.Dict [] [] pos) dDic := PEmono pe_dnewK fun σ H Q ⟨F, δ, G, Q', R, S, q, k⟩ => fun p hp =>
  k _ _ ⟨.ref p, F, updG G p (.dic []), keep_obj R hp, rel_obj R hp ⟨[], upd_same, rfl⟩, rfl, q p (R.off0 hp)⟩
/-- d[k] -/
def dDGet : R2d := fun x y G Q => optQ (kvOf x G) fun kvs => optQ (keyOf y) fun k => optQ (valD kvs k) fun v => Q v G
theorem dDGet_e {x y : D} {G : Gp} {Q : D → Gp → Prop} : dDGet x y G Q = optQ (kvOf x G) fun kvs => optQ (keyOf y) fun k => optQ (valD kvs k) fun v => Q v G := (rfl)
def rDGet : R2 := fun x y H Q => ∃ a v, x = .ref a ∧ DGet H a y (some v) ∧ Q v H
theorem lift_dget : Lift2 K rDGet dDGet := by
  intro F H G d e v u Q Q0 R rd re q k
  obtain ⟨kvs, e1, q⟩ := optQ_ex q
  obtain ⟨ky, e2, q⟩ := optQ_ex q
  obtain ⟨z, e3, q⟩ := optQ_ex q
  obtain ⟨a, xs, rfl, h1, h2⟩ := kvOf_rep R e1 rd
  have ey := keyOf_rep e2 re
  obtain ⟨w, h3, h4⟩ := (valK_rep ky h2).1 z e3
  exact ⟨a, w, rfl, .inl ⟨xs, ky, h1, ey, h3.symm⟩, fin R k q h4⟩
theorem q_dget (hu : X.A.units + 190 < cLine) (ha : QE X a ta) (hb : QE X b tb) (hs : NoSl b := by intro _ _; rfl) : QE X (.Subscript a b pos) (dOp dDGet ta tb) := PEmono (pe_dget (by omega) ha hb hs) fun σ H Q h => up2 (r0 := rDGet) lift_dget h
/-- k in d -/
def dDIn (n : Bool) : R2d := fun y x G Q => optQ (kvOf x G) fun kvs => optQ (keyOf y) fun k => Q (.bl (xor n (valD kvs k).isSome)) G
theorem dDIn_e {n : Bool} {x y : D} {G : Gp} {Q : D → Gp → Prop} : dDIn n y x G Q = optQ (kvOf x G) fun kvs => optQ (keyOf y) fun k => Q (.bl (xor n (valD kvs k).isSome)) G := (rfl)
def rDIn (n : Bool) : R2 := fun y x H Q => ∃ a o, x = .ref a ∧ DGet H a y o ∧ Q (.bl (xor n o.isSome)) H
theorem op_din (hu : X.A.units + 190 < cLine) : OpR X (compareOp .In) (rDIn false) := by
  intro pins s σ H x y v u Q I rx ry h
  obtain ⟨a, o, rfl, g, q⟩ := h
  obtain rfl : u = Value.ref a := ry
  exact d_in (by omega) I g rx fun s' I' => ⟨.bl o.isSome, H, I', rfl, by rw [Bool.false_xor] at q; exact q⟩
theorem op_dnin (hu : X.A.units + 190 < cLine) : OpR X (compareOp .NotIn) (rDIn true) := by
  intro pins s σ H x y v u Q I rx ry h
  obtain ⟨a, o, rfl, g, q⟩ := h
  obtain rfl : u = Value.ref a := ry
  exact d_notIn (by omega) I g rx fun s' I' => ⟨.bl (!o.isSome), H, I', rfl, by rw [Bool.true_xor] at q; exact q⟩
theorem lift_din {n : Bool} : Lift2 K (rDIn n) (dDIn n) := by
  intro F H G d e v u Q Q0 R rd re q k
  obtain ⟨kvs, e1, q⟩ := optQ_ex q
  obtain ⟨ky, e2, q⟩ := optQ_ex q
  obtain ⟨a, xs, rfl, h1, h2⟩ := kvOf_rep R e1 re
  have ey := keyOf_rep e2 rd
  refine ⟨a, valV xs ky, rfl, .inl ⟨xs, ky, h1, ey, rfl⟩, ?_⟩
  have e3 : (valV xs ky).isSome = (valD kvs ky).isSome := by
    obtain ⟨s1, s2⟩ := valK_rep ky h2
    cases e : valD kvs ky with
    | none => rw [s2 e]; rfl
    | some z =>
      obtain ⟨w, h3, _⟩ := s1 z e
      rw [h3]; rfl
  rw [e3]
  exact fin R k q rfl
theorem q_din (hu : X.A.units + 190 < cLine) (ha : QE X a ta) (hb : QE X b tb) (hm : behindInMarks .In b = false := by rfl) : QE X (.Compare a [.In] [b] pos) (dOp (dDIn false) ta tb) := q_cmp (op_din hu) lift_din ha hb hm
theorem q_dnin (hu : X.A.units + 190 < cLine) (ha : QE X a ta) (hb : QE X b tb) (hm : behindInMarks .NotIn b = false := by rfl) : QE X (.Compare a [.NotIn] [b] pos) (dOp (dDIn true) ta tb) := q_cmp (op_dnin hu) lift_din ha hb hm
theorem q_tdin (hu : X.A.units + 190 < cLine) (ha : QE X a ta) (hb : QE X b tb) (hm : behindInMarks .In b = false := by rfl) : QT X (.Compare a [.In] [b] pos) (dTest (dOp (dDIn false) ta tb)) := q_tcmp (op_din hu) lift_din ha hb hm
theorem q_tdnin (hu : X.A.units + 190 < cLine) (ha : QE X a ta) (hb : QE X b tb) (hm : behindInMarks .NotIn b = false := by rfl) : QT X (.Compare a [.NotIn] [b] pos) (dTest (dOp (dDIn true) ta tb)) := q_tcmp (op_dnin hu) lift_din ha hb hm
/-- d[k] = v -/
def dicOf : D → Gp → Option (Addr × List (Key × D))
  | .ref a, G => match G a with
    | some (.dic kvs) => some (a, kvs)
    | _ => none
  | _, _ => none
def dSubD (to ti : DTE) : DTG := fun v δ G Q => to δ G fun o G1 => ti δ G1 fun i G2 => optQ (dicOf o G2) fun p => optQ (keyOf i) fun k => p.2.length < sizeLine ∧ Q δ (updG G2 p.1 (.dic (putD p.2 k v)))
theorem dSubD_e {to ti : DTE} {v : D} {δ : DS} {G : Gp} {Q : DS → Gp → Prop} : dSubD to ti v δ G Q = to δ G fun o G1 => ti δ G1 fun i G2 => optQ (dicOf o G2) fun p => optQ (keyOf i) fun k => p.2.length < sizeLine ∧ Q δ (updG G2 p.1 (.dic (putD p.2 k v))) := (rfl)
theorem dicOf_eq {o : D} {G : Gp} {p : Addr × List (Key × D)} (h : dicOf o G = some p) : o = .ref p.1 ∧ G p.1 = some (.dic p.2) := by
  cases o with
  | ref a =>
    simp only [dicOf] at h
    split at h
    · rename_i kvs e
      cases h
      exact ⟨rfl, e⟩
    · cases h
  | _ => cases h
theorem qg_subD {to ti : DTE} (hu : X.A.units + 190 < cLine) (ho : QE X a to) (hi : QE X b ti)
    (ha : ∀ v, assign (.Subscript a b pos) X.env v = (do let o ← holding [v] (eval a X.env); let i ← holding [v, o] (eval b X.env); standAt pos; holding [v, o, i] (setItem o i v); release [v, o, i] []) := by intro _; rfl) : QG X Pany (.Subscript a b pos) (dSubD to ti) :=
  PGmono (pg_sub ho hi (set_dict (by omega)) ha) fun v σ H Q ⟨F, d, δ, G, Q', R, r, S, q, k⟩ => by
    refine ⟨F, δ, G, _, R, S, q, fun w H1 ⟨o, F1, G1, k1, R1, p1, q1⟩ => ?_⟩
    have S1 := S.mono R k1
    refine ⟨F1, δ, G1, _, R1, S1, q1, fun x H2 ⟨i, F2, G2, k2, R2, p2, q2⟩ => ?_⟩
    have S2 := S1.mono R1 k2
    have r2 := Rep.mono R1 k2 d v (Rep.mono R k1 d v r)
    obtain ⟨⟨p, kvs⟩, hz, q3⟩ := optQ_ex q2
    obtain ⟨ky, hk, hl, q4⟩ := optQ_ex q3
    obtain ⟨eo, eg⟩ := dicOf_eq hz
    subst eo
    cases p1
    have ey := keyOf_rep hk p2
    obtain ⟨xs, h1, h2⟩ := R2.obj p _ eg
    have kk := keep_set (F := F2) (H := H2) (o := .dK (putK xs ky v)) (m' := .dic (putD kvs ky d)) eg
    refine ⟨p, _, rfl, .inl ⟨xs, ky, h1, ey, by rw [h2.len]; exact hl, rfl⟩, ?_⟩
    exact k _ _ trivial ⟨δ, F2, _, (k1.trans k2).trans kk, rel_set R2 eg ⟨_, upd_same, RepK.mono R2 kk _ _ (putK_rep r2 h2)⟩, S2.mono R2 kk, q4⟩
end
end DL
set_option Elab.async false
set_option linter.all false
set_option maxRecDepth 100000
set_option maxHeartbeats 400000
set_option autoImplicit true
namespace DL
open PySem PySem.Spec PyProof.Rows L2
/-! ### for over the names of a dictionary that nobody changes -/
section
variable {X : Cx} {K : KW} {F F' : Fr} {H H' : Hp} {G G' : Gp} {a : Addr} {xs : List (Key × V)} {od : Obj}
theorem stay_lock (h : H a = some (.dK xs)) : Stay F H F (upd H a (.frz od (.dK xs))) where
  tup b ys ob q := by rw [upd_ne (fun z => by subst z; rw [h] at q; cases q)]; exact q
  lst b ys f q := ⟨f, by rw [upd_ne (fun z => by subst z; rw [h] at q; cases q)]; exact q⟩
  frz b ob ys q := by rw [upd_ne (fun z => by subst z; rw [h] at q; cases q)]; exact q
  dic b ys f q := by
    refine ⟨f, ?_⟩
    by_cases n : b = a
    · subst n
      rcases q with q | ⟨o, q⟩
      · rw [h] at q
        cases q
        exact .inr ⟨od, upd_same⟩
      · rw [h] at q
        cases q
    · exact q.elim (fun q => .inl (by rw [upd_ne n]; exact q)) fun ⟨o, q⟩ => .inr ⟨o, by rw [upd_ne n]; exact q⟩
  pdc b ob φ q := by rw [upd_ne (fun z => by subst z; rw [h] at q; cases q)]; exact q
  cod b c f q := ⟨f, by rw [upd_ne (fun z => by subst z; rw [h] at q; unfold LamX.CodeO at q; cases q)]; exact q⟩
theorem stay_free (h : H a = some (.frz od (.dK xs))) : Stay F H F (upd H a (.dK xs)) where
  tup b ys ob q := by rw [upd_ne (fun z => by subst z; rw [h] at q; cases q)]; exact q
  lst b ys f q := ⟨f, by rw [upd_ne (fun z => by subst z; rw [h] at q; cases q)]; exact q⟩
  frz b ob ys q := by rw [upd_ne (fun z => by subst z; rw [h] at q; cases q)]; exact q
  dic b ys f q := by
    refine ⟨f, ?_⟩
    by_cases n : b = a
    · subst n
      rcases q with q | ⟨o, q⟩
      · rw [h] at q
        cases q
      · rw [h] at q
        cases q
        exact .inl upd_same
    · exact q.elim (fun q => .inl (by rw [upd_ne n]; exact q)) fun ⟨o, q⟩ => .inr ⟨o, by rw [upd_ne n]; exact q⟩
  pdc b ob φ q := by rw [upd_ne (fun z => by subst z; rw [h] at q; cases q)]; exact q
  cod b c f q := ⟨f, by rw [upd_ne (fun z => by subst z; rw [h] at q; unfold LamX.CodeO at q; cases q)]; exact q⟩
theorem rel_at {o : HO} (R : Rel K F H G) (s : Stay F H F (upd H a o)) (nG : G a = none) (no : ∀ y, H a ≠ some (.own y)) : Rel K F (upd H a o) G where
  obj b m e := by
    have n : b ≠ a := fun z => by subst z; rw [nG] at e; cases e
    exact RepO.stay s (fun x y h => by rw [upd_ne (fun z => by subst z; exact no _ h)]; exact h) (upd_ne n) (R.obj b m e)
  fr := R.fr
  al b f := by
    by_cases n : b = a
    · subst n
      rw [upd_same]
      intro z
      cases z
    · rw [upd_ne n]
      exact R.al b f
theorem RepS.stay {δ : DS} {σ : L2.St} (k : Stay F H F' H') (h : RepS K F H δ σ) : RepS K F' H' δ σ :=
  ⟨h.len, fun i d e => by obtain ⟨v, h1, h2⟩ := h.at' i d e; exact ⟨v, h1, Rep.stay k d v h2⟩⟩
/-- what the locked stretch keeps, seen from outside -/
theorem keep_lock {F2 : Fr} {H2 : Hp} {G2 : Gp} (h : H a = some (.dK xs)) (nG : G a = none) (k : Keep F (upd H a (.frz od (.dK xs))) G F2 H2 G2) : H2 a = some (.frz od (.dK xs)) ∧ G2 a = none ∧ Keep F H G F2 (upd H2 a (.dK xs)) G2 := by
  obtain ⟨h1, g1, f1⟩ := k.k a _ nG upd_same
  refine ⟨h1, g1, ⟨fun b w gb hb => ?_⟩⟩
  by_cases n : b = a
  · subst n
    rw [h] at hb
    cases hb
    exact ⟨upd_same, g1, f1⟩
  · obtain ⟨h2, g2, f2⟩ := k.k b w gb (by rw [upd_ne n]; exact hb)
    exact ⟨by rw [upd_ne n]; exact h2, g2, f2⟩
theorem ends_lock {D' : DEnds} {D : Ends} (h : H a = some (.dK xs)) (nG : G a = none) (E : EndsUp K F H G D' D) : EndsUp K F (upd H a (.frz od (.dK xs))) G D'
    ⟨fun σ' H' => H' a = some (.frz od (.dK xs)) ∧ D.nx σ' (upd H' a (.dK xs)), fun v H' => H' a = some (.frz od (.dK xs)) ∧ D.rt v (upd H' a (.dK xs)), fun σ' H' => H' a = some (.frz od (.dK xs)) ∧ D.bk σ' (upd H' a (.dK xs)), fun σ' H' => H' a = some (.frz od (.dK xs)) ∧ D.ct σ' (upd H' a (.dK xs))⟩ := by
  have go : ∀ (Q : DS → Gp → Prop) σ' H', postS F K (upd H a (.frz od (.dK xs))) G Q σ' H' → H' a = some (.frz od (.dK xs)) ∧ postS F K H G Q σ' (upd H' a (.dK xs)) := fun Q σ' H' ⟨δ2, F2, G2, k2, R2, S2, q2⟩ => by
    obtain ⟨h1, g1, k3⟩ := keep_lock h nG k2
    have s := stay_free (F := F2) h1
    exact ⟨h1, δ2, F2, G2, k3, rel_at R2 s g1 (fun y z => by rw [h1] at z; cases z), S2.stay s, q2⟩
  refine ⟨fun σ' H' q => ?_, fun v H' ⟨d, F2, G2, k2, R2, p2, q2⟩ => ?_, fun σ' H' q => ?_, fun σ' H' q => ?_⟩
  · obtain ⟨h1, q⟩ := go _ _ _ q
    exact ⟨h1, E.nx _ _ q⟩
  · obtain ⟨h1, g1, k3⟩ := keep_lock h nG k2
    have s := stay_free (F := F2) h1
    exact ⟨h1, E.rt _ _ ⟨d, F2, G2, k3, rel_at R2 s g1 (fun y z => by rw [h1] at z; cases z), Rep.stay s d v p2, q2⟩⟩
  · obtain ⟨h1, q⟩ := go _ _ _ q
    exact ⟨h1, E.bk _ _ q⟩
  · obtain ⟨h1, q⟩ := go _ _ _ q
    exact ⟨h1, E.ct _ _ q⟩
def keyD : Key → D
  | .inl i => .int i
  | .inr x => .str x
def dvOf : D → Option (List (Key × D))
  | .dv kvs => some kvs
  | _ => none
/-- the names are texts that may be laid out -/
def keysOk (kvs : List (Key × D)) : Bool := kvs.all fun kv => match kv.1 with
  | .inl _ => true
  | .inr x => sOk x
def dForK (i : Nat) (g : DTG) (tb : DTS) : DTS := fun E δ G => optQ ((getS δ i).bind dvOf) fun kvs => keysOk kvs = true ∧ dLoop (fun _ => True) g tb E (kvs.map fun kv => keyD kv.1) δ G
theorem RepK.keys : ∀ {kvs : List (Key × D)} {xs : List (Key × V)}, RepK K F H kvs xs → xs.map (·.1) = kvs.map (·.1)
  | [], _, h => by cases h; rfl
  | (k, d) :: ds, _, ⟨k2, v, r, e, h, q⟩ => by
    subst e
    rw [List.map_cons, List.map_cons, RepK.keys q, h.1]
theorem walked_k {F0 : Fr} {H0 : Hp} {G0 : Gp} {kvs : List (Key × D)} (h : H0 a = some (.frz od (.dK xs))) (nG : G0 a = none) (ek : xs.map (·.1) = kvs.map (·.1)) (ok : keysOk kvs = true) : Walked K (Itk a od xs) F0 H0 G0 (kvs.map fun kv => keyD kv.1) (fun _ => True) := by
  intro F1 H1 G1 k R _
  have h1 := (k.k a _ nG h).1
  have hl : xs.length = kvs.length := by
    have := congrArg List.length ek
    rwa [List.length_map, List.length_map] at this
  refine ⟨fun i hi => ⟨h1, by rw [List.length_map] at hi; omega⟩, fun i d e => ?_⟩
  have hi : i < kvs.length := by
    have := (List.getElem?_eq_some_iff.mp e).1
    rwa [List.length_map] at this
  refine ⟨⟨h1, by omega⟩, fun x H2 y => ?_⟩
  obtain ⟨rfl, ky, v, e1, rfl⟩ := y
  refine ⟨F1, .refl, R, ?_⟩
  have e2 : kvs[i]?.map (·.1) = some ky := by
    rw [← List.getElem?_map, ← ek, List.getElem?_map, e1]
    rfl
  rw [List.getElem?_map] at e
  cases e3 : kvs[i]? with
  | none => rw [e3] at e2; cases e2
  | some p =>
    rw [e3] at e e2
    cases e
    cases e2
    have hm : p ∈ kvs := List.mem_of_getElem? e3
    have := List.all_eq_true.mp ok p hm
    obtain ⟨hk, dd⟩ := p
    cases hk with
    | inl z => exact (rfl : V.int z = V.int z)
    | inr z => exact (⟨rfl, this⟩ : V.str z = V.str z ∧ sOk z = true)
theorem pv (i : Nat) {x : Str} {pos : Pos} (hN : X.N[i]? = some x := by rfl) (hv : Vis X.env.scope x := by first | exact Or.inl rfl | exact Or.inr (Or.inl rfl) | exact Or.inr (Or.inr rfl)) (hd : (x == ("__debug__" : Str)) = false := by decide)
    (hcd : (x == ("__classdict__" : Str)) = false := by decide) : PE X (.Name x pos) (tVar i) := pe_var hN hv hd hcd
/-- the turns of a loop, by what its data say -/
theorem turns {J : It} {ds : List D} {Sb : Gp → Prop} {F1 : Fr} {H1 : Hp} {G1 : Gp} {g : DTG} {tb : DTS} {δ : DS} {σ : L2.St} {D' : DEnds} {D : Ends} (R1 : Rel (kw X) F1 H1 G1) (wk : Walked (kw X) J F1 H1 G1 ds Sb) (S1 : RepS (kw X) F1 H1 δ σ) (q1 : dLoop Sb g tb D' ds δ G1) (E : EndsUp (kw X) F1 H1 G1 D' D) :
    ∃ W : Nat → Nat → L2.St → Hp → Prop, (∃ m, W 0 m σ H1) ∧ ∀ i m σ H, W i m σ H → (J.stop i H ∧ D.nx σ H) ∨ (J.go i H ∧ ∃ N : L2.St → Hp → Prop, (∀ σ' H', N σ' H' → ∃ m', m' < m ∧ W (i + 1) m' σ' H') ∧ ∀ x H', J.yld i H x H' → upG (kw X) Pany g x σ H' fun σ2 H2 => upS (kw X) tb { D with nx := N, ct := N, bk := D.nx } σ2 H2) := by
  refine ⟨fun i m σ2 H2 => m = ds.length - i ∧ i ≤ ds.length ∧ ∃ F2 δ2 G2, Keep F1 H1 G1 F2 H2 G2 ∧ Rel (kw X) F2 H2 G2 ∧ RepS (kw X) F2 H2 δ2 σ2 ∧ dLoop Sb g tb D' (ds.drop i) δ2 G2,
    ⟨ds.length, by rw [Nat.sub_zero], Nat.zero_le _, F1, δ, G1, .refl, R1, S1, q1⟩, ?_⟩
  rintro i m σ2 H2 ⟨rfl, hi, F2, δ2, G2, k2, R2, S2, q2⟩
  by_cases hlt : i < ds.length
  · have ed : ds.drop i = ds[i] :: ds.drop (i + 1) := List.drop_eq_getElem_cons hlt
    rw [ed] at q2
    obtain ⟨s2, q2⟩ := q2
    obtain ⟨_, go⟩ := wk F2 H2 G2 k2 R2 s2
    obtain ⟨go, yl⟩ := go i ds[i] (List.getElem?_eq_getElem hlt)
    refine .inr ⟨go, fun σ' H' => ∃ F3 δ3 G3, Keep F1 H1 G1 F3 H' G3 ∧ Rel (kw X) F3 H' G3 ∧ RepS (kw X) F3 H' δ3 σ' ∧ dLoop Sb g tb D' (ds.drop (i + 1)) δ3 G3, fun σ' H' h => ⟨ds.length - (i + 1), by omega, rfl, hlt, h⟩, fun x H' y => ?_⟩
    obtain ⟨F3, k3, R3, r3⟩ := yl x H' y
    refine ⟨F3, ds[i], δ2, G2, _, R3, r3, S2.mono R2 k3, q2, fun σ4 H4 _ ⟨δ4, F4, G4, k4, R4, S4, q4⟩ => ?_⟩
    have kk := (k2.trans k3).trans k4
    refine ⟨F4, δ4, G4, _, R4, S4, q4, ?_⟩
    have back : ∀ σ' H', postS F4 (kw X) H4 G4 (dLoop Sb g tb D' (ds.drop (i + 1))) σ' H' → ∃ F3 δ3 G3, Keep F1 H1 G1 F3 H' G3 ∧ Rel (kw X) F3 H' G3 ∧ RepS (kw X) F3 H' δ3 σ' ∧ dLoop Sb g tb D' (ds.drop (i + 1)) δ3 G3 := fun σ' H' ⟨δ5, F5, G5, k5, R5, S5, q5⟩ => ⟨F5, δ5, G5, kk.trans k5, R5, S5, q5⟩
    have E4 := E.step kk
    exact ⟨back, E4.rt, E4.nx, back⟩
  · have e : i = ds.length := by omega
    subst e
    rw [List.drop_length] at q2
    obtain ⟨s2, q2⟩ := q2
    obtain ⟨stop, _⟩ := wk F2 H2 G2 k2 R2 s2
    exact .inl ⟨stop _ (Nat.le_refl _), (E.step k2).nx _ _ ⟨δ2, F2, G2, .refl, R2, S2, q2⟩⟩
theorem qs_forK {tg : Expr} {x : Str} {p pos : Pos} {i : Nat} {body : List Stmt} {g : DTG} {tb : DTS} (hp : PassesOwn (model X.prog X.w) X.A X.env X.xe) (hc : X.calm = true) (hi : PE X (.Name x p) (tVar i)) (hg : QG X Pany tg g) (hb : QSs X body tb)
    (hs : ∀ z, foldedSetIterable (.Name x p) X.env z = pure z := by intro _; rfl) : QS X (.For tg (.Name x p) body [] pos) (dForK i g tb) := by
  have base := ps_for (pos := pos) hp hc (pi_keys hi) hg hb hs
  have lock := ps_lock base
  have both : PS X (.For tg (.Name x p) body [] pos) (fun D σ H => tLock (tFor (iKeys (tVar i)) (upG (kw X) Pany g) (upS (kw X) tb)) D σ H ∨ tFor (iKeys (tVar i)) (upG (kw X) Pany g) (upS (kw X) tb) D σ H) :=
    ⟨fun pins s σ H D I h => h.elim (lock.run pins s σ H D I) (base.run pins s σ H D I)⟩
  refine PSmono both fun D σ H ⟨F, δ, G, D', R, S, q, E⟩ => ?_
  obtain ⟨kvs, e0, ok, q⟩ := optQ_ex q
  cases e1 : getS δ i with
  | none => rw [e1] at e0; cases e0
  | some dd =>
    rw [e1] at e0
    cases dd with
    | dv ks =>
      cases e0
      obtain ⟨v, hv, rv⟩ := S.at' i _ e1
      obtain ⟨a, xs, rfl, ⟨f, hr⟩, rk⟩ := rv
      have nG := R.fr a f
      rcases hr with hr | ⟨o, hr⟩
      · refine .inl ⟨a, _, hr, trivial, fun od => ⟨.ref a, hv, a, od, rfl, .inl ⟨xs, upd_same, ?_⟩⟩⟩
        have s := stay_lock (F := F) (od := od) hr
        exact turns (rel_at R s nG (fun y z => by rw [hr] at z; cases z)) (walked_k upd_same nG rk.keys ok) (S.stay s) q (ends_lock hr nG E)
      · exact .inr ⟨.ref a, hv, a, o, rfl, .inl ⟨xs, hr, turns R (walked_k hr nG rk.keys ok) S q E⟩⟩
    | _ => cases e0
/-- a list times a number -/
def dRepLD : D → D → Option D
  | .lv ds, .int n => if decide (-9223372036854775808 ≤ n) && decide (n ≤ 1048576) && decide (ds.length ≤ 16) then some (.lv (List.replicate n.toNat ds).flatten) else none
  | _, _ => none
theorem dRepLD_1 {ds : List D} {n : Int} : dRepLD (.lv ds) (.int n) = if decide (-9223372036854775808 ≤ n) && decide (n ≤ 1048576) && decide (ds.length ≤ 16) then some (.lv (List.replicate n.toNat ds).flatten) else none := (rfl)
theorem RepL.reps {ds : List D} {vs : List V} {H : Hp} {F : Fr} (r : RepL K F H ds vs) : ∀ n : Nat, RepL K F H (List.replicate n ds).flatten (List.replicate n vs).flatten
  | 0 => rfl
  | n + 1 => by
    rw [List.replicate_succ, List.replicate_succ, List.flatten_cons, List.flatten_cons]
    exact r.app (RepL.reps r n)
theorem lift_repL : Lift2 K rRep (dPure2 dRepLD) := by
  intro F H G d e v u Q Q0 R rd re q k
  obtain ⟨z, hz, q⟩ := optQ_ex q
  unfold dRepLD at hz
  split at hz
  · split at hz
    · rename_i hl
      cases hz
      rw [Bool.and_eq_true, Bool.and_eq_true, decide_eq_true_eq, decide_eq_true_eq, decide_eq_true_eq] at hl
      obtain ⟨a, xs, rfl, h, r⟩ := rd
      have h1 := Int.toNat_le.mpr (show _ ≤ ((1048576 : Nat) : Int) from hl.1.2)
      refine ⟨a, _, xs, rfl, re, h.2, by omega, by omega, ?_, fin_lv R k (r.reps _) q⟩
      rw [r.len, szL]
      exact Nat.le_trans (Nat.mul_le_mul hl.2 h1) (by decide : 16 * 1048576 ≤ 16777216)
    · cases hz
  · cases hz
theorem q_repL {a b : Expr} {ta tb : DTE} {pos : Pos} (ha : QE X a ta) (hb : QE X b tb) : QE X (.BinOp a .Mult b pos) (dOp (dPure2 dRepLD) ta tb) := q_op op_rep lift_repL ha hb
theorem keyOf_1 {i : Int} : keyOf (.int i) = some (.inl i) := (rfl)
theorem keyOf_2 {x : Str} : keyOf (.str x) = some (.inr x) := (rfl)
theorem kvOf_1 {kvs : List (Key × D)} : kvOf (.dv kvs) G = some kvs := (rfl)
theorem kvOf_u {p : Addr} {kvs : List (Key × D)} : kvOf (.ref p) (updG G p (.dic kvs)) = some kvs := by
  simp only [kvOf, updG_same]
theorem dicOf_u {p : Addr} {kvs : List (Key × D)} : dicOf (.ref p) (updG G p (.dic kvs)) = some (p, kvs) := by
  simp only [dicOf, updG_same]
theorem dvOf_1 {kvs : List (Key × D)} : dvOf (.dv kvs) = some kvs := (rfl)
theorem dForK_e {i : Nat} {g : DTG} {tb : DTS} {E : DEnds} {δ : DS} {G : Gp} : dForK i g tb E δ G = optQ ((getS δ i).bind dvOf) fun kvs => keysOk kvs = true ∧ dLoop (fun _ => True) g tb E (kvs.map fun kv => keyD kv.1) δ G := (rfl)
/-- len of a dictionary -/
theorem call_lenK : CallR X (.builtin "len") (fun xs H Q => ∃ a kvs, xs = [V.ref a] ∧ Rd H a (.dK kvs) ∧ Q (.int kvs.length) H) := by
  intro pins s σ H xs us Q I r h
  obtain ⟨a, kvs, rfl, ha, q⟩ := h
  obtain ⟨u, rfl, ru⟩ := vals1 r
  cases ru
  exact d_len I ha fun t s' I' => ⟨.int kvs.length, H, I', ⟨t, rfl⟩, q⟩
def dLenK : RA := fun ds G Q => optQ (uncons ds) fun p => optQ (kvOf p.1 G) fun kvs => p.2 = [] ∧ Q (.int (kvs.length : Nat)) G
theorem dLenK_e {ds : List D} {G : Gp} {Q : D → Gp → Prop} : dLenK ds G Q = optQ (uncons ds) fun p => optQ (kvOf p.1 G) fun kvs => p.2 = [] ∧ Q (.int (kvs.length : Nat)) G := (rfl)
theorem lift_lenK : LiftA K (fun xs H Q => ∃ a kvs, xs = [V.ref a] ∧ Rd H a (.dK kvs) ∧ Q (.int kvs.length) H) dLenK := by
  intro F H G ds vs Q Q0 R rd q k
  obtain ⟨⟨d, r⟩, e1, q1⟩ := optQ_ex q
  obtain ⟨kvs, e2, e3, q2⟩ := optQ_ex q1
  cases ds with
  | nil => cases e1
  | cons d' r' =>
    cases e1
    have e3 : r = [] := e3
    subst e3
    obtain ⟨v, rr, rfl, rv, r0⟩ := rd
    cases r0
    obtain ⟨a, xs, rfl, h1, h2⟩ := kvOf_rep R e2 rv
    refine ⟨a, xs, rfl, h1, ?_⟩
    rw [h2.len]
    exact fin R k q2 rfl
end
end DL
set_option Elab.async false
set_option linter.all false
set_option maxRecDepth 100000
set_option maxHeartbeats 4000000
namespace DL
open PySem PySem.Spec PyProof.Rows L2
/-! ### walks by place, walks by what is behind and ahead -/
theorem rangeD_s (lo : Int) (n : Nat) : rangeD lo (n + 1) = .int lo :: rangeD (lo + 1) n := by
  unfold rangeD
  rw [List.range_succ_eq_map, List.map_cons, List.map_map]
  congr 1
  · show D.int (lo + ((0 : Nat) : Int)) = _
    rw [Int.natCast_zero, Int.add_zero]
  · apply List.map_congr_left
    intro a _
    show D.int (lo + ((a + 1 : Nat) : Int)) = D.int (lo + 1 + (a : Int))
    congr 1
    omega
theorem loop_rng {S : Gp → Prop} {g : DTG} {tb : DTS} {E : DEnds} (n : Nat) (lo : Int) (W : Nat → DS → Gp → Prop)
    (hs : ∀ j δ G (K : DS → Gp → Prop), j < n → W j δ G → (∀ δ G, W (j + 1) δ G → K δ G) → S G ∧ g (.int (lo + (j : Nat))) δ G fun δ1 G1 => tb { nx := K, ct := K, bk := E.nx, rt := E.rt } δ1 G1)
    (he : ∀ δ G, W n δ G → S G ∧ E.nx δ G) (δ : DS) (G : Gp) (h0 : W 0 δ G) : dLoop S g tb E (rangeD lo n) δ G := by
  refine loop_ind (fun ds δ G' => ∃ j, j ≤ n ∧ ds = rangeD (lo + (j : Nat)) (n - j) ∧ W j δ G') ?_ ?_ _ _ _ ⟨0, Nat.zero_le _, by rw [Int.natCast_zero, Int.add_zero, Nat.sub_zero], h0⟩
  · rintro x r δ G' K ⟨j, hj, e, w⟩ hK
    have lt : j < n := by
      rcases Nat.lt_or_ge j n with h | h
      · exact h
      · rw [show n - j = 0 by omega] at e
        cases e
    rw [show n - j = (n - (j + 1)) + 1 by omega, rangeD_s] at e
    injection e with e1 e2
    subst e1
    refine hs j δ G' K lt w fun δ2 G2 w2 => hK _ _ ⟨j + 1, lt, ?_, w2⟩
    rw [e2]
    congr 1
    omega
  · rintro δ G' ⟨j, hj, e, w⟩
    have : j = n := by
      rcases Nat.lt_or_ge j n with h | h
      · rw [show n - j = (n - (j + 1)) + 1 by omega, rangeD_s] at e
        cases e
      · omega
    subst this
    exact he _ _ w
theorem loop_map {α : Type} {S : Gp → Prop} {g : DTG} {tb : DTS} {E : DEnds} (f : α → D) (xs : List α) (W : List α → DS → Gp → Prop)
    (hs : ∀ pre x post δ G (K : DS → Gp → Prop), xs = pre ++ x :: post → W pre δ G → (∀ δ G, W (pre ++ [x]) δ G → K δ G) → S G ∧ g (f x) δ G fun δ1 G1 => tb { nx := K, ct := K, bk := E.nx, rt := E.rt } δ1 G1)
    (he : ∀ δ G, W xs δ G → S G ∧ E.nx δ G) (δ : DS) (G : Gp) (h0 : W [] δ G) : dLoop S g tb E (xs.map f) δ G := by
  refine loop_ind (fun ds δ G' => ∃ pre post, xs = pre ++ post ∧ ds = post.map f ∧ W pre δ G') ?_ ?_ _ _ _ ⟨[], xs, rfl, rfl, h0⟩
  · rintro x r δ G' K ⟨pre, post, e, e2, w⟩ hK
    cases post with
    | nil => cases e2
    | cons y post =>
      rw [List.map_cons] at e2
      injection e2 with e3 e4
      subst e3
      exact hs pre y post δ G' K e w fun δ2 G2 w2 => hK _ _ ⟨pre ++ [y], post, by rw [e, List.append_assoc]; rfl, e4, w2⟩
  · rintro δ G' ⟨pre, post, e, e2, w⟩
    cases post with
    | cons y post => cases e2
    | nil =>
      rw [List.append_nil] at e
      subst e
      exact he _ _ w
theorem comp_rng {S : Gp → Prop} {g : DTG} {tt : DTT} {te : DTE} {δ : DS} {Q : List D → Gp → Prop} (n : Nat) (lo : Int) (W : Nat → List D → Gp → Prop)
    (hs : ∀ j acc G (K : List D → Gp → Prop), j < n → W j acc G → (∀ acc G, W (j + 1) acc G → K acc G) → S G ∧ g (.int (lo + (j : Nat))) δ G fun δ1 G1 => tt δ1 G1 fun b G2 => dCond b (te δ1 G2 fun y G3 => acc.length < sizeLine ∧ K (acc ++ [y]) G3) (K acc G2))
    (he : ∀ acc G, W n acc G → S G ∧ Q acc G) (G : Gp) (h0 : W 0 [] G) : dComp S g tt te δ Q (rangeD lo n) [] G := by
  refine comp_ind (fun ds acc G' => ∃ j, j ≤ n ∧ ds = rangeD (lo + (j : Nat)) (n - j) ∧ W j acc G') ?_ ?_ _ _ _ ⟨0, Nat.zero_le _, by rw [Int.natCast_zero, Int.add_zero, Nat.sub_zero], h0⟩
  · rintro x r acc G' K ⟨j, hj, e, w⟩ hK
    have lt : j < n := by
      rcases Nat.lt_or_ge j n with h | h
      · exact h
      · rw [show n - j = 0 by omega] at e
        cases e
    rw [show n - j = (n - (j + 1)) + 1 by omega, rangeD_s] at e
    injection e with e1 e2
    subst e1
    refine hs j acc G' K lt w fun δ2 G2 w2 => hK _ _ ⟨j + 1, lt, ?_, w2⟩
    rw [e2]
    congr 1
    omega
  · rintro acc G' ⟨j, hj, e, w⟩
    have : j = n := by
      rcases Nat.lt_or_ge j n with h | h
      · rw [show n - j = (n - (j + 1)) + 1 by omega, rangeD_s] at e
        cases e
      · omega
    subst this
    exact he _ _ w
theorem comp_list {α : Type} {S : Gp → Prop} {g : DTG} {tt : DTT} {te : DTE} {δ : DS} {Q : List D → Gp → Prop} (f : α → D) (xs : List α) (W : List α → List D → Gp → Prop)
    (hs : ∀ pre x post acc G (K : List D → Gp → Prop), xs = pre ++ x :: post → W pre acc G → (∀ acc G, W (pre ++ [x]) acc G → K acc G) → S G ∧ g (f x) δ G fun δ1 G1 => tt δ1 G1 fun b G2 => dCond b (te δ1 G2 fun y G3 => acc.length < sizeLine ∧ K (acc ++ [y]) G3) (K acc G2))
    (he : ∀ acc G, W xs acc G → S G ∧ Q acc G) (G : Gp) (h0 : W [] [] G) : dComp S g tt te δ Q (xs.map f) [] G := by
  refine comp_ind (fun ds acc G' => ∃ pre post, xs = pre ++ post ∧ ds = post.map f ∧ W pre acc G') ?_ ?_ _ _ _ ⟨[], xs, rfl, rfl, h0⟩
  · rintro x r acc G' K ⟨pre, post, e, e2, w⟩ hK
    cases post with
    | nil => cases e2
    | cons y post =>
      rw [List.map_cons] at e2
      injection e2 with e3 e4
      subst e3
      exact hs pre y post acc G' K e w fun δ2 G2 w2 => hK _ _ ⟨pre ++ [y], post, by rw [e, List.append_assoc]; rfl, e4, w2⟩
  · rintro acc G' ⟨pre, post, e, e2, w⟩
    cases post with
    | cons y post => cases e2
    | nil =>
      rw [List.append_nil] at e
      subst e
      exact he _ _ w
theorem cut_map {α : Type} (f : α → D) (xs : List α) (lo hi : Option Int) : cutD (xs.map f) lo hi = (cutD xs lo hi).map f := by
  unfold cutD
  rw [List.length_map, List.map_take, List.map_drop]
end DL
set_option Elab.async false
set_option linter.all false
set_option maxRecDepth 100000
set_option maxHeartbeats 4000000
namespace DL
open PySem PySem.Spec PyProof.Rows L2
/-! ### sorted of ints -/
def dSortI : RA := fun ds G Q => optQ ((lv1 ds).bind intsOf) fun ns => ∀ ns' : List Int, ns'.Perm ns → ns'.Pairwise (· ≤ ·) → Q (.lv (ns'.map .int)) G
theorem dSortI_e {ds : List D} {G : Gp} {Q : D → Gp → Prop} : dSortI ds G Q = optQ ((lv1 ds).bind intsOf) fun ns => ∀ ns' : List Int, ns'.Perm ns → ns'.Pairwise (· ≤ ·) → Q (.lv (ns'.map .int)) G := (rfl)
theorem lift_sortI {K : KW} : LiftA K (rSortedI K) dSortI := by
  intro F H G ds vs Q Q0 R rd q k
  replace q := optQ_ex q
  obtain ⟨bs, hz, q⟩ := q
  cases h1 : lv1 ds with
  | none => rw [h1] at hz; cases hz
  | some xs =>
    rw [h1] at hz
    have hi : intsOf xs = some bs := hz
    rw [lv1_eq h1] at rd
    obtain ⟨v, rfl, a, ys, rfl, hs, hr⟩ := rl1 rd
    have e := intsOf_rep hr hi
    subst e
    exact ⟨a, bs, rfl, .of hs.2, fun ns' p h1 h2 hp => fin_lv R k (RepL.ints ns') (q ns' h1 h2) p hp⟩
theorem ints_map : ∀ ns : List Int, intsOf (ns.map .int) = some ns
  | [] => rfl
  | n :: ns => by
    show (intsOf (ns.map .int)).map _ = _
    rw [ints_map ns]
    rfl
theorem sorted_eq : ∀ {xs ys : List Int}, xs.Perm ys → xs.Pairwise (· < ·) → ys.Pairwise (· ≤ ·) → ys = xs := by
  intro xs
  induction xs with
  | nil => intro ys p _ _; exact List.Perm.nil_eq p |>.symm
  | cons x xs ih =>
    intro ys p h1 h2
    rw [List.pairwise_cons] at h1
    cases ys with
    | nil => cases p.length_eq
    | cons y ys =>
      rw [List.pairwise_cons] at h2
      have e : y = x := by
        have m1 : x ∈ y :: ys := p.subset List.mem_cons_self
        have m2 : y ∈ x :: xs := p.symm.subset List.mem_cons_self
        rcases List.mem_cons.mp m1 with m1 | m1
        · exact m1.symm
        · rcases List.mem_cons.mp m2 with m2 | m2
          · exact m2
          · have a := h2.1 x m1
            have b := h1.1 y m2
            omega
      subst e
      rw [ih (p.cons_inv) h1.2 h2.2]
/-! ### one statement after the other -/
theorem seq_step {s rest : DTS} {E : DEnds} {δ : DS} {G : Gp} (h : ∀ nx : DS → Gp → Prop, (∀ δ G, rest E δ G → nx δ G) → s { E with nx := nx } δ G) : dSeq s rest E δ G := h _ fun _ _ q => q
theorem seq_join {s rest : DTS} {E : DEnds} {δ : DS} {G : Gp} (W : DS → Gp → Prop) (h1 : ∀ nx : DS → Gp → Prop, (∀ δ G, W δ G → nx δ G) → s { E with nx := nx } δ G) (h2 : ∀ δ G, W δ G → rest E δ G) : dSeq s rest E δ G := h1 _ h2
theorem atI_m1 {α : Type} (a b c : α) : atI [a, b, c] (-2) = some b := rfl
theorem atI_m2 {α : Type} (a b c : α) : atI [a, b, c] (-1) = some c := rfl
theorem atI_m3 {α : Type} (a b c d : α) : atI [a, b, c, d] (-2) = some c := rfl
theorem atI_m4 {α : Type} (a b c d : α) : atI [a, b, c, d] (-1) = some d := rfl
end DL
set_option Elab.async false
set_option linter.all false
set_option maxRecDepth 100000
set_option maxHeartbeats 4000000
namespace DL
open PySem PySem.Spec PyProof.Rows L2
section
variable {X : Cx} {K : KW} {F F' : Fr} {H H' : Hp} {G G' : Gp} {a b c e tg : Expr} {es rest : List Expr} {ta tb tc te : DTE} {t u : DTT} {tr : DTA} {pos : Pos}
theorem stay_hidK {D : Addr} {xs : List (L2.Key × V)} {o : HO} (hD : H D = some (.dK xs)) (nF : ¬ F D) : Stay F H F (upd H D o) where
  tup a ys ob h := by rw [upd_ne (fun z => by subst z; rw [hD] at h; cases h)]; exact h
  lst a ys f h := ⟨f, by rw [upd_ne (show a ≠ D from fun z => nF (z ▸ f))]; exact h⟩
  frz a ob ys h := by rw [upd_ne (fun z => by subst z; rw [hD] at h; cases h)]; exact h
  dic a ys f h := by
    have n : a ≠ D := fun z => nF (z ▸ f)
    refine ⟨f, ?_⟩
    rcases h with h | ⟨o, h⟩
    · exact .inl (by rw [upd_ne n]; exact h)
    · exact .inr ⟨o, by rw [upd_ne n]; exact h⟩
  pdc a od φ h := by rw [upd_ne (fun z => by subst z; rw [hD] at h; cases h)]; exact h
  cod a q f h := ⟨f, by rw [upd_ne (show a ≠ D from fun z => nF (z ▸ f))]; exact h⟩
theorem rel_hidK (R : Rel K F H G) {D : Addr} {xs : List (L2.Key × V)} {o : HO} (hD : H D = some (.dK xs)) (nF : ¬ F D) (nG : G D = none) : Rel K F (upd H D o) G where
  obj a m e := by
    have n : a ≠ D := fun z => by subst z; rw [nG] at e; cases e
    exact RepO.stay (stay_hidK hD nF) (fun x y h => by rw [upd_ne (fun z => by subst z; rw [hD] at h; cases h)]; exact h) (upd_ne n) (R.obj a m e)
  fr := R.fr
  al a f := by rw [upd_ne (show a ≠ D from fun z => nF (z ▸ f))]; exact R.al a f
def dDComp (S : Gp → Prop) (g : DTG) (tt : DTT) (tk te : DTE) (δ : DS) (Q : List (L2.Key × D) → Gp → Prop) : List D → List (L2.Key × D) → Gp → Prop
  | [], acc, G => S G ∧ Q acc G
  | d :: r, acc, G => S G ∧ g d δ G fun δ1 G1 => tt δ1 G1 fun b G2 => dCond b (tk δ1 G2 fun x G3 => te δ1 G3 fun y G4 => optQ (keyOf x) fun k => acc.length < sizeLine ∧ dDComp S g tt tk te δ Q r (putD acc k y) G4) (dDComp S g tt tk te δ Q r acc G2)
def dDc (wi : DTI) (g : DTG) (tt : DTT) (tk te : DTE) (vs : List Nat) : DTE := fun δ G Q => wi δ G fun ds S G1 => dDComp S g tt tk te (wipeS δ vs) (fun acc G2 => Q (.dv acc) G2) ds [] G1
theorem dDc_e {wi : DTI} {g : DTG} {tt : DTT} {tk te : DTE} {vs : List Nat} {δ : DS} {G : Gp} {Q : D → Gp → Prop} : dDc wi g tt tk te vs δ G Q = wi δ G fun ds S G1 => dDComp S g tt tk te (wipeS δ vs) (fun acc G2 => Q (.dv acc) G2) ds [] G1 := (rfl)
/-- the turns of a list comprehension -/
theorem comp_core {g : DTG} {vs : List Nat} {δ : DS} {σ : L2.St} {Q' : D → Gp → Prop} {Q : VK} (R : Rel K F H G) (S : RepS K F H δ σ) (k : ∀ v H', post (F := F) K H G Q' v H' → Q v H') {ds : List D} {Sb : Gp → Prop} {J : It} {F1 : Fr} {H1 : Hp} {G1 : Gp} (k1 : Keep F H G F1 H1 G1) (R1 : Rel K F1 H1 G1) (wk : Walked K J F1 H1 G1 ds Sb)
    (q1 : dComp Sb g t te (wipeS δ vs) (fun acc G2 => Q' (.lv acc) G2) ds [] G1) : ∀ D, H1 D = none → ∃ W : Nat → Nat → Hp → Prop, (∃ m, W 0 m (upd H1 D (.lst []))) ∧ ∀ i m H, W i m H →
  (J.stop i H ∧ Q (.ref D) H) ∨ (J.go i H ∧ ∃ Nx : Hp → Prop, (∀ H', Nx H' → ∃ m', m' < m ∧ W (i + 1) m' H') ∧ ∀ x H', J.yld i H x H' → upG K (Pw vs) g x (wipe σ vs) H' fun σ2 H2 => wipe σ2 vs = wipe σ vs ∧ upT K t σ2 H2 fun b H3 =>
    if b = true then up K te σ2 H3 fun y H4 => ∃ acc, H4 D = some (.lst acc) ∧ acc.length < sizeLine ∧ Nx (upd H4 D (.lst (acc ++ [y]))) else Nx H3) := by
  intro D hD
  have S1 := (S.mono R k1).wipe vs
  have gD : G1 D = none := R1.off0 hD
  have fD : ¬ F1 D := fun f => R1.al D f hD
  refine ⟨fun i m H2 => m = ds.length - i ∧ i ≤ ds.length ∧ ∃ F2 G2 acc xs, Keep F1 H1 G1 F2 H2 G2 ∧ Rel K F2 H2 G2 ∧ RepS K F2 H2 (wipeS δ vs) (wipe σ vs) ∧ G2 D = none ∧ ¬ F2 D ∧ H2 D = some (.lst xs) ∧ RepL K F2 H2 acc xs ∧
      dComp Sb g t te (wipeS δ vs) (fun acc G2 => Q' (.lv acc) G2) (ds.drop i) acc G2,
    ⟨ds.length, by rw [Nat.sub_zero], Nat.zero_le _, F1, G1, [], [], keep_new R1 hD, rel_new R1 hD, S1.mono R1 (keep_new R1 hD), gD, fD, upd_same, rfl, q1⟩, ?_⟩
  rintro i m H2 ⟨rfl, hi, F2, G2, acc, xs, k2, R2, S2, g2, f2, hD2, ra, q2⟩
  by_cases hlt : i < ds.length
  · have ed : ds.drop i = ds[i] :: ds.drop (i + 1) := List.drop_eq_getElem_cons hlt
    rw [ed] at q2
    obtain ⟨s2, q2⟩ := q2
    obtain ⟨_, go⟩ := wk F2 H2 G2 k2 R2 s2
    obtain ⟨go, yl⟩ := go i ds[i] (List.getElem?_eq_getElem hlt)
    refine .inr ⟨go, fun H' => ∃ F3 G3 acc xs, Keep F1 H1 G1 F3 H' G3 ∧ Rel K F3 H' G3 ∧ RepS K F3 H' (wipeS δ vs) (wipe σ vs) ∧ G3 D = none ∧ ¬ F3 D ∧ H' D = some (.lst xs) ∧ RepL K F3 H' acc xs ∧
      dComp Sb g t te (wipeS δ vs) (fun acc G2 => Q' (.lv acc) G2) (ds.drop (i + 1)) acc G3, fun H' h => ⟨ds.length - (i + 1), by omega, rfl, hlt, h⟩, fun x H' y => ?_⟩
    obtain ⟨F3, k3, R3, r3⟩ := yl x H' y
    refine ⟨F3, ds[i], wipeS δ vs, G2, _, R3, r3, S2.mono R2 k3, q2, fun σ4 H4 p4 ⟨δ4, F4, G4, k4, R4, S4, q4⟩ => ?_⟩
    refine ⟨?_, F4, δ4, G4, _, R4, S4, q4, fun b H5 ⟨F5, G5, k5, R5, q5⟩ => ?_⟩
    · have w : wipe (wipe σ vs) vs = wipe σ vs := by
        have : ∀ (us : List Nat) (τ : L2.St), (∀ j ∈ us, τ[j]? = some none ∨ τ.length ≤ j) → wipe τ us = τ := by
          intro us
          induction us with
          | nil => intro τ _; rfl
          | cons j us ih =>
            intro τ h
            unfold wipe
            rw [ih τ fun j' h' => h j' (List.mem_cons_of_mem _ h')]
            rcases h j List.mem_cons_self with e | e
            · apply List.ext_getElem?
              intro n
              by_cases z : j = n
              · subst z
                have hl : j < τ.length := (List.getElem?_eq_some_iff.mp e).1
                rw [List.getElem?_set_self hl, e]
              · rw [List.getElem?_set_ne z]
            · exact List.set_eq_of_length_le e
        refine this vs _ fun j hj => ?_
        by_cases hl : j < (wipe σ vs).length
        · cases e : (wipe σ vs)[j]? with
          | none => rw [List.getElem?_eq_none_iff] at e; exact .inr e
          | some o =>
            cases o with
            | none => exact .inl rfl
            | some v => exact absurd hj (wipe_some e).2
        · exact .inr (by omega)
      rw [p4, w]
    · have kk := ((k2.trans k3).trans k4).trans k5
      have k25 := (k3.trans k4).trans k5
      cases b with
      | true =>
        refine iteT ?_
        refine ⟨F5, δ4, G5, _, R5, S4.mono R4 k5, q5, fun v H6 ⟨d, F6, G6, k6, R6, p6, hl, q6⟩ => ?_⟩
        have k26 := k25.trans k6
        obtain ⟨h6, g6, f6⟩ := k26.k D _ g2 hD2
        have nf : ¬ F6 D := fun z => f2 (f6.mp z)
        have ra6 := RepL.mono R2 k26 _ _ ra
        have st := stay_hid (F := F6) (o := .lst (xs ++ [v])) h6 nf
        have k16 := kk.trans k6
        refine ⟨xs, h6, by rw [ra.len]; exact hl, F6, G6, acc ++ [d], xs ++ [v], ⟨fun a u ga ha => ?_⟩, rel_hid R6 h6 nf g6, ?_, g6, nf, upd_same, (RepL.stay st _ _ ra6).app (.one (Rep.stay st _ _ p6)), q6⟩
        · obtain ⟨a1, a2, a3⟩ := k16.k a u ga ha
          refine ⟨by rw [upd_ne (fun z => by subst z; rw [hD] at ha; cases ha)]; exact a1, a2, a3⟩
        · have s6 := S2.mono R2 k26
          exact ⟨s6.len, fun j d' ej => by obtain ⟨v', e1, e2⟩ := s6.at' j d' ej; exact ⟨v', e1, Rep.stay st _ _ e2⟩⟩
      | false =>
        refine iteF ?_
        obtain ⟨h5, g5, f5⟩ := k25.k D _ g2 hD2
        exact ⟨F5, G5, acc, xs, kk, R5, S2.mono R2 k25, g5, fun z => f2 (f5.mp z), h5, RepL.mono R2 k25 _ _ ra, q5⟩
  · have ei : i = ds.length := by omega
    subst ei
    rw [List.drop_length] at q2
    obtain ⟨s2, q2⟩ := q2
    obtain ⟨stop, _⟩ := wk F2 H2 G2 k2 R2 s2
    refine .inl ⟨stop _ (Nat.le_refl _), k _ _ ⟨.lv acc, frzF F2 D, G2, ⟨fun a' u ga ha => ?_⟩, ⟨fun a' m e => ?_, fun a' f => ?_, fun a' f => ?_⟩, ⟨D, xs, rfl, ⟨.inr rfl, hD2⟩, ?_⟩, q2⟩⟩
    · obtain ⟨a1, a2, a3⟩ := (k1.trans k2).k a' u ga ha
      have nD : a' ≠ D := fun z => by
        subst z
        have := (k1.k a' u ga ha).1
        rw [hD] at this
        cases this
      exact ⟨a1, a2, ⟨fun z => z.elim a3.mp fun w => absurd w nD, fun z => .inl (a3.mpr z)⟩⟩
    · have st : Stay F2 H2 (frzF F2 D) H2 := ⟨fun _ _ _ h => h, fun _ _ f h => ⟨.inl f, h⟩, fun _ _ _ h => h, fun _ _ f h => ⟨.inl f, h⟩, fun _ _ _ h => h, fun _ _ f h => ⟨.inl f, h⟩⟩
      exact RepO.stay st (fun _ _ h => h) rfl (R2.obj a' m e)
    · rcases f with f | f
      · exact R2.fr a' f
      · rw [f]; exact g2
    · rcases f with f | f
      · exact R2.al a' f
      · rw [f, hD2]; intro z; cases z
    · have st : Stay F2 H2 (frzF F2 D) H2 := ⟨fun _ _ _ h => h, fun _ _ f h => ⟨.inl f, h⟩, fun _ _ _ h => h, fun _ _ f h => ⟨.inl f, h⟩, fun _ _ _ h => h, fun _ _ f h => ⟨.inl f, h⟩⟩
      exact RepL.stay st _ _ ra
/-- the turns of a dictionary's comprehension -/
theorem dcomp_core {g : DTG} {tk : DTE} {vs : List Nat} {δ : DS} {σ : L2.St} {Q' : D → Gp → Prop} {Q : VK} (R : Rel K F H G) (S : RepS K F H δ σ) (k : ∀ v H', post (F := F) K H G Q' v H' → Q v H') {ds : List D} {Sb : Gp → Prop} {J : It} {F1 : Fr} {H1 : Hp} {G1 : Gp} (k1 : Keep F H G F1 H1 G1) (R1 : Rel K F1 H1 G1) (wk : Walked K J F1 H1 G1 ds Sb)
    (q1 : dDComp Sb g t tk te (wipeS δ vs) (fun acc G2 => Q' (.dv acc) G2) ds [] G1) : ∀ D, H1 D = none → ∃ W : Nat → Nat → Hp → Prop, (∃ m, W 0 m (upd H1 D (.dK []))) ∧ ∀ i m H, W i m H →
  (J.stop i H ∧ Q (.ref D) H) ∨ (J.go i H ∧ ∃ Nx : Hp → Prop, (∀ H', Nx H' → ∃ m', m' < m ∧ W (i + 1) m' H') ∧ ∀ x H', J.yld i H x H' → upG K (Pw vs) g x (wipe σ vs) H' fun σ2 H2 => wipe σ2 vs = wipe σ vs ∧ upT K t σ2 H2 fun b H3 =>
    if b = true then up K tk σ2 H3 fun y H4 => up K te σ2 H4 fun z H5 => ∃ kvs k, y = kV k ∧ H5 D = some (.dK kvs) ∧ kvs.length < sizeLine ∧ Nx (upd H5 D (.dK (putK kvs k z))) else Nx H3) := by
  intro D hD
  have S1 := (S.mono R k1).wipe vs
  have gD : G1 D = none := R1.off0 hD
  have fD : ¬ F1 D := fun f => R1.al D f hD
  refine ⟨fun i m H2 => m = ds.length - i ∧ i ≤ ds.length ∧ ∃ F2 G2 acc xs, Keep F1 H1 G1 F2 H2 G2 ∧ Rel K F2 H2 G2 ∧ RepS K F2 H2 (wipeS δ vs) (wipe σ vs) ∧ G2 D = none ∧ ¬ F2 D ∧ H2 D = some (.dK xs) ∧ RepK K F2 H2 acc xs ∧
      dDComp Sb g t tk te (wipeS δ vs) (fun acc G2 => Q' (.dv acc) G2) (ds.drop i) acc G2,
    ⟨ds.length, by rw [Nat.sub_zero], Nat.zero_le _, F1, G1, [], [], keep_new R1 hD, rel_new R1 hD, S1.mono R1 (keep_new R1 hD), gD, fD, upd_same, rfl, q1⟩, ?_⟩
  rintro i m H2 ⟨rfl, hi, F2, G2, acc, xs, k2, R2, S2, g2, f2, hD2, ra, q2⟩
  by_cases hlt : i < ds.length
  · have ed : ds.drop i = ds[i] :: ds.drop (i + 1) := List.drop_eq_getElem_cons hlt
    rw [ed] at q2
    obtain ⟨s2, q2⟩ := q2
    obtain ⟨_, go⟩ := wk F2 H2 G2 k2 R2 s2
    obtain ⟨go, yl⟩ := go i ds[i] (List.getElem?_eq_getElem hlt)
    refine .inr ⟨go, fun H' => ∃ F3 G3 acc xs, Keep F1 H1 G1 F3 H' G3 ∧ Rel K F3 H' G3 ∧ RepS K F3 H' (wipeS δ vs) (wipe σ vs) ∧ G3 D = none ∧ ¬ F3 D ∧ H' D = some (.dK xs) ∧ RepK K F3 H' acc xs ∧
      dDComp Sb g t tk te (wipeS δ vs) (fun acc G2 => Q' (.dv acc) G2) (ds.drop (i + 1)) acc G3, fun H' h => ⟨ds.length - (i + 1), by omega, rfl, hlt, h⟩, fun x H' y => ?_⟩
    obtain ⟨F3, k3, R3, r3⟩ := yl x H' y
    refine ⟨F3, ds[i], wipeS δ vs, G2, _, R3, r3, S2.mono R2 k3, q2, fun σ4 H4 p4 ⟨δ4, F4, G4, k4, R4, S4, q4⟩ => ?_⟩
    refine ⟨?_, F4, δ4, G4, _, R4, S4, q4, fun b H5 ⟨F5, G5, k5, R5, q5⟩ => ?_⟩
    · have w : wipe (wipe σ vs) vs = wipe σ vs := by
        have : ∀ (us : List Nat) (τ : L2.St), (∀ j ∈ us, τ[j]? = some none ∨ τ.length ≤ j) → wipe τ us = τ := by
          intro us
          induction us with
          | nil => intro τ _; rfl
          | cons j us ih =>
            intro τ h
            unfold wipe
            rw [ih τ fun j' h' => h j' (List.mem_cons_of_mem _ h')]
            rcases h j List.mem_cons_self with e | e
            · apply List.ext_getElem?
              intro n
              by_cases z : j = n
              · subst z
                have hl : j < τ.length := (List.getElem?_eq_some_iff.mp e).1
                rw [List.getElem?_set_self hl, e]
              · rw [List.getElem?_set_ne z]
            · exact List.set_eq_of_length_le e
        refine this vs _ fun j hj => ?_
        by_cases hl : j < (wipe σ vs).length
        · cases e : (wipe σ vs)[j]? with
          | none => rw [List.getElem?_eq_none_iff] at e; exact .inr e
          | some o =>
            cases o with
            | none => exact .inl rfl
            | some v => exact absurd hj (wipe_some e).2
        · exact .inr (by omega)
      rw [p4, w]
    · have kk := ((k2.trans k3).trans k4).trans k5
      have k25 := (k3.trans k4).trans k5
      cases b with
      | true =>
        refine iteT ?_
        refine ⟨F5, δ4, G5, _, R5, S4.mono R4 k5, q5, fun v0 H5' ⟨d0, F5', G5', k5', R5', p5', q5'⟩ => ?_⟩
        refine ⟨F5', δ4, G5', _, R5', (S4.mono R4 k5).mono R5 k5', q5', fun v H6 ⟨d, F6, G6, k6, R6, p6, q6⟩ => ?_⟩
        obtain ⟨ky, ek, hl, q6⟩ := optQ_ex q6
        have k26 := (k25.trans k5').trans k6
        obtain ⟨h6, g6, f6⟩ := k26.k D _ g2 hD2
        have nf : ¬ F6 D := fun z => f2 (f6.mp z)
        have ra6 := RepK.mono R2 k26 _ _ ra
        have st := stay_hidK (F := F6) (o := .dK (putK xs ky v)) h6 nf
        have k16 := (kk.trans k5').trans k6
        refine ⟨xs, ky, keyOf_rep ek p5', h6, by rw [ra.len]; exact hl, F6, G6, putD acc ky d, putK xs ky v, ⟨fun a u ga ha => ?_⟩, rel_hidK R6 h6 nf g6, ?_, g6, nf, upd_same, putK_rep (Rep.stay st _ _ p6) (RepK.stay st _ _ ra6), q6⟩
        · obtain ⟨a1, a2, a3⟩ := k16.k a u ga ha
          refine ⟨by rw [upd_ne (fun z => by subst z; rw [hD] at ha; cases ha)]; exact a1, a2, a3⟩
        · have s6 := S2.mono R2 k26
          exact ⟨s6.len, fun j d' ej => by obtain ⟨v', e1, e2⟩ := s6.at' j d' ej; exact ⟨v', e1, Rep.stay st _ _ e2⟩⟩
      | false =>
        refine iteF ?_
        obtain ⟨h5, g5, f5⟩ := k25.k D _ g2 hD2
        exact ⟨F5, G5, acc, xs, kk, R5, S2.mono R2 k25, g5, fun z => f2 (f5.mp z), h5, RepK.mono R2 k25 _ _ ra, q5⟩
  · have ei : i = ds.length := by omega
    subst ei
    rw [List.drop_length] at q2
    obtain ⟨s2, q2⟩ := q2
    obtain ⟨stop, _⟩ := wk F2 H2 G2 k2 R2 s2
    refine .inl ⟨stop _ (Nat.le_refl _), k _ _ ⟨.dv acc, frzF F2 D, G2, ⟨fun a' u ga ha => ?_⟩, ⟨fun a' m e => ?_, fun a' f => ?_, fun a' f => ?_⟩, ⟨D, xs, rfl, ⟨.inr rfl, .of hD2⟩, ?_⟩, q2⟩⟩
    · obtain ⟨a1, a2, a3⟩ := (k1.trans k2).k a' u ga ha
      have nD : a' ≠ D := fun z => by
        subst z
        have := (k1.k a' u ga ha).1
        rw [hD] at this
        cases this
      exact ⟨a1, a2, ⟨fun z => z.elim a3.mp fun w => absurd w nD, fun z => .inl (a3.mpr z)⟩⟩
    · have st : Stay F2 H2 (frzF F2 D) H2 := ⟨fun _ _ _ h => h, fun _ _ f h => ⟨.inl f, h⟩, fun _ _ _ h => h, fun _ _ f h => ⟨.inl f, h⟩, fun _ _ _ h => h, fun _ _ f h => ⟨.inl f, h⟩⟩
      exact RepO.stay st (fun _ _ h => h) rfl (R2.obj a' m e)
    · rcases f with f | f
      · exact R2.fr a' f
      · rw [f]; exact g2
    · rcases f with f | f
      · exact R2.al a' f
      · rw [f, hD2]; intro z; cases z
    · have st : Stay F2 H2 (frzF F2 D) H2 := ⟨fun _ _ _ h => h, fun _ _ f h => ⟨.inl f, h⟩, fun _ _ _ h => h, fun _ _ f h => ⟨.inl f, h⟩, fun _ _ _ h => h, fun _ _ f h => ⟨.inl f, h⟩⟩
      exact RepK.stay st _ _ ra
theorem q_dc {kx vx iter : Expr} {ifs : List Expr} {scope : Scope} {own : List (Str × Nat)} {wi : DTI} {g : DTG} {tk : DTE} (hc : X.calm = true) (hN : X.N.Nodup) (hi : QI X tg iter wi) (ok : blkC X.N X.env.scope scope own = true)
    (hg : ∀ (s : Shared) (H : Hp) (C : Addr) (cl : List (Str × Addr)) (fp : List Addr), QG (X.blk s H scope (compEnvC scope cl C X.env) fp) (Pw (own.map (·.2))) tg g) (ht : ∀ (s : Shared) (H : Hp) (C : Addr) (cl : List (Str × Addr)) (fp : List Addr), QTs (X.blk s H scope (compEnvC scope cl C X.env) fp) ifs t)
    (hk : ∀ (s : Shared) (H : Hp) (C : Addr) (cl : List (Str × Addr)) (fp : List Addr), QE (X.blk s H scope (compEnvC scope cl C X.env) fp) kx tk)
    (he : ∀ (s : Shared) (H : Hp) (C : Addr) (cl : List (Str × Addr)) (fp : List Addr), QE (X.blk s H scope (compEnvC scope cl C X.env) fp) vx te) (hs : ∀ x, foldedSetIterable iter X.env x = pure x := by intro _; rfl) :
    QE X (.DictComp kx vx [⟨tg, iter, ifs, 0⟩] scope pos) (dDc wi g t tk te (own.map (·.2))) := PEmono (pe_dc (g := upG (kw X) (Pw (own.map fun (p : Str × Nat) => p.2)) g) (tt := upT (kw X) t) (tk := up (kw X) tk) (tv := up (kw X) te) hc hN hi (blkOk_by ok) hg ht hk he hs) fun σ H Q ⟨F, δ, G, Q', R, S, q, k⟩ =>
    ⟨F, δ, G, _, R, S, q, fun ds Sb J F1 H1 G1 k1 R1 wk q1 => dcomp_core R S k k1 R1 wk q1⟩
/-! ### in, over a row or a dictionary -/
def dInU (n : Bool) : R2d := fun x y G Q => match kvOf y G with
  | some _ => dDIn n x y G Q
  | none => dInR n x y G Q
theorem dInU_1 {n : Bool} {x : D} {kvs : List (L2.Key × D)} {G : Gp} {Q : D → Gp → Prop} : dInU n x (.dv kvs) G Q = optQ (keyOf x) fun k => Q (.bl (xor n (valD kvs k).isSome)) G := (rfl)
theorem dInU_2 {n : Bool} {x : D} {ds : List D} {G : Gp} {Q : D → Gp → Prop} : dInU n x (.tup ds) G Q = dInR n x (.tup ds) G Q := (rfl)
theorem dInU_3 {n : Bool} {x : D} {ds : List D} {G : Gp} {Q : D → Gp → Prop} : dInU n x (.lv ds) G Q = dInR n x (.lv ds) G Q := (rfl)
theorem lift_inU {n : Bool} : Lift2 K (fun x y H Q => r0In K n x y H Q ∨ rDIn n x y H Q) (dInU n) := by
  intro F H G d e v u Q Q0 R rd re q k
  unfold dInU at q
  split at q
  · exact .inr (lift_din F H G d e v u Q Q0 R rd re q k)
  · exact .inl (lift_in n F H G d e v u Q Q0 R rd re q k)
theorem q_uin (hu : X.A.units + 190 < cLine) (ha : QE X a ta) (hb : QE X b tb) (hm : behindInMarks .In b = false := by rfl) : QE X (.Compare a [.In] [b] pos) (dOp (dInU false) ta tb) := q_cmp (OpR.or (op_inU hu) (op_din hu)) lift_inU ha hb hm
theorem q_unin (hu : X.A.units + 190 < cLine) (ha : QE X a ta) (hb : QE X b tb) (hm : behindInMarks .NotIn b = false := by rfl) : QE X (.Compare a [.NotIn] [b] pos) (dOp (dInU true) ta tb) := q_cmp (OpR.or (op_ninU hu) (op_dnin hu)) lift_inU ha hb hm
theorem q_tuin (hu : X.A.units + 190 < cLine) (ha : QE X a ta) (hb : QE X b tb) (hm : behindInMarks .In b = false := by rfl) : QT X (.Compare a [.In] [b] pos) (dTest (dOp (dInU false) ta tb)) := q_tcmp (OpR.or (op_inU hu) (op_din hu)) lift_inU ha hb hm
theorem q_tunin (hu : X.A.units + 190 < cLine) (ha : QE X a ta) (hb : QE X b tb) (hm : behindInMarks .NotIn b = false := by rfl) : QT X (.Compare a [.NotIn] [b] pos) (dTest (dOp (dInU true) ta tb)) := q_tcmp (OpR.or (op_ninU hu) (op_dnin hu)) lift_inU ha hb hm
/-! ### a list comprehension over a row or a dictionary's names -/
def dLcU (i : Nat) (g : DTG) (tt : DTT) (te : DTE) (vs : List Nat) : DTE := fun δ G Q => match (getS δ i).bind dvOf with
  | some kvs => keysOk kvs = true ∧ dComp (fun _ => True) g tt te (wipeS δ vs) (fun acc G2 => Q (.lv acc) G2) (kvs.map fun kv => keyD kv.1) [] G
  | none => dLc (dIt (dVar i)) g tt te vs δ G Q
theorem dLcU_e {i : Nat} {g : DTG} {tt : DTT} {te : DTE} {vs : List Nat} {δ : DS} {G : Gp} {Q : D → Gp → Prop} : dLcU i g tt te vs δ G Q = match (getS δ i).bind dvOf with
  | some kvs => keysOk kvs = true ∧ dComp (fun _ => True) g tt te (wipeS δ vs) (fun acc G2 => Q (.lv acc) G2) (kvs.map fun kv => keyD kv.1) [] G
  | none => dLc (dIt (dVar i)) g tt te vs δ G Q := (rfl)
theorem q_lcU {elt : Expr} {ifs : List Expr} {scope : Scope} {own : List (Str × Nat)} {g : DTG} {x : Str} {p : Pos} (i : Nat) (hc : X.calm = true) (hN : X.N.Nodup) (hi : PE X (.Name x p) (tVar i)) (ok : blkC X.N X.env.scope scope own = true)
    (hg : ∀ (s : Shared) (H : Hp) (C : Addr) (cl : List (Str × Addr)) (fp : List Addr), QG (X.blk s H scope (compEnvC scope cl C X.env) fp) (Pw (own.map (·.2))) tg g) (ht : ∀ (s : Shared) (H : Hp) (C : Addr) (cl : List (Str × Addr)) (fp : List Addr), QTs (X.blk s H scope (compEnvC scope cl C X.env) fp) ifs t)
    (he : ∀ (s : Shared) (H : Hp) (C : Addr) (cl : List (Str × Addr)) (fp : List Addr), QE (X.blk s H scope (compEnvC scope cl C X.env) fp) elt te) (hs : ∀ z, foldedSetIterable (.Name x p) X.env z = pure z := by intro _; rfl) :
    QE X (.ListComp elt [⟨tg, .Name x p, ifs, 0⟩] scope pos) (dLcU i g t te (own.map (·.2))) := by
  have base1 := q_lc (pos := pos) hc hN (qi (q_of hi)) ok hg ht he hs
  have base2 := pe_lc (pos := pos) (g := upG (kw X) (Pw (own.map fun (p : Str × Nat) => p.2)) g) (tt := upT (kw X) t) (te := up (kw X) te) hc hN (pi_keys hi) (blkOk_by ok) hg ht he hs
  have lock := pe_lock base2
  refine ⟨fun pins s σ H Q I h => ?_⟩
  obtain ⟨F, δ, G, Q', R, S, q, k⟩ := h
  unfold dLcU at q
  cases e1 : getS δ i with
  | none =>
    rw [e1] at q
    exact base1.run pins s σ H Q I ⟨F, δ, G, Q', R, S, q, k⟩
  | some dd =>
    rw [e1] at q
    cases e2 : dvOf dd with
    | none =>
      rw [Option.bind_some, e2] at q
      exact base1.run pins s σ H Q I ⟨F, δ, G, Q', R, S, q, k⟩
    | some kvs =>
      rw [Option.bind_some, e2] at q
      obtain ⟨okk, q⟩ := q
      cases dd with
      | dv ks =>
        cases e2
        obtain ⟨v, hv, rv⟩ := S.at' i _ e1
        obtain ⟨a, xs, rfl, ⟨f, hr⟩, rk⟩ := rv
        have nG := R.fr a f
        rcases hr with hr | ⟨o, hr⟩
        · refine lock.run pins s σ H Q I ⟨a, _, hr, trivial, fun od => ⟨.ref a, hv, a, od, rfl, .inl ⟨xs, upd_same, ?_⟩⟩⟩
          have sl := stay_lock (F := F) (od := od) hr
          have R2 := rel_at R sl nG (fun y z => by rw [hr] at z; cases z)
          refine comp_core (Q' := Q') (Q := fun v H' => H' a = some (.frz od (.dK xs)) ∧ Q v (upd H' a (.dK xs))) R2 (S.stay sl) (fun v H' h => ?_) .refl R2 (walked_k upd_same nG rk.keys okk) q
          obtain ⟨d, F2, G2, k2, R3, p2, q2⟩ := h
          obtain ⟨h1, g1, k3⟩ := keep_lock hr nG k2
          have s2 := stay_free (F := F2) h1
          exact ⟨h1, k _ _ ⟨d, F2, G2, k3, rel_at R3 s2 g1 (fun y z => by rw [h1] at z; cases z), Rep.stay s2 d v p2, q2⟩⟩
        · exact base2.run pins s σ H Q I ⟨.ref a, hv, a, o, rfl, .inl ⟨xs, hr, comp_core (Q' := Q') R S k .refl R (walked_k hr nG rk.keys okk) q⟩⟩
      | _ => cases e2
/-! ### name = {k: v for ..} -/
theorem swapDc {kx vx : Expr} {gs : List Comprehension} {sco : Scope} {p1 py : Pos} {y : Str} {ln : Nat} {ev : Env} (h1 : ev.scope.kind = .function) (h2 : ev.scope.names.lookup y = some .local) (h3 : (py.line == p1.line) = true)
    (h4 : (sco.names.any fun (m, j) => m == y && (j == .local || j == .cell)) = false) : swapsWith (.DictComp kx vx gs sco p1) (some (.Name y py)) ln ev = pure true := by
  have k1 : ev.kindOf y = some .local := h2
  have k2 : ev.blockKind = .function := by
    unfold Env.blockKind
    rw [h1] <;> rfl
  unfold swapsWith
  simp only [k2, k1, h4, Expr.pos, h3]
  first | rfl | decide
theorem ps_setDc {i : Nat} {y : Str} {py : Pos} {kx vx iter : Expr} {ifs : List Expr} {sco : Scope} {own : List (Str × Nat)} {p1 p2 : Pos} {wi : TI} {g : TG} {tt : TT} {tk tv : TE} (hcal : X.calm = true) (hnd : X.N.Nodup) (hy : X.N[i]? = some y) (hloc : X.env.scope.names.lookup y = some .local)
    (hsw : swapsWith (.DictComp kx vx [⟨tg, iter, ifs, 0⟩] sco p1) (some (.Name y py)) p2.line X.env = pure true) (hi : PI X tg iter wi) (okb : BlkOk X.N X.env.scope sco own)
    (fg : ∀ (s : Shared) (H : Hp) (C : Addr) (cl : List (Str × Addr)) (fp : List Addr), PG (X.blk s H sco (compEnvC sco cl C X.env) fp) tg g) (ft : ∀ (s : Shared) (H : Hp) (C : Addr) (cl : List (Str × Addr)) (fp : List Addr), PTs (X.blk s H sco (compEnvC sco cl C X.env) fp) ifs tt)
    (fk : ∀ (s : Shared) (H : Hp) (C : Addr) (cl : List (Str × Addr)) (fp : List Addr), PE (X.blk s H sco (compEnvC sco cl C X.env) fp) kx tk)
    (fv : ∀ (s : Shared) (H : Hp) (C : Addr) (cl : List (Str × Addr)) (fp : List Addr), PE (X.blk s H sco (compEnvC sco cl C X.env) fp) vx tv) (hs : ∀ x, foldedSetIterable iter X.env x = pure x := by intro _; rfl) :
    PS X (.Assign [.Name y py] (.DictComp kx vx [⟨tg, iter, ifs, 0⟩] sco p1) p2) (tAsg (tDc wi g tt tk tv (own.map (·.2))) (gName i)) := by
  refine ⟨fun pins s σ H D Iv hh => ?_⟩
  rw [exec_Assign_Name_used _ _ _ _ hsw]
  refine wpAny_bind (wpAny_standAt (wpAny_bind ?_))
  show wpAny _ X.A (comprehension (.DictComp kx vx [⟨tg, iter, ifs, 0⟩] sco p1) sco X.env (firstIterPos [⟨tg, iter, ifs, 0⟩] p1) newDict false (eval iter X.env) (some (assign (.Name y py) X.env)) >>= _) _ _ s
  have hh : tDc wi g tt tk tv (own.map (·.2)) σ H (fun x H1 => gName i x σ H1 D.nx) := hh
  refine wpAny_bind (thn (dc_core (Qf := fun _ s' => SP X pins D .next s') hcal hnd Iv hi okb fg ft fk fv hs hh fun DA C s' m H' J q hn fo => ?_) fun _ s' hq => wpAny_pure (wpAny_pure hq))
  show wpAny _ _ (assign (.Name y py) X.env (.ref DA)) _ _ _
  refine wpAny_assign_Name (store_ok2 (v := V.ref DA) J hnd hy (.inl hloc) rfl (fun s2 J2 ⟨a, sb, ha⟩ => ?_) (.inr hloc))
  obtain ⟨o0, o1, o2, o3, o4, o5⟩ := fo
  have hne : C ≠ a := by
    rcases ha with z | z
    · rw [z] <;> exact o1
    · exact fun e => o4 y a z e.symm
  refine ⟨m, hn.sameBut sb hne, fun h3 sb3 => ?_⟩
  exact ⟨_, H', J2.turned (t' := s2.toks) (fun b o hb e => Eq.trans (sb3.2 b hb) e) o0 o1 o3 o4 o5, q⟩
theorem qs_setDc {i : Nat} {y : Str} {py : Pos} {kx vx iter : Expr} {ifs : List Expr} {scope : Scope} {own : List (Str × Nat)} {spos : Pos} {wi : DTI} {g : DTG} {tk : DTE} (hc : X.calm = true) (hN : X.N.Nodup) (hy : X.N[i]? = some y) (hyl : X.env.scope.names.lookup y = some .local)
    (hk : X.env.scope.kind = .function) (hl : (py.line == pos.line) = true) (hn : (scope.names.any fun (n, k) => n == y && (k == .local || k == .cell)) = false) (hi : QI X tg iter wi) (ok : blkC X.N X.env.scope scope own = true)
    (hg : ∀ (s : Shared) (H : Hp) (C : Addr) (cl : List (Str × Addr)) (fp : List Addr), QG (X.blk s H scope (compEnvC scope cl C X.env) fp) (Pw (own.map (·.2))) tg g) (ht : ∀ (s : Shared) (H : Hp) (C : Addr) (cl : List (Str × Addr)) (fp : List Addr), QTs (X.blk s H scope (compEnvC scope cl C X.env) fp) ifs t)
    (hx : ∀ (s : Shared) (H : Hp) (C : Addr) (cl : List (Str × Addr)) (fp : List Addr), QE (X.blk s H scope (compEnvC scope cl C X.env) fp) kx tk)
    (he : ∀ (s : Shared) (H : Hp) (C : Addr) (cl : List (Str × Addr)) (fp : List Addr), QE (X.blk s H scope (compEnvC scope cl C X.env) fp) vx te) (hs : ∀ x, foldedSetIterable iter X.env x = pure x := by intro _; rfl) :
    QS X (.Assign [.Name y py] (.DictComp kx vx [⟨tg, iter, ifs, 0⟩] scope pos) spos) (dAsg (dDc wi g t tk te (own.map (·.2))) (dName i)) :=
  PSmono (ps_setDc (g := upG (kw X) (Pw (own.map fun (p : Str × Nat) => p.2)) g) (tt := upT (kw X) t) (tk := up (kw X) tk) (tv := up (kw X) te) hc hN hy hyl (swapDc hk hyl hl hn) hi (blkOk_by ok) hg ht hx he hs)
    fun _ _ _ h => upSet (fun σ H Q ⟨F, δ, G, Q', R, S, q, k⟩ => ⟨F, δ, G, _, R, S, q, fun ds Sb J F1 H1 G1 k1 R1 wk q1 => dcomp_core R S k k1 R1 wk q1⟩) h
end
end DL
set_option Elab.async false
set_option linter.all false
set_option maxRecDepth 100000
set_option maxHeartbeats 4000000
namespace DL
open PySem PySem.Spec PyProof.Rows L2
section
variable {X : Cx} {K : KW} {F F' : Fr} {H H' : Hp} {G G' : Gp} {a : Expr}
/-! ### xs.pop() -/
def dPop (to : DTE) : DTE := fun δ G Q => to δ G fun o G1 => optQ (refOf o) fun p => optQ (lstOf (G1 p)) fun ds => optQ ds[ds.length - 1]? fun d => Q d (updG G1 p (.lst ds.dropLast))
theorem upPop {to : DTE} {σ : L2.St} {Q : VK} (h : up K (dPop to) σ H Q) : tBM0 K "list" rPop (up K to) σ H Q := by
  obtain ⟨F, δ, G, Q', R, S, q, k⟩ := h
  refine ⟨F, δ, G, _, R, S, q, fun v H1 ⟨o, F1, G1, k1, R1, p1, q1⟩ => ?_⟩
  replace q1 := optQ_ex q1
  obtain ⟨p, ep, q1⟩ := q1
  replace q1 := optQ_ex q1
  obtain ⟨es, el, q1⟩ := q1
  replace q1 := optQ_ex q1
  obtain ⟨d, ed, q1⟩ := q1
  have eo := refOf_eq ep
  subst eo
  cases p1
  have eg := lstOf_eq el
  obtain ⟨xs, h1, h2⟩ := R1.obj p _ eg
  obtain ⟨y, e1, r1⟩ := h2.get ed
  have kk := keep_set (F := F1) (H := H1) (o := .lst xs.dropLast) (m' := .lst es.dropLast) eg
  refine ⟨.inl ⟨rfl, _, .of h1⟩, p, xs, y, rfl, rfl, h1, by rw [h2.len]; exact e1, ?_⟩
  have hd : RepL K F1 H1 es.dropLast xs.dropLast := by
    rw [List.dropLast_eq_take, List.dropLast_eq_take, h2.len]
    exact h2.take _
  exact k _ _ ⟨d, F1, _, k1.trans kk, rel_set R1 eg ⟨_, upd_same, RepL.mono R1 kk _ _ hd⟩, Rep.mono R1 kk _ _ r1, q1⟩
theorem q_pop {apos cpos : Pos} {to : DTE} (ho : QE X a to)
    (hbase : attributeBase a "pop" X.env (eval a X.env) = eval a X.env := by rfl)
    (hline : (apos.endLine == cpos.line) = true := by rfl) : QE X (.Call (.Attribute a "pop" apos) [] [] cpos) (dPop to) :=
  PEmono (pe_bm0 PySem.F.plainAttrs_list PySem.F.slot_list_pop PySem.F.type_list_pop mt_pop ho hbase hline) fun _ _ _ h => upPop h
end
/-! ### xs + ys, of which one may still be changed -/
def lsOf : D → Gp → Option (List D)
  | .lv ds, _ => some ds
  | .ref a, G => lstOf (G a)
  | _, _ => none
theorem lsOf_rep {K : KW} {F : Fr} {H : Hp} {G : Gp} {d : D} {v : V} {ds : List D} (R : Rel K F H G) (r : Rep K F H d v) (e : lsOf d G = some ds) : ∃ a xs, v = .ref a ∧ H a = some (.lst xs) ∧ RepL K F H ds xs := by
  unfold lsOf at e
  split at e
  · cases e
    obtain ⟨a, xs, rfl, ha, pa⟩ := r
    exact ⟨a, xs, rfl, ha.2, pa⟩
  · cases r
    obtain ⟨xs, h1, h2⟩ := R.obj _ _ (lstOf_eq e)
    exact ⟨_, xs, rfl, h1, h2⟩
  · cases e
def dAddM : R2d := fun x y G Q => optQ (lsOf x G) fun xs => optQ (lsOf y G) fun ys => xs.length + ys.length ≤ sizeLine ∧ Q (.lv (xs ++ ys)) G
theorem lift_addM {K : KW} : Lift2 K (r0Add K) dAddM := by
  intro F H G d e v u Q Q0 R rd re q k
  replace q := optQ_ex q
  obtain ⟨xs, hx, q⟩ := q
  replace q := optQ_ex q
  obtain ⟨ys, hy, hl, q⟩ := q
  obtain ⟨a, us, rfl, ha, pa⟩ := lsOf_rep R rd hx
  obtain ⟨b, ws, rfl, hb, pb⟩ := lsOf_rep R re hy
  exact .inr (.inr (.inr ⟨a, b, us, ws, rfl, rfl, ha, hb, by rw [pa.len, pb.len]; exact hl, fun p hp => fin_lv R k (pa.app pb) q p hp⟩))
theorem q_addM {X : Cx} {a b : Expr} {ta tb : DTE} {pos : Pos} (ha : QE X a ta) (hb : QE X b tb) : QE X (.BinOp a .Add b pos) (dOp dAddM ta tb) := q_op op_addU lift_addM ha hb
theorem dAddM_e {x y : D} {G : Gp} {Q : D → Gp → Prop} : dAddM x y G Q = optQ (lsOf x G) fun xs => optQ (lsOf y G) fun ys => xs.length + ys.length ≤ sizeLine ∧ Q (.lv (xs ++ ys)) G := (rfl)
theorem lsOf_1 {xs : List D} {G : Gp} : lsOf (.lv xs) G = some xs := (rfl)
theorem lsOf_2 {a : Addr} {G : Gp} : lsOf (.ref a) G = lstOf (G a) := (rfl)
section
variable {to : DTE} {δ : DS} {G : Gp} {Q : D → Gp → Prop}
theorem dPop_e : dPop to δ G Q = to δ G fun o G1 => optQ (refOf o) fun p => optQ (lstOf (G1 p)) fun ds => optQ ds[ds.length - 1]? fun d => Q d (updG G1 p (.lst ds.dropLast)) := (rfl)
end
end DL
set_option Elab.async false
set_option linter.all false
set_option maxRecDepth 100000
set_option maxHeartbeats 4000000
namespace DL
open PySem PySem.Spec PyProof.Rows L2
/-! ### dict(t), t a tuple of pairs -/
def pairD : D → Option (L2.Key × D)
  | .tup [k, v] => (keyOf k).map fun k => (k, v)
  | _ => none
def pairsD : List D → Option (List (L2.Key × D))
  | [] => some []
  | d :: r => (pairD d).bind fun p => (pairsD r).map fun q => p :: q
def pairsA : List D → Option (List (L2.Key × D))
  | [.tup ds] => pairsD ds
  | _ => none
def mergeD (acc kvs : List (L2.Key × D)) : List (L2.Key × D) := kvs.foldl (fun acc kv => putD acc kv.1 kv.2) acc
def dDictC : RA := fun ds G Q => optQ (pairsA ds) fun kvs => Q (.dv (mergeD [] kvs)) G
section
variable {X : Cx} {K : KW} {F F' : Fr} {H H' : Hp} {G G' : Gp}
theorem fin_dv {Q : D → Gp → Prop} {Q0 : VK} {kvs : List (L2.Key × D)} {xs : List (L2.Key × V)} (R : Rel K F H G) (k : ∀ v' H', post K F H G Q v' H' → Q0 v' H') (r : RepK K F H kvs xs) (q : Q (.dv kvs) G) : ∀ p, H p = none → Q0 (.ref p) (upd H p (.dK xs)) := fun p hp =>
  k _ _ ⟨.dv kvs, frzF F p, G, keep_frz R hp, rel_frz R hp, ⟨p, xs, rfl, ⟨.inr rfl, .of upd_same⟩, RepK.mono R (keep_frz R hp) _ _ r⟩, q⟩
theorem pair_rep {d : D} {v : V} {kv : L2.Key × D} (r : Rep K F H d v) (e : pairD d = some kv) : ∃ p u, v = .ref p ∧ SqT K H p [kV kv.1, u] ∧ Rep K F H kv.2 u := by
  unfold pairD at e
  split at e
  · rename_i kd vd
    cases hk : keyOf kd with
    | none => rw [hk] at e; cases e
    | some k =>
      rw [hk] at e
      cases e
      obtain ⟨a, xs, rfl, ha, r⟩ := r
      obtain ⟨v1, v2, rfl, h1, h2⟩ := rl2 r
      rw [← keyOf_rep hk h1]
      exact ⟨a, v2, rfl, ha.sq, h2⟩
  · cases e
theorem pairs_rep : ∀ {ds : List D} {xs : List V} {kvs : List (L2.Key × D)}, RepL K F H ds xs → pairsD ds = some kvs → ∃ ps kvV, xs = ps.map V.ref ∧ Paired (fun p (kv : L2.Key × V) => SqT K H p [kV kv.1, kv.2]) ps kvV ∧ RepK K F H kvs kvV
  | [], _, _, r, e => by cases r; cases e; exact ⟨[], [], rfl, .nil, rfl⟩
  | d :: ds, _, _, ⟨v, vs, e0, h, q⟩, e => by
    subst e0
    unfold pairsD at e
    cases e1 : pairD d with
    | none => rw [e1] at e; cases e
    | some p =>
      cases e2 : pairsD ds with
      | none => rw [e1, e2] at e; cases e
      | some kvs =>
        rw [e1, e2] at e
        cases e
        obtain ⟨pk, pd⟩ := p
        obtain ⟨a, u, rfl, h1, h2⟩ := pair_rep h e1
        obtain ⟨ps, kvV, rfl, h3, h4⟩ := pairs_rep q e2
        exact ⟨a :: ps, (pk, u) :: kvV, rfl, .cons h1 h3, pk, u, kvV, rfl, ⟨rfl, h2⟩, h4⟩
theorem merge_rep : ∀ {kvs : List (L2.Key × D)} {xs : List (L2.Key × V)} {acc : List (L2.Key × D)} {ys : List (L2.Key × V)}, RepK K F H kvs xs → RepK K F H acc ys → RepK K F H (mergeD acc kvs) (mergeK ys xs)
  | [], _, _, _, h, g => by cases h; exact g
  | (k0, d0) :: kvs, _, _, _, ⟨k, v, r, e, h, q⟩, g => by
    subst e
    obtain ⟨h1, h2⟩ := h
    subst h1
    exact merge_rep (kvs := kvs) (xs := r) q (putK_rep h2 g)
theorem lift_dictC : LiftA K (fun xs H Q => ∃ a ps kvs, xs = [.ref a] ∧ BT K H a (ps.map V.ref) ∧ Paired (fun p (kv : L2.Key × V) => SqT K H p [kV kv.1, kv.2]) ps kvs ∧ ∀ p, H p = none → Q (.ref p) (upd H p (.dK (mergeK [] kvs)))) dDictC := by
  intro F H G ds vs Q Q0 R rd q k
  replace q := optQ_ex q
  obtain ⟨kvs, hz, q⟩ := q
  unfold pairsA at hz
  split at hz
  · obtain ⟨v, rfl, r⟩ := rl1 rd
    obtain ⟨a, xs, rfl, ha, hr⟩ := r
    obtain ⟨ps, kvV, rfl, h1, h2⟩ := pairs_rep hr hz
    exact ⟨a, ps, kvV, rfl, ha, h1, fin_dv R k (merge_rep h2 (show RepK K F H [] [] from rfl)) q⟩
  · cases hz
theorem dDictC_e {ds : List D} {G : Gp} {Q : D → Gp → Prop} : dDictC ds G Q = optQ (pairsA ds) fun kvs => Q (.dv (mergeD [] kvs)) G := (rfl)
end
section
variable {X : Cx} {K : KW} {F F' : Fr} {H H' : Hp} {G G' : Gp} {a e : Expr} {te : DTE}
/-! ### xs.extend(ys) -/
def dExt (to te : DTE) : DTE := fun δ G Q => to δ G fun o G1 => optQ (refOf o) fun p => optQ (lstOf (G1 p)) fun _ => te δ G1 fun y G2 => optQ (lstOf (G2 p)) fun ds => optQ (lsOf y G2) fun ys => ds.length + ys.length ≤ sizeLine ∧ Q .non (updG G2 p (.lst (ds ++ ys)))
theorem upExt {to : DTE} {σ : L2.St} {Q : VK} (h : up K (dExt to te) σ H Q) : tBM K "list" rExtend (up K to) (tCons (up K te) tNil) σ H Q := by
  obtain ⟨F, δ, G, Q', R, S, q, k⟩ := h
  refine ⟨F, δ, G, _, R, S, q, fun v H1 ⟨o, F1, G1, k1, R1, p1, q1⟩ => ?_⟩
  replace q1 := optQ_ex q1
  obtain ⟨p, ep, q1⟩ := q1
  replace q1 := optQ_ex q1
  obtain ⟨es, el, q1⟩ := q1
  have eo := refOf_eq ep
  subst eo
  cases p1
  have eg := lstOf_eq el
  obtain ⟨xs, h1, h2⟩ := R1.obj p _ eg
  refine ⟨.inl ⟨rfl, _, .of h1⟩, F1, δ, G1, _, R1, S.mono R k1, q1, fun w H2 ⟨d, F2, G2, k2, R2, p2, q2⟩ => ?_⟩
  replace q2 := optQ_ex q2
  obtain ⟨ds, el2, q2⟩ := q2
  replace q2 := optQ_ex q2
  obtain ⟨ys, ey, hl, q2⟩ := q2
  have eg2 := lstOf_eq el2
  obtain ⟨zs, g1, g2⟩ := R2.obj p _ eg2
  obtain ⟨b, ws, rfl, hb, pb⟩ := lsOf_rep R2 p2 ey
  refine ⟨p, b, zs, ws, rfl, rfl, g1, hb, by rw [g2.len, pb.len]; exact hl, ?_⟩
  have kk := keep_set (F := F2) (H := H2) (o := .lst (zs ++ ws)) (m' := .lst (ds ++ ys)) eg2
  exact k _ _ ⟨.non, F2, _, (k1.trans k2).trans kk, rel_set R2 eg2 ⟨_, upd_same, RepL.mono R2 kk _ _ (g2.app pb)⟩, rfl, q2⟩
theorem q_ext {apos cpos : Pos} {to : DTE} (ho : QE X a to) (he : QE X e te)
    (hbase : attributeBase a "extend" X.env (eval a X.env) = eval a X.env := by rfl)
    (hline : (apos.endLine == cpos.line) = true := by rfl) (hs : starEach [e] X.env = (false, eval e X.env) :: starEach [] X.env := by rfl)
    (hfew : ((backTo cpos (starEach [e] X.env)).all (fun x => !x.1) && (backToKw cpos (keywordEach [] X.env)).all (fun x => x.1.isSome)
      && decide ([e].length + ([] : List Keyword).length + (if ([] : List Keyword).isEmpty then 0 else 1) < 30)) = true := by rfl) : QE X (.Call (.Attribute a "extend" apos) [e] [] cpos) (dExt to te) :=
  PEmono (pe_bm PySem.F.plainAttrs_list PySem.F.slot_list_extend PySem.F.type_list_extend mt_extend ho (pa_cons he pa_nil hs) hbase hfew hline hs) fun _ _ _ h => upExt h
/-! ### a name of the module that holds data -/
theorem q_gD {x : Str} {d : D} {pos : Pos} (hg : Gl X x) (hm : ∃ u v, X.mg x = some u ∧ RelV v u ∧ ∀ F H, Rep (kw X) F H d v) (hd : (x == ("__debug__" : Str)) = false := by decide) : QE X (.Name x pos) (dC d) := by
  obtain ⟨u, v, hm, hr, h⟩ := hm
  exact q_const (v := v) (pe_glob hg hm hr hd) fun _ _ _ _ => h _ _
end
theorem dExt_e {to te : DTE} {δ : DS} {G : Gp} {Q : D → Gp → Prop} : dExt to te δ G Q = to δ G fun o G1 => optQ (refOf o) fun p => optQ (lstOf (G1 p)) fun _ => te δ G1 fun y G2 => optQ (lstOf (G2 p)) fun ds => optQ (lsOf y G2) fun ys => ds.length + ys.length ≤ sizeLine ∧ Q .non (updG G2 p (.lst (ds ++ ys))) := (rfl)
section
variable {X : Cx} {K : KW} {F F' : Fr} {H H' : Hp} {G G' : Gp} {a e : Expr} {te : DTE}
/-! ### xs[::-1] -/
theorem RepL.rev : ∀ {ds : List D} {vs : List V}, RepL K F H ds vs → RepL K F H ds.reverse vs.reverse
  | [], _, h => by cases h; rfl
  | d :: ds, _, ⟨v, r, e, h, q⟩ => by
    subst e
    rw [List.reverse_cons, List.reverse_cons]
    exact (RepL.rev q).app (.one h)
def dRevL (te : DTE) : DTE := fun δ G Q => te δ G fun x G1 => optQ (lsOf x G1) fun xs => Q (.lv xs.reverse) G1
theorem q_revL {k : Nat} {p1 p2 p3 pos : Pos} (he : QE X e te) : QE X (.Subscript e (.Slice none none (some (.UnaryOp .USub (.Constant (.int 1) k p1) p2)) p3) pos) (dRevL te) := PEmono (pe_revL he) fun σ H Q ⟨F, δ, G, Q', R, S, q, k⟩ => by
  refine ⟨F, δ, G, _, R, S, q, fun v H1 ⟨d, F1, G1, k1, R1, p1, q1⟩ => ?_⟩
  replace q1 := optQ_ex q1
  obtain ⟨ds, e1, q1⟩ := q1
  obtain ⟨b, ws, rfl, hb, pb⟩ := lsOf_rep R1 p1 e1
  exact ⟨b, ws, rfl, .of hb, fin_lv R1 (fun v' H' q2 => k v' H' (.trans k1 q2)) pb.rev q1⟩
end
theorem dRevL_e {te : DTE} {δ : DS} {G : Gp} {Q : D → Gp → Prop} : dRevL te δ G Q = te δ G fun x G1 => optQ (lsOf x G1) fun xs => Q (.lv xs.reverse) G1 := (rfl)
/-! ### data that stands in the module -/
def goL (g : Value → Option D) : List Value → Option (List D)
  | [] => some []
  | u :: us => (g u).bind fun d => (goL g us).map fun ds => d :: ds
def datK (K : KW) : Nat → Value → Option D
  | 0, _ => none
  | f + 1, v => match v with
    | .none => some .non
    | .bool b => some (.bl b)
    | .int i _ => some (.int i)
    | .str x _ => if sOk x = true then some (.str x) else none
    | .ref a => match K.fr.lookup a with
      | some ⟨.type "tuple", none, .seq its _, _⟩ => if its.size ≤ sizeLine then (goL (datK K f) its.toList).map .tup else none
      | _ => none
    | _ => none
theorem goL_ok {K : KW} {g : Value → Option D} (hg : ∀ u d, g u = some d → ∃ v, RelV v u ∧ ∀ F H, Rep K F H d v) : ∀ {us : List Value} {ds : List D}, goL g us = some ds → ∃ vs, Vals vs us ∧ ∀ F H, RepL K F H ds vs
  | [], _, e => by cases e; exact ⟨[], .nil, fun _ _ => rfl⟩
  | u :: us, _, e => by
    unfold goL at e
    cases e1 : g u with
    | none => rw [e1] at e; cases e
    | some d =>
      cases e2 : goL g us with
      | none => rw [e1, e2] at e; cases e
      | some ds =>
        rw [e1, e2] at e
        cases e
        obtain ⟨v, h1, h2⟩ := hg u d e1
        obtain ⟨vs, h3, h4⟩ := goL_ok hg e2
        exact ⟨v :: vs, .cons h1 h3, fun F H => ⟨v, vs, rfl, h2 F H, h4 F H⟩⟩
theorem datK_ok {K : KW} : ∀ (f : Nat) (u : Value) (d : D), datK K f u = some d → ∃ v, RelV v u ∧ ∀ F H, Rep K F H d v := by
  intro f
  induction f with
  | zero => intro u d e; cases e
  | succ f ih =>
    intro u d e
    unfold datK at e
    split at e
    · cases e; exact ⟨.non, rfl, fun _ _ => rfl⟩
    · cases e; exact ⟨.bl _, rfl, fun _ _ => rfl⟩
    · cases e; exact ⟨.int _, ⟨_, rfl⟩, fun _ _ => rfl⟩
    · split at e
      · rename_i h
        cases e; exact ⟨.str _, ⟨_, rfl⟩, fun _ _ => ⟨rfl, h⟩⟩
      · cases e
    · split at e
      · rename_i a _ its n sl hl
        split at e
        · rename_i hs
          cases e2 : goL (datK K f) its.toList with
          | none => rw [e2] at e; cases e
          | some ds =>
            rw [e2] at e
            cases e
            obtain ⟨vs, h1, h2⟩ := goL_ok ih e2
            exact ⟨.ref a, rfl, fun F H => ⟨a, vs, rfl, .inr ⟨_, its, n, hl, rfl, rfl, rfl, hs, h1⟩, h2 F H⟩⟩
        · cases e
      · cases e
    · cases e
end DL
set_option Elab.async false
set_option linter.all false
set_option maxRecDepth 100000
set_option maxHeartbeats 4000000
/-! BX: an own error below an own error below ValueError, whose __init__ says super().__init__ of a text and then keeps its arguments. -/
namespace PySem
namespace BX
open PySem.W PySem.Calls PyProof.Rows PySem.HandSPX
section
variable {prog : Program} {w : World} {A : Around} {E : Value → Shared → Prop} {h : Heap} {g : Array GenState} {d : Drawn} {t : Nat} {os : OsState}
variable {nm q : Str} {C N : Addr} {bs bm : List Value} {hdct : Bool} {sn : List Str} {sub : List Value} {ab : Bool} {col : Option Bool} {dd : Option Addr} {k0 k1 k2 k3 k5 : Option Value}
/-- the bound ValueError.__init__ is called: the arguments are laid anew -/
theorem wrapped {u e t0 : Addr} {us : List Value} {Q : Value → Shared → Prop} (cC : h.get? C = some (excClassObj nm q C N bs bm hdct sn sub ab col dd k0 k1 k2 k3 k5 "ValueError.__new__"))
    (ce : h.get? e = some (excO C t0)) (cu : h.get? u = some (kxs_mw "ValueError.__init__" e)) (hus : us.length ≤ sizeLine)
    (fin : ∀ h' t1, (∀ b o, b ≠ e → h.get? b = some o → h'.get? b = some o) → h'.get? e = some (excO C t1) → Q .none ⟨h', g, d, t, os⟩) :
    wpAny (model prog w) A (call (.ref u) us) Q E ⟨h, g, d, t, os⟩ := by
  have FV := F.excBase_ValueError
  refine wpAny_call (codeAny_of_tree ?_)
  show wpAny _ A.in1 (callAny (.ref u) ⟨us, []⟩) _ _ _
  unfold callAny
  refine wpAny_bind (wpAny_load cu ?_)
  simp only [kxs_mw]
  refine KFB.if_so (by decide) ?_
  refine wpAny_bind ?_
  refine check_bound_init FV.toExcCallFacts cC ce rfl ?_
  refine wpAny_bind (wpAny_pure ?_)
  refine wpAny_pure ?_
  refine ⟨plainId_quiet FV.init.plain _, codeAny_builtin FV.initEntry ?_⟩
  rw [Around.under_plainId FV.init.plain _]
  wp_walk
  refine fin _ h.objs.size (fun b o hb ho => ?_) ?_
  · rw [Heap.get?_update_other _ _ (Ne.symm hb)]
    exact Heap.get?_push_of_some _ ho
  · rw [Heap.get?_update_self _ (Heap.get?_push_of_some _ ce) rfl]
    first | rfl | skip
end

/-- the text of __init__ of two arguments, its places open -/
def args3 (a b : Str) (p : Nat → Pos) : Arguments := { posonlyargs := [], args := [⟨"self", none, p 0⟩, ⟨a, none, p 1⟩, ⟨b, none, p 2⟩], vararg := none, kwonlyargs := [], kw_defaults := [], kwarg := none, defaults := [] }
def supS (vals : List Expr) (p : Nat → Pos) : Stmt := .Expr (.Call (.Attribute (.Call (.Name "super" (p 0)) [] [] (p 1)) "__init__" (p 2)) [.JoinedStr vals (p 3)] [] (p 4)) (p 5)
def keepS (f : Str) (p : Nat → Pos) : Stmt := .Assign [.Attribute (.Name "self" (p 0)) f (p 1)] (.Name f (p 2)) (p 3)
def scope3 (a b : Str) : Scope := { kind := .function, names := [("self", .local), (a, .local), (b, .local), ("__class__", .free), ("super", .globalImplicit)], isGenerator := false, isCoroutine := false, more := [] }
def valsBad (p : Nat → Pos) : List Expr := [.FormattedValue (.Name "reason" (p 0)) (-1) none (p 1), .Constant (.str " at ") 0 (p 2), .FormattedValue (.Name "at" (p 3)) (-1) none (p 4)]
abbrev callS (vals : List Expr) (p : Nat → Pos) : Expr := .Call (.Attribute (.Call (.Name "super" (p 0)) [] [] (p 1)) "__init__" (p 2)) [.JoinedStr vals (p 3)] [] (p 4)
abbrev fnBad (qual : Str) (pa ps pv p1 p2 : Nat → Pos) (kV doc pm : Value) (an : Option Addr) (cdv ct : Value) (cc : Addr) : FuncData :=
  ksFn "__init__" qual (args3 "at" "reason" pa) [supS (valsBad pv) ps, keepS "at" p1, keepS "reason" p2] (scope3 "at" "reason") .none kV doc pm an cdv ct cc
/-- what the written part says of BadOctets, at C: its __init__ at fI, the cell of its class, the code object -/
structure Txt (P : Program) (K : Frag) (C fI cc cda : Addr) : Prop where
  cls : ∃ nm q N bs bm sn sub ab col dd k0 k1 k2 k3 k5, K.lookup C = some (excClassObj nm q C N bs bm true sn sub ab col dd k0 k1 k2 k3 k5 "ValueError.__new__") ∧ refsVE bm = true
  sa : findIn K (.ref C) "__setattr__" = some (some (.builtin "object.__setattr__"))
  n1 : findIn K (.ref C) "at" = some none
  n2 : findIn K (.ref C) "reason" = some none
  iC : findIn K (.ref C) "__init__" = some (some (.ref fI))
  tC : typeIn K (.ref fI) = some (.type "function")
  op : nsIn K cStatics "thirdparty.any" = some none
  sm : ks_superIn K C C "__init__" = some (some (.builtin "ValueError.__init__"))
  sv : subIn K (.ref C) (.type "ValueError") = some true
  mr : mroIn K C (.ref C) = some true
  su : nsIn K mainGlobals "super" = some none
  cell : ∃ cl cld csl, K.lookup cc = some ⟨cl, cld, .cell (some (.ref C)), csl⟩
  code : ∃ ccl cdd vs ccs file tf, K.lookup cda = some ⟨ccl, cdd, .fields vs, ccs⟩ ∧ vs[2]? = some (.str file tf) ∧ ((P.main.file : Str) == file) = true
  top : (P.main.scope.names.lookup ("super" : Str)).isSome = false
  fn : ∃ (qual : Str) (oc : Value) (od : Option Addr) (kV doc pm : Value) (an : Option Addr) (ct : Value) (osl : Array (Option Value)) (pa ps pv p1 p2 : Nat → Pos),
    K.lookup fI = some ⟨oc, od, .func (fnBad qual pa ps pv p1 p2 kV doc pm an (.ref cda) ct cc), osl⟩ ∧ codeIn K (.ref cda) qual = true ∧
    ∀ L : Addr, ∃ pl, eval (callS (valsBad pv) ps) (ksEnv qual (scope3 "at" "reason") L fI (.ref cda) cc) = (do
      let ov ← attributeBase (.Call (.Name "super" (ps 0)) [] [] (ps 1)) "__init__" (ksEnv qual (scope3 "at" "reason") L fI (.ref cda) cc) (eval (.Call (.Name "super" (ps 0)) [] [] (ps 1)) (ksEnv qual (scope3 "at" "reason") L fI (.ref cda) cc))
      standAt (ps 2).atName
      let (f, first) ← holding [ov] (getMethod ov "__init__" pl)
      callWith (ps 4) f first (backTo (ps 4) (starEach [.JoinedStr (valsBad pv) (ps 3)] (ksEnv qual (scope3 "at" "reason") L fI (.ref cda) cc))) [])
/-- what __init__ leaves at x -/
structure Left (h h' : Heap) (x C dx : Addr) (v1 v2 : Value) : Prop where
  keep : ∀ b o, b ≠ x → h.get? b = some o → h'.get? b = some o
  obj : ∃ t1, h'.get? x = some { cls := .ref C, dict := some dx, data := .fields #[.ref t1, .none, .none, .none, .bool false, .none] }
  dbig : h.objs.size ≤ dx
  dne : dx ≠ x
  ns : h'.Ns1 dx (fun y => if y = "reason" then some v2 else if y = "at" then some v1 else none)
theorem ldN {M : Model} {A : Around} {E : Value → Shared → Prop} {s : Shared} {env : Env} {m : Str → Option Value} {x : Str} {pos : Pos} {v : Value} {Q : Value → Shared → Prop} (hn : s.heap.Ns env.locals m) (hv : m x = some v) (h : Q v s)
    (hk : env.scope.kind = .function := by rfl) (hl : env.kindOf x = some .local := by rfl) (hd : (x == ("__debug__" : Str)) = false := by decide) :
    wpAny M A (eval (.Name x pos) env) Q E s := wpAny_Name (wpAny_loadName_local hk hl hn hv h) hd
section
variable {prog : Program} {w : World} {A : Around} {E : Value → Shared → Prop} {h : Heap} {g : Array GenState} {d : Drawn} {os : OsState}
theorem bad_text {env : Env} {m : Str → Option Value} {i : Int} {z : Str} {ti tz : Tok} {pv : Nat → Pos} {p : Pos} {t : Nat} {Q : Value → Shared → Prop} (hn : h.Ns env.locals m) (h1 : m "reason" = some (.str z tz)) (h2 : m "at" = some (.int i ti)) (hk : env.scope.kind = .function) (l1 : env.kindOf "reason" = some .local) (l2 : env.kindOf "at" = some .local)
    (hi : i.natAbs.log2 < 1920) (hz : z.length ≤ 1000) (q : ∀ u tk, Q u ⟨h, g, d, tk, os⟩) : wpAny (model prog w) A (eval (.JoinedStr (valsBad pv) p) env) Q E ⟨h, g, d, t, os⟩ := by
  have hL := int_text_len_1921 hi
  have e0 : Str.empty.length = 0 := rfl
  have e1 : (Str.ofString " at ").length = 4 := by decide +kernel
  have ap : ∀ a b : Str, (a ++ b).length = a.length + b.length := fun a b => strLen_append a b
  have hsz : sizeLine = 16777216 := by decide
  refine wpAny_JoinedStr ?_
  refine wpAny_FormattedValue_plain (ldN hn h1 ?_ hk l1 (by decide))
  have two : ∀ tk, Joins (model prog w) A E (evalEach [.Constant (.str " at ") 0 (pv 2), .FormattedValue (.Name "at" (pv 3)) (-1) none (pv 4)] env) (Str.empty ++ z) (fun out s₁ => out.length ≤ sizeLine ∧ Q (.str out s₁.toks) { s₁ with toks := s₁.toks + 1 }) ⟨h, g, d, tk, os⟩ := fun tk => by
    refine wpAny_Constant_str ⟨_, _, rfl, by rw [ap, ap, e0, e1, hsz]; omega, ?_⟩
    refine wpAny_FormattedValue_plain (ldN (s := ⟨h, g, d, _, os⟩) hn h2 ?_ hk l2 (by decide))
    refine wpAny_formatField_int hi ⟨_, _, rfl, by rw [ap, ap, ap, e0, e1, hsz]; have : (toString i : Str).length ≤ 1921 := hL; omega, ?_⟩
    exact ⟨by rw [ap, ap, ap, e0, e1, hsz]; have : (toString i : Str).length ≤ 1921 := hL; omega, q _ _⟩
  exact wpAny_formatField_str ⟨z, _, rfl, by rw [ap, e0, hsz]; omega, two _⟩ ⟨z, _, rfl, by rw [ap, e0, hsz]; omega, two _⟩ (by rw [hsz]; omega)
end
section
variable {prog : Program} {w : World} {A : Around} {R : Result → Shared → Prop} {s : Shared} {K : Frag} {mg mb : Str → Option Value} {C fI cc cda : Addr}
theorem init_walk (T : Txt prog K C fI cc cda) (base : Heap) {x t0 : Addr} {i : Int} {z : Str} {ti tz : Tok} (X0 : K.In base) (G0 : base.Ns mainGlobals mg) (B0 : base.Ns builtinsNs mb) (hB : mb "super" = some (.type "super")) (up : ∀ b o, base.get? b = some o → s.heap.get? b = some o)
    (hlim : s.heap.NoLimit) (hx : s.heap.get? x = some (excO C t0)) (hnx : K.lookup x = none) (hroom : A.depth < recursionLimit) (hi : i.natAbs.log2 < 1000) (hz : z.length ≤ 1000)
    (hq : ∀ h' tk dx, Left s.heap h' x C dx (.int i ti) (.str z tz) → R (.ok (.ret .none)) { s with heap := h', toks := tk }) :
    codeAny (model prog w) A (.call (.ref fI) ⟨[.ref x, .int i ti, .str z tz], []⟩) R s := by
  obtain ⟨qual, oc, od, kV, doc, pm, an, ct, osl, pa, ps, pv, p1, p2, hfn, hcd, hev⟩ := T.fn
  obtain ⟨cl, cld, csl, hcc⟩ := T.cell
  obtain ⟨ccl, cdd, vs, ccs, file, tf, hcda, hvs, hfile⟩ := T.code
  obtain ⟨nm, q, N, bs, bm, sn, sub, ab, col, dd, k0, k1, k2, k3, k5, hC, hbm⟩ := T.cls
  have hcl : clsIn K C = some { name := nm, bases := bs, mro := .ref C :: bm, ns := N, qualname := q, hasDict := true, slotNames := sn, subclasses := sub, abstract := ab, collection := col, hasDel := false } := by unfold clsIn; rw [hC] <;> rfl
  have X : K.In s.heap := X0.keeps up
  obtain ⟨pl, hev⟩ := hev s.heap.objs.size
  refine ks_codeAny_call_defAt (fd := fnBad qual pa ps pv p1 p2 kV doc pm an (.ref cda) ct cc) (body := [supS (valsBad pv) ps, keepS "at" p1, keepS "reason" p2]) (binds := [("self", .ref x), ("at", .int i ti), ("reason", .str z tz)]) hroom (X _ _ hfn) rfl hlim (codeRec_of X hcd) rfl (BindsTo.of_eq (by rfl)) (by show ∀ x ∈ (scope3 "at" "reason").names, x.2 ≠ .cell; decide) (by intro y hy; simp only [List.mem_cons, List.not_mem_nil, or_false] at hy; rcases hy with rfl | rfl | rfl <;> rfl) (fun h₁ hns k => ?_)
  have X₁ : K.In h₁ := X.keeps k
  have hx₁ := k _ _ hx
  have L0 : h₁.Ns s.heap.objs.size (fun y => ([(("self" : Str), Value.ref x), ("at", .int i ti), ("reason", .str z tz)].reverse : List (Str × Value)).lookup y) := hns
  refine ks_wpAt_execs_cons (ks_wpAt_Expr_any (ks_wpAt_MethodCall (pl := pl) ?_ hev))
  refine ks_wpAt_super_base (env := ksEnv qual (scope3 "at" "reason") s.heap.objs.size fI (.ref cda) cc) rfl rfl (by decide) rfl (k _ _ (X _ _ hfn)) rfl rfl rfl (X₁ _ _ hcda) rfl hvs hfile T.top ?_
  refine ks_loadName_global rfl rfl (loadGlobal_builtin (env := ksEnv qual (scope3 "at" "reason") s.heap.objs.size fI (.ref cda) cc) ((G0.keeps up).keeps k) (mg_none_of X0 G0 T.su) ((B0.keeps up).keeps k) hB ⟨rfl, ?_⟩)
  refine wpAny_loadName_free rfl rfl rfl ⟨_, X₁ _ _ hcc, rfl⟩ ?_
  refine wpAny_loadName_local rfl rfl hns (by rfl) ?_
  refine ks_wpAny_isType_cls (X₁ _ _ hC) rfl ⟨rfl, ?_⟩
  refine ks_wpAny_call_super (X₁ _ _ hC) rfl hx₁ rfl (fun c e => by cases e) (looks_mroIn X₁ T.mr) (fun h₂ e₂ k₂ => ?_)
  have X₂ : K.In h₂ := X₁.keeps k₂
  have hx₂ := k₂ _ _ hx₁
  have hm : alongIn K "__init__" (((Value.ref C :: bm).dropWhile (· != .ref C)).drop 1) = some (some (.builtin "ValueError.__init__")) := by
    have e := T.sm
    unfold ks_superIn at e
    rw [hcl] at e
    exact e
  have I₂ : InstAt h₂ x (excO C t0) C none := ⟨hx₂, rfl, rfl, trivial⟩
  have hxC : x ≠ C := fun e => by rw [e, hC] at hnx; cases hnx
  refine kxs_getMethod kxs_ValueError e₂ (looks_opaque X₂ T.op) (l₀ := .ref C :: bm) (fun A Q E s k q => wpAny_bind ((looks_clsIn X₂ hcl) A _ E s k (wpAny_pure q))) rfl X₂ hm (I₂.type.andThen (looks_subIn X₂ T.sv)) hxC (by decide) ?_
  have k₃ : ∀ b o, h₂.get? b = some o → (h₂.push (kxs_mw "ValueError.__init__" x)).get? b = some o := fun b o e => Heap.get?_push_of_some _ e
  have cu : (h₂.push (kxs_mw "ValueError.__init__" x)).get? h₂.objs.size = some (kxs_mw "ValueError.__init__" x) := Heap.get?_push_at rfl rfl
  generalize h₂.push (kxs_mw "ValueError.__init__" x) = h₃ at k₃ cu
  have n₃ : h₃.Ns s.heap.objs.size (fun y => ([(("self" : Str), Value.ref x), ("at", .int i ti), ("reason", .str z tz)].reverse : List (Str × Value)).lookup y) := (L0.keeps k₂).keeps k₃
  show wpAny _ _ (callWith (ps 4) (.ref h₂.objs.size) [] ((false, eval (.JoinedStr (valsBad pv) (ps 3)) (ksEnv qual (scope3 "at" "reason") s.heap.objs.size fI (.ref cda) cc)) :: []) []) _ _ _
  refine kxs_callWith (i := "ValueError.__init__") (x := x) rfl (evalArgs_plain (spliced_cons ?_))
  refine bad_text n₃ (by rfl) (by rfl) rfl rfl rfl (by omega) hz fun u tk => ?_
  refine spliced_nil ⟨cu, ?_⟩
  show wpAny _ _ (call (.ref h₂.objs.size) [u]) _ _ _
  have X₃ : K.In h₃ := X₂.keeps k₃
  refine wrapped (X₃ _ _ hC) (k₃ _ _ hx₂) cu (by rw [show sizeLine = 16777216 by decide]; exact (by decide : 1 ≤ 16777216)) fun h₄ t1 k₄ hx₄ => ?_
  have X₄ : K.In h₄ := fun a o e => k₄ a o (fun z => by rw [z, hnx] at e; cases e) (X₃ a o e)
  have old : ∀ b o, b ≠ x → s.heap.get? b = some o → h₄.get? b = some o := fun b o nb e => k₄ b o nb (k₃ b o (k₂ b o (k b o e)))
  have hLx : s.heap.objs.size ≠ x := Nat.ne_of_gt (Heap.lt_size hx)
  have n₄ : h₄.Ns s.heap.objs.size (fun y => ([(("self" : Str), Value.ref x), ("at", .int i ti), ("reason", .str z tz)].reverse : List (Str × Value)).lookup y) := n₃.at fun o q => k₄ _ o hLx q
  refine wpAt_of_wpAny ?_
  refine wpAny_execs_cons (plainObj_wpAny_Assign_Attribute ?_)
  refine ldN (v := .int i ti) n₄ (by rfl) (ldN (v := .ref x) n₄ (by rfl) ?_)
  refine set_plain X₄ (ox := excO C t1) (od := none) ⟨hx₄, rfl, rfl, trivial⟩ T.sa ?_
  refine exc_osa X₄ hx₄ hcl (show refsVE (.ref C :: bm) = true from hbm) rfl T.n1 (fun h₅ tk₅ dx k₅ dn dne hx₅ hn₅ => ?_)
  have X₅ : K.In h₅ := fun a o e => k₅ a o (fun z => by rw [z, hnx] at e; cases e) (X₄ a o e)
  have n₅ : h₅.Ns s.heap.objs.size (fun y => ([(("self" : Str), Value.ref x), ("at", .int i ti), ("reason", .str z tz)].reverse : List (Str × Value)).lookup y) := n₄.at fun o q => k₅ _ o hLx q
  show wpAny _ _ (execs [keepS "reason" p2] _) _ _ _
  refine wpAny_execs_cons (plainObj_wpAny_Assign_Attribute ?_)
  refine ldN (v := .str z tz) n₅ (by rfl) (ldN (v := .ref x) n₅ (by rfl) ?_)
  have hw₅ : Within (fun y => if y = ("at" : Str) then some (Value.int i ti) else none) [("at" : Str)] := fun y hy => by
    by_cases e : y = "at"
    · rw [e]; exact List.mem_cons_self
    · exact absurd (if_neg e) hy
  obtain ⟨oD, _, _, hoD, _, _⟩ := hn₅.count hw₅
  refine set_plain X₅ (ox := { cls := .ref C, dict := some dx, data := .fields #[.ref t1, .none, .none, .none, .bool false, .none] }) (od := some oD) ⟨hx₅, rfl, rfl, hoD⟩ T.sa ?_
  refine PySem.OEX.osa_old X₅ hx₅ hn₅ hw₅ (by decide) hcl (show refsVE (.ref C :: bm) = true from hbm) rfl T.n2 (fun h₆ tk₆ k₆ hn₆ => ?_)
  show wpAny _ _ (execs [] _) _ _ _
  have big : s.heap.objs.size ≤ dx := by
    have z1 : s.heap.objs.size < h₄.objs.size := n₄.lt
    exact Nat.le_of_lt (Nat.lt_of_lt_of_le z1 dn)
  refine wpAny_execs_nil (hq h₆ _ dx ⟨fun b o nb e => k₆ b o (fun z => ?_) (k₅ b o nb (old b o nb e)), ⟨t1, k₆ x _ dne.symm hx₅⟩, big, dne, hn₆⟩)
  rw [z] at e
  exact absurd (Heap.lt_size e) (Nat.not_lt.mpr big)
end
end BX
end PySem
set_option Elab.async false
set_option linter.all false
set_option maxRecDepth 100000
set_option maxHeartbeats 4000000
namespace PySem
namespace BX
open PySem.W PySem.Calls PyProof.Rows PySem.HandSPX
/-- a made BadOctets -/
structure Made (h h' : Heap) (e C d : Addr) (v1 v2 : Value) : Prop where
  keep : ∀ b o, h.get? b = some o → h'.get? b = some o
  new : h.objs.size ≤ e
  obj : ∃ oe vs, h'.get? e = some oe ∧ oe.cls = .ref C ∧ oe.dict = some d ∧ oe.data = .fields vs ∧ vs[1]? = some .none
  dbig : h.objs.size ≤ d
  dne : d ≠ e
  ns : h'.Ns1 d (fun y => if y = "reason" then some v2 else if y = "at" then some v1 else none)
section
variable {prog : Program} {w : World} {A : Around} {R : Result → Shared → Prop} {s : Shared} {K : Frag} {mg mb : Str → Option Value} {C fI cc cda : Addr}
theorem made_bad (T : Txt prog K C fI cc cda) (base : Heap) {i : Int} {z : Str} {ti tz : Tok} (X0 : K.In base) (G0 : base.Ns mainGlobals mg) (B0 : base.Ns builtinsNs mb) (hB : mb "super" = some (.type "super")) (up : ∀ b o, base.get? b = some o → s.heap.get? b = some o)
    (hlim : s.heap.NoLimit) (hroom : A.depth + 1 < recursionLimit) (hi : i.natAbs.log2 < 1000) (hz : z.length ≤ 1000)
    (hq : ∀ h' tk e d, Made s.heap h' e C d (.int i ti) (.str z tz) → R (.ok (.ret (.ref e))) { s with heap := h', toks := tk }) :
    codeAny (model prog w) A (.call (.ref C) ⟨[.int i ti, .str z tz], []⟩) R s := by
  obtain ⟨nm, q, N, bs, bm, sn, sub, ab, col, dd, k0, k1, k2, k3, k5, hC, hbm⟩ := T.cls
  obtain ⟨hp, g, dr, tk, os⟩ := s
  have X : K.In hp := X0.keeps up
  have k : ∀ b o, hp.get? b = some o → ((hp.push (kdv_tup [.int i ti, .str z tz])).push (excO C hp.objs.size)).get? b = some o := fun b o e => Heap.get?_push_of_some _ (Heap.get?_push_of_some _ e)
  have hget : ((hp.push (kdv_tup [.int i ti, .str z tz])).push (excO C hp.objs.size)).get? (hp.objs.size + 1) = some (excO C hp.objs.size) := by heap_get
  have hnx : K.lookup (hp.objs.size + 1) = none := by
    cases e : K.lookup (hp.objs.size + 1) with
    | none => rfl
    | some o => exact absurd (Nat.lt_of_succ_lt (Heap.lt_size (X _ _ e))) (Nat.lt_irrefl _)
  refine call_own F.excBase_ValueError (fun X => refsVE_contains X bm hbm) (X _ _ hC) (looks_findIn X T.iC) (fun self => bind_fn X self T.tC) (by rw [show sizeLine = 16777216 by decide]; exact (by decide : 2 ≤ 16777216)) ?_
  refine init_walk (s := ⟨(hp.push (kdv_tup [.int i ti, .str z tz])).push (excO C hp.objs.size), g, dr, tk, os⟩) T base X0 G0 B0 hB (fun b o e => k b o (up b o e)) (hlim.keeps k) hget hnx ?_ hi hz fun h' tk' dx L => ?_
  · show A.depth + 1 < recursionLimit
    exact hroom
  · have old : ∀ b o, hp.get? b = some o → h'.get? b = some o := fun b o e => L.keep b o (Nat.ne_of_lt (Nat.lt_succ_of_lt (Heap.lt_size e))) (k b o e)
    have zz : hp.objs.size + 1 + 1 ≤ dx := by
      have q := L.dbig
      first
        | (simpa only [Heap.size_push] using q)
        | exact q
        | (rw [Heap.size_push, Heap.size_push] at q; exact q)
    obtain ⟨t1, hx⟩ := L.obj
    exact ⟨rfl, hq h' tk' (hp.objs.size + 1) dx ⟨old, Nat.le_succ _, ⟨_, _, hx, rfl, rfl, rfl, rfl⟩, Nat.le_trans (Nat.le_trans (Nat.le_succ _) (Nat.le_succ _)) zz, L.dne, L.ns⟩⟩
end
end BX
end PySem
namespace L2
open PySem PySem.Spec PyProof.Rows
def badF (i : Int) (z : Str) : List (Str × V) := [(("reason" : Str), .str z), (("at" : Str), .int i)]
theorem rel_bad {i : Int} {z : Str} {ti tz : Tok} (f : Str) : RelO ((badF i z).lookup f) (if f = "reason" then some (Value.str z tz) else if f = "at" then some (Value.int i ti) else none) := by
  unfold badF
  rw [lookup_put]
  by_cases h1 : f = "reason"
  · rw [if_pos h1, if_pos h1]
    exact ⟨_, rfl⟩
  · rw [if_neg h1, if_neg h1, lookup_put]
    by_cases h2 : f = "at"
    · rw [if_pos h2, if_pos h2]
      exact ⟨_, rfl⟩
    · rw [if_neg h2, if_neg h2]
      exact True.intro
section
variable {X : Cx} {C fI cc cda : Addr}
/-- BadOctets(i, z) -/
def tMkBad (C : Addr) (ta : TA) : St → Hp → XK → Prop := fun σ H Q => ta σ H fun vs H1 => ∃ (i : Int) (z : Str), vs = [.int i, .str z] ∧ i.natAbs.log2 < 1000 ∧ z.length ≤ 1000 ∧ ∀ d, H1 d = none → Q (.ref C) (some d) (upd H1 d (.xd (badF i z)))
theorem pmk_bad {a b : Expr} {ta : TA} {p pos : Pos} {k : Nat} (T : PySem.BX.Txt X.prog X.K C fI cc cda) (gC : X.mg "BadOctets" = some (.ref C)) (kC : PySem.W.keepIn X.K (.ref C) = true) (exC : PySem.W.subIn X.K (.ref C) (.type "BaseException") = some true) (tyC : PySem.W.typeIn X.K (.ref C) = some (.type "type"))
    (hr : Room k X.A) (ha : PA X [a, b] ta) (hg : Gl X "BadOctets" := by rfl)
    (he : starEach (a :: [b]) X.env = (false, eval a X.env) :: starEach [b] X.env := by rfl) (hpl : (backTo pos (starEach [b] X.env)).any (·.1) = false := by rfl) :
    PMk X (.Call (.Name "BadOctets" p) [a, b] [] pos) (tMkBad C ta) := by
  intro pins s σ H Q I h
  refine wpAny_Call_Name_kw (ld_glob I hg gC ?_)
  refine PySem.W.callWith_K (h₀ := X.base) I.ok.mod.kin kC (thn (ha.run pos pins s σ H _ I h) fun us s1 hh => ?_) he hpl
  obtain ⟨vs, H1, I1, r1, i, z, ev, hi, hz, q1⟩ := hh
  subst ev
  refine ⟨I1.kIn, ?_⟩
  cases r1 with
  | cons rv rn =>
    cases rn with
    | cons rw2 rn =>
      cases rn
      obtain ⟨ti, rfl⟩ := rv
      obtain ⟨tz, rfl⟩ := rw2
      show wpAny _ _ (call (.ref C) [.int i ti, .str z tz]) _ _ _
      have hlim := I1.nolimit
      obtain ⟨mb, hb1, hb2⟩ := I1.ok.mod.blt
      have hup : ∀ b o, X.base.get? b = some o → s1.heap.get? b = some o := fun b o e => I1.bk b o e
      obtain ⟨hp, g, dr, tk, os⟩ := s1
      refine wpAny_call (PySem.BX.made_bad T X.base I1.ok.mod.kin I1.ok.mod.glob hb1 ((hb2 "super" (by decide)).trans (by decide +kernel)) hup hlim (by have := hr.dp; omega) hi hz fun h' tk' e d M => ?_)
      show MkP X pins σ Q (.ref e) ⟨h', g, dr, tk', os⟩
      obtain ⟨oe, fv, hoe, hc, hd, hdat, h1⟩ := M.obj
      have hns := M.ns
      obtain ⟨G', g1, g2⟩ := restrict h' fun b => decide (b ≠ e)
      have gk : ∀ b, b ≠ e → G'.get? b = h'.get? b := fun b hb => g1 b (decide_eq_true hb)
      have ge : G'.get? e = none := g2 e (by simp)
      have old : ∀ b o, hp.get? b = some o → G'.get? b = some o := fun b o q => (gk b (Nat.ne_of_lt (Nat.lt_of_lt_of_le (Heap.lt_size q) M.new))).trans (M.keep b o q)
      have ob : ObjOk X.prog X.w (upd H1 d (.xd (badF i z))) G' d (.xd (badF i z)) :=
        ⟨_, hns.at (fun o q => (gk d M.dne).trans q), fun f => rel_bad f⟩
      have J : Inv X pins σ (upd H1 d (.xd (badF i z))) ⟨G', g, dr, tk', os⟩ := I1.laid (t' := tk') old M.dbig ob
      refine ⟨e, oe, fv, ⟨G', g, dr, tk', os⟩, _, .ref C, some d, rfl, J, fun b o q => ?_, ge, hoe, ⟨hc, hd⟩, hdat, h1, ?_, rfl, I1.bare, raises_own exC tyC, q1 d (I1.hok.fresh M.dbig)⟩
      · by_cases hb : b = e
        · have q' : G'.get? b = some o := q
          rw [hb, ge] at q'; cases q'
        · exact (gk b hb).symm.trans q
      · rw [upd_ne (Ne.symm M.dne)]
        exact I1.hok.fresh M.new
end
end L2
set_option Elab.async false
set_option linter.all false
set_option maxRecDepth 100000
set_option maxHeartbeats 4000000
/-! UX: the like of BX whose first argument is a tuple of ints: Unreadable(path, reason). -/
namespace PySem
namespace UX
open PySem.W PySem.Calls PyProof.Rows PySem.HandSPX PySem.BX
def valsUnr (p : Nat → Pos) : List Expr := [.FormattedValue (.Name "reason" (p 0)) (-1) none (p 1), .Constant (.str " at ") 0 (p 2), .FormattedValue (.Name "path" (p 3)) (-1) none (p 4)]
abbrev fnUnr (qual : Str) (pa ps pv p1 p2 : Nat → Pos) (kV doc pm : Value) (an : Option Addr) (cdv ct : Value) (cc : Addr) : FuncData :=
  ksFn "__init__" qual (args3 "path" "reason" pa) [supS (valsUnr pv) ps, keepS "path" p1, keepS "reason" p2] (scope3 "path" "reason") .none kV doc pm an cdv ct cc
/-- what the written part says of Unreadable, at C: its __init__ at fI, the cell of its class, the code object -/
structure Txt (P : Program) (K : Frag) (C fI cc cda : Addr) : Prop where
  cls : ∃ nm q N bs bm sn sub ab col dd k0 k1 k2 k3 k5, K.lookup C = some (excClassObj nm q C N bs bm true sn sub ab col dd k0 k1 k2 k3 k5 "ValueError.__new__") ∧ refsVE bm = true
  sa : findIn K (.ref C) "__setattr__" = some (some (.builtin "object.__setattr__"))
  n1 : findIn K (.ref C) "path" = some none
  n2 : findIn K (.ref C) "reason" = some none
  iC : findIn K (.ref C) "__init__" = some (some (.ref fI))
  tC : typeIn K (.ref fI) = some (.type "function")
  op : nsIn K cStatics "thirdparty.any" = some none
  sm : ks_superIn K C C "__init__" = some (some (.builtin "ValueError.__init__"))
  sv : subIn K (.ref C) (.type "ValueError") = some true
  mr : mroIn K C (.ref C) = some true
  su : nsIn K mainGlobals "super" = some none
  cell : ∃ cl cld csl, K.lookup cc = some ⟨cl, cld, .cell (some (.ref C)), csl⟩
  code : ∃ ccl cdd vs ccs file tf, K.lookup cda = some ⟨ccl, cdd, .fields vs, ccs⟩ ∧ vs[2]? = some (.str file tf) ∧ ((P.main.file : Str) == file) = true
  top : (P.main.scope.names.lookup ("super" : Str)).isSome = false
  fn : ∃ (qual : Str) (oc : Value) (od : Option Addr) (kV doc pm : Value) (an : Option Addr) (ct : Value) (osl : Array (Option Value)) (pa ps pv p1 p2 : Nat → Pos),
    K.lookup fI = some ⟨oc, od, .func (fnUnr qual pa ps pv p1 p2 kV doc pm an (.ref cda) ct cc), osl⟩ ∧ codeIn K (.ref cda) qual = true ∧
    ∀ L : Addr, ∃ pl, eval (callS (valsUnr pv) ps) (ksEnv qual (scope3 "path" "reason") L fI (.ref cda) cc) = (do
      let ov ← attributeBase (.Call (.Name "super" (ps 0)) [] [] (ps 1)) "__init__" (ksEnv qual (scope3 "path" "reason") L fI (.ref cda) cc) (eval (.Call (.Name "super" (ps 0)) [] [] (ps 1)) (ksEnv qual (scope3 "path" "reason") L fI (.ref cda) cc))
      standAt (ps 2).atName
      let (f, first) ← holding [ov] (getMethod ov "__init__" pl)
      callWith (ps 4) f first (backTo (ps 4) (starEach [.JoinedStr (valsUnr pv) (ps 3)] (ksEnv qual (scope3 "path" "reason") L fI (.ref cda) cc))) [])
/-- what __init__ leaves at x -/
structure Left (h h' : Heap) (x C dx : Addr) (v1 v2 : Value) : Prop where
  keep : ∀ b o, b ≠ x → h.get? b = some o → h'.get? b = some o
  obj : ∃ t1, h'.get? x = some { cls := .ref C, dict := some dx, data := .fields #[.ref t1, .none, .none, .none, .bool false, .none] }
  dbig : h.objs.size ≤ dx
  dne : dx ≠ x
  ns : h'.Ns1 dx (fun y => if y = "reason" then some v2 else if y = "path" then some v1 else none)
/-- the tuple at a holds ints, its text is not long -/
structure Pth (h : Heap) (a : Addr) (ns : List Int) : Prop where
  tup : ∃ o items n, h.get? a = some o ∧ o.cls = .type "tuple" ∧ o.data = .seq items n ∧ IntsAre items.toList ns
  few : ns.length ≤ 1000
  low : ∀ n ∈ ns, n.natAbs.log2 < 1000
theorem Pth.keep {h h' : Heap} {a : Addr} {ns : List Int} (p : Pth h a ns) (k : ∀ o, h.get? a = some o → h'.get? a = some o) : Pth h' a ns :=
  ⟨let ⟨o, i, n, e, r⟩ := p.tup; ⟨o, i, n, k o e, r⟩, p.few, p.low⟩
theorem repr_ints {prog : Program} {w : World} : ∀ {vs : List Value} {ns : List Int}, IntsAre vs ns → (∀ n ∈ ns, n.natAbs.log2 < 1000) → ∃ ts, ReprAll prog w vs ts ∧ piled ts ≤ 1923 * ns.length
  | _, _, .nil, _ => ⟨[], .nil, Nat.le_refl _⟩
  | _, _, @IntsAre.cons n _ _ ns r, h => by
    obtain ⟨ts, r1, r2⟩ := repr_ints (prog := prog) (w := w) r fun m hm => h m (List.mem_cons_of_mem _ hm)
    have h1 := h n List.mem_cons_self
    refine ⟨_, .cons (ReprIs.int _ (by omega)) r1, ?_⟩
    have h2 : (toString n : Str).length ≤ 1921 := int_text_len_1921 (by omega)
    rw [piled_cons, List.length_cons]
    have e : (((toString n : String) : Str)).length ≤ 1921 := h2
    omega
section
variable {prog : Program} {w : World} {A : Around} {E : Value → Shared → Prop} {h : Heap} {g : Array GenState} {d : Drawn} {os : OsState}
theorem unr_text {env : Env} {m : Str → Option Value} {th : Addr} {ns : List Int} {z : Str} {tz : Tok} {pv : Nat → Pos} {p : Pos} {t : Nat} {Q : Value → Shared → Prop} (hu : A.units + 2 < cLine) (hn : h.Ns env.locals m) (h1 : m "reason" = some (.str z tz)) (h2 : m "path" = some (.ref th)) (hk : env.scope.kind = .function) (l1 : env.kindOf "reason" = some .local) (l2 : env.kindOf "path" = some .local)
    (hp : Pth h th ns) (hz : z.length ≤ 1000) (q : ∀ u tk, Q u ⟨h, g, d, tk, os⟩) : wpAny (model prog w) A (eval (.JoinedStr (valsUnr pv) p) env) Q E ⟨h, g, d, t, os⟩ := by
  obtain ⟨⟨o, items, n, ho, hc, hd, hi⟩, few, low⟩ := hp
  obtain ⟨ts, ra, pl⟩ := repr_ints (prog := prog) (w := w) hi low
  have htx := fmt_text ts
  have e0 : Str.empty.length = 0 := rfl
  have e1 : (Str.ofString " at ").length = 4 := by decide +kernel
  have ap : ∀ a b : Str, (a ++ b).length = a.length + b.length := fun a b => strLen_append a b
  have hsz : sizeLine = 16777216 := by decide
  refine wpAny_JoinedStr ?_
  refine wpAny_FormattedValue_plain (ldN hn h1 ?_ hk l1 (by decide))
  have two : ∀ tk, Joins (model prog w) A E (evalEach [.Constant (.str " at ") 0 (pv 2), .FormattedValue (.Name "path" (pv 3)) (-1) none (pv 4)] env) (Str.empty ++ z) (fun out s₁ => out.length ≤ sizeLine ∧ Q (.str out s₁.toks) { s₁ with toks := s₁.toks + 1 }) ⟨h, g, d, tk, os⟩ := fun tk => by
    refine wpAny_Constant_str ⟨_, _, rfl, by rw [ap, ap, e0, e1, hsz]; omega, ?_⟩
    refine wpAny_FormattedValue_plain (ldN (s := ⟨h, g, d, _, os⟩) hn h2 ?_ hk l2 (by decide))
    refine fmt_tuple hu ho hc hd ra (by rw [hsz]; omega) fun m u tk hm => ⟨_, _, rfl, by rw [ap, ap, ap, e0, e1, hsz]; omega, ?_⟩
    exact ⟨by rw [ap, ap, ap, e0, e1, hsz]; omega, q _ _⟩
  exact wpAny_formatField_str ⟨z, _, rfl, by rw [ap, e0, hsz]; omega, two _⟩ ⟨z, _, rfl, by rw [ap, e0, hsz]; omega, two _⟩ (by rw [hsz]; omega)
end
section
variable {prog : Program} {w : World} {A : Around} {R : Result → Shared → Prop} {s : Shared} {K : Frag} {mg mb : Str → Option Value} {C fI cc cda : Addr}
theorem init_walk (T : Txt prog K C fI cc cda) (base : Heap) {x t0 : Addr} {th : Addr} {ns : List Int} {z : Str} {tz : Tok} (X0 : K.In base) (G0 : base.Ns mainGlobals mg) (B0 : base.Ns builtinsNs mb) (hB : mb "super" = some (.type "super")) (up : ∀ b o, base.get? b = some o → s.heap.get? b = some o)
    (hlim : s.heap.NoLimit) (hx : s.heap.get? x = some (excO C t0)) (hnx : K.lookup x = none) (hroom : A.depth < recursionLimit) (hu : A.units + 64 < cLine) (hpt : Pth s.heap th ns) (hz : z.length ≤ 1000)
    (hq : ∀ h' tk dx, Left s.heap h' x C dx (.ref th) (.str z tz) → R (.ok (.ret .none)) { s with heap := h', toks := tk }) :
    codeAny (model prog w) A (.call (.ref fI) ⟨[.ref x, .ref th, .str z tz], []⟩) R s := by
  obtain ⟨qual, oc, od, kV, doc, pm, an, ct, osl, pa, ps, pv, p1, p2, hfn, hcd, hev⟩ := T.fn
  obtain ⟨cl, cld, csl, hcc⟩ := T.cell
  obtain ⟨ccl, cdd, vs, ccs, file, tf, hcda, hvs, hfile⟩ := T.code
  obtain ⟨nm, q, N, bs, bm, sn, sub, ab, col, dd, k0, k1, k2, k3, k5, hC, hbm⟩ := T.cls
  have hcl : clsIn K C = some { name := nm, bases := bs, mro := .ref C :: bm, ns := N, qualname := q, hasDict := true, slotNames := sn, subclasses := sub, abstract := ab, collection := col, hasDel := false } := by unfold clsIn; rw [hC] <;> rfl
  have X : K.In s.heap := X0.keeps up
  obtain ⟨pl, hev⟩ := hev s.heap.objs.size
  refine ks_codeAny_call_defAt (fd := fnUnr qual pa ps pv p1 p2 kV doc pm an (.ref cda) ct cc) (body := [supS (valsUnr pv) ps, keepS "path" p1, keepS "reason" p2]) (binds := [("self", .ref x), ("path", .ref th), ("reason", .str z tz)]) hroom (X _ _ hfn) rfl hlim (codeRec_of X hcd) rfl (BindsTo.of_eq (by rfl)) (by show ∀ x ∈ (scope3 "path" "reason").names, x.2 ≠ .cell; decide) (by intro y hy; simp only [List.mem_cons, List.not_mem_nil, or_false] at hy; rcases hy with rfl | rfl | rfl <;> rfl) (fun h₁ hns k => ?_)
  have X₁ : K.In h₁ := X.keeps k
  have hx₁ := k _ _ hx
  have L0 : h₁.Ns s.heap.objs.size (fun y => ([(("self" : Str), Value.ref x), ("path", .ref th), ("reason", .str z tz)].reverse : List (Str × Value)).lookup y) := hns
  refine ks_wpAt_execs_cons (ks_wpAt_Expr_any (ks_wpAt_MethodCall (pl := pl) ?_ hev))
  refine ks_wpAt_super_base (env := ksEnv qual (scope3 "path" "reason") s.heap.objs.size fI (.ref cda) cc) rfl rfl (by decide) rfl (k _ _ (X _ _ hfn)) rfl rfl rfl (X₁ _ _ hcda) rfl hvs hfile T.top ?_
  refine ks_loadName_global rfl rfl (loadGlobal_builtin (env := ksEnv qual (scope3 "path" "reason") s.heap.objs.size fI (.ref cda) cc) ((G0.keeps up).keeps k) (mg_none_of X0 G0 T.su) ((B0.keeps up).keeps k) hB ⟨rfl, ?_⟩)
  refine wpAny_loadName_free rfl rfl rfl ⟨_, X₁ _ _ hcc, rfl⟩ ?_
  refine wpAny_loadName_local rfl rfl hns (by rfl) ?_
  refine ks_wpAny_isType_cls (X₁ _ _ hC) rfl ⟨rfl, ?_⟩
  refine ks_wpAny_call_super (X₁ _ _ hC) rfl hx₁ rfl (fun c e => by cases e) (looks_mroIn X₁ T.mr) (fun h₂ e₂ k₂ => ?_)
  have X₂ : K.In h₂ := X₁.keeps k₂
  have hx₂ := k₂ _ _ hx₁
  have hm : alongIn K "__init__" (((Value.ref C :: bm).dropWhile (· != .ref C)).drop 1) = some (some (.builtin "ValueError.__init__")) := by
    have e := T.sm
    unfold ks_superIn at e
    rw [hcl] at e
    exact e
  have I₂ : InstAt h₂ x (excO C t0) C none := ⟨hx₂, rfl, rfl, trivial⟩
  have hxC : x ≠ C := fun e => by rw [e, hC] at hnx; cases hnx
  refine kxs_getMethod kxs_ValueError e₂ (looks_opaque X₂ T.op) (l₀ := .ref C :: bm) (fun A Q E s k q => wpAny_bind ((looks_clsIn X₂ hcl) A _ E s k (wpAny_pure q))) rfl X₂ hm (I₂.type.andThen (looks_subIn X₂ T.sv)) hxC (by decide) ?_
  have k₃ : ∀ b o, h₂.get? b = some o → (h₂.push (kxs_mw "ValueError.__init__" x)).get? b = some o := fun b o e => Heap.get?_push_of_some _ e
  have cu : (h₂.push (kxs_mw "ValueError.__init__" x)).get? h₂.objs.size = some (kxs_mw "ValueError.__init__" x) := Heap.get?_push_at rfl rfl
  generalize h₂.push (kxs_mw "ValueError.__init__" x) = h₃ at k₃ cu
  have n₃ : h₃.Ns s.heap.objs.size (fun y => ([(("self" : Str), Value.ref x), ("path", .ref th), ("reason", .str z tz)].reverse : List (Str × Value)).lookup y) := (L0.keeps k₂).keeps k₃
  show wpAny _ _ (callWith (ps 4) (.ref h₂.objs.size) [] ((false, eval (.JoinedStr (valsUnr pv) (ps 3)) (ksEnv qual (scope3 "path" "reason") s.heap.objs.size fI (.ref cda) cc)) :: []) []) _ _ _
  refine kxs_callWith (i := "ValueError.__init__") (x := x) rfl (evalArgs_plain (spliced_cons ?_))
  refine unr_text (ns := ns) (by show A.units + 3 + 2 < cLine; omega) n₃ (by rfl) (by rfl) rfl rfl rfl (hpt.keep fun o e => k₃ _ _ (k₂ _ _ (k _ _ e))) hz fun u tk => ?_
  refine spliced_nil ⟨cu, ?_⟩
  show wpAny _ _ (call (.ref h₂.objs.size) [u]) _ _ _
  have X₃ : K.In h₃ := X₂.keeps k₃
  refine wrapped (X₃ _ _ hC) (k₃ _ _ hx₂) cu (by rw [show sizeLine = 16777216 by decide]; exact (by decide : 1 ≤ 16777216)) fun h₄ t1 k₄ hx₄ => ?_
  have X₄ : K.In h₄ := fun a o e => k₄ a o (fun z => by rw [z, hnx] at e; cases e) (X₃ a o e)
  have old : ∀ b o, b ≠ x → s.heap.get? b = some o → h₄.get? b = some o := fun b o nb e => k₄ b o nb (k₃ b o (k₂ b o (k b o e)))
  have hLx : s.heap.objs.size ≠ x := Nat.ne_of_gt (Heap.lt_size hx)
  have n₄ : h₄.Ns s.heap.objs.size (fun y => ([(("self" : Str), Value.ref x), ("path", .ref th), ("reason", .str z tz)].reverse : List (Str × Value)).lookup y) := n₃.at fun o q => k₄ _ o hLx q
  refine wpAt_of_wpAny ?_
  refine wpAny_execs_cons (plainObj_wpAny_Assign_Attribute ?_)
  refine ldN (v := .ref th) n₄ (by rfl) (ldN (v := .ref x) n₄ (by rfl) ?_)
  refine set_plain X₄ (ox := excO C t1) (od := none) ⟨hx₄, rfl, rfl, trivial⟩ T.sa ?_
  refine exc_osa X₄ hx₄ hcl (show refsVE (.ref C :: bm) = true from hbm) rfl T.n1 (fun h₅ tk₅ dx k₅ dn dne hx₅ hn₅ => ?_)
  have X₅ : K.In h₅ := fun a o e => k₅ a o (fun z => by rw [z, hnx] at e; cases e) (X₄ a o e)
  have n₅ : h₅.Ns s.heap.objs.size (fun y => ([(("self" : Str), Value.ref x), ("path", .ref th), ("reason", .str z tz)].reverse : List (Str × Value)).lookup y) := n₄.at fun o q => k₅ _ o hLx q
  show wpAny _ _ (execs [keepS "reason" p2] _) _ _ _
  refine wpAny_execs_cons (plainObj_wpAny_Assign_Attribute ?_)
  refine ldN (v := .str z tz) n₅ (by rfl) (ldN (v := .ref x) n₅ (by rfl) ?_)
  have hw₅ : Within (fun y => if y = ("path" : Str) then some (Value.ref th) else none) [("path" : Str)] := fun y hy => by
    by_cases e : y = "path"
    · rw [e]; exact List.mem_cons_self
    · exact absurd (if_neg e) hy
  obtain ⟨oD, _, _, hoD, _, _⟩ := hn₅.count hw₅
  refine set_plain X₅ (ox := { cls := .ref C, dict := some dx, data := .fields #[.ref t1, .none, .none, .none, .bool false, .none] }) (od := some oD) ⟨hx₅, rfl, rfl, hoD⟩ T.sa ?_
  refine PySem.OEX.osa_old X₅ hx₅ hn₅ hw₅ (by decide) hcl (show refsVE (.ref C :: bm) = true from hbm) rfl T.n2 (fun h₆ tk₆ k₆ hn₆ => ?_)
  show wpAny _ _ (execs [] _) _ _ _
  have big : s.heap.objs.size ≤ dx := by
    have z1 : s.heap.objs.size < h₄.objs.size := n₄.lt
    exact Nat.le_of_lt (Nat.lt_of_lt_of_le z1 dn)
  refine wpAny_execs_nil (hq h₆ _ dx ⟨fun b o nb e => k₆ b o (fun z => ?_) (k₅ b o nb (old b o nb e)), ⟨t1, k₆ x _ dne.symm hx₅⟩, big, dne, hn₆⟩)
  rw [z] at e
  exact absurd (Heap.lt_size e) (Nat.not_lt.mpr big)
end
theorem make_unitsU {A : Around} {C : Addr} {us : List Value} : (A.under (.builtin "type.__call__" ⟨.ref C :: us, []⟩)).units = A.units + 1 := L2.make_units
/-- a made Unreadable -/
structure Made (h h' : Heap) (e C d : Addr) (v1 v2 : Value) : Prop where
  keep : ∀ b o, h.get? b = some o → h'.get? b = some o
  new : h.objs.size ≤ e
  obj : ∃ oe vs, h'.get? e = some oe ∧ oe.cls = .ref C ∧ oe.dict = some d ∧ oe.data = .fields vs ∧ vs[1]? = some .none
  dbig : h.objs.size ≤ d
  dne : d ≠ e
  ns : h'.Ns1 d (fun y => if y = "reason" then some v2 else if y = "path" then some v1 else none)
section
variable {prog : Program} {w : World} {A : Around} {R : Result → Shared → Prop} {s : Shared} {K : Frag} {mg mb : Str → Option Value} {C fI cc cda : Addr}
theorem made_unr (T : Txt prog K C fI cc cda) (base : Heap) {th : Addr} {ns : List Int} {z : Str} {tz : Tok} (X0 : K.In base) (G0 : base.Ns mainGlobals mg) (B0 : base.Ns builtinsNs mb) (hB : mb "super" = some (.type "super")) (up : ∀ b o, base.get? b = some o → s.heap.get? b = some o)
    (hlim : s.heap.NoLimit) (hroom : A.depth + 1 < recursionLimit) (hu : A.units + 66 < cLine) (hpt : Pth s.heap th ns) (hz : z.length ≤ 1000)
    (hq : ∀ h' tk e d, Made s.heap h' e C d (.ref th) (.str z tz) → R (.ok (.ret (.ref e))) { s with heap := h', toks := tk }) :
    codeAny (model prog w) A (.call (.ref C) ⟨[.ref th, .str z tz], []⟩) R s := by
  obtain ⟨nm, q, N, bs, bm, sn, sub, ab, col, dd, k0, k1, k2, k3, k5, hC, hbm⟩ := T.cls
  obtain ⟨hp, g, dr, tk, os⟩ := s
  have X : K.In hp := X0.keeps up
  have k : ∀ b o, hp.get? b = some o → ((hp.push (kdv_tup [.ref th, .str z tz])).push (excO C hp.objs.size)).get? b = some o := fun b o e => Heap.get?_push_of_some _ (Heap.get?_push_of_some _ e)
  have hget : ((hp.push (kdv_tup [.ref th, .str z tz])).push (excO C hp.objs.size)).get? (hp.objs.size + 1) = some (excO C hp.objs.size) := by heap_get
  have hnx : K.lookup (hp.objs.size + 1) = none := by
    cases e : K.lookup (hp.objs.size + 1) with
    | none => rfl
    | some o => exact absurd (Nat.lt_of_succ_lt (Heap.lt_size (X _ _ e))) (Nat.lt_irrefl _)
  refine call_own F.excBase_ValueError (fun X => refsVE_contains X bm hbm) (X _ _ hC) (looks_findIn X T.iC) (fun self => bind_fn X self T.tC) (by rw [show sizeLine = 16777216 by decide]; exact (by decide : 2 ≤ 16777216)) ?_
  refine init_walk (s := ⟨(hp.push (kdv_tup [.ref th, .str z tz])).push (excO C hp.objs.size), g, dr, tk, os⟩) T base X0 G0 B0 hB (fun b o e => k b o (up b o e)) (hlim.keeps k) hget hnx ?_ ?_ (hpt.keep fun o e => k _ _ e) hz fun h' tk' dx L => ?_
  · show A.depth + 1 < recursionLimit
    exact hroom
  · rw [make_unitsU]
    omega
  · have old : ∀ b o, hp.get? b = some o → h'.get? b = some o := fun b o e => L.keep b o (Nat.ne_of_lt (Nat.lt_succ_of_lt (Heap.lt_size e))) (k b o e)
    have zz : hp.objs.size + 1 + 1 ≤ dx := by
      have q := L.dbig
      first
        | (simpa only [Heap.size_push] using q)
        | exact q
        | (rw [Heap.size_push, Heap.size_push] at q; exact q)
    obtain ⟨t1, hx⟩ := L.obj
    exact ⟨rfl, hq h' tk' (hp.objs.size + 1) dx ⟨old, Nat.le_succ _, ⟨_, _, hx, rfl, rfl, rfl, rfl⟩, Nat.le_trans (Nat.le_trans (Nat.le_succ _) (Nat.le_succ _)) zz, L.dne, L.ns⟩⟩
end
end UX
end PySem
namespace L2
open PySem PySem.Spec PyProof.Rows
def unrF (th : Addr) (z : Str) : List (Str × V) := [(("reason" : Str), .str z), (("path" : Str), .ref th)]
theorem rel_unr {th : Addr} {z : Str} {tz : Tok} (f : Str) : RelO ((unrF th z).lookup f) (if f = "reason" then some (Value.str z tz) else if f = "path" then some (Value.ref th) else none) := by
  unfold unrF
  rw [lookup_put]
  by_cases h1 : f = "reason"
  · rw [if_pos h1, if_pos h1]
    exact ⟨_, rfl⟩
  · rw [if_neg h1, if_neg h1, lookup_put]
    by_cases h2 : f = "path"
    · rw [if_pos h2, if_pos h2]
      exact rfl
    · rw [if_neg h2, if_neg h2]
      exact True.intro
section
variable {X : Cx} {C fI cc cda : Addr}
/-- Unreadable(i, z) -/
def tMkUnr (K : PySem.W.Frag) (C : Addr) (ta : TA) : St → Hp → XK → Prop := fun σ H Q => ta σ H fun vs H1 => ∃ (th : Addr) (ns : List Int) (z : Str), vs = [.ref th, .str z] ∧ SqT K H1 th (ns.map V.int) ∧ ns.length ≤ 1000 ∧ (∀ n ∈ ns, n.natAbs.log2 < 1000) ∧ z.length ≤ 1000 ∧ ∀ d, H1 d = none → Q (.ref C) (some d) (upd H1 d (.xd (unrF th z)))
theorem pmk_unr {a b : Expr} {ta : TA} {p pos : Pos} {k : Nat} (T : PySem.UX.Txt X.prog X.K C fI cc cda) (gC : X.mg "Unreadable" = some (.ref C)) (kC : PySem.W.keepIn X.K (.ref C) = true) (exC : PySem.W.subIn X.K (.ref C) (.type "BaseException") = some true) (tyC : PySem.W.typeIn X.K (.ref C) = some (.type "type"))
    (hr : Room k X.A) (ha : PA X [a, b] ta) (hg : Gl X "Unreadable" := by rfl)
    (he : starEach (a :: [b]) X.env = (false, eval a X.env) :: starEach [b] X.env := by rfl) (hpl : (backTo pos (starEach [b] X.env)).any (·.1) = false := by rfl) :
    PMk X (.Call (.Name "Unreadable" p) [a, b] [] pos) (tMkUnr X.K C ta) := by
  intro pins s σ H Q I h
  refine wpAny_Call_Name_kw (ld_glob I hg gC ?_)
  refine PySem.W.callWith_K (h₀ := X.base) I.ok.mod.kin kC (thn (ha.run pos pins s σ H _ I h) fun us s1 hh => ?_) he hpl
  obtain ⟨vs, H1, I1, r1, th, ns, z, ev, hsq, hf, hlo, hz, q1⟩ := hh
  subst ev
  refine ⟨I1.kIn, ?_⟩
  cases r1 with
  | cons rv rn =>
    cases rn with
    | cons rw2 rn =>
      cases rn
      cases rv
      obtain ⟨tz, rfl⟩ := rw2
      show wpAny _ _ (call (.ref C) [.ref th, .str z tz]) _ _ _
      have hlim := I1.nolimit
      obtain ⟨its, rvi, ⟨ot, hot, hct, nt, hdt⟩, _⟩ := I1.tuple hsq
      have hpt : PySem.UX.Pth s1.heap th ns := ⟨⟨ot, _, nt, hot, hct, hdt, rvi.ints⟩, hf, hlo⟩
      obtain ⟨mb, hb1, hb2⟩ := I1.ok.mod.blt
      have hup : ∀ b o, X.base.get? b = some o → s1.heap.get? b = some o := fun b o e => I1.bk b o e
      obtain ⟨hp, g, dr, tk, os⟩ := s1
      refine wpAny_call (PySem.UX.made_unr T X.base I1.ok.mod.kin I1.ok.mod.glob hb1 ((hb2 "super" (by decide)).trans (by decide +kernel)) hup hlim (by have := hr.dp; omega) (by have := hr.un; omega) hpt hz fun h' tk' e d M => ?_)
      show MkP X pins σ Q (.ref e) ⟨h', g, dr, tk', os⟩
      obtain ⟨oe, fv, hoe, hc, hd, hdat, h1⟩ := M.obj
      have hns := M.ns
      obtain ⟨G', g1, g2⟩ := restrict h' fun b => decide (b ≠ e)
      have gk : ∀ b, b ≠ e → G'.get? b = h'.get? b := fun b hb => g1 b (decide_eq_true hb)
      have ge : G'.get? e = none := g2 e (by simp)
      have old : ∀ b o, hp.get? b = some o → G'.get? b = some o := fun b o q => (gk b (Nat.ne_of_lt (Nat.lt_of_lt_of_le (Heap.lt_size q) M.new))).trans (M.keep b o q)
      have ob : ObjOk X.prog X.w (upd H1 d (.xd (unrF th z))) G' d (.xd (unrF th z)) :=
        ⟨_, hns.at (fun o q => (gk d M.dne).trans q), fun f => rel_unr f⟩
      have J : Inv X pins σ (upd H1 d (.xd (unrF th z))) ⟨G', g, dr, tk', os⟩ := I1.laid (t' := tk') old M.dbig ob
      refine ⟨e, oe, fv, ⟨G', g, dr, tk', os⟩, _, .ref C, some d, rfl, J, fun b o q => ?_, ge, hoe, ⟨hc, hd⟩, hdat, h1, ?_, rfl, I1.bare, raises_own exC tyC, q1 d (I1.hok.fresh M.dbig)⟩
      · by_cases hb : b = e
        · have q' : G'.get? b = some o := q
          rw [hb, ge] at q'; cases q'
        · exact (gk b hb).symm.trans q
      · rw [upd_ne (Ne.symm M.dne)]
        exact I1.hok.fresh M.new
end
end L2
set_option Elab.async false
set_option linter.all false
set_option maxRecDepth 100000
set_option maxHeartbeats 4000000
namespace L2
open PySem PySem.Spec PyProof.Rows
/-- e.f of a caught error whose dict holds the fields fs -/
def tFldX (C : Addr) (a : Addr) (cls : Value) (d : Option Addr) (f : Str) (te : TE) : TE := fun σ H Q => te σ H fun x H1 => x = .ref a ∧ cls = .ref C ∧ ∃ (dd : Addr) (fs : List (Str × V)) (v : V), d = some dd ∧ H1 dd = some (.xd fs) ∧ fs.lookup f = some v ∧ Q v H1
theorem pe_fldX {X : Cx} {C a : Addr} {oe : Obj} {cls : Value} {d : Option Addr} {pn : List (Addr × Obj)} {e : Expr} {te : TE} {pos : Pos} {f : Str} (ga : PySem.W.findIn X.K (.ref C) "__getattribute__" = some (some (.builtin "BaseException.__getattribute__"))) (gg : PySem.W.findIn X.K (.ref C) "__getattr__" = some none)
    (exC : PySem.W.subIn X.K (.ref C) (.type "BaseException") = some true) (hdC : PySem.W.hasDictIn X.K C = true) (noF : PySem.W.findIn X.K (.ref C) f = some none) (hz : Zc cls d oe) (hf : ∃ vs, oe.data = .fields vs) (he : PE (X.suite a ((a, oe) :: pn)) e te)
    (hb : attributeBase e f X.env (eval e X.env) = eval e X.env := by rfl) :
    PE (X.suite a ((a, oe) :: pn)) (.Attribute e f pos) (tFldX C a cls d f te) := by
  refine ⟨fun pins s σ H Q I h => ?_⟩
  refine attr_of hb (thn (he.run pins s σ H _ I h) fun u s1 hh => ?_)
  obtain ⟨x, H1, I1, rx, ex, ec, dd, fs, v, ed, ea, l, q⟩ := hh
  subst ex
  obtain rfl : u = Value.ref a := rx
  subst ec
  subst ed
  obtain ⟨ha, _⟩ := I1.pin (a, oe) (List.mem_append_left _ List.mem_cons_self)
  obtain ⟨vs, hd⟩ := hf
  have hx : ObjOk X.prog X.w H1 s1.heap dd (.xd fs) := I1.hok dd _ ea
  obtain ⟨mA, hns, hr⟩ := hx
  obtain ⟨od, ho, hl⟩ := lookIn_ns hns
  obtain ⟨u, hu, ru⟩ := RelO.some_of (v := v) (o := mA f) (by rw [← l]; exact hr f)
  have J : PySem.W.InstAt s1.heap a oe C (some od) := ⟨ha, hz.1, by unfold PySem.W.notCls; rw [hd] <;> rfl, by rw [hz.2]; exact ho⟩
  exact HandSPX.exc_get I1.kIn J ga gg exC (PySem.W.findObj_own hdC noF rfl (by rw [hl, hu])) (handed_of ru) ⟨v, H1, I1.tok _, ru, q⟩
end L2
namespace DL
open PySem PySem.Spec PyProof.Rows L2
/-! ### errors as data -/
/-- the class at C is the module's nm -/
def EC (K : PySem.W.Frag) (nm : Str) (C : Addr) : Prop := PySem.W.nsIn K mainGlobals nm = some (some (.ref C))
def badD (i : Int) (z : Str) : D := .tup [.str (Str.ofString "BadOctets"), .int i, .str z]
def plainD (nm : Str) : D := .tup [.str nm]
def unrD (ns : List Int) (z : Str) : D := .tup [.str (Str.ofString "Unreadable"), .tup (ns.map .int), .str z]
/-- an error x in the heap: its class, its dict -/
def RepX (K : KW) (H : Hp) (x : D) (cls : Value) (d : Option Addr) : Prop :=
  (∃ C i z dd, x = badD i z ∧ cls = .ref C ∧ EC K "BadOctets" C ∧ d = some dd ∧ H dd = some (.xd (badF i z)) ∧ sOk z = true) ∨ (∃ C nm, x = plainD nm ∧ cls = .ref C ∧ EC K nm C ∧ d = none) ∨
  (∃ C ns z dd th, x = unrD ns z ∧ cls = .ref C ∧ EC K "Unreadable" C ∧ d = some dd ∧ H dd = some (.xd (unrF th z)) ∧ BT K H th (ns.map V.int) ∧ sOk z = true)
def postX (K : KW) (F : Fr) (H : Hp) (G : Gp) (E : D → Gp → Prop) (cls : Value) (d : Option Addr) (H' : Hp) : Prop :=
  ∃ x F' G', Keep F H G F' H' G' ∧ Rel K F' H' G' ∧ RepX K H' x cls d ∧ E x G'
def postXS (K : KW) (F : Fr) (H : Hp) (G : Gp) (E : D → DS → Gp → Prop) (cls : Value) (d : Option Addr) (σ : L2.St) (H' : Hp) : Prop :=
  ∃ x δ F' G', Keep F H G F' H' G' ∧ Rel K F' H' G' ∧ RepX K H' x cls d ∧ RepS K F' H' δ σ ∧ E x δ G'
/-- a promise that may be kept by an error -/
def upSpX (K : KW) (sp : DSp) : Sp := fun vs H Q E => ∃ F ds G Q' E', Rel K F H G ∧ RepL K F H ds vs ∧ sp ds G Q' E' ∧ (∀ v H', post K F H G Q' v H' → Q v H') ∧ ∀ cls d H', postX K F H G E' cls d H' → E cls d H'
/-! ### expressions that may end in an error -/
abbrev DXE := DS → Gp → (D → Gp → Prop) → (D → Gp → Prop) → Prop
def upX (K : KW) (W : WX) (t : DXE) : TE := fun σ H Q0 => ∃ F δ G Q E, Rel K F H G ∧ RepS K F H δ σ ∧ t δ G Q E ∧ (∀ v H', post K F H G Q v H' → Q0 v H') ∧ ∀ cls d H', postX K F H G E cls d H' → W cls d σ H'
def XE' (X : Cx) (W : WX) (e : Expr) (t : DXE) : Prop := PE X e (upX (kw X) W t)
structure XEnds where
  nx : DS → Gp → Prop
  rt : D → Gp → Prop
  bk : DS → Gp → Prop := fun _ _ => False
  ct : DS → Gp → Prop := fun _ _ => False
  ex : D → DS → Gp → Prop := fun _ _ _ => False
abbrev DXS := XEnds → DS → Gp → Prop
structure EndsUpX (K : KW) (F : Fr) (H : Hp) (G : Gp) (D' : XEnds) (D : Ends) (W : WX) : Prop where
  nx : ∀ σ' H', postS F K H G D'.nx σ' H' → D.nx σ' H'
  rt : ∀ v H', post K F H G D'.rt v H' → D.rt v H'
  bk : ∀ σ' H', postS F K H G D'.bk σ' H' → D.bk σ' H'
  ct : ∀ σ' H', postS F K H G D'.ct σ' H' → D.ct σ' H'
  ex : ∀ cls d σ' H', postXS K F H G D'.ex cls d σ' H' → W cls d σ' H'
def upXS (K : KW) (W : WX) (t : DXS) : TS := fun D σ H => ∃ F δ G D', Rel K F H G ∧ RepS K F H δ σ ∧ t D' δ G ∧ EndsUpX K F H G D' D W
def XS (X : Cx) (W : WX) (st : Stmt) (t : DXS) : Prop := PS X st (upXS (kw X) W t)
def XSs (X : Cx) (W : WX) (st : List Stmt) (t : DXS) : Prop := PSs X st (upXS (kw X) W t)
def XEnds.toD (E : XEnds) : DEnds := ⟨E.nx, E.rt, E.bk, E.ct⟩
section
variable {X : Cx} {K : KW} {F F' : Fr} {H H' : Hp} {G G' : Gp} {W : WX} {a b c e tg : Expr} {es rest : List Expr} {ta tb te : DTE} {t u : DTT} {tr : DTA} {pos : Pos} {st : Stmt} {sts : List Stmt} {ts us : DXS} {g : DTG}
theorem EndsUpX.step {D' : XEnds} {D : Ends} (k : Keep F H G F' H' G') (h : EndsUpX K F H G D' D W) : EndsUpX K F' H' G' D' D W :=
  ⟨fun σ H2 ⟨δ, F2, G2, k2, q⟩ => h.nx σ H2 ⟨δ, F2, G2, k.trans k2, q⟩, fun v H2 ⟨d, F2, G2, k2, q⟩ => h.rt v H2 ⟨d, F2, G2, k.trans k2, q⟩,
   fun σ H2 ⟨δ, F2, G2, k2, q⟩ => h.bk σ H2 ⟨δ, F2, G2, k.trans k2, q⟩, fun σ H2 ⟨δ, F2, G2, k2, q⟩ => h.ct σ H2 ⟨δ, F2, G2, k.trans k2, q⟩, fun cls d σ H2 ⟨x, δ, F2, G2, k2, q⟩ => h.ex cls d σ H2 ⟨x, δ, F2, G2, k.trans k2, q⟩⟩
theorem EndsUpX.toD {D' : XEnds} {D : Ends} (h : EndsUpX K F H G D' D W) : EndsUp K F H G D'.toD D := ⟨h.nx, h.rt, h.bk, h.ct⟩
/-- what raises nothing -/
def xLift (t : DTS) : DXS := fun E δ G => t E.toD δ G
theorem xs_lift {t : DTS} (h : QS X st t) : XS X W st (xLift t) := PSmono h fun D σ H ⟨F, δ, G, D', R, S, q, E⟩ => ⟨F, δ, G, D'.toD, R, S, q, E.toD⟩
theorem xss_lift {t : DTS} (h : QSs X sts t) : XSs X W sts (xLift t) := PSsmono h fun D σ H ⟨F, δ, G, D', R, S, q, E⟩ => ⟨F, δ, G, D'.toD, R, S, q, E.toD⟩
def xSeq (t u : DXS) : DXS := fun E δ G => t { E with nx := u E } δ G
theorem xss_cons (h1 : XS X W st ts) (h2 : XSs X W sts us) : XSs X W (st :: sts) (xSeq ts us) := PSsmono (pss_cons h1 h2) fun D σ H ⟨F, δ, G, D', R, S, q, E⟩ =>
  ⟨F, δ, G, { D' with nx := us D' }, R, S, q, ⟨fun σ1 H1 ⟨δ1, F1, G1, k1, R1, S1, q1⟩ => ⟨F1, δ1, G1, D', R1, S1, q1, E.step k1⟩, E.rt, E.bk, E.ct, E.ex⟩⟩
theorem xss_one (h1 : XS X W st ts) : XSs X W [st] ts := pss_one h1
def xIf (c : DTT) (t u : DXS) : DXS := fun E δ G => c δ G fun b G1 => dCond b (t E δ G1) (u E δ G1)
theorem xs_if {sa sb : List Stmt} (hc : QT X c t) (ha : XSs X W sa ts) (hb : XSs X W sb us) : XS X W (.If c sa sb pos) (xIf t ts us) := PSmono (ps_if hc ha hb) fun D σ H ⟨F, δ, G, D', R, S, q, E⟩ => by
  refine ⟨F, δ, G, _, R, S, q, fun b H1 ⟨F1, G1, k1, R1, q1⟩ => ?_⟩
  cases b with
  | true => exact ⟨F1, δ, G1, D', R1, S.mono R k1, q1, E.step k1⟩
  | false => exact ⟨F1, δ, G1, D', R1, S.mono R k1, q1, E.step k1⟩
/-- an expression that raises nothing, a call that may -/
def xOf (te : DTE) : DXE := fun δ G Q _ => te δ G Q
theorem xe_of (h : QE X e te) : XE' X W e (xOf te) := PEmono h fun σ H Q ⟨F, δ, G, Q', E', R, S, q, k, _⟩ => ⟨F, δ, G, Q', R, S, q, k⟩
def xCall (sp : DSp) (tr : DTA) : DXE := fun δ G Q E => tr δ G fun ds G1 => sp ds G1 Q E
theorem RepX.keep (k : Keep F H G F' H' G') (R : Rel K F H G) {x : D} {cls : Value} {d : Option Addr} (r : RepX K H x cls d) : RepX K H' x cls d := by
  rcases r with ⟨C, i, z, dd, e1, e2, e3, e4, e5, e6⟩ | r | ⟨C, ns, z, dd, th, e1, e2, e3, e4, e5, e6, e7⟩
  · exact .inl ⟨C, i, z, dd, e1, e2, e3, e4, (k.k dd _ (R.off e5 (fun _ z => by cases z) (fun _ z => by cases z) (fun _ _ _ z => by cases z)) e5).1, e6⟩
  · exact .inr (.inl r)
  · refine .inr (.inr ⟨C, ns, z, dd, th, e1, e2, e3, e4, (k.k dd _ (R.off e5 (fun _ z => by cases z) (fun _ z => by cases z) (fun _ _ _ z => by cases z)) e5).1, ?_, e7⟩)
    exact e6.elim (fun ⟨o, h, dn⟩ => .inl ⟨o, (k.k th _ (R.off h (fun _ z => by cases z) (fun _ z => by cases z) (fun _ _ _ z => by cases z)) h).1, dn⟩) .inr
/-- a def of the text that may raise -/
def CalX (P : Program) (w : World) (K : PySem.W.Frag) (mg : Str → Option Value) (base : Heap) (k : Nat) (x : Str) (ps : List Str) (sp : DSp) : Prop :=
  ∃ f fd, FnOk P w K mg base (L2.CX P w) k f fd ps (upSpX ⟨K, P, w⟩ sp) ∧ mg x = some (.ref f) ∧ PySem.W.keepIn K (.ref f) = true ∧ Binds K fd ps []
theorem CalX.imp {P : Program} {w : World} {K : PySem.W.Frag} {mg : Str → Option Value} {base : Heap} {k : Nat} {x : Str} {ps : List Str} {sp sp' : DSp} (c : CalX P w K mg base k x ps sp) (h : ∀ ds G Q E, sp' ds G Q E → sp ds G Q E) : CalX P w K mg base k x ps sp' := by
  obtain ⟨f, fd, Fn, r⟩ := c
  exact ⟨f, fd, Fn.imp fun vs H Q E ⟨F, ds, G, Q', E', R, rl, q, k1, k2⟩ => ⟨F, ds, G, Q', E', R, rl, h _ _ _ _ q, k1, k2⟩, r⟩
theorem xe_call {j k : Nat} {ps : List Str} {sp : DSp} {x : Str} {p : Pos} (c : CalX X.prog X.w (kw X) X.mg X.base k x ps sp) (tk : Takes X W) (hr : Room j X.A) (hk : k ≤ j) (hg : Gl X x)
    (ha : QA X (e :: es) tr) (hdb : (x == ("__debug__" : Str)) = false := by decide) (he : starEach (e :: es) X.env = (false, eval e X.env) :: starEach es X.env := by rfl) (hpl : (backTo pos (starEach es X.env)).any (·.1) = false := by rfl) :
    XE' X W (.Call (.Name x p) (e :: es) [] pos) (xCall sp tr) := by
  obtain ⟨f, fd, Fn, hm, hkp, hb⟩ := c
  refine PEmono (pe_callS Fn (hr.mono hk) hg hm hkp hb (fun σ => passAt tk σ) ha hdb he hpl) fun σ H Q ⟨F, δ, G, Q', E', R, S, q, k1, k2⟩ => ?_
  refine ⟨F, δ, G, _, R, S, q, fun vs H1 ⟨ds, F1, G1, kk, R1, p1, q1⟩ => ?_⟩
  exact ⟨F1, ds, G1, Q', E', R1, p1, q1, fun v H2 ⟨d, F2, G2, k3, r⟩ => k1 v H2 ⟨d, F2, G2, kk.trans k3, r⟩, fun cls d H2 ⟨x, F2, G2, k3, r⟩ => k2 cls d H2 ⟨x, F2, G2, kk.trans k3, r⟩⟩
def xAsg (te : DXE) (g : DTG) : DXS := fun E δ G => te δ G (fun x G1 => g x δ G1 E.nx) (fun x G1 => E.ex x δ G1)
theorem xs_asg {te : DXE} (he : XE' X W e te) (hg : QG X Pany tg g) (hs : swapsWithSole [tg] e pos.line X.env = pure false := by rfl) (hw : swappedStores [tg] e X.env = pure none := by rfl)
    (h1 : (assignEach [tg] X.env).map (·.2) = [assign tg X.env] := by rfl) : XS X W (.Assign [tg] e pos) (xAsg te g) := PSmono (ps_asg he hg hs hw h1) fun D σ H ⟨F, δ, G, D', R, S, q, E⟩ =>
  ⟨F, δ, G, _, _, R, S, q, fun v H1 ⟨d, F1, G1, k1, R1, p1, q1⟩ => ⟨F1, d, δ, G1, _, R1, p1, S.mono R k1, q1, fun σ' H' _ h => (E.step k1).nx σ' H' h⟩,
   fun cls d H1 ⟨x, F1, G1, k1, R1, r1, q1⟩ => E.ex cls d σ H1 ⟨x, δ, F1, G1, k1, R1, r1, S.mono R k1, q1⟩⟩
theorem xs_set {te : DXE} {i : Nat} {x : Str} {pos' : Pos} (hN : X.N.Nodup) (he : XE' X W e te) (hi : X.N[i]? = some x := by rfl) (hx : Loc X.env.scope x := by first | exact Or.inl rfl | exact Or.inr rfl) (hs : swapsWith e (some (.Name x pos')) pos.line X.env = pure false := by rfl) (hf : X.fn x = true ∨ X.env.scope.names.lookup x = some .local := by first | exact .inl rfl | exact .inr rfl) :
    XS X W (.Assign [.Name x pos'] e pos) (xAsg te (dName i)) := PSmono (ps_set hN hi hx he hs hf) fun D σ H ⟨F, δ, G, D', R, S, q, E⟩ =>
  ⟨F, δ, G, _, _, R, S, q, fun v H1 ⟨d, F1, G1, k1, R1, p1, q1⟩ => (E.step k1).nx _ _ ⟨setS δ i (some d), F1, G1, .refl, R1, (S.mono R k1).set i p1, q1⟩,
   fun cls d H1 ⟨x, F1, G1, k1, R1, r1, q1⟩ => E.ex cls d σ H1 ⟨x, δ, F1, G1, k1, R1, r1, S.mono R k1, q1⟩⟩
def xRet (te : DXE) : DXS := fun E δ G => te δ G E.rt (fun x G1 => E.ex x δ G1)
theorem xs_ret {te : DXE} (he : XE' X W e te) : XS X W (.Return (some e) pos) (xRet te) := PSmono (ps_ret he) fun D σ H ⟨F, δ, G, D', R, S, q, E⟩ =>
  ⟨F, δ, G, _, _, R, S, q, E.rt, fun cls d H1 ⟨x, F1, G1, k1, R1, r1, q1⟩ => E.ex cls d σ H1 ⟨x, δ, F1, G1, k1, R1, r1, S.mono R k1, q1⟩⟩
def xDrop (te : DXE) : DXS := fun E δ G => te δ G (fun _ G1 => E.nx δ G1) (fun x G1 => E.ex x δ G1)
theorem xs_expr {te : DXE} (he : XE' X W e te) (hs : swapsWith e none pos.line X.env = pure false := by rfl) : XS X W (.Expr e pos) (xDrop te) := PSmono (ps_expr he hs) fun D σ H ⟨F, δ, G, D', R, S, q, E⟩ =>
  ⟨F, δ, G, _, _, R, S, q, fun v H1 ⟨d, F1, G1, k1, R1, p1, q1⟩ => (E.step k1).nx _ _ ⟨δ, F1, G1, .refl, R1, S.mono R k1, q1⟩,
   fun cls d H1 ⟨x, F1, G1, k1, R1, r1, q1⟩ => E.ex cls d σ H1 ⟨x, δ, F1, G1, k1, R1, r1, S.mono R k1, q1⟩⟩
/-- what the written part says of BadOctets, for making and for catching -/
structure BadAt (P : Program) (K : PySem.W.Frag) (C fI cc cda : Addr) : Prop where
  txt : PySem.BX.Txt P K C fI cc cda
  ec : EC K "BadOctets" C
  kC : PySem.W.keepIn K (.ref C) = true
  exC : PySem.W.subIn K (.ref C) (.type "BaseException") = some true
  tyC : PySem.W.typeIn K (.ref C) = some (.type "type")
  ga : PySem.W.findIn K (.ref C) "__getattribute__" = some (some (.builtin "BaseException.__getattribute__"))
  gg : PySem.W.findIn K (.ref C) "__getattr__" = some none
  hd : PySem.W.hasDictIn K C = true
  te : PySem.W.exmOne K (.ref C) (.ref C) = some true
/-- raise BadOctets(i, z) -/
def xBad (tr : DTA) : DXS := fun E δ G => tr δ G fun ds G1 => ∃ i z, ds = [.int i, .str z] ∧ i.natAbs.log2 < 1000 ∧ z.length ≤ 1000 ∧ E.ex (badD i z) δ G1
theorem xs_bad {C fI cc cda : Addr} {p pos2 : Pos} {k : Nat} (T : BadAt X.prog (kw X) C fI cc cda) (gC : X.mg "BadOctets" = some (.ref C)) (hc : X.calm = true) (tk : Takes X W) (hr : Room k X.A) (ha : QA X [a, b] tr) (hg : Gl X "BadOctets" := by rfl)
    (he : starEach (a :: [b]) X.env = (false, eval a X.env) :: starEach [b] X.env := by rfl) (hpl : (backTo pos (starEach [b] X.env)).any (·.1) = false := by rfl) :
    XS X W (.Raise (some (.Call (.Name "BadOctets" p) [a, b] [] pos)) none pos2) (xBad tr) := PSmono (ps_raise hc tk (pmk_bad T.txt gC T.kC T.exC T.tyC hr ha hg he hpl)) fun D σ H ⟨F, δ, G, D', R, S, q, E⟩ => by
  refine ⟨F, δ, G, _, R, S, q, fun vs H1 ⟨ds, F1, G1, k1, R1, p1, i, z, e1, hi, hz, q1⟩ => ?_⟩
  subst e1
  obtain ⟨v1, r1, rfl, e2, v2, r2, rfl, e3, e4⟩ := p1
  cases e4
  have e2 : v1 = .int i := e2
  obtain ⟨e3, oz⟩ : v2 = .str z ∧ sOk z = true := e3
  subst e2 e3
  refine ⟨i, z, rfl, hi, hz, fun d hd => ?_⟩
  have kk := keep_new (o := .xd (badF i z)) R1 hd
  exact E.ex _ _ σ _ ⟨_, δ, F1, G1, k1.trans kk, rel_new R1 hd, .inl ⟨C, i, z, d, rfl, rfl, T.ec, rfl, upd_same, oz⟩, (S.mono R k1).mono R1 kk, q1⟩
/-! ### for, with turns that may raise -/
def dLoopX (S : Gp → Prop) (g : DTG) (tb : DXS) (E : XEnds) : List D → DS → Gp → Prop
  | [], δ, G => S G ∧ E.nx δ G
  | d :: r, δ, G => S G ∧ g d δ G fun δ1 G1 => tb { nx := dLoopX S g tb E r, rt := E.rt, bk := E.nx, ct := dLoopX S g tb E r, ex := E.ex } δ1 G1
theorem turnsX {J : It} {ds : List D} {Sb : Gp → Prop} {F1 : Fr} {H1 : Hp} {G1 : Gp} {g : DTG} {tb : DXS} {δ : DS} {σ : L2.St} {D' : XEnds} {D : Ends} (R1 : Rel (kw X) F1 H1 G1) (wk : Walked (kw X) J F1 H1 G1 ds Sb) (S1 : RepS (kw X) F1 H1 δ σ) (q1 : dLoopX Sb g tb D' ds δ G1) (E : EndsUpX (kw X) F1 H1 G1 D' D W) :
    ∃ Wl : Nat → Nat → L2.St → Hp → Prop, (∃ m, Wl 0 m σ H1) ∧ ∀ i m σ H, Wl i m σ H → (J.stop i H ∧ D.nx σ H) ∨ (J.go i H ∧ ∃ N : L2.St → Hp → Prop, (∀ σ' H', N σ' H' → ∃ m', m' < m ∧ Wl (i + 1) m' σ' H') ∧ ∀ x H', J.yld i H x H' → upG (kw X) Pany g x σ H' fun σ2 H2 => upXS (kw X) W tb { D with nx := N, ct := N, bk := D.nx } σ2 H2) := by
  refine ⟨fun i m σ2 H2 => m = ds.length - i ∧ i ≤ ds.length ∧ ∃ F2 δ2 G2, Keep F1 H1 G1 F2 H2 G2 ∧ Rel (kw X) F2 H2 G2 ∧ RepS (kw X) F2 H2 δ2 σ2 ∧ dLoopX Sb g tb D' (ds.drop i) δ2 G2,
    ⟨ds.length, by rw [Nat.sub_zero], Nat.zero_le _, F1, δ, G1, .refl, R1, S1, q1⟩, ?_⟩
  rintro i m σ2 H2 ⟨rfl, hi, F2, δ2, G2, k2, R2, S2, q2⟩
  by_cases hlt : i < ds.length
  · have ed : ds.drop i = ds[i] :: ds.drop (i + 1) := List.drop_eq_getElem_cons hlt
    rw [ed] at q2
    obtain ⟨s2, q2⟩ := q2
    obtain ⟨_, go⟩ := wk F2 H2 G2 k2 R2 s2
    obtain ⟨go, yl⟩ := go i ds[i] (List.getElem?_eq_getElem hlt)
    refine .inr ⟨go, fun σ' H' => ∃ F3 δ3 G3, Keep F1 H1 G1 F3 H' G3 ∧ Rel (kw X) F3 H' G3 ∧ RepS (kw X) F3 H' δ3 σ' ∧ dLoopX Sb g tb D' (ds.drop (i + 1)) δ3 G3, fun σ' H' h => ⟨ds.length - (i + 1), by omega, rfl, hlt, h⟩, fun x H' y => ?_⟩
    obtain ⟨F3, k3, R3, r3⟩ := yl x H' y
    refine ⟨F3, ds[i], δ2, G2, _, R3, r3, S2.mono R2 k3, q2, fun σ4 H4 _ ⟨δ4, F4, G4, k4, R4, S4, q4⟩ => ?_⟩
    have kk := (k2.trans k3).trans k4
    refine ⟨F4, δ4, G4, _, R4, S4, q4, ?_⟩
    have back : ∀ σ' H', postS F4 (kw X) H4 G4 (dLoopX Sb g tb D' (ds.drop (i + 1))) σ' H' → ∃ F3 δ3 G3, Keep F1 H1 G1 F3 H' G3 ∧ Rel (kw X) F3 H' G3 ∧ RepS (kw X) F3 H' δ3 σ' ∧ dLoopX Sb g tb D' (ds.drop (i + 1)) δ3 G3 := fun σ' H' ⟨δ5, F5, G5, k5, R5, S5, q5⟩ => ⟨F5, δ5, G5, kk.trans k5, R5, S5, q5⟩
    have E4 := E.step kk
    exact ⟨back, E4.rt, E4.nx, back, E4.ex⟩
  · have e : i = ds.length := by omega
    subst e
    rw [List.drop_length] at q2
    obtain ⟨s2, q2⟩ := q2
    obtain ⟨stop, _⟩ := wk F2 H2 G2 k2 R2 s2
    exact .inl ⟨stop _ (Nat.le_refl _), (E.step k2).nx _ _ ⟨δ2, F2, G2, .refl, R2, S2, q2⟩⟩
def xFor (t : DTI) (g : DTG) (tb : DXS) : DXS := fun E δ G => t δ G fun ds S G1 => dLoopX S g tb E ds δ G1
theorem xs_for {iter : Expr} {body : List Stmt} {wi : DTI} {tb : DXS} (hp : PassesOwn (model X.prog X.w) X.A X.env X.xe) (hc : X.calm = true) (hi : QI X tg iter wi) (hg : QG X Pany tg g) (hb : XSs X W body tb)
    (hs : ∀ x, foldedSetIterable iter X.env x = pure x := by intro _; rfl) : XS X W (.For tg iter body [] pos) (xFor wi g tb) := PSmono (ps_for hp hc hi hg hb hs) fun D σ H ⟨F, δ, G, D', R, S, q, E⟩ => by
  refine ⟨F, δ, G, _, R, S, q, fun ds Sb J F1 H1 G1 k1 R1 wk q1 => ?_⟩
  exact turnsX R1 wk (S.mono R k1) q1 (E.step k1)
/-! ### a def that may raise -/
def exOf (E : D → Gp → Prop) : D → DS → Gp → Prop := fun x _ G' => ∃ G0, (∀ a m, G0 a = some m → G' a = some m) ∧ E x G0
def spOfX (m n : Nat) (t : DXS) : DSp := fun ds G Q E => ds.length = m ∧ t { nx := fun _ G' => rtOf Q .non G', rt := rtOf Q, ex := exOf E } (ds.map some ++ List.replicate n none) G
theorem start_rep {ds : List D} {vs : List V} {N : List Str} {m n : Nat} (r : RepL K F H ds vs) (q1 : ds.length = m) (hn : N.length = m + n) : RepS K F H (ds.map some ++ List.replicate n none) (L2.start N vs) := by
  have hl := r.len
  refine ⟨?_, fun i d e => ?_⟩
  · unfold L2.start
    rw [List.length_append, List.length_append, List.length_map, List.length_map, List.length_replicate, List.length_replicate, hl]
    omega
  · have key : ∀ (ds : List D) (n i : Nat) (d : D), getS (ds.map some ++ List.replicate n none) i = some d → ds[i]? = some d := by
      intro ds
      induction ds with
      | nil =>
        intro n
        induction n with
        | zero => intro i d e; cases e
        | succ n ih =>
          intro i d e
          cases i with
          | zero => cases e
          | succ i => have := ih i d e; simp at this
      | cons x ds ih =>
        intro n i d e
        cases i with
        | zero => cases e; rfl
        | succ i => simpa using ih n i d e
    obtain ⟨v, e1, e2⟩ := r.get (key _ _ _ _ e)
    refine ⟨v, ?_, e2⟩
    unfold L2.start
    rw [List.getElem?_append_left (by rw [List.length_map]; exact (List.getElem?_eq_some_iff.mp e1).1), List.getElem?_map, e1]
    rfl
end
theorem fn_okX {P : Program} {w : World} {K : PySem.W.Frag} {mg : Str → Option Value} {base : Heap} {x qual : Str} {st : Stmt} {f : Addr} {fd : FuncData} {N ps : List Str} {k m n : Nat} {t : DXS} (Fn : Fun K x qual st f fd) (Sc : FnScope N ps (defScope st)) (hm : ps.length = m) (hn : N.length = m + n)
    (hb : ∀ (cdv : Value) (A : Around) (outer : List Env) (s : Shared) (H : Hp) (E : XK), Room k (A.deeper (envOfC qual (defScope st) s.heap.objs.size f cdv)) → XSs (cxOf (L2.CX P w) P w K mg base N qual (defScope st) f cdv A outer s H E) (fun cls d _ H => E cls d H) (defBody st) t) :
    FnOk P w K mg base (L2.CX P w) (k + 1) f fd ps (upSpX ⟨K, P, w⟩ (spOfX m n t)) := by
  refine Fn.okX Sc (fun vs H Q E h => ?_) (fun cdv A outer s H vs Q E hr h => ?_)
  · obtain ⟨F, ds, G, Q', E', R, r, ⟨q, _⟩, _⟩ := h
    rw [r.len, q, hm]
  · obtain ⟨F, ds, G, Q', E', R, r, ⟨q1, q⟩, k1, k2⟩ := h
    refine ⟨_, hb cdv A outer s H E hr, F, _, G, _, R, start_rep r q1 hn, q, ⟨fun σ' H' ⟨δ', F1, G1, kk, R1, S1, d0, G0, dr, q1⟩ => k1 _ _ (dr.post kk R1 rfl q1), fun v H' ⟨d, F1, G1, kk, R1, p1, d0, G0, dr, q1⟩ => k1 _ _ (dr.post kk R1 p1 q1),
      fun σ' H' ⟨_, _, _, _, _, _, q⟩ => q.elim, fun σ' H' ⟨_, _, _, _, _, _, q⟩ => q.elim, fun cls d σ' H' ⟨x, δ', F1, G1, kk, R1, rx, S1, G0, sub, q1⟩ => ?_⟩⟩
    obtain ⟨_, F2, G2, k3, R3, _, e3⟩ := (Drop.sub (d := .non) sub).post (Q := fun _ g => E' x g) (v := .non) kk R1 rfl q1
    exact k2 cls d H' ⟨x, F2, G2, k3, R3, rx, e3⟩
section
variable {X : Cx} {K : KW} {F F' : Fr} {H H' : Hp} {G G' : Gp} {pos : Pos}
/-- try: .. except BadOctets as e: return (text, e.at, e.reason) -/
def dTryBad (n : Nat) (lit : Str) (t : DXS) : DTS := fun E δ G => t { nx := E.nx, rt := E.rt, bk := E.bk, ct := E.ct, ex := fun x δ1 G1 => n < δ1.length ∧ ∃ i z, x = badD i z ∧ E.rt (.tup [.str lit, .int i, .str z]) G1 } δ G
theorem qs_tryBad {C fI cc cda : Addr} {n : Str} {i : Nat} {body : List Stmt} {np p1 p2 p3 p4 p5 p6 p7 p8 : Pos} {j1 j2 : Nat} {lit : String} {t : DXS} (T : BadAt X.prog (kw X) C fI cc cda) (gC : X.mg "BadOctets" = some (.ref C)) (hs : X.stack = X.env :: X.outer) (hf : X.env.frame = some X.env.locals) (hN : X.N.Nodup) (hi : X.N[i]? = some n) (hln : X.env.kindOf n = some .local) (hg : Gl X "BadOctets")
    (hd : (n == ("__debug__" : Str)) = false) (hcd : (n == ("__classdict__" : Str)) = false)
    (hb : ∀ (W : WX) (pn : List (Addr × Obj)) (xe : Value → Shared → Prop), Takes (X.tr pn xe) W → PassesOwn (model X.prog X.w) X.A X.env xe → XSs (X.tr pn xe) W body t) :
    QS X (.Try body [.ExceptHandler (some (.Name "BadOctets" np)) (some n) [.Return (some (.Tuple [.Constant (.str (Str.ofString lit)) j1 p1, .Attribute (.Name n p2) "at" p3, .Attribute (.Name n p4) "reason" p5] j2 p6)) p7] p8] [] [] pos) (dTryBad i (Str.ofString lit) t) := by
  refine PSmono (ps_try_as (Wout := fun _ _ _ _ => False) (tb := fun W => upXS (kw X) W t) (ts := fun a cls d => tRet (tTupB (tCons (tC (.str (Str.ofString lit))) (tCons (tFldX C a cls d "at" (tVar i)) (tCons (tFldX C a cls d "reason" (tVar i)) tNil))))) hs hf hN hi hln ⟨hg, by decide, .inl gC⟩ takes0 hb ?_) ?_
  · intro a oe cls d pn hz hfd
    exact pss_one (ps_ret (pe_tupB (pa_cons pe_str (pa_cons (pe_fldX T.ga T.gg T.exC T.hd T.txt.n1 hz hfd (pe_var hi (Or.inl hln) hd hcd)) (pa_cons (pe_fldX T.ga T.gg T.exC T.hd T.txt.n2 hz hfd (pe_var hi (Or.inl hln) hd hcd)) pa_nil)))))
  · intro Dn σ H ⟨F, δ, G, D', R, S, q, E⟩
    refine ⟨F, δ, G, _, R, S, q, ⟨E.nx, E.rt, E.bk, E.ct, fun cls d σ' H' ⟨x, δ', F1, G1, k1, R1, rx, S1, iv⟩ => ?_⟩⟩
    obtain ⟨hln1, iv, z, ex, q1⟩ := iv
    rcases rx with ⟨C', i', z', dd, e1, e2, e3, e4, e5, e6⟩ | ⟨C', nm, e1, _⟩ | ⟨C', ns', z', dd', th', e1, _⟩
    · rw [ex] at e1
      have e7 : i' = iv ∧ z' = z := by
        unfold badD at e1
        simp only [D.tup.injEq, List.cons.injEq, D.int.injEq, D.str.injEq, and_true, true_and] at e1
        exact ⟨e1.1.symm, e1.2.symm⟩
      obtain ⟨rfl, rfl⟩ := e7
      have eC : C' = C := by
        have := e3.symm.trans T.ec
        simpa using this
      subst eC e2 e4
      have hil : i < σ'.length := by
        have h2 := S1.len
        omega
      refine ⟨true, T.te, fun _ a ha => ?_, fun h => by cases h⟩
      have sl : (σ'.set i (some (V.ref a)))[i]? = some (some (.ref a)) := List.getElem?_set_self hil
      refine ⟨.ref a, sl, rfl, rfl, dd, _, .int i', rfl, e5, ?_, ?_⟩
      · unfold badF
        rw [lookup_put, if_neg (by decide), lookup_put, if_pos rfl]
      refine ⟨.ref a, sl, rfl, rfl, dd, _, .str z', rfl, e5, ?_, ?_⟩
      · unfold badF
        rw [lookup_put, if_pos rfl]
      refine ⟨by show 3 ≤ sizeLine; decide, fun p ob hod hp => ?_⟩
      have kk := keep_new (o := .frz ob (.tup [.str (Str.ofString lit), .int i', .str z'])) R1 hp
      exact E.rt _ _ ⟨.tup [.str (Str.ofString lit), .int i', .str z'], F1, G1, k1.trans kk, rel_new R1 hp, ⟨p, _, rfl, .inl ⟨ob, upd_same, hod⟩, ⟨_, _, rfl, ⟨rfl, sOk_of lit⟩, _, _, rfl, rfl, _, _, rfl, ⟨rfl, e6⟩, rfl⟩⟩, q1⟩
    · rw [ex] at e1
      cases e1
    · rw [ex] at e1
      cases e1
end
section
variable {t : DTS} {ts us : DXS} {c : DTT} {te : DTE} {xe : DXE} {tr : DTA} {sp : DSp} {E : XEnds} {E2 : DEnds} {δ : DS} {G : Gp} {g : DTG} {wi : DTI} {Q : D → Gp → Prop} {X2 : D → Gp → Prop}
theorem xLift_e : xLift t E δ G = t ⟨E.nx, E.rt, E.bk, E.ct⟩ δ G := (rfl)
theorem xSeq_e : xSeq ts us E δ G = ts { E with nx := us E } δ G := (rfl)
theorem xIf_e : xIf c ts us E δ G = c δ G fun b G1 => dCond b (ts E δ G1) (us E δ G1) := (rfl)
theorem xOf_e : xOf te δ G Q X2 = te δ G Q := (rfl)
theorem xCall_e : xCall sp tr δ G Q X2 = tr δ G fun ds G1 => sp ds G1 Q X2 := (rfl)
theorem xAsg_e : xAsg xe g E δ G = xe δ G (fun x G1 => g x δ G1 E.nx) (fun x G1 => E.ex x δ G1) := (rfl)
theorem xRet_e : xRet xe E δ G = xe δ G E.rt (fun x G1 => E.ex x δ G1) := (rfl)
theorem xDrop_e : xDrop xe E δ G = xe δ G (fun _ G1 => E.nx δ G1) (fun x G1 => E.ex x δ G1) := (rfl)
theorem xBad_e : xBad tr E δ G = tr δ G fun ds G1 => ∃ i z, ds = [.int i, .str z] ∧ i.natAbs.log2 < 1000 ∧ z.length ≤ 1000 ∧ E.ex (badD i z) δ G1 := (rfl)
theorem xFor_e : xFor wi g ts E δ G = wi δ G fun ds S G1 => dLoopX S g ts E ds δ G1 := (rfl)
theorem dTryBad_e {n : Nat} {lit : Str} : dTryBad n lit ts E2 δ G = ts { nx := E2.nx, rt := E2.rt, bk := E2.bk, ct := E2.ct, ex := fun x δ1 G1 => n < δ1.length ∧ ∃ i z, x = badD i z ∧ E2.rt (.tup [.str lit, .int i, .str z]) G1 } δ G := (rfl)
theorem spOfX_e {m n : Nat} {ds : List D} : spOfX m n ts ds G Q X2 = (ds.length = m ∧ ts { nx := fun _ G' => rtOf Q .non G', rt := rtOf Q, ex := exOf X2 } (ds.map some ++ List.replicate n none) G) := (rfl)
end
theorem ex_same {E : D → Gp → Prop} {x : D} {δ : DS} {G : Gp} (q : E x G) : exOf E x δ G := ⟨G, fun _ _ h => h, q⟩
theorem loopX_rng {S : Gp → Prop} {g : DTG} {tb : DXS} {E : XEnds} (n : Nat) (lo : Int) (W : Nat → DS → Gp → Prop)
    (hs : ∀ j δ G (K : DS → Gp → Prop), j < n → W j δ G → (∀ δ G, W (j + 1) δ G → K δ G) → S G ∧ g (.int (lo + (j : Nat))) δ G fun δ1 G1 => tb { nx := K, ct := K, bk := E.nx, rt := E.rt, ex := E.ex } δ1 G1)
    (he : ∀ δ G, W n δ G → S G ∧ E.nx δ G) (δ : DS) (G : Gp) (h0 : W 0 δ G) : dLoopX S g tb E (rangeD lo n) δ G := by
  have key : ∀ (m j : Nat) (δ : DS) (G : Gp), j + m = n → W j δ G → dLoopX S g tb E (rangeD (lo + (j : Nat)) m) δ G := by
    intro m
    induction m with
    | zero =>
      intro j δ G e w
      have e : j = n := e
      subst e
      exact he _ _ w
    | succ m ih =>
      intro j δ G e w
      rw [rangeD_s]
      refine hs j δ G _ (by omega) w fun δ2 G2 w2 => ?_
      have := ih (j + 1) δ2 G2 (by omega) w2
      rwa [show lo + ((j + 1 : Nat) : Int) = lo + (j : Int) + 1 by omega] at this
  have := key n 0 δ G (by omega) h0
  rwa [Int.natCast_zero, Int.add_zero] at this
/-- a class of one's own is what its own clause names -/
theorem exm_own {K : PySem.W.Frag} {S : Addr} (h1 : PySem.W.subIn K (.ref S) (.type "BaseException") = some true) (h2 : PySem.W.isClsIn K S = true) (h3 : PySem.W.typeIn K (.ref S) = some (.type "type")) (h4 : PySem.W.subIn K (.ref S) (.ref S) = some true) :
    PySem.W.exmOne K (.ref S) (.ref S) = some true := by
  have e1 : (PySem.W.subIn K (.ref S) (.type "BaseException") == some true) = true := by rw [h1] <;> rfl
  have e2 : ((PySem.W.clsIn K S).isSome && PySem.W.typeIn K (.ref S) == some (.type "type")) = true := by
    have e3 : (PySem.W.clsIn K S).isSome = true := h2
    rw [e3, h3] <;> rfl
  have go : PySem.W.exmOne K (.ref S) (.ref S) = (if (PySem.W.subIn K (.ref S) (.type "BaseException") == some true) = true then
      (if ((PySem.W.clsIn K S).isSome && PySem.W.typeIn K (.ref S) == some (.type "type")) = true then PySem.W.subIn K (.ref S) (.ref S) else none) else none) := rfl
  rw [go, if_pos e1, if_pos e2]
  exact h4
end DL
set_option Elab.async false
set_option linter.all false
set_option maxRecDepth 100000
set_option maxHeartbeats 4000000
namespace DL
open PySem PySem.Spec PyProof.Rows L2
section
variable {X : Cx} {W : WX} {pos : Pos}
/-! ### while, with turns that may raise -/
def xWhile (c : DTT) (tb : DXS) : DXS := fun E δ G => ∃ W : Nat → DS → Gp → Prop, (∃ m, W m δ G) ∧ ∀ m δ G, W m δ G →
  c δ G fun b G1 => dCond b (tb { nx := fun δ' G' => ∃ m', m' < m ∧ W m' δ' G', ct := fun δ' G' => ∃ m', m' < m ∧ W m' δ' G', bk := E.nx, rt := E.rt, ex := E.ex } δ G1) (E.nx δ G1)
theorem xs_while {c : Expr} {body : List Stmt} {tc : DTT} {tb : DXS} (hp : PassesOwn (model X.prog X.w) X.A X.env X.xe) (hc : QT X c tc) (hb : XSs X W body tb) : XS X W (.While c body [] pos) (xWhile tc tb) := PSmono (ps_while hp hc hb) fun D σ H ⟨F, δ, G, D', R, S, ⟨Wm, ⟨m0, w0⟩, turn⟩, E⟩ => by
  refine ⟨fun m σ' H' => ∃ F1 δ1 G1, Keep F H G F1 H' G1 ∧ Rel (kw X) F1 H' G1 ∧ RepS (kw X) F1 H' δ1 σ' ∧ Wm m δ1 G1, ⟨m0, F, δ, G, .refl, R, S, w0⟩, ?_⟩
  rintro m σ1 H1 ⟨F1, δ1, G1, k1, R1, S1, w1⟩
  refine ⟨F1, δ1, G1, _, R1, S1, turn m δ1 G1 w1, fun b H2 ⟨F2, G2, k2, R2, q2⟩ => ?_⟩
  have S2 := S1.mono R1 k2
  have kk := k1.trans k2
  have E2 := E.step kk
  cases b with
  | true =>
    refine iteT ?_
    refine ⟨fun σ' H' => ∃ m', m' < m ∧ ∃ F3 δ3 G3, Keep F H G F3 H' G3 ∧ Rel (kw X) F3 H' G3 ∧ RepS (kw X) F3 H' δ3 σ' ∧ Wm m' δ3 G3, fun σ' H' ⟨m', hm, h⟩ => ⟨m', hm, h⟩, F2, δ1, G2, _, R2, S2, q2, ?_⟩
    have back : ∀ σ' H', postS F2 (kw X) H2 G2 (fun δ' G' => ∃ m', m' < m ∧ Wm m' δ' G') σ' H' → ∃ m', m' < m ∧ ∃ F3 δ3 G3, Keep F H G F3 H' G3 ∧ Rel (kw X) F3 H' G3 ∧ RepS (kw X) F3 H' δ3 σ' ∧ Wm m' δ3 G3 := fun σ' H' ⟨δ5, F5, G5, k5, R5, S5, m', hm, q5⟩ => ⟨m', hm, F5, δ5, G5, kk.trans k5, R5, S5, q5⟩
    exact ⟨back, E2.rt, E2.nx, back, E2.ex⟩
  | false =>
    refine iteF ?_
    exact E2.nx _ _ ⟨δ1, F2, G2, .refl, R2, S2, q2⟩
end
theorem xWhile_e {c : DTT} {tb : DXS} {E : XEnds} {δ : DS} {G : Gp} : xWhile c tb E δ G = ∃ W : Nat → DS → Gp → Prop, (∃ m, W m δ G) ∧ ∀ m δ G, W m δ G →
  c δ G fun b G1 => dCond b (tb { nx := fun δ' G' => ∃ m', m' < m ∧ W m' δ' G', ct := fun δ' G' => ∃ m', m' < m ∧ W m' δ' G', bk := E.nx, rt := E.rt, ex := E.ex } δ G1) (E.nx δ G1) := (rfl)
/-! ### raise of an own error that is plain: InvalidValue(text) and its like -/
def xPlain (nm : Str) (tr : DTA) : DXS := fun E δ G => tr δ G fun ds G1 => ds.length ≤ sizeLine ∧ E.ex (plainD nm) δ G1
section
variable {X : Cx} {W : WX} {pos pos2 p : Pos} {a : Expr} {tr : DTA}
theorem xs_plain {nm : Str} {C : Addr} {B newId initId : String} {bmB : List Value} (Fx : ExcBaseFacts B newId initId bmB) (q : PySem.W.excIn (kw X) C bmB newId = true) (gC : X.mg nm = some (.ref C)) (ec : EC (kw X) nm C) (kC : PySem.W.keepIn (kw X) (.ref C) = true) (r : Raises X (.ref C))
    (hc : X.calm = true) (tk : Takes X W) (ha : QA X [a] tr) (hg : Gl X nm := by rfl) (hd : (nm == ("__debug__" : Str)) = false := by decide)
    (he : starEach (a :: []) X.env = (false, eval a X.env) :: starEach [] X.env := by rfl) (hpl : (backTo pos (starEach [] X.env)).any (·.1) = false := by rfl) :
    XS X W (.Raise (some (.Call (.Name nm p) [a] [] pos)) none pos2) (xPlain nm tr) := PSmono (ps_raise hc tk (pmk_ownA Fx q gC kC r hg ha hd he hpl)) fun D σ H ⟨F, δ, G, D', R, S, q, E⟩ => by
  refine ⟨F, δ, G, _, R, S, q, fun vs H1 ⟨ds, F1, G1, k1, R1, p1, hl, q1⟩ => ⟨by rw [p1.len]; exact hl, ?_⟩⟩
  exact E.ex _ _ σ _ ⟨_, δ, F1, G1, k1, R1, .inr (.inl ⟨C, nm, rfl, rfl, ec, rfl⟩), S.mono R k1, q1⟩
end
theorem xPlain_e {nm : Str} {tr : DTA} {E : XEnds} {δ : DS} {G : Gp} : xPlain nm tr E δ G = tr δ G fun ds G1 => ds.length ≤ sizeLine ∧ E.ex (plainD nm) δ G1 := (rfl)
end DL
set_option Elab.async false
set_option linter.all false
set_option maxRecDepth 100000
set_option maxHeartbeats 4000000
namespace DL
open PySem PySem.Spec PyProof.Rows L2
/-! ### list comprehensions with two for: the list is a thing of G while it grows -/
def dC2in (p : Addr) (S1 : Gp → Prop) (g1 : DTG) (tt1 : DTT) (te : DTE) (δ1 : DS) (K : Gp → Prop) : List D → Gp → Prop
  | [], G => S1 G ∧ K G
  | d :: r, G => S1 G ∧ g1 d δ1 G fun δ2 G1 => tt1 δ2 G1 fun b G2 => dCond b (te δ2 G2 fun y G3 => optQ (lstOf (G3 p)) fun acc => acc.length < sizeLine ∧ dC2in p S1 g1 tt1 te δ1 K r (updG G3 p (.lst (acc ++ [y])))) (dC2in p S1 g1 tt1 te δ1 K r G2)
def dC2 (p : Addr) (S : Gp → Prop) (g : DTG) (tt : DTT) (wi1 : DTI) (g1 : DTG) (tt1 : DTT) (te : DTE) (δ : DS) (vs1 : List Nat) (K : Gp → Prop) : List D → Gp → Prop
  | [], G => S G ∧ K G
  | d :: r, G => S G ∧ g d δ G fun δ1 G1 => tt δ1 G1 fun b G2 => dCond b (wi1 δ1 G2 fun ds1 S1 G3 => dC2in p S1 g1 tt1 te (wipeS δ1 vs1) (dC2 p S g tt wi1 g1 tt1 te δ vs1 K r) ds1 G3) (dC2 p S g tt wi1 g1 tt1 te δ vs1 K r G2)
def dLc2 (wi : DTI) (g : DTG) (tt : DTT) (wi1 : DTI) (g1 : DTG) (tt1 : DTT) (te : DTE) (vs vs1 : List Nat) : DTE := fun δ G Q => wi δ G fun ds S G1 => ∀ p, G1 p = none →
  dC2 p S g tt wi1 g1 tt1 te (wipeS δ vs) vs1 (fun G2 => ∃ G3 acc, G2 = updG G3 p (.lst acc) ∧ G3 p = none ∧ Q (.lv acc) G3) ds (updG G1 p (.lst []))
theorem dLc2_e {wi : DTI} {g : DTG} {tt : DTT} {wi1 : DTI} {g1 : DTG} {tt1 : DTT} {te : DTE} {vs vs1 : List Nat} {δ : DS} {G : Gp} {Q : D → Gp → Prop} : dLc2 wi g tt wi1 g1 tt1 te vs vs1 δ G Q = wi δ G fun ds S G1 => ∀ p, G1 p = none →
  dC2 p S g tt wi1 g1 tt1 te (wipeS δ vs) vs1 (fun G2 => ∃ G3 acc, G2 = updG G3 p (.lst acc) ∧ G3 p = none ∧ Q (.lv acc) G3) ds (updG G1 p (.lst [])) := (rfl)
section
variable {X : Cx} {K : KW} {F F' : Fr} {H H' : Hp} {G G' : Gp} {a b c e tg : Expr} {es rest : List Expr} {ta tb tc te : DTE} {t u : DTT} {tr : DTA} {pos : Pos}
theorem wipe_wipe (σ : L2.St) (vs : List Nat) : wipe (wipe σ vs) vs = wipe σ vs := by
  have : ∀ (us : List Nat) (τ : L2.St), (∀ j ∈ us, τ[j]? = some none ∨ τ.length ≤ j) → wipe τ us = τ := by
    intro us
    induction us with
    | nil => intro τ _; rfl
    | cons j us ih =>
      intro τ h
      unfold wipe
      rw [ih τ fun j' h' => h j' (List.mem_cons_of_mem _ h')]
      rcases h j List.mem_cons_self with e | e
      · apply List.ext_getElem?
        intro n
        by_cases z : j = n
        · subst z
          have hl : j < τ.length := (List.getElem?_eq_some_iff.mp e).1
          rw [List.getElem?_set_self hl, e]
        · rw [List.getElem?_set_ne z]
      · exact List.set_eq_of_length_le e
  refine this vs _ fun j hj => ?_
  by_cases hl : j < (wipe σ vs).length
  · cases e : (wipe σ vs)[j]? with
    | none => rw [List.getElem?_eq_none_iff] at e; exact .inr e
    | some o =>
      cases o with
      | none => exact .inl rfl
      | some v => exact absurd hj (wipe_some e).2
  · exact .inr (by omega)
/-- a thing of G goes, its list stays as it is -/
theorem rel_drop {D : Addr} {acc : List _root_.DL.D} (nG : G D = none) (R : Rel K F H (updG G D (.lst acc))) : ∃ xs, H D = some (.lst xs) ∧ Rel K (frzF F D) H G ∧ RepL K (frzF F D) H acc xs := by
  obtain ⟨xs, h1, h2⟩ := R.obj D _ updG_same
  have st : Stay F H (frzF F D) H := ⟨fun _ _ _ h => h, fun _ _ f h => ⟨.inl f, h⟩, fun _ _ _ h => h, fun _ _ f h => ⟨.inl f, h⟩, fun _ _ _ h => h, fun _ _ f h => ⟨.inl f, h⟩⟩
  refine ⟨xs, h1, ⟨fun a m e => ?_, fun a f => ?_, fun a f => ?_⟩, RepL.stay st _ _ h2⟩
  · have n : a ≠ D := fun z => by rw [z, nG] at e; cases e
    exact RepO.stay st (fun _ _ h => h) rfl (R.obj a m (by rw [updG_ne n]; exact e))
  · rcases f with f | f
    · have := R.fr a f
      have n : a ≠ D := fun z => by rw [z, updG_same] at this; cases this
      rwa [updG_ne n] at this
    · rw [f]; exact nG
  · rcases f with f | f
    · exact R.al a f
    · rw [f, h1]; intro z; cases z
theorem upLc2 {wi wi1 : DTI} {g g1 : DTG} {tt1 : DTT} {vs vs1 : List Nat} {σ : L2.St} {Q : VK} (h : up K (dLc2 wi g t wi1 g1 tt1 te vs vs1) σ H Q) : tLc2 (upI K wi) (upG K (Pw vs) g) (upT K t) (upI K wi1) (upG K (Pw vs1) g1) (upT K tt1) (up K te) vs vs1 σ H Q := by
  obtain ⟨F, δ, G, Q', R, S, q, k⟩ := h
  refine ⟨F, δ, G, _, R, S, q, fun ds Sb J F1 H1 G1 k1 R1 wk q1 => ?_⟩
  intro D hD
  have S1 := (S.mono R k1).wipe vs
  have gD : G1 D = none := R1.off0 hD
  replace q1 := q1 D gD
  have K0 : Keep F1 H1 G1 F1 (upd H1 D (.lst [])) (updG G1 D (.lst [])) := keep_obj R1 hD
  refine ⟨fun i m H2 => m = ds.length - i ∧ i ≤ ds.length ∧ ∃ F2 G2, Keep F1 H1 G1 F2 H2 G2 ∧ Rel K F2 H2 G2 ∧ RepS K F2 H2 (wipeS δ vs) (wipe σ vs) ∧
      dC2 D Sb g t wi1 g1 tt1 te (wipeS δ vs) vs1 (fun G2 => ∃ G3 acc, G2 = updG G3 D (.lst acc) ∧ G3 D = none ∧ Q' (.lv acc) G3) (ds.drop i) G2,
    ⟨ds.length, by rw [Nat.sub_zero], Nat.zero_le _, F1, _, K0, rel_obj R1 hD ⟨[], upd_same, rfl⟩, S1.mono R1 K0, q1⟩, ?_⟩
  rintro i m H2 ⟨rfl, hi, F2, G2, k2, R2, S2, q2⟩
  by_cases hlt : i < ds.length
  · have ed : ds.drop i = ds[i] :: ds.drop (i + 1) := List.drop_eq_getElem_cons hlt
    rw [ed] at q2
    obtain ⟨s2, q2⟩ := q2
    obtain ⟨_, go⟩ := wk F2 H2 G2 k2 R2 s2
    obtain ⟨go, yl⟩ := go i ds[i] (List.getElem?_eq_getElem hlt)
    refine .inr ⟨go, fun H' => ∃ F3 G3, Keep F1 H1 G1 F3 H' G3 ∧ Rel K F3 H' G3 ∧ RepS K F3 H' (wipeS δ vs) (wipe σ vs) ∧
      dC2 D Sb g t wi1 g1 tt1 te (wipeS δ vs) vs1 (fun G2 => ∃ G3 acc, G2 = updG G3 D (.lst acc) ∧ G3 D = none ∧ Q' (.lv acc) G3) (ds.drop (i + 1)) G3, fun H' h => ⟨ds.length - (i + 1), by omega, rfl, hlt, h⟩, fun x H' y => ?_⟩
    obtain ⟨F3, k3, R3, r3⟩ := yl x H' y
    refine ⟨F3, ds[i], wipeS δ vs, G2, _, R3, r3, S2.mono R2 k3, q2, fun σ4 H4 p4 ⟨δ4, F4, G4, k4, R4, S4, q4⟩ => ?_⟩
    refine ⟨?_, F4, δ4, G4, _, R4, S4, q4, fun b H5 ⟨F5, G5, k5, R5, q5⟩ => ?_⟩
    · rw [p4, wipe_wipe]
    · have k25 := (k3.trans k4).trans k5
      have S5 := S4.mono R4 k5
      have So := S2.mono R2 k25
      cases b with
      | false =>
        refine iteF ?_
        exact ⟨F5, G5, k2.trans k25, R5, So, q5⟩
      | true =>
        refine iteT ?_
        refine ⟨F5, δ4, G5, _, R5, S5, q5, fun ds1 Sb1 J1 F6 H6 G6 k6 R6 wk6 q6 => ?_⟩
        have S6 := (S5.mono R5 k6).wipe vs1
        have So6 := So.mono R5 k6
        refine ⟨fun j m H7 => m = ds1.length - j ∧ j ≤ ds1.length ∧ ∃ F7 G7, Keep F6 H6 G6 F7 H7 G7 ∧ Rel K F7 H7 G7 ∧ RepS K F7 H7 (wipeS δ4 vs1) (wipe σ4 vs1) ∧
            dC2in D Sb1 g1 tt1 te (wipeS δ4 vs1) (dC2 D Sb g t wi1 g1 tt1 te (wipeS δ vs) vs1 (fun G2 => ∃ G3 acc, G2 = updG G3 D (.lst acc) ∧ G3 D = none ∧ Q' (.lv acc) G3) (ds.drop (i + 1))) (ds1.drop j) G7,
          ⟨ds1.length, by rw [Nat.sub_zero], Nat.zero_le _, F6, G6, .refl, R6, S6, q6⟩, ?_⟩
        rintro j m H7 ⟨rfl, hj, F7, G7, k7, R7, S7, q7⟩
        by_cases hlt1 : j < ds1.length
        · have ed1 : ds1.drop j = ds1[j] :: ds1.drop (j + 1) := List.drop_eq_getElem_cons hlt1
          rw [ed1] at q7
          obtain ⟨s7, q7⟩ := q7
          obtain ⟨_, go1⟩ := wk6 F7 H7 G7 k7 R7 s7
          obtain ⟨go1, yl1⟩ := go1 j ds1[j] (List.getElem?_eq_getElem hlt1)
          refine .inr ⟨go1, fun H' => ∃ F8 G8, Keep F6 H6 G6 F8 H' G8 ∧ Rel K F8 H' G8 ∧ RepS K F8 H' (wipeS δ4 vs1) (wipe σ4 vs1) ∧
            dC2in D Sb1 g1 tt1 te (wipeS δ4 vs1) (dC2 D Sb g t wi1 g1 tt1 te (wipeS δ vs) vs1 (fun G2 => ∃ G3 acc, G2 = updG G3 D (.lst acc) ∧ G3 D = none ∧ Q' (.lv acc) G3) (ds.drop (i + 1))) (ds1.drop (j + 1)) G8, fun H' h => ⟨ds1.length - (j + 1), by omega, rfl, hlt1, h⟩, fun x1 H8 y1 => ?_⟩
          obtain ⟨F8, k8, R8, r8⟩ := yl1 x1 H8 y1
          refine ⟨F8, ds1[j], wipeS δ4 vs1, G7, _, R8, r8, S7.mono R7 k8, q7, fun σ9 H9 p9 ⟨δ9, F9, G9, k9, R9, S9, q9⟩ => ?_⟩
          refine ⟨?_, F9, δ9, G9, _, R9, S9, q9, fun b H10 ⟨F10, G10, k10, R10, q10⟩ => ?_⟩
          · rw [p9, wipe_wipe]
          · have k710 := (k8.trans k9).trans k10
            cases b with
            | false =>
              refine iteF ?_
              exact ⟨F10, G10, k7.trans k710, R10, S7.mono R7 k710, q10⟩
            | true =>
              refine iteT ?_
              refine ⟨F10, δ9, G10, _, R10, S9.mono R9 k10, q10, fun v H11 ⟨d, F11, G11, k11, R11, p11, q11⟩ => ?_⟩
              obtain ⟨acc, ea, hl, q11⟩ := optQ_ex q11
              have eg := lstOf_eq ea
              obtain ⟨xs, hx1, hx2⟩ := R11.obj D _ eg
              have kk := keep_set (F := F11) (H := H11) (o := .lst (xs ++ [v])) (m' := .lst (acc ++ [d])) eg
              have k711 := (k710.trans k11).trans kk
              exact ⟨xs, hx1, by rw [hx2.len]; exact hl, F11, _, k7.trans k711, rel_set R11 eg ⟨_, upd_same, (RepL.mono R11 kk _ _ hx2).app (.one (Rep.mono R11 kk _ _ p11))⟩, S7.mono R7 k711, q11⟩
        · have ej : j = ds1.length := by omega
          subst ej
          rw [List.drop_length] at q7
          obtain ⟨s7, q7⟩ := q7
          obtain ⟨stop1, _⟩ := wk6 F7 H7 G7 k7 R7 s7
          exact .inl ⟨stop1 _ (Nat.le_refl _), F7, G7, ((k2.trans k25).trans k6).trans k7, R7, So6.mono R6 k7, q7⟩
  · have ei : i = ds.length := by omega
    subst ei
    rw [List.drop_length] at q2
    obtain ⟨s2, G3, acc, eg, g3, q2⟩ := q2
    obtain ⟨stop, _⟩ := wk F2 H2 G2 k2 R2 s2
    subst eg
    obtain ⟨xs, hx, R3, r3⟩ := rel_drop g3 R2
    refine .inl ⟨stop _ (Nat.le_refl _), k _ _ ⟨.lv acc, frzF F2 D, G3, ⟨fun a' u ga ha => ?_⟩, R3, ⟨D, xs, rfl, ⟨.inr rfl, hx⟩, r3⟩, q2⟩⟩
    obtain ⟨b1, b2, b3⟩ := k1.k a' u ga ha
    have nD : a' ≠ D := fun z => by rw [z, hD] at b1; cases b1
    obtain ⟨a1, a2, a3⟩ := k2.k a' u b2 b1
    rw [updG_ne nD] at a2
    exact ⟨a1, a2, ⟨fun z => b3.mp (z.elim a3.mp fun w => absurd w nD), fun z => .inl (a3.mpr (b3.mpr z))⟩⟩
theorem q_lc2 {elt iter tg1 iter1 : Expr} {ifs ifs1 : List Expr} {scope : Scope} {own : List (Str × Nat)} {vs1 : List Nat} {wi wi1 : DTI} {g g1 : DTG} {tt1 : DTT} (hc : X.calm = true) (hN : X.N.Nodup) (hi : QI X tg iter wi) (ok : blkC X.N X.env.scope scope own = true) (hv : ∀ i ∈ vs1, i ∈ own.map (·.2))
    (hg : ∀ (s : Shared) (H : Hp) (C : Addr) (cl : List (Str × Addr)) (fp : List Addr), QG (X.blk s H scope (compEnvC scope cl C X.env) fp) (Pw (own.map (·.2))) tg g) (ht : ∀ (s : Shared) (H : Hp) (C : Addr) (cl : List (Str × Addr)) (fp : List Addr), QTs (X.blk s H scope (compEnvC scope cl C X.env) fp) ifs t)
    (hi1 : ∀ (s : Shared) (H : Hp) (C : Addr) (cl : List (Str × Addr)) (fp : List Addr), QI (X.blk s H scope (compEnvC scope cl C X.env) fp) tg1 iter1 wi1)
    (hg1 : ∀ (s : Shared) (H : Hp) (C : Addr) (cl : List (Str × Addr)) (fp : List Addr), QG (X.blk s H scope (compEnvC scope cl C X.env) fp) (Pw vs1) tg1 g1) (ht1 : ∀ (s : Shared) (H : Hp) (C : Addr) (cl : List (Str × Addr)) (fp : List Addr), QTs (X.blk s H scope (compEnvC scope cl C X.env) fp) ifs1 tt1)
    (he : ∀ (s : Shared) (H : Hp) (C : Addr) (cl : List (Str × Addr)) (fp : List Addr), QE (X.blk s H scope (compEnvC scope cl C X.env) fp) elt te) (hs : ∀ x, foldedSetIterable iter X.env x = pure x := by intro _; rfl) (hs1 : ∀ env x, foldedSetIterable iter1 env x = pure x := by intro _ _; rfl) :
    QE X (.ListComp elt [⟨tg, iter, ifs, 0⟩, ⟨tg1, iter1, ifs1, 0⟩] scope pos) (dLc2 wi g t wi1 g1 tt1 te (own.map (·.2)) vs1) :=
  PEmono (pe_lc2 (g := upG (kw X) (Pw (own.map fun (p : Str × Nat) => p.2)) g) (tt := upT (kw X) t) (te := up (kw X) te) (wi1 := upI (kw X) wi1) (g1 := upG (kw X) (Pw vs1) g1) (tt1 := upT (kw X) tt1) hc hN hi (blkOk_by ok) hv hg ht hi1 hg1 ht1 he hs hs1) fun _ _ _ h => upLc2 h
theorem swapLc2 {elt tg1 : Expr} {gs : List Comprehension} {sco : Scope} {p1 py : Pos} {y : Str} {ln : Nat} {ev : Env} (h1 : ev.scope.kind = .function) (h2 : ev.scope.names.lookup y = some .local) (h3 : (py.line == p1.line) = true)
    (h4 : (sco.names.any fun (m, j) => m == y && (j == .local || j == .cell)) = false) : swapsWith (.ListComp elt gs sco p1) (some (.Name y py)) ln ev = pure true := by
  have k1 : ev.kindOf y = some .local := h2
  have k2 : ev.blockKind = .function := by
    unfold Env.blockKind
    rw [h1] <;> rfl
  unfold swapsWith
  simp only [k2, k1, h4, Expr.pos, h3]
  first | rfl | decide
theorem qs_setLc2 {i : Nat} {y : Str} {py : Pos} {elt iter tg1 iter1 : Expr} {ifs ifs1 : List Expr} {scope : Scope} {own : List (Str × Nat)} {vs1 : List Nat} {spos : Pos} {wi wi1 : DTI} {g g1 : DTG} {tt1 : DTT} (hc : X.calm = true) (hN : X.N.Nodup) (hy : X.N[i]? = some y) (hyl : X.env.scope.names.lookup y = some .local)
    (hk : X.env.scope.kind = .function) (hl : (py.line == pos.line) = true) (hn : (scope.names.any fun (n, k) => n == y && (k == .local || k == .cell)) = false) (hi : QI X tg iter wi) (ok : blkC X.N X.env.scope scope own = true) (hv : ∀ i ∈ vs1, i ∈ own.map (·.2))
    (hg : ∀ (s : Shared) (H : Hp) (C : Addr) (cl : List (Str × Addr)) (fp : List Addr), QG (X.blk s H scope (compEnvC scope cl C X.env) fp) (Pw (own.map (·.2))) tg g) (ht : ∀ (s : Shared) (H : Hp) (C : Addr) (cl : List (Str × Addr)) (fp : List Addr), QTs (X.blk s H scope (compEnvC scope cl C X.env) fp) ifs t)
    (hi1 : ∀ (s : Shared) (H : Hp) (C : Addr) (cl : List (Str × Addr)) (fp : List Addr), QI (X.blk s H scope (compEnvC scope cl C X.env) fp) tg1 iter1 wi1)
    (hg1 : ∀ (s : Shared) (H : Hp) (C : Addr) (cl : List (Str × Addr)) (fp : List Addr), QG (X.blk s H scope (compEnvC scope cl C X.env) fp) (Pw vs1) tg1 g1) (ht1 : ∀ (s : Shared) (H : Hp) (C : Addr) (cl : List (Str × Addr)) (fp : List Addr), QTs (X.blk s H scope (compEnvC scope cl C X.env) fp) ifs1 tt1)
    (he : ∀ (s : Shared) (H : Hp) (C : Addr) (cl : List (Str × Addr)) (fp : List Addr), QE (X.blk s H scope (compEnvC scope cl C X.env) fp) elt te) (hs : ∀ x, foldedSetIterable iter X.env x = pure x := by intro _; rfl) (hs1 : ∀ env x, foldedSetIterable iter1 env x = pure x := by intro _ _; rfl) :
    QS X (.Assign [.Name y py] (.ListComp elt [⟨tg, iter, ifs, 0⟩, ⟨tg1, iter1, ifs1, 0⟩] scope pos) spos) (dAsg (dLc2 wi g t wi1 g1 tt1 te (own.map (·.2)) vs1) (dName i)) :=
  PSmono (ps_setLc2 (g := upG (kw X) (Pw (own.map fun (p : Str × Nat) => p.2)) g) (tt := upT (kw X) t) (te := up (kw X) te) (wi1 := upI (kw X) wi1) (g1 := upG (kw X) (Pw vs1) g1) (tt1 := upT (kw X) tt1) hc hN hy hyl (swapLc2 (tg1 := tg1) hk hyl hl hn) hi (blkOk_by ok) hv hg ht hi1 hg1 ht1 he hs hs1) fun D σ H h => upSet (fun _ _ _ h => upLc2 h) h
end
end DL
set_option Elab.async false
set_option linter.all false
set_option maxRecDepth 100000
set_option maxHeartbeats 4000000
/-! ZM: a turn of zip(a, b) for any two iterators that are told what they do. -/
namespace ZM
open PySem PySem.Spec PyProof.Rows L2
/-- B stays true while the objects of fp stay as they are -/
def Holds (fp : List Addr) (B : Heap → Prop) : Prop := ∀ h h', B h → (∀ b ∈ fp, ∀ o, h.get? b = some o → h'.get? b = some o) → B h'
section
variable (P : Program) (w : World)
/-- the iterator at j gives v, from B to C; it has no more to give, from B -/
def Gives (j : Addr) (B C : Heap → Prop) (v : Value) : Prop := ∀ (A : Around) (E : Value → Shared → Prop) (s : Shared) (Q : Value → Shared → Prop), B s.heap →
  (∀ h', C h' → Heap.SameBut j s.heap h' → Q v { s with heap := h' }) → wpAny (model P w) A (Builtin.SmallTypes.nextOf (.ref j)) Q E s
def Over (j : Addr) (B : Heap → Prop) : Prop := ∀ (A : Around) (E : Value → Shared → Prop) (s : Shared) (Q : Value → Shared → Prop), A.handled = none → B s.heap →
  (∀ h' e, Heap.ExtBut j s.heap h' → (∃ o, h'.get? e = some o ∧ o.cls = .type "StopIteration") → E (.ref e) { s with heap := h' }) → wpAny (model P w) A (Builtin.SmallTypes.nextOf (.ref j)) Q E s
end
/-- the objects of one zip stand apart: the zip, its pair of iterators, the pair that it owns, the iterators and what they look at -/
structure Apart (zp ta tb j1 j2 : Addr) (f1 f2 : List Addr) : Prop where
  pa : ta ≠ zp
  pb : tb ≠ zp
  ab : ta ≠ tb
  a1 : ta ≠ j1
  a2 : ta ≠ j2
  b1 : tb ≠ j1
  b2 : tb ≠ j2
  j12 : j1 ≠ j2
  z1 : zp ∉ f1
  z2 : zp ∉ f2
  t1 : tb ∉ f1
  t2 : tb ∉ f2
  o1 : j2 ∉ f1
  o2 : j1 ∉ f2
  m1 : j1 ∈ f1
  m2 : j2 ∈ f2
theorem Apart.j1z {zp ta tb j1 j2 : Addr} {f1 f2 : List Addr} (D : Apart zp ta tb j1 j2 f1 f2) : j1 ≠ zp := fun e => D.z1 (e ▸ D.m1)
theorem Apart.j2z {zp ta tb j1 j2 : Addr} {f1 f2 : List Addr} (D : Apart zp ta tb j1 j2 f1 f2) : j2 ≠ zp := fun e => D.z2 (e ▸ D.m2)
section
variable {P : Program} {w : World} {A : Around} {E : Value → Shared → Prop} {s : Shared} {zp ta tb j1 j2 : Addr} {f1 f2 : List Addr} {B1 C1 B2 C2 : Heap → Prop}
theorem same_in {a : Addr} {fp : List Addr} {B : Heap → Prop} {h h' : Heap} (k : Holds fp B) (m : a ∉ fp) (sb : Heap.SameBut a h h') (b : B h) : B h' :=
  k h h' b fun c hc o e => sb.extBut c o (fun q => m (q ▸ hc)) e
/-- one item of each -/
theorem two_items {x y u v : Value} {Q : Value → Shared → Prop} (D : Apart zp ta tb j1 j2 f1 f2) (N1 : Gives P w j1 B1 C1 x) (N2 : Gives P w j2 B2 C2 y) (kC1 : Holds f1 C1) (kB2 : Holds f2 B2) (kC2 : Holds f2 C2)
    (gz : IsZip s.heap zp ta tb .none) (gI : IsPair s.heap ta (.ref j1) (.ref j2)) (gO : IsPair s.heap tb u v) (st1 : B1 s.heap) (st2 : B2 s.heap) (kB1 : Holds f1 B1)
    (fin : ∀ h', IsZip h' zp ta tb (rawInt s.heap.objs.size) → IsPair h' tb x y → C1 h' → C2 h' → IsPair h' s.heap.objs.size x y → h'.objs.size = s.heap.objs.size + 1 →
      (∀ c o, c ≠ zp → c ≠ tb → c ≠ j1 → c ≠ j2 → s.heap.get? c = some o → h'.get? c = some o) → Q (.ref s.heap.objs.size) { s with heap := h' }) :
    wpAny (model P w) A (Builtin.«zip.__next__» ⟨[.ref zp], []⟩) (fun r s' => ∃ v, r = .done (.ret v) ∧ Q v s') E s := by
  have atf : ∀ {n : Nat} {val : Value} {Q : Value → Shared → Prop}, (#[Value.none, .bool false, .bool false, .ref ta, .ref tb] : Array Value)[n]? = some val → Q val s → wpAny (model P w) A (field (.ref zp) n) Q E s := fun e q => wpAny_field gz rfl e q
  show wpAny _ _ (field (.ref zp) 2 >>= fun _ => _) _ _ _
  refine wpAny_bind (atf (val := .bool false) rfl ?_)
  refine wpAny_bind (m := field (.ref zp) 3) (atf (val := .ref ta) rfl ?_)
  refine wpAny_bind (wpAny_seqItems gI rfl ?_)
  refine wpAny_bind (m := Builtin.SmallTypes.ownedTupleIsFree (.ref zp)) ?_
  unfold Builtin.SmallTypes.ownedTupleIsFree
  refine wpAny_bind (atf (val := .none) rfl (wpAny_pure ?_))
  rw [if_pos rfl]
  refine wpAny_bind (wpAny_rule (wpAny_bind (atf (val := .ref tb) rfl ?_)))
  refine wpAny_bind (wpAny_setField_rec gz (show 0 < 5 by decide) fun ha za sa => ?_)
  have za : IsZip ha zp ta tb .ellipsis := za
  have Oa : IsPair ha tb u v := sa.extBut _ _ D.pb gO
  refine wpAny_bind ?_
  rw [show (#[Value.ref j1, Value.ref j2] : Array Value).toList.zipIdx = [(Value.ref j1, 0), (Value.ref j2, 1)] from rfl, List.forIn_cons]
  refine wpAny_bind (wpAny_bind (wpAny_onRaise (wpAny_bind (m := Builtin.SmallTypes.nextOf (.ref j1)) (N1 _ _ _ _ (same_in kB1 D.z1 sa st1) fun hb cb sb => wpAny_pure ?_))))
  have Ob : IsPair hb tb u v := sb.extBut _ _ D.b1 Oa
  refine wpAny_bind (wpAny_seqItems Ob rfl (wpAny_bind (wpAny_updateSeq_pair Ob fun hc Oc sc => wpAny_bind (wpAny_letGo (wpAny_pure ?_)))))
  have Oc : IsPair hc tb x v := Oc
  dsimp only
  rw [List.forIn_cons]
  refine wpAny_bind (wpAny_bind (wpAny_onRaise (wpAny_bind (m := Builtin.SmallTypes.nextOf (.ref j2)) (N2 _ _ _ _ ?_ fun hd cd sd => wpAny_pure ?_))))
  · exact same_in kB2 D.t2 sc (same_in kB2 D.o2 sb (same_in kB2 D.z2 sa st2))
  have Od : IsPair hd tb x v := sd.extBut _ _ D.b2 Oc
  refine wpAny_bind (wpAny_seqItems Od rfl (wpAny_bind (wpAny_updateSeq_pair Od fun he Oe se => wpAny_bind (wpAny_letGo (wpAny_pure ?_)))))
  have Oe : IsPair he tb x y := Oe
  dsimp only
  rw [List.forIn_nil]
  refine wpAny_pure ?_
  have n0 : he.objs.size = s.heap.objs.size := by rw [se.1, sd.1, sc.1, sb.1, sa.1]
  have ze : IsZip he zp ta tb .ellipsis := se.extBut _ _ D.pb.symm (sd.extBut _ _ D.j2z.symm (sc.extBut _ _ D.pb.symm (sb.extBut _ _ D.j1z.symm za)))
  have ce : C1 he := same_in kC1 D.t1 se (same_in kC1 D.o1 sd (same_in kC1 D.t1 sc cb))
  have de : C2 he := same_in kC2 D.t2 se cd
  have upe : ∀ c o, c ≠ zp → c ≠ tb → c ≠ j1 → c ≠ j2 → s.heap.get? c = some o → he.get? c = some o := fun c o n1 n2 n3 n4 e =>
    se.extBut c o n2 (sd.extBut c o n4 (sc.extBut c o n2 (sb.extBut c o n3 (sa.extBut c o n1 e))))
  have lz : zp < he.objs.size := Heap.lt_size ze
  refine wpAny_bind (wpAny_seqItems Oe rfl (wpAny_bind (wpAny_newTuple (wpAny_bind ?_))))
  have push : ∀ c o, he.get? c = some o → (he.push { cls := .type "tuple", data := .seq #[x, y] }).get? c = some o := fun _ _ e => Heap.get?_push_of_some _ e
  have at0 : (he.push { cls := .type "tuple", data := .seq #[x, y] }).get? he.objs.size = some { cls := .type "tuple", data := .seq #[x, y] } := Heap.get?_push_size _ rfl
  have zf := push _ _ ze
  have sizep : (he.push { cls := .type "tuple", data := .seq #[x, y] }).objs.size = he.objs.size + 1 := Heap.size_push ..
  show wpAny _ _ (Builtin.SmallTypes.ownedTupleHandOut (.ref zp) (.ref he.objs.size)) _ _ { s with heap := he.push { cls := .type "tuple", data := .seq #[x, y] } }
  generalize he.push { cls := .type "tuple", data := .seq #[x, y] } = hf at push at0 zf sizep
  unfold Builtin.SmallTypes.ownedTupleHandOut
  refine wpAny_bind (wpAny_setField_rec zf (show 0 < 5 by decide) fun hg zg sg => ?_)
  refine wpAny_setField_rec zg (show 1 < 5 by decide) fun hh zh sh => ?_
  have last : ∀ c o, c ≠ zp → he.get? c = some o → hh.get? c = some o := fun c o n e => sh.extBut c o n (sg.extBut c o n (push c o e))
  have pq : hh.get? he.objs.size = some { cls := .type "tuple", data := .seq #[x, y] } := sh.extBut _ _ (Nat.ne_of_gt lz) (sg.extBut _ _ (Nat.ne_of_gt lz) at0)
  have zz : IsZip hh zp ta tb (rawInt (he.objs.size : Nat)) := zh
  have sz : hh.objs.size = he.objs.size + 1 := by rw [sh.1, sg.1, sizep]
  have pb : IsPair hh tb x y := last _ _ D.pb Oe
  have pc : C1 hh := kC1 _ _ ce fun b hb o e => last b o (fun q => D.z1 (q ▸ hb)) e
  have pd : C2 hh := kC2 _ _ de fun b hb o e => last b o (fun q => D.z2 (q ▸ hb)) e
  show wpAny _ _ (ret (Value.ref he.objs.size)) _ _ _
  refine wpAny_pure ⟨_, rfl, ?_⟩
  rw [n0] at pq zz sz ⊢
  exact fin hh zz pb pc pd pq sz fun c o a1 a2 a3 a4 e => last c o a1 (upe c o a1 a2 a3 a4 e)
/-- one of the two has no more -/
theorem no_items {x u v : Value} {Q : PySem.Fin → Shared → Prop} (hn : A.handled = none) (D : Apart zp ta tb j1 j2 f1 f2) (kB1 : Holds f1 B1) (kB2 : Holds f2 B2)
    (N : Over P w j1 B1 ∨ (Gives P w j1 B1 C1 x ∧ Over P w j2 B2))
    (gz : IsZip s.heap zp ta tb .none) (gI : IsPair s.heap ta (.ref j1) (.ref j2)) (gO : IsPair s.heap tb u v) (st1 : B1 s.heap) (st2 : B2 s.heap)
    (fin : ∀ h' e, (∀ c o, c ≠ zp → c ≠ tb → c ≠ j1 → c ≠ j2 → s.heap.get? c = some o → h'.get? c = some o) → (∃ o, h'.get? e = some o ∧ o.cls = .type "StopIteration") → E (.ref e) { s with heap := h' }) :
    wpAny (model P w) A (Builtin.«zip.__next__» ⟨[.ref zp], []⟩) Q E s := by
  have atf : ∀ {n : Nat} {val : Value} {E : Value → Shared → Prop} {Q : Value → Shared → Prop}, (#[Value.none, .bool false, .bool false, .ref ta, .ref tb] : Array Value)[n]? = some val → Q val s → wpAny (model P w) A (field (.ref zp) n) Q E s := fun e q => wpAny_field gz rfl e q
  show wpAny _ _ (field (.ref zp) 2 >>= fun _ => _) _ _ _
  refine wpAny_bind (atf (val := .bool false) rfl ?_)
  refine wpAny_bind (m := field (.ref zp) 3) (atf (val := .ref ta) rfl ?_)
  refine wpAny_bind (wpAny_seqItems gI rfl ?_)
  refine wpAny_bind (m := Builtin.SmallTypes.ownedTupleIsFree (.ref zp)) ?_
  unfold Builtin.SmallTypes.ownedTupleIsFree
  refine wpAny_bind (atf (val := .none) rfl (wpAny_pure ?_))
  rw [if_pos rfl]
  refine wpAny_bind (wpAny_rule (wpAny_bind (atf (val := .ref tb) rfl ?_)))
  refine wpAny_bind (wpAny_setField_rec gz (show 0 < 5 by decide) fun ha za sa => ?_)
  have za : IsZip ha zp ta tb .ellipsis := za
  have Oa : IsPair ha tb u v := sa.extBut _ _ D.pb gO
  have b1 := same_in kB1 D.z1 sa st1
  refine wpAny_bind ?_
  rw [show (#[Value.ref j1, Value.ref j2] : Array Value).toList.zipIdx = [(Value.ref j1, 0), (Value.ref j2, 1)] from rfl, List.forIn_cons]
  have stop : ∀ (hp : Heap) (e : Addr) (o : Obj) (v0 : Value), IsZip hp zp ta tb v0 → hp.get? e = some o → o.cls = .type "StopIteration" → (∀ c o, c ≠ zp → c ≠ tb → c ≠ j1 → c ≠ j2 → s.heap.get? c = some o → hp.get? c = some o) →
      ∀ (A' : Around), wpAny (model P w) A' (setField (.ref zp) 0 .none) (fun _ s' => E (.ref e) s') E { s with heap := hp } := fun hp e o v0 zq he hc k A' => by
    have ne : e ≠ zp := fun q => by rw [q, zq] at he; injection he with he; rw [← he] at hc; injection hc with hc; exact absurd hc (by decide)
    exact wpAny_setField_rec zq (show 0 < 5 by decide) fun hq _ sq => fin hq e (fun c o n1 n2 n3 n4 q => sq.extBut c o n1 (k c o n1 n2 n3 n4 q)) ⟨o, sq.extBut e o ne he, hc⟩
  rcases N with N1 | ⟨N1, N2⟩
  · refine wpAny_bind (wpAny_bind (wpAny_onRaise (wpAny_bind (m := Builtin.SmallTypes.nextOf (.ref j1)) (N1 _ _ _ _ ?_ b1 fun hb e sb ⟨o, he, hc⟩ => ?_))))
    · exact hn
    · exact stop hb e o _ (sb _ _ D.j1z.symm za) he hc (fun c o n1 n2 n3 n4 q => sb c o n3 (sa.extBut c o n1 q)) _
  · refine wpAny_bind (wpAny_bind (wpAny_onRaise (wpAny_bind (m := Builtin.SmallTypes.nextOf (.ref j1)) (N1 _ _ _ _ b1 fun hb cb sb => wpAny_pure ?_))))
    have Ob : IsPair hb tb u v := sb.extBut _ _ D.b1 Oa
    refine wpAny_bind (wpAny_seqItems Ob rfl (wpAny_bind (wpAny_updateSeq_pair Ob fun hc Oc sc => wpAny_bind (wpAny_letGo (wpAny_pure ?_)))))
    dsimp only
    rw [List.forIn_cons]
    have b2 := same_in kB2 D.t2 sc (same_in kB2 D.o2 sb (same_in kB2 D.z2 sa st2))
    have zc : IsZip hc zp ta tb .ellipsis := sc.extBut _ _ D.pb.symm (sb.extBut _ _ D.j1z.symm za)
    refine wpAny_bind (wpAny_bind (wpAny_onRaise (wpAny_bind (m := Builtin.SmallTypes.nextOf (.ref j2)) (N2 _ _ _ _ ?_ b2 fun hd e sd ⟨o, he, hcl⟩ => ?_))))
    · exact hn
    · exact stop hd e o _ (sd _ _ D.j2z.symm zc) he hcl (fun c o n1 n2 n3 n4 q => sd c o n4 (sc.extBut c o n2 (sb.extBut c o n3 (sa.extBut c o n1 q)))) _
theorem zip_next {x y u v : Value} {Q : Option Value → Shared → Prop} (D : Apart zp ta tb j1 j2 f1 f2) (N1 : Gives P w j1 B1 C1 x) (N2 : Gives P w j2 B2 C2 y) (kB1 : Holds f1 B1) (kC1 : Holds f1 C1) (kB2 : Holds f2 B2) (kC2 : Holds f2 C2)
    (gz : IsZip s.heap zp ta tb .none) (gI : IsPair s.heap ta (.ref j1) (.ref j2)) (gO : IsPair s.heap tb u v) (st1 : B1 s.heap) (st2 : B2 s.heap)
    (fin : ∀ h', IsZip h' zp ta tb (rawInt s.heap.objs.size) → IsPair h' tb x y → C1 h' → C2 h' → IsPair h' s.heap.objs.size x y → h'.objs.size = s.heap.objs.size + 1 →
      (∀ c o, c ≠ zp → c ≠ tb → c ≠ j1 → c ≠ j2 → s.heap.get? c = some o → h'.get? c = some o) → Q (some (.ref s.heap.objs.size)) { s with heap := h' }) :
    wpAny (model P w) A (pyNext (.ref zp)) Q E s := by
  have ty : s.TypeIs (.ref zp) "zip" := ⟨_, gz, rfl⟩
  unfold pyNext
  refine wpAny_bind (wpAny_attempt (wpAny_callSpecial?_slot (name := Str.ofString "__next__") ty F.slot_zip_next (wpAny_call_entry F.slot_zip_next ty F.entry_zip_next ?_ (F.args_zip_next_1 _))))
  exact two_items D N1 N2 kC1 kB2 kC2 gz gI gO st1 st2 kB1 fun h' a1 a2 a3 a4 a5 a6 a7 => wpAny_pure (fin h' a1 a2 a3 a4 a5 a6 a7)
theorem zip_stop {x u v : Value} {Q : Option Value → Shared → Prop} (hn : A.handled = none) (D : Apart zp ta tb j1 j2 f1 f2) (kB1 : Holds f1 B1) (kB2 : Holds f2 B2) (N : Over P w j1 B1 ∨ (Gives P w j1 B1 C1 x ∧ Over P w j2 B2))
    (gz : IsZip s.heap zp ta tb .none) (gI : IsPair s.heap ta (.ref j1) (.ref j2)) (gO : IsPair s.heap tb u v) (st1 : B1 s.heap) (st2 : B2 s.heap)
    (fin : ∀ h', (∀ c o, c ≠ zp → c ≠ tb → c ≠ j1 → c ≠ j2 → s.heap.get? c = some o → h'.get? c = some o) → Q none { s with heap := h' }) : wpAny (model P w) A (pyNext (.ref zp)) Q E s := by
  have ty : s.TypeIs (.ref zp) "zip" := ⟨_, gz, rfl⟩
  unfold pyNext
  refine wpAny_bind (wpAny_attempt (wpAny_callSpecial?_slot (name := Str.ofString "__next__") ty F.slot_zip_next (wpAny_call_entry F.slot_zip_next ty F.entry_zip_next ?_ (F.args_zip_next_1 _))))
  refine no_items ?_ D kB1 kB2 N gz gI gO st1 st2 fun h' e k ⟨o, he, hc⟩ => ?_
  · exact hn
  · exact wpAny_bind (wpAny_isInstance (T := "StopIteration") (b := true) ⟨o, he, hc⟩ isSubtype_stop (wpAny_pure (fin h' k)))
end
/-! ### a tuple and a list -/
abbrev AtT (j r i : Nat) (its : Array Value) (h : Heap) : Prop := h.IsTupleIter j r i ∧ h.IsTuple r its
abbrev AtL (j r i : Nat) (its : Array Value) (h : Heap) : Prop := h.IsListIter j r i ∧ h.IsList r its
section
variable {P : Program} {w : World} {j r i : Nat} {its : Array Value} {x : Value}
theorem holds_t : Holds [j, r] (AtT j r i its) := fun h h' ⟨⟨o, e, c⟩, ⟨o2, e2, c2⟩⟩ k => ⟨⟨o, k j (by simp) o e, c⟩, ⟨o2, k r (by simp) o2 e2, c2⟩⟩
theorem holds_l : Holds [j, r] (AtL j r i its) := fun h h' ⟨⟨o, e, c⟩, ⟨o2, e2, c2⟩⟩ k => ⟨⟨o, k j (by simp) o e, c⟩, ⟨o2, k r (by simp) o2 e2, c2⟩⟩
theorem gives_t (n : r ≠ j) (e : its[i]? = some x) : Gives P w j (AtT j r i its) (AtT j r (i + 1) its) x := fun A E s Q st fin =>
  RZ.nextOf_tuple_item st.1 st.2 e fun h' c sb => fin h' ⟨c, st.2.extBut sb.extBut n⟩ sb
theorem gives_l (n : r ≠ j) (e : its[i]? = some x) : Gives P w j (AtL j r i its) (AtL j r (i + 1) its) x := fun A E s Q st fin =>
  wpAny_nextOf_list_item st.1 st.2 e fun h' c sb => fin h' ⟨c, st.2.extBut sb.extBut n⟩ sb
theorem over_t (e : its[i]? = none) : Over P w j (AtT j r i its) := fun A E s Q hn st fin => RZ.nextOf_tuple_end hn st.1 st.2 e fin
theorem over_l (e : its[i]? = none) : Over P w j (AtL j r i its) := fun A E s Q hn st fin => wpAny_nextOf_list_end hn st.1 st.2 e fin
end
/-- the tuple at a and the list at b as they stand at each turn, the items in new pairs that stay -/
def ItzM (K : PySem.W.Frag) (a b : Addr) : It :=
  ⟨fun i H => ∃ xs ys x y, SqT K H a xs ∧ SqL K H b ys ∧ xs[i]? = some x ∧ ys[i]? = some y,
   fun i H v H' => ∃ T ob x y, v = .ref T ∧ ob.dict = none ∧ H T = none ∧ H' = upd H T (.frz ob (.tup [x, y])) ∧ (∀ xs, SqT K H a xs → xs[i]? = some x) ∧ ∀ ys, SqL K H b ys → ys[i]? = some y,
   fun i H => ∃ xs ys, SqT K H a xs ∧ SqL K H b ys ∧ (xs.length ≤ i ∨ ys.length ≤ i)⟩
structure Zst (a b zp ta tb j1 j2 i : Nat) (h : Heap) : Prop where
  z : IsZip h zp ta tb .none
  p : IsPair h ta (.ref j1) (.ref j2)
  o : ∃ x y, IsPair h tb x y
  c1 : h.IsTupleIter j1 a i
  c2 : h.IsListIter j2 b i
theorem five {c p q r u v : Addr} (h : c ∈ [p, q, r, u, v]) : c = p ∨ c = q ∨ c = r ∨ c = u ∨ c = v := by simpa using h
theorem turnM {P : Program} {w : World} {K : PySem.W.Frag} {es : List Expr} {n : Nat} {pos : Pos} {a b zp ta tb j1 j2 : Addr} (D : Apart zp ta tb j1 j2 [j1, a] [j2, b]) :
    Turn P w K (.Tuple es n pos) (ItzM K a b) [zp, ta, tb, j1, j2] zp (fun i h => Zst a b zp ta tb j1 j2 i h) where
  mem := List.mem_cons_self
  obj i h st c hc := by
    obtain ⟨o1, e1, _, d1⟩ := st.c1
    obtain ⟨o2, e2, _, d2⟩ := st.c2
    obtain ⟨x, y, eo⟩ := st.o
    rcases five hc with rfl | rfl | rfl | rfl | rfl
    · exact ⟨_, st.z, fun _ q => by cases q⟩
    · exact ⟨_, st.p, fun _ q => by cases q⟩
    · exact ⟨_, eo, fun _ q => by cases q⟩
    · exact ⟨o1, e1, fun _ q => by rw [d1] at q; cases q⟩
    · exact ⟨o2, e2, fun _ q => by rw [d2] at q; cases q⟩
  keep i h h' st k := by
    obtain ⟨x, y, eo⟩ := st.o
    obtain ⟨o1, e1, r1⟩ := st.c1
    obtain ⟨o2, e2, r2⟩ := st.c2
    exact ⟨k zp (by simp) _ st.z, k ta (by simp) _ st.p, ⟨x, y, k tb (by simp) _ eo⟩, ⟨o1, k j1 (by simp) _ e1, r1⟩, ⟨o2, k j2 (by simp) _ e2, r2⟩⟩
  item := by
    rintro X rfl rfl rfl hcalm i pins s σ H E I ff st ⟨xs, ys, x, y, sx, sy, ex, ey⟩
    obtain ⟨us, ru, pu, _⟩ := I.tuple sx
    obtain ⟨vs, rv, pv, _⟩ := I.list sy
    obtain ⟨u, eu, rxu⟩ := ru.get ex
    obtain ⟨v, ev, ryv⟩ := rv.get ey
    obtain ⟨x0, y0, eo⟩ := st.o
    have na : a ≠ j1 := fun q => by
      obtain ⟨o1, e1, c1, _⟩ := st.c1
      obtain ⟨o2, e2, c2, _⟩ := pu
      rw [q, e1] at e2; cases e2
      rw [c1] at c2; injection c2 with c2; exact absurd c2 (by decide)
    have nb : b ≠ j2 := fun q => by
      obtain ⟨o1, e1, c1, _⟩ := st.c2
      obtain ⟨o2, e2, c2, _⟩ := pv.isList
      rw [q, e1] at e2; cases e2
      rw [c1] at c2; injection c2 with c2; exact absurd c2 (by decide)
    refine zip_next D (gives_t (its := us.toArray) (i := i) na (by simpa using eu)) (gives_l (its := vs.toArray) (i := i) nb (by simpa using ev)) holds_t holds_t holds_l holds_l st.z st.p eo ⟨st.c1, pu⟩ ⟨st.c2, pv.isList⟩ fun h1 z1 o1 t1 l1 p1 n1 k1 => ?_
    have zl : zp < s.heap.objs.size := Heap.lt_size st.z
    refine ⟨_, rfl, wpAny_letOwnedTupleGo_zip (s := { s with heap := h1 }) z1 fun h2 z2 sb => ?_⟩
    have pr : h2.get? s.heap.objs.size = some { cls := .type "tuple", data := .seq #[u, v] } := sb.extBut _ _ (Nat.ne_of_gt zl) p1
    have nm : ∀ {c : Addr}, c ∉ [zp, ta, tb, j1, j2] → c ≠ zp ∧ c ≠ tb ∧ c ≠ j1 ∧ c ≠ j2 := fun h => by
      simp only [List.mem_cons, not_or] at h
      exact ⟨h.1, h.2.2.1, h.2.2.2.1, h.2.2.2.2.1⟩
    have new : ObjOk X.prog X.w (upd H s.heap.objs.size (.frz { cls := .type "tuple", data := .seq #[u, v] } (.tup [x, y]))) h2 s.heap.objs.size (.frz { cls := .type "tuple", data := .seq #[u, v] } (.tup [x, y])) :=
      ⟨pr, by show 2 ≤ sizeLine; decide, [u, v], .cons rxu (.cons ryv .nil), _, pr, rfl, _, rfl⟩
    have J := I.turnedNew (t' := s.toks) (ch := [zp, ta, tb, j1, j2]) (fun c o hc e => sb.extBut c o (nm hc).1 (k1 c o (nm hc).1 (nm hc).2.1 (nm hc).2.2.1 (nm hc).2.2.2 e)) ff (Nat.le_refl _) new
    refine ⟨.ref s.heap.objs.size, _, J, rfl, ⟨_, _, x, y, rfl, rfl, I.hok.fresh (Nat.le_refl _), rfl, fun l hl => by rw [I.tuple_inj hl sx]; exact ex, fun l hl => by rw [I.list_inj hl sy]; exact ey⟩, ⟨z2, ?_, ⟨u, v, ?_⟩, ?_, ?_⟩, fun c hc => ?_⟩
    · exact sb.extBut _ _ D.pa (k1 _ _ D.pa D.ab D.a1 D.a2 st.p)
    · exact sb.extBut _ _ D.pb o1
    · obtain ⟨o, e, r⟩ := t1.1; exact ⟨o, sb.extBut _ _ D.j1z e, r⟩
    · obtain ⟨o, e, r⟩ := l1.1; exact ⟨o, sb.extBut _ _ D.j2z e, r⟩
    · have lt : c < s.heap.objs.size := by
        obtain ⟨o1, e1, _⟩ := st.c1
        obtain ⟨o2, e2, _⟩ := st.c2
        rcases five hc with rfl | rfl | rfl | rfl | rfl
        · exact zl
        · exact Heap.lt_size st.p
        · exact Heap.lt_size eo
        · exact Heap.lt_size e1
        · exact Heap.lt_size e2
      rw [upd_ne (Nat.ne_of_lt lt)]
      exact (ff c hc).1
  done := by
    rintro X rfl rfl rfl hcalm i pins s σ H E I ff st ⟨xs, ys, sx, sy, hend⟩
    obtain ⟨us, ru, pu, _⟩ := I.tuple sx
    obtain ⟨vs, rv, pv, _⟩ := I.list sy
    obtain ⟨x0, y0, eo⟩ := st.o
    have lu := ru.length
    have lv := rv.length
    have na : a ≠ j1 := fun q => by
      obtain ⟨o1, e1, c1, _⟩ := st.c1
      obtain ⟨o2, e2, c2, _⟩ := pu
      rw [q, e1] at e2; cases e2
      rw [c1] at c2; injection c2 with c2; exact absurd c2 (by decide)
    have nm : ∀ {c : Addr}, c ∉ [zp, ta, tb, j1, j2] → c ≠ zp ∧ c ≠ tb ∧ c ≠ j1 ∧ c ≠ j2 := fun h => by
      simp only [List.mem_cons, not_or] at h
      exact ⟨h.1, h.2.2.1, h.2.2.2.1, h.2.2.2.2.1⟩
    have fin : ∀ h', (∀ c o, c ≠ zp → c ≠ tb → c ≠ j1 → c ≠ j2 → s.heap.get? c = some o → h'.get? c = some o) → (none : Option Value) = none ∧ Inv X pins σ H { s with heap := h' } := fun h' k =>
      ⟨rfl, I.turnedL (t' := s.toks) (ch := [zp, ta, tb, j1, j2]) (fun c o hc e => k c o (nm hc).1 (nm hc).2.1 (nm hc).2.2.1 (nm hc).2.2.2 e) ff⟩
    cases e1 : us.toArray[i]? with
    | none => exact zip_stop (x := .none) (C1 := fun _ => True) (I.ok.hd hcalm) D holds_t holds_l (.inl (over_t e1)) st.z st.p eo ⟨st.c1, pu⟩ ⟨st.c2, pv.isList⟩ fin
    | some u =>
      have e2 : vs.toArray[i]? = none := by
        have : i < us.length := by simpa using (Array.getElem?_eq_some_iff.mp e1).1
        rcases hend with q | q
        · omega
        · simp; omega
      exact zip_stop (I.ok.hd hcalm) D holds_t holds_l (.inr ⟨gives_t na e1, over_l e2⟩) st.z st.p eo ⟨st.c1, pu⟩ ⟨st.c2, pv.isList⟩ fin
  self A i s Q E st h := wpAny_pyIter_zip st.z h
/-! ### zip(a, b) is made -/
abbrev mk1 (h : Heap) (a : Addr) : Heap := h.push { cls := .type "tuple_iterator", data := .fields #[.ref a, .int 0 0] }
abbrev mk2 (h : Heap) (a b : Addr) : Heap := (mk1 h a).push { cls := .type "list_iterator", data := .fields #[.ref b, .int 0 0] }
abbrev mk3 (h : Heap) (a b : Addr) : Heap := (mk2 h a b).push { cls := .type "tuple", data := .seq #[.ref h.objs.size, .ref (mk1 h a).objs.size] }
abbrev mk4 (h : Heap) (a b : Addr) : Heap := (mk3 h a b).push { cls := .type "tuple", data := .seq #[.none, .none] }
abbrev mk5 (h : Heap) (a b : Addr) : Heap := (mk4 h a b).push { cls := .type "zip", data := .fields #[.none, .bool false, .bool false, .ref (mk2 h a b).objs.size, .ref (mk3 h a b).objs.size] }
theorem made_zip (a b : Addr) (xs ys : Array Value) : Meets (Builtin.«zip.__new__» ⟨[.type "zip", .ref a, .ref b], []⟩) (fun _ R s => s.heap.IsTuple a xs ∧ s.heap.IsList b ys ∧ R (.ok (.ret (.ref (mk4 s.heap a b).objs.size))) { s with heap := mk5 s.heap a b }) :=
  .of_wp fun prog w A R s ⟨ta, lb, q⟩ => by
    obtain ⟨hp, g, d, tk, os⟩ := s
    have t0 : Heap.IsTuple (Shared.heap ⟨hp, g, d, tk, os⟩) a xs := ta
    have l0 : Heap.IsList (Shared.heap ⟨mk1 hp a, g, d, tk, os⟩) b ys := Heap.IsList.push lb _
    have hs := sub_zip
    wp_walk using wpAny_pyIter_tuple t0, wpAny_pyIter_list l0
    exact ⟨_, rfl, q⟩
theorem call_zipM {P : Program} {w : World} {A : Around} {E : Value → Shared → Prop} {s : Shared} {a b : Addr} {xs ys : Array Value} {Q : Value → Shared → Prop} (ia : s.heap.IsTuple a xs) (ib : s.heap.IsList b ys)
    (fin : ∀ h', Zst a b (s.heap.objs.size + 4) (s.heap.objs.size + 2) (s.heap.objs.size + 3) s.heap.objs.size (s.heap.objs.size + 1) 0 h' → (∀ c o, s.heap.get? c = some o → h'.get? c = some o) → Q (.ref (s.heap.objs.size + 4)) { s with heap := h' }) :
    wpAny (model P w) A (call (.type "zip") [.ref a, .ref b]) Q E s := by
  refine callType_new F.called_zip (by decide) (F.typeCall_zip_2 _ _) (F.newCall_zip_2 _ _) (fun obj => F.args_object_init_3 obj _ _) F.entry_zip_new (made_zip a b xs ys) ⟨ia, ib, ?_⟩
  have up : ∀ {h : Heap} {o : Obj} {c : Addr} {v : Obj}, h.get? c = some v → (h.push o).get? c = some v := fun e => Heap.get?_push_of_some _ e
  have n1 : (mk1 s.heap a).objs.size = s.heap.objs.size + 1 := Heap.size_push ..
  have n2 : (mk2 s.heap a b).objs.size = s.heap.objs.size + 2 := by rw [Heap.size_push, n1]
  have n3 : (mk3 s.heap a b).objs.size = s.heap.objs.size + 3 := by rw [Heap.size_push, n2]
  have n4 : (mk4 s.heap a b).objs.size = s.heap.objs.size + 4 := by rw [Heap.size_push, n3]
  have e0 : (mk5 s.heap a b).get? s.heap.objs.size = some { cls := .type "tuple_iterator", data := .fields #[.ref a, .int 0 0] } := up (up (up (up (Heap.get?_push_size _ rfl))))
  have e1 : (mk5 s.heap a b).get? (s.heap.objs.size + 1) = some { cls := .type "list_iterator", data := .fields #[.ref b, .int 0 0] } := by
    rw [← n1]; exact up (up (up (Heap.get?_push_size _ rfl)))
  have e2 : (mk5 s.heap a b).get? (s.heap.objs.size + 2) = some { cls := .type "tuple", data := .seq #[.ref s.heap.objs.size, .ref (s.heap.objs.size + 1)] } := by
    rw [← n1, ← n2]; exact up (up (Heap.get?_push_size _ rfl))
  have e3 : (mk5 s.heap a b).get? (s.heap.objs.size + 3) = some { cls := .type "tuple", data := .seq #[.none, .none] } := by
    rw [← n3]; exact up (Heap.get?_push_size _ rfl)
  have e4 : (mk5 s.heap a b).get? (s.heap.objs.size + 4) = some { cls := .type "zip", data := .fields #[.none, .bool false, .bool false, .ref (s.heap.objs.size + 2), .ref (s.heap.objs.size + 3)] } := by
    rw [← n2, ← n3, ← n4]; exact Heap.get?_push_size _ rfl
  refine ⟨?_, ?_⟩
  · rw [n4]; exact ⟨_, e4, rfl⟩
  · rw [n4]
    exact fin _ ⟨e4, e2, ⟨_, _, e3⟩, ⟨_, e0, rfl, rfl⟩, ⟨_, e1, rfl, rfl⟩⟩ fun c o e => up (up (up (up (up e))))
theorem nin {N x y : Nat} (h1 : x ≠ N) (h2 : x ≠ y) : (x : Addr) ∉ ([N, y] : List Addr) := fun h => by
  rcases List.mem_cons.mp h with h | h
  · exact h1 h
  · exact h2 (List.mem_singleton.mp h)
theorem apart_new {N a b : Nat} (la : a < N) (lb : b < N) : Apart (N + 4) (N + 2) (N + 3) N (N + 1) [N, a] [N + 1, b] where
  pa := show (N + 2 : Nat) ≠ N + 4 by omega
  pb := show (N + 3 : Nat) ≠ N + 4 by omega
  ab := show (N + 2 : Nat) ≠ N + 3 by omega
  a1 := show (N + 2 : Nat) ≠ N by omega
  a2 := show (N + 2 : Nat) ≠ N + 1 by omega
  b1 := show (N + 3 : Nat) ≠ N by omega
  b2 := show (N + 3 : Nat) ≠ N + 1 by omega
  j12 := show (N : Nat) ≠ N + 1 by omega
  z1 := nin (by omega) (by omega)
  z2 := nin (by omega) (by omega)
  t1 := nin (by omega) (by omega)
  t2 := nin (by omega) (by omega)
  o1 := nin (by omega) (by omega)
  o2 := nin (by omega) (by omega)
  m1 := List.mem_cons_self
  m2 := List.mem_cons_self
def iZipM (K : PySem.W.Frag) (ta : TA) : TI := fun σ H R => ta σ H fun vs H1 => ∃ a b xs ys, vs = [.ref a, .ref b] ∧ SqT K H1 a xs ∧ SqL K H1 b ys ∧ R (ItzM K a b) H1
theorem pi_zipM {X : Cx} {e e2 : Expr} {ta : TA} {p pos tpos : Pos} {es : List Expr} {n : Nat} (hg : Gl X "zip") (hm : X.mg "zip" = none) (ha : PA X [e, e2] ta)
    (hs : starEach [e, e2] X.env = (false, eval e X.env) :: starEach [e2] X.env := by rfl) (hpl : (backTo pos (starEach [e2] X.env)).any (·.1) = false := by rfl) :
    PI X (.Tuple es n tpos) (.Call (.Name "zip" p) [e, e2] [] pos) (iZipM X.K ta) := ⟨fun pins s σ H R I h => by
  refine Call_ (ld_blt I hg hm boot_zip (callWith_type1 (thn (ha.run pos pins s σ H _ I h) fun us s1 ⟨vs, H1, J, r, a, b, xs, ys, ev, sa, sb, q⟩ => ?_) hs hpl))
  subst ev
  obtain ⟨ua, ub, rfl, ra, rb⟩ := vals2 r
  cases ra
  cases rb
  obtain ⟨is, _, pa, _⟩ := J.tuple sa
  obtain ⟨ks, _, pb, _⟩ := J.list sb
  obtain ⟨oa, ga, _⟩ := id pa
  obtain ⟨ob, gb, _⟩ := id pb.isList
  have la : a < s1.heap.objs.size := Heap.lt_size ga
  have lb : b < s1.heap.objs.size := Heap.lt_size gb
  refine call_zipM (xs := is.toArray) pa pb.isList fun h' st k => wpAny_pyIter_zip st.z ?_
  have D := apart_new la lb
  exact ⟨s1.heap.objs.size + 4, [s1.heap.objs.size + 4, s1.heap.objs.size + 2, s1.heap.objs.size + 3, s1.heap.objs.size, s1.heap.objs.size + 1], _, _, H1, rfl, J.kept (t' := s1.toks) k, turnM D, st, fun c hc => by
    have ge : s1.heap.objs.size ≤ c := by
      rcases five hc with rfl | rfl | rfl | rfl | rfl
      · exact Nat.le_add_right _ 4
      · exact Nat.le_add_right _ 2
      · exact Nat.le_add_right _ 3
      · exact Nat.le_refl _
      · exact Nat.le_add_right _ 1
    exact J.fpOk ge (J.hok.fresh ge), q⟩⟩
end ZM
namespace DL
open PySem PySem.Spec PyProof.Rows L2
section
variable {X : Cx} {K : KW} {F F' : Fr} {H H' : Hp} {G G' : Gp} {a b : Expr} {tr : DTA} {pos p tpos : Pos} {es : List Expr} {n : Nat}
def zipD : List D → List D → List D := List.zipWith fun x y => .tup [x, y]
/-- zip(t, l) of a tuple and a list that nobody changes -/
def dZip (tr : DTA) : DTI := fun δ G Q => tr δ G fun ds G1 => ∃ xs ys, ds = [.tup xs, .lv ys] ∧ Q (zipD xs ys) (fun _ => True) G1
theorem dZip_e {δ : DS} {Q : List D → (Gp → Prop) → Gp → Prop} : dZip tr δ G Q = tr δ G fun ds G1 => ∃ xs ys, ds = [.tup xs, .lv ys] ∧ Q (zipD xs ys) (fun _ => True) G1 := (rfl)
theorem qi_zip (hg : Gl X "zip") (hm : X.mg "zip" = none) (ha : QA X [a, b] tr) (hs : starEach [a, b] X.env = (false, eval a X.env) :: starEach [b] X.env := by rfl) (hpl : (backTo pos (starEach [b] X.env)).any (·.1) = false := by rfl) :
    QI X (.Tuple es n tpos) (.Call (.Name "zip" p) [a, b] [] pos) (dZip tr) := PImono (ZM.pi_zipM hg hm ha hs hpl) fun σ H R0 ⟨F, δ, G, Q, R, S, q, k⟩ => by
  refine ⟨F, δ, G, _, R, S, q, fun vs H1 ⟨ds, F1, G1, k1, R1, p1, xs, ys, e, q1⟩ => ?_⟩
  subst e
  obtain ⟨v, r, rfl, ⟨a, us, rfl, ha, ra⟩, v2, r2, rfl, ⟨b, ws, rfl, hb, rb⟩, e⟩ := p1
  cases e
  refine ⟨a, b, us, ws, rfl, ha.sq, .of hb.2, k _ _ _ F1 H1 G1 k1 R1 ?_ q1⟩
  intro F2 H2 G2 k2 R2 _
  have sa := k2.sqT R1 ha.sq
  have sb : SqL (kw X) H2 b ws := .of ((k2.stay R1).lst b ws hb.1 hb.2).2
  have ra2 := RepL.mono R1 k2 _ _ ra
  have rb2 := RepL.mono R1 k2 _ _ rb
  have la := ra2.len
  have lb := rb2.len
  have lz : (zipD xs ys).length = min xs.length ys.length := by unfold zipD; rw [List.length_zipWith]
  refine ⟨fun i hi => ⟨us, ws, sa, sb, by omega⟩, fun i d e => ?_⟩
  unfold zipD at e
  rw [List.getElem?_zipWith] at e
  cases ex : xs[i]? with
  | none => rw [ex] at e; cases e
  | some x =>
    cases ey : ys[i]? with
    | none => rw [ex, ey] at e; cases e
    | some y =>
      rw [ex, ey] at e
      cases e
      obtain ⟨u, eu, rx⟩ := ra2.get ex
      obtain ⟨v, ev, ry⟩ := rb2.get ey
      refine ⟨⟨us, ws, u, v, sa, sb, eu, ev⟩, ?_⟩
      rintro z H3 ⟨T, ob, u', v', rfl, od, hT, rfl, hu, hv⟩
      have e1 := (hu us sa).symm.trans eu
      have e2 := (hv ws sb).symm.trans ev
      cases e1
      cases e2
      have kk := keep_new (o := .frz ob (.tup [u, v])) R2 hT
      exact ⟨F2, kk, rel_new R2 hT, T, _, rfl, .inl ⟨ob, upd_same, od⟩, ⟨_, _, rfl, Rep.mono R2 kk _ _ rx, _, _, rfl, Rep.mono R2 kk _ _ ry, rfl⟩⟩
/-! ### {"a": 1, "b": 2}: written texts, written ints -/
def ctC (kvs : List (String × Int)) : List (TE × TE) := kvs.map fun kv => (tC (.str (Str.ofString kv.1)), tC (.int kv.2))
def dDispC (kvs : List (String × Int)) : DTE := fun _ G Q => Q (.dv (mergeD [] (kvs.map fun kv => (.inr (Str.ofString kv.1), .int kv.2)))) G
theorem dDispC_e {kvs : List (String × Int)} {δ : DS} {Q : D → Gp → Prop} : dDispC kvs δ G Q = Q (.dv (mergeD [] (kvs.map fun kv => (.inr (Str.ofString kv.1), .int kv.2)))) G := (rfl)
theorem pairs_c {σ : L2.St} {Q : List (V × V) → Hp → Prop} : ∀ (kvs : List (String × Int)) (ps : List (V × V)), Q (ps ++ kvs.map fun kv => (V.str (Str.ofString kv.1), V.int kv.2)) H → tPairs (ctC kvs) σ H fun qs H1 => Q (ps ++ qs) H1
  | [], _, q => q
  | kv :: kvs, ps, q => by
    show tPairs (ctC kvs) σ H fun qs H1 => Q (ps ++ (V.str (Str.ofString kv.1), V.int kv.2) :: qs) H1
    have := pairs_c (σ := σ) (Q := Q) kvs (ps ++ [(V.str (Str.ofString kv.1), V.int kv.2)]) (by rw [List.append_assoc]; exact q)
    simpa only [List.append_assoc, List.singleton_append] using this
theorem q_dispC {kvs : List (String × Int)} {keys : List (Option Expr)} {vals : List Expr} (h : PPs X pos keys vals (ctC kvs)) (hall : keys.all (·.isSome) = true) (hl : keys.length = vals.length) (h0 : keys ≠ []) (h15 : keys.length ≤ 15) (hk : kvs.length ≤ 15) :
    QE X (.Dict keys vals pos) (dDispC kvs) := PEmono (pe_disp h hall hl h0 h15) fun σ H Q ⟨F, δ, G, Q', R, S, q, k⟩ => fun p hp => by
  show tPairs (ctC kvs) σ (upd H p (.dK [])) _
  refine pairs_c (Q := fun ps H2 => H2 p = some (.dK []) ∧ ∃ kvs : List (L2.Key × V), ps = kvs.map (fun kv => (kV kv.1, kv.2)) ∧ kvs.length ≤ 15 ∧ Q (.ref p) (upd H2 p (.dK (mergeK [] kvs)))) kvs [] ⟨upd_same, kvs.map fun kv => (.inr (Str.ofString kv.1), V.int kv.2), ?_, by rw [List.length_map]; exact hk, ?_⟩
  · rw [List.nil_append, List.map_map]; rfl
  · rw [upd_upd]
    refine k _ _ ⟨D.dv _, frzF F p, G, keep_frz R hp, rel_frz R hp, ⟨p, _, rfl, ⟨.inr rfl, .inl upd_same⟩, ?_⟩, q⟩
    have rk : ∀ (F : Fr) (H : Hp) (kvs : List (String × Int)), RepK (kw X) F H (kvs.map fun kv => (.inr (Str.ofString kv.1), D.int kv.2)) (kvs.map fun kv => (.inr (Str.ofString kv.1), V.int kv.2)) := fun F H kvs => by
      induction kvs with
      | nil => rfl
      | cons kv kvs ih => exact ⟨_, _, _, rfl, ⟨rfl, rfl⟩, ih⟩
    have mk : ∀ (F : Fr) (H : Hp) (ks : List (L2.Key × D)) (vs : List (L2.Key × V)), RepK (kw X) F H ks vs → ∀ (a : List (L2.Key × D)) (b : List (L2.Key × V)), RepK (kw X) F H a b → RepK (kw X) F H (mergeD a ks) (mergeK b vs) := fun F H ks => by
      induction ks with
      | nil => intro vs r a b q; cases r; exact q
      | cons kv ks ih =>
        rintro vs ⟨k, v, r, rfl, hp, hr⟩ a b q
        obtain ⟨kk, dd⟩ := kv
        obtain ⟨rfl, hv⟩ := hp
        exact ih _ hr _ _ (putK_rep hv q)
    exact mk _ _ _ _ (rk _ _ kvs) _ _ rfl
end
end DL
set_option Elab.async false
set_option linter.all false
set_option maxRecDepth 100000
set_option maxHeartbeats 4000000
/-! EM: enumerate(t) of a tuple, over the library's enumerate of any iterator. -/
namespace EM
open PySem PySem.Spec PyProof.Rows L2
theorem draws_t {P : Program} {w : World} {A : Around} (hn : A.handled = none) {j r : Addr} (n : r ≠ j) (its : Array Value) :
    Draws P w A j [j, r] its.size (fun i v => its[i]? = some v) (fun i h => ZM.AtT j r i its h) where
  live _ _ st := let ⟨o, e, _⟩ := st.1; ⟨o, e⟩
  frame i h h' st k := ZM.holds_t h h' st fun b hb o e => k b hb o e
  item i s Q E lt st q := ZM.gives_t (P := P) (w := w) n (show its[i]? = some its[i] by simp [lt]) A E s Q st fun h' c sb => q _ h' s.toks (by simp [lt]) c sb
  done s Q E st q := ZM.over_t (P := P) (w := w) (show its[its.size]? = none by simp) A E s Q hn st q
theorem draws_0 {P : Program} {w : World} {A : Around} (hn : A.handled = none) {j r i : Addr} {its : Array Value} (e : its[i]? = none) :
    Draws P w A j [j, r] 0 (fun _ _ => True) (fun _ h => ZM.AtT j r i its h) where
  live _ _ st := let ⟨o, e, _⟩ := st.1; ⟨o, e⟩
  frame _ h h' st k := ZM.holds_t h h' st fun b hb o e => k b hb o e
  item i s Q E lt st q := absurd lt (Nat.not_lt_zero _)
  done s Q E st q := ZM.over_t (P := P) (w := w) e A E s Q hn st q
/-- the tuple at a as it stands at each turn, the items with their places in new pairs that stay -/
def ItE (K : PySem.W.Frag) (a : Addr) : It :=
  ⟨fun i H => ∃ xs x, SqT K H a xs ∧ xs[i]? = some x,
   fun i H v H' => ∃ T ob x, v = .ref T ∧ ob.dict = none ∧ H T = none ∧ H' = upd H T (.frz ob (.tup [.int (i : Nat), x])) ∧ ∀ xs, SqT K H a xs → xs[i]? = some x,
   fun i H => ∃ xs, SqT K H a xs ∧ xs.length ≤ i⟩
structure Est (a e j i : Nat) (h : Heap) : Prop where
  z : ∃ old, IsEnum h e j ((i : Nat) : Int) old
  c : h.IsTupleIter j a i
theorem turnE {P : Program} {w : World} {K : PySem.W.Frag} {es : List Expr} {n : Nat} {pos : Pos} {a e j : Addr} (ej : e ≠ j) (ea : e ≠ a) :
    Turn P w K (.Tuple es n pos) (ItE K a) [e, j] e (fun i h => Est a e j i h) where
  mem := List.mem_cons_self
  obj i h st c hc := by
    obtain ⟨old, eo⟩ := st.z
    obtain ⟨o1, e1, _, d1⟩ := st.c
    have hc : c = e ∨ c = j := by simpa using hc
    rcases hc with rfl | rfl
    · exact ⟨_, eo, fun _ q => by cases q⟩
    · exact ⟨o1, e1, fun _ q => by rw [d1] at q; cases q⟩
  keep i h h' st k := by
    obtain ⟨old, eo⟩ := st.z
    obtain ⟨o1, e1, r1⟩ := st.c
    exact ⟨⟨old, k e (by simp) _ eo⟩, ⟨o1, k j (by simp) _ e1, r1⟩⟩
  item := by
    rintro X rfl rfl rfl hcalm i pins s σ H E I ff st ⟨xs, x, sx, ex⟩
    obtain ⟨us, ru, pu, _⟩ := I.tuple sx
    obtain ⟨u, eu, rx⟩ := ru.get ex
    obtain ⟨old, eo⟩ := st.z
    have na : a ≠ j := fun q => by
      obtain ⟨o1, e1, c1, _⟩ := st.c
      obtain ⟨o2, e2, c2, _⟩ := pu
      rw [q, e1] at e2; cases e2
      rw [c1] at c2; injection c2 with c2; exact absurd c2 (by decide)
    have li : i < us.toArray.size := by simpa using (List.getElem?_eq_some_iff.mp eu).1
    have el : e < s.heap.objs.size := Heap.lt_size eo
    refine wpAny_pyNext_enum_itemD (draws_t (P := X.prog) (w := X.w) (A := X.A.in1) (show X.A.in1.handled = none from I.ok.hd hcalm) na us.toArray) eo ⟨st.c, pu⟩ li ej (by simp only [List.mem_cons, List.not_mem_nil, or_false, not_or]; exact ⟨ej, ea⟩) fun v h1 tk pv z1 c1 p1 n1 k1 => ?_
    have ev : v = u := by
      have : us.toArray[i]? = some u := by simpa using eu
      rw [this] at pv
      exact (Option.some.inj pv).symm
    subst ev
    refine ⟨_, rfl, wpAny_letOwnedTupleGo_enum (s := { s with heap := h1, toks := tk + 1 }) z1 fun h2 z2 sb => ?_⟩
    have pr : h2.get? s.heap.objs.size = some { cls := .type "tuple", data := .seq #[.int i tk, v] } := sb.extBut _ _ (Nat.ne_of_gt el) p1
    have nm : ∀ {c : Addr}, c ∉ [e, j] → c ≠ e ∧ c ≠ j := fun h => by
      simp only [List.mem_cons, List.not_mem_nil, or_false, not_or] at h
      exact h
    have new : ObjOk X.prog X.w (upd H s.heap.objs.size (.frz { cls := .type "tuple", data := .seq #[.int i tk, v] } (.tup [.int (i : Nat), x]))) h2 s.heap.objs.size (.frz { cls := .type "tuple", data := .seq #[.int i tk, v] } (.tup [.int (i : Nat), x])) :=
      ⟨pr, by show 2 ≤ sizeLine; decide, [.int i tk, v], .cons ⟨_, rfl⟩ (.cons rx .nil), _, pr, rfl, _, rfl⟩
    have J := I.turnedNew (t' := tk + 1) (ch := [e, j]) (fun c o hc e => sb.extBut c o (nm hc).1 (k1 c o (nm hc).1 (nm hc).2 e)) ff (Nat.le_refl _) new
    refine ⟨.ref s.heap.objs.size, _, J, rfl, ⟨_, _, x, rfl, rfl, I.hok.fresh (Nat.le_refl _), rfl, fun l hl => by rw [I.tuple_inj hl sx]; exact ex⟩, ⟨⟨_, z2⟩, ?_⟩, fun c hc => ?_⟩
    · obtain ⟨o, e, r⟩ := c1.1
      exact ⟨o, sb.extBut _ _ ej.symm e, r⟩
    · have lt : c < s.heap.objs.size := by
        obtain ⟨o1, e1, _⟩ := st.c
        have hc : c = e ∨ c = j := by simpa using hc
        rcases hc with rfl | rfl
        · exact el
        · exact Heap.lt_size e1
      rw [upd_ne (Nat.ne_of_lt lt)]
      exact (ff c hc).1
  done := by
    rintro X rfl rfl rfl hcalm i pins s σ H E I ff st ⟨xs, sx, hend⟩
    obtain ⟨us, ru, pu, _⟩ := I.tuple sx
    obtain ⟨old, eo⟩ := st.z
    have lu := ru.length
    have es : us.toArray[i]? = none := by simp; omega
    refine wpAny_pyNext_enum_endD (draws_0 (P := X.prog) (w := X.w) (A := X.A.in1) (show X.A.in1.handled = none from I.ok.hd hcalm) es) eo ⟨st.c, pu⟩ fun h' k => ⟨rfl, I.turnedL (t' := s.toks) (ch := [e, j]) (fun c o hc e => k c o (fun q => hc (by simp [q])) e) ff⟩
  self A i s Q E st h := let ⟨_, eo⟩ := st.z; wpAny_pyIter_enum eo h
/-! ### enumerate(t) is made -/
abbrev mk1 (h : Heap) (a : Addr) : Heap := h.push { cls := .type "tuple_iterator", data := .fields #[.ref a, .int 0 0] }
abbrev mk2 (h : Heap) (a : Addr) : Heap := (mk1 h a).push { cls := .type "enumerate", data := .fields #[.none, .bool false, .ref h.objs.size, rawInt 0, .none, .none] }
theorem made_enum (a : Addr) (xs : Array Value) : Meets (Builtin.«enumerate.__new__» ⟨[.type "enumerate", .ref a], []⟩) (fun _ R s => s.heap.IsTuple a xs ∧ R (.ok (.ret (.ref (mk1 s.heap a).objs.size))) { s with heap := mk2 s.heap a }) :=
  .of_wp fun prog w A R s ⟨ta, q⟩ => by
    obtain ⟨hp, g, d, tk, os⟩ := s
    have t0 : Heap.IsTuple (Shared.heap ⟨hp, g, d, tk, os⟩) a xs := ta
    have hs := sub_enumerate
    wp_walk
    refine wpAny_stack_any fun st => wpAny_pure ?_
    split
    · rename_i c _ _ _ _ _
      generalize (c == Value.type "enumerate") = b
      cases b <;> (wp_walk using wpAny_pyIter_tuple t0; exact ⟨_, rfl, q⟩)
    · (wp_walk using wpAny_pyIter_tuple t0; exact ⟨_, rfl, q⟩)
theorem call_enumT {P : Program} {w : World} {A : Around} {E : Value → Shared → Prop} {s : Shared} {a : Addr} {xs : Array Value} {Q : Value → Shared → Prop} (ia : s.heap.IsTuple a xs)
    (fin : ∀ h', Est a (s.heap.objs.size + 1) s.heap.objs.size 0 h' → (∀ c o, s.heap.get? c = some o → h'.get? c = some o) → Q (.ref (s.heap.objs.size + 1)) { s with heap := h' }) :
    wpAny (model P w) A (call (.type "enumerate") [.ref a]) Q E s := by
  refine callType_new F.called_enumerate (by decide) (F.typeCall_enumerate_1 _) (F.newCall_enumerate_1 _) (fun obj => F.args_object_init_2 obj _) F.entry_enumerate_new (made_enum a xs) ⟨ia, ?_⟩
  have up : ∀ {h : Heap} {o : Obj} {c : Addr} {v : Obj}, h.get? c = some v → (h.push o).get? c = some v := fun e => Heap.get?_push_of_some _ e
  have n1 : (mk1 s.heap a).objs.size = s.heap.objs.size + 1 := Heap.size_push ..
  have e0 : (mk2 s.heap a).get? s.heap.objs.size = some { cls := .type "tuple_iterator", data := .fields #[.ref a, .int 0 0] } := up (Heap.get?_push_size _ rfl)
  have e1 : (mk2 s.heap a).get? (s.heap.objs.size + 1) = some { cls := .type "enumerate", data := .fields #[.none, .bool false, .ref s.heap.objs.size, rawInt 0, .none, .none] } := by
    rw [← n1]; exact Heap.get?_push_size _ rfl
  refine ⟨?_, ?_⟩
  · rw [n1]; exact ⟨_, e1, rfl⟩
  · rw [n1]
    exact fin _ ⟨⟨_, e1⟩, ⟨_, e0, rfl, rfl⟩⟩ fun c o e => up (up e)
def iEnT (K : PySem.W.Frag) (ta : TA) : TI := fun σ H R => ta σ H fun vs H1 => ∃ a xs, vs = [.ref a] ∧ SqT K H1 a xs ∧ R (ItE K a) H1
theorem pi_enT {X : Cx} {e : Expr} {ta : TA} {p pos tpos : Pos} {es : List Expr} {n : Nat} (hg : Gl X "enumerate") (hm : X.mg "enumerate" = none) (ha : PA X [e] ta) (hs : starEach [e] X.env = [(false, eval e X.env)] := by rfl) :
    PI X (.Tuple es n tpos) (.Call (.Name "enumerate" p) [e] [] pos) (iEnT X.K ta) := ⟨fun pins s σ H R I h => by
  refine Call_ (ld_blt I hg hm boot_enumerate (callWith_type1 (thn (ha.run pos pins s σ H _ I h) fun us s1 ⟨vs, H1, J, r, a, xs, ev, sa, q⟩ => ?_) hs rfl))
  subst ev
  obtain ⟨ua, rfl, ra⟩ := vals1 r
  cases ra
  obtain ⟨is, _, pa, _⟩ := J.tuple sa
  obtain ⟨oa, ga, _⟩ := id pa
  have la : a < s1.heap.objs.size := Heap.lt_size ga
  refine call_enumT (xs := is.toArray) pa fun h' st k => wpAny_pyIter_enum st.z.choose_spec ?_
  exact ⟨s1.heap.objs.size + 1, [s1.heap.objs.size + 1, s1.heap.objs.size], _, _, H1, rfl, J.kept (t' := s1.toks) k, turnE (Nat.succ_ne_self _) (Nat.ne_of_gt (Nat.lt_succ_of_lt la)), st, fun c hc => by
    have ge : s1.heap.objs.size ≤ c := by
      have hc : c = s1.heap.objs.size + 1 ∨ c = s1.heap.objs.size := by simpa using hc
      rcases hc with rfl | rfl
      · exact Nat.le_add_right _ 1
      · exact Nat.le_refl _
    exact J.fpOk ge (J.hok.fresh ge), q⟩⟩
end EM
namespace DL
open PySem PySem.Spec PyProof.Rows L2
section
variable {X : Cx} {K : KW} {F F' : Fr} {H H' : Hp} {G G' : Gp} {a : Expr} {tr : DTA} {pos p tpos : Pos} {es : List Expr} {n : Nat}
def enD (xs : List D) : List D := xs.zipIdx.map fun p => .tup [.int (p.2 : Nat), p.1]
/-- enumerate(t) of a tuple -/
def dEnT (tr : DTA) : DTI := fun δ G Q => tr δ G fun ds G1 => ∃ xs, ds = [.tup xs] ∧ Q (enD xs) (fun _ => True) G1
theorem dEnT_e {δ : DS} {Q : List D → (Gp → Prop) → Gp → Prop} : dEnT tr δ G Q = tr δ G fun ds G1 => ∃ xs, ds = [.tup xs] ∧ Q (enD xs) (fun _ => True) G1 := (rfl)
theorem qi_enT (hg : Gl X "enumerate") (hm : X.mg "enumerate" = none) (ha : QA X [a] tr) (hs : starEach [a] X.env = [(false, eval a X.env)] := by rfl) :
    QI X (.Tuple es n tpos) (.Call (.Name "enumerate" p) [a] [] pos) (dEnT tr) := PImono (EM.pi_enT hg hm ha hs) fun σ H R0 ⟨F, δ, G, Q, R, S, q, k⟩ => by
  refine ⟨F, δ, G, _, R, S, q, fun vs H1 ⟨ds, F1, G1, k1, R1, p1, xs, e, q1⟩ => ?_⟩
  subst e
  obtain ⟨v, r, rfl, ⟨a, us, rfl, ha, ra⟩, e⟩ := p1
  cases e
  refine ⟨a, us, rfl, ha.sq, k _ _ _ F1 H1 G1 k1 R1 ?_ q1⟩
  intro F2 H2 G2 k2 R2 _
  have sa := k2.sqT R1 ha.sq
  have ra2 := RepL.mono R1 k2 _ _ ra
  have la := ra2.len
  have lz : (enD xs).length = xs.length := by unfold enD; rw [List.length_map, List.length_zipIdx]
  refine ⟨fun i hi => ⟨us, sa, ?_⟩, fun i d e => ?_⟩
  · omega
  · unfold enD at e
    rw [List.getElem?_map, List.getElem?_zipIdx] at e
    cases ex : xs[i]? with
    | none => rw [ex] at e; cases e
    | some x =>
      rw [ex] at e
      cases e
      obtain ⟨u, eu, rx⟩ := ra2.get ex
      refine ⟨⟨us, u, sa, eu⟩, ?_⟩
      rintro z H3 ⟨T, ob, u', rfl, od, hT, rfl, hu⟩
      have e1 := (hu us sa).symm.trans eu
      cases e1
      have kk := keep_new (o := .frz ob (.tup [.int (i : Nat), u])) R2 hT
      exact ⟨F2, kk, rel_new R2 hT, T, _, rfl, .inl ⟨ob, upd_same, od⟩, ⟨_, _, rfl, by simp [Rep], _, _, rfl, Rep.mono R2 kk _ _ rx, rfl⟩⟩
end
end DL
set_option Elab.async false
set_option linter.all false
set_option maxRecDepth 100000
set_option maxHeartbeats 4000000
namespace DL
open PySem PySem.Spec PyProof.Rows L2
/-! ### rows, tuples, xs.append(..), a if c else b, of what may raise -/
abbrev DXA := DS → Gp → (List D → Gp → Prop) → (D → Gp → Prop) → Prop
def upXA (K : KW) (W : WX) (t : DXA) : TA := fun σ H Q0 => ∃ F δ G Q E, Rel K F H G ∧ RepS K F H δ σ ∧ t δ G Q E ∧ (∀ vs H', postA F K H G Q vs H' → Q0 vs H') ∧ ∀ cls d H', postX K F H G E cls d H' → W cls d σ H'
def XA' (X : Cx) (W : WX) (es : List Expr) (t : DXA) : Prop := PA X es (upXA (kw X) W t)
section
variable {X : Cx} {K : KW} {F F' : Fr} {H H' : Hp} {G G' : Gp} {W : WX} {a b c e : Expr} {es : List Expr} {xe xa xb : DXE} {xr : DXA} {t : DTT} {pos : Pos}
def xNil : DXA := fun _ G Q _ => Q [] G
def xCons (ta : DXE) (tr : DXA) : DXA := fun δ G Q E => ta δ G (fun x G1 => tr δ G1 (fun xs G2 => Q (x :: xs) G2) E) E
theorem postX.trans {E : D → Gp → Prop} {cls : Value} {d : Option Addr} {H2 : Hp} (k : Keep F H G F' H' G') (h : postX K F' H' G' E cls d H2) : postX K F H G E cls d H2 := by
  obtain ⟨x, F2, G2, k2, r, p, q⟩ := h
  exact ⟨x, F2, G2, k.trans k2, r, p, q⟩
theorem xa_nil : XA' X W [] xNil := PAmono pa_nil fun σ H Q ⟨F, δ, G, Q', E, R, S, q, k, _⟩ => k [] H ⟨[], F, G, .refl, R, rfl, q⟩
theorem xa_cons (ha : XE' X W e xe) (hr : XA' X W es xr) (hs : starEach (e :: es) X.env = (false, eval e X.env) :: starEach es X.env := by rfl) : XA' X W (e :: es) (xCons xe xr) := PAmono (pa_cons ha hr hs) fun σ H Q ⟨F, δ, G, Q', E, R, S, q, k, kx⟩ => by
  refine ⟨F, δ, G, _, E, R, S, q, fun v H1 ⟨d, F1, G1, k1, R1, p1, q1⟩ => ?_, kx⟩
  refine ⟨F1, δ, G1, _, E, R1, S.mono R k1, q1, fun vs H2 ⟨ds, F2, G2, k2, R2, p2, q2⟩ => ?_, fun cls d H2 h => kx cls d H2 (.trans k1 h)⟩
  exact k _ _ ⟨d :: ds, F2, G2, k1.trans k2, R2, ⟨v, vs, rfl, Rep.mono R1 k2 d v p1, p2⟩, q2⟩
def xTup (tr : DXA) : DXE := fun δ G Q E => tr δ G (fun ds G1 => ds.length ≤ sizeLine ∧ Q (.tup ds) G1) E
theorem xe_tup {x1} (h : XA' X W es xr) : XE' X W (.Tuple es x1 pos) (xTup xr) := PEmono (pe_tupB h) fun σ H Q ⟨F, δ, G, Q', E, R, S, q, k, kx⟩ =>
  ⟨F, δ, G, _, E, R, S, q, fun vs H1 ⟨ds, F1, G1, k1, R1, p1, hl, q1⟩ => ⟨by rw [p1.len]; exact hl, fin_tup R1 (fun v' H' q2 => k v' H' (.trans k1 q2)) p1 q1⟩, kx⟩
def xIfE (c : DTT) (ta tb : DXE) : DXE := fun δ G Q E => c δ G fun b G1 => dCond b (ta δ G1 Q E) (tb δ G1 Q E)
theorem xe_if (hc : QT X c t) (ha : XE' X W a xa) (hb : XE' X W b xb) : XE' X W (.IfExp c a b pos) (xIfE t xa xb) := PEmono (pe_ifExp hc ha hb) fun σ H Q ⟨F, δ, G, Q', E, R, S, q, k, kx⟩ => by
  refine ⟨F, δ, G, _, R, S, q, fun b H1 ⟨F1, G1, k1, R1, q1⟩ => ?_⟩
  cases b with
  | true => exact iteT ⟨F1, δ, G1, Q', E, R1, S.mono R k1, q1, fun v H2 h => k v H2 (.trans k1 h), fun cls d H2 h => kx cls d H2 (.trans k1 h)⟩
  | false => exact iteF ⟨F1, δ, G1, Q', E, R1, S.mono R k1, q1, fun v H2 h => k v H2 (.trans k1 h), fun cls d H2 h => kx cls d H2 (.trans k1 h)⟩
def xApp (to : DTE) (te : DXE) : DXE := fun δ G Q E => to δ G fun o G1 => optQ (refOf o) fun p => optQ (lstOf (G1 p)) fun _ => te δ G1 (fun y G2 => optQ (lstOf (G2 p)) fun ds => ds.length < sizeLine ∧ Q .non (updG G2 p (.lst (ds ++ [y])))) E
theorem upXApp {to : DTE} {σ : L2.St} {Q : VK} (h : upX K W (xApp to xe) σ H Q) : tBM K "list" rAppend (up K to) (tCons (upX K W xe) tNil) σ H Q := by
  obtain ⟨F, δ, G, Q', E, R, S, q, k, kx⟩ := h
  refine ⟨F, δ, G, _, R, S, q, fun v H1 ⟨o, F1, G1, k1, R1, p1, q1⟩ => ?_⟩
  replace q1 := optQ_ex q1
  obtain ⟨p, ep, q1⟩ := q1
  replace q1 := optQ_ex q1
  obtain ⟨es, el, q1⟩ := q1
  have eo := refOf_eq ep
  subst eo
  cases p1
  have eg := lstOf_eq el
  obtain ⟨xs, h1, h2⟩ := R1.obj p _ eg
  refine ⟨.inl ⟨rfl, _, .of h1⟩, F1, δ, G1, _, E, R1, S.mono R k1, q1, fun w H2 ⟨d, F2, G2, k2, R2, p2, q2⟩ => ?_, fun cls d H2 h => kx cls d H2 (.trans k1 h)⟩
  replace q2 := optQ_ex q2
  obtain ⟨ds, el2, q2⟩ := q2
  have eg2 := lstOf_eq el2
  obtain ⟨ys, g1, g2⟩ := R2.obj p _ eg2
  refine ⟨p, ys, w, rfl, rfl, g1, by rw [g2.len]; exact q2.1, ?_⟩
  have kk := keep_set (F := F2) (H := H2) (o := .lst (ys ++ [w])) (m' := .lst (ds ++ [d])) eg2
  exact k _ _ ⟨.non, F2, _, (k1.trans k2).trans kk, rel_set R2 eg2 ⟨_, upd_same, RepL.mono R2 kk _ _ (g2.app (.one p2))⟩, rfl, q2.2⟩
theorem xe_app {apos cpos : Pos} {to : DTE} (ho : QE X a to) (he : XE' X W e xe)
    (hbase : attributeBase a "append" X.env (eval a X.env) = eval a X.env := by rfl)
    (hline : (apos.endLine == cpos.line) = true := by rfl) (hs : starEach [e] X.env = (false, eval e X.env) :: starEach [] X.env := by rfl)
    (hfew : ((backTo cpos (starEach [e] X.env)).all (fun x => !x.1) && (backToKw cpos (keywordEach [] X.env)).all (fun x => x.1.isSome)
      && decide ([e].length + ([] : List Keyword).length + (if ([] : List Keyword).isEmpty then 0 else 1) < 30)) = true := by rfl) : XE' X W (.Call (.Attribute a "append" apos) [e] [] cpos) (xApp to xe) :=
  PEmono (pe_bm PySem.F.plainAttrs_list PySem.F.slot_list_append PySem.F.type_list_append mt_append ho (pa_cons he pa_nil hs) hbase hfew hline hs) fun _ _ _ h => upXApp h
/-! ### Unreadable(path, reason) -/
structure UnrAt (P : Program) (K : KW) (C fI cc cda : Addr) : Prop where
  txt : PySem.UX.Txt P K C fI cc cda
  ec : EC K "Unreadable" C
  kC : PySem.W.keepIn K (.ref C) = true
  exC : PySem.W.subIn K (.ref C) (.type "BaseException") = some true
  tyC : PySem.W.typeIn K (.ref C) = some (.type "type")
  ga : PySem.W.findIn K (.ref C) "__getattribute__" = some (some (.builtin "BaseException.__getattribute__"))
  gg : PySem.W.findIn K (.ref C) "__getattr__" = some none
  hd : PySem.W.hasDictIn K C = true
  te : PySem.W.exmOne K (.ref C) (.ref C) = some true
def xUnr (tr : DTA) : DXS := fun E δ G => tr δ G fun ds G1 => ∃ ns z, ds = [.tup (ns.map .int), .str z] ∧ ns.length ≤ 1000 ∧ (∀ n ∈ ns, n.natAbs.log2 < 1000) ∧ z.length ≤ 1000 ∧ E.ex (unrD ns z) δ G1
theorem RepL.ints_eq : ∀ {ns : List Int} {vs : List V}, RepL K F H (ns.map D.int) vs → vs = ns.map V.int
  | [], _, h => h
  | n :: ns, _, ⟨v, r, e, h, q⟩ => by
    have h : v = .int n := h
    rw [e, h, RepL.ints_eq q]
    rfl
theorem xs_unr {tr : DTA} {C fI cc cda : Addr} {p pos2 : Pos} {k : Nat} (T : UnrAt X.prog (kw X) C fI cc cda) (gC : X.mg "Unreadable" = some (.ref C)) (hc : X.calm = true) (tk : Takes X W) (hr : Room k X.A) (ha : QA X [a, b] tr) (hg : Gl X "Unreadable" := by rfl)
    (he : starEach (a :: [b]) X.env = (false, eval a X.env) :: starEach [b] X.env := by rfl) (hpl : (backTo pos (starEach [b] X.env)).any (·.1) = false := by rfl) :
    XS X W (.Raise (some (.Call (.Name "Unreadable" p) [a, b] [] pos)) none pos2) (xUnr tr) := PSmono (ps_raise hc tk (pmk_unr T.txt gC T.kC T.exC T.tyC hr ha hg he hpl)) fun Dn σ H ⟨F, δ, G, D', R, S, q, E⟩ => by
  refine ⟨F, δ, G, _, R, S, q, fun vs H1 ⟨ds, F1, G1, k1, R1, p1, ns, z, e1, hf, hlo, hz, q1⟩ => ?_⟩
  subst e1
  obtain ⟨v1, r1, rfl, e2, v2, r2, rfl, e3, e4⟩ := p1
  cases e4
  obtain ⟨th, xs, rfl, hb, hx⟩ := e2
  have ex := RepL.ints_eq hx
  subst ex
  obtain ⟨e3, oz⟩ : v2 = .str z ∧ sOk z = true := e3
  subst e3
  refine ⟨th, ns, z, rfl, hb.sq, hf, hlo, hz, fun d hd => ?_⟩
  have kk := keep_new (o := .xd (unrF th z)) R1 hd
  refine E.ex _ _ σ _ ⟨_, δ, F1, G1, k1.trans kk, rel_new R1 hd, .inr (.inr ⟨C, ns, z, d, th, rfl, rfl, T.ec, rfl, upd_same, ?_, oz⟩), (S.mono R k1).mono R1 kk, q1⟩
  exact hb.elim (fun ⟨o, h, dn⟩ => .inl ⟨o, (kk.k th _ (R1.off h (fun _ z => by cases z) (fun _ z => by cases z) (fun _ _ _ z => by cases z)) h).1, dn⟩) .inr
/-- try: .. except Unreadable as e: return (text, e.path, e.reason) -/
def dTryUnr (n : Nat) (lit : Str) (t : DXS) : DTS := fun E δ G => t { nx := E.nx, rt := E.rt, bk := E.bk, ct := E.ct, ex := fun x δ1 G1 => n < δ1.length ∧ ∃ ns z, x = unrD ns z ∧ E.rt (.tup [.str lit, .tup (ns.map .int), .str z]) G1 } δ G
theorem qs_tryUnr {C fI cc cda : Addr} {n : Str} {i : Nat} {body : List Stmt} {np p1 p2 p3 p4 p5 p6 p7 p8 : Pos} {j1 j2 : Nat} {lit : String} {t : DXS} (T : UnrAt X.prog (kw X) C fI cc cda) (gC : X.mg "Unreadable" = some (.ref C)) (hs : X.stack = X.env :: X.outer) (hf : X.env.frame = some X.env.locals) (hN : X.N.Nodup) (hi : X.N[i]? = some n) (hln : X.env.kindOf n = some .local) (hg : Gl X "Unreadable")
    (hd : (n == ("__debug__" : Str)) = false) (hcd : (n == ("__classdict__" : Str)) = false)
    (hb : ∀ (W : WX) (pn : List (Addr × Obj)) (xe : Value → Shared → Prop), Takes (X.tr pn xe) W → PassesOwn (model X.prog X.w) X.A X.env xe → XSs (X.tr pn xe) W body t) :
    QS X (.Try body [.ExceptHandler (some (.Name "Unreadable" np)) (some n) [.Return (some (.Tuple [.Constant (.str (Str.ofString lit)) j1 p1, .Attribute (.Name n p2) "path" p3, .Attribute (.Name n p4) "reason" p5] j2 p6)) p7] p8] [] [] pos) (dTryUnr i (Str.ofString lit) t) := by
  refine PSmono (ps_try_as (Wout := fun _ _ _ _ => False) (tb := fun W => upXS (kw X) W t) (ts := fun a cls d => tRet (tTupB (tCons (tC (.str (Str.ofString lit))) (tCons (tFldX C a cls d "path" (tVar i)) (tCons (tFldX C a cls d "reason" (tVar i)) tNil))))) hs hf hN hi hln ⟨hg, by decide, .inl gC⟩ takes0 hb ?_) ?_
  · intro a oe cls d pn hz hfd
    exact pss_one (ps_ret (pe_tupB (pa_cons pe_str (pa_cons (pe_fldX T.ga T.gg T.exC T.hd T.txt.n1 hz hfd (pe_var hi (Or.inl hln) hd hcd)) (pa_cons (pe_fldX T.ga T.gg T.exC T.hd T.txt.n2 hz hfd (pe_var hi (Or.inl hln) hd hcd)) pa_nil)))))
  · intro Dn σ H ⟨F, δ, G, D', R, S, q, E⟩
    refine ⟨F, δ, G, _, R, S, q, ⟨E.nx, E.rt, E.bk, E.ct, fun cls d σ' H' ⟨x, δ', F1, G1, k1, R1, rx, S1, iv⟩ => ?_⟩⟩
    obtain ⟨hln1, iv, z, ex, q1⟩ := iv
    rcases rx with ⟨C', i', z', dd, e1, _⟩ | ⟨C', nm, e1, _⟩ | ⟨C', ns', z', dd, th, e1, e2, e3, e4, e5, e6, e8⟩
    · rw [ex] at e1
      cases e1
    · rw [ex] at e1
      cases e1
    · rw [ex] at e1
      have e7 : iv.map D.int = ns'.map D.int ∧ z' = z := by
        unfold unrD at e1
        simp only [D.tup.injEq, List.cons.injEq, D.str.injEq, and_true, true_and] at e1
        exact ⟨e1.1, e1.2.symm⟩
      obtain ⟨e7, rfl⟩ := e7
      have eC : C' = C := by
        have := e3.symm.trans T.ec
        simpa using this
      subst eC e2 e4
      have hil : i < σ'.length := by
        have h2 := S1.len
        omega
      refine ⟨true, T.te, fun _ a ha => ?_, fun h => by cases h⟩
      have sl : (σ'.set i (some (V.ref a)))[i]? = some (some (.ref a)) := List.getElem?_set_self hil
      refine ⟨.ref a, sl, rfl, rfl, dd, _, .ref th, rfl, e5, ?_, ?_⟩
      · unfold unrF
        rw [lookup_put, if_neg (by decide), lookup_put, if_pos rfl]
      refine ⟨.ref a, sl, rfl, rfl, dd, _, .str z', rfl, e5, ?_, ?_⟩
      · unfold unrF
        rw [lookup_put, if_pos rfl]
      refine ⟨by show 3 ≤ sizeLine; decide, fun p ob hod hp => ?_⟩
      have kk := keep_new (o := .frz ob (.tup [.str (Str.ofString lit), .ref th, .str z'])) R1 hp
      refine E.rt _ _ ⟨.tup [.str (Str.ofString lit), .tup (iv.map .int), .str z'], F1, G1, k1.trans kk, rel_new R1 hp, ⟨p, _, rfl, .inl ⟨ob, upd_same, hod⟩, ⟨_, _, rfl, ⟨rfl, sOk_of lit⟩, _, _, rfl, ⟨th, _, rfl, ?_, by rw [e7]; exact RepL.ints ns'⟩, _, _, rfl, ⟨rfl, e8⟩, rfl⟩⟩, q1⟩
      exact e6.elim (fun ⟨o, h, dn⟩ => .inl ⟨o, (kk.k th _ (R1.off h (fun _ z => by cases z) (fun _ z => by cases z) (fun _ _ _ z => by cases z)) h).1, dn⟩) .inr
end
section
variable {t : DTT} {xe xa xb : DXE} {xr : DXA} {tr : DTA} {ts : DXS} {E : XEnds} {E2 : DEnds} {δ : DS} {G : Gp} {Q : D → Gp → Prop} {QL : List D → Gp → Prop} {X2 : D → Gp → Prop} {te : DTE}
theorem xNil_e : xNil δ G QL X2 = QL [] G := (rfl)
theorem xCons_e : xCons xe xr δ G QL X2 = xe δ G (fun x G1 => xr δ G1 (fun xs G2 => QL (x :: xs) G2) X2) X2 := (rfl)
theorem xTup_e : xTup xr δ G Q X2 = xr δ G (fun ds G1 => ds.length ≤ sizeLine ∧ Q (.tup ds) G1) X2 := (rfl)
theorem xIfE_e : xIfE t xa xb δ G Q X2 = t δ G fun b G1 => dCond b (xa δ G1 Q X2) (xb δ G1 Q X2) := (rfl)
theorem xApp_e : xApp te xe δ G Q X2 = te δ G fun o G1 => optQ (refOf o) fun p => optQ (lstOf (G1 p)) fun _ => xe δ G1 (fun y G2 => optQ (lstOf (G2 p)) fun ds => ds.length < sizeLine ∧ Q .non (updG G2 p (.lst (ds ++ [y])))) X2 := (rfl)
theorem xUnr_e : xUnr tr E δ G = tr δ G fun ds G1 => ∃ ns z, ds = [.tup (ns.map .int), .str z] ∧ ns.length ≤ 1000 ∧ (∀ n ∈ ns, n.natAbs.log2 < 1000) ∧ z.length ≤ 1000 ∧ E.ex (unrD ns z) δ G1 := (rfl)
theorem dTryUnr_e {n : Nat} {lit : Str} : dTryUnr n lit ts E2 δ G = ts { nx := E2.nx, rt := E2.rt, bk := E2.bk, ct := E2.ct, ex := fun x δ1 G1 => n < δ1.length ∧ ∃ ns z, x = unrD ns z ∧ E2.rt (.tup [.str lit, .tup (ns.map .int), .str z]) G1 } δ G := (rfl)
end
end DL
set_option Elab.async false
set_option linter.all false
set_option maxRecDepth 100000
set_option maxHeartbeats 4000000
namespace DL
open PySem PySem.Spec PyProof.Rows L2
/-! ### a caught error is asked for its kin -/
/-- the error's class nm at C, kin of the class at B -/
structure KinAt (K : KW) (nm : Str) (C B : Addr) : Prop where
  ec : EC K nm C
  te : PySem.W.exmOne K (.ref C) (.ref B) = some true
  hcl : (PySem.W.clsIn K C).isSome = true
  ga : PySem.W.findIn K (.ref C) "__getattribute__" = some (some (.builtin "BaseException.__getattribute__"))
  gg : PySem.W.findIn K (.ref C) "__getattr__" = some none
  exC : PySem.W.subIn K (.ref C) (.type "BaseException") = some true
  cl : PySem.W.findIn K (.ref C) "__class__" = some (some (.builtin "object.__class__"))
  sp : PySem.W.specialIn K (.builtin "object.__class__") "__get__" = some (some (.builtin "getset_descriptor.__get__"))
  tk : PySem.W.takesIn K (.builtin "object.__class__") = some true
  mo : PySem.W.mroIn K C (.type "object") = some true
theorem kin_mk {K : KW} {nm : Str} {C B : Addr} (ec : EC K nm C) (eB : PySem.W.subIn K (.ref B) (.type "BaseException") = some true) (jB : PySem.W.isClsIn K B = true) (tB : PySem.W.typeIn K (.ref B) = some (.type "type")) (sC : PySem.W.subIn K (.ref C) (.ref B) = some true)
    (hcl : (PySem.W.clsIn K C).isSome = true) (ga : PySem.W.findIn K (.ref C) "__getattribute__" = some (some (.builtin "BaseException.__getattribute__"))) (gg : PySem.W.findIn K (.ref C) "__getattr__" = some none) (exC : PySem.W.subIn K (.ref C) (.type "BaseException") = some true)
    (cl : PySem.W.findIn K (.ref C) "__class__" = some (some (.builtin "object.__class__"))) (sp : PySem.W.specialIn K (.builtin "object.__class__") "__get__" = some (some (.builtin "getset_descriptor.__get__"))) (tk : PySem.W.takesIn K (.builtin "object.__class__") = some true) (mo : PySem.W.mroIn K C (.type "object") = some true) : KinAt K nm C B :=
  { ec := ec, hcl := hcl, ga := ga, gg := gg, exC := exC, cl := cl, sp := sp, tk := tk, mo := mo, te := by
      have e1 : (PySem.W.subIn K (.ref B) (.type "BaseException") == some true) = true := by rw [eB] <;> rfl
      have e2 : ((PySem.W.clsIn K B).isSome && PySem.W.typeIn K (.ref B) == some (.type "type")) = true := by
        have e3 : (PySem.W.clsIn K B).isSome = true := jB
        rw [e3, tB] <;> rfl
      have go : PySem.W.exmOne K (.ref C) (.ref B) = (if (PySem.W.subIn K (.ref B) (.type "BaseException") == some true) = true then
          (if ((PySem.W.clsIn K B).isSome && PySem.W.typeIn K (.ref B) == some (.type "type")) = true then PySem.W.subIn K (.ref C) (.ref B) else none) else none) := rfl
      rw [go, if_pos e1, if_pos e2]
      exact sC }
def HasD (d : Option Addr) (H : Hp) : Prop := d = none ∨ ∃ dd fs, d = some dd ∧ H dd = some (.xd fs)
/-- isinstance(e, c) of the caught error e -/
def rIsiE (K : KW) (C a : Addr) (d : Option Addr) : List V → Hp → VK → Prop := fun xs H Q => ∃ (c : V) (u : Value) (b : Bool), xs = [.ref a, c] ∧ ClsV c u ∧ HasD d H ∧ PySem.W.kitOne K (.ref C) u = some b ∧ Q (.bl b) H
section
variable {X : Cx} {K : KW} {C B a : Addr} {oe : Obj} {d : Option Addr} {pn : List (Addr × Obj)} {nm : Str} {e e2 : Expr} {i : Nat} {pos p p2 : Pos} {x n : Str} {b b2 : Bool}
theorem call_isiE (T : KinAt (kw X) nm C B) (hz : Zc (.ref C) d oe) (hf : ∃ vs, oe.data = .fields vs) : CallR (X.suite a ((a, oe) :: pn)) (.builtin "isinstance") (rIsiE (kw X) C a d) := by
  intro pins s σ H xs us Q I r h
  obtain ⟨c, u, b, rfl, k, hd, e, q⟩ := h
  obtain ⟨u1, u2, rfl, r1, r2⟩ := vals2 r
  have e2 := k.eq r2
  subst e2
  cases (show u1 = Value.ref a from r1)
  obtain ⟨ha, _⟩ := I.pin (a, oe) (List.mem_append_left _ List.mem_cons_self)
  obtain ⟨vs, hdat⟩ := hf
  have J : ∃ od, PySem.W.InstAt s.heap a oe C od := by
    rcases hd with rfl | ⟨dd, fs, rfl, ea⟩
    · exact ⟨none, ha, hz.1, by unfold PySem.W.notCls; rw [hdat] <;> rfl, by rw [hz.2]; trivial⟩
    · have hx : ObjOk X.prog X.w H s.heap dd (.xd fs) := I.hok dd _ ea
      obtain ⟨mA, hns, hr⟩ := hx
      obtain ⟨od, ho, hl⟩ := lookIn_ns hns
      exact ⟨some od, ha, hz.1, by unfold PySem.W.notCls; rw [hdat] <;> rfl, by rw [hz.2]; exact ho⟩
  obtain ⟨od, J⟩ := J
  exact PySem.W.kia_one (PySem.W.kitx_exc T.hcl T.ga T.gg T.exC T.cl T.sp T.tk T.mo) I.kIn J e (fun z => nomatch z) fun tk => ⟨.bl b, H, I.tok tk, rfl, q⟩
/-- an answer that the caught error alone decides -/
def tErrB (C a : Addr) (cls : Value) (d : Option Addr) (b : Bool) (i : Nat) : TE := fun σ H Q => σ[i]? = some (some (.ref a)) ∧ cls = .ref C ∧ HasD d H ∧ Q (.bl b) H
theorem pe_isiTy {T : String} {cls : Value} (k : KinAt (kw X) nm C B) (hz : Zc cls d oe) (hf : ∃ vs, oe.data = .fields vs) (hi : X.N[i]? = some n) (hln : X.env.kindOf n = some .local) (hd : (n == ("__debug__" : Str)) = false) (hcd : (n == ("__classdict__" : Str)) = false)
    (hg : Gl X "isinstance") (hm : X.mg "isinstance" = none) (hg2 : Gl X x) (hm2 : X.mg x = none) (hv2 : bootBuiltins x = some (.type T)) (hk : PySem.W.kitOne (kw X) (.ref C) (.type T) = some b) (hn2 : x ≠ "__name__" := by decide) (hdb2 : (x == ("__debug__" : Str)) = false := by decide)
    (he : starEach [.Name n p, .Name x p2] X.env = (false, eval (.Name n p) X.env) :: starEach [.Name x p2] X.env := by rfl) (he2 : starEach [.Name x p2] X.env = (false, eval (.Name x p2) X.env) :: starEach [] X.env := by rfl) (hpl : (backTo pos (starEach [.Name x p2] X.env)).any (·.1) = false := by rfl) {p0 : Pos} :
    PE (X.suite a ((a, oe) :: pn)) (.Call (.Name "isinstance" p0) [.Name n p, .Name x p2] [] pos) (tErrB C a cls d b i) := by
  have go : cls = .ref C → PE (X.suite a ((a, oe) :: pn)) (.Call (.Name "isinstance" p0) [.Name n p, .Name x p2] [] pos) (tErrB C a cls d b i) := fun ec => by
    subst ec
    exact PEmono (pe_callB (X := X.suite a ((a, oe) :: pn)) (call_isiE k hz hf) hg hm boot_isinstance (pa_cons (pe_var (X := X.suite a ((a, oe) :: pn)) hi (Or.inl hln) hd hcd) (pa_cons (pe_bltn (X := X.suite a ((a, oe) :: pn)) (v := .ty T) hg2 hm2 hv2 rfl hn2 hdb2) pa_nil he2) he) (by decide) (by decide) he hpl) fun σ H Q ⟨h1, _, h2, q⟩ =>
      ⟨.ref a, h1, .ty T, .type T, b, rfl, .ty T, h2, hk, q⟩
  by_cases ec : cls = .ref C
  · exact go ec
  · exact ⟨fun pins s σ H Q I h => absurd h.2.1 ec⟩
theorem pe_isiOwn {C2 : Addr} {cls : Value} (k : KinAt (kw X) nm C B) (hz : Zc cls d oe) (hf : ∃ vs, oe.data = .fields vs) (hi : X.N[i]? = some n) (hln : X.env.kindOf n = some .local) (hd : (n == ("__debug__" : Str)) = false) (hcd : (n == ("__classdict__" : Str)) = false)
    (hg : Gl X "isinstance") (hm : X.mg "isinstance" = none) (hg2 : Gl X x) (hm2 : X.mg x = some (.ref C2)) (hk : PySem.W.kitOne (kw X) (.ref C) (.ref C2) = some b) (hdb2 : (x == ("__debug__" : Str)) = false := by decide)
    (he : starEach [.Name n p, .Name x p2] X.env = (false, eval (.Name n p) X.env) :: starEach [.Name x p2] X.env := by rfl) (he2 : starEach [.Name x p2] X.env = (false, eval (.Name x p2) X.env) :: starEach [] X.env := by rfl) (hpl : (backTo pos (starEach [.Name x p2] X.env)).any (·.1) = false := by rfl) {p0 : Pos} :
    PE (X.suite a ((a, oe) :: pn)) (.Call (.Name "isinstance" p0) [.Name n p, .Name x p2] [] pos) (tErrB C a cls d b i) := by
  have go : cls = .ref C → PE (X.suite a ((a, oe) :: pn)) (.Call (.Name "isinstance" p0) [.Name n p, .Name x p2] [] pos) (tErrB C a cls d b i) := fun ec => by
    subst ec
    exact PEmono (pe_callB (X := X.suite a ((a, oe) :: pn)) (call_isiE k hz hf) hg hm boot_isinstance (pa_cons (pe_var (X := X.suite a ((a, oe) :: pn)) hi (Or.inl hln) hd hcd) (pa_cons (pe_glob (X := X.suite a ((a, oe) :: pn)) (v := .ref C2) hg2 hm2 rfl hdb2) pa_nil he2) he) (by decide) (by decide) he hpl) fun σ H Q ⟨h1, _, h2, q⟩ =>
      ⟨.ref a, h1, .ref C2, .ref C2, b, rfl, .own C2, h2, hk, q⟩
  by_cases ec : cls = .ref C
  · exact go ec
  · exact ⟨fun pins s σ H Q I h => absurd h.2.1 ec⟩
theorem pe_errNot {cls : Value} (h : PE (X.suite a ((a, oe) :: pn)) e (tErrB C a cls d b i)) : PE (X.suite a ((a, oe) :: pn)) (.UnaryOp .Not e pos) (tErrB C a cls d (!b) i) :=
  PEmono (pe_not h) fun _ _ _ ⟨h1, h2, h3, q⟩ => ⟨h1, h2, h3, b, rfl, q⟩
theorem pe_errAnd {cls : Value} (h : PE (X.suite a ((a, oe) :: pn)) e (tErrB C a cls d b i)) (h' : PE (X.suite a ((a, oe) :: pn)) e2 (tErrB C a cls d b2 i)) : PE (X.suite a ((a, oe) :: pn)) (.BoolOp .And [e, e2] pos) (tErrB C a cls d (b && b2) i) :=
  PEmono (pe_and h (pe_one h')) fun σ H Q ⟨h1, h2, h3, q⟩ => ⟨h1, h2, h3, b, rfl, by
    cases b with
    | true => rw [if_pos rfl]; exact ⟨h1, h2, h3, q⟩
    | false => rw [if_neg Bool.false_ne_true]; exact q⟩
def errNm : D → Option Str
  | .tup (.str s :: _) => some s
  | _ => none
theorem RepX.named {H : Hp} {x : D} {cls : Value} (r : RepX K H x cls d) (h : errNm x = some nm) (ec : EC K nm C) : cls = .ref C ∧ HasD d H := by
  have one : ∀ {C' : Addr} {nm' : Str}, nm' = nm → EC K nm' C' → C' = C := fun {C' nm'} e ec' => by
    subst e
    have := ec'.symm.trans ec
    simpa using this
  rcases r with ⟨C', _, _, dd, rfl, e2, e3, e4, e5, _⟩ | ⟨C', nm', rfl, e2, e3, e4⟩ | ⟨C', _, _, dd, _, rfl, e2, e3, e4, e5, _⟩
  · have := one (Option.some.inj h) e3
    subst this
    exact ⟨e2, .inr ⟨dd, _, e4, e5⟩⟩
  · have := one (Option.some.inj h) e3
    subst this
    exact ⟨e2, .inl e4⟩
  · have := one (Option.some.inj h) e3
    subst this
    exact ⟨e2, .inr ⟨dd, _, e4, e5⟩⟩
/-- try: .. except BridgeError as e: return what the error's class decides -/
def dTryIs (n : Nat) (nm : Str) (b : Bool) (t : DXS) : DTS := fun E δ G => t { nx := E.nx, rt := E.rt, bk := E.bk, ct := E.ct, ex := fun x δ1 G1 => n < δ1.length ∧ errNm x = some nm ∧ E.rt (.bl b) G1 } δ G
theorem qs_tryIs {bn : Str} {body : List Stmt} {np p1 p2 : Pos} {ex : Expr} {t : DXS} (T : KinAt (kw X) nm C B) (gB : X.mg bn = some (.ref B)) (hs : X.stack = X.env :: X.outer) (hf : X.env.frame = some X.env.locals) (hN : X.N.Nodup) (hi : X.N[i]? = some n) (hln : X.env.kindOf n = some .local) (hg : Gl X bn) (hbn : (bn == ("__debug__" : Str)) = false)
    (hx : ∀ (a : Addr) (oe : Obj) (cls : Value) (d : Option Addr) (pn : List (Addr × Obj)), Zc cls d oe → (∃ vs, oe.data = .fields vs) → PE (X.suite a ((a, oe) :: pn)) ex (tErrB C a cls d b i))
    (hb : ∀ (W : WX) (pn : List (Addr × Obj)) (xe : Value → Shared → Prop), Takes (X.tr pn xe) W → PassesOwn (model X.prog X.w) X.A X.env xe → XSs (X.tr pn xe) W body t) :
    QS X (.Try body [.ExceptHandler (some (.Name bn np)) (some n) [.Return (some ex) p1] p2] [] [] pos) (dTryIs i nm b t) := by
  refine PSmono (ps_try_as (Wout := fun _ _ _ _ => False) (tb := fun W => upXS (kw X) W t) (ts := fun a cls d => tRet (tErrB C a cls d b i)) hs hf hN hi hln ⟨hg, hbn, .inl gB⟩ takes0 hb fun a oe cls d pn hz hfd => pss_one (ps_ret (hx a oe cls d pn hz hfd))) ?_
  intro Dn σ H ⟨F, δ, G, D', R, S, q, E⟩
  refine ⟨F, δ, G, _, R, S, q, ⟨E.nx, E.rt, E.bk, E.ct, fun cls d σ' H' ⟨x, δ', F1, G1, k1, R1, rx, S1, hl, hn, q1⟩ => ?_⟩⟩
  obtain ⟨ec, hd⟩ := rx.named hn T.ec
  subst ec
  have hil : i < σ'.length := by
    have h2 := S1.len
    omega
  refine ⟨true, T.te, fun _ a ha => ?_, fun h => by cases h⟩
  have sl : (σ'.set i (some (V.ref a)))[i]? = some (some (.ref a)) := List.getElem?_set_self hil
  exact ⟨sl, rfl, hd, E.rt _ _ ⟨.bl b, F1, G1, k1, R1, rfl, q1⟩⟩
end
theorem dTryIs_e {n : Nat} {nm : Str} {b : Bool} {ts : DXS} {E2 : DEnds} {δ : DS} {G : Gp} : dTryIs n nm b ts E2 δ G = ts { nx := E2.nx, rt := E2.rt, bk := E2.bk, ct := E2.ct, ex := fun x δ1 G1 => n < δ1.length ∧ errNm x = some nm ∧ E2.rt (.bl b) G1 } δ G := (rfl)
/-! ### raise of a plain own error, of facts -/
structure PlnAt (K : KW) (nm : Str) (C : Addr) : Prop where
  ec : EC K nm C
  q : PySem.W.excIn K C [.type "ValueError", .type "Exception", .type "BaseException", .type "object"] "ValueError.__new__" = true
  kC : PySem.W.keepIn K (.ref C) = true
  exC : PySem.W.subIn K (.ref C) (.type "BaseException") = some true
  tyC : PySem.W.typeIn K (.ref C) = some (.type "type")
theorem xs_pln {X : Cx} {W : WX} {pos pos2 p : Pos} {a : Expr} {tr : DTA} {nm : Str} {C : Addr} (T : PlnAt (kw X) nm C) (gC : X.mg nm = some (.ref C)) (hc : X.calm = true) (tk : Takes X W) (ha : QA X [a] tr) (hg : Gl X nm := by rfl) (hd : (nm == ("__debug__" : Str)) = false := by decide)
    (he : starEach (a :: []) X.env = (false, eval a X.env) :: starEach [] X.env := by rfl) (hpl : (backTo pos (starEach [] X.env)).any (·.1) = false := by rfl) :
    XS X W (.Raise (some (.Call (.Name nm p) [a] [] pos)) none pos2) (xPlain nm tr) :=
  xs_plain PySem.F.excBase_ValueError T.q gC T.ec T.kC (raises_own T.exC T.tyC) hc tk ha hg hd he hpl
end DL
set_option Elab.async false
set_option linter.all false
set_option maxRecDepth 100000
set_option maxHeartbeats 4000000
namespace L2
open PySem PySem.Spec PyProof.Rows
/-! ### max of a list of ints -/
def rMaxI (K : PySem.W.Frag) : List V → Hp → VK → Prop := fun vs H Q => ∃ (a : Addr) (ns : List Int), vs = [V.ref a] ∧ SqL K H a (ns.map V.int) ∧ ns ≠ [] ∧ ∀ M ∈ ns, (∀ x ∈ ns, x ≤ M) → Q (.int M) H
theorem call_maxI {X : Cx} (hc : X.calm = true) : CallR X (.builtin "max") (rMaxI X.K) := by
  intro pins s σ H vs us Q I r h
  obtain ⟨a, ns, rfl, hs, ne, q⟩ := h
  obtain ⟨its, rv, hl, hz⟩ := I.list hs
  rw [Vals.ref1 r]
  have hi := rv.ints
  obtain ⟨xs, e⟩ := hi.allInts.items
  have hns : ns = xs.toList.map (·.1) := by rw [← hi.numsOf, ← nums_intItems, ← e]
  have hsz : 0 < xs.size := by
    have h3 : 0 < ns.length := List.length_pos_iff.mpr ne
    rw [hns, List.length_map, Array.length_toList] at h3
    exact h3
  have hl' := hl.isList
  rw [e] at hl'
  refine max_intList (I.ok.hd hc) hl' hsz fun v h' tk hv hk => ?_
  obtain ⟨t, rfl⟩ := intItems_at hv
  obtain ⟨h1, h2⟩ := argBest_gt (numAt xs) (xs.size - 1)
  refine ⟨.int _, H, I.kept hk, ⟨t, rfl⟩, q _ ?_ fun b hb => ?_⟩
  · rw [hns, numAt_eq]
    exact getD_mem (by rw [List.length_map, Array.length_toList]; omega)
  · rw [hns] at hb
    obtain ⟨j, hj, rfl⟩ := mem_getD hb
    rw [List.length_map, Array.length_toList] at hj
    rw [← numAt_eq]
    exact h2 j (by omega)
end L2
namespace DL
open PySem PySem.Spec PyProof.Rows L2
def refL : List D → Gp → Option (List D)
  | [.ref a], G => lstOf (G a)
  | _, _ => none
def dMaxI : RA := fun ds G Q => optQ ((refL ds G).bind intsOf) fun ns => ns ≠ [] ∧ ∀ M ∈ ns, (∀ x ∈ ns, x ≤ M) → Q (.int M) G
theorem refL_1 {a : Addr} {G : Gp} : refL [.ref a] G = lstOf (G a) := (rfl)
theorem dMaxI_e {ds : List D} {G : Gp} {Q : D → Gp → Prop} : dMaxI ds G Q = optQ ((refL ds G).bind intsOf) fun ns => ns ≠ [] ∧ ∀ M ∈ ns, (∀ x ∈ ns, x ≤ M) → Q (.int M) G := (rfl)
theorem lift_maxI {K : KW} : LiftA K (rMaxI K) dMaxI := by
  intro F H G ds vs Q Q0 R rd q k
  replace q := optQ_ex q
  obtain ⟨ns, hz, ne, q⟩ := q
  rw [Option.bind_eq_some_iff] at hz
  obtain ⟨xs, hz, hn⟩ := hz
  unfold refL at hz
  split at hz
  · rename_i a
    obtain ⟨v, rfl, r⟩ := rl1 rd
    have r : v = .ref a := r
    subst r
    obtain ⟨ys, h1, hr⟩ := R.obj a _ (lstOf_eq hz)
    have ei := intsOf_rep hr hn
    subst ei
    exact ⟨a, ns, rfl, .of h1, ne, fun M h1 h2 => fin R k (q M h1 h2) rfl⟩
  · cases hz
end DL
set_option Elab.async false
set_option linter.all false
set_option maxRecDepth 100000
set_option maxHeartbeats 4000000
namespace DL
open PySem PySem.Spec PyProof.Rows L2
/-! ### tests that may raise, calls with arguments that may raise -/
abbrev DXT := DS → Gp → (Bool → Gp → Prop) → (D → Gp → Prop) → Prop
def upXT (K : KW) (W : WX) (t : DXT) : TT := fun σ H Q0 => ∃ F δ G Q E, Rel K F H G ∧ RepS K F H δ σ ∧ t δ G Q E ∧ (∀ b H', postT F K H G Q b H' → Q0 b H') ∧ ∀ cls d H', postX K F H G E cls d H' → W cls d σ H'
def XT' (X : Cx) (W : WX) (e : Expr) (t : DXT) : Prop := PT X e (upXT (kw X) W t)
def XW' (X : Cx) (W : WX) (e : Expr) (t : DXT) : Prop := PW X e (upXT (kw X) W t)
section
variable {X : Cx} {K : KW} {F F' : Fr} {H H' : Hp} {G G' : Gp} {W : WX} {a b c e : Expr} {es rest : List Expr} {xe : DXE} {xr : DXA} {t u : DXT} {ts us : DXS} {pos : Pos}
def xtOf (t : DTT) : DXT := fun δ G Q _ => t δ G Q
theorem xt_of {t : DTT} (h : QT X e t) : XT' X W e (xtOf t) := PTmono h fun σ H Q ⟨F, δ, G, Q', E', R, S, q, k, _⟩ => ⟨F, δ, G, Q', R, S, q, k⟩
def xTruth (t : DXE) : DXT := fun δ G Q E => t δ G (fun x G1 => optQ (truthD x G1) fun k => Q k G1) E
theorem xt_truth (ha : XE' X W a xe) (he : ∀ whole, isTrue a X.env whole = (do let v ← whole; standAt a.pos; holding [v] (truthy v)) := by intro _; rfl) : XT' X W a (xTruth xe) := PTmono (pt_truth ha he) fun σ H Q ⟨F, δ, G, Q', E, R, S, q, k, kx⟩ => by
  refine ⟨F, δ, G, _, E, R, S, q, fun v H1 ⟨d, F1, G1, k1, R1, p1, q1⟩ => ?_, kx⟩
  replace q1 := optQ_ex q1
  obtain ⟨b, e1, q1⟩ := q1
  exact ⟨b, truth_ok R1 p1 e1, k b H1 ⟨F1, G1, k1, R1, q1⟩⟩
def xNotT (t : DXT) : DXT := fun δ G Q E => t δ G (fun c G1 => Q (!c) G1) E
theorem xt_not (ha : XT' X W a t) : XT' X W (.UnaryOp .Not a pos) (xNotT t) := PTmono (pt_not ha) fun σ H Q ⟨F, δ, G, Q', E, R, S, q, k, kx⟩ =>
  ⟨F, δ, G, _, E, R, S, q, fun b H1 ⟨F1, G1, k1, R1, q1⟩ => k _ _ ⟨F1, G1, k1, R1, q1⟩, kx⟩
def xOrT (t u : DXT) : DXT := fun δ G Q E => t δ G (fun c G1 => dCond c (Q true G1) (u δ G1 Q E)) E
theorem xw_or1 (ha : XT' X W a t) : XW' X W (.BoolOp .Or [a] pos) t := pw_or1 ha
theorem xw_or (ha : XT' X W a t) (hb : XW' X W (.BoolOp .Or (b :: rest) pos) u) : XW' X W (.BoolOp .Or (a :: b :: rest) pos) (xOrT t u) := PWmono (pw_or ha hb) fun σ H Q ⟨F, δ, G, Q', E, R, S, q, k, kx⟩ => by
  refine ⟨F, δ, G, _, E, R, S, q, fun b H1 ⟨F1, G1, k1, R1, q1⟩ => ?_, kx⟩
  cases b with
  | false => exact ⟨F1, δ, G1, Q', E, R1, S.mono R k1, q1, fun b H2 ⟨F2, G2, k2, R2, q2⟩ => k b H2 ⟨F2, G2, k1.trans k2, R2, q2⟩, fun cls d H2 h => kx cls d H2 (.trans k1 h)⟩
  | true => exact k _ _ ⟨F1, G1, k1, R1, q1⟩
theorem xt_w (h : XW' X W e t) : XT' X W e t := PW.pt h
def xIfX (c : DXT) (t u : DXS) : DXS := fun E δ G => c δ G (fun b G1 => dCond b (t E δ G1) (u E δ G1)) (fun x G1 => E.ex x δ G1)
theorem xs_ifX {sa sb : List Stmt} (hc : XT' X W c t) (ha : XSs X W sa ts) (hb : XSs X W sb us) : XS X W (.If c sa sb pos) (xIfX t ts us) := PSmono (ps_if hc ha hb) fun D σ H ⟨F, δ, G, D', R, S, q, E⟩ => by
  refine ⟨F, δ, G, _, _, R, S, q, fun b H1 ⟨F1, G1, k1, R1, q1⟩ => ?_, fun cls d H1 ⟨x, F1, G1, k1, R1, r1, q1⟩ => E.ex cls d σ H1 ⟨x, δ, F1, G1, k1, R1, r1, S.mono R k1, q1⟩⟩
  cases b with
  | true => exact ⟨F1, δ, G1, D', R1, S.mono R k1, q1, E.step k1⟩
  | false => exact ⟨F1, δ, G1, D', R1, S.mono R k1, q1, E.step k1⟩
def xCallA (sp : DSp) (xr : DXA) : DXE := fun δ G Q E => xr δ G (fun ds G1 => spQ sp ds G1 Q) E
theorem xe_callA {j k : Nat} {ps : List Str} {sp : DSp} {x : Str} {p : Pos} (c : Cal X.prog X.w (kw X) X.mg X.base k x ps sp) (hr : Room j X.A) (hk : k ≤ j) (hg : Gl X x)
    (ha : XA' X W (e :: es) xr) (hdb : (x == ("__debug__" : Str)) = false := by decide) (he : starEach (e :: es) X.env = (false, eval e X.env) :: starEach es X.env := by rfl) (hpl : (backTo pos (starEach es X.env)).any (·.1) = false := by rfl) :
    XE' X W (.Call (.Name x p) (e :: es) [] pos) (xCallA sp xr) := by
  obtain ⟨f, fd, Fn, hm, hkp, hb⟩ := c
  refine PEmono (pe_call Fn (hr.mono hk) hg hm hkp hb .nil pass0 ha hdb he hpl) fun σ H Q ⟨F, δ, G, Q', E, R, S, q, k, kx⟩ => ?_
  refine ⟨F, δ, G, _, E, R, S, q, fun vs H1 ⟨ds, F1, G1, k1, R1, p1, q1⟩ => ?_, kx⟩
  show upSp (kw X) sp (vs ++ []) H1 Q E0
  rw [List.append_nil]
  exact ⟨F1, ds, G1, Q', R1, p1, q1, fun v H2 q2 => k v H2 (.trans k1 q2)⟩
end
section
variable {t : DTT} {xe : DXE} {xr : DXA} {xt xu : DXT} {ts us : DXS} {E : XEnds} {δ : DS} {G : Gp} {Q : D → Gp → Prop} {QB : Bool → Gp → Prop} {X2 : D → Gp → Prop} {sp : DSp}
theorem xtOf_e : xtOf t δ G QB X2 = t δ G QB := (rfl)
theorem xTruth_e : xTruth xe δ G QB X2 = xe δ G (fun x G1 => optQ (truthD x G1) fun k => QB k G1) X2 := (rfl)
theorem xNotT_e : xNotT xt δ G QB X2 = xt δ G (fun c G1 => QB (!c) G1) X2 := (rfl)
theorem xOrT_e : xOrT xt xu δ G QB X2 = xt δ G (fun c G1 => dCond c (QB true G1) (xu δ G1 QB X2)) X2 := (rfl)
theorem xIfX_e : xIfX xt ts us E δ G = xt δ G (fun b G1 => dCond b (ts E δ G1) (us E δ G1)) (fun x G1 => E.ex x δ G1) := (rfl)
theorem xCallA_e : xCallA sp xr δ G Q X2 = xr δ G (fun ds G1 => spQ sp ds G1 Q) X2 := (rfl)
end
end DL
set_option Elab.async false
set_option linter.all false
set_option maxRecDepth 100000
set_option maxHeartbeats 4000000
namespace DL
open PySem PySem.Spec PyProof.Rows L2
/-! ### tuple(range(n)) -/
section
variable {X : Cx} {K : KW} {F F' : Fr} {H H' : Hp} {G G' : Gp} {a e : Expr} {ta : DTE} {pos p1 : Pos}
def tTupRgB (te : L2.St → Hp → (Int → Int → Hp → Prop) → Prop) : TE := fun σ H Q => te σ H fun a b H1 => RgOk a b ∧ ∀ p o, o.dict = none → H1 p = none → Q (.ref p) (upd H1 p (.frz o (.tup (rgV a b))))
theorem pe_tupRgB {te : L2.St → Hp → (Int → Int → Hp → Prop) → Prop} {p pos : Pos} (hc : X.calm = true) (hg : Gl X "tuple") (hm : X.mg "tuple" = none) (he : PRg X e te) (na : starEach [e] X.env = (false, eval e X.env) :: starEach [] X.env := by rfl) :
    PE X (.Call (.Name "tuple" p) [e] [] pos) (tTupRgB te) := ⟨fun pins s σ H Q I h => by
  refine Call_ (ld_blt I hg hm boot_tuple (callWith_type1 (args_cons (thn (he pins s σ H _ I h) fun x s1 hx => args_nil ?_) na) na))
  obtain ⟨r, a, b, t, u, v, H1, ex, hr, I1, ok, q⟩ := hx
  cases ex
  have ok' := ok
  obtain ⟨b1, b2, b3, b4, b5⟩ := ok'
  refine call_tuple_range (n := (b - a).toNat) (I1.ok.hd hc) hr (small_one b1 b2 b3 b4) (rangeSize_nat a b) b5 fun h' tk acc hk hi => ?_
  have I2 : Inv X pins σ H1 { s1 with heap := h', toks := tk } := I1.kept hk
  have hl : (rgV a b).length ≤ sizeLine := by rw [rgV_length, sizeLine_eq]; omega
  have z := I2.layB (its := acc.toList) (t' := tk) hl (vals_rg hi) q
  simpa only [Array.toArray_toList] using z⟩
def dTupRg (ta : DTE) : DTE := fun δ G Q => ta δ G fun x G1 => optQ (intOf x) fun n => (-(2 ^ 62) ≤ n ∧ n ≤ 16777216) ∧ Q (.tup (rangeD 0 n.toNat)) G1
theorem dTupRg_e {ta : DTE} {δ : DS} {G : Gp} {Q : D → Gp → Prop} : dTupRg ta δ G Q = ta δ G fun x G1 => optQ (intOf x) fun n => (-(2 ^ 62) ≤ n ∧ n ≤ 16777216) ∧ Q (.tup (rangeD 0 n.toNat)) G1 := (rfl)
theorem rep_ints {f : Nat → Int} : ∀ ns : List Nat, RepL K F H (ns.map fun i => D.int (f i)) (ns.map fun i => V.int (f i))
  | [] => rfl
  | n :: ns => ⟨_, _, rfl, rfl, rep_ints ns⟩
theorem q_tupRg {p : Pos} (hc : X.calm = true) (ht : Gl X "tuple") (bt : X.mg "tuple" = none) (hr : Gl X "range") (br : X.mg "range" = none) (ha : QE X a ta) (n1 : starEach [a] X.env = (false, eval a X.env) :: starEach [] X.env := by rfl)
    (n2 : starEach [.Call (.Name "range" p) [a] [] p1] X.env = (false, eval (.Call (.Name "range" p) [a] [] p1) X.env) :: starEach [] X.env := by rfl) {p2 pos : Pos} :
    QE X (.Call (.Name "tuple" p2) [.Call (.Name "range" p) [a] [] p1] [] pos) (dTupRg ta) := PEmono (pe_tupRgB hc ht bt (prg_1 hr br ha n1) n2) fun σ H Q ⟨F, δ, G, Q', R, S, q, k⟩ => by
  refine ⟨F, δ, G, _, R, S, q, fun v H1 ⟨d, F1, G1, k1, R1, r1, q1⟩ => ?_⟩
  obtain ⟨n, hn, ⟨b1, b2⟩, q3⟩ := optQ_ex q1
  have e1 := intOf_eq hn
  subst e1
  cases r1
  have hk : ∀ v' H', post (F := F1) (kw X) H1 G1 Q' v' H' → Q v' H' := fun v' H' ⟨d, F2, G2, k2, R2, r2, q2⟩ => k v' H' ⟨d, F2, G2, k1.trans k2, R2, r2, q2⟩
  refine ⟨n, rfl, ⟨by omega, by omega, by omega, by omega, by omega⟩, ?_⟩
  have e : (n - 0).toNat = n.toNat := by rw [Int.sub_zero]
  have rr : RepL (kw X) F1 H1 (rangeD 0 n.toNat) (rgV 0 n) := by
    unfold rangeD rgV
    rw [e]
    exact rep_ints _
  exact fin_tup R1 hk rr q3
end
section
variable {X : Cx} {K : KW} {F F' : Fr} {H H' : Hp} {G G' : Gp} {pos : Pos}
/-- try: .. except BadOctets as e: return (e.at, e.reason) -/
def dTryBad2 (n : Nat) (t : DXS) : DTS := fun E δ G => t { nx := E.nx, rt := E.rt, bk := E.bk, ct := E.ct, ex := fun x δ1 G1 => n < δ1.length ∧ ∃ i z, x = badD i z ∧ E.rt (.tup [.int i, .str z]) G1 } δ G
theorem dTryBad2_e {n : Nat} {ts : DXS} {E2 : DEnds} {δ : DS} {G : Gp} : dTryBad2 n ts E2 δ G = ts { nx := E2.nx, rt := E2.rt, bk := E2.bk, ct := E2.ct, ex := fun x δ1 G1 => n < δ1.length ∧ ∃ i z, x = badD i z ∧ E2.rt (.tup [.int i, .str z]) G1 } δ G := (rfl)
theorem qs_tryBad2 {C fI cc cda : Addr} {n : Str} {i : Nat} {body : List Stmt} {np p2 p3 p4 p5 p6 p7 p8 : Pos} {j2 : Nat} {t : DXS} (T : BadAt X.prog (kw X) C fI cc cda) (gC : X.mg "BadOctets" = some (.ref C)) (hs : X.stack = X.env :: X.outer) (hf : X.env.frame = some X.env.locals) (hN : X.N.Nodup) (hi : X.N[i]? = some n) (hln : X.env.kindOf n = some .local) (hg : Gl X "BadOctets")
    (hd : (n == ("__debug__" : Str)) = false) (hcd : (n == ("__classdict__" : Str)) = false)
    (hb : ∀ (W : WX) (pn : List (Addr × Obj)) (xe : Value → Shared → Prop), Takes (X.tr pn xe) W → PassesOwn (model X.prog X.w) X.A X.env xe → XSs (X.tr pn xe) W body t) :
    QS X (.Try body [.ExceptHandler (some (.Name "BadOctets" np)) (some n) [.Return (some (.Tuple [.Attribute (.Name n p2) "at" p3, .Attribute (.Name n p4) "reason" p5] j2 p6)) p7] p8] [] [] pos) (dTryBad2 i t) := by
  refine PSmono (ps_try_as (Wout := fun _ _ _ _ => False) (tb := fun W => upXS (kw X) W t) (ts := fun a cls d => tRet (tTupB (tCons (tFldX C a cls d "at" (tVar i)) (tCons (tFldX C a cls d "reason" (tVar i)) tNil)))) hs hf hN hi hln ⟨hg, by decide, .inl gC⟩ takes0 hb fun a oe cls d pn hz hfd => ?_) ?_
  · exact pss_one (ps_ret (pe_tupB (pa_cons (pe_fldX T.ga T.gg T.exC T.hd T.txt.n1 hz hfd (pe_var hi (Or.inl hln) hd hcd)) (pa_cons (pe_fldX T.ga T.gg T.exC T.hd T.txt.n2 hz hfd (pe_var hi (Or.inl hln) hd hcd)) pa_nil))))
  intro Dn σ H ⟨F, δ, G, D', R, S, q, E⟩
  refine ⟨F, δ, G, _, R, S, q, ⟨E.nx, E.rt, E.bk, E.ct, fun cls d σ' H' ⟨x, δ', F1, G1, k1, R1, rx, S1, hl, iv, z, ex, q1⟩ => ?_⟩⟩
  subst ex
  rcases rx with ⟨C', i', z', dd, e1, ec, e3, ed, e5, e6⟩ | ⟨_, _, e1, _⟩ | ⟨_, _, _, _, _, e1, _⟩
  · have e7 : iv = i' ∧ z = z' := by
      unfold badD at e1
      simp only [D.tup.injEq, List.cons.injEq, D.int.injEq, D.str.injEq, and_true, true_and] at e1
      exact e1
    obtain ⟨rfl, rfl⟩ := e7
    have eC : C' = C := by simpa using e3.symm.trans T.ec
    subst eC ec ed
    have hil : i < σ'.length := by have := S1.len; omega
    have sl : ∀ a, (σ'.set i (some (V.ref a)))[i]? = some (some (.ref a)) := fun a => List.getElem?_set_self hil
    refine ⟨true, T.te, fun _ a ha => ⟨.ref a, sl a, rfl, rfl, dd, _, .int iv, rfl, e5, ?_, .ref a, sl a, rfl, rfl, dd, _, .str z, rfl, e5, ?_, (show 2 ≤ sizeLine by decide), fun p ob hod hp => ?_⟩, fun h => by cases h⟩
    · unfold badF
      rw [lookup_put, if_neg (by decide), lookup_put, if_pos rfl]
    · unfold badF
      rw [lookup_put, if_pos rfl]
    · exact E.rt _ _ ⟨.tup [.int iv, .str z], F1, G1, k1.trans (keep_new R1 hp), rel_new R1 hp, ⟨p, _, rfl, .inl ⟨ob, upd_same, hod⟩, ⟨_, _, rfl, rfl, _, _, rfl, ⟨rfl, e6⟩, rfl⟩⟩, q1⟩
  · cases e1
  · cases e1
end
/-! ### data that stands in the module, its texts looked at apart -/
def datK2 (K : KW) : Nat → Value → Option D
  | 0, _ => none
  | f + 1, v => match v with
    | .none => some .non
    | .bool b => some (.bl b)
    | .int i _ => some (.int i)
    | .str x _ => some (.str x)
    | .ref a => match K.fr.lookup a with
      | some ⟨.type "tuple", none, .seq its _, _⟩ => if its.size ≤ sizeLine then (goL (datK2 K f) its.toList).map .tup else none
      | _ => none
    | _ => none
mutual
def okSD : D → Bool
  | .str x => sOk x
  | .tup ds => okSDL ds
  | _ => true
def okSDL : List D → Bool
  | [] => true
  | d :: ds => okSD d && okSDL ds
end
theorem goL_imp {g g2 : Value → Option D} (h : ∀ u d, g2 u = some d → okSD d = true → g u = some d) : ∀ {us : List Value} {ds : List D}, goL g2 us = some ds → okSDL ds = true → goL g us = some ds
  | [], _, e, _ => e
  | u :: us, _, e, ok => by
    unfold goL at e ⊢
    cases e1 : g2 u with
    | none => rw [e1] at e; cases e
    | some d =>
      cases e2 : goL g2 us with
      | none => rw [e1, e2] at e; cases e
      | some ds =>
        rw [e1, e2] at e
        cases e
        have ok : (okSD d && okSDL ds) = true := ok
        rw [Bool.and_eq_true] at ok
        rw [h u d e1 ok.1, goL_imp h e2 ok.2]
        rfl
theorem dat_of {K : KW} : ∀ {f : Nat} {u : Value} {d : D}, datK2 K f u = some d → okSD d = true → datK K f u = some d := by
  intro f
  induction f with
  | zero => intro u d e; cases e
  | succ f ih =>
    intro u d e ok
    unfold datK2 at e
    unfold datK
    split at e
    · exact e
    · exact e
    · exact e
    · cases e
      try simp only
      rw [if_pos (show sOk _ = true from ok)]
    · rename_i a
      try simp only
      split at e
      · rename_i its n sl hl
        split at e
        · rename_i hs
          cases e2 : goL (datK2 K f) its.toList with
          | none => rw [e2] at e; cases e
          | some ds =>
            rw [e2] at e
            cases e
            try simp only [hl]
            rw [if_pos hs, goL_imp (fun u d h1 h2 => ih h1 h2) e2 ok]
            rfl
        · cases e
      · cases e
    · cases e
end DL
set_option Elab.async false
set_option linter.all false
set_option maxRecDepth 100000
set_option maxHeartbeats 4000000
namespace DL
open PySem PySem.Spec PyProof.Rows L2
/-! ### a call that may raise, with arguments that may raise -/
section
variable {X : Cx} {W : WX} {e : Expr} {es : List Expr} {xr : DXA} {pos : Pos}
def xCallX (sp : DSp) (xr : DXA) : DXE := fun δ G Q E => xr δ G (fun ds G1 => sp ds G1 Q E) E
theorem xe_callX {j k : Nat} {ps : List Str} {sp : DSp} {x : Str} {p : Pos} (c : CalX X.prog X.w (kw X) X.mg X.base k x ps sp) (tk : Takes X W) (hr : Room j X.A) (hk : k ≤ j) (hg : Gl X x)
    (ha : XA' X W (e :: es) xr) (hdb : (x == ("__debug__" : Str)) = false := by decide) (he : starEach (e :: es) X.env = (false, eval e X.env) :: starEach es X.env := by rfl) (hpl : (backTo pos (starEach es X.env)).any (·.1) = false := by rfl) :
    XE' X W (.Call (.Name x p) (e :: es) [] pos) (xCallX sp xr) := by
  obtain ⟨f, fd, Fn, hm, hkp, hb⟩ := c
  refine PEmono (pe_callS Fn (hr.mono hk) hg hm hkp hb (fun σ => passAt tk σ) ha hdb he hpl) fun σ H Q ⟨F, δ, G, Q', E', R, S, q, k1, k2⟩ => ?_
  refine ⟨F, δ, G, _, _, R, S, q, fun vs H1 ⟨ds, F1, G1, kk, R1, p1, q1⟩ => ?_, k2⟩
  exact ⟨F1, ds, G1, Q', E', R1, p1, q1, fun v H2 ⟨d, F2, G2, k3, r⟩ => k1 v H2 ⟨d, F2, G2, kk.trans k3, r⟩, fun cls d H2 ⟨x, F2, G2, k3, r⟩ => k2 cls d H2 ⟨x, F2, G2, kk.trans k3, r⟩⟩
theorem xCallX_e {sp : DSp} {δ : DS} {G : Gp} {Q : D → Gp → Prop} {X2 : D → Gp → Prop} : xCallX sp xr δ G Q X2 = xr δ G (fun ds G1 => sp ds G1 Q X2) X2 := (rfl)
end
end DL
set_option Elab.async false
set_option linter.all false
set_option maxRecDepth 100000
set_option maxHeartbeats 4000000
namespace DL
open PySem PySem.Spec PyProof.Rows L2
/-! ### sorted of pairs of texts -/
def prT (p : Str × Str) : D := .tup [.str p.1, .str p.2]
def prsOf : List D → Option (List (Str × Str))
  | [] => some []
  | .tup [.str x, .str y] :: r => (prsOf r).map fun ps => (x, y) :: ps
  | _ :: _ => none
theorem prsOf_eq : ∀ {ds : List D} {ps : List (Str × Str)}, prsOf ds = some ps → ds = ps.map prT
  | [], ps, h => by cases h; rfl
  | d :: ds, ps, h => by
    unfold prsOf at h
    split at h
    · rename_i e; cases e
    · rename_i x y r e
      cases e
      cases h2 : prsOf ds with
      | none => rw [h2] at h; cases h
      | some qs =>
        rw [h2] at h
        cases h
        rw [prsOf_eq h2]
        rfl
    · cases h
theorem prs_map : ∀ ps : List (Str × Str), prsOf (ps.map prT) = some ps
  | [] => rfl
  | p :: ps => by
    show (prsOf (ps.map prT)).map _ = _
    rw [prs_map ps]
    rfl
def encP (p : Str × Str) : PyData := .tuple [.str p.1, .str p.2]
/-- the order of pairs of texts -/
def leP : Str × Str → Str × Str → Bool := PySem.W.dataLe false encP
/-- one row of references to pairs -/
def EachP (K : KW) (H : Hp) : List V → List (Str × Str) → Prop
  | [], ps => ps = []
  | v :: vs, ps => ∃ p r t, ps = p :: r ∧ v = .ref t ∧ (BT K H t [.str p.1, .str p.2] ∧ sOk p.1 = true ∧ sOk p.2 = true) ∧ EachP K H vs r
def rSortP (K : KW) : List V → Hp → VK → Prop := fun vs H Q => ∃ (a : Addr) (xs : List V) (ps : List (Str × Str)), vs = [V.ref a] ∧ SqL K H a xs ∧ EachP K H xs ps ∧
  ∀ (ts : List Addr) (p : Addr), ts.length = ps.length → (∀ (i : Nat) (t : Addr) (q : Str × Str), ts[i]? = some t → (ps.mergeSort leP)[i]? = some q → BT K H t [.str q.1, .str q.2] ∧ sOk q.1 = true ∧ sOk q.2 = true) → H p = none → Q (.ref p) (upd H p (.lst (ts.map V.ref)))
section
variable {X : Cx} {K : KW} {F F' : Fr} {H H' : Hp} {G G' : Gp}
theorem eachP_len : ∀ {vs : List V} {ps : List (Str × Str)}, EachP K H vs ps → vs.length = ps.length
  | [], _, h => by cases h; rfl
  | v :: vs, _, ⟨p, r, t, e, _, _, h⟩ => by subst e; rw [List.length_cons, List.length_cons, eachP_len h]
theorem eachP_mem : ∀ {vs : List V} {ps : List (Str × Str)}, EachP K H vs ps → ∀ {its : List Value}, Vals vs its → PySem.W.EachIs (fun u (b : Str × Str) => ∃ t, u = Value.ref t ∧ BT K H t [.str b.1, .str b.2] ∧ sOk b.1 = true ∧ sOk b.2 = true) its ps
  | [], _, h, _, r => by cases h; cases r; exact .nil
  | v :: vs, _, ⟨p, ps, t, e, ev, ht, h⟩, _, r => by
    subst e
    subst ev
    cases r with
    | cons ru rr =>
      obtain rfl := (show _ = Value.ref t from ru)
      exact .cons ⟨t, rfl, ht⟩ (eachP_mem h rr)
theorem reads_pair {pins : List (Addr × Obj)} {σ : L2.St} {H : Hp} {s : Shared} (I : Inv X pins σ H s) {t : Addr} {b : Str × Str} (h : SqT (kw X) H t [.str b.1, .str b.2]) : ∃ as, Reads s.heap (.ref t) (encP b) as := by
  obtain ⟨its, r, ⟨o, ho, hc, n, hd⟩, _⟩ := I.tuple h
  obtain ⟨u1, u2, rfl, r1, r2⟩ := vals2 r
  obtain ⟨t1, rfl⟩ := r1
  obtain ⟨t2, rfl⟩ := r2
  exact ⟨_, .tuple ho hc hd (.cons (.str _ _) (.cons (.str _ _) .nil))⟩
theorem cr_sortP (hu : X.A.units + 190 < cLine) : CallR X (.builtin "sorted") (rSortP (kw X)) := by
  intro pins s σ H vs us Q I r h
  obtain ⟨a, xs, ps, rfl, hs, he, q⟩ := h
  obtain ⟨its, rv, hl, hz⟩ := I.list hs
  rw [Vals.ref1 r]
  have e := eachP_mem he rv
  have hlp := eachP_len he
  refine PySem.W.sorted_data (enc := encP) hl.isList e (e.mono fun u b ⟨t, e1, e3, _⟩ => by subst e1; exact reads_pair I e3.sq) (PySem.W.AllAlike.of fun b b' => rfl) (PySem.W.Sortable.tuples fun b => ⟨_, _, rfl⟩) (by rw [← hlp]; exact hz) (fun b _ => ?_) fun out h1 h2 => ?_
  · have : (encP b).depth ≤ 3 := by simp [encP, PyData.depth, PyData.depthAll]
    omega
  · obtain ⟨ep, he'⟩ := PyProof.Rows.sortedAll_at s.heap its out.toArray
    have key : ∀ (out : List Value) (qs : List (Str × Str)), PySem.W.EachIs (fun u (b : Str × Str) => ∃ t, u = Value.ref t ∧ BT (kw X) H t [.str b.1, .str b.2] ∧ sOk b.1 = true ∧ sOk b.2 = true) out qs → ∃ ts : List Addr, Vals (ts.map V.ref) out ∧ ts.length = qs.length ∧ ∀ (i : Nat) (t : Addr) (q : Str × Str), ts[i]? = some t → qs[i]? = some q → BT (kw X) H t [.str q.1, .str q.2] ∧ sOk q.1 = true ∧ sOk q.2 = true := by
      intro out qs h
      induction h with
      | nil => exact ⟨[], .nil, rfl, fun i t q h => by simp at h⟩
      | cons h0 _ ih =>
        obtain ⟨t, rfl, m1⟩ := h0
        obtain ⟨ts, a1, a2, a3⟩ := ih
        refine ⟨t :: ts, .cons rfl a1, by rw [List.length_cons, List.length_cons, a2], fun i t' q' g1 g2 => ?_⟩
        cases i with
        | zero =>
          simp only [List.getElem?_cons_zero, Option.some.injEq] at g1 g2
          subst g1 g2
          exact m1
        | succ i =>
          simp only [List.getElem?_cons_succ] at g1 g2
          exact a3 i t' q' g1 g2
    obtain ⟨ts, a1, a2, a3⟩ := key out _ h2
    have hp : (ps.mergeSort leP).length = ps.length := List.length_mergeSort ps
    have hlen : (ts.map V.ref).length ≤ sizeLine := by
      rw [List.length_map, a2]
      show (ps.mergeSort leP).length ≤ _
      rw [hp, ← hlp]
      exact hz
    exact ⟨.ref _, upd H (s.heap.objs.size + 1) (.lst (ts.map V.ref)), I.laid (t' := s.toks) (fun _ _ => PyProof.Rows.sortedAll_old) (Nat.le_succ _) ⟨hlen, out, ep, a1, he'⟩, rfl, q ts _ (by rw [a2]; exact hp) a3 (I.hok.fresh (Nat.le_succ _))⟩
/-- sorted(xs): a new list -/
def dSortP : RA := fun ds G Q => optQ (uncons ds) fun p => optQ ((lsOf p.1 G).bind prsOf) fun ps => p.2 = [] ∧ ∀ a, G a = none → Q (.ref a) (updG G a (.lst ((ps.mergeSort leP).map prT)))
theorem dSortP_e {ds : List D} {G : Gp} {Q : D → Gp → Prop} : dSortP ds G Q = optQ (uncons ds) fun p => optQ ((lsOf p.1 G).bind prsOf) fun ps => p.2 = [] ∧ ∀ a, G a = none → Q (.ref a) (updG G a (.lst ((ps.mergeSort leP).map prT))) := (rfl)
theorem eachP_rep : ∀ {ps : List (Str × Str)} {xs : List V}, RepL K F H (ps.map prT) xs → EachP K H xs ps
  | [], _, h => by cases h; rfl
  | p :: ps, _, ⟨v, r, e, ⟨t, ys, ev, hb, hy⟩, q⟩ => by
    subst e
    obtain ⟨v1, r1, rfl, ⟨rfl, o1⟩, v2, r2, rfl, ⟨rfl, o2⟩, rfl⟩ := hy
    exact ⟨p, ps, t, rfl, ev, ⟨hb, o1, o2⟩, eachP_rep q⟩
theorem lift_sortP : LiftA K (rSortP K) dSortP := by
  intro F H G ds vs Q Q0 R rd q k
  obtain ⟨⟨d, r⟩, e1, q1⟩ := optQ_ex q
  obtain ⟨ps, e2, e3, q2⟩ := optQ_ex q1
  cases ds with
  | nil => cases e1
  | cons d' r' =>
    cases e1
    have e3 : r = [] := e3
    subst e3
    obtain ⟨v, rr, rfl, rv, r0⟩ := rd
    cases r0
    rw [Option.bind_eq_some_iff] at e2
    obtain ⟨ds, el, ep⟩ := e2
    obtain ⟨a, xs, rfl, ha, hr⟩ := lsOf_rep R rv el
    rw [prsOf_eq ep] at hr
    refine ⟨a, xs, ps, rfl, .of ha, eachP_rep hr, fun ts p hl ht hp => ?_⟩
    have key : ∀ (qs : List (Str × Str)) (ts : List Addr), ts.length = qs.length → (∀ (i : Nat) (t : Addr) (q : Str × Str), ts[i]? = some t → qs[i]? = some q → BT K H t [.str q.1, .str q.2] ∧ sOk q.1 = true ∧ sOk q.2 = true) → RepL K F H (qs.map prT) (ts.map V.ref) := by
      intro qs
      induction qs with
      | nil =>
        intro ts e _
        cases ts with
        | nil => rfl
        | cons t ts => simp at e
      | cons q qs ih =>
        intro ts e g
        cases ts with
        | nil => simp at e
        | cons t ts =>
          obtain ⟨b1, o1, o2⟩ := g 0 t q rfl rfl
          refine ⟨_, _, rfl, ⟨t, _, rfl, b1, ⟨_, _, rfl, ⟨rfl, o1⟩, _, _, rfl, ⟨rfl, o2⟩, rfl⟩⟩, ih ts (by simpa using e) fun i t' q' h1 h2 => g (i + 1) t' q' (by simpa using h1) (by simpa using h2)⟩
    have hk := key _ ts (by rw [hl, List.length_mergeSort]) ht
    have hG := R.off0 hp
    have kk : Keep F H G F (upd H p (.lst (ts.map V.ref))) (updG G p (.lst ((ps.mergeSort leP).map prT))) := keep_obj R hp
    exact k _ _ ⟨.ref p, F, _, kk, rel_obj (m := .lst ((ps.mergeSort leP).map prT)) R hp ⟨_, upd_same, RepL.mono R kk _ _ hk⟩, rfl, q2 p hG⟩
end
end DL
set_option Elab.async false
set_option linter.all false
set_option maxRecDepth 100000
set_option maxHeartbeats 4000000
namespace DL
open PySem PySem.Spec PyProof.Rows L2
/-! ### sets of pairs of texts -/
def prOf : D → Option (Str × Str)
  | .tup [.str x, .str y] => some (x, y)
  | _ => none
theorem prOf_eq {d : D} {p : Str × Str} (h : prOf d = some p) : d = prT p := by
  unfold prOf at h
  split at h
  · cases h; rfl
  · cases h
def stOf : Option MO → Option (List (Str × Str))
  | some (.st ps) => some ps
  | _ => none
theorem stOf_eq {o : Option MO} {ds : List (Str × Str)} (h : stOf o = some ds) : o = some (.st ds) := by
  cases o with
  | none => cases h
  | some m => cases m <;> cases h; rfl
theorem keyP_inj {p q : Str × Str} (h : keyP p = keyP q) : p = q := by
  unfold keyP at h
  injection h with h1 h2
  injection h2 with h2 _
  injection h1 with h1
  injection h2 with h2
  exact Prod.ext h1 h2
theorem keyP_mem {p : Str × Str} {ps : List (Str × Str)} : keyP p ∈ ps.map keyP ↔ p ∈ ps :=
  ⟨fun h => let ⟨q, m, e⟩ := List.mem_map.mp h; keyP_inj e ▸ m, fun h => List.mem_map.mpr ⟨p, h, rfl⟩⟩
section
variable {X : Cx} {K : KW} {F F' : Fr} {H H' : Hp} {G G' : Gp} {pos : Pos}
theorem PairL.hasK {L : List (Addr × List Key)} {ps : List (Str × Str)} (q : PairL K.fr H L ps) (p : Str × Str) : hasK L (keyP p) = decide (p ∈ ps) := by
  rw [Bool.eq_iff_iff, hasK_iff, q.1.mem_iff, keyP_mem, decide_eq_true_eq]
/-- set() -/
def dSet : DTE := fun _ G Q => ∀ p, G p = none → Q (.ref p) (updG G p (.st []))
theorem dSet_e {δ : DS} {G : Gp} {Q : D → Gp → Prop} : dSet δ G Q = ∀ p, G p = none → Q (.ref p) (updG G p (.st [])) := (rfl)
theorem q_set0 {p : Pos} (hg : Gl X "set") (hm : X.mg "set" = none) : QE X (.Call (.Name "set" p) [] [] pos) dSet :=
  PEmono (pe_callTy0 cr_setNew hg hm rfl) fun σ H Q ⟨F, δ, G, Q', R, S, q, k⟩ => ⟨rfl, fun p hp => by
    have kk : Keep F H G F (upd H p (SetPO X.prog X.w p [])) (updG G p (.st [])) := keep_obj R hp
    exact k _ _ ⟨.ref p, F, _, kk, rel_obj (m := .st []) R hp ⟨[], upd_same, ⟨List.Perm.nil, fun q m => (by cases m), List.nodup_nil⟩, fun p m => (by cases m)⟩, rfl, q p (R.off0 hp)⟩⟩
/-- in, not in -/
def dSIn (neg : Bool) : R2d := fun d e G Q => optQ (prOf d) fun p => optQ (refOf e) fun a => optQ (stOf (G a)) fun ps => Q (.bl (xor neg (decide (p ∈ ps)))) G
theorem dSIn_e {neg : Bool} {d e : D} {G : Gp} {Q : D → Gp → Prop} : dSIn neg d e G Q = optQ (prOf d) fun p => optQ (refOf e) fun a => optQ (stOf (G a)) fun ps => Q (.bl (xor neg (decide (p ∈ ps)))) G := (rfl)
theorem prOf_1 {x y : Str} : prOf (.tup [.str x, .str y]) = some (x, y) := rfl
theorem stOf_1 {ps : List (Str × Str)} : stOf (some (.st ps)) = some ps := rfl
theorem lift_sin (neg : Bool) : Lift2 (kw X) (rSetIn X.K X.prog X.w neg) (dSIn neg) := by
  intro F H G d e v u Q Q0 R rd re q k
  obtain ⟨p, e1, qa⟩ := optQ_ex q
  obtain ⟨a, e2, qb⟩ := optQ_ex qa
  obtain ⟨ps, e3, qc⟩ := optQ_ex qb
  obtain rfl := prOf_eq e1
  obtain rfl := refOf_eq e2
  cases re
  have eg := stOf_eq e3
  obtain ⟨L, h1, h2, hS⟩ := R.obj a _ eg
  obtain ⟨t, ys, rfl, hb, hy⟩ := rd
  obtain ⟨v1, r1, rfl, ⟨rfl, o1⟩, v2, r2, rfl, ⟨rfl, o2⟩, rfl⟩ := hy
  refine ⟨t, a, keyP p, L, rfl, rfl, hb.sq, h1, fun q m => (h2.2.1 q m).sq, ?_⟩
  rw [h2.hasK]
  exact k _ _ (.here (d := .bl _) R rfl qc)
theorem q_sin {a b : Expr} {ta tb : DTE} (hu : X.A.units + 190 < cLine) (ha : QE X a ta) (hb : QE X b tb) (hm : behindInMarks .In b = false := by rfl) : QE X (.Compare a [.In] [b] pos) (dOp (dSIn false) ta tb) := q_cmp (op_setIn hu) (lift_sin _) ha hb hm
theorem q_snin {a b : Expr} {ta tb : DTE} (hu : X.A.units + 190 < cLine) (ha : QE X a ta) (hb : QE X b tb) (hm : behindInMarks .NotIn b = false := by rfl) : QE X (.Compare a [.NotIn] [b] pos) (dOp (dSIn true) ta tb) := q_cmp (op_setNin hu) (lift_sin _) ha hb hm
theorem q_tsin {a b : Expr} {ta tb : DTE} (hu : X.A.units + 190 < cLine) (ha : QE X a ta) (hb : QE X b tb) (hm : behindInMarks .In b = false := by rfl) : QT X (.Compare a [.In] [b] pos) (dTest (dOp (dSIn false) ta tb)) := q_tcmp (op_setIn hu) (lift_sin _) ha hb hm
theorem q_tsnin {a b : Expr} {ta tb : DTE} (hu : X.A.units + 190 < cLine) (ha : QE X a ta) (hb : QE X b tb) (hm : behindInMarks .NotIn b = false := by rfl) : QT X (.Compare a [.NotIn] [b] pos) (dTest (dOp (dSIn true) ta tb)) := q_tcmp (op_setNin hu) (lift_sin _) ha hb hm
/-- s.add(t) -/
def insP (p : Str × Str) (ps : List (Str × Str)) : List (Str × Str) := if p ∈ ps then ps else p :: ps
theorem insP_mem {p q : Str × Str} {ps : List (Str × Str)} : q ∈ insP p ps ↔ q = p ∨ q ∈ ps := by
  unfold insP
  split
  · exact ⟨.inr, fun h => h.elim (fun e => by rw [e]; assumption) id⟩
  · exact List.mem_cons
def dSAdd (to te : DTE) : DTE := fun δ G Q => to δ G fun o G1 => optQ (refOf o) fun a => optQ (stOf (G1 a)) fun _ => te δ G1 fun y G2 => optQ (stOf (G2 a)) fun ps => optQ (prOf y) fun p => ps.length + 1 ≤ 70 ∧ Q .non (updG G2 a (.st (insP p ps)))
theorem dSAdd_e {to te : DTE} {δ : DS} {G : Gp} {Q : D → Gp → Prop} : dSAdd to te δ G Q = to δ G fun o G1 => optQ (refOf o) fun a => optQ (stOf (G1 a)) fun _ => te δ G1 fun y G2 => optQ (stOf (G2 a)) fun ps => optQ (prOf y) fun p => ps.length + 1 ≤ 70 ∧ Q .non (updG G2 a (.st (insP p ps))) := (rfl)
def tPAdd (K : KW) (to : TE) (t : TA) : TE := fun σ H Q => to σ H fun x H1 => (∃ a L, x = .ref a ∧ H1 a = some (SetPO K.pg K.wd a L)) ∧ t σ H1 fun xs H2 => rSetAdd K.fr K.pg K.wd x xs H2 Q
theorem pe_padd {o e : Expr} {to : TE} {t : TA} {apos cpos : Pos} (hu : X.A.units + 190 < cLine) (ho : PE X o to) (ha : PA X [e] t)
    (hbase : attributeBase o "add" X.env (eval o X.env) = eval o X.env := by rfl)
    (hfew : ((backTo cpos (starEach [e] X.env)).all (fun x => !x.1) && (backToKw cpos (keywordEach [] X.env)).all (fun x => x.1.isSome)
      && decide ([e].length + ([] : List Keyword).length + (if ([] : List Keyword).isEmpty then 0 else 1) < 30)) = true := by rfl)
    (hline : (apos.endLine == cpos.line) = true := by rfl) (hs : starEach [e] X.env = (false, eval e X.env) :: starEach [] X.env := by rfl) :
    PE X (.Call (.Attribute o "add" apos) [e] [] cpos) (tPAdd (kw X) to t) := by
  refine ⟨fun pins s σ H Q I h => ?_⟩
  refine wpAny_Call_method_late hbase hfew hline rfl (thn (ho.run pins s σ H _ I h) fun v s1 ⟨x, H1, I1, r1, ty, q1⟩ => ?_)
  obtain ⟨a, L, rfl, hka⟩ := ty
  cases r1
  obtain ⟨es, ep, t0, ⟨o, ho1, ho2, ho3⟩, _⟩ := (show ZS1 X.prog X.w s1.heap a L from (I1.hok a _ hka).1)
  refine ⟨"set", "set.add", F.plainAttrs_set, F.slot_set_add, F.type_set_add, ⟨o, ho1, ho2.1⟩, fun b eb => by cases eb; exact ⟨o, ho1, ho2.2.1⟩, ?_⟩
  have hA := ha.run cpos pins s1 σ H1 _ I1 q1
  rw [hs] at hA ⊢
  refine Calls.callWith_builtin rfl (Calls.evalArgs_plain ?_)
  exact thn hA fun us s2 ⟨vs, H2, I2, r2, q2⟩ => mt_setAdd hu pins s2 σ H2 (.ref a) vs (.ref a) us Q I2 rfl r2 q2
theorem upPAdd {to te : DTE} {σ : L2.St} {Q : VK} (h : up K (dSAdd to te) σ H Q) : tPAdd K (up K to) (tCons (up K te) tNil) σ H Q := by
  obtain ⟨F, δ, G, Q', R, S, q, k⟩ := h
  refine ⟨F, δ, G, _, R, S, q, fun v H1 ⟨o, F1, G1, k1, R1, p1, q1⟩ => ?_⟩
  obtain ⟨a, ep, q3⟩ := optQ_ex q1
  obtain ⟨es, el, q4⟩ := optQ_ex q3
  obtain rfl := refOf_eq ep
  cases p1
  have eg := stOf_eq el
  obtain ⟨L1, h1, _⟩ := R1.obj a _ eg
  refine ⟨⟨a, L1, rfl, h1⟩, F1, δ, G1, _, R1, S.mono R k1, q4, fun w H2 ⟨d, F2, G2, k2, R2, p2, q2⟩ => ?_⟩
  obtain ⟨ps, el2, q5⟩ := optQ_ex q2
  obtain ⟨p, e1, few, q6⟩ := optQ_ex q5
  obtain rfl := prOf_eq e1
  have eg2 := stOf_eq el2
  obtain ⟨L, g1, g2, gS⟩ := R2.obj a _ eg2
  obtain ⟨t, ys, rfl, hb, hy⟩ := p2
  obtain ⟨v1, r1, rfl, ⟨rfl, o1⟩, v2, r2, rfl, ⟨rfl, o2⟩, rfl⟩ := hy
  have hl : L.length = ps.length := by
    have := g2.1.length_eq
    rwa [List.length_map, List.length_map] at this
  refine ⟨a, t, keyP p, L, rfl, rfl, hb.sq, g1, fun q m => (g2.2.1 q m).sq, by rw [hl]; exact few, fun N n1 n2 => ?_⟩
  have kk := keep_set (F := F2) (H := H2) (o := SetPO K.pg K.wd a N) (m' := .st (insP p ps)) eg2
  have new : PairL K.fr (upd H2 a (SetPO K.pg K.wd a N)) N (insP p ps) := by
    have st : ∀ b xs o, H2 b = some (.frz o (.tup xs)) → upd H2 a (SetPO K.pg K.wd a N) b = some (.frz o (.tup xs)) := fun b xs o hb => by
      have ne : b ≠ a := fun z => by subst z; rw [g1] at hb; cases hb
      rw [upd_ne ne]
      exact hb
    refine PairL.stay ?_ st
    by_cases m : p ∈ ps
    · have e : insP p ps = ps := if_pos m
      rw [e, n1 (g2.1.mem_iff.mpr (keyP_mem.mpr m))]
      exact g2
    · have e : insP p ps = p :: ps := if_neg m
      have pm := n2 fun z => m (keyP_mem.mp (g2.1.mem_iff.mp z))
      rw [e]
      refine ⟨(pm.map (fun q : Addr × List Key => q.2)).trans (List.Perm.cons (keyP p) g2.1), fun q mq => ?_, List.nodup_cons.mpr ⟨m, g2.2.2⟩⟩
      rcases List.mem_cons.mp (pm.mem_iff.mp mq) with z | z
      · rw [z]; exact hb
      · exact g2.2.1 q z
  exact k _ _ ⟨.non, F2, _, (k1.trans k2).trans kk, rel_set R2 eg2 ⟨N, upd_same, new, fun q m => (insP_mem.mp m).elim (fun e => by rw [e]; exact ⟨o1, o2⟩) (gS q)⟩, rfl, q6⟩
theorem q_sadd {a e : Expr} {apos cpos : Pos} {to te : DTE} (hu : X.A.units + 190 < cLine) (ho : QE X a to) (he : QE X e te)
    (hbase : attributeBase a "add" X.env (eval a X.env) = eval a X.env := by rfl)
    (hline : (apos.endLine == cpos.line) = true := by rfl) (hs : starEach [e] X.env = (false, eval e X.env) :: starEach [] X.env := by rfl)
    (hfew : ((backTo cpos (starEach [e] X.env)).all (fun x => !x.1) && (backToKw cpos (keywordEach [] X.env)).all (fun x => x.1.isSome)
      && decide ([e].length + ([] : List Keyword).length + (if ([] : List Keyword).isEmpty then 0 else 1) < 30)) = true := by rfl) : QE X (.Call (.Attribute a "add" apos) [e] [] cpos) (dSAdd to te) :=
  PEmono (pe_padd hu ho (pa_cons he pa_nil hs) hbase hfew hline hs) fun _ _ _ h => upPAdd h
end
/-! ### sorted(s) -/
theorem leP_lt (a b : Str × Str) : leP a b = !PySem.W.dataLt (encP b) (encP a) := rfl
theorem leP_total : PySem.W.TotalLe leP := PySem.W.sortLe_total (listOrd itemOrd) false fun b => PySem.W.keyToks (encP b)
theorem str_of_toList {x y : Str} (h : x.cps.toList = y.cps.toList) : x = y := by
  cases x
  cases y
  exact congrArg _ (Array.toList_inj.mp h)
theorem strLt_no {x y : Str} (h1 : PySem.W.dataLt (.str x) (.str y) = false) (h2 : PySem.W.dataLt (.str y) (.str x) = false) : x = y := by
  rw [PySem.W.dataLt_str, decide_eq_false_iff_not] at h1 h2
  exact str_of_toList (List.le_antisymm (List.not_lt.mp h2) (List.not_lt.mp h1))
theorem leP_anti {a b : Str × Str} (h1 : leP a b = true) (h2 : leP b a = true) : a = b := by
  obtain ⟨x, y⟩ := a
  obtain ⟨x', y'⟩ := b
  rw [leP_lt, Bool.not_eq_true'] at h1 h2
  unfold encP at h1 h2
  rw [PySem.W.dataLt_pair (by simp [PySem.W.alike]) (by simp [PySem.W.alike])] at h1 h2
  simp only [PyData.eqv, beq_iff_eq] at h1 h2
  by_cases e : x = x'
  · subst e
    simp only [if_true] at h1 h2
    by_cases e2 : y = y'
    · rw [e2]
    · rw [if_neg (fun z => e2 z.symm)] at h1
      rw [if_neg e2] at h2
      exact absurd (strLt_no h2 h1) e2
  · rw [if_neg (fun z => e z.symm)] at h1
    rw [if_neg e] at h2
    exact absurd (strLt_no h2 h1) e
/-- a sorted row has one form only -/
theorem sort_perm {l l' : List (Str × Str)} (h : l.Perm l') : l.mergeSort leP = l'.mergeSort leP := by
  refine PySem.W.sort_unique leP_total (PySem.W.sort_pairwise leP_total l) fun c => ?_
  have all : ∀ k : List (Str × Str), k.filter (PySem.W.sameRank leP c) = List.replicate (k.filter (PySem.W.sameRank leP c)).length c := fun k =>
    List.eq_replicate_of_mem fun b m => by
      have := (List.mem_filter.mp m).2
      unfold PySem.W.sameRank at this
      rw [Bool.and_eq_true] at this
      exact (leP_anti this.1 this.2).symm
  have p := ((List.mergeSort_perm l leP).trans h).filter (PySem.W.sameRank leP c)
  rw [all, all l', p.length_eq]
theorem perm_map_ex {α β : Type} {f : α → β} {vs us : List β} (h : vs.Perm us) : ∀ M : List α, us = M.map f → ∃ M' : List α, M'.Perm M ∧ vs = M'.map f := by
  induction h with
  | nil => intro M e; exact ⟨M, .refl _, e⟩
  | cons x _ ih =>
    intro M e
    cases M with
    | nil => cases e
    | cons m M =>
      rw [List.map_cons] at e
      injection e with e1 e2
      obtain ⟨M', p, e3⟩ := ih M e2
      exact ⟨m :: M', p.cons _, by rw [List.map_cons, e1, e3]⟩
  | swap x y l =>
    intro M e
    cases M with
    | nil => cases e
    | cons m M =>
      cases M with
      | nil => rw [List.map_cons] at e; injection e with _ e; cases e
      | cons m2 M =>
        rw [List.map_cons, List.map_cons] at e
        injection e with e1 e
        injection e with e2 e3
        exact ⟨m2 :: m :: M, .swap _ _ _, by rw [List.map_cons, List.map_cons, e1, e2, e3]⟩
  | trans _ _ ih1 ih2 =>
    intro M e
    obtain ⟨M2, p2, e2⟩ := ih2 M e
    obtain ⟨M1, p1, e1⟩ := ih1 M2 e2
    exact ⟨M1, p1.trans p2, e1⟩
/-- the entries with their pairs -/
theorem pairL_M {K : PySem.W.Frag} {H : Hp} {L : List (Addr × List Key)} {ps : List (Str × Str)} (q : PairL K H L ps) : ∃ M : List (Addr × (Str × Str)), L = M.map (fun m => (m.1, keyP m.2)) ∧ (M.map (·.2)).Perm ps := by
  have ex : ∀ L' : List (Addr × List Key), (∀ x ∈ L', x.2 ∈ ps.map keyP) → ∃ M : List (Addr × (Str × Str)), L' = M.map (fun m => (m.1, keyP m.2)) := by
    intro L'
    induction L' with
    | nil => intro _; exact ⟨[], rfl⟩
    | cons x L' ih =>
      intro h
      obtain ⟨M, e⟩ := ih fun y m => h y (List.mem_cons_of_mem _ m)
      obtain ⟨p, mp, ep⟩ := List.mem_map.mp (h x List.mem_cons_self)
      exact ⟨(x.1, p) :: M, by rw [List.map_cons, ← e, ep]⟩
  obtain ⟨M, e⟩ := ex L fun x m => q.1.mem_iff.mp (List.mem_map.mpr ⟨x, m, rfl⟩)
  refine ⟨M, e, ?_⟩
  have e2 : L.map (·.2) = (M.map (·.2)).map keyP := by rw [e, List.map_map, List.map_map]; rfl
  have nd : ((M.map (·.2)).map keyP).Nodup := by
    rw [← e2]
    refine q.1.nodup_iff.mpr ?_
    exact List.pairwise_map.mpr (q.2.2.imp fun h z => h (keyP_inj z))
  refine (List.perm_ext_iff_of_nodup (nodup_of_map nd) q.2.2).mpr fun p => ?_
  rw [← keyP_mem, ← e2, q.1.mem_iff, keyP_mem]
def rSortS (K : KW) : List V → Hp → VK → Prop := fun vs H Q => ∃ (a : Addr) (L : List (Addr × List Key)) (ps : List (Str × Str)), vs = [V.ref a] ∧ H a = some (SetPO K.pg K.wd a L) ∧ PairL K.fr H L ps ∧ (∀ p ∈ ps, sOk p.1 = true ∧ sOk p.2 = true) ∧
  ∀ (ts : List Addr) (p : Addr), ts.length = ps.length → (∀ (i : Nat) (t : Addr) (q : Str × Str), ts[i]? = some t → (ps.mergeSort leP)[i]? = some q → BT K.fr H t [.str q.1, .str q.2] ∧ sOk q.1 = true ∧ sOk q.2 = true) → H p = none → Q (.ref p) (upd H p (.lst (ts.map V.ref)))
theorem reads_pair2 {X : Cx} {pins : List (Addr × Obj)} {σ : L2.St} {H : Hp} {s : Shared} (I : Inv X pins σ H s) {t : Addr} {b : Str × Str} (h : SqT (kw X) H t [.str b.1, .str b.2]) : Reads s.heap (.ref t) (encP b) [] := by
  obtain ⟨its, r, ⟨o, ho, hc, n, hd⟩, _⟩ := I.tuple h
  obtain ⟨u1, u2, rfl, r1, r2⟩ := vals2 r
  obtain ⟨t1, rfl⟩ := r1
  obtain ⟨t2, rfl⟩ := r2
  exact .tuple ho hc hd (.cons (.str _ _) (.cons (.str _ _) .nil))
theorem ts_of {K : KW} {H : Hp} {out : List Value} {qs : List (Str × Str)} (h : PySem.W.EachIs (fun u (b : Str × Str) => ∃ t, u = Value.ref t ∧ BT K.fr H t [.str b.1, .str b.2] ∧ sOk b.1 = true ∧ sOk b.2 = true) out qs) :
    ∃ ts : List Addr, Vals (ts.map V.ref) out ∧ ts.length = qs.length ∧ ∀ (i : Nat) (t : Addr) (q : Str × Str), ts[i]? = some t → qs[i]? = some q → BT K.fr H t [.str q.1, .str q.2] ∧ sOk q.1 = true ∧ sOk q.2 = true := by
  induction h with
  | nil => exact ⟨[], .nil, rfl, fun i t q h => by simp at h⟩
  | cons h0 _ ih =>
    obtain ⟨t, rfl, m1⟩ := h0
    obtain ⟨ts, a1, a2, a3⟩ := ih
    refine ⟨t :: ts, .cons rfl a1, by rw [List.length_cons, List.length_cons, a2], fun i t' q' g1 g2 => ?_⟩
    cases i with
    | zero =>
      simp only [List.getElem?_cons_zero, Option.some.injEq] at g1 g2
      subst g1 g2
      exact m1
    | succ i =>
      simp only [List.getElem?_cons_succ] at g1 g2
      exact a3 i t' q' g1 g2
theorem cr_sortS {X : Cx} (hc : X.calm = true) (hu : X.A.units + 190 < cLine) : CallR X (.builtin "sorted") (rSortS (kw X)) := by
  intro pins s σ H vs us Q I r h
  obtain ⟨a, L, ps, rfl, ha, hP, hS, q⟩ := h
  rw [Vals.ref1 r]
  obtain ⟨es, ep, t, Z⟩ := ps_of I ha fun x m => (hP.2.1 x m).sq
  obtain ⟨o, ho, hex, hd⟩ := Z.obj
  obtain ⟨M, eL, pM⟩ := pairL_M hP
  have hsz := Z.size
  have hcap := Z.cap
  have hes : es.toList.map (·.2) = M.map fun m => Value.ref m.1 := by
    rw [Z.row]
    unfold ents
    rw [eL, List.map_map, List.map_map]
    rfl
  refine Calls.call_function_entry kind_sorted plain_sorted entry_sorted (args_sorted1 _) ?_
  unfold Builtin.«sorted»
  refine wpAny_bind (m := checkCount "sorted" 1 1 _) (wpAny_pure ?_)
  refine wpAny_bind (collect_set (A := X.A.in1) (I.ok.hd hc) ⟨o, ho, hex.1, hd⟩ Z.fit (by unfold scanBound; omega) Z.lay.ris Z.led fun s1 vs k1 hz g1 o1 pm => ?_)
  rw [hes] at pm
  obtain ⟨M', pM', ev⟩ := perm_map_ex pm M rfl
  subst ev
  have hlen : M'.length ≤ 70 := by
    rw [pM'.length_eq]
    have : L.length = M.length := by rw [eL, List.length_map]
    omega
  have in2 : ∀ m ∈ M', BT (kw X).fr H m.1 [.str m.2.1, .str m.2.2] ∧ sOk m.2.1 = true ∧ sOk m.2.2 = true := fun m mm => by
    have h1 : m ∈ M := pM'.mem_iff.mp mm
    have h2 : (m.1, keyP m.2) ∈ L := by rw [eL]; exact List.mem_map.mpr ⟨m, h1, rfl⟩
    have h3 : m.2 ∈ ps := pM.mem_iff.mp (List.mem_map.mpr ⟨m, h1, rfl⟩)
    exact ⟨hP.2.1 _ h2, hS _ h3⟩
  refine wpAny_bind (wpAny_newList ?_ (by rw [sizeLine_eq, List.length_map]; omega))
  have hoL : (s1.heap.push (seqObj "list" (M'.map fun m => Value.ref m.1).toArray 0)).get? s1.heap.objs.size = some (seqObj "list" (M'.map fun m => Value.ref m.1).toArray 0) := Heap.get?_push_size _ rfl
  have each : ∀ {P : Value → (Str × Str) → Prop} (M2 : List (Addr × (Str × Str))), (∀ m ∈ M2, P (.ref m.1) m.2) → PySem.W.EachIs P (M2.map fun m => Value.ref m.1) (M2.map (·.2)) := fun {P} M2 => by
    induction M2 with
    | nil => intro _; exact .nil
    | cons m M2 ih => intro h; exact .cons (h m List.mem_cons_self) (ih fun x mx => h x (List.mem_cons_of_mem _ mx))
  have hn : H s1.heap.objs.size = none := I.hok.fresh hz
  refine wpAny_bind (wpAny_holding (PySem.W.list_sort_data (enc := encP) (s := { s1 with heap := s1.heap.push (seqObj "list" (M'.map fun m => Value.ref m.1).toArray 0) }) hoL
    (each (P := fun u b => ∃ t, u = Value.ref t ∧ BT (kw X).fr H t [.str b.1, .str b.2] ∧ sOk b.1 = true ∧ sOk b.2 = true) M' fun m mm => ⟨m.1, rfl, in2 m mm⟩)
    (each M' fun m mm => ⟨[], PyProof.Rows.Reads.keeps (fun b u e => Heap.get?_push_of_some _ (k1 b u e)) (reads_pair2 I (in2 m mm).1.sq), by simp⟩)
    (PySem.W.AllAlike.of fun b b' => rfl) (PySem.W.Sortable.tuples fun b => ⟨_, _, rfl⟩) (by rw [List.length_map, sizeLine_eq]; omega) (fun b _ => ?_) fun out h1 h2 => ?_))
  · have : (encP b).depth ≤ 3 := by simp [encP, PyData.depth, PyData.depthAll]
    show X.A.units + 1 + 1 + _ < _
    omega
  · obtain ⟨c, hc2⟩ := sortedHeap_at (vs := M'.map fun m => Value.ref m.1) (out := out.toArray) hoL
    have pp : (M'.map (·.2)).Perm ps := (pM'.map (fun m : Addr × (Str × Str) => m.2)).trans pM
    rw [show (M'.map (·.2)).mergeSort (PySem.W.dataLe false encP) = ps.mergeSort leP from sort_perm pp] at h2
    obtain ⟨ts, a1, a2, a3⟩ := ts_of h2
    have hp : (ps.mergeSort leP).length = ps.length := List.length_mergeSort ps
    have hl : (ts.map V.ref).length ≤ sizeLine := by
      rw [List.length_map, a2, hp, ← pp.length_eq, List.length_map, sizeLine_eq]
      omega
    have k : ∀ b u, s.heap.get? b = some u → (sortedHeap (s1.heap.push (seqObj "list" (M'.map fun m => Value.ref m.1).toArray 0)) s1.heap.objs.size (M'.map fun m => Value.ref m.1) out.toArray).get? b = some u := fun b u e => by
      have q := k1 b u e
      have hlt := Heap.lt_size q
      rw [sortedHeap_old (Nat.ne_of_lt hlt) (by rw [size_push']; exact Nat.lt_succ_of_lt hlt)]
      exact Heap.get?_push_of_some _ q
    refine wpAny_pure ⟨_, rfl, ?_⟩
    have J : Inv X pins σ (upd H s1.heap.objs.size (.lst (ts.map V.ref))) { s with heap := sortedHeap (s1.heap.push (seqObj "list" (M'.map fun m => Value.ref m.1).toArray 0)) s1.heap.objs.size (M'.map fun m => Value.ref m.1) out.toArray, gens := s1.gens, drawn := s1.drawn, toks := s1.toks } :=
      I.call (ch := []) (Un.laid k hz hn) (I.hok.laid k hz ⟨hl, out, c, a1, hc2⟩) (by rw [g1]; exact I.bare) (fun _ z => nomatch z)
    have e : ({ s1 with heap := sortedHeap (s1.heap.push (seqObj "list" (M'.map fun m => Value.ref m.1).toArray 0)) s1.heap.objs.size (M'.map fun m => Value.ref m.1) out.toArray } : Shared) = { s with heap := sortedHeap (s1.heap.push (seqObj "list" (M'.map fun m => Value.ref m.1).toArray 0)) s1.heap.objs.size (M'.map fun m => Value.ref m.1) out.toArray, gens := s1.gens, drawn := s1.drawn, toks := s1.toks } := by
      cases s1
      cases s
      cases o1
      rfl
    show EP X pins σ Q _ ({ s1 with heap := _ } : Shared)
    rw [e]
    exact ⟨.ref _, _, J, rfl, q ts _ (by rw [a2]; exact hp) a3 hn⟩
/-- sorted(s), over data -/
def stD : D → Gp → Option (List (Str × Str))
  | .ref a, G => stOf (G a)
  | _, _ => none
def dSortS : RA := fun ds G Q => optQ (uncons ds) fun p => optQ (stD p.1 G) fun ps => p.2 = [] ∧ ∀ a, G a = none → Q (.ref a) (updG G a (.lst ((ps.mergeSort leP).map prT)))
theorem dSortS_e {ds : List D} {G : Gp} {Q : D → Gp → Prop} : dSortS ds G Q = optQ (uncons ds) fun p => optQ (stD p.1 G) fun ps => p.2 = [] ∧ ∀ a, G a = none → Q (.ref a) (updG G a (.lst ((ps.mergeSort leP).map prT))) := (rfl)
theorem stD_1 {a : Addr} {G : Gp} : stD (.ref a) G = stOf (G a) := rfl
theorem lift_sortS {K : KW} : LiftA K (rSortS K) dSortS := by
  intro F H G ds vs Q Q0 R rd q k
  obtain ⟨⟨d, r⟩, e1, q1⟩ := optQ_ex q
  obtain ⟨ps, e2, e3, q2⟩ := optQ_ex q1
  cases ds with
  | nil => cases e1
  | cons d' r' =>
    cases e1
    have e3 : r = [] := e3
    subst e3
    obtain ⟨v, rr, rfl, rv, r0⟩ := rd
    cases r0
    cases d with
    | ref a =>
      cases rv
      obtain ⟨L, h1, h2, h3⟩ := R.obj a _ (stOf_eq e2)
      refine ⟨a, L, ps, rfl, h1, h2, h3, fun ts p hl ht hp => ?_⟩
      have key : ∀ (qs : List (Str × Str)) (ts : List Addr), ts.length = qs.length → (∀ (i : Nat) (t : Addr) (q : Str × Str), ts[i]? = some t → qs[i]? = some q → BT K.fr H t [.str q.1, .str q.2] ∧ sOk q.1 = true ∧ sOk q.2 = true) → RepL K F H (qs.map prT) (ts.map V.ref) := by
        intro qs
        induction qs with
        | nil =>
          intro ts e _
          cases ts with
          | nil => rfl
          | cons t ts => simp at e
        | cons q qs ih =>
          intro ts e g
          cases ts with
          | nil => simp at e
          | cons t ts =>
            obtain ⟨b1, o1, o2⟩ := g 0 t q rfl rfl
            refine ⟨_, _, rfl, ⟨t, _, rfl, b1, ⟨_, _, rfl, ⟨rfl, o1⟩, _, _, rfl, ⟨rfl, o2⟩, rfl⟩⟩, ih ts (by simpa using e) fun i t' q' h1 h2 => g (i + 1) t' q' (by simpa using h1) (by simpa using h2)⟩
      have hk := key _ ts (by rw [hl, List.length_mergeSort]) ht
      have kk : Keep F H G F (upd H p (.lst (ts.map V.ref))) (updG G p (.lst ((ps.mergeSort leP).map prT))) := keep_obj R hp
      exact k _ _ ⟨.ref p, F, _, kk, rel_obj (m := .lst ((ps.mergeSort leP).map prT)) R hp ⟨_, upd_same, RepL.mono R kk _ _ hk⟩, rfl, q2 p (R.off0 hp)⟩
    | _ => cases e2
end DL
set_option Elab.async false
set_option linter.all false
set_option maxRecDepth 100000
set_option maxHeartbeats 4000000
namespace DL
open PySem PySem.Spec PyProof.Rows L2
/-! ### a dictionary of pairs that nobody changes: in, not in, walked -/
def pvOf : D → Option (List (Str × Str))
  | .pv ps => some ps
  | _ => none
theorem pvOf_eq {d : D} {ps : List (Str × Str)} (h : pvOf d = some ps) : d = .pv ps := by cases d <;> cases h; rfl
theorem pvOf_1 {ps : List (Str × Str)} : pvOf (.pv ps) = some ps := rfl
section
variable {X : Cx} {K : KW} {F F' : Fr} {H H' : Hp} {G G' : Gp} {pos : Pos}
theorem PairD.hasK {L : List (Addr × List Key)} {ps : List (Str × Str)} (q : PairD K.fr H L ps) (p : Str × Str) : hasK L (keyP p) = decide (p ∈ ps) := by
  rw [Bool.eq_iff_iff, hasK_iff, q.1, keyP_mem, decide_eq_true_eq]
def dPIn (neg : Bool) : R2d := fun d e G Q => optQ (prOf d) fun p => optQ (pvOf e) fun ps => Q (.bl (xor neg (decide (p ∈ ps)))) G
theorem dPIn_e {neg : Bool} {d e : D} {G : Gp} {Q : D → Gp → Prop} : dPIn neg d e G Q = optQ (prOf d) fun p => optQ (pvOf e) fun ps => Q (.bl (xor neg (decide (p ∈ ps)))) G := (rfl)
theorem lift_pin (neg : Bool) : Lift2 (kw X) (rDicIn X.K X.prog X.w neg) (dPIn neg) := by
  intro F H G d e v u Q Q0 R rd re q k
  obtain ⟨p, e1, qa⟩ := optQ_ex q
  obtain ⟨ps, e2, qb⟩ := optQ_ex qa
  obtain rfl := prOf_eq e1
  obtain rfl := pvOf_eq e2
  obtain ⟨a, od, L, rfl, h1, h2, _⟩ := re
  obtain ⟨t, ys, rfl, hb, hy⟩ := rd
  obtain ⟨v1, r1, rfl, ⟨rfl, o1⟩, v2, r2, rfl, ⟨rfl, o2⟩, rfl⟩ := hy
  refine ⟨t, a, keyP p, od, L, rfl, rfl, hb.sq, h1, fun q m => (h2.2.1 q m).sq, ?_⟩
  rw [h2.hasK]
  exact k _ _ (.here (d := .bl _) R rfl qb)
theorem q_pin {a b : Expr} {ta tb : DTE} (hu : X.A.units + 190 < cLine) (ha : QE X a ta) (hb : QE X b tb) (hm : behindInMarks .In b = false := by rfl) : QE X (.Compare a [.In] [b] pos) (dOp (dPIn false) ta tb) := q_cmp (op_dicIn hu) (lift_pin _) ha hb hm
theorem q_pnin {a b : Expr} {ta tb : DTE} (hu : X.A.units + 190 < cLine) (ha : QE X a ta) (hb : QE X b tb) (hm : behindInMarks .NotIn b = false := by rfl) : QE X (.Compare a [.NotIn] [b] pos) (dOp (dPIn true) ta tb) := q_cmp (op_dicNin hu) (lift_pin _) ha hb hm
theorem q_tpin {a b : Expr} {ta tb : DTE} (hu : X.A.units + 190 < cLine) (ha : QE X a ta) (hb : QE X b tb) (hm : behindInMarks .In b = false := by rfl) : QT X (.Compare a [.In] [b] pos) (dTest (dOp (dPIn false) ta tb)) := q_tcmp (op_dicIn hu) (lift_pin _) ha hb hm
theorem q_tpnin {a b : Expr} {ta tb : DTE} (hu : X.A.units + 190 < cLine) (ha : QE X a ta) (hb : QE X b tb) (hm : behindInMarks .NotIn b = false := by rfl) : QT X (.Compare a [.NotIn] [b] pos) (dTest (dOp (dPIn true) ta tb)) := q_tcmp (op_dicNin hu) (lift_pin _) ha hb hm
/-- its keys, one after the other -/
theorem walked_p {F0 : Fr} {H0 : Hp} {G0 : Gp} {d : Addr} {od : Obj} {L : List (Addr × List Key)} {ps : List (Str × Str)} (R0 : Rel K F0 H0 G0) (h : H0 d = some (.frz od (DicPO K.pg K.wd d L))) (q : PairD K.fr H0 L ps) (ok : ∀ p ∈ ps, sOk p.1 = true ∧ sOk p.2 = true) :
    Walked K (Itp K.pg K.wd d od L) F0 H0 G0 (ps.map prT) (fun _ => True) := by
  intro F2 H2 G2 k2 R2 _
  have st := k2.stay R0
  have h2 := st.pdc d od _ h
  have q2 := q.stay st.tup
  have len : L.length = ps.length := by
    have := congrArg List.length q.1
    rwa [List.length_map, List.length_map] at this
  refine ⟨fun i hi => ⟨h2, by rw [List.length_map] at hi; rw [len]; exact hi⟩, fun i d0 e => ?_⟩
  rw [List.getElem?_map, Option.map_eq_some_iff] at e
  obtain ⟨p, ep, rfl⟩ := e
  have lt : i < ps.length := (List.getElem?_eq_some_iff.mp ep).1
  refine ⟨⟨h2, by rw [len]; exact lt⟩, fun x H3 ⟨e3, t, et, ex⟩ => ?_⟩
  subst e3 ex
  have ek : t.2 = keyP p := by
    have := congrArg (·[i]?) q2.1
    simp only [List.getElem?_map, et, ep, Option.map_some, Option.some.injEq] at this
    exact this
  have bt := q2.2.1 t (List.mem_of_getElem? et)
  rw [ek] at bt
  obtain ⟨o1, o2⟩ := ok p (List.mem_of_getElem? ep)
  exact ⟨F2, .refl, R2, t.1, _, rfl, bt, _, _, rfl, ⟨rfl, o1⟩, _, _, rfl, ⟨rfl, o2⟩, rfl⟩
def dItP (te : DTE) : DTI := fun δ G Q => te δ G fun x G1 => optQ (pvOf x) fun ps => Q (ps.map prT) (fun _ => True) G1
theorem dItP_e {te : DTE} {δ : DS} {G : Gp} {Q : List D → (Gp → Prop) → Gp → Prop} : dItP te δ G Q = te δ G fun x G1 => optQ (pvOf x) fun ps => Q (ps.map prT) (fun _ => True) G1 := (rfl)
theorem qi_pv {tg e : Expr} {te : DTE} (he : QE X e te) : QI X tg e (dItP te) := PImono (pi_pairs he) fun σ H R0 ⟨F, δ, G, Q, R, S, q, k⟩ => by
  refine ⟨F, δ, G, _, R, S, q, fun v H1 ⟨d, F1, G1, k1, R1, p1, q1⟩ => ?_⟩
  obtain ⟨ps, e1, q2⟩ := optQ_ex q1
  obtain rfl := pvOf_eq e1
  obtain ⟨a, od, L, rfl, h1, h2, h3⟩ := p1
  exact ⟨a, od, L, rfl, h1, k _ _ _ F1 H1 G1 k1 R1 (walked_p R1 h1 h2 h3) q2⟩
end
/-! ### {pair: True for ..}: a dictionary of pairs, made once -/
section
variable {X : Cx} {K : KW} {F F' : Fr} {H H' : Hp} {G G' : Gp} {pos : Pos} {t : DTT} {te : DTE} {tg : Expr}
def putsP (X : Cx) : Puts X where
  start D := DicPO X.prog X.w D []
  put y z D H Nx := ∃ (b : Addr) (k : List Key) (L : List (Addr × List Key)), y = .ref b ∧ z = .bl true ∧ X.A.units + 190 < cLine ∧ SqT X.K H b (k.map kV) ∧ H D = some (DicPO X.prog X.w D L) ∧ Tups X.K H L ∧ L.length < sizeLine ∧ Nx (upd H D (DicPO X.prog X.w D (putT L b k)))
  fresh H h hb := dicPO_ok (dic_new hb)
  step X' pins σ H s y z u r D Nx Q E e1 e2 e3 e4 I ry rz p q := by
    obtain ⟨b, k, L, rfl, rfl, hu, hb, hD, hk, hz, nx⟩ := p
    rw [← e1, ← e2] at hD nx
    rw [← e3] at hb hk
    rw [← e4] at hu
    obtain rfl : u = Value.ref b := ry
    obtain rfl : r = Value.bool true := rz
    exact d_dicSet hu I hD hk hb hz fun s' I' => q _ s' I' nx
theorem stay_hidP {D : Addr} {φ : Heap → Prop} {o : HO} (hD : H D = some (.ext φ)) (nF : ¬ F D) : Stay F H F (upd H D o) where
  tup a ys ob h := by rw [upd_ne (fun z => by subst z; rw [hD] at h; cases h)]; exact h
  lst a ys f h := ⟨f, by rw [upd_ne (show a ≠ D from fun z => nF (z ▸ f))]; exact h⟩
  frz a ob ys h := by rw [upd_ne (fun z => by subst z; rw [hD] at h; cases h)]; exact h
  dic a ys f h := by
    have n : a ≠ D := fun z => nF (z ▸ f)
    refine ⟨f, ?_⟩
    rcases h with h | ⟨o, h⟩
    · exact .inl (by rw [upd_ne n]; exact h)
    · exact .inr ⟨o, by rw [upd_ne n]; exact h⟩
  pdc a od φ h := by rw [upd_ne (fun z => by subst z; rw [hD] at h; cases h)]; exact h
  cod a q f h := ⟨f, by rw [upd_ne (show a ≠ D from fun z => nF (z ▸ f))]; exact h⟩
theorem rel_hidP (R : Rel K F H G) {D : Addr} {φ : Heap → Prop} {o : HO} (hD : H D = some (.ext φ)) (nF : ¬ F D) (nG : G D = none) : Rel K F (upd H D o) G where
  obj a m e := by
    have n : a ≠ D := fun z => by subst z; rw [nG] at e; cases e
    exact RepO.stay (stay_hidP hD nF) (fun x y h => by rw [upd_ne (fun z => by subst z; rw [hD] at h; cases h)]; exact h) (upd_ne n) (R.obj a m e)
  fr := R.fr
  al a f := by rw [upd_ne (show a ≠ D from fun z => nF (z ▸ f))]; exact R.al a f
def snocP (p : Str × Str) (ps : List (Str × Str)) : List (Str × Str) := if p ∈ ps then ps else ps ++ [p]
def dPComp (S : Gp → Prop) (g : DTG) (tt : DTT) (tk te : DTE) (δ : DS) (Q : List (Str × Str) → Gp → Prop) : List D → List (Str × Str) → Gp → Prop
  | [], acc, G => S G ∧ Q acc G
  | d :: r, acc, G => S G ∧ g d δ G fun δ1 G1 => tt δ1 G1 fun b G2 => dCond b (tk δ1 G2 fun x G3 => te δ1 G3 fun y G4 => optQ (prOf x) fun p => y = .bl true ∧ acc.length < sizeLine ∧ dPComp S g tt tk te δ Q r (snocP p acc) G4) (dPComp S g tt tk te δ Q r acc G2)
def dDcP (wi : DTI) (g : DTG) (tt : DTT) (tk te : DTE) (vs : List Nat) : DTE := fun δ G Q => wi δ G fun ds S G1 => dPComp S g tt tk te (wipeS δ vs) (fun acc G2 => Q (.pv acc) G2) ds [] G1
theorem dDcP_e {wi : DTI} {g : DTG} {tt : DTT} {tk te : DTE} {vs : List Nat} {δ : DS} {G : Gp} {Q : D → Gp → Prop} : dDcP wi g tt tk te vs δ G Q = wi δ G fun ds S G1 => dPComp S g tt tk te (wipeS δ vs) (fun acc G2 => Q (.pv acc) G2) ds [] G1 := (rfl)
theorem PairD.put {L : List (Addr × List Key)} {ps : List (Str × Str)} {b : Addr} {p : Str × Str} (q : PairD K.fr H L ps) (hb : BT K.fr H b [.str p.1, .str p.2]) : PairD K.fr H (putT L b (keyP p)) (snocP p ps) := by
  unfold putT snocP
  rw [q.hasK]
  by_cases m : p ∈ ps
  · rw [if_pos (by simpa using m), if_pos m]
    exact q
  · rw [if_neg (by simpa using m), if_neg m]
    refine ⟨by rw [List.map_append, List.map_append, q.1]; rfl, fun x hx => ?_, ?_⟩
    · rcases List.mem_append.mp hx with z | z
      · exact q.2.1 x z
      · rw [List.mem_singleton.mp z]
        exact hb
    · exact List.nodup_append.mpr ⟨q.2.2, by simp, fun x hx y hy z => m (by rw [List.mem_singleton] at hy; rw [← hy, ← z]; exact hx)⟩
theorem pcomp_core (hu : X.A.units + 190 < cLine) {g : DTG} {tk : DTE} {vs : List Nat} {δ : DS} {σ : L2.St} {Q' : D → Gp → Prop} {Q : VK} (R : Rel (kw X) F H G) (S : RepS (kw X) F H δ σ) (k : ∀ v H', post (F := F) (kw X) H G Q' v H' → Q v H') {ds : List D} {Sb : Gp → Prop} {J : It} {F1 : Fr} {H1 : Hp} {G1 : Gp} (k1 : Keep F H G F1 H1 G1) (R1 : Rel (kw X) F1 H1 G1) (wk : Walked (kw X) J F1 H1 G1 ds Sb)
    (q1 : dPComp Sb g t tk te (wipeS δ vs) (fun acc G2 => Q' (.pv acc) G2) ds [] G1) : ∀ D, H1 D = none → ∃ W : Nat → Nat → Hp → Prop, (∃ m, W 0 m (upd H1 D ((putsP X).start D))) ∧ ∀ i m H, W i m H →
  (J.stop i H ∧ ∃ u, H D = some u ∧ Mut (some u) ∧ ∀ od, Q (.ref D) (upd H D (.frz od u))) ∨ (J.go i H ∧ ∃ Nx : Hp → Prop, (∀ H', Nx H' → ∃ m', m' < m ∧ W (i + 1) m' H') ∧ ∀ x H', J.yld i H x H' → upG (kw X) (Pw vs) g x (wipe σ vs) H' fun σ2 H2 => wipe σ2 vs = wipe σ vs ∧ upT (kw X) t σ2 H2 fun b H3 =>
    if b = true then up (kw X) tk σ2 H3 fun y H4 => up (kw X) te σ2 H4 fun z H5 => (putsP X).put y z D H5 Nx else Nx H3) := by
  intro D hD
  have S1 := (S.mono R k1).wipe vs
  have gD : G1 D = none := R1.off0 hD
  have fD : ¬ F1 D := fun f => R1.al D f hD
  refine ⟨fun i m H2 => m = ds.length - i ∧ i ≤ ds.length ∧ ∃ F2 G2 acc L, Keep F1 H1 G1 F2 H2 G2 ∧ Rel (kw X) F2 H2 G2 ∧ RepS (kw X) F2 H2 (wipeS δ vs) (wipe σ vs) ∧ G2 D = none ∧ ¬ F2 D ∧ H2 D = some (DicPO X.prog X.w D L) ∧ PairD X.K H2 L acc ∧ (∀ p ∈ acc, sOk p.1 = true ∧ sOk p.2 = true) ∧
      dPComp Sb g t tk te (wipeS δ vs) (fun acc G2 => Q' (.pv acc) G2) (ds.drop i) acc G2,
    ⟨ds.length, by rw [Nat.sub_zero], Nat.zero_le _, F1, G1, [], [], keep_new R1 hD, rel_new R1 hD, S1.mono R1 (keep_new R1 hD), gD, fD, upd_same, ⟨rfl, fun _ m => (by cases m), List.nodup_nil⟩, fun _ m => (by cases m), q1⟩, ?_⟩
  rintro i m H2 ⟨rfl, hi, F2, G2, acc, L, k2, R2, S2, g2, f2, hD2, ra, oa, q2⟩
  by_cases hlt : i < ds.length
  · rw [List.drop_eq_getElem_cons hlt] at q2
    obtain ⟨s2, q2⟩ := q2
    obtain ⟨_, go⟩ := wk F2 H2 G2 k2 R2 s2
    obtain ⟨go, yl⟩ := go i ds[i] (List.getElem?_eq_getElem hlt)
    refine .inr ⟨go, fun H' => ∃ F3 G3 acc L, Keep F1 H1 G1 F3 H' G3 ∧ Rel (kw X) F3 H' G3 ∧ RepS (kw X) F3 H' (wipeS δ vs) (wipe σ vs) ∧ G3 D = none ∧ ¬ F3 D ∧ H' D = some (DicPO X.prog X.w D L) ∧ PairD X.K H' L acc ∧ (∀ p ∈ acc, sOk p.1 = true ∧ sOk p.2 = true) ∧
      dPComp Sb g t tk te (wipeS δ vs) (fun acc G2 => Q' (.pv acc) G2) (ds.drop (i + 1)) acc G3, fun H' h => ⟨ds.length - (i + 1), by omega, rfl, hlt, h⟩, fun x H' y => ?_⟩
    obtain ⟨F3, k3, R3, r3⟩ := yl x H' y
    refine ⟨F3, ds[i], wipeS δ vs, G2, _, R3, r3, S2.mono R2 k3, q2, fun σ4 H4 p4 ⟨δ4, F4, G4, k4, R4, S4, q4⟩ => ?_⟩
    refine ⟨by rw [p4, wipe_wipe], F4, δ4, G4, _, R4, S4, q4, fun b H5 ⟨F5, G5, k5, R5, q5⟩ => ?_⟩
    have kk := ((k2.trans k3).trans k4).trans k5
    have k25 := (k3.trans k4).trans k5
    cases b with
    | true =>
      refine iteT ?_
      refine ⟨F5, δ4, G5, _, R5, S4.mono R4 k5, q5, fun v0 H5' ⟨d0, F5', G5', k5', R5', p5', q5'⟩ => ?_⟩
      refine ⟨F5', δ4, G5', _, R5', (S4.mono R4 k5).mono R5 k5', q5', fun v H6 ⟨d, F6, G6, k6, R6, p6, q6⟩ => ?_⟩
      obtain ⟨p, ep, ed, hl, q7⟩ := optQ_ex q6
      obtain rfl := prOf_eq ep
      subst ed
      have p7 := Rep.mono R5' k6 _ _ p5'
      obtain ⟨bt, ys, rfl, hb, hy⟩ := p7
      obtain ⟨v1, r1, rfl, ⟨rfl, o1⟩, v2, r2, rfl, ⟨rfl, o2⟩, rfl⟩ := hy
      have k26 := (k25.trans k5').trans k6
      obtain ⟨h6, g6, f6⟩ := k26.k D _ g2 hD2
      have nf : ¬ F6 D := fun z => f2 (f6.mp z)
      have ra6 := ra.stay (k26.stay R2).tup
      have st := stay_hidP (F := F6) (o := DicPO X.prog X.w D (putT L bt (keyP p))) h6 nf
      have k16 := (kk.trans k5').trans k6
      have hlen : L.length < sizeLine := by
        have := congrArg List.length ra.1
        rw [List.length_map, List.length_map] at this
        omega
      refine ⟨bt, keyP p, L, rfl, p6, hu, hb.sq, h6, fun q m => (ra6.2.1 q m).sq, hlen, F6, G6, snocP p acc, _, ⟨fun a u ga ha => ?_⟩, rel_hidP R6 h6 nf g6, ?_, g6, nf, upd_same, (PairD.put (K := kw X) ra6 hb).stay st.tup, fun r hr => ?_, q7⟩
      · obtain ⟨a1, a2, a3⟩ := k16.k a u ga ha
        exact ⟨by rw [upd_ne (fun z => by subst z; rw [hD] at ha; cases ha)]; exact a1, a2, a3⟩
      · have s6 := S2.mono R2 k26
        exact ⟨s6.len, fun j d' ej => by obtain ⟨v', e1, e2⟩ := s6.at' j d' ej; exact ⟨v', e1, Rep.stay st _ _ e2⟩⟩
      · unfold snocP at hr
        split at hr
        · exact oa r hr
        · rcases List.mem_append.mp hr with z | z
          · exact oa r z
          · rw [List.mem_singleton.mp z]
            exact ⟨o1, o2⟩
    | false =>
      refine iteF ?_
      obtain ⟨h5, g5, f5⟩ := k25.k D _ g2 hD2
      exact ⟨F5, G5, acc, L, kk, R5, S2.mono R2 k25, g5, fun z => f2 (f5.mp z), h5, ra.stay (k25.stay R2).tup, oa, q5⟩
  · have ei : i = ds.length := by omega
    subst ei
    rw [List.drop_length] at q2
    obtain ⟨s2, q2⟩ := q2
    obtain ⟨stop, _⟩ := wk F2 H2 G2 k2 R2 s2
    refine .inl ⟨stop _ (Nat.le_refl _), _, hD2, trivial, fun od => k _ _ ⟨.pv acc, F2, G2, ⟨fun a' u ga ha => ?_⟩, rel_hidP R2 hD2 f2 g2, ⟨D, od, L, rfl, upd_same, ra.stay (stay_hidP (F := F2) hD2 f2).tup, oa⟩, q2⟩⟩
    obtain ⟨a1, a2, a3⟩ := (k1.trans k2).k a' u ga ha
    have nD : a' ≠ D := fun z => by
      subst z
      have := (k1.k a' u ga ha).1
      rw [hD] at this
      cases this
    exact ⟨by rw [upd_ne nD]; exact a1, a2, a3⟩
theorem q_dcP {kx vx iter : Expr} {ifs : List Expr} {scope : Scope} {own : List (Str × Nat)} {wi : DTI} {g : DTG} {tk : DTE} (hu : X.A.units + 190 < cLine) (hc : X.calm = true) (hN : X.N.Nodup) (hi : QI X tg iter wi) (ok : blkC X.N X.env.scope scope own = true)
    (hg : ∀ (s : Shared) (H : Hp) (C : Addr) (cl : List (Str × Addr)) (fp : List Addr), QG (X.blk s H scope (compEnvC scope cl C X.env) fp) (Pw (own.map (·.2))) tg g) (ht : ∀ (s : Shared) (H : Hp) (C : Addr) (cl : List (Str × Addr)) (fp : List Addr), QTs (X.blk s H scope (compEnvC scope cl C X.env) fp) ifs t)
    (hk : ∀ (s : Shared) (H : Hp) (C : Addr) (cl : List (Str × Addr)) (fp : List Addr), QE (X.blk s H scope (compEnvC scope cl C X.env) fp) kx tk)
    (he : ∀ (s : Shared) (H : Hp) (C : Addr) (cl : List (Str × Addr)) (fp : List Addr), QE (X.blk s H scope (compEnvC scope cl C X.env) fp) vx te) (hs : ∀ x, foldedSetIterable iter X.env x = pure x := by intro _; rfl) :
    QE X (.DictComp kx vx [⟨tg, iter, ifs, 0⟩] scope pos) (dDcP wi g t tk te (own.map (·.2))) := PEmono (pe_dg (putsP X) (g := upG (kw X) (Pw (own.map fun (p : Str × Nat) => p.2)) g) (tt := upT (kw X) t) (tk := up (kw X) tk) (tv := up (kw X) te) hc hN hi (blkOk_by ok) hg ht hk he hs) fun σ H Q ⟨F, δ, G, Q', R, S, q, k⟩ =>
    ⟨F, δ, G, _, R, S, q, fun ds Sb J F1 H1 G1 k1 R1 wk q1 => pcomp_core hu R S k k1 R1 wk q1⟩
theorem ps_setDg (B : Puts X) {i : Nat} {y : Str} {py : Pos} {kx vx iter : Expr} {ifs : List Expr} {sco : Scope} {own : List (Str × Nat)} {p1 p2 : Pos} {wi : TI} {g : TG} {tt : TT} {tk tv : TE} (hcal : X.calm = true) (hnd : X.N.Nodup) (hy : X.N[i]? = some y) (hloc : X.env.scope.names.lookup y = some .local)
    (hsw : swapsWith (.DictComp kx vx [⟨tg, iter, ifs, 0⟩] sco p1) (some (.Name y py)) p2.line X.env = pure true) (hi : PI X tg iter wi) (okb : BlkOk X.N X.env.scope sco own)
    (fg : ∀ (s : Shared) (H : Hp) (C : Addr) (cl : List (Str × Addr)) (fp : List Addr), PG (X.blk s H sco (compEnvC sco cl C X.env) fp) tg g) (ft : ∀ (s : Shared) (H : Hp) (C : Addr) (cl : List (Str × Addr)) (fp : List Addr), PTs (X.blk s H sco (compEnvC sco cl C X.env) fp) ifs tt)
    (fk : ∀ (s : Shared) (H : Hp) (C : Addr) (cl : List (Str × Addr)) (fp : List Addr), PE (X.blk s H sco (compEnvC sco cl C X.env) fp) kx tk)
    (fv : ∀ (s : Shared) (H : Hp) (C : Addr) (cl : List (Str × Addr)) (fp : List Addr), PE (X.blk s H sco (compEnvC sco cl C X.env) fp) vx tv) (hs : ∀ x, foldedSetIterable iter X.env x = pure x := by intro _; rfl) :
    PS X (.Assign [.Name y py] (.DictComp kx vx [⟨tg, iter, ifs, 0⟩] sco p1) p2) (tAsg (tDg B wi g tt tk tv (own.map (·.2))) (gName i)) := by
  refine ⟨fun pins s σ H D Iv hh => ?_⟩
  rw [exec_Assign_Name_used _ _ _ _ hsw]
  refine wpAny_bind (wpAny_standAt (wpAny_bind ?_))
  show wpAny _ X.A (comprehension (.DictComp kx vx [⟨tg, iter, ifs, 0⟩] sco p1) sco X.env (firstIterPos [⟨tg, iter, ifs, 0⟩] p1) newDict false (eval iter X.env) (some (assign (.Name y py) X.env)) >>= _) _ _ s
  have hh : tDg B wi g tt tk tv (own.map (·.2)) σ H (fun x H1 => gName i x σ H1 D.nx) := hh
  refine wpAny_bind (thn (dg_core B (Qf := fun _ s' => SP X pins D .next s') hcal hnd hi okb fg ft fk fv hs Iv hh fun DA C s' m H' J q hn fo => ?_) fun _ s' hq => wpAny_pure (wpAny_pure hq))
  show wpAny _ _ (assign (.Name y py) X.env (.ref DA)) _ _ _
  refine wpAny_assign_Name (store_ok2 (v := V.ref DA) J hnd hy (.inl hloc) rfl (fun s2 J2 ⟨a, sb, ha⟩ => ?_) (.inr hloc))
  obtain ⟨o0, o1, o2, o3, o4, o5⟩ := fo
  have hne : C ≠ a := by
    rcases ha with z | z
    · rw [z] <;> exact o1
    · exact fun e => o4 y a z e.symm
  refine ⟨m, hn.sameBut sb hne, fun h3 sb3 => ?_⟩
  exact ⟨_, H', J2.turned (t' := s2.toks) (fun b o hb e => Eq.trans (sb3.2 b hb) e) o0 o1 o3 o4 o5, q⟩
theorem qs_setDcP {i : Nat} {y : Str} {py : Pos} {kx vx iter : Expr} {ifs : List Expr} {scope : Scope} {own : List (Str × Nat)} {spos : Pos} {wi : DTI} {g : DTG} {tk : DTE} (hu : X.A.units + 190 < cLine) (hc : X.calm = true) (hN : X.N.Nodup) (hy : X.N[i]? = some y) (hyl : X.env.scope.names.lookup y = some .local)
    (hk : X.env.scope.kind = .function) (hl : (py.line == pos.line) = true) (hn : (scope.names.any fun (n, k) => n == y && (k == .local || k == .cell)) = false) (hi : QI X tg iter wi) (ok : blkC X.N X.env.scope scope own = true)
    (hg : ∀ (s : Shared) (H : Hp) (C : Addr) (cl : List (Str × Addr)) (fp : List Addr), QG (X.blk s H scope (compEnvC scope cl C X.env) fp) (Pw (own.map (·.2))) tg g) (ht : ∀ (s : Shared) (H : Hp) (C : Addr) (cl : List (Str × Addr)) (fp : List Addr), QTs (X.blk s H scope (compEnvC scope cl C X.env) fp) ifs t)
    (hx : ∀ (s : Shared) (H : Hp) (C : Addr) (cl : List (Str × Addr)) (fp : List Addr), QE (X.blk s H scope (compEnvC scope cl C X.env) fp) kx tk)
    (he : ∀ (s : Shared) (H : Hp) (C : Addr) (cl : List (Str × Addr)) (fp : List Addr), QE (X.blk s H scope (compEnvC scope cl C X.env) fp) vx te) (hs : ∀ x, foldedSetIterable iter X.env x = pure x := by intro _; rfl) :
    QS X (.Assign [.Name y py] (.DictComp kx vx [⟨tg, iter, ifs, 0⟩] scope pos) spos) (dAsg (dDcP wi g t tk te (own.map (·.2))) (dName i)) :=
  PSmono (ps_setDg (putsP X) (g := upG (kw X) (Pw (own.map fun (p : Str × Nat) => p.2)) g) (tt := upT (kw X) t) (tk := up (kw X) tk) (tv := up (kw X) te) hc hN hy hyl (swapDc hk hyl hl hn) hi (blkOk_by ok) hg ht hx he hs)
    fun _ _ _ h => upSet (fun σ H Q ⟨F, δ, G, Q', R, S, q, k⟩ => ⟨F, δ, G, _, R, S, q, fun ds Sb J F1 H1 G1 k1 R1 wk q1 => pcomp_core hu R S k k1 R1 wk q1⟩) h
end
end DL
set_option Elab.async false
set_option linter.all false
set_option maxRecDepth 100000
set_option maxHeartbeats 4000000
namespace DL
open PySem PySem.Spec PyProof.Rows L2
/-! ### a table laid anew has room, masks 7, 15, 31 -/
def Cyc (m : Nat) : Prop := ∀ i, i ≤ m → ∀ j, j ≤ m → ∃ k, k ≤ m ∧ lcgI m i k = j
theorem cyc_fin : (∀ i : Fin 8, ∀ j : Fin 8, ∃ k : Fin 8, lcgI 7 i.val k.val = j.val) ∧ (∀ i : Fin 16, ∀ j : Fin 16, ∃ k : Fin 16, lcgI 15 i.val k.val = j.val) ∧ ∀ i : Fin 32, ∀ j : Fin 32, ∃ k : Fin 32, lcgI 31 i.val k.val = j.val := by decide +kernel
theorem cyc_of {m : Nat} (h : m = 7 ∨ m = 15 ∨ m = 31) : Cyc m := by
  intro i hi j hj
  rcases h with rfl | rfl | rfl
  · obtain ⟨k, e⟩ := cyc_fin.1 ⟨i, by omega⟩ ⟨j, by omega⟩
    exact ⟨k.val, by omega, e⟩
  · obtain ⟨k, e⟩ := cyc_fin.2.1 ⟨i, by omega⟩ ⟨j, by omega⟩
    exact ⟨k.val, by omega, e⟩
  · obtain ⟨k, e⟩ := cyc_fin.2.2 ⟨i, by omega⟩ ⟨j, by omega⟩
    exact ⟨k.val, by omega, e⟩
theorem meets_all {m : Nat} (hm : Cyc m) (h : Int) {j : Nat} (hj : j ≤ m) : ∃ n, n ≤ m + 12 ∧ runI m (SetTable.bits h) n = j := by
  obtain ⟨k, hk, e⟩ := hm (runI m (SetTable.bits h) 12) (runI_le m _ 12) j hj
  exact ⟨12 + k, by omega, by rw [runI_tail (bits_lt h)]; exact e⟩
theorem free_none (m : Nat) (owner : Array (Option Nat)) : ∀ (f i b : Nat), SetTable.layClean.free m owner f i b = none → ∀ n, n < f → oAt owner (itL m i b n).1 ≠ none
  | 0, _, _, _, n, hn => absurd hn (Nat.not_lt_zero _)
  | f + 1, i, b, h, n, hn => by
    rw [free_succ] at h
    cases c : (List.range (SetTable.runEnd m i + 1 - i)).find? fun k => (oAt owner (i + k)).isNone with
    | some k => rw [c] at h; cases h
    | none =>
      rw [c] at h
      cases n with
      | zero =>
        have hge := runEnd_ge m i
        have := List.find?_eq_none.mp c 0 (List.mem_range.mpr (by omega))
        intro z
        have z : oAt owner (i + 0) = none := z
        rw [z] at this
        exact this rfl
      | succ n => exact free_none m owner f _ _ h n (by omega)
theorem free_some {m : Nat} (hm : Cyc m) (owner : Array (Option Nat)) (h : Int) {j : Nat} (hj : j ≤ m) (hf : oAt owner j = none) : ∃ k, SetTable.layClean.free m owner (SetTable.turns m) (SetTable.bits h % (m + 1)) (SetTable.bits h) = some k := by
  cases e : SetTable.layClean.free m owner (SetTable.turns m) (SetTable.bits h % (m + 1)) (SetTable.bits h) with
  | some k => exact ⟨k, rfl⟩
  | none =>
    exfalso
    obtain ⟨n, hn, en⟩ := meets_all hm h hj
    have := free_none m owner _ _ _ e n (by unfold SetTable.turns; omega)
    rw [itL_run] at this
    exact this (by show oAt owner (runI m (SetTable.bits h) n) = none; rw [en]; exact hf)
theorem free_at (m : Nat) (owner : Array (Option Nat)) : ∀ (f i b k : Nat), i ≤ m → SetTable.layClean.free m owner f i b = some k → k ≤ m ∧ oAt owner k = none
  | 0, _, _, _, _, h => by cases h
  | f + 1, i, b, k, hi, h => by
    rw [free_succ] at h
    cases c : (List.range (SetTable.runEnd m i + 1 - i)).find? fun k => (oAt owner (i + k)).isNone with
    | some k' =>
      rw [c] at h
      cases h
      have h1 := List.find?_some c
      have h2 := List.mem_range.mp (List.mem_of_find?_eq_some c)
      have h3 := (runEnd_bd hi).1
      refine ⟨by omega, ?_⟩
      cases e : oAt owner (i + k') with
      | none => rfl
      | some x => rw [e] at h1; cases h1
    | none =>
      rw [c] at h
      exact free_at m owner f _ _ k (leap_le m i b) h
structure Own2 (m n : Nat) (owner : Array (Option Nat)) : Prop where
  sz : owner.size = m + 1
  all : ∀ k, k < n → ∃ j, j ≤ m ∧ oAt owner j = some k
  ps : ∃ ps : List Nat, ps.length = n ∧ ∀ j, j ≤ m → oAt owner j ≠ none → j ∈ ps
theorem Own2.step {m n : Nat} (hm : Cyc m) {owner : Array (Option Nat)} (W : Own2 m n owner) (hl : n ≤ m) (h : Int) :
    ∃ j, SetTable.layClean.free m owner (SetTable.turns m) (SetTable.bits h % (m + 1)) (SetTable.bits h) = some j ∧ Own2 m (n + 1) (owner.setIfInBounds j (some n)) := by
  obtain ⟨ps, hps, hin⟩ := W.ps
  obtain ⟨j0, h0, hn0⟩ := st_missing ps (m + 1) (by omega)
  have hj0 : oAt owner j0 = none := by
    cases z : oAt owner j0 with
    | none => rfl
    | some k => exact absurd (hin j0 (Nat.le_of_lt_succ h0) (by rw [z]; exact fun e => nomatch e)) hn0
  obtain ⟨j, ej⟩ := free_some hm owner h (Nat.le_of_lt_succ h0) hj0
  obtain ⟨jm, jn⟩ := free_at m owner _ _ _ j (Nat.le_of_lt_succ (Nat.mod_lt _ (Nat.succ_pos _))) ej
  have jz : j < owner.size := by rw [W.sz]; omega
  refine ⟨j, ej, by rw [Array.size_setIfInBounds]; exact W.sz, fun k hk => ?_, j :: ps, by rw [List.length_cons, hps], fun i hi e => ?_⟩
  · by_cases c : k = n
    · exact ⟨j, jm, by rw [oAt_set_self _ jz, c]⟩
    · obtain ⟨i, i1, i2⟩ := W.all k (by omega)
      have : i ≠ j := fun z => by rw [z, jn] at i2; cases i2
      exact ⟨i, i1, by rw [oAt_set_ne _ this]; exact i2⟩
  · by_cases c : i = j
    · rw [c]; exact List.mem_cons_self
    · rw [oAt_set_ne _ c] at e
      exact List.mem_cons_of_mem _ (hin i hi e)
theorem fold_some {m : Nat} (hm : Cyc m) : ∀ (rest : List Int) (n : Nat) (owner : Array (Option Nat)), Own2 m n owner → n + rest.length ≤ m + 1 → ∃ owner', rest.foldl (stepF m) (some (owner, n)) = some (owner', n + rest.length) ∧ Own2 m (n + rest.length) owner'
  | [], n, owner, W, _ => ⟨owner, rfl, W⟩
  | h :: rest, n, owner, W, hl => by
    rw [List.length_cons] at hl
    obtain ⟨j, e, W'⟩ := W.step hm (by omega) h
    obtain ⟨o', f, W2⟩ := fold_some hm rest (n + 1) _ W' (by omega)
    have ea : n + (h :: rest).length = n + 1 + rest.length := by rw [List.length_cons]; omega
    refine ⟨o', ?_, by rw [ea]; exact W2⟩
    rw [List.foldl_cons, stepF_some e, ea]
    exact f
theorem laid_some {m fg mv : Nat} {led pl : Bool} (hm : Cyc m) {hs : Array Int} (hn : hs.size ≤ m) :
    ∃ t order, SetTable.laid m fg mv led pl hs = some (t, order) ∧ order.toList.Perm (List.range hs.size) ∧ t.place.size = hs.size ∧ t.dummies = #[] ∧ t.mask = m ∧ Ris t.place.toList ∧ t.led = led := by
  obtain ⟨owner, f, W⟩ := fold_some hm hs.toList 0 (Array.replicate (m + 1) none) ⟨by simp, fun k hk => absurd hk (Nat.not_lt_zero _), [], rfl, fun j hj e => absurd (oAt_init hj) e⟩ (by rw [Array.length_toList]; omega)
  rw [Nat.zero_add, Array.length_toList] at f W
  have e : SetTable.layClean m hs = some owner := by
    rw [layClean_eq, f]
    rfl
  have hr : SetTable.laid m fg mv led pl hs = some ({ mask := m, place := ((liveOf m owner).map (·.1)).toArray, dummies := #[], finger := fg, led := led, moves := mv, plain := pl }, ((liveOf m owner).map (·.2)).toArray) := by
    show (SetTable.layClean m hs).bind _ = _
    rw [e]
    rfl
  have ris := ris_live (fun j => owner.getD j none) (List.range (m + 1)) (by
    unfold Ris
    first | exact List.pairwise_lt_range | exact List.pairwise_lt_range _)
  have r1 : Ris ((liveOf m owner).map (·.1)) := ris.1
  have nd : ((liveOf m owner).map (·.1)).Nodup := List.Pairwise.imp (fun h => Nat.ne_of_lt h) r1
  have hlen : (liveOf m owner).length = hs.size := by
    obtain ⟨ps, p1, p2⟩ := W.ps
    have a := nat_nodup_len ((liveOf m owner).map (·.1)) ps nd fun x hx => by
      obtain ⟨⟨y, k⟩, hq, rfl⟩ := List.mem_map.mp hx
      obtain ⟨b1, b2⟩ := (mem_live W.sz).1 hq
      exact p2 y b1 (by rw [b2]; exact fun z => nomatch z)
    have b := nat_nodup_len (List.range hs.size) ((liveOf m owner).map (·.2)) List.nodup_range fun k hk => by
      obtain ⟨j, b1, b2⟩ := W.all k (List.mem_range.mp hk)
      exact List.mem_map.mpr ⟨(j, k), (mem_live W.sz).2 ⟨b1, b2⟩, rfl⟩
    rw [List.length_map, p1] at a
    rw [List.length_map, List.length_range] at b
    omega
  refine ⟨_, _, hr, ?_, ?_, rfl, rfl, r1, rfl⟩
  · refine perm_range hs.size _ ?_ fun k hk => ?_
    · show ((liveOf m owner).map (·.2)).length = hs.size
      rw [List.length_map]
      exact hlen
    · obtain ⟨j, b1, b2⟩ := W.all k hk
      exact List.mem_map.mpr ⟨(j, k), (mem_live W.sz).2 ⟨b1, b2⟩, rfl⟩
  · show ((liveOf m owner).map (·.1)).toArray.size = hs.size
    rw [List.size_toArray, List.length_map]
    exact hlen
/-- the entries in another order -/
theorem order_perm {es : Array (Int × Value)} {order : Array Nat} (h : order.toList.Perm (List.range es.size)) : (order.filterMap (es[·]?)).toList.Perm es.toList := by
  rw [Array.toList_filterMap]
  have h1 := h.filterMap (fun i => es[i]?)
  have h2 : ∀ n, n ≤ es.size → ((List.range n).filterMap fun i => es[i]?) = es.toList.take n := fun n => by
    induction n with
    | zero => intro _; rfl
    | succ n ih =>
      intro hn
      have e : es.toList[n]? = some es[n] := by rw [Array.getElem?_toList]; exact Array.getElem?_eq_getElem hn
      rw [List.range_succ, List.filterMap_append, ih (by omega), List.take_add_one, e]
      simp [Array.getElem?_eq_getElem hn]
  rw [h2 _ (Nat.le_refl _), List.take_of_length_le (by rw [Array.length_toList]; exact Nat.le_refl _)] at h1
  exact h1
end DL
set_option Elab.async false
set_option linter.all false
set_option maxRecDepth 100000
set_option maxHeartbeats 4000000
namespace DL
open PySem PySem.Spec PyProof.Rows L2
/-! ### one set merged into another -/
/-- the set of ints at a, its table told -/
structure SetM (w : World) (h : Heap) (a : Addr) (S : Int → Bool) (n : Nat) (o : Obj) (es : Array (Int × Value)) (ep : Nat) (t : SetTable) : Prop where
  ho : h.get? a = some o
  ex : o.ExactSet
  hd : o.data = .set es ep t
  g : ∀ e ∈ es.toList, GoodE e
  nd : (es.toList.map L2.keyOf).Nodup
  mem : ∀ k, S k = true ↔ k ∈ es.toList.map L2.keyOf
  bd : es.size < scanBound
  fit : t.fits es.size = true
  sz : es.size = n
  ris : Ris t.place.toList
  led : w.params.followText "set-order" = true ∨ t.led = true
section
variable {P : Program} {w : World} {A : Around} {E : Value → Shared → Prop} {s : Shared} {a b : Addr} {S S' : Int → Bool} {n m : Nat} {h h' : Heap} {o : Obj} {es : Array (Int × Value)} {ep : Nat} {t : SetTable}
theorem SetM.of (R : SetR w h a S n) : ∃ o es ep t, SetM w h a S n o es ep t := by
  obtain ⟨o, es, ep, t, h1, h2, h3, h4, h5, h6, h7, h8, h9, h10, h11⟩ := R
  exact ⟨o, es, ep, t, h1, h2, h3, h4, h5, h6, h7, h8, h9, h10, h11⟩
theorem SetM.r (M : SetM w h a S n o es ep t) : SetR w h a S n := ⟨o, es, ep, t, M.ho, M.ex, M.hd, M.g, M.nd, M.mem, M.bd, M.fit, M.sz, M.ris, M.led⟩
theorem SetM.at (M : SetM w h a S n o es ep t) (k : ∀ o, h.get? a = some o → h'.get? a = some o) : SetM w h' a S n o es ep t := { M with ho := k o M.ho }
/-- stored anew, the same entries in some order -/
theorem SetM.put (M : SetM w h a S n o es ep t) {es' : Array (Int × Value)} {t' : SetTable} (p : es'.toList.Perm es.toList) (hf : t'.fits es.size = true) (hr : Ris t'.place.toList) (hl : t'.led = t.led) : SetM w (h.update a (Obj.putSet es' t')) a S n { o with data := .set es' (ep + 1) t' } es' (ep + 1) t' := by
  have hsz : es'.size = es.size := by rw [← Array.length_toList, p.length_eq, Array.length_toList]
  exact ⟨store_at M.ho M.hd, M.ex, rfl, fun e he => M.g e (p.mem_iff.mp he), (p.map L2.keyOf).nodup_iff.mpr M.nd, fun k => (M.mem k).trans (p.map L2.keyOf).mem_iff.symm, by rw [hsz]; exact M.bd, by rw [hsz]; exact hf, hsz.trans M.sz, hr, M.led.imp id fun z => by rw [hl]; exact z⟩
theorem mszA (k : Nat) (h : k ≤ 15) : SetTable.sizeAbove (k * 2) - 1 = 7 ∨ SetTable.sizeAbove (k * 2) - 1 = 15 ∨ SetTable.sizeAbove (k * 2) - 1 = 31 := by
  have : ∀ k : Fin 16, SetTable.sizeAbove (k.val * 2) - 1 = 7 ∨ SetTable.sizeAbove (k.val * 2) - 1 = 15 ∨ SetTable.sizeAbove (k.val * 2) - 1 = 31 := by decide +kernel
  exact this ⟨k, by omega⟩
theorem mszB (k : Nat) (h : k ≤ 15) : k * 2 ≤ SetTable.sizeAbove (k * 2) - 1 ∧ SetTable.sizeAbove (k * 2) ≤ 32 := by
  have : ∀ k : Fin 16, k.val * 2 ≤ SetTable.sizeAbove (k.val * 2) - 1 ∧ SetTable.sizeAbove (k.val * 2) ≤ 32 := by decide +kernel
  exact this ⟨k, by omega⟩
/-- the table laid anew, with room for more -/
theorem relay_m {k : Nat} (M : SetM w s.heap a S n o es ep t) (hk : k ≤ 15) (hn : n ≤ k) {Q : Unit → Shared → Prop}
    (hQ : ∀ (o' : Obj) (es' : Array (Int × Value)) (ep' : Nat) (t' : SetTable) (h' : Heap), Heap.SameBut a s.heap h' → SetM w h' a S n o' es' ep' t' → (t'.mask = 7 ∨ t'.mask = 15 ∨ t'.mask = 31) → k * 2 ≤ t'.mask → t'.dummies = #[] → Q () { s with heap := h' }) :
    wpAny (model P w) A (setRelay a (k * 2)) Q E s := by
  obtain ⟨b1, b2⟩ := mszB k hk
  have hz : es.size = n := M.sz
  obtain ⟨t', order, e, hp, h1, h2, h3, h4, h5⟩ := laid_some (m := SetTable.sizeAbove (k * 2) - 1) (fg := t.finger) (mv := t.movedTo (SetTable.sizeAbove (k * 2) - 1)) (led := t.led) (pl := t.plain) (cyc_of (mszA k hk)) (hs := es.map (·.1)) (by rw [Array.size_map]; omega)
  rw [Array.size_map] at hp h1
  have pm := order_perm hp
  have hs2 : (order.filterMap (es[·]?)).size = es.size := by rw [← Array.length_toList, pm.length_eq, Array.length_toList]
  have e' : t.relaid (es.map (·.1)) (k * 2) = some (t', order) := e
  rw [setRelay_eq]
  refine wpAny_bind (wpAny_setState_of M.ho M.hd M.fit ?_)
  dsimp only
  refine wp_if_neg (by rw [sizeLine_eq]; omega) ?_
  try refine wpAny_bind (wpAny_pure ?_)
  rw [e']
  dsimp only
  refine wpAny_bind ?_
  refine wp_if_neg (by rw [hs2]; simp) ?_
  try refine wpAny_bind (wpAny_pure ?_)
  refine wpAny_pure ?_
  dsimp only
  refine wpAny_storeSet_of M.ho M.hd ?_ (by rw [hs2, hz, sizeLine_eq]; omega)
  have hf : t'.fits es.size = true := by
    unfold SetTable.fits SetTable.fill
    rw [h2, h1, h3, Bool.and_eq_true, beq_iff_eq, decide_eq_true_eq]
    refine ⟨rfl, ?_⟩
    show es.size + 0 ≤ _
    omega
  exact hQ _ _ _ _ _ (Heap.SameBut.update ..) (M.put pm hf h4 h5) (by rw [h3]; exact mszA k hk) (by rw [h3]; exact b1) h2
theorem room_m {k : Nat} (M : SetM w s.heap a S n o es ep t) (hk : n + k ≤ 15) (hd0 : t.dummies = #[] ∨ 0 < n) {Q : Unit → Shared → Prop}
    (hQ : ∀ (o' : Obj) (es' : Array (Int × Value)) (ep' : Nat) (t' : SetTable) (h' : Heap), Heap.SameBut a s.heap h' → SetM w h' a S n o' es' ep' t' → ((t' = t ∧ h' = s.heap ∧ (t.fill + k) * 5 < t.mask * 3) ∨ ((t'.mask = 7 ∨ t'.mask = 15 ∨ t'.mask = 31) ∧ k ≤ t'.mask ∧ t'.dummies = #[])) → Q () { s with heap := h' }) :
    wpAny (model P w) A (setRoomFor a k) Q E s := by
  unfold setRoomFor
  refine wpAny_bind (wpAny_setState_of M.ho M.hd M.fit ?_)
  dsimp only
  unfold SetTable.roomFor
  by_cases c : (t.fill + k) * 5 ≥ t.mask * 3
  · rw [if_pos c]
    have hp : t.place.size = n := by
      have := M.fit
      simp only [SetTable.fits, Bool.and_eq_true, beq_iff_eq] at this
      rw [this.1]
      exact M.sz
    rw [hp]
    refine relay_m M hk (Nat.le_add_right _ _) fun o' es' ep' t' h' sb M' m1 m2 m3 => hQ o' es' ep' t' h' sb M' (.inr ⟨m1, by omega, m3⟩)
  · rw [if_neg c]
    refine wpAny_pure ?_
    have sb : Heap.SameBut a s.heap s.heap := ⟨rfl, fun _ _ => rfl⟩
    exact hQ o es ep t s.heap sb M (.inl ⟨rfl, rfl, by omega⟩)
end
end DL
set_option Elab.async false
set_option linter.all false
set_option maxRecDepth 100000
set_option maxHeartbeats 4000000
namespace DL
open PySem PySem.Spec PyProof.Rows L2
section
variable {P : Program} {w : World} {A : Around} {E : Value → Shared → Prop} {s : Shared} {a b : Addr} {S S' : Int → Bool} {n m : Nat} {h h' : Heap} {o : Obj} {es : Array (Int × Value)} {ep : Nat} {t : SetTable}
/-- a walk gives the entries in some order -/
theorem walk_m (M : SetM w s.heap a S n o es ep t) {Q : Array (Int × Value) → Shared → Prop} (hQ : ∀ (out : Array (Int × Value)) (d : Drawn), out.toList.Perm es.toList → Q out { s with drawn := d }) : wpAny (model P w) A (setWalk a) Q E s := by
  unfold setWalk
  refine wpAny_bind (wpAny_setState_of M.ho M.hd M.fit ?_)
  dsimp only
  refine wpAny_bind (wpAny_byText ?_)
  cases hb : w.params.followText "set-order" with
  | true =>
    refine wp_if_pos rfl ?_
    exact wpAny_bind (wpAny_askSetting (wpAny_pure (hQ _ s.drawn (pick_perm _ _))))
  | false =>
    have hl : t.led = true := M.led.resolve_left (by rw [hb]; exact Bool.false_ne_true)
    refine wp_if_neg Bool.false_ne_true ?_
    try refine wpAny_bind (wpAny_pure ?_)
    by_cases c : (!t.plain && decide (es.size > 1)) = true
    · refine wp_if_pos (show (!t.plain && decide (es.size > 1)) = true from c) ?_
      refine wpAny_bind (drawOrder_at es.size es.toList s _ (by rw [Array.length_toList]; exact Nat.le_refl _) fun ys d hp => ?_)
      exact wpAny_pure (hQ ys.toArray d (by simpa using hp))
    · refine wp_if_neg (show ¬ (!t.plain && decide (es.size > 1)) = true from c) ?_
      try refine wpAny_bind (wpAny_pure ?_)
      refine wpAny_bind (wpAny_of_eq (a := ()) ?_ ?_)
      · show (if (!t.led && decide (es.size > 1)) = true then unsupported "set:maker-not-led" else pure ()) = pure ()
        rw [hl]
        rfl
      · exact wpAny_pure (hQ es s.drawn (List.Perm.refl _))
theorem quiet_loop {f : Int × Value → Option Bool × Unit → Sem (ForInStep (Option Bool × Unit))} (hf : ∀ (h : Int) (k : Int) (tk : Tok) (r : Option Bool × Unit), f (h, .int k tk) r = pure (.yield (none, ()))) : ∀ (l : List (Int × Value)), (∀ e ∈ l, GoodE e) → forIn l ((none, ()) : Option Bool × Unit) f = pure (none, ())
  | [], _ => by rw [List.forIn_nil]
  | (h, v) :: l, hg => by
    obtain ⟨k, tk, e, _⟩ := hg _ List.mem_cons_self
    have e : v = .int k tk := e
    rw [List.forIn_cons, e, hf, pure_bind]
    exact quiet_loop hf l fun x hx => hg x (List.mem_cons_of_mem _ hx)
theorem quiet_m {o1 : Obj} {es1 : Array (Int × Value)} {ep1 : Nat} {t1 : SetTable} {n0 : Nat} (M : SetM w s.heap b S' m o es ep t) (N : SetM w s.heap a S n0 o1 es1 ep1 t1) {Q : Bool → Shared → Prop} (hQ : Q true s) : wpAny (model P w) A (setsQuiet [b, a]) Q E s := by
  unfold setsQuiet
  rw [List.forIn_cons]
  refine wpAny_bind (wpAny_bind (wpAny_bind (wpAny_setEntries_of M.ho M.hd M.fit ?_)))
  rw [← Array.forIn_toList, quiet_loop (fun h k tk r => rfl) es.toList M.g]
  rw [pure_bind]
  refine wpAny_pure ?_
  dsimp only
  rw [List.forIn_cons]
  refine wpAny_bind (wpAny_bind (wpAny_setEntries_of N.ho N.hd N.fit ?_))
  rw [← Array.forIn_toList, quiet_loop (fun h k tk r => rfl) es1.toList N.g]
  rw [pure_bind]
  refine wpAny_pure ?_
  dsimp only
  rw [List.forIn_nil]
  exact wpAny_pure (wpAny_pure hQ)
theorem unseen_m (M : SetM w s.heap b S' m o es ep t) {n0 : Nat} {o1 : Obj} {es1 : Array (Int × Value)} {ep1 : Nat} {t1 : SetTable} (N : SetM w s.heap a S n0 o1 es1 ep1 t1) (ne : b ≠ a) {Q : Array (Int × Value) → Shared → Prop}
    (hQ : ∀ (out : Array (Int × Value)) (d : Drawn) (h' : Heap) (o2 : Obj) (ep2 : Nat) (t2 : SetTable), out.toList.Perm es.toList → Heap.SameBut a s.heap h' → SetM w h' a S n0 o2 es1 ep2 t2 → Q out { s with heap := h', drawn := d }) : wpAny (model P w) A (setWalkUnseen b [a] (some a)) Q E s := by
  have same : Heap.SameBut a s.heap s.heap := ⟨rfl, fun _ _ => rfl⟩
  have plain : wpAny (model P w) A (setWalk b) Q E s := walk_m M fun out d p => hQ out d s.heap o1 ep1 t1 p same N
  unfold setWalkUnseen
  refine wpAny_bind (wpAny_setState_of M.ho M.hd M.fit ?_)
  dsimp only
  refine wpAny_bind (wpAny_byText ?_)
  by_cases c : (w.params.followText "set-order" || (t.led && t.plain) || decide (es.size ≤ 1)) = true
  · exact wp_if_pos c plain
  · refine wp_if_neg c ?_
    refine wpAny_bind (quiet_m M N ?_)
    refine wp_if_neg (by simp) ?_
    refine wpAny_bind (wpAny_rule ?_)
    refine wpAny_bind (wpAny_setState_of N.ho N.hd N.fit ?_)
    dsimp only
    have hb : w.params.followText "set-order" = false := by
      cases z : w.params.followText "set-order" with
      | false => rfl
      | true => rw [z] at c; exact absurd rfl c
    have hl : t.led = true := M.led.resolve_left (by rw [hb]; exact Bool.false_ne_true)
    split
    · refine wpAny_bind (wpAny_storeSet_of N.ho N.hd ?_ (fits_of_scanBound N.bd))
      exact wpAny_pure (hQ es s.drawn _ _ _ _ (List.Perm.refl _) (Heap.SameBut.update ..) (N.put (List.Perm.refl _) N.fit N.ris (by show (t1.led && t.led) = t1.led; rw [hl, Bool.and_true])))
    · exact wpAny_pure (hQ es s.drawn _ _ _ _ (List.Perm.refl _) same N)
end
end DL
set_option Elab.async false
set_option linter.all false
set_option maxRecDepth 100000
set_option maxHeartbeats 4000000
namespace DL
open PySem PySem.Spec PyProof.Rows L2
section
variable {P : Program} {w : World} {A : Around} {E : Value → Shared → Prop} {s : Shared} {a b : Addr} {S S' : Int → Bool} {n m : Nat} {h h' : Heap} {o o1 : Obj} {es es1 : Array (Int × Value)} {ep ep1 : Nat} {t t1 : SetTable} {each : Sem Unit}
theorem SetM.bean (M : SetM w h b S n o es ep t) (sb : Heap.SameBut a h h') (ne : b ≠ a) : SetM w h' b S n o es ep t := M.at fun u e => (sb.2 b ne).trans e
theorem SetM.empty (M : SetM w h a S 0 o es ep t) (z : ∀ k, S k = false) {S' : Int → Bool} (hz : ∀ k, S' k = false) : SetM w h a S' 0 o es ep t := { M with mem := fun k => by rw [hz k, ← z k]; exact M.mem k }
theorem merge_0 (N : SetM w s.heap a S 0 o1 es1 ep1 t1) (zs : ∀ k, S k = false) (h7 : t1.mask = 7) (h0 : t1.dummies = #[]) (M : SetM w s.heap b S' m o es ep t) (ne : a ≠ b) (hm : m ≤ 15) {Q : Unit → Shared → Prop}
    (hQ : ∀ h' o2 es2 ep2 t2, Heap.SameBut a s.heap h' → SetM w h' a S' m o2 es2 ep2 t2 → (m = 0 → t2.mask = 7 ∧ t2.dummies = #[]) → Q () { s with heap := h' }) : wpAny (model P w) A (setMerge a b each) Q E s := by
  have same : Heap.SameBut a s.heap s.heap := ⟨rfl, fun _ _ => rfl⟩
  unfold setMerge
  refine wp_if_neg (by simpa using ne) ?_
  try refine wpAny_bind (wpAny_pure ?_)
  refine wpAny_bind (wpAny_setState_of M.ho M.hd M.fit ?_)
  dsimp only
  by_cases c : es.isEmpty = true
  · refine wp_if_pos c ?_
    have z : m = 0 := by
      rw [← M.sz]
      simpa using c
    subst z
    have mz : ∀ k, S' k = false := fun k => by
      cases q : S' k with
      | false => rfl
      | true =>
        have := (M.mem k).mp q
        have e0 : es.toList = [] := by
          have := M.sz
          exact List.eq_nil_of_length_eq_zero (by rw [Array.length_toList]; exact this)
        rw [e0] at this
        cases this
    exact wpAny_pure (hQ s.heap _ _ _ _ same (N.empty zs mz) fun _ => ⟨h7, h0⟩)
  · refine wp_if_neg c ?_
    try refine wpAny_bind (wpAny_pure ?_)
    rw [M.sz]
    refine wpAny_bind (room_m N (by omega) (.inl h0) fun o2 es2 ep2 t2 h2 sb N2 alt => ?_)
    have M2 := M.bean sb ne.symm
    refine wpAny_bind (wpAny_setState_of N2.ho N2.hd N2.fit ?_)
    dsimp only
    have f2 : t2.fill = 0 ∧ m ≤ t2.mask ∧ Cyc t2.mask := by
      have pz : t2.place.size = 0 := by
        have := N2.fit
        simp only [SetTable.fits, Bool.and_eq_true, beq_iff_eq] at this
        rw [this.1]
        exact N2.sz
      have dz : t2.dummies = #[] := by
        rcases alt with ⟨e, _, _⟩ | ⟨_, _, e⟩
        · rw [e]; exact h0
        · exact e
      refine ⟨by unfold SetTable.fill; rw [pz, dz]; rfl, ?_⟩
      rcases alt with ⟨e, _, e3⟩ | ⟨e1, e2, _⟩
      · subst e
        have : t2.fill = 0 := by unfold SetTable.fill; rw [pz, dz]; rfl
        rw [h7] at e3 ⊢
        exact ⟨by omega, cyc_of (.inl rfl)⟩
      · exact ⟨e2, cyc_of e1⟩
    have hroad : t2.road t = if t2.mask == t.mask && t.dummies.isEmpty then .slotForSlot else .clean := by
      unfold SetTable.road
      rw [f2.1]
      rfl
    rw [hroad]
    by_cases c2 : (t2.mask == t.mask && t.dummies.isEmpty) = true
    · rw [if_pos c2]
      dsimp only
      refine wpAny_storeSet_of N2.ho N2.hd ?_ (fits_of_scanBound M.bd)
      have hq : SetM w (h2.update a (Obj.putSet es { t with finger := t2.finger, led := t2.led && t.led, moves := t2.moves, plain := t2.plain && t.plain })) a S' m _ es (ep2 + 1) { t with finger := t2.finger, led := t2.led && t.led, moves := t2.moves, plain := t2.plain && t.plain } :=
        ⟨store_at N2.ho N2.hd, N2.ex, rfl, M.g, M.nd, M.mem, M.bd, M.fit, M.sz, M.ris, by
          rcases M.led with z | z
          · exact .inl z
          · rcases N2.led with y | y
            · exact .inl y
            · exact .inr (by show (t2.led && t.led) = true; rw [y, z]; rfl)⟩
      exact hQ _ _ _ _ _ (sb.trans (Heap.SameBut.update ..)) hq fun z => absurd (by rw [← M.sz] at z; simpa using z) c
    · rw [if_neg c2]
      dsimp only
      obtain ⟨t', order, e, hp, h1, h2', h3, h4, h5⟩ := laid_some (m := t2.mask) (fg := t2.finger) (mv := t2.moves) (led := t2.led && t.led) (pl := t2.plain && t.plain) f2.2.2 (hs := es.map (·.1)) (by rw [Array.size_map, M.sz]; exact f2.2.1)
      rw [Array.size_map] at hp h1
      have pm := order_perm hp
      have hs2 : (order.filterMap (es[·]?)).size = es.size := by rw [← Array.length_toList, pm.length_eq, Array.length_toList]
      rw [e]
      refine wpAny_bind ?_
      show wpAny _ _ (if ((order.filterMap (es[·]?)).size != es.size) = true then (unsupported "internal:set-table-lost-an-element" : Sem (Array (Int × Value) × SetTable)) else pure (order.filterMap (es[·]?), t')) _ _ _
      refine wp_if_neg (by rw [hs2]; simp) ?_
      refine wpAny_pure ?_
      dsimp only
      refine wpAny_storeSet_of N2.ho N2.hd ?_ (by rw [hs2]; exact fits_of_scanBound M.bd)
      have hf : t'.fits (order.filterMap (es[·]?)).size = true := by
        unfold SetTable.fits SetTable.fill
        rw [h2', h1, h3, hs2, Bool.and_eq_true, beq_iff_eq, decide_eq_true_eq]
        refine ⟨rfl, ?_⟩
        show es.size + 0 ≤ _
        rw [M.sz]
        exact f2.2.1
      have hq : SetM w (h2.update a (Obj.putSet (order.filterMap (es[·]?)) t')) a S' m _ (order.filterMap (es[·]?)) (ep2 + 1) t' :=
        ⟨store_at N2.ho N2.hd, N2.ex, rfl, fun x hx => M.g x (pm.mem_iff.mp hx), (pm.map L2.keyOf).nodup_iff.mpr M.nd, fun k => (M.mem k).trans (pm.map L2.keyOf).mem_iff.symm, by rw [hs2]; exact M.bd, hf, hs2.trans M.sz, h4, by
          rcases M.led with z | z
          · exact .inl z
          · rcases N2.led with y | y
            · exact .inl y
            · exact .inr (by rw [h5, y, z]; rfl)⟩
      exact hQ _ _ _ _ _ (sb.trans (Heap.SameBut.update ..)) hq fun z => absurd (by rw [← M.sz] at z; simpa using z) c
end
end DL
set_option Elab.async false
set_option linter.all false
set_option maxRecDepth 100000
set_option maxHeartbeats 4000000
namespace DL
open PySem PySem.Spec PyProof.Rows L2
section
variable {P : Program} {w : World} {A : Around} {E : Value → Shared → Prop} {s : Shared} {a b : Addr} {S S' : Int → Bool} {n m : Nat} {h h' : Heap} {o o1 : Obj} {es es1 : Array (Int × Value)} {ep ep1 : Nat} {t t1 : SetTable} {each : Sem Unit}
theorem adds_m (ne : a ≠ b) (M : SetM w s.heap b S' m o es ep t) (each : Sem Unit) (he : ∀ (s' : Shared), SetM w s'.heap b S' m o es ep t → ∀ (Q' : Unit → Shared → Prop), Q' () s' → wpAny (model P w) A each Q' E s') {f : Int × Value → PUnit → Sem (ForInStep PUnit)}
    (hf : ∀ (e : Int × Value) (u : PUnit), f e u = (do
      let _ ← holding [e.2] (setAddHashed a e.2 e.1)
      each
      if (← setState b).2.1 != ep then unsupported "set.changed-during-merge"
      pure (.yield PUnit.unit))) :
    ∀ (l : List (Int × Value)) (s1 : Shared) (S1 : Int → Bool) (c : Nat), (∀ e ∈ l, GoodE e) → SetM w s1.heap b S' m o es ep t → SetR w s1.heap a S1 c → c + l.length + 1 < scanBound →
      ∀ {Q : PUnit → Shared → Prop}, (∀ (h' : Heap) (c' : Nat), Heap.SameBut a s1.heap h' → SetR w h' a (fun j => S1 j || decide (j ∈ l.map L2.keyOf)) c' → c' ≤ c + l.length → Q PUnit.unit { s1 with heap := h' }) → wpAny (model P w) A (forIn l PUnit.unit f) Q E s1
  | [], s1, S1, c, _, _, R, _, Q, hQ => by
    rw [List.forIn_nil]
    exact wpAny_pure (hQ s1.heap c ⟨rfl, fun _ _ => rfl⟩ (R.congr fun k => by simp) (Nat.le_refl _))
  | (x, v) :: l, s1, S1, c, hg, M1, R, hb, Q, hQ => by
    obtain ⟨k, tk, ev, ex⟩ := hg _ List.mem_cons_self
    have ev : v = .int k tk := ev
    have ex : x = hashInt k := ex
    rw [List.length_cons] at hb
    rw [List.forIn_cons, hf]
    refine wpAny_bind (wpAny_bind (wpAny_holding ?_))
    rw [ev, ex]
    refine setR_add_hashed R (by omega) fun h2 sb R2 => ?_
    have M2 := M1.bean sb ne.symm
    refine wpAny_bind (he _ M2 _ ?_)
    refine wpAny_bind (wpAny_setState_of M2.ho M2.hd M2.fit ?_)
    refine wp_if_neg (by simp) ?_
    try refine wpAny_bind (wpAny_pure ?_)
    refine wpAny_pure ?_
    have lc : (if S1 k = true then c else c + 1) ≤ c + 1 := by split <;> omega
    refine adds_m ne M each he hf l { s1 with heap := h2 } _ _ (fun e he => hg e (List.mem_cons_of_mem _ he)) M2 R2 (by omega) fun h3 c' sb3 R3 hc3 => ?_
    refine hQ h3 c' (sb.trans sb3) (R3.congr fun j => ?_) (by rw [List.length_cons]; omega)
    show (S1 j || decide (j ∈ L2.keyOf (x, v) :: l.map L2.keyOf)) = ((S1 j || decide (j = k)) || decide (j ∈ l.map L2.keyOf))
    have ek : L2.keyOf (x, v) = k := by unfold L2.keyOf; rw [ev]
    rw [ek, Bool.or_assoc]
    congr 1
    rw [Bool.eq_iff_iff, Bool.or_eq_true, decide_eq_true_eq, decide_eq_true_eq, decide_eq_true_eq, List.mem_cons]
theorem merge_1 (N : SetM w s.heap a S n o1 es1 ep1 t1) (hn : 0 < n) (M : SetM w s.heap b S' m o es ep t) (ne : a ≠ b) (hm : n + m ≤ 15) (he : ∀ (s' : Shared), SetM w s'.heap b S' m o es ep t → ∀ (Q' : Unit → Shared → Prop), Q' () s' → wpAny (model P w) A each Q' E s') {Q : Unit → Shared → Prop}
    (hQ : ∀ (h' : Heap) (d : Drawn) (c : Nat), Heap.SameBut a s.heap h' → SetR w h' a (fun j => S j || S' j) c → c ≤ n + m → Q () { s with heap := h', drawn := d }) : wpAny (model P w) A (setMerge a b each) Q E s := by
  have same : Heap.SameBut a s.heap s.heap := ⟨rfl, fun _ _ => rfl⟩
  unfold setMerge
  refine wp_if_neg (by simpa using ne) ?_
  try refine wpAny_bind (wpAny_pure ?_)
  refine wpAny_bind (wpAny_setState_of M.ho M.hd M.fit ?_)
  dsimp only
  by_cases c : es.isEmpty = true
  · refine wp_if_pos c ?_
    have mz : ∀ k, S' k = false := fun k => by
      cases q : S' k with
      | false => rfl
      | true =>
        have := (M.mem k).mp q
        have e0 : es.toList = [] := by simpa using c
        rw [e0] at this
        cases this
    exact wpAny_pure (hQ s.heap s.drawn n same (N.r.congr fun k => by rw [mz k, Bool.or_false]) (Nat.le_add_right _ _))
  · refine wp_if_neg c ?_
    try refine wpAny_bind (wpAny_pure ?_)
    rw [M.sz]
    refine wpAny_bind (room_m N (by omega) (.inr hn) fun o2 es2 ep2 t2 h2 sb N2 alt => ?_)
    have M2 := M.bean sb ne.symm
    refine wpAny_bind (wpAny_setState_of N2.ho N2.hd N2.fit ?_)
    dsimp only
    have hroad : t2.road t = .oneByOne := by
      have pz : t2.place.size = n := by
        have := N2.fit
        simp only [SetTable.fits, Bool.and_eq_true, beq_iff_eq] at this
        rw [this.1]
        exact N2.sz
      unfold SetTable.road
      rw [if_pos]
      have : t2.fill = t2.place.size + t2.dummies.size := rfl
      rw [this, pz]
      simp
      omega
    rw [hroad]
    dsimp only
    refine wpAny_bind (unseen_m M2 N2 ne.symm fun out d h3 o3 ep3 t3 pm sb3 N3 => ?_)
    have M3 := M2.bean sb3 ne.symm
    first | rw [← Array.forIn_toList] | skip
    have hlen : out.toList.length = m := by rw [pm.length_eq, Array.length_toList, M.sz]
    have hS : ∀ j, decide (j ∈ out.toList.map L2.keyOf) = S' j := fun j => by
      rw [Bool.eq_iff_iff, decide_eq_true_eq, (pm.map L2.keyOf).mem_iff]
      exact (M.mem j).symm
    refine wpAny_bind (adds_m (s := { s with heap := h3, drawn := d }) ne M3 each he (fun e u => ?_) out.toList { s with heap := h3, drawn := d } S n (fun e hx => M.g e (pm.mem_iff.mp hx)) M3 N3.r (by rw [hlen]; have : scanBound = 4096 := rfl; omega) fun h4 c4 sb4 R4 hc4 => ?_)
    · rfl
    · exact wpAny_pure (hQ h4 d c4 ((sb.trans sb3).trans sb4) (R4.congr fun j => by rw [hS j]) (by rw [hlen] at hc4; exact hc4))
end
end DL
set_option Elab.async false
set_option linter.all false
set_option maxRecDepth 100000
set_option maxHeartbeats 4000000
namespace DL
open PySem PySem.Spec PyProof.Rows L2
section
variable {P : Program} {w : World} {A : Around} {E : Value → Shared → Prop} {s : Shared} {a b : Addr} {S S' : Int → Bool} {n m : Nat} {h h' : Heap} {o o1 : Obj} {es es1 : Array (Int × Value)} {ep ep1 : Nat} {t t1 : SetTable} {each : Sem Unit}
/-- a copy of a set -/
theorem copy_m (M : SetM w s.heap a S n o es ep t) (hn : n ≤ 15) {Q : Value → Shared → Prop}
    (hQ : ∀ h' o2 es2 ep2 t2, (∀ b u, s.heap.get? b = some u → h'.get? b = some u) → SetM w h' s.heap.objs.size S n o2 es2 ep2 t2 → (n = 0 → t2.mask = 7 ∧ t2.dummies = #[]) → Q (.ref s.heap.objs.size) { s with heap := h' }) : wpAny (model P w) A (Builtin.Frozenset.copyOf a) Q E s := by
  have hT : s.TypeIs (.ref a) "set" := ⟨o, M.ho, M.ex.1⟩
  have lt : a < s.heap.objs.size := Heap.lt_size M.ho
  unfold Builtin.Frozenset.copyOf Builtin.Frozenset.baseOf
  refine wpAny_bind (wpAny_bind (wpAny_isInstance hT sub_set_self ?_))
  refine wpAny_pure ?_
  simp only [if_true]
  unfold newSet
  refine wpAny_bind (wpAny_bind (wpAny_byText ?_))
  try dsimp only
  refine wpAny_newObj_type ?_
  refine wpAny_bind (m := Builtin.Frozenset.addrOf _) (wpAny_pure ?_)
  have N : SetM w (s.heap.push { cls := .type "set", dict := none, data := .set #[] 0 (.fresh 0 0 (!w.params.followText "set-order")) }) s.heap.objs.size (fun _ => false) 0 _ #[] 0 (.fresh 0 0 (!w.params.followText "set-order")) :=
    ⟨Heap.get?_push_size _ rfl, ⟨rfl, rfl, rfl⟩, rfl, (fun e he => by simp at he), (by simp), (fun k => by simp), (by decide), (by rfl), rfl, List.Pairwise.nil, by
      show _ ∨ (!w.params.followText "set-order") = true
      cases w.params.followText "set-order"
      · exact .inr rfl
      · exact .inl rfl⟩
  have M1 : SetM w (s.heap.push { cls := .type "set", dict := none, data := .set #[] 0 (.fresh 0 0 (!w.params.followText "set-order")) }) a S n o es ep t := M.at fun u e => Heap.get?_push_of_some _ e
  refine wpAny_bind (merge_0 (s := { s with heap := s.heap.push { cls := .type "set", dict := none, data := .set #[] 0 (.fresh 0 0 (!w.params.followText "set-order")) } }) N (fun _ => rfl) rfl rfl M1 (Nat.ne_of_gt lt) hn fun h' o2 es2 ep2 t2 sb M2 z => ?_)
  exact wpAny_pure (hQ h' o2 es2 ep2 t2 (fun b u e => (sb.2 b (Nat.ne_of_lt (Heap.lt_size e))).trans (Heap.get?_push_of_some _ e)) M2 z)
theorem slot_set_or : Slot "set" "__or__" "set.__or__" :=
  .of (owner := "set") (n := "__or__") (by rw [typeLookup_type, builtinLookup_eq_fast]; kernel_rfl) (by decide +kernel) (by decide +kernel) (by decide +kernel)
    (by first | exact .inl (by decide +kernel) | exact .inr (by decide +kernel)) (by rw [isSubtype_type]; kernel_rfl)
theorem entry_or : entryFor table "set.__or__" = some Builtin.«frozenset.__or__» :=
  entryFor_alias (id' := "frozenset.__or__") (by kernel_rfl) rfl (by decide +kernel) (by kernel_rfl)
theorem args_or (x y : Value) : argsOk "set.__or__" ⟨[x, y], []⟩ := by unfold argsOk; kernel_rfl
theorem ror_set : typeLookup (.type "set") (dunderR "or") = pure (some (.builtin "set.__ror__")) := by rw [typeLookup_type, builtinLookup_eq_fast]; kernel_rfl
theorem fill_or : fillsNumberSlot (.type "set") (Operator.info .BitOr).2 = pure true :=
  fillsNumberSlot_of (id := "set.__or__") (r := some (.builtin "set.__ror__")) slot_set_or.lookup (by decide +kernel) ror_set
theorem or_true {M : Model} {x y : Sem Bool} {Q : Bool → Shared → Prop} (h : wpAny M A x (fun r s' => r = true ∧ Q true s') E s) : wpAny M A (x <||> y) Q E s := by
  unfold orM
  refine wpAny_bind (wpAny_mono h (fun r s' hr => ?_) fun _ _ z => z)
  obtain ⟨rfl, q⟩ := hr
  exact wpAny_pure q
theorem and_true' {M : Model} {x y : Sem Bool} {Q : Bool → Shared → Prop} (h : wpAny M A x (fun r s' => r = true ∧ wpAny M A y Q E s') E s) : wpAny M A (x <&&> y) Q E s := by
  unfold andM
  refine wpAny_bind (wpAny_mono h (fun r s' hr => ?_) fun _ _ z => z)
  obtain ⟨rfl, q⟩ := hr
  exact q
theorem or_m (M : SetM w s.heap a S n o es ep t) (N : SetM w s.heap b S' m o1 es1 ep1 t1) (ne : a ≠ b) (hn : n + m ≤ 15) {Q : Value → Shared → Prop}
    (hQ : ∀ h' d c, (∀ b u, s.heap.get? b = some u → h'.get? b = some u) → SetR w h' s.heap.objs.size (fun j => S j || S' j) c → c ≤ n + m → Q (.ref s.heap.objs.size) { s with heap := h', drawn := d }) : wpAny (model P w) A (binaryOp .BitOr (.ref a) (.ref b)) Q E s := by
  have hT : s.TypeIs (.ref a) "set" := ⟨o, M.ho, M.ex.1⟩
  have hT2 : s.TypeIs (.ref b) "set" := ⟨o1, N.ho, N.ex.1⟩
  refine wpAny_binaryOp_same hT hT2 fill_or slot_set_or ?_
  refine wpAny_call_entry slot_set_or hT entry_or ?_ (args_or _ _)
  unfold Builtin.«frozenset.__or__»
  refine wpAny_bind (m := Builtin.Frozenset.slot1 "__or__" _) (wpAny_of_eq (a := (.ref a, .ref b)) rfl ?_)
  dsimp only
  unfold Builtin.Frozenset.isAnySet
  simp only [Bool.false_eq_true, if_false]
  have lt : b < s.heap.objs.size := Heap.lt_size N.ho
  refine wpAny_bind (and_true' (or_true (wpAny_isInstance hT sub_set_self ⟨rfl, rfl, or_true (wpAny_isInstance hT2 sub_set_self ⟨rfl, ?_⟩)⟩)))
  refine wp_if_neg (by simp) ?_
  refine wpAny_bind (m := Builtin.Frozenset.addrOf _) (wpAny_pure ?_)
  refine wpAny_bind ?_
  refine wpAny_bind (m := Builtin.Frozenset.copyOf a) (copy_m M (by omega) fun h1 o2 es2 ep2 t2 k1 M1 z => ?_)
  have N1 : SetM w h1 b S' m o1 es1 ep1 t1 := N.at fun u e => k1 b u e
  have nb : s.heap.objs.size ≠ b := Nat.ne_of_gt lt
  have hT3 : Shared.TypeIs { s with heap := h1 } (.ref b) "set" := ⟨o1, N1.ho, N1.ex.1⟩
  have k2 : ∀ {h2 : Heap}, Heap.SameBut s.heap.objs.size h1 h2 → ∀ c u, s.heap.get? c = some u → h2.get? c = some u := fun sb c u e => (sb.2 c (Nat.ne_of_lt (Heap.lt_size e))).trans (k1 c u e)
  have last : ∀ (h2 : Heap) (d : Drawn) (c : Nat), Heap.SameBut s.heap.objs.size h1 h2 → SetR w h2 s.heap.objs.size (fun j => S j || S' j) c → c ≤ n + m → wpAny (model P w) A.in1 (pure (Value.ref s.heap.objs.size)) (fun a s' => wpAny (model P w) A.in1 (ret a) (fun fin s' => ∃ v, fin = .done (.ret v) ∧ v ≠ Value.notImplemented ∧ Q v s') E s') E { s with heap := h2, drawn := d } := fun h2 d c sb R hc =>
    wpAny_pure (wpAny_pure ⟨_, rfl, (fun e => by cases e), hQ h2 d c (k2 sb) R hc⟩)
  dsimp only
  refine wp_if_pos (by simpa using ne.symm) ?_
  refine wpAny_bind (m := Builtin.Frozenset.addrOf _) (wpAny_pure ?_)
  refine wpAny_bind (wpAny_holding ?_)
  unfold Builtin.Frozenset.updateFrom Builtin.Frozenset.isAnySet
  refine wpAny_bind (or_true (wpAny_isInstance hT3 sub_set_self ⟨rfl, ?_⟩))
  refine wp_if_pos rfl ?_
  refine wpAny_bind (m := Builtin.Frozenset.addrOf _) (wpAny_pure ?_)
  unfold Builtin.Frozenset.merge
  refine wpAny_bind (wpAny_setEpoch_of N1.ho N1.hd N1.fit ?_)
  have each : ∀ (s' : Shared), SetM w s'.heap b S' m o1 es1 ep1 t1 → ∀ (Q' : Unit → Shared → Prop), Q' () s' → wpAny (model P w) A.in1 (Builtin.Frozenset.unchanged (toString "frozenset." ++ toString "__or__") b ep1) Q' E s' := fun s' N' Q' q => by
    unfold Builtin.Frozenset.unchanged
    refine wpAny_bind (wpAny_setEpoch_of N'.ho N'.hd N'.fit ?_)
    refine wp_if_neg (by simp) ?_
    exact wpAny_pure q
  by_cases hz : n = 0
  · subst hz
    obtain ⟨z1, z2⟩ := z rfl
    have mz : ∀ k, S k = false := fun k => by
      cases q : S k with
      | false => rfl
      | true =>
        have := (M.mem k).mp q
        have e0 : es.toList = [] := by
          have := M.sz
          exact List.eq_nil_of_length_eq_zero (by rw [Array.length_toList]; exact this)
        rw [e0] at this
        cases this
    refine merge_0 (s := { s with heap := h1 }) M1 mz z1 z2 N1 nb (by omega) fun h2 o3 es3 ep3 t3 sb M3 _ => ?_
    exact last h2 s.drawn m sb (M3.r.congr fun j => by rw [mz j, Bool.false_or]) (by omega)
  · refine merge_1 (s := { s with heap := h1 }) M1 (by omega) N1 nb hn each fun h2 d c sb R hc => ?_
    exact last h2 d c sb R hc
end
end DL
set_option Elab.async false
set_option linter.all false
set_option maxRecDepth 100000
set_option maxHeartbeats 4000000
namespace DL
open PySem PySem.Spec PyProof.Rows L2
/-! ### sorted(set(a) | set(b)) of rows of ints -/
section
variable {X : Cx}
def rSetI (K : PySem.W.Frag) (w : World) : List V → Hp → VK → Prop := fun xs H Q => ∃ (t : Addr) (ns : List Int), xs = [V.ref t] ∧ SqT K H t (ns.map V.int) ∧ ns.length ≤ 1000 ∧ ∀ p c, H p = none → c ≤ ns.length → Q (.ref p) (upd H p (SetO w p (fun j => decide (j ∈ ns)) c))
theorem cr_setI (hc : X.calm = true) : CallR X (.type "set") (rSetI X.K X.w) := by
  intro pins s σ H xs us Q I r h
  obtain ⟨t, ns, rfl, ht, hl, q⟩ := h
  rw [Vals.ref1 r]
  obtain ⟨its, hv, ⟨o, h2, h3, n, h4⟩, _⟩ := I.tuple ht
  have hi := ints_of_vals hv
  refine call_set_tupI (items := its.toArray) ns (I.ok.hd hc) ⟨o, h2, h3, n, h4⟩ hi (by have : scanBound = 4096 := rfl; omega) fun h' tk c R hcn k => ?_
  have J : Inv X pins σ (upd H s.heap.objs.size (SetO X.w s.heap.objs.size (fun j => decide (j ∈ ns)) c)) { s with heap := h', toks := tk } := I.laid (t' := tk) k (Nat.le_refl _) (setO_new R)
  exact ⟨.ref _, _, J, rfl, q _ c (I.hok.fresh (Nat.le_refl _)) hcn⟩
def rOrS (w : World) : R2 := fun x y H Q => ∃ (a b : Addr) (S S' : Int → Bool) (n m : Nat), x = V.ref a ∧ y = V.ref b ∧ a ≠ b ∧ H a = some (SetO w a S n) ∧ H b = some (SetO w b S' m) ∧ n + m ≤ 15 ∧ ∀ p c, H p = none → c ≤ n + m → Q (.ref p) (upd H p (SetO w p (fun j => S j || S' j) c))
theorem op_orS : OpR X (binaryOp .BitOr) (rOrS X.w) := by
  intro pins s σ H x y v u Q I rx ry h
  obtain ⟨a, b, S, S', n, m, rfl, rfl, ne, ha, hb, hn, q⟩ := h
  cases rx
  cases ry
  obtain ⟨o, es, ep, t, M⟩ := SetM.of (setO_get I ha)
  obtain ⟨o1, es1, ep1, t1, N⟩ := SetM.of (setO_get I hb)
  refine or_m M N ne hn fun h' d c k R hc => ?_
  have hp : s.heap.objs.size ≤ s.heap.objs.size := Nat.le_refl _
  have hn : H s.heap.objs.size = none := I.hok.fresh hp
  have J : Inv X pins σ (upd H s.heap.objs.size (SetO X.w s.heap.objs.size (fun j => S j || S' j) c)) { s with heap := h', gens := s.gens, drawn := d, toks := s.toks } :=
    I.call (ch := []) (Un.laid k hp hn) (I.hok.laid k hp (setO_new R)) I.bare (fun _ z => nomatch z)
  exact ⟨.ref _, _, J, rfl, q _ c hn hc⟩
end
section
variable {X : Cx} {K : KW} {F F' : Fr} {H H' : Hp} {G G' : Gp} {a b : Expr} {ta tb : DTE}
def tupI (d : D) : Option (List Int) := (tupOf d).bind intsOf
def dSortU (ta tb : DTE) : DTE := fun δ G Q => ta δ G fun x G1 => optQ (tupI x) fun xs => xs.length ≤ 15 ∧ tb δ G1 fun y G2 => optQ (tupI y) fun ys => xs.length + ys.length ≤ 15 ∧ ∀ ns : List Int, ns.Pairwise (· < ·) → (∀ k, k ∈ ns ↔ k ∈ xs ∨ k ∈ ys) → ns.length ≤ 15 → Q (.lv (ns.map .int)) G2
theorem dSortU_e {δ : DS} {Q : D → Gp → Prop} : dSortU ta tb δ G Q = ta δ G fun x G1 => optQ (tupI x) fun xs => xs.length ≤ 15 ∧ tb δ G1 fun y G2 => optQ (tupI y) fun ys => xs.length + ys.length ≤ 15 ∧ ∀ ns : List Int, ns.Pairwise (· < ·) → (∀ k, k ∈ ns ↔ k ∈ xs ∨ k ∈ ys) → ns.length ≤ 15 → Q (.lv (ns.map .int)) G2 := (rfl)
theorem tupI_rep {d : D} {v : V} {xs : List Int} (p : Rep K F H d v) (e : tupI d = some xs) : ∃ t, v = .ref t ∧ SqT K.fr H t (xs.map V.int) := by
  unfold tupI at e
  rw [Option.bind_eq_some_iff] at e
  obtain ⟨ds, e1, e2⟩ := e
  obtain rfl := tupOf_eq e1
  obtain ⟨t, vs, rfl, hb, rx⟩ := p
  have ev := intsOf_rep rx e2
  subst ev
  exact ⟨t, rfl, hb.sq⟩
theorem upSortU {σ : L2.St} {Q : VK} (h : up K (dSortU ta tb) σ H Q) : tCB (rSortedSet K.wd) (tCons (tOp (rOrS K.wd) (tCB (rSetI K.fr K.wd) (tCons (up K ta) tNil)) (tCB (rSetI K.fr K.wd) (tCons (up K tb) tNil))) tNil) σ H Q := by
  obtain ⟨F, δ, G, Q', R, S, q, k⟩ := h
  refine ⟨F, δ, G, _, R, S, q, fun v H1 ⟨d, F1, G1, k1, R1, p1, q1⟩ => ?_⟩
  obtain ⟨xs, ex, lx, q1⟩ := optQ_ex q1
  obtain ⟨t, rfl, hx⟩ := tupI_rep p1 ex
  refine ⟨t, xs, rfl, hx, by omega, fun p c hp hc => ?_⟩
  have g1 := R1.off0 hp
  have kk1 := keep_new (o := SetO K.wd p (fun j => decide (j ∈ xs)) c) R1 hp
  have Ra := rel_new (o := SetO K.wd p (fun j => decide (j ∈ xs)) c) R1 hp
  refine ⟨F1, δ, G1, _, Ra, (S.mono R k1).mono R1 kk1, q1, fun u H2 ⟨e, F2, G2, k2, R2, p2, q2⟩ => ?_⟩
  obtain ⟨ys, ey, ly, q2⟩ := optQ_ex q2
  obtain ⟨t2, rfl, hy⟩ := tupI_rep p2 ey
  have hs := (k2.k p _ g1 upd_same).1
  refine ⟨t2, ys, rfl, hy, by omega, fun p' c' hp' hc' => ?_⟩
  have ne : p ≠ p' := fun z => by rw [z, hp'] at hs; cases hs
  have kk2 := keep_new (o := SetO K.wd p' (fun j => decide (j ∈ ys)) c') R2 hp'
  have Rb := rel_new (o := SetO K.wd p' (fun j => decide (j ∈ ys)) c') R2 hp'
  refine ⟨p, p', _, _, c, c', rfl, rfl, ne, (upd_ne ne).trans hs, upd_same, by omega, fun p3 c3 hp3 hc3 => ?_⟩
  have kk3 := keep_new (o := SetO K.wd p3 (fun j => decide (j ∈ xs) || decide (j ∈ ys)) c3) Rb hp3
  have Rc := rel_new (o := SetO K.wd p3 (fun j => decide (j ∈ xs) || decide (j ∈ ys)) c3) Rb hp3
  refine ⟨p3, _, c3, rfl, upd_same, by omega, fun ns p4 pw mem len hp4 => ?_⟩
  exact fin_lv Rc (fun v' H' pv => k v' H' (.trans (((k1.trans kk1).trans (k2.trans kk2)).trans kk3) pv)) (RepL.ints ns) (q2 ns pw (fun j => by rw [mem j, Bool.or_eq_true, decide_eq_true_eq, decide_eq_true_eq]) (by omega)) p4 hp4
end
section
variable {X : Cx} {a b : Expr} {ta tb : DTE}
theorem q_sortU {p1 p2 p3 q1 q2 q3 pos : Pos} (hc : X.calm = true) (hg1 : Gl X "sorted") (hm1 : X.mg "sorted" = none) (hg2 : Gl X "set") (hm2 : X.mg "set" = none) (ha : QE X a ta) (hb : QE X b tb)
    (ea : starEach [a] X.env = (false, eval a X.env) :: starEach [] X.env := by rfl) (eb : starEach [b] X.env = (false, eval b X.env) :: starEach [] X.env := by rfl) (hpl : ∀ q : Pos, (backTo q (starEach [] X.env)).any (·.1) = false := by intro _; rfl)
    (es : starEach [.BinOp (.Call (.Name "set" p1) [a] [] q1) .BitOr (.Call (.Name "set" p2) [b] [] q2) q3] X.env = (false, eval (.BinOp (.Call (.Name "set" p1) [a] [] q1) .BitOr (.Call (.Name "set" p2) [b] [] q2) q3) X.env) :: starEach [] X.env := by rfl) :
    QE X (.Call (.Name "sorted" p3) [.BinOp (.Call (.Name "set" p1) [a] [] q1) .BitOr (.Call (.Name "set" p2) [b] [] q2) q3] [] pos) (dSortU ta tb) :=
  PEmono (pe_callB (cr_sortedSet hc) hg1 hm1 PyProof.Rows.boot_sorted (pa_cons (pe_op op_orS (pe_callTy (cr_setI hc) hg2 hm2 boot_set (pa_cons ha pa_nil ea) (by decide) (by decide) ea (hpl q1)) (pe_callTy (cr_setI hc) hg2 hm2 boot_set (pa_cons hb pa_nil eb) (by decide) (by decide) eb (hpl q2))) pa_nil es) (by decide) (by decide) es (hpl pos)) fun _ _ _ h => upSortU h
end
end DL
set_option autoImplicit false
namespace DL
open PySem PySem.Spec PyProof.Rows L2
/-! ### ends of a def -/
theorem rt_same {Q : D → Gp → Prop} {d : D} {G : Gp} (q : Q d G) : rtOf Q d G := ⟨d, G, .same, q⟩
theorem rt_sub {Q : D → Gp → Prop} {d : D} {G G' : Gp} (h : ∀ a m, G a = some m → G' a = some m) (q : Q d G) : rtOf Q d G' := ⟨d, G, .sub h, q⟩
theorem rt_frz {Q : D → Gp → Prop} {p : Addr} {ds : List D} {G : Gp} (hp : G p = none) (q : Q (.lv ds) G) : rtOf Q (.ref p) (updG G p (.lst ds)) :=
  ⟨.lv ds, G, ⟨fun a m e => .of (sub_new hp a m e), .lst updG_same hp (.same ds)⟩, q⟩
theorem isDr.new {G : Gp} {d p : Addr} {m : MO} (hd : isDr G d) (hp : G p = none) : isDr (updG G p m) d := hd.mono (sub_new hp)
/-! ### data that a value may be -/
mutual
def dVal : D → Bool
  | .non => true
  | .int _ => true
  | .str _ => true
  | .tup ds => dValL ds
  | _ => false
def dValL : List D → Bool
  | [] => true
  | d :: ds => dVal d && dValL ds
end
mutual
def dW : D → Nat
  | .str x => x.length + 1
  | .tup ds => dWL ds + 1
  | .lv ds => dWL ds + 1
  | .rl ds => dWL ds + 1
  | _ => 1
def dWL : List D → Nat
  | [] => 0
  | d :: ds => dW d + dWL ds
end
mutual
theorem dVal_pl : ∀ d : D, dVal d = true → dPl d = true
  | .non, _ => rfl
  | .int _, _ => rfl
  | .str _, _ => rfl
  | .bl _, _ => rfl
  | .tup ds, h => dValL_pl ds h
  | .ref _, h => by cases h
  | .lv _, h => by cases h
  | .rl _, h => by cases h
  | .dv _, h => by cases h
  | .pv _, h => by cases h
theorem dValL_pl : ∀ ds : List D, dValL ds = true → dPlL ds = true
  | [], _ => rfl
  | d :: ds, h => by
    unfold dValL at h
    rw [Bool.and_eq_true] at h
    unfold dPlL
    rw [dVal_pl d h.1, dValL_pl ds h.2]
    rfl
end
mutual
theorem dDep_le : ∀ d : D, dDep d ≤ dW d
  | .non => Nat.zero_le _
  | .int _ => Nat.zero_le _
  | .str _ => Nat.zero_le _
  | .bl _ => Nat.zero_le _
  | .ref _ => Nat.zero_le _
  | .dv _ => Nat.zero_le _
  | .pv _ => Nat.zero_le _
  | .tup ds => Nat.succ_le_succ (dDepL_le ds)
  | .lv ds => Nat.succ_le_succ (dDepL_le ds)
  | .rl ds => Nat.succ_le_succ (dDepL_le ds)
theorem dDepL_le : ∀ ds : List D, dDepL ds ≤ dWL ds
  | [] => Nat.zero_le _
  | d :: ds => by
    have h1 := dDep_le d
    have h2 := dDepL_le ds
    unfold dDepL dWL
    omega
end
theorem dW_pos (d : D) : 1 ≤ dW d := by cases d <;> simp [dW]
theorem dWL_len : ∀ ds : List D, ds.length ≤ dWL ds
  | [] => Nat.zero_le _
  | d :: ds => by
    have h1 := dW_pos d
    have h2 := dWL_len ds
    unfold dWL
    rw [List.length_cons]
    omega
theorem dWL_app : ∀ xs ys : List D, dWL (xs ++ ys) = dWL xs + dWL ys
  | [], ys => by simp [dWL]
  | x :: xs, ys => by
    show dW x + dWL (xs ++ ys) = dW x + dWL xs + dWL ys
    rw [dWL_app xs ys, Nat.add_assoc]
theorem dValL_app : ∀ xs ys : List D, dValL (xs ++ ys) = (dValL xs && dValL ys)
  | [], ys => by simp [dValL]
  | x :: xs, ys => by
    show (dVal x && dValL (xs ++ ys)) = (dVal x && dValL xs && dValL ys)
    rw [dValL_app xs ys, Bool.and_assoc]
theorem dValL_mem : ∀ {ds : List D} {d : D}, dValL ds = true → d ∈ ds → dVal d = true
  | x :: xs, d, h, m => by
    unfold dValL at h
    rw [Bool.and_eq_true] at h
    rcases List.mem_cons.mp m with rfl | m
    · exact h.1
    · exact dValL_mem h.2 m
theorem dWL_mem : ∀ {ds : List D} {d : D}, d ∈ ds → dW d ≤ dWL ds
  | x :: xs, d, m => by
    unfold dWL
    rcases List.mem_cons.mp m with rfl | m
    · omega
    · have := dWL_mem m
      omega
theorem dWL_take (n : Nat) (ds : List D) : dWL (ds.take n) ≤ dWL ds := by
  have h := dWL_app (ds.take n) (ds.drop n)
  rw [List.take_append_drop] at h
  omega
theorem dWL_drop (n : Nat) (ds : List D) : dWL (ds.drop n) ≤ dWL ds := by
  have h := dWL_app (ds.take n) (ds.drop n)
  rw [List.take_append_drop] at h
  omega
theorem dValL_take {ds : List D} (n : Nat) (h : dValL ds = true) : dValL (ds.take n) = true := by
  have e := dValL_app (ds.take n) (ds.drop n)
  rw [List.take_append_drop, h] at e
  exact (Bool.and_eq_true_iff.mp e.symm).1
theorem dValL_drop {ds : List D} (n : Nat) (h : dValL ds = true) : dValL (ds.drop n) = true := by
  have e := dValL_app (ds.take n) (ds.drop n)
  rw [List.take_append_drop, h] at e
  exact (Bool.and_eq_true_iff.mp e.symm).2
theorem at_mem {α : Type} {xs : List α} {i : Int} {v : α} (h : atI xs i = some v) : v ∈ xs := by
  unfold atI at h
  cases e : ixN xs.length i with
  | none => rw [e] at h; cases h
  | some j => rw [e] at h; exact List.mem_of_getElem? h
theorem at_ok {α : Type} (xs : List α) (i : Int) (h0 : 0 ≤ i) (h1 : i < xs.length) : ∃ v, atI xs i = some v ∧ v ∈ xs := by
  have hl : i.toNat < xs.length := by omega
  have e : atI xs i = some xs[i.toNat] := by
    have := atI_nat (List.getElem?_eq_getElem hl)
    rwa [Int.toNat_of_nonneg h0] at this
  exact ⟨_, e, at_mem e⟩
/-! ### texts -/
def okC (c : Nat) : Bool := decide (32 ≤ c) && decide (c ≤ 126) && decide (c ≠ 37)
def okT (s : Str) : Bool := s.cps.toList.all okC
/-! ### leaves -/
inductive Leaf where
  | number (lo hi : Int) | text (lo hi : Int) | choice (sy rt : List Int) (op : Bool)
def Leaf.d : Leaf → D
  | .number lo hi => .tup [.str (Str.ofString "number"), .int lo, .int hi]
  | .text lo hi => .tup [.str (Str.ofString "text"), .int lo, .int hi]
  | .choice sy rt op => .tup [.str (Str.ofString "choice"), .tup (sy.map .int), .tup (rt.map .int), .bl op]
def Ids (xs : List Int) : Prop := xs.Pairwise (· < ·) ∧ ∀ x ∈ xs, 1 ≤ x ∧ x ≤ 99
def Leaf.wf : Leaf → Prop
  | .number lo hi => -1000000000000000 ≤ lo ∧ lo ≤ hi ∧ hi ≤ 1000000000000000
  | .text lo hi => 0 ≤ lo ∧ lo ≤ hi ∧ hi ≤ 40
  | .choice sy rt op => Ids sy ∧ Ids rt ∧ (∀ x ∈ sy, x ∉ rt) ∧ (op = false → rt = [] ∧ sy ≠ [])
/-- the values of a leaf (point 5) -/
def Leaf.has : Leaf → D → Bool
  | .number lo hi, .int i => decide (lo ≤ i) && decide (i ≤ hi)
  | .text lo hi, .str s => decide (lo ≤ (s.length : Int)) && decide ((s.length : Int) ≤ hi) && okT s
  | .choice sy _ op, .int i => sy.contains i || (op && decide (i = 0))
  | _, _ => false
theorem Ids.len {xs : List Int} (h : Ids xs) : xs.length ≤ 99 := by
  have key : ∀ (xs : List Int) (lo : Int), xs.Pairwise (· < ·) → (∀ x ∈ xs, lo ≤ x ∧ x ≤ 99) → (xs.length : Int) ≤ max 0 (100 - lo) := by
    intro xs
    induction xs with
    | nil => intro lo _ _; simp; omega
    | cons x xs ih =>
      intro lo hp hb
      rw [List.pairwise_cons] at hp
      have h1 := hb x List.mem_cons_self
      have h2 := ih (x + 1) hp.2 fun y hy => ⟨by have := hp.1 y hy; omega, (hb y (List.mem_cons_of_mem _ hy)).2⟩
      rw [List.length_cons]
      omega
  have := key xs 1 h.1 h.2
  omega
theorem Str_lit {a b : String} : (Str.ofString a = Str.ofString b) ↔ a = b := by
  constructor
  · intro h
    rw [Str.ofString_eq_toList, Str.ofString_eq_toList] at h
    injection h with h
    have h2 : a.toList.map Char.toNat = b.toList.map Char.toNat := by simpa using congrArg Array.toList h
    have h3 : a.toList = b.toList := by
      have inj : ∀ (xs ys : List Char), xs.map Char.toNat = ys.map Char.toNat → xs = ys := by
        intro xs
        induction xs with
        | nil => intro ys h; cases ys with
          | nil => rfl
          | cons y ys => cases h
        | cons x xs ih => intro ys h; cases ys with
          | nil => cases h
          | cons y ys =>
            rw [List.map_cons, List.map_cons] at h
            injection h with e1 e2
            rw [ih ys e2]
            have : x = y := by
              have e3 : x.val.toNat = y.val.toNat := e1
              exact Char.ext (UInt32.toNat_inj.mp e3)
            rw [this]
      exact inj _ _ h2
    exact String.ext h3
  · intro h; rw [h]
theorem Str_beq {a b : String} : (Str.ofString a == Str.ofString b) = decide (a = b) := by
  by_cases h : a = b
  · subst h; simp
  · rw [decide_eq_false h]
    exact beq_eq_false_iff_ne.mpr fun e => h (Str_lit.mp e)
theorem atI_0 {α : Type} (a : α) (r : List α) : atI (a :: r) 0 = some a := atI_nat (j := 0) rfl
theorem atI_1 {α : Type} (a b : α) (r : List α) : atI (a :: b :: r) 1 = some b := atI_nat (j := 1) rfl
theorem atI_2 {α : Type} (a b c : α) (r : List α) : atI (a :: b :: c :: r) 2 = some c := atI_nat (j := 2) rfl
theorem atI_3 {α : Type} (a b c d : α) (r : List α) : atI (a :: b :: c :: d :: r) 3 = some d := atI_nat (j := 3) rfl
theorem atI_4 {α : Type} (a b c d e : α) (r : List α) : atI (a :: b :: c :: d :: e :: r) 4 = some e := atI_nat (j := 4) rfl
theorem join_chars : ∀ cs : List Nat, Str.join (Str.ofString "") (cs.map fun c => (⟨#[c]⟩ : Str)) = ⟨cs.toArray⟩
  | [] => rfl
  | [c] => rfl
  | c :: e :: r => by
    have ih := join_chars (e :: r)
    show (⟨#[c]⟩ : Str) ++ Str.ofString "" ++ Str.join (Str.ofString "") ((e :: r).map fun c => (⟨#[c]⟩ : Str)) = _
    rw [ih]
    have h0 : (Str.ofString "").cps = #[] := by decide +kernel
    show (⟨(#[c] ++ (Str.ofString "").cps) ++ (e :: r).toArray⟩ : Str) = _
    rw [h0]
    simp
theorem strs_chars : ∀ cs : List Nat, strsOf (cs.map fun c => D.str ⟨#[c]⟩) = some (cs.map fun c => (⟨#[c]⟩ : Str))
  | [] => rfl
  | c :: r => by
    show (strsOf (r.map fun c => D.str ⟨#[c]⟩)).map _ = _
    rw [strs_chars r]
    rfl
theorem sum_chars : ∀ cs : List Nat, ((cs.map fun c => (⟨#[c]⟩ : Str)).map (·.length)).sum = cs.length
  | [] => rfl
  | c :: r => by
    show 1 + ((r.map fun c => (⟨#[c]⟩ : Str)).map (·.length)).sum = r.length + 1
    rw [sum_chars r, Nat.add_comm]
theorem okT_chars (cs : List Nat) : okT ⟨cs.toArray⟩ = cs.all okC := rfl
theorem rangeD_len (lo : Int) (n : Nat) : (rangeD lo n).length = n := by unfold rangeD; rw [List.length_map, List.length_range]
theorem dEqL_any (i : Int) : ∀ sy : List Int, ((sy.map D.int).any fun z => dEq z (.int i)) = sy.contains i
  | [] => rfl
  | s :: sy => by
    rw [List.map_cons, List.any_cons, dEqL_any i sy, List.contains_cons]
    show ((s == i) || _) = _
    rw [show (s == i) = (i == s) from Bool.eq_iff_iff.mpr ⟨fun h => by rw [eq_of_beq h]; exact beq_self_eq_true _, fun h => by rw [eq_of_beq h]; exact beq_self_eq_true _⟩]
theorem pl_ints : ∀ ns : List Int, dPlL (ns.map D.int) = true
  | [] => rfl
  | n :: ns => pl_ints ns
theorem dep_ints : ∀ ns : List Int, dDepL (ns.map D.int) = 0
  | [] => rfl
  | n :: ns => by
    show max 0 (dDepL (ns.map D.int)) = 0
    rw [dep_ints ns]
    rfl
theorem dWL_ints : ∀ ns : List Int, dWL (ns.map .int) = ns.length
  | [] => rfl
  | n :: ns => by
    show 1 + dWL (ns.map .int) = ns.length + 1
    rw [dWL_ints ns, Nat.add_comm]
/-- ''.join of n drawn signs -/
theorem draw_text {d : Addr} {G : Gp} {Q : D → Gp → Prop} {δ : DS} {n : Nat} {tg : DTG} {te : DTE} (hn : n ≤ 1000) (ht : ∀ x (K : D → Gp → Prop), (∀ c, okC c = true → K (.str ⟨#[c]⟩) G) → tg x δ G fun δ1 G1 => te δ1 G1 K)
    (q : ∀ cs : List Nat, cs.length = n → cs.all okC = true → Q (.str ⟨cs.toArray⟩) G) :
    dComp (fun _ => True) tg dYes te δ (fun acc G2 => optQ ((itemsOf (.lv acc) G2).bind strsOf) fun ys => (ys.map (·.length)).sum + ys.length * (Str.ofString "").length ≤ 16777216 ∧ Q (.str (Str.join (Str.ofString "") ys)) G2) (rangeD 0 n) [] G := by
  refine comp_ind (fun ds acc G' => G' = G ∧ ∃ cs : List Nat, acc = cs.map (fun c => .str ⟨#[c]⟩) ∧ cs.all okC = true ∧ cs.length + ds.length = n) ?_ ?_ _ _ _ ⟨rfl, [], rfl, rfl, by rw [rangeD_len, List.length_nil, Nat.zero_add]⟩
  · rintro x r acc G' K ⟨rfl, cs, rfl, h1, h2⟩ hK
    refine ⟨trivial, ht x _ fun c hc => ?_⟩
    rw [List.length_cons] at h2
    refine ⟨by rw [List.length_map, szL]; omega, hK _ _ ⟨rfl, cs ++ [c], by rw [List.map_append]; rfl, by rw [List.all_append, h1]; simp [hc], by rw [List.length_append, List.length_singleton]; omega⟩⟩
  · rintro acc G' ⟨rfl, cs, rfl, h1, h2⟩
    refine ⟨trivial, ?_⟩
    show optQ ((some (cs.map fun c => D.str ⟨#[c]⟩)).bind strsOf) _
    rw [bindS_e, strs_chars, optQ_e, sum_chars, join_chars]
    have h0 : (Str.ofString "").length = 0 := by decide +kernel
    rw [h0]
    refine ⟨by rw [Nat.mul_zero]; simp only [List.length_nil] at h2; omega, q cs (by simpa using h2) h1⟩
theorem atI_ints {sy : List Int} {i : Int} {v : D} (h : atI (sy.map D.int) i = some v) : ∃ n, n ∈ sy ∧ v = .int n := by
  have := at_mem h
  rw [List.mem_map] at this
  obtain ⟨n, h1, h2⟩ := this
  exact ⟨n, h1, h2.symm⟩
theorem bls_map {α : Type} (f : α → Bool) : ∀ xs : List α, blsOf (xs.map fun x => D.bl (f x)) = some (xs.map f)
  | [] => rfl
  | x :: r => by
    show (blsOf (r.map fun x => D.bl (f x))).map _ = _
    rw [bls_map f r]
    rfl
/-! ### comprehensions over data -/
theorem comp_map {α : Type} {S : Gp → Prop} {tg : DTG} {tt : DTT} {te : DTE} {δ : DS} {Q : List D → Gp → Prop} {G : Gp} (f : α → D) (p : α → Bool) (g : α → D) (hS : S G) : ∀ (xs : List α) (acc : List D), acc.length + xs.length ≤ sizeLine →
    (∀ a ∈ xs, ∀ (K1 : D → Gp → Prop) (K0 : Gp → Prop), (p a = true → K1 (g a) G) → (p a = false → K0 G) → tg (f a) δ G fun δ1 G1 => tt δ1 G1 fun b G2 => dCond b (te δ1 G2 K1) (K0 G2)) →
    Q (acc ++ (xs.filter p).map g) G → dComp S tg tt te δ Q (xs.map f) acc G
  | [], acc, _, _, q => ⟨hS, by simpa using q⟩
  | d :: r, acc, hl, h, q => by
    rw [List.length_cons] at hl
    refine ⟨hS, h d List.mem_cons_self _ _ (fun hp => ⟨by omega, ?_⟩) (fun hp => ?_)⟩
    · refine comp_map f p g hS r (acc ++ [g d]) (by rw [List.length_append, List.length_singleton]; omega) (fun d' hd => h d' (List.mem_cons_of_mem _ hd)) ?_
      rw [List.filter_cons_of_pos hp, List.map_cons] at q
      rw [List.append_assoc]
      exact q
    · refine comp_map f p g hS r acc (by omega) (fun d' hd => h d' (List.mem_cons_of_mem _ hd)) ?_
      rw [List.filter_cons_of_neg (by rw [hp]; exact Bool.false_ne_true)] at q
      exact q
theorem at_map {α : Type} (f : α → D) (xs : List α) (i : Int) (h0 : 0 ≤ i) (h1 : i < xs.length) : ∃ a ∈ xs, atI (xs.map f) i = some (f a) := by
  obtain ⟨v, e, m⟩ := at_ok (xs.map f) i h0 (by rw [List.length_map]; exact h1)
  rw [List.mem_map] at m
  obtain ⟨a, ha, rfl⟩ := m
  exact ⟨a, ha, e⟩
local macro_rules | `(tactic| simp!) => `(tactic| try simp only [↓spOf_e, ↓optQ_e, ↓dCond_te, ↓dCond_fe, ↓dVar_e, ↓dC_e, ↓dOp_e, ↓dUn_e, ↓dTest_e, ↓dChain_e, ↓dPure2_e, ↓dPure1_e, ↓dEqR_e, ↓dNeR_e, ↓dInR_e, ↓dIsN_e, ↓dTruth_e, ↓dAndT_e, ↓dOrT_e, ↓dNotT_e, ↓dAnd_e, ↓dOr_e, ↓dNot_e, ↓dIf_e, ↓dNil_e, ↓dCons_e, ↓dTup_e, ↓dLv_e, ↓dRef_e, ↓dIx_e, ↓dNoPart_e, ↓dPart_e, ↓dSl_e, ↓dF_e, ↓dB_e, ↓dTupleC_e, ↓dListC_e, ↓dListM_e, ↓dAll_e, ↓dSum_e, ↓dIsi_e, ↓dName_e, ↓dGnil_e, ↓dGcons_e, ↓dTupG_e, ↓dSubL_e, ↓dNext_e, ↓dSeq_e, ↓dBreak_e, ↓dCont_e, ↓dDrop_e, ↓dRet_e, ↓dRetN_e, ↓dIfS_e, ↓dAsg_e, ↓dAug_e, ↓dApp_e, ↓dIt_e, ↓dRng1_e, ↓dRng2_e, ↓dFor_e, ↓dYes_e, ↓dLc_e, ↓dJoin_e, ↓dCall_e, optQ_e, dCond_te, dCond_fe, dI2_1, dOrd_1, dOrd_2, bindS_e, mapS_e, dOkEq_e, isiB_e, wipeS_1, wipeS_2, isNon_2, dPl_non, dDep_non, dPl_bl, dDep_bl, dPl_int, dDep_int, dPl_str, dDep_str, dEq_non_bl, dEq_non_int, dEq_non_str, dEq_non_tup, dEq_non_lv, dEq_bl_non, dEq_bl_str, dEq_bl_tup, dEq_bl_lv, dEq_int_non, dEq_int_str, dEq_int_tup, dEq_int_lv, dEq_str_non, dEq_str_bl, dEq_str_int, dEq_str_tup, dEq_str_lv, dEq_tup_non, dEq_tup_bl, dEq_tup_int, dEq_tup_str, dEq_tup_lv, dEq_lv_non, dEq_lv_bl, dEq_lv_int, dEq_lv_str, dEq_lv_tup, isNon_3, isNon_4, setS_1, setS_2, setS_3, getS_1, getS_2, dAdd_1, dAdd_2, dAdd_3, dAdd_4, dNeg_1, itemsOf_1, itemsOf_2, itemsOf_3, itemsOf_4, itemsA_1, lenD_1, lenD_2, lenD_3, lenD_4, lenD_5, absD_1, intCD_1, intCD_2, max2D_1, min2D_1, ord1D_1, ixD_1, ixD_2, ixD_3, ixD_4, ixD_5, slD_1, slD_2, slD_3, slD_4, slD_5, truthD_1, truthD_2, truthD_3, truthD_4, truthD_5, truthD_6, truthD_7, truthD_8, tyD_1, tyD_2, tyD_3, tyD_4, tyD_5, tyD_6, tyD_7, tyD_8, tyD_9, blOf_1, intOf_1, refOf_1, tupOf_1, strOf_1, lstOf_1, uncons_1, isNil_1, dPl_1, dPl_2, dPl_3, dPl_4, dPl_5, dPlL_1, dPlL_2, dDep_1, dDep_2, dDep_3, dDepL_1, dDepL_2, dEq_1, dEq_2, dEq_3, dEq_4, dEq_5, dEq_6, dEq_7, dEq_8, dEq_9, dEq_10, dEq_11, dEqL_1, dEqL_2, dIAdd_1, dIAdd_2, setD_1, itD_1, itD_2, itD_3, itD_4, itD_5, stabS_1, stabS_2, int1_1, int2_1, blsOf_1, blsOf_2, intsOf_1, intsOf_2, strsOf_1, strsOf_2, lv1_1, isNon_1, dLen, dAbs, dIntC, dMax2, dMin2, dOrd1, dSub, dMul, dDiv, dMod, dPow, dLt, dLe, dGt, dGe, List.map_cons, List.map_nil, List.replicate_succ, List.replicate_zero, List.nil_append, List.cons_append, List.length_cons, List.length_nil, List.length_map, updG_same, szL, Nat.reduceAdd, Str_beq, String.reduceEq, String.reduceBEq, Int.reduceBEq, Int.reduceEq, Bool.true_beq, Bool.false_beq, BEq.rfl, if_true, if_false, reduceIte, decide_eq_true_eq, Bool.false_eq_true, Bool.not_true, Bool.not_false, decide_true, decide_false, Bool.and_true, Bool.true_and, Bool.and_false, Bool.false_and, Bool.or_false, Bool.or_true, Bool.false_or, Bool.true_or, Nat.zero_le, Nat.min_zero, Nat.zero_min, true_and, and_true, beq_self_eq_true, Int.reduceLT, Int.reduceLE, Int.reduceNeg, Int.reducePow, Int.reduceAdd, Int.reduceSub, Int.reduceMul, Nat.reducePow, Nat.reduceLT, Nat.reduceLeDiff, Nat.reduceSub, Nat.reduceMul, Int.reduceToNat, Int.reduceGE, Int.reduceGT, atI_0, atI_1, atI_2, atI_3, atI_4, Nat.max_self, Bool.xor_true, Bool.xor_false, Bool.false_xor, Bool.true_xor, ↓dIsB_e, ↓dChain3_e, dMulS_1, ↓dDic_e, ↓dDGet_e, ↓dDIn_e, ↓dSubD_e, dRepLD_1, keyOf_1, keyOf_2, kvOf_1, kvOf_u, dicOf_u, dvOf_1, ↓dForK_e, ↓dLenK_e, ↓dSortI_e, ↓dDc_e, dInU_1, dInU_2, dInU_3, ↓dLcU_e, ↓dSortU_e, ↓dSet_e, ↓dSIn_e, ↓dSAdd_e, ↓dSortS_e, ↓dSortP_e, ↓dPIn_e, ↓dItP_e, ↓dDcP_e, pvOf_1, prOf_1, stOf_1, stD_1, prs_map, lv1_1, ints_map, atI_m1, atI_m2, atI_m3, atI_m4, ↓dDictC_e, ↓dExt_e, ↓dRevL_e, ↓dPop_e, ↓dAddM_e, lsOf_1, lsOf_2])
local macro_rules | `(tactic| simp! only [$args,*]) => `(tactic| try simp only [$args,*, ↓spOf_e, ↓optQ_e, ↓dCond_te, ↓dCond_fe, ↓dVar_e, ↓dC_e, ↓dOp_e, ↓dUn_e, ↓dTest_e, ↓dChain_e, ↓dPure2_e, ↓dPure1_e, ↓dEqR_e, ↓dNeR_e, ↓dInR_e, ↓dIsN_e, ↓dTruth_e, ↓dAndT_e, ↓dOrT_e, ↓dNotT_e, ↓dAnd_e, ↓dOr_e, ↓dNot_e, ↓dIf_e, ↓dNil_e, ↓dCons_e, ↓dTup_e, ↓dLv_e, ↓dRef_e, ↓dIx_e, ↓dNoPart_e, ↓dPart_e, ↓dSl_e, ↓dF_e, ↓dB_e, ↓dTupleC_e, ↓dListC_e, ↓dListM_e, ↓dAll_e, ↓dSum_e, ↓dIsi_e, ↓dName_e, ↓dGnil_e, ↓dGcons_e, ↓dTupG_e, ↓dSubL_e, ↓dNext_e, ↓dSeq_e, ↓dBreak_e, ↓dCont_e, ↓dDrop_e, ↓dRet_e, ↓dRetN_e, ↓dIfS_e, ↓dAsg_e, ↓dAug_e, ↓dApp_e, ↓dIt_e, ↓dRng1_e, ↓dRng2_e, ↓dFor_e, ↓dYes_e, ↓dLc_e, ↓dJoin_e, ↓dCall_e, optQ_e, dCond_te, dCond_fe, dI2_1, dOrd_1, dOrd_2, bindS_e, mapS_e, dOkEq_e, isiB_e, wipeS_1, wipeS_2, isNon_2, dPl_non, dDep_non, dPl_bl, dDep_bl, dPl_int, dDep_int, dPl_str, dDep_str, dEq_non_bl, dEq_non_int, dEq_non_str, dEq_non_tup, dEq_non_lv, dEq_bl_non, dEq_bl_str, dEq_bl_tup, dEq_bl_lv, dEq_int_non, dEq_int_str, dEq_int_tup, dEq_int_lv, dEq_str_non, dEq_str_bl, dEq_str_int, dEq_str_tup, dEq_str_lv, dEq_tup_non, dEq_tup_bl, dEq_tup_int, dEq_tup_str, dEq_tup_lv, dEq_lv_non, dEq_lv_bl, dEq_lv_int, dEq_lv_str, dEq_lv_tup, isNon_3, isNon_4, setS_1, setS_2, setS_3, getS_1, getS_2, dAdd_1, dAdd_2, dAdd_3, dAdd_4, dNeg_1, itemsOf_1, itemsOf_2, itemsOf_3, itemsOf_4, itemsA_1, lenD_1, lenD_2, lenD_3, lenD_4, lenD_5, absD_1, intCD_1, intCD_2, max2D_1, min2D_1, ord1D_1, ixD_1, ixD_2, ixD_3, ixD_4, ixD_5, slD_1, slD_2, slD_3, slD_4, slD_5, truthD_1, truthD_2, truthD_3, truthD_4, truthD_5, truthD_6, truthD_7, truthD_8, tyD_1, tyD_2, tyD_3, tyD_4, tyD_5, tyD_6, tyD_7, tyD_8, tyD_9, blOf_1, intOf_1, refOf_1, tupOf_1, strOf_1, lstOf_1, uncons_1, isNil_1, dPl_1, dPl_2, dPl_3, dPl_4, dPl_5, dPlL_1, dPlL_2, dDep_1, dDep_2, dDep_3, dDepL_1, dDepL_2, dEq_1, dEq_2, dEq_3, dEq_4, dEq_5, dEq_6, dEq_7, dEq_8, dEq_9, dEq_10, dEq_11, dEqL_1, dEqL_2, dIAdd_1, dIAdd_2, setD_1, itD_1, itD_2, itD_3, itD_4, itD_5, stabS_1, stabS_2, int1_1, int2_1, blsOf_1, blsOf_2, intsOf_1, intsOf_2, strsOf_1, strsOf_2, lv1_1, isNon_1, dLen, dAbs, dIntC, dMax2, dMin2, dOrd1, dSub, dMul, dDiv, dMod, dPow, dLt, dLe, dGt, dGe, List.map_cons, List.map_nil, List.replicate_succ, List.replicate_zero, List.nil_append, List.cons_append, List.length_cons, List.length_nil, List.length_map, updG_same, szL, Nat.reduceAdd, Str_beq, String.reduceEq, String.reduceBEq, Int.reduceBEq, Int.reduceEq, Bool.true_beq, Bool.false_beq, BEq.rfl, if_true, if_false, reduceIte, decide_eq_true_eq, Bool.false_eq_true, Bool.not_true, Bool.not_false, decide_true, decide_false, Bool.and_true, Bool.true_and, Bool.and_false, Bool.false_and, Bool.or_false, Bool.or_true, Bool.false_or, Bool.true_or, Nat.zero_le, Nat.min_zero, Nat.zero_min, true_and, and_true, beq_self_eq_true, Int.reduceLT, Int.reduceLE, Int.reduceNeg, Int.reducePow, Int.reduceAdd, Int.reduceSub, Int.reduceMul, Nat.reducePow, Nat.reduceLT, Nat.reduceLeDiff, Nat.reduceSub, Nat.reduceMul, Int.reduceToNat, Int.reduceGE, Int.reduceGT, atI_0, atI_1, atI_2, atI_3, atI_4, Nat.max_self, Bool.xor_true, Bool.xor_false, Bool.false_xor, Bool.true_xor, ↓dIsB_e, ↓dChain3_e, dMulS_1, ↓dDic_e, ↓dDGet_e, ↓dDIn_e, ↓dSubD_e, dRepLD_1, keyOf_1, keyOf_2, kvOf_1, kvOf_u, dicOf_u, dvOf_1, ↓dForK_e, ↓dLenK_e, ↓dSortI_e, ↓dDc_e, dInU_1, dInU_2, dInU_3, ↓dLcU_e, ↓dSortU_e, ↓dSet_e, ↓dSIn_e, ↓dSAdd_e, ↓dSortS_e, ↓dSortP_e, ↓dPIn_e, ↓dItP_e, ↓dDcP_e, pvOf_1, prOf_1, stOf_1, stD_1, prs_map, lv1_1, ints_map, atI_m1, atI_m2, atI_m3, atI_m4, ↓dDictC_e, ↓dExt_e, ↓dRevL_e, ↓dPop_e, ↓dAddM_e, lsOf_1, lsOf_2])
/-! ### schemas -/
inductive Part where
  | leaf (L : Leaf) | name (s : Str)
def Part.d : Part → D
  | .leaf L => L.d
  | .name s => .str s
structure Field where
  id : Int
  part : Part
  mode : Str
  dflt : D
def Field.d (f : Field) : D := .tup [.int f.id, f.part.d, .str f.mode, f.dflt]
def caseD (c : Int × Part) : D := .tup [.int c.1, c.2.d]
inductive Body where
  | rcd (fs : List Field) (rt : List Int) | uni (cs : List (Int × Part)) (rt : List Int) (op : Bool) | lst (p : Part) (lo hi : Int)
def Body.d : Body → D
  | .rcd fs rt => .tup [.str (Str.ofString "record"), .tup (fs.map Field.d), .tup (rt.map .int)]
  | .uni cs rt op => .tup [.str (Str.ofString "union"), .tup (cs.map caseD), .tup (rt.map .int), .bl op]
  | .lst p lo hi => .tup [.str (Str.ofString "list"), p.d, .int lo, .int hi]
/-- names with a depth -/
def known (kvs : List (Key × D)) : Part → Bool
  | .leaf _ => true
  | .name s => (valD kvs (.inr s)).isSome
def Body.hasV (kvs : List (Key × D)) : Body → Bool
  | .rcd fs _ => fs.all fun f => f.mode == Str.ofString "optional" || known kvs f.part
  | .uni cs _ op => op || cs.any fun c => known kvs c.2
  | .lst p lo _ => decide (lo ≤ 0) || known kvs p
/-- enough of a valid body for the depths -/
def Body.fit : Body → Prop
  | .rcd fs _ => fs.length ≤ 1000 ∧ ∀ f ∈ fs, f.mode = Str.ofString "required" ∨ f.mode = Str.ofString "optional" ∨ (f.mode = Str.ofString "default" ∧ ∃ L, f.part = .leaf L)
  | .uni cs _ _ => cs.length ≤ 1000
  | .lst _ lo _ => 0 ≤ lo ∧ lo ≤ 99
theorem part_str (p : Part) (G : Gp) : tyD p.d G = some (match p with | .leaf _ => "tuple" | .name _ => "str") := by
  cases p with
  | leaf L => cases L <;> rfl
  | name s => rfl
theorem any_map {α : Type} (f : α → D) (g : D → D) (b : α → Bool) (h : ∀ a, g (f a) = .bl (b a)) (xs : List α) : blsOf ((xs.map f).map g) = some (xs.map b) := by
  rw [List.map_map, show g ∘ f = fun a => D.bl (b a) from funext h, bls_map]
theorem len_zz (n : Nat) : (((n : Int)) == 0) = decide (n = 0) := by
  cases n with
  | zero => rfl
  | succ n => exact beq_eq_false_iff_ne.mpr (by omega)
abbrev Defs := List (Str × Body)
def defD (d : Str × Body) : D := .tup [.str d.1, d.2.d]
def schD (root : Str) (ds : Defs) : D := .tup [.str root, .tup (ds.map defD)]
def Fits (ds : Defs) : Prop := ds.length ≤ 20 ∧ ∀ d ∈ ds, d.2.fit
def newV (kvs : List (Key × D)) (d : Str × Body) : Bool := !(valD kvs (.inr d.1)).isSome && d.2.hasV kvs
def putAll (i : Int) (kvs : List (Key × D)) (ds : Defs) : List (Key × D) := ds.foldl (fun k d => putD k (.inr d.1) (.int i)) kvs
/-- the depths after so many rounds -/
def depthsOf (ds : Defs) : Nat → List (Key × D)
  | 0 => []
  | j + 1 => putAll (1 + (j : Nat)) (depthsOf ds j) (ds.filter (newV (depthsOf ds j)))
theorem putD_len (kvs : List (Key × D)) (k : Key) (v : D) : (putD kvs k v).length ≤ kvs.length + 1 := by
  unfold putD
  split
  · rw [List.length_map]
    omega
  · rw [List.length_append, List.length_singleton]
    omega
theorem putAll_len (i : Int) : ∀ (ds : Defs) (kvs : List (Key × D)), (putAll i kvs ds).length ≤ kvs.length + ds.length
  | [], kvs => Nat.le_refl _
  | d :: ds, kvs => by
    have h1 := putD_len kvs (.inr d.1) (.int i)
    have h2 := putAll_len i ds (putD kvs (.inr d.1) (.int i))
    show (putAll i (putD kvs (.inr d.1) (.int i)) ds).length ≤ _
    rw [List.length_cons]
    omega
theorem depths_len (ds : Defs) : ∀ j, (depthsOf ds j).length ≤ j * ds.length
  | 0 => Nat.zero_le _
  | j + 1 => by
    have h1 := putAll_len (1 + (j : Nat)) (ds.filter (newV (depthsOf ds j))) (depthsOf ds j)
    have h2 := depths_len ds j
    have h3 := List.length_filter_le (newV (depthsOf ds j)) ds
    show (putAll _ _ _).length ≤ _
    rw [Nat.add_mul]
    omega
/-- names that may be laid out, depths that are numbers -/
def GoodK (kvs : List (Key × D)) : Prop := ∀ p ∈ kvs, ∃ (s : Str) (i : Int), p.1 = .inr s ∧ p.2 = .int i ∧ sOk s = true
theorem good_put {kvs : List (Key × D)} {s : Str} {i : Int} (h : GoodK kvs) (hs : sOk s = true) : GoodK (putD kvs (.inr s) (.int i)) := by
  unfold putD
  split
  · intro p hp
    rw [List.mem_map] at hp
    obtain ⟨kv, hm, rfl⟩ := hp
    obtain ⟨s', i', h1, h2, h3⟩ := h kv hm
    split
    · exact ⟨s', i, h1, rfl, h3⟩
    · exact ⟨s', i', h1, h2, h3⟩
  · intro p hp
    rcases List.mem_append.mp hp with hp | hp
    · exact h p hp
    · rw [List.mem_singleton] at hp
      subst hp
      exact ⟨s, i, rfl, rfl, hs⟩
theorem good_all {i : Int} : ∀ {ds : Defs} {kvs : List (Key × D)}, GoodK kvs → (∀ d ∈ ds, sOk d.1 = true) → GoodK (putAll i kvs ds)
  | [], kvs, h, _ => h
  | d :: ds, kvs, h, hs => good_all (ds := ds) (good_put h (hs d List.mem_cons_self)) fun e he => hs e (List.mem_cons_of_mem _ he)
theorem good_depths {ds : Defs} (hs : ∀ d ∈ ds, sOk d.1 = true) : ∀ j, GoodK (depthsOf ds j)
  | 0 => fun p hp => by cases hp
  | j + 1 => good_all (good_depths hs j) fun d hd => hs d (List.mem_filter.mp hd).1
theorem good_keys {kvs : List (Key × D)} (h : GoodK kvs) : keysOk kvs = true := by
  unfold keysOk
  rw [List.all_eq_true]
  intro p hp
  obtain ⟨s, i, h1, h2, h3⟩ := h p hp
  rw [h1]
  exact h3
theorem val_of {kvs : List (Key × D)} {p : Key × D} (h : GoodK kvs) (hp : p ∈ kvs) : ∃ i : Int, valD kvs p.1 = some (.int i) := by
  unfold valD
  cases e : kvs.find? fun kv => decide (kv.1 = p.1) with
  | none => exact absurd (decide_eq_true (rfl : p.1 = p.1)) (by have := List.find?_eq_none.mp e p hp; exact this)
  | some q =>
    obtain ⟨s, i, h1, h2, h3⟩ := h q (List.mem_of_find?_eq_some e)
    exact ⟨i, by rw [Option.map_some, h2]⟩
def GoodS (df : Defs) : Prop := Fits df ∧ df ≠ [] ∧ ∀ d ∈ df, sOk d.1 = true

/-! ### ids of leaves and bodies, steps of leaves -/
theorem pigeon : ∀ (n : Nat) (l : List Int), (∀ m : Int, 1 ≤ m → m ≤ n → m ∈ l) → n ≤ l.length
  | 0, _, _ => Nat.zero_le _
  | n + 1, l, h => by
    have hm : ((n : Int) + 1) ∈ l := h _ (by omega) (by omega)
    have ih := pigeon n (l.erase ((n : Int) + 1)) fun m m0 m1 => (List.mem_erase_of_ne (show m ≠ (n : Int) + 1 by omega)).mpr (h m m0 (by omega))
    have := List.length_erase_of_mem hm
    have : 0 < l.length := List.length_pos_of_mem hm
    omega
def idsFol (ol or nl nr : List Int) : Bool := (ol.all fun n => nl.contains n || nr.contains n) && or.all fun n => nr.contains n
def Leaf.fol : Leaf → Leaf → Bool
  | .number a b, .number c d => decide (c ≤ a) && decide (b ≤ d)
  | .text a b, .text c d => decide (c ≤ a) && decide (b ≤ d)
  | .choice s r o, .choice s2 r2 o2 => idsFol s r s2 r2 && (o2 || !o)
  | _, _ => false
def Leaf.size : Leaf → Nat
  | .choice s r _ => s.length + r.length
  | _ => 0
/-- what has ids, live and retired ones -/
inductive HasIds : D → List Int → List Int → Prop
  | choice (s r : List Int) (o : Bool) : HasIds (Leaf.choice s r o).d s r
  | rcd (fs : List Field) (r : List Int) : fs.length ≤ 1000 → HasIds (Body.rcd fs r).d (fs.map (·.id)) r
  | uni (cs : List (Int × Part)) (r : List Int) (o : Bool) : cs.length ≤ 1000 → HasIds (Body.uni cs r o).d (cs.map (·.1)) r
theorem HasIds.two {b : D} {live ret : List Int} (h : HasIds b live ret) (G : Gp) : ixD b (.int 2) G = some (.tup (ret.map .int)) := by
  cases h with
  | choice s r o => exact atI_2 _ _ _ _
  | rcd fs r hl => exact atI_2 _ _ _ _
  | uni cs r o hl => exact atI_2 _ _ _ _
theorem in_ints (i : Int) (xs : List Int) : dDepL (xs.map D.int) = 0 ∧ dPlL (xs.map D.int) = true := ⟨dep_ints xs, pl_ints xs⟩
theorem fol_c {s r : List Int} {o : Bool} {s2 r2 : List Int} {o2 : Bool} : (Leaf.choice s r o).fol (.choice s2 r2 o2) = (idsFol s r s2 r2 && (o2 || !o)) := rfl
theorem size_c {s r : List Int} {o : Bool} : (Leaf.choice s r o).size = s.length + r.length := rfl
theorem less_one {xs : List Int} {g : Int} (h : xs.Pairwise (· < ·)) (m : g ∈ xs) : (xs.filter fun x => !(x == g)).length + 1 = xs.length := by
  have nd : xs.Nodup := h.imp fun h => by omega
  have e := nd.erase_eq_filter g
  have e2 : (xs.filter fun x => !(x == g)) = xs.erase g := by rw [e]; rfl
  rw [e2, List.length_erase_of_mem m]
  have := List.length_pos_of_mem m
  omega

mutual
/-- plain data: no list, no dictionary, no address -/
def dPn : D → Bool
  | .non => true
  | .bl _ => true
  | .int _ => true
  | .str _ => true
  | .tup ds => dPnL ds
  | _ => false
def dPnL : List D → Bool
  | [] => true
  | d :: r => dPn d && dPnL r
end
theorem dPnL_mem : ∀ {ds : List D} {d : D}, dPnL ds = true → d ∈ ds → dPn d = true
  | x :: xs, d, h, m => by
    unfold dPnL at h
    rw [Bool.and_eq_true] at h
    rcases List.mem_cons.mp m with rfl | m
    · exact h.1
    · exact dPnL_mem h.2 m
theorem dDepL_mem : ∀ {ds : List D} {d : D}, d ∈ ds → dDep d ≤ dDepL ds
  | x :: xs, d, m => by
    unfold dDepL
    rcases List.mem_cons.mp m with rfl | m
    · exact Nat.le_max_left _ _
    · exact Nat.le_trans (dDepL_mem m) (Nat.le_max_right _ _)

/-! ### bodies with all that point 3 asks but the names -/
def nOk (s : Str) : Prop := sOk s = true ∧ s.length ≤ 12
def Part.wf : Part → Prop
  | .leaf L => L.wf
  | .name s => nOk s
def Part.size : Part → Nat
  | .leaf L => L.size
  | .name _ => 0
structure Field.wf (f : Field) : Prop where
  part : f.part.wf
  mode : (f.mode = Str.ofString "required" ∧ f.dflt = .non) ∨ (f.mode = Str.ofString "optional" ∧ f.dflt = .non) ∨
    (f.mode = Str.ofString "default" ∧ ∃ L, f.part = .leaf L ∧ (∀ s r o, L ≠ .choice s r o) ∧ L.has f.dflt = true ∧ dVal f.dflt = true ∧ dW f.dflt ≤ 60)
structure IdsOf (xs ys : List Int) : Prop where
  live : Ids xs
  ret : Ids ys
  apart : ∀ x ∈ xs, x ∉ ys
def Body.wf (n : Nat) : Body → Prop
  | .rcd fs rt => IdsOf (fs.map (·.id)) rt ∧ fs.length + rt.length ≤ n ∧ ∀ f ∈ fs, f.wf ∧ f.part.size ≤ n
  | .uni cs rt op => IdsOf (cs.map (·.1)) rt ∧ cs.length + rt.length ≤ n ∧ (∀ c ∈ cs, c.2.wf ∧ c.2.size ≤ n) ∧ (op = false → rt = [] ∧ cs ≠ [])
  | .lst p lo hi => p.wf ∧ p.size ≤ n ∧ 0 ≤ lo ∧ lo ≤ hi ∧ 1 ≤ hi ∧ hi ≤ 99
theorem Body.wf.mono {n m : Nat} (h : n ≤ m) {b : Body} (w : b.wf n) : b.wf m := by
  cases b with
  | rcd fs rt => exact ⟨w.1, Nat.le_trans w.2.1 h, fun f hf => ⟨(w.2.2 f hf).1, Nat.le_trans (w.2.2 f hf).2 h⟩⟩
  | uni cs rt op => exact ⟨w.1, Nat.le_trans w.2.1 h, fun f hf => ⟨(w.2.2.1 f hf).1, Nat.le_trans (w.2.2.1 f hf).2 h⟩, w.2.2.2⟩
  | lst p lo hi => exact ⟨w.1, Nat.le_trans w.2.1 h, w.2.2⟩
/-- definitions: names that ascend, good bodies -/
structure DefsOk (n : Nat) (df : Defs) : Prop where
  ne : df ≠ []
  len : df.length ≤ 8
  names : ∀ d ∈ df, nOk d.1
  nd : (df.map (·.1)).Nodup
  body : ∀ d ∈ df, d.2.wf n
theorem DefsOk.mono {n m : Nat} (h : n ≤ m) {df : Defs} (w : DefsOk n df) : DefsOk m df := ⟨w.ne, w.len, w.names, w.nd, fun d hd => (w.body d hd).mono h⟩
/-! ### rows of ids: one more, one less -/
def insI (xs : List Int) (n : Int) : List Int := (xs.filter fun x => decide (x < n)) ++ [n] ++ (xs.filter fun x => decide (n < x))
theorem len_two (n : Int) : ∀ xs : List Int, n ∉ xs → (xs.filter fun x => decide (x < n)).length + (xs.filter fun x => decide (n < x)).length = xs.length
  | [], _ => rfl
  | x :: xs, h => by
    have ih := len_two n xs fun m => h (List.mem_cons_of_mem _ m)
    have hx : x ≠ n := fun e => h (by rw [e]; exact List.mem_cons_self)
    by_cases c : x < n
    · rw [List.filter_cons_of_pos (by exact decide_eq_true c), List.filter_cons_of_neg (by simp; omega), List.length_cons, List.length_cons]
      omega
    · rw [List.filter_cons_of_neg (by simp; omega), List.filter_cons_of_pos (by exact decide_eq_true (show n < x by omega)), List.length_cons, List.length_cons]
      omega
/-- a row with one more -/
structure More (ids : List Int) (n : Int) (ns : List Int) : Prop where
  lt : ns.Pairwise (· < ·)
  mem : ∀ x, x ∈ ns ↔ x ∈ ids ∨ x = n
  len : ns.length = ids.length + 1
theorem more_ins {xs : List Int} {n : Int} (h : xs.Pairwise (· < ·)) (hn : n ∉ xs) : More xs n (insI xs n) := by
  refine ⟨?_, fun x => ?_, ?_⟩
  · unfold insI
    rw [List.pairwise_append, List.pairwise_append]
    refine ⟨⟨h.filter _, List.pairwise_singleton _ _, fun a ha b hb => ?_⟩, h.filter _, fun a ha b hb => ?_⟩
    · rw [List.mem_singleton] at hb
      rw [List.mem_filter] at ha
      rw [hb]
      exact of_decide_eq_true ha.2
    · rw [List.mem_filter] at hb
      have hb := of_decide_eq_true hb.2
      rcases List.mem_append.mp ha with ha | ha
      · rw [List.mem_filter] at ha
        have ha := of_decide_eq_true ha.2
        omega
      · rw [List.mem_singleton] at ha
        omega
  · unfold insI
    rw [List.mem_append, List.mem_append, List.mem_filter, List.mem_filter, List.mem_singleton, decide_eq_true_iff, decide_eq_true_iff]
    constructor
    · rintro ((h | h) | h)
      · exact .inl h.1
      · exact .inr h
      · exact .inl h.1
    · rintro (h | h)
      · rcases Int.lt_trichotomy x n with c | c | c
        · exact .inl (.inl ⟨h, c⟩)
        · exact .inl (.inr c)
        · exact .inr ⟨h, c⟩
      · exact .inl (.inr h)
  · unfold insI
    rw [List.length_append, List.length_append, List.length_singleton]
    have := len_two n xs hn
    omega
theorem IdsOf.more {xs ys zs : List Int} {n : Int} (h : IdsOf xs ys) (p : More xs n zs) (h0 : 1 ≤ n) (h1 : n ≤ 99) (hy : n ∉ ys) : IdsOf zs ys :=
  ⟨⟨p.lt, fun x hx => by
    rcases (p.mem x).mp hx with hx | rfl
    · exact h.live.2 x hx
    · exact ⟨h0, h1⟩⟩, h.ret, fun x hx => by
    rcases (p.mem x).mp hx with hx | rfl
    · exact h.apart x hx
    · exact hy⟩
theorem IdsOf.retire {xs ys zs : List Int} {n : Int} (h : IdsOf xs ys) (p : More ys n zs) (h0 : 1 ≤ n) (h1 : n ≤ 99) (hy : n ∉ xs) : IdsOf xs zs :=
  ⟨h.live, ⟨p.lt, fun x hx => by
    rcases (p.mem x).mp hx with hx | rfl
    · exact h.ret.2 x hx
    · exact ⟨h0, h1⟩⟩, fun x hx hz => by
    rcases (p.mem x).mp hz with hz | rfl
    · exact h.apart x hx hz
    · exact hy hx⟩
theorem IdsOf.drop {xs ys : List Int} (h : IdsOf xs ys) (p : Int → Bool) : IdsOf (xs.filter p) ys :=
  ⟨⟨h.live.1.filter _, fun x hx => h.live.2 x (List.mem_filter.mp hx).1⟩, h.ret, fun x hx => h.apart x (List.mem_filter.mp hx).1⟩
section
variable {α : Type} (k : α → Int)
/-- members by their ids -/
def insR (xs : List α) (a : α) : List α := (xs.filter fun x => decide (k x < k a)) ++ [a] ++ (xs.filter fun x => decide (k a < k x))
def delR (xs : List α) (n : Int) : List α := xs.filter fun x => !(k x == n)
theorem insR_ids (xs : List α) (a : α) : (insR k xs a).map k = insI (xs.map k) (k a) := by
  unfold insR insI
  rw [List.map_append, List.map_append, List.filter_map, List.filter_map]
  rfl
theorem delR_ids (xs : List α) (n : Int) : (delR k xs n).map k = (xs.map k).filter fun x => !(x == n) := by
  unfold delR
  rw [List.filter_map]
  rfl
theorem insR_mem {xs : List α} {a b : α} (h : b ∈ insR k xs a) : b ∈ xs ∨ b = a := by
  unfold insR at h
  rw [List.mem_append, List.mem_append, List.mem_filter, List.mem_filter, List.mem_singleton] at h
  rcases h with (h | h) | h
  · exact .inl h.1
  · exact .inr h
  · exact .inl h.1
theorem delR_mem {xs : List α} {n : Int} {b : α} (h : b ∈ delR k xs n) : b ∈ xs := (List.mem_filter.mp h).1
theorem delR_not (xs : List α) (n : Int) : n ∉ (delR k xs n).map k := by
  rw [delR_ids, List.mem_filter]
  simp
theorem insR_len {xs : List α} {a : α} (h : (xs.map k).Pairwise (· < ·)) (hn : k a ∉ xs.map k) : (insR k xs a).length = xs.length + 1 := by
  have := (more_ins h hn).len
  rw [← insR_ids, List.length_map, List.length_map] at this
  exact this
theorem delR_len {xs : List α} {a : α} (h : (xs.map k).Pairwise (· < ·)) (ha : a ∈ xs) : (delR k xs (k a)).length + 1 = xs.length := by
  have := less_one h (List.mem_map_of_mem (f := k) ha)
  rw [← delR_ids, List.length_map, List.length_map] at this
  exact this
theorem idsOf_ins {xs : List α} {ys : List Int} {a : α} (h : IdsOf (xs.map k) ys) (hn : k a ∉ xs.map k) (h0 : 1 ≤ k a) (h1 : k a ≤ 99) (hy : k a ∉ ys) : IdsOf ((insR k xs a).map k) ys := by
  rw [insR_ids]
  exact h.more (more_ins h.live.1 hn) h0 h1 hy
theorem idsOf_del {xs : List α} {ys : List Int} {n : Int} (h : IdsOf (xs.map k) ys) : IdsOf ((delR k xs n).map k) ys := by
  rw [delR_ids]
  exact h.drop _
/-- one member in the place of one with the same id -/
theorem idsOf_put {xs : List α} {ys : List Int} {a b : α} (h : IdsOf (xs.map k) ys) (ha : a ∈ xs) (e : k b = k a) : IdsOf ((insR k (delR k xs (k a)) b).map k) ys := by
  have hm := List.mem_map_of_mem (f := k) ha
  have hb := h.live.2 _ hm
  exact idsOf_ins k (idsOf_del k h) (by rw [e]; exact delR_not k xs _) (by omega) (by omega) (by rw [e]; exact h.apart _ hm)
theorem put_len {xs : List α} {ys : List Int} {a b : α} (h : IdsOf (xs.map k) ys) (ha : a ∈ xs) (e : k b = k a) : (insR k (delR k xs (k a)) b).length = xs.length := by
  rw [insR_len k (idsOf_del k h).live.1 (by rw [e]; exact delR_not k xs _), delR_len k h.live.1 ha]
theorem put_mem {xs : List α} {a b c : α} (h : c ∈ insR k (delR k xs (k a)) b) : c ∈ xs ∨ c = b := (insR_mem k h).imp_left (delR_mem k)
end
/-! ### rows of parts, dictionaries of them -/
abbrev Rows := List (Int × Part)
def Body.rows : Body → Rows
  | .rcd fs _ => fs.map fun f => (f.id, f.part)
  | .uni cs _ _ => cs
  | .lst _ _ _ => []
def Body.ret : Body → List Int
  | .rcd _ r => r
  | .uni _ r _ => r
  | .lst _ _ _ => []
def Body.isL : Body → Bool
  | .lst _ _ _ => true
  | _ => false
def look (rs : Rows) (n : Int) : Option Part := (rs.find? fun r => decide (r.1 = n)).map (·.2)
def dictOf (rs : Rows) : List (L2.Key × D) := rs.map fun r => (.inl r.1, r.2.d)
theorem find_key (n : Int) : ∀ rs : Rows, ((dictOf rs).find? fun kv => decide (kv.1 = .inl n)) = (rs.find? fun r => decide (r.1 = n)).map fun r => ((.inl r.1 : L2.Key), r.2.d)
  | [] => rfl
  | r :: rs => by
    by_cases h : r.1 = n
    · show List.find? _ ((Sum.inl r.1, r.2.d) :: dictOf rs) = _
      rw [List.find?_cons_of_pos (by simp [h]), List.find?_cons_of_pos (by simp [h])]
      rfl
    · show List.find? _ ((Sum.inl r.1, r.2.d) :: dictOf rs) = _
      rw [List.find?_cons_of_neg (by simp [h]), List.find?_cons_of_neg (by simp [h]), find_key n rs]
theorem val_dict (rs : Rows) (n : Int) : valD (dictOf rs) (.inl n) = (look rs n).map Part.d := by
  unfold valD look
  rw [find_key, Option.map_map, Option.map_map]
  rfl
theorem look_has : ∀ (rs : Rows) (n : Int), (look rs n).isSome = (rs.map (·.1)).contains n
  | [], n => rfl
  | r :: rs, n => by
    have ih := look_has rs n
    unfold look at ih ⊢
    rw [List.map_cons, List.contains_cons]
    by_cases h : r.1 = n
    · rw [List.find?_cons_of_pos (by simp [h]), h]
      simp
    · rw [List.find?_cons_of_neg (by simp [h]), ih]
      have : (n == r.1) = false := beq_eq_false_iff_ne.mpr (fun e => h e.symm)
      rw [this, Bool.false_or]
theorem dict_has (rs : Rows) (n : Int) : (valD (dictOf rs) (.inl n)).isSome = (rs.map (·.1)).contains n := by
  rw [val_dict, Option.isSome_map, look_has]
theorem dict_keys (rs : Rows) : ((dictOf rs).map fun kv => keyD kv.1) = (rs.map (·.1)).map D.int := by
  unfold dictOf
  rw [List.map_map, List.map_map]
  rfl
theorem dict_ok (rs : Rows) : keysOk (dictOf rs) = true := by
  unfold keysOk dictOf
  rw [List.all_eq_true]
  intro p hp
  rw [List.mem_map] at hp
  obtain ⟨r, _, rfl⟩ := hp
  rfl
theorem look_mem {rs : Rows} {r : Int × Part} (nd : (rs.map (·.1)).Nodup) (h : r ∈ rs) : look rs r.1 = some r.2 := by
  induction rs with
  | nil => cases h
  | cons a rs ih =>
    rw [List.map_cons, List.nodup_cons] at nd
    unfold look
    rcases List.mem_cons.mp h with rfl | h
    · rw [List.find?_cons_of_pos (by simp)]
      rfl
    · have hr := List.mem_map_of_mem (f := fun r : Int × Part => r.1) h
      rw [List.find?_cons_of_neg (by simp only [decide_eq_true_eq]; intro e; rw [← e] at hr; exact nd.1 hr)]
      exact ih nd.2 h
theorem Body.wf.nd {n : Nat} {b : Body} (w : b.wf n) : (b.rows.map (·.1)).Nodup := by
  cases b with
  | rcd fs rt =>
    have := w.1.live.1
    show ((fs.map fun f => (f.id, f.part)).map (·.1)).Nodup
    rw [List.map_map]
    exact this.imp fun h => by omega
  | uni cs rt op => exact w.1.live.1.imp fun h => by omega
  | lst p lo hi => exact .nil
theorem Body.wf.rl {n : Nat} {b : Body} (w : b.wf n) : b.rows.length ≤ n := by
  cases b with
  | rcd fs rt =>
    have := w.2.1
    show (fs.map fun f => (f.id, f.part)).length ≤ n
    rw [List.length_map]
    omega
  | uni cs rt op =>
    have := w.2.1
    show cs.length ≤ n
    omega
  | lst p lo hi => exact Nat.zero_le _
theorem rcd_ids (fs : List Field) (rt : List Int) : (Body.rcd fs rt).rows.map (·.1) = fs.map (·.id) := by
  show (fs.map fun f => (f.id, f.part)).map (·.1) = _
  rw [List.map_map]
  rfl
/-- a dictionary's comprehension over rows with unlike keys -/
theorem dcomp_map {α : Type} {S : Gp → Prop} {g : DTG} {tk te : DTE} {δ : DS} {Q : List (L2.Key × D) → Gp → Prop} {G : Gp} (f : α → D) (k : α → L2.Key) (v : α → D) (hS : S G) : ∀ (xs : List α) (acc : List (L2.Key × D)), acc.length + xs.length ≤ sizeLine → (xs.map k).Nodup → (∀ a ∈ xs, ∀ kv ∈ acc, kv.1 ≠ k a) →
    (∀ a ∈ xs, ∀ (K1 : D → D → Gp → Prop), K1 (keyD (k a)) (v a) G → g (f a) δ G fun δ1 G1 => tk δ1 G1 fun x G2 => te δ1 G2 fun y G3 => K1 x y G3) →
    Q (acc ++ xs.map fun a => (k a, v a)) G → dDComp S g dYes tk te δ Q (xs.map f) acc G
  | [], acc, _, _, _, _, q => ⟨hS, by simpa using q⟩
  | d :: r, acc, hl, nd, dj, h, q => by
    rw [List.length_cons] at hl
    rw [List.map_cons, List.nodup_cons] at nd
    refine ⟨hS, h d List.mem_cons_self (fun x y G3 => optQ (keyOf x) fun k => acc.length < sizeLine ∧ dDComp S g dYes tk te δ Q (r.map f) (putD acc k y) G3) ?_⟩
    have ek : keyOf (keyD (k d)) = some (k d) := by cases k d <;> rfl
    show optQ (keyOf (keyD (k d))) _
    rw [ek, optQ_e]
    have ep : putD acc (k d) (v d) = acc ++ [(k d, v d)] := by
      unfold putD
      rw [if_neg]
      rw [List.any_eq_true]
      rintro ⟨kv, h1, h2⟩
      exact dj d List.mem_cons_self kv h1 (of_decide_eq_true h2)
    rw [ep]
    refine ⟨by omega, dcomp_map f k v hS r _ (by rw [List.length_append, List.length_singleton]; omega) nd.2 (fun a ha kv hkv => ?_) (fun a ha => h a (List.mem_cons_of_mem _ ha)) ?_⟩
    · rcases List.mem_append.mp hkv with hkv | hkv
      · exact dj a (List.mem_cons_of_mem _ ha) kv hkv
      · rw [List.mem_singleton] at hkv
        rw [hkv]
        intro e
        have e : k d = k a := e
        exact nd.1 (by rw [e]; exact List.mem_map_of_mem ha)
    · rw [List.append_assoc]
      exact q
/-! ### pairs that meet, and when a body follows another one -/
def innerP (b c : Body) : List (Int × Part × Part) := match b, c with
  | .lst p _ _, .lst q _ _ => [(0, p, q)]
  | .rcd fs r, .rcd gs s => (Body.rcd fs r).rows.filterMap fun x => (look (Body.rcd gs s).rows x.1).map fun q => (x.1, x.2, q)
  | .uni cs r o, .uni ds s u => cs.filterMap fun x => (look ds x.1).map fun q => (x.1, x.2, q)
  | _, _ => []
def trD (t : Int × Part × Part) : D := .tup [.int t.1, t.2.1.d, t.2.2.d]
def Part.fol : Part → Part → Bool
  | .leaf L, .leaf M => L.fol M
  | .name _, .name _ => true
  | _, _ => false
def modeFol (f g : Field) : Bool := if f.mode == Str.ofString "default" then g.mode == Str.ofString "default" && dEq g.dflt f.dflt else f.mode == Str.ofString "required" || !(g.mode == Str.ofString "required")
def fieldOf (fs : List Field) (n : Int) : Option Field := fs.find? fun f => decide (f.id = n)
def modeO (o : Option Field) (g : Field) : Bool := match o with
  | some f => modeFol f g
  | none => !(g.mode == Str.ofString "required")
def modesFol (fs gs : List Field) : Bool := gs.all fun g => modeO (fieldOf fs g.id) g
def Body.fol : Body → Body → Bool
  | .lst p a b, .lst q c e => decide (c ≤ a) && decide (b ≤ e) && p.fol q
  | .rcd fs r, .rcd gs s => idsFol (fs.map (·.id)) r (gs.map (·.id)) s && modesFol fs gs && (innerP (.rcd fs r) (.rcd gs s)).all fun t => t.2.1.fol t.2.2
  | .uni cs r o, .uni ds s u => idsFol (cs.map (·.1)) r (ds.map (·.1)) s && (u || !o) && (innerP (.uni cs r o) (.uni ds s u)).all fun t => t.2.1.fol t.2.2
  | _, _ => false
/-! ### sizes of parts, for comparisons -/
theorem dPnL_ints : ∀ ns : List Int, dPnL (ns.map .int) = true
  | [] => rfl
  | n :: ns => dPnL_ints ns
theorem leaf_pn (L : Leaf) : dPn L.d = true ∧ dDep L.d ≤ 2 ∧ dW L.d ≤ 20 + L.size := by
  cases L with
  | number a b =>
    have w3 : (Str.ofString "number").length = 6 := by decide +kernel
    refine ⟨rfl, (by decide : 1 ≤ 2), ?_⟩
    simp only [Leaf.d, dW, dWL, w3]
    omega
  | text a b =>
    have w3 : (Str.ofString "text").length = 4 := by decide +kernel
    refine ⟨rfl, (by decide : 1 ≤ 2), ?_⟩
    simp only [Leaf.d, dW, dWL, w3]
    omega
  | choice s r o =>
    have w3 : (Str.ofString "choice").length = 6 := by decide +kernel
    refine ⟨?_, ?_, ?_⟩
    · simp only [Leaf.d, dPn, dPnL, dPnL_ints]
      rfl
    · show max 0 (max (dDepL (s.map .int) + 1) (max (dDepL (r.map .int) + 1) (max 0 0))) + 1 ≤ 2
      rw [dep_ints, dep_ints]
      decide
    · simp only [Leaf.d, dW, dWL, dWL_ints, size_c, w3]
      omega
theorem part_pn {p : Part} (w : p.wf) : dPn p.d = true ∧ dDep p.d ≤ 2 ∧ dW p.d ≤ 20 + p.size := by
  cases p with
  | leaf L => exact leaf_pn L
  | name s =>
    refine ⟨rfl, Nat.zero_le _, ?_⟩
    have := w.2
    show s.length + 1 ≤ 20 + 0
    omega
theorem trs_pn {ts : List (Int × Part × Part)} {n : Nat} (h : ∀ t ∈ ts, t.2.1.wf ∧ t.2.2.wf ∧ t.2.1.size ≤ n ∧ t.2.2.size ≤ n) : dPnL (ts.map trD) = true ∧ dDepL (ts.map trD) ≤ 3 ∧ dWL (ts.map trD) ≤ ts.length * (50 + 2 * n) := by
  induction ts with
  | nil => exact ⟨rfl, Nat.zero_le _, Nat.zero_le _⟩
  | cons t ts ih =>
    obtain ⟨i1, i2, i3⟩ := ih fun u hu => h u (List.mem_cons_of_mem _ hu)
    obtain ⟨w1, w2, z1, z2⟩ := h t List.mem_cons_self
    obtain ⟨a1, a2, a3⟩ := part_pn w1
    obtain ⟨b1, b2, b3⟩ := part_pn w2
    refine ⟨?_, ?_, ?_⟩
    · show ((true && (dPn t.2.1.d && (dPn t.2.2.d && true))) && dPnL (ts.map trD)) = true
      rw [a1, b1, i1]
      rfl
    · show max (max 0 (max (dDep t.2.1.d) (max (dDep t.2.2.d) 0)) + 1) (dDepL (ts.map trD)) ≤ 3
      omega
    · show (1 + (dW t.2.1.d + (dW t.2.2.d + 0))) + 1 + dWL (ts.map trD) ≤ (ts.length + 1) * (50 + 2 * n)
      rw [Nat.add_mul]
      omega

def knownD (kvs : List (Key × D)) : D → D
  | .str s => .bl (valD kvs (.inr s)).isSome
  | _ => .bl true
theorem knownD_e (kvs : List (Key × D)) (p : Part) : knownD kvs p.d = .bl (known kvs p) := by
  cases p with
  | leaf L => cases L <;> rfl
  | name s => rfl
theorem rangeD_r (lo : Int) (n : Nat) : rangeD lo n = (List.range' 0 n).map fun i => D.int (lo + (i : Nat)) := by
  unfold rangeD
  rw [List.range_eq_range']
def Leaf.simple : Leaf → D
  | .number lo hi => .int (if (if 0 < hi then 0 else hi) > lo then (if 0 < hi then 0 else hi) else lo)
  | .text lo _ => .str (Txt.mul (Str.ofString "a") lo)
  | .choice sy _ _ => .int (sy.headD 0)
theorem mul_a : ∀ k : Fin 41, (Txt.mul (Str.ofString "a") (k.val : Int)).length = k.val ∧ okT (Txt.mul (Str.ofString "a") (k.val : Int)) = true := by decide +kernel
theorem mul_a' {n : Int} (h0 : 0 ≤ n) (h1 : n ≤ 40) : ((Txt.mul (Str.ofString "a") n).length : Int) = n ∧ okT (Txt.mul (Str.ofString "a") n) = true := by
  have h := mul_a ⟨n.toNat, by omega⟩
  have e : ((n.toNat : Nat) : Int) = n := Int.toNat_of_nonneg h0
  simp only [e] at h
  exact ⟨by rw [h.1]; exact e, h.2⟩
theorem simple_ok {L : Leaf} (h : L.wf) : L.has L.simple = true ∧ dVal L.simple = true ∧ dW L.simple ≤ 60 := by
  cases L with
  | number lo hi =>
    obtain ⟨h1, h2, h3⟩ := h
    refine ⟨?_, rfl, show (1 : Nat) ≤ 60 by decide⟩
    simp only [Leaf.simple, Leaf.has, Bool.and_eq_true, decide_eq_true_eq]
    split <;> split at * <;> constructor <;> omega
  | text lo hi =>
    obtain ⟨h1, h2, h3⟩ := h
    obtain ⟨a1, a2⟩ := mul_a' h1 (by omega)
    refine ⟨?_, rfl, ?_⟩
    · simp only [Leaf.simple, Leaf.has, a1, a2, Bool.and_eq_true, decide_eq_true_eq]
      exact ⟨⟨Int.le_refl _, h2⟩, trivial⟩
    · show (Txt.mul (Str.ofString "a") lo).length + 1 ≤ 60
      omega
  | choice sy rt op =>
    obtain ⟨h1, h2, h3, h4⟩ := h
    refine ⟨?_, rfl, show (1 : Nat) ≤ 60 by decide⟩
    cases sy with
    | nil =>
      cases op with
      | true => rfl
      | false => exact absurd rfl (h4 rfl).2
    | cons x r => simp [Leaf.simple, Leaf.has]
theorem fmap_some {α β : Type} {g : α → Option β} {pre : List α} {x : α} {y : β} (h : g x = some y) : (pre ++ [x]).filterMap g = pre.filterMap g ++ [y] := by
  rw [List.filterMap_append, List.filterMap_cons_some h, List.filterMap_nil]
theorem fmap_none {α β : Type} {g : α → Option β} {pre : List α} {x : α} (h : g x = none) : (pre ++ [x]).filterMap g = pre.filterMap g := by
  rw [List.filterMap_append, List.filterMap_cons_none h, List.filterMap_nil, List.append_nil]
theorem loop_id {S : Gp → Prop} {g : DTG} {tb : DTS} {E : DEnds} (xs : List D) (W : List D → DS → Gp → Prop)
    (hs : ∀ pre x post δ G (K : DS → Gp → Prop), xs = pre ++ x :: post → W pre δ G → (∀ δ G, W (pre ++ [x]) δ G → K δ G) → S G ∧ g x δ G fun δ1 G1 => tb { nx := K, ct := K, bk := E.nx, rt := E.rt } δ1 G1)
    (he : ∀ δ G, W xs δ G → S G ∧ E.nx δ G) (δ : DS) (G : Gp) (h0 : W [] δ G) : dLoop S g tb E xs δ G := by
  have := loop_map (S := S) (g := g) (tb := tb) (E := E) (fun d : D => d) xs W hs he δ G h0
  rwa [List.map_id'] at this
/-! ### comprehensions with two for, over data -/
theorem c2in_map {β : Type} {p : Addr} {S1 : Gp → Prop} {g1 : DTG} {te : DTE} {δ1 : DS} {K : Gp → Prop} {G0 : Gp} (h e : β → D) (hS : ∀ acc, S1 (updG G0 p (.lst acc))) : ∀ (ys : List β) (acc : List D), acc.length + ys.length ≤ 16777216 →
    (∀ y ∈ ys, ∀ acc (K1 : D → Gp → Prop), K1 (e y) (updG G0 p (.lst acc)) → g1 (h y) δ1 (updG G0 p (.lst acc)) fun δ2 G1 => te δ2 G1 K1) → K (updG G0 p (.lst (acc ++ ys.map e))) → dC2in p S1 g1 dYes te δ1 K (ys.map h) (updG G0 p (.lst acc))
  | [], acc, _, _, q => ⟨hS _, by rw [List.map_nil, List.append_nil] at q; exact q⟩
  | y :: ys, acc, hl, st, q => by
    rw [List.length_cons] at hl
    refine ⟨hS _, st y List.mem_cons_self acc _ ?_⟩
    show optQ (lstOf (updG G0 p (.lst acc) p)) _
    rw [updG_same]
    show optQ (some acc) _
    rw [optQ_some, updG_updG]
    refine ⟨by rw [szL]; omega, c2in_map h e hS ys (acc ++ [e y]) (by rw [List.length_append, List.length_singleton]; omega) (fun z hz => st z (List.mem_cons_of_mem _ hz)) ?_⟩
    rw [List.append_assoc]
    exact q
theorem c2_flat {α : Type} {p : Addr} {S : Gp → Prop} {g : DTG} {tt : DTT} {wi1 : DTI} {g1 : DTG} {tt1 : DTT} {te : DTE} {δ : DS} {vs1 : List Nat} {K : Gp → Prop} {G0 : Gp} (f : α → D) (ys : α → List D) (hS : ∀ acc, S (updG G0 p (.lst acc))) : ∀ (xs : List α) (acc : List D),
    (∀ pre x post, xs = pre ++ x :: post → ∀ (K1 : Gp → Prop), K1 (updG G0 p (.lst (acc ++ pre.flatMap ys ++ ys x))) → g (f x) δ (updG G0 p (.lst (acc ++ pre.flatMap ys))) fun δ1 G1 => tt δ1 G1 fun b G2 => dCond b (wi1 δ1 G2 fun ds1 S1 G3 => dC2in p S1 g1 tt1 te (wipeS δ1 vs1) K1 ds1 G3) (K1 G2)) →
    K (updG G0 p (.lst (acc ++ xs.flatMap ys))) → dC2 p S g tt wi1 g1 tt1 te δ vs1 K (xs.map f) (updG G0 p (.lst acc))
  | [], acc, _, q => ⟨hS _, by rw [List.flatMap_nil, List.append_nil] at q; exact q⟩
  | x :: xs, acc, st, q => by
    refine ⟨hS _, ?_⟩
    have := st [] x xs rfl (dC2 p S g tt wi1 g1 tt1 te δ vs1 K (xs.map f)) ?_
    · rw [List.flatMap_nil, List.append_nil] at this
      exact this
    · rw [List.flatMap_nil, List.append_nil]
      refine c2_flat f ys hS xs (acc ++ ys x) (fun pre y post e K1 k1 => ?_) ?_
      · have := st (x :: pre) y post (by rw [e]; rfl) K1 (by rw [List.flatMap_cons, ← List.append_assoc]; exact k1)
        rw [List.flatMap_cons, ← List.append_assoc] at this
        exact this
      · rw [List.flatMap_cons, ← List.append_assoc] at q
        exact q

/-! ### values of a schema -/
def bodyOf (df : Defs) (s : Str) : Option Body := (df.find? fun d => d.1 == s).map (·.2)
theorem bodyOf_mem {df : Defs} {s : Str} {b : Body} (nd : (df.map (·.1)).Nodup) (h : (s, b) ∈ df) : bodyOf df s = some b := by
  induction df with
  | nil => cases h
  | cons d df ih =>
    rw [List.map_cons, List.nodup_cons] at nd
    unfold bodyOf
    rcases List.mem_cons.mp h with rfl | h
    · rw [List.find?_cons_of_pos (by simp)]
      rfl
    · have hr := List.mem_map_of_mem (f := fun r : Str × Body => r.1) h
      rw [List.find?_cons_of_neg (by simp only [beq_iff_eq]; intro e; rw [← e] at hr; exact nd.1 hr)]
      exact ih nd.2 h
theorem bodyOf_in {df : Defs} {s : Str} {b : Body} (h : bodyOf df s = some b) : (s, b) ∈ df := by
  unfold bodyOf at h
  rw [Option.map_eq_some_iff] at h
  obtain ⟨d, h1, rfl⟩ := h
  have h2 := List.find?_some h1
  have : d.1 = s := by simpa using h2
  rw [← this]
  exact List.mem_of_find?_eq_some h1
theorem bodyOf_some {df : Defs} {s : Str} (h : s ∈ df.map (·.1)) : ∃ b, bodyOf df s = some b := by
  cases e : bodyOf df s with
  | some b => exact ⟨b, rfl⟩
  | none =>
    unfold bodyOf at e
    rw [Option.map_eq_none_iff, List.find?_eq_none] at e
    rw [List.mem_map] at h
    obtain ⟨d, hd, rfl⟩ := h
    exact absurd (by simp) (e d hd)
theorem bodyOf_name {df : Defs} {s : Str} {b : Body} (h : bodyOf df s = some b) : s ∈ df.map (·.1) := List.mem_map_of_mem (f := fun d : Str × Body => d.1) (bodyOf_in h)
/-- a pair of an integer and something else -/
def entD : D → Option (Int × D)
  | .tup [.int n, v] => some (n, v)
  | _ => none
def entsD : List D → Option (List (Int × D))
  | [] => some []
  | d :: r => (entD d).bind fun p => (entsD r).map (p :: ·)
theorem entD_eq {d : D} {p : Int × D} (h : entD d = some p) : d = .tup [.int p.1, p.2] := by
  unfold entD at h
  split at h
  · cases h; rfl
  · cases h
def entT (p : Int × D) : D := .tup [.int p.1, p.2]
theorem entsD_eq : ∀ {ds : List D} {es : List (Int × D)}, entsD ds = some es → ds = es.map entT
  | [], _, h => by cases h; rfl
  | d :: ds, es, h => by
    unfold entsD at h
    cases h1 : entD d with
    | none => rw [h1] at h; cases h
    | some p =>
      cases h2 : entsD ds with
      | none => rw [h1, h2] at h; cases h
      | some q =>
        rw [h1, h2] at h
        cases h
        rw [entD_eq h1, entsD_eq h2]
        rfl
theorem entsD_map : ∀ es : List (Int × D), entsD (es.map entT) = some es
  | [] => rfl
  | e :: es => by
    show (some e).bind (fun p => (entsD (es.map entT)).map (p :: ·)) = _
    rw [entsD_map es]
    rfl
def unkD : D := .tup [.int 0, .non]
def isUnk : D → Bool
  | .tup [.int 0, .non] => true
  | _ => false
theorem isUnk_eq {d : D} (h : isUnk d = true) : d = unkD := by
  unfold isUnk at h
  split at h
  · rfl
  · cases h
def ascI : List Int → Bool
  | a :: b :: r => decide (a < b) && ascI (b :: r)
  | _ => true
/-- what a record's entries must be: ascending live ids, all that may not be left out -/
def rcdOk (fs : List Field) (ns : List Int) : Bool := ascI ns && ns.all (fun n => (fs.map (·.id)).contains n) && fs.all fun f => f.mode == Str.ofString "optional" || ns.contains f.id
/-- the values in a value of a body, each with its part; none: it is no value of the body -/
def Body.kids : Body → D → Option (List (Part × D))
  | .lst p lo hi, .tup ds => if decide (lo ≤ (ds.length : Int)) && decide ((ds.length : Int) ≤ hi) then some (ds.map fun d => (p, d)) else none
  | .rcd fs rt, .tup ds => (entsD ds).bind fun es => if rcdOk fs (es.map (·.1)) then some (es.map fun e => ((look (Body.rcd fs rt).rows e.1).getD (.name (Str.ofString "")), e.2)) else none
  | .uni cs _ op, d => if isUnk d then (if op then some [] else none) else (entD d).bind fun e => (look cs e.1).map fun p => [(p, e.2)]
  | _, _ => none
theorem kids_l {p : Part} {lo hi : Int} {ds : List D} : (Body.lst p lo hi).kids (.tup ds) = if decide (lo ≤ (ds.length : Int)) && decide ((ds.length : Int) ≤ hi) then some (ds.map fun d => (p, d)) else none := rfl
theorem kids_r {fs : List Field} {rt : List Int} {ds : List D} : (Body.rcd fs rt).kids (.tup ds) = (entsD ds).bind fun es => if rcdOk fs (es.map (·.1)) then some (es.map fun e => ((look (Body.rcd fs rt).rows e.1).getD (.name (Str.ofString "")), e.2)) else none := rfl
theorem kids_u {cs : List (Int × Part)} {rt : List Int} {op : Bool} {d : D} : (Body.uni cs rt op).kids d = if isUnk d then (if op then some [] else none) else (entD d).bind fun e => (look cs e.1).map fun p => [(p, e.2)] := by
  simp only [Body.kids]
def hasN : Nat → Defs → Part → D → Bool
  | _, _, .leaf L, v => L.has v
  | 0, _, .name _, _ => false
  | n + 1, df, .name s, v => match (bodyOf df s).bind fun b => b.kids v with
    | none => false
    | some ks => ks.all fun k => hasN n df k.1 k.2
/-! sizes -/
mutual
def dM : D → Nat
  | .int _ => 8
  | .str x => x.length + 1
  | .tup ds => dML ds + 1
  | .lv ds => dML ds + 1
  | .rl ds => dML ds + 1
  | _ => 1
def dML : List D → Nat
  | [] => 0
  | d :: ds => dM d + dML ds
end
mutual
theorem dW_M : ∀ d : D, dW d ≤ dM d
  | .non => Nat.le_refl _
  | .int _ => (by decide : 1 ≤ 8)
  | .str _ => Nat.le_refl _
  | .bl _ => Nat.le_refl _
  | .ref _ => Nat.le_refl _
  | .dv _ => Nat.le_refl _
  | .pv _ => Nat.le_refl _
  | .tup ds => Nat.succ_le_succ (dWL_M ds)
  | .lv ds => Nat.succ_le_succ (dWL_M ds)
  | .rl ds => Nat.succ_le_succ (dWL_M ds)
theorem dWL_M : ∀ ds : List D, dWL ds ≤ dML ds
  | [] => Nat.zero_le _
  | d :: ds => by
    have h1 := dW_M d
    have h2 := dWL_M ds
    unfold dWL dML
    omega
end
theorem dM_pos (d : D) : 1 ≤ dM d := Nat.le_trans (dW_pos d) (dW_M d)
theorem dML_len (ds : List D) : ds.length ≤ dML ds := Nat.le_trans (dWL_len ds) (dWL_M ds)
theorem dML_app : ∀ xs ys : List D, dML (xs ++ ys) = dML xs + dML ys
  | [], ys => by simp [dML]
  | x :: xs, ys => by
    show dM x + dML (xs ++ ys) = dM x + dML xs + dML ys
    rw [dML_app xs ys, Nat.add_assoc]
theorem dML_mem : ∀ {ds : List D} {d : D}, d ∈ ds → dM d ≤ dML ds
  | x :: xs, d, m => by
    unfold dML
    rcases List.mem_cons.mp m with rfl | m
    · omega
    · have := dML_mem m
      omega
theorem dML_take (n : Nat) (ds : List D) : dML (ds.take n) ≤ dML ds := by
  have h := dML_app (ds.take n) (ds.drop n)
  rw [List.take_append_drop] at h
  omega
theorem dML_drop (n : Nat) (ds : List D) : dML (ds.drop n) ≤ dML ds := by
  have h := dML_app (ds.take n) (ds.drop n)
  rw [List.take_append_drop] at h
  omega
theorem dML_one (d : D) : dML [d] = dM d := rfl
theorem dM_tup (ds : List D) : dM (.tup ds) = dML ds + 1 := rfl
theorem dDep_tup (ds : List D) : dDep (.tup ds) = dDepL ds + 1 := rfl
theorem dDepL_app : ∀ xs ys : List D, dDepL (xs ++ ys) = max (dDepL xs) (dDepL ys)
  | [], ys => by simp [dDepL]
  | x :: xs, ys => by
    show max (dDep x) (dDepL (xs ++ ys)) = max (max (dDep x) (dDepL xs)) (dDepL ys)
    rw [dDepL_app xs ys, Nat.max_assoc]
theorem dDepL_le_of {ds : List D} {n : Nat} (h : ∀ d ∈ ds, dDep d ≤ n) : dDepL ds ≤ n := by
  induction ds with
  | nil => exact Nat.zero_le _
  | cons d ds ih =>
    show max (dDep d) (dDepL ds) ≤ n
    exact Nat.max_le.mpr ⟨h d List.mem_cons_self, ih fun e he => h e (List.mem_cons_of_mem _ he)⟩
theorem dValL_of {ds : List D} (h : ∀ d ∈ ds, dVal d = true) : dValL ds = true := by
  induction ds with
  | nil => rfl
  | cons d ds ih =>
    show (dVal d && dValL ds) = true
    rw [h d List.mem_cons_self, ih fun e he => h e (List.mem_cons_of_mem _ he)]
    rfl
theorem has_leaf_dep {L : Leaf} {v : D} (h : L.has v = true) : dDep v = 0 := by
  cases L <;> cases v <;> first | rfl | (exfalso; simp [Leaf.has] at h; done)
/-- what stands in a value, by its parts -/
def kM (ks : List (Part × D)) : Nat := (ks.map fun k => dM k.2).sum
theorem kM_app (xs ys : List (Part × D)) : kM (xs ++ ys) = kM xs + kM ys := by unfold kM; rw [List.map_append, List.sum_append]
theorem kM_cons (x : Part × D) (ys : List (Part × D)) : kM (x :: ys) = dM x.2 + kM ys := rfl
theorem kM_len (ks : List (Part × D)) : ks.length ≤ kM ks := by
  induction ks with
  | nil => exact Nat.zero_le _
  | cons k ks ih =>
    have := dM_pos k.2
    rw [kM_cons, List.length_cons]
    omega
theorem kM_lst (p : Part) (ds : List D) : kM (ds.map fun d => (p, d)) = dML ds := by
  induction ds with
  | nil => rfl
  | cons d ds ih =>
    rw [List.map_cons, kM_cons, ih]
    rfl
theorem kM_ents (f : Int → Part) (es : List (Int × D)) : kM (es.map fun e => (f e.1, e.2)) ≤ dML (es.map entT) := by
  induction es with
  | nil => exact Nat.zero_le _
  | cons e es ih =>
    rw [List.map_cons, List.map_cons, kM_cons]
    show _ ≤ dM (entT e) + dML (es.map entT)
    have : dM (entT e) = 8 + (dM e.2 + 0) + 1 := rfl
    show dM e.2 + _ ≤ _
    omega
theorem Body.kids_lst {p : Part} {lo hi : Int} {v : D} {ks : List (Part × D)} (h : (Body.lst p lo hi).kids v = some ks) : ∃ ds, v = .tup ds ∧ lo ≤ (ds.length : Int) ∧ (ds.length : Int) ≤ hi ∧ ks = ds.map fun d => (p, d) := by
  cases v with
  | tup ds =>
    simp only [Body.kids] at h
    split at h
    · rename_i c
      rw [Bool.and_eq_true, decide_eq_true_eq, decide_eq_true_eq] at c
      cases h
      exact ⟨ds, rfl, c.1, c.2, rfl⟩
    · cases h
  | _ => cases h
theorem Body.kids_rcd {fs : List Field} {rt : List Int} {v : D} {ks : List (Part × D)} (h : (Body.rcd fs rt).kids v = some ks) : ∃ es : List (Int × D), v = .tup (es.map entT) ∧ rcdOk fs (es.map (·.1)) = true ∧ ks = es.map fun e => ((look (Body.rcd fs rt).rows e.1).getD (.name (Str.ofString "")), e.2) := by
  cases v with
  | tup ds =>
    simp only [Body.kids] at h
    cases e : entsD ds with
    | none => rw [e] at h; cases h
    | some es =>
      rw [e] at h
      simp only [Option.bind_some] at h
      split at h
      · rename_i c
        cases h
        exact ⟨es, by rw [entsD_eq e], c, rfl⟩
      · cases h
  | _ => cases h
theorem Body.kids_uni {cs : List (Int × Part)} {rt : List Int} {op : Bool} {v : D} {ks : List (Part × D)} (h : (Body.uni cs rt op).kids v = some ks) : (v = unkD ∧ op = true ∧ ks = []) ∨ (isUnk v = false ∧ ∃ n p u, v = .tup [.int n, u] ∧ look cs n = some p ∧ ks = [(p, u)]) := by
  simp only [Body.kids] at h
  cases c : isUnk v with
  | true =>
    rw [c] at h
    cases op with
    | true => cases h; exact .inl ⟨isUnk_eq c, rfl, rfl⟩
    | false => cases h
  | false =>
    rw [c] at h
    simp only [Bool.false_eq_true, if_false] at h
    cases e : entD v with
    | none => rw [e] at h; cases h
    | some q =>
      rw [e] at h
      simp only [Option.bind_some] at h
      cases e2 : look cs q.1 with
      | none => rw [e2] at h; cases h
      | some p =>
        rw [e2] at h
        cases h
        exact .inr ⟨rfl, q.1, p, q.2, entD_eq e, e2, rfl⟩
structure KidsOk (v : D) (ks : List (Part × D)) : Prop where
  tup : ∃ ds, v = .tup ds
  dep : ∀ k ∈ ks, dDep k.2 < dDep v
  m : kM ks < dM v
  val : dVal v = true → ∀ k ∈ ks, dVal k.2 = true
theorem ent_in {es : List (Int × D)} {e : Int × D} (h : e ∈ es) : dDep e.2 + 1 ≤ dDepL (es.map entT) ∧ (dValL (es.map entT) = true → dVal e.2 = true) := by
  have m : entT e ∈ es.map entT := List.mem_map_of_mem h
  refine ⟨?_, fun h2 => ?_⟩
  · have := dDepL_mem m
    have e2 : dDep (entT e) = max 0 (max (dDep e.2) 0) + 1 := rfl
    omega
  · have := dValL_mem h2 m
    have e2 : dVal (entT e) = (true && (dVal e.2 && true)) := rfl
    rw [e2] at this
    simpa using this
theorem Body.kids_ok {b : Body} {v : D} {ks : List (Part × D)} (h : b.kids v = some ks) : KidsOk v ks := by
  cases b with
  | lst p lo hi =>
    obtain ⟨ds, rfl, _, _, rfl⟩ := Body.kids_lst h
    refine ⟨⟨ds, rfl⟩, fun k hk => ?_, ?_, fun hv k hk => ?_⟩
    · rw [List.mem_map] at hk
      obtain ⟨d, hd, rfl⟩ := hk
      have := dDepL_mem hd
      rw [dDep_tup]
      show dDep d < _
      omega
    · rw [kM_lst, dM_tup]
      omega
    · rw [List.mem_map] at hk
      obtain ⟨d, hd, rfl⟩ := hk
      exact dValL_mem hv hd
  | rcd fs rt =>
    obtain ⟨es, rfl, _, rfl⟩ := Body.kids_rcd h
    refine ⟨⟨_, rfl⟩, fun k hk => ?_, ?_, fun hv k hk => ?_⟩
    · rw [List.mem_map] at hk
      obtain ⟨e, he, rfl⟩ := hk
      have := (ent_in he).1
      rw [dDep_tup]
      show dDep e.2 < _
      omega
    · have := kM_ents (fun n => (look (Body.rcd fs rt).rows n).getD (.name (Str.ofString ""))) es
      rw [dM_tup]
      omega
    · rw [List.mem_map] at hk
      obtain ⟨e, he, rfl⟩ := hk
      exact (ent_in he).2 hv
  | uni cs rt op =>
    rcases Body.kids_uni h with ⟨rfl, _, rfl⟩ | ⟨_, n, p, u, rfl, _, rfl⟩
    · exact ⟨⟨_, rfl⟩, (fun _ h => by cases h), (by show 0 < _; exact dM_pos _), fun _ _ h => by cases h⟩
    · refine ⟨⟨_, rfl⟩, fun k hk => ?_, ?_, fun hv k hk => ?_⟩
      · rw [List.mem_singleton] at hk
        subst hk
        show dDep u < max 0 (max (dDep u) 0) + 1
        omega
      · show dM u + 0 < 8 + (dM u + 0) + 1
        omega
      · rw [List.mem_singleton] at hk
        subst hk
        have hv : (true && (dVal u && true)) = true := hv
        simpa using hv
theorem all_congr {α : Type} {xs : List α} {f g : α → Bool} (h : ∀ x ∈ xs, f x = g x) : xs.all f = xs.all g := by
  induction xs with
  | nil => rfl
  | cons x xs ih => rw [List.all_cons, List.all_cons, h x List.mem_cons_self, ih fun y hy => h y (List.mem_cons_of_mem _ hy)]
theorem hasN_eq (df : Defs) : ∀ (n m : Nat) (p : Part) (v : D), dDep v ≤ n → dDep v ≤ m → hasN n df p v = hasN m df p v
  | 0, 0, _, _, _, _ => rfl
  | 0, m + 1, .leaf L, v, _, _ => rfl
  | n + 1, 0, .leaf L, v, _, _ => rfl
  | n + 1, m + 1, .leaf L, v, _, _ => rfl
  | 0, m + 1, .name s, v, h, _ => by
    unfold hasN
    cases e : (bodyOf df s).bind fun b => b.kids v with
    | none => rfl
    | some ks =>
      rw [Option.bind_eq_some_iff] at e
      obtain ⟨b, _, e⟩ := e
      obtain ⟨ds, rfl⟩ := (Body.kids_ok e).tup
      rw [dDep_tup] at h
      omega
  | n + 1, 0, .name s, v, _, h => by
    unfold hasN
    cases e : (bodyOf df s).bind fun b => b.kids v with
    | none => rfl
    | some ks =>
      rw [Option.bind_eq_some_iff] at e
      obtain ⟨b, _, e⟩ := e
      obtain ⟨ds, rfl⟩ := (Body.kids_ok e).tup
      rw [dDep_tup] at h
      omega
  | n + 1, m + 1, .name s, v, h1, h2 => by
    unfold hasN
    cases e : (bodyOf df s).bind fun b => b.kids v with
    | none => rfl
    | some ks =>
      rw [Option.bind_eq_some_iff] at e
      obtain ⟨b, _, e⟩ := e
      have ok := Body.kids_ok e
      exact all_congr fun k hk => hasN_eq df n m k.1 k.2 (by have := ok.dep k hk; omega) (by have := ok.dep k hk; omega)
/-- the values of a part (point 5) -/
def has (df : Defs) (p : Part) (v : D) : Bool := hasN (dDep v) df p v
theorem has_leaf (df : Defs) (L : Leaf) (v : D) : has df (.leaf L) v = L.has v := by
  unfold has
  cases dDep v <;> rfl
theorem has_N {df : Defs} {p : Part} {v : D} {n : Nat} (h : dDep v ≤ n) : hasN n df p v = has df p v := hasN_eq df _ _ _ _ h (Nat.le_refl _)
theorem has_name (df : Defs) (s : Str) (v : D) : has df (.name s) v = match (bodyOf df s).bind fun b => b.kids v with
    | none => false
    | some ks => ks.all fun k => has df k.1 k.2 := by
  have e := has_N (df := df) (p := .name s) (v := v) (n := dDep v + 1) (by omega)
  rw [← e]
  show (match (bodyOf df s).bind fun b => b.kids v with
    | none => false
    | some ks => ks.all fun k => hasN (dDep v) df k.1 k.2) = _
  cases e : (bodyOf df s).bind fun b => b.kids v with
  | none => rfl
  | some ks =>
    rw [Option.bind_eq_some_iff] at e
    obtain ⟨b, _, e⟩ := e
    have ok := Body.kids_ok e
    exact all_congr fun k hk => has_N (Nat.le_of_lt (ok.dep k hk))
theorem has_body {df : Defs} {s : Str} {b : Body} {v : D} (h : bodyOf df s = some b) : has df (.name s) v = match b.kids v with
    | none => false
    | some ks => ks.all fun k => has df k.1 k.2 := by
  rw [has_name, h]
  rfl
theorem has_kids {df : Defs} {s : Str} {v : D} (h : has df (.name s) v = true) : ∃ b ks, bodyOf df s = some b ∧ b.kids v = some ks ∧ ∀ k ∈ ks, has df k.1 k.2 = true := by
  rw [has_name] at h
  cases e : (bodyOf df s).bind fun b => b.kids v with
  | none => rw [e] at h; cases h
  | some ks =>
    rw [e] at h
    rw [Option.bind_eq_some_iff] at e
    obtain ⟨b, e1, e⟩ := e
    exact ⟨b, ks, e1, e, List.all_eq_true.mp h⟩
/-! ### depths of values (point 6) -/
def maxL : List Nat → Nat
  | [] => 0
  | x :: r => max x (maxL r)
theorem maxL_le {xs : List Nat} {n : Nat} (h : ∀ x ∈ xs, x ≤ n) : maxL xs ≤ n := by
  induction xs with
  | nil => exact Nat.zero_le _
  | cons x xs ih => exact Nat.max_le.mpr ⟨h x List.mem_cons_self, ih fun y hy => h y (List.mem_cons_of_mem _ hy)⟩
theorem maxL_mem {xs : List Nat} {x : Nat} (h : x ∈ xs) : x ≤ maxL xs := by
  induction xs with
  | nil => cases h
  | cons y xs ih =>
    rcases List.mem_cons.mp h with rfl | h
    · exact Nat.le_max_left _ _
    · exact Nat.le_trans (ih h) (Nat.le_max_right _ _)
def hgtN : Nat → Defs → Part → D → Nat
  | _, _, .leaf _, _ => 0
  | 0, _, .name _, _ => 0
  | n + 1, df, .name s, v => match (bodyOf df s).bind fun b => b.kids v with
    | none => 0
    | some ks => 1 + maxL (ks.map fun k => hgtN n df k.1 k.2)
theorem map_congr' {α β : Type} {xs : List α} {f g : α → β} (h : ∀ x ∈ xs, f x = g x) : xs.map f = xs.map g := List.map_congr_left h
theorem hgtN_eq (df : Defs) : ∀ (n m : Nat) (p : Part) (v : D), dDep v ≤ n → dDep v ≤ m → hgtN n df p v = hgtN m df p v
  | 0, 0, _, _, _, _ => rfl
  | 0, m + 1, .leaf L, v, _, _ => rfl
  | n + 1, 0, .leaf L, v, _, _ => rfl
  | n + 1, m + 1, .leaf L, v, _, _ => rfl
  | 0, m + 1, .name s, v, h, _ => by
    unfold hgtN
    cases e : (bodyOf df s).bind fun b => b.kids v with
    | none => rfl
    | some ks =>
      rw [Option.bind_eq_some_iff] at e
      obtain ⟨b, _, e⟩ := e
      obtain ⟨ds, rfl⟩ := (Body.kids_ok e).tup
      rw [dDep_tup] at h
      omega
  | n + 1, 0, .name s, v, _, h => by
    unfold hgtN
    cases e : (bodyOf df s).bind fun b => b.kids v with
    | none => rfl
    | some ks =>
      rw [Option.bind_eq_some_iff] at e
      obtain ⟨b, _, e⟩ := e
      obtain ⟨ds, rfl⟩ := (Body.kids_ok e).tup
      rw [dDep_tup] at h
      omega
  | n + 1, m + 1, .name s, v, h1, h2 => by
    unfold hgtN
    cases e : (bodyOf df s).bind fun b => b.kids v with
    | none => rfl
    | some ks =>
      rw [Option.bind_eq_some_iff] at e
      obtain ⟨b, _, e⟩ := e
      have ok := Body.kids_ok e
      show 1 + maxL _ = 1 + maxL _
      rw [map_congr' fun k hk => hgtN_eq df n m k.1 k.2 (by have := ok.dep k hk; omega) (by have := ok.dep k hk; omega)]
def hgt (df : Defs) (p : Part) (v : D) : Nat := hgtN (dDep v) df p v
theorem hgt_leaf (df : Defs) (L : Leaf) (v : D) : hgt df (.leaf L) v = 0 := by
  unfold hgt
  cases dDep v <;> rfl
theorem hgt_N {df : Defs} {p : Part} {v : D} {n : Nat} (h : dDep v ≤ n) : hgtN n df p v = hgt df p v := hgtN_eq df _ _ _ _ h (Nat.le_refl _)
theorem hgt_body {df : Defs} {s : Str} {b : Body} {v : D} {ks : List (Part × D)} (h : bodyOf df s = some b) (hk : b.kids v = some ks) : hgt df (.name s) v = 1 + maxL (ks.map fun k => hgt df k.1 k.2) := by
  have e := hgt_N (df := df) (p := .name s) (v := v) (n := dDep v + 1) (by omega)
  rw [← e]
  unfold hgtN
  rw [h, Option.bind_some, hk]
  have ok := Body.kids_ok hk
  show 1 + maxL _ = 1 + maxL _
  rw [map_congr' fun k hk => hgt_N (Nat.le_of_lt (ok.dep k hk))]
theorem hgt_dep (df : Defs) : ∀ (n : Nat) (p : Part) (v : D), hgtN n df p v ≤ dDep v
  | 0, .leaf _, _ => Nat.zero_le _
  | 0, .name _, _ => Nat.zero_le _
  | n + 1, .leaf _, _ => Nat.zero_le _
  | n + 1, .name s, v => by
    unfold hgtN
    cases e : (bodyOf df s).bind fun b => b.kids v with
    | none => exact Nat.zero_le _
    | some ks =>
      rw [Option.bind_eq_some_iff] at e
      obtain ⟨b, _, e⟩ := e
      have ok := Body.kids_ok e
      show 1 + maxL _ ≤ _
      have h1 : 1 ≤ dDep v := by
        obtain ⟨ds, rfl⟩ := ok.tup
        rw [dDep_tup]
        omega
      have : maxL (ks.map fun k => hgtN n df k.1 k.2) ≤ dDep v - 1 := maxL_le fun x hx => by
        rw [List.mem_map] at hx
        obtain ⟨k, hk, rfl⟩ := hx
        have h2 := hgt_dep df n k.1 k.2
        have h3 := ok.dep k hk
        omega
      omega
/-! ### equal values -/
mutual
theorem dEq_val : ∀ a b : D, dVal a = true → dVal b = true → (dEq a b = true ↔ a = b)
  | .non, b, _, hb => by
    cases b with
    | non => exact ⟨fun _ => rfl, fun _ => rfl⟩
    | int _ => exact ⟨fun h => (by cases h), fun h => (by cases h)⟩
    | str _ => exact ⟨fun h => (by cases h), fun h => (by cases h)⟩
    | tup _ => exact ⟨fun h => (by cases h), fun h => (by cases h)⟩
    | _ => cases hb
  | .int i, b, _, hb => by
    cases b with
    | non => exact ⟨fun h => (by cases h), fun h => (by cases h)⟩
    | int j => exact ⟨fun h => by have h : (i == j) = true := h; rw [eq_of_beq h], fun h => by cases h; show (i == i) = true; exact beq_self_eq_true i⟩
    | str _ => exact ⟨fun h => (by cases h), fun h => (by cases h)⟩
    | tup _ => exact ⟨fun h => (by cases h), fun h => (by cases h)⟩
    | _ => cases hb
  | .str i, b, _, hb => by
    cases b with
    | non => exact ⟨fun h => (by cases h), fun h => (by cases h)⟩
    | int j => exact ⟨fun h => (by cases h), fun h => (by cases h)⟩
    | str j => exact ⟨fun h => by have h : (i == j) = true := h; rw [eq_of_beq h], fun h => by cases h; show (i == i) = true; exact beq_self_eq_true i⟩
    | tup _ => exact ⟨fun h => (by cases h), fun h => (by cases h)⟩
    | _ => cases hb
  | .tup xs, b, ha, hb => by
    cases b with
    | non => exact ⟨fun h => (by cases h), fun h => (by cases h)⟩
    | int j => exact ⟨fun h => (by cases h), fun h => (by cases h)⟩
    | str _ => exact ⟨fun h => (by cases h), fun h => (by cases h)⟩
    | tup ys =>
      have := dEqL_val xs ys ha hb
      exact ⟨fun h => by rw [this.mp h], fun h => by cases h; exact this.mpr rfl⟩
    | _ => cases hb
  | .bl _, _, ha, _ => by cases ha
  | .ref _, _, ha, _ => by cases ha
  | .lv _, _, ha, _ => by cases ha
  | .rl _, _, ha, _ => by cases ha
  | .dv _, _, ha, _ => by cases ha
  | .pv _, _, ha, _ => by cases ha
theorem dEqL_val : ∀ xs ys : List D, dValL xs = true → dValL ys = true → (dEqL xs ys = true ↔ xs = ys)
  | [], [], _, _ => ⟨fun _ => rfl, fun _ => rfl⟩
  | [], _ :: _, _, _ => ⟨fun h => (by cases h), fun h => (by cases h)⟩
  | _ :: _, [], _, _ => ⟨fun h => (by cases h), fun h => (by cases h)⟩
  | x :: xs, y :: ys, hx, hy => by
    have hx : (dVal x && dValL xs) = true := hx
    have hy : (dVal y && dValL ys) = true := hy
    rw [Bool.and_eq_true] at hx hy
    have h1 := dEq_val x y hx.1 hy.1
    have h2 := dEqL_val xs ys hx.2 hy.2
    show (dEq x y && dEqL xs ys) = true ↔ _
    rw [Bool.and_eq_true, h1, h2, List.cons.injEq]
end
theorem isUnk_iff {v : D} : isUnk v = true ↔ v = unkD := ⟨isUnk_eq, fun h => by rw [h]; rfl⟩
theorem unk_eq {v : D} (hv : dVal v = true) : dEq v (.tup [.int 0, .non]) = isUnk v := by
  rw [Bool.eq_iff_iff, dEq_val v _ hv rfl, isUnk_iff]
  exact Iff.rfl
theorem unk_ok {v : D} (hv : dVal v = true) : (dPl v && dPl (.tup [.int 0, .non]) && decide (min (dDep v) (dDep (.tup [.int 0, .non])) ≤ 190)) = true := by
  rw [dVal_pl v hv]
  have : min (dDep v) (dDep (.tup [.int 0, .non])) ≤ 1 := Nat.min_le_right _ _
  rw [decide_eq_true (by omega)]
  rfl
def prD (k : Part × D) : D := .tup [k.1.d, k.2]
/-! ### dict(definitions) -/
def defK (df : Defs) : List (L2.Key × D) := df.map fun d => (.inr d.1, d.2.d)
theorem pairs_df : ∀ df : Defs, pairsD (df.map defD) = some (defK df)
  | [] => rfl
  | d :: df => by
    show (pairD (defD d)).bind (fun p => (pairsD (df.map defD)).map fun q => p :: q) = _
    rw [pairs_df df]
    rfl
theorem pairsA_df (df : Defs) : pairsA [.tup (df.map defD)] = some (defK df) := pairs_df df
theorem merge_nd : ∀ (kvs acc : List (L2.Key × D)), (kvs.map (·.1)).Nodup → (∀ kv ∈ kvs, ∀ a ∈ acc, a.1 ≠ kv.1) → mergeD acc kvs = acc ++ kvs
  | [], acc, _, _ => by rw [List.append_nil]; rfl
  | kv :: kvs, acc, nd, h => by
    rw [List.map_cons, List.nodup_cons] at nd
    have e : putD acc kv.1 kv.2 = acc ++ [kv] := by
      unfold putD
      rw [if_neg]
      rw [List.any_eq_true]
      rintro ⟨a, ha, e⟩
      exact h kv List.mem_cons_self a ha (of_decide_eq_true e)
    show mergeD (putD acc kv.1 kv.2) kvs = _
    rw [e, merge_nd kvs (acc ++ [kv]) nd.2 fun x hx a ha => ?_, List.append_assoc]
    · rfl
    · rcases List.mem_append.mp ha with ha | ha
      · exact h x (List.mem_cons_of_mem _ hx) a ha
      · rw [List.mem_singleton] at ha
        rw [ha]
        intro z
        exact nd.1 (by rw [z]; exact List.mem_map_of_mem hx)
theorem merge_df {df : Defs} (nd : (df.map (·.1)).Nodup) : mergeD [] (defK df) = defK df := by
  rw [merge_nd _ _ _ fun _ _ _ h => by cases h]
  · rfl
  · unfold defK
    rw [List.map_map]
    rw [List.nodup_iff_pairwise_ne, List.pairwise_map] at *
    exact nd.imp fun h z => h (Sum.inr.inj z)
theorem val_df (s : Str) : ∀ df : Defs, valD (defK df) (.inr s) = (bodyOf df s).map Body.d
  | [] => rfl
  | d :: df => by
    unfold valD bodyOf
    by_cases h : d.1 = s
    · show (((Sum.inr d.1, d.2.d) :: defK df).find? _).map _ = _
      rw [List.find?_cons_of_pos (by simp [h]), List.find?_cons_of_pos (by simp [h])]
      rfl
    · show (((Sum.inr d.1, d.2.d) :: defK df).find? _).map _ = _
      rw [List.find?_cons_of_neg (by simp [h]), List.find?_cons_of_neg (by simp [h])]
      exact val_df s df
/-! ### the levels of a value -/
def kidsOf (df : Defs) (k : Part × D) : List (Part × D) := match k.1 with
  | .leaf _ => []
  | .name s => ((bodyOf df s).bind fun b => b.kids k.2).getD []
def nextL (df : Defs) (l : List (Part × D)) : List (Part × D) := l.flatMap (kidsOf df)
def lvls (df : Defs) : Nat → List (Part × D) → List (List (Part × D))
  | 0, _ => []
  | n + 1, l => if l.isEmpty then [] else l :: lvls df n (nextL df l)
theorem kidsOf_name {df : Defs} {s : Str} {b : Body} {v : D} {ks : List (Part × D)} (hb : bodyOf df s = some b) (hk : b.kids v = some ks) : kidsOf df (.name s, v) = ks := by
  unfold kidsOf
  show ((bodyOf df s).bind fun b => b.kids v).getD [] = ks
  rw [hb, Option.bind_some, hk]
  rfl
theorem kidsOf_m (df : Defs) (k : Part × D) : kM (kidsOf df k) ≤ dM k.2 - 1 ∧ ∀ x ∈ kidsOf df k, dDep x.2 < dDep k.2 := by
  obtain ⟨p, v⟩ := k
  cases p with
  | leaf L => exact ⟨Nat.zero_le _, fun _ h => by cases h⟩
  | name s =>
    unfold kidsOf
    show kM (((bodyOf df s).bind fun b => b.kids v).getD []) ≤ _ ∧ ∀ x ∈ ((bodyOf df s).bind fun b => b.kids v).getD [], _
    cases e : (bodyOf df s).bind fun b => b.kids v with
    | none => exact ⟨Nat.zero_le _, fun _ h => by cases h⟩
    | some ks =>
      rw [Option.bind_eq_some_iff] at e
      obtain ⟨b, _, e⟩ := e
      have ok := Body.kids_ok e
      have := ok.m
      exact ⟨by show kM ks ≤ dM v - 1; omega, ok.dep⟩
theorem nextL_m (df : Defs) : ∀ l : List (Part × D), kM (nextL df l) ≤ kM l
  | [] => Nat.le_refl _
  | k :: l => by
    show kM (kidsOf df k ++ nextL df l) ≤ _
    have h1 := (kidsOf_m df k).1
    have h2 := nextL_m df l
    have h3 := dM_pos k.2
    rw [kM_app, kM_cons]
    omega
/-- the greatest depth in a level -/
def maxH (df : Defs) (l : List (Part × D)) : Nat := maxL (l.map fun k => hgt df k.1 k.2)
theorem maxL_app : ∀ xs ys : List Nat, maxL (xs ++ ys) = max (maxL xs) (maxL ys)
  | [], ys => by simp [maxL]
  | x :: xs, ys => by
    show max x (maxL (xs ++ ys)) = max (max x (maxL xs)) (maxL ys)
    rw [maxL_app xs ys, Nat.max_assoc]
def isName : Part → Bool
  | .leaf _ => false
  | .name _ => true
theorem hgt_kids {df : Defs} {k : Part × D} (h : has df k.1 k.2 = true) : (isName k.1 = false ∧ hgt df k.1 k.2 = 0 ∧ kidsOf df k = []) ∨ (isName k.1 = true ∧ hgt df k.1 k.2 = 1 + maxH df (kidsOf df k)) := by
  obtain ⟨p, v⟩ := k
  cases p with
  | leaf L => exact .inl ⟨rfl, hgt_leaf df L v, rfl⟩
  | name s =>
    obtain ⟨b, ks, hb, hk, _⟩ := has_kids h
    refine .inr ⟨rfl, ?_⟩
    rw [kidsOf_name hb hk]
    exact hgt_body hb hk
theorem maxH_next {df : Defs} : ∀ {l : List (Part × D)}, (∀ k ∈ l, has df k.1 k.2 = true) → maxH df l = if l.any (fun k => isName k.1) then 1 + maxH df (nextL df l) else 0
  | [], _ => rfl
  | k :: l, h => by
    have ih := maxH_next fun x hx => h x (List.mem_cons_of_mem _ hx)
    have e1 : maxH df (k :: l) = max (hgt df k.1 k.2) (maxH df l) := rfl
    have e2 : maxH df (nextL df (k :: l)) = max (maxH df (kidsOf df k)) (maxH df (nextL df l)) := by
      show maxL ((kidsOf df k ++ nextL df l).map _) = _
      rw [List.map_append, maxL_app]
      rfl
    rw [e1, e2, ih, List.any_cons]
    rcases hgt_kids (h k List.mem_cons_self) with ⟨h1, h2, h3⟩ | ⟨h1, h2⟩
    · rw [h1, h2, h3, Bool.false_or]
      have : maxH df [] = 0 := rfl
      rw [this]
      split <;> omega
    · rw [h1, h2, Bool.true_or, if_pos rfl]
      split
      · omega
      · rename_i hn
        have : nextL df l = [] := by
          unfold nextL
          rw [List.flatMap_eq_nil_iff]
          intro x hx
          rcases hgt_kids (h x (List.mem_cons_of_mem _ hx)) with ⟨g1, g2, g3⟩ | ⟨g1, g2⟩
          · exact g3
          · exact absurd (List.any_eq_true.mpr ⟨x, hx, g1⟩) hn
        rw [this]
        have : maxH df [] = 0 := rfl
        omega
theorem has_next {df : Defs} {l : List (Part × D)} (h : ∀ k ∈ l, has df k.1 k.2 = true) : ∀ k ∈ nextL df l, has df k.1 k.2 = true := fun x hx => by
  unfold nextL at hx
  rw [List.mem_flatMap] at hx
  obtain ⟨k, hk, hx⟩ := hx
  obtain ⟨p, v⟩ := k
  cases p with
  | leaf L => cases hx
  | name s =>
    obtain ⟨b, ks, hb, hkk, all⟩ := has_kids (h _ hk)
    rw [kidsOf_name hb hkk] at hx
    exact all x hx
/-- as many levels with names as the depth tells -/
theorem lvls_hgt {df : Defs} : ∀ (n : Nat) {l : List (Part × D)}, (∀ k ∈ l, has df k.1 k.2 = true) → (∀ k ∈ l, dDep k.2 < n) → ((lvls df n l).filter fun l => l.any fun k => isName k.1).length = maxH df l
  | 0, l, h, hd => by
    cases l with
    | nil => rfl
    | cons k l => exact absurd (hd k List.mem_cons_self) (Nat.not_lt_zero _)
  | n + 1, [], h, hd => rfl
  | n + 1, k :: l, h, hd => by
    have ih := lvls_hgt n (has_next h) fun x hx => by
      unfold nextL at hx
      rw [List.mem_flatMap] at hx
      obtain ⟨y, hy, hx⟩ := hx
      have := (kidsOf_m df y).2 x hx
      have := hd y hy
      omega
    rw [maxH_next h]
    show (((k :: l) :: lvls df n (nextL df (k :: l))).filter _).length = _
    by_cases c : (k :: l).any (fun k => isName k.1) = true
    · rw [List.filter_cons_of_pos (p := fun l : List (Part × D) => l.any fun k => isName k.1) c, List.length_cons, ih, if_pos c]
      omega
    · rw [List.filter_cons_of_neg (p := fun l : List (Part × D) => l.any fun k => isName k.1) c, ih, if_neg c, maxH_next (has_next h), if_neg]
      have : nextL df (k :: l) = [] := by
        unfold nextL
        rw [List.flatMap_eq_nil_iff]
        intro x hx
        rcases hgt_kids (h x hx) with ⟨g1, g2, g3⟩ | ⟨g1, g2⟩
        · exact g3
        · exact absurd (List.any_eq_true.mpr ⟨x, hx, g1⟩) c
      rw [this]
      exact Bool.false_ne_true

/-! ### which definitions have values, and how deep the least ones are (points 7 and 8) -/
theorem valD_putD (kvs : List (L2.Key × D)) (k : L2.Key) (v : D) (k' : L2.Key) : valD (putD kvs k v) k' = if k' = k then some v else valD kvs k' := by
  unfold putD
  by_cases h : (kvs.any fun kv => decide (kv.1 = k)) = true
  · rw [if_pos h]
    unfold valD
    induction kvs with
    | nil => cases h
    | cons a r ih =>
      rw [List.map_cons]
      by_cases e : a.1 = k
      · rw [if_pos e]
        by_cases e2 : k' = k
        · subst e2
          rw [if_pos rfl, List.find?_cons_of_pos (by simp [e])]
          rfl
        · rw [if_neg e2]
          have n1 : ¬ a.1 = k' := fun z => e2 (by rw [← z]; exact e)
          rw [List.find?_cons_of_neg (by simp [n1]), List.find?_cons_of_neg (by simp [n1])]
          by_cases h2 : (r.any fun kv => decide (kv.1 = k)) = true
          · have := ih h2
            rw [if_neg e2] at this
            exact this
          · have : r.map (fun kv => if kv.1 = k then (kv.1, v) else kv) = r := by
              rw [List.any_eq_true] at h2
              conv => rhs; rw [← List.map_id' r]
              refine List.map_congr_left fun x hx => ?_
              rw [if_neg]
              intro z
              exact h2 ⟨x, hx, decide_eq_true z⟩
            rw [this]
      · rw [if_neg e]
        rw [List.any_cons, decide_eq_false e, Bool.false_or] at h
        have ih := ih h
        by_cases e3 : a.1 = k'
        · rw [List.find?_cons_of_pos (by simp [e3]), List.find?_cons_of_pos (by simp [e3]), if_neg (fun z => e (by rw [e3]; exact z))]
        · rw [List.find?_cons_of_neg (by simp [e3]), List.find?_cons_of_neg (by simp [e3])]
          exact ih
  · rw [if_neg h]
    unfold valD
    rw [List.find?_append, Option.map_or]
    by_cases e2 : k' = k
    · subst e2
      have : kvs.find? (fun kv => decide (kv.1 = k')) = none := by
        rw [List.find?_eq_none]
        intro x hx z
        exact h (List.any_eq_true.mpr ⟨x, hx, z⟩)
      rw [this, if_pos rfl, List.find?_cons_of_pos (by simp)]
      rfl
    · rw [if_neg e2, List.find?_cons_of_neg (by simp only [decide_eq_true_eq]; exact fun z => e2 z.symm)]
      simp
theorem valD_putAll (i : Int) : ∀ (ds : Defs) (kvs : List (L2.Key × D)) (s : Str), valD (putAll i kvs ds) (.inr s) = if s ∈ ds.map (·.1) then some (.int i) else valD kvs (.inr s)
  | [], kvs, s => by simp [putAll]
  | d :: ds, kvs, s => by
    show valD (putAll i (putD kvs (.inr d.1) (.int i)) ds) (.inr s) = _
    rw [valD_putAll i ds, valD_putD, List.map_cons]
    by_cases h1 : s ∈ ds.map (·.1)
    · rw [if_pos h1, if_pos (List.mem_cons_of_mem _ h1)]
    · rw [if_neg h1]
      by_cases h2 : s = d.1
      · rw [if_pos (by rw [h2]), if_pos (by rw [h2]; exact List.mem_cons_self)]
      · rw [if_neg (fun z => h2 (Sum.inr.inj z)), if_neg]
        intro z
        rcases List.mem_cons.mp z with z | z
        · exact h2 z
        · exact h1 z
theorem val_next (ds : Defs) (j : Nat) (s : Str) : valD (depthsOf ds (j + 1)) (.inr s) = if s ∈ (ds.filter (newV (depthsOf ds j))).map (·.1) then some (.int (1 + (j : Nat))) else valD (depthsOf ds j) (.inr s) := valD_putAll _ _ _ _
theorem new_mem {ds : Defs} {kvs : List (L2.Key × D)} {s : Str} (h : s ∈ (ds.filter (newV kvs)).map (·.1)) : ∃ b, (s, b) ∈ ds ∧ valD kvs (.inr s) = none ∧ b.hasV kvs = true := by
  rw [List.mem_map] at h
  obtain ⟨⟨t, b⟩, h1, rfl⟩ := h
  rw [List.mem_filter] at h1
  obtain ⟨h1, h2⟩ := h1
  unfold newV at h2
  rw [Bool.and_eq_true] at h2
  refine ⟨b, h1, ?_, h2.2⟩
  cases e : valD kvs (.inr t) with
  | none => rfl
  | some v => rw [e] at h2; cases h2.1
theorem val_mono {ds : Defs} {s : Str} {v : D} {j : Nat} (h : valD (depthsOf ds j) (.inr s) = some v) : ∀ k, valD (depthsOf ds (j + k)) (.inr s) = some v
  | 0 => h
  | k + 1 => by
    have ih := val_mono h k
    show valD (depthsOf ds (j + k + 1)) (.inr s) = _
    rw [val_next, if_neg, ih]
    intro z
    obtain ⟨_, _, z, _⟩ := new_mem z
    rw [ih] at z
    cases z
theorem val_le {ds : Defs} {s : Str} {v : D} {j m : Nat} (h : valD (depthsOf ds j) (.inr s) = some v) (hm : j ≤ m) : valD (depthsOf ds m) (.inr s) = some v := by
  have := val_mono h (m - j)
  rwa [show j + (m - j) = m by omega] at this
theorem val_at {ds : Defs} {s : Str} : ∀ {m : Nat} {v : D}, valD (depthsOf ds m) (.inr s) = some v → ∃ j : Nat, v = .int (1 + (j : Nat)) ∧ j < m ∧ valD (depthsOf ds j) (.inr s) = none ∧ ∃ b, (s, b) ∈ ds ∧ b.hasV (depthsOf ds j) = true
  | 0, _, h => by cases h
  | m + 1, v, h => by
    rw [val_next] at h
    split at h
    · rename_i hm
      obtain ⟨b, h1, h2, h3⟩ := new_mem hm
      cases h
      exact ⟨m, rfl, Nat.lt_succ_self m, h2, b, h1, h3⟩
    · obtain ⟨j, h1, h2, h3⟩ := val_at h
      exact ⟨j, h1, Nat.lt_succ_of_lt h2, h3⟩
/-- the least depth of a part, as the depths say -/
def depV : Option D → Nat
  | some (.int i) => i.toNat
  | _ => 0
def depN (kvs : List (L2.Key × D)) : Part → Nat
  | .leaf _ => 0
  | .name s => depV (valD kvs (.inr s))
theorem depN_known {ds : Defs} {p : Part} {j m : Nat} (h : known (depthsOf ds j) p = true) (hm : j ≤ m) : known (depthsOf ds m) p = true ∧ depN (depthsOf ds m) p ≤ j := by
  cases p with
  | leaf L => exact ⟨rfl, Nat.zero_le _⟩
  | name s =>
    have h : (valD (depthsOf ds j) (.inr s)).isSome = true := h
    rw [Option.isSome_iff_exists] at h
    obtain ⟨v, h⟩ := h
    obtain ⟨i, rfl, hi, _⟩ := val_at h
    have := val_le h hm
    refine ⟨by show (valD _ _).isSome = true; rw [this]; rfl, ?_⟩
    show depV (valD (depthsOf ds m) (.inr s)) ≤ j
    rw [this]
    show (1 + (i : Int)).toNat ≤ j
    omega
theorem hasV_mono {ds : Defs} {b : Body} {j m : Nat} (h : b.hasV (depthsOf ds j) = true) (hm : j ≤ m) : b.hasV (depthsOf ds m) = true := by
  cases b with
  | rcd fs rt =>
    have h : (fs.all fun f => f.mode == Str.ofString "optional" || known (depthsOf ds j) f.part) = true := h
    show (fs.all fun f => f.mode == Str.ofString "optional" || known (depthsOf ds m) f.part) = true
    rw [List.all_eq_true] at h ⊢
    intro f hf
    have := h f hf
    rw [Bool.or_eq_true] at this ⊢
    exact this.imp_right fun k => (depN_known k hm).1
  | uni cs rt op =>
    have h : (op || cs.any fun c => known (depthsOf ds j) c.2) = true := h
    show (op || cs.any fun c => known (depthsOf ds m) c.2) = true
    rw [Bool.or_eq_true, List.any_eq_true] at h ⊢
    exact h.imp_right fun ⟨c, hc, k⟩ => ⟨c, hc, (depN_known k hm).1⟩
  | lst p lo hi =>
    have h : (decide (lo ≤ 0) || known (depthsOf ds j) p) = true := h
    show (decide (lo ≤ 0) || known (depthsOf ds m) p) = true
    rw [Bool.or_eq_true] at h ⊢
    exact h.imp_right fun k => (depN_known k hm).1
/-! ### schemas as they are drawn -/
def Body.parts : Body → List Part
  | .rcd fs _ => fs.map (·.part)
  | .uni cs _ _ => cs.map (·.2)
  | .lst p _ _ => [p]
def Part.inD (df : Defs) : Part → Prop
  | .leaf L => L.wf
  | .name s => s ∈ df.map (·.1)
structure Sch (n : Nat) (df : Defs) : Prop where
  ok : DefsOk n df
  cl : ∀ d ∈ df, ∀ p ∈ d.2.parts, p.inD df
/-- a field that must be there and whose part is a name -/
def Field.need (f : Field) : Bool := match f.part with
  | .leaf _ => false
  | .name _ => !(f.mode == Str.ofString "optional")
def Body.slim (k : Nat) : Body → Prop
  | .rcd fs _ => fs.length ≤ k ∧ (fs.filter Field.need).length ≤ 1
  | .uni cs _ _ => cs.length ≤ k
  | .lst p lo _ => lo ≤ 2 ∧ ∀ s, p = .name s → lo ≤ 1
/-- values of names for which lt holds are enough for one of the body -/
def Body.good (lt : Str → Prop) : Body → Prop
  | .rcd fs _ => ∀ f ∈ fs, ¬ f.mode = Str.ofString "optional" → ∀ s, f.part = .name s → lt s
  | .uni cs _ op => op = true ∨ ∃ c ∈ cs, ∀ s, c.2 = .name s → lt s
  | .lst p lo _ => 0 < lo → ∀ s, p = .name s → lt s
theorem Body.good.mono {lt lt' : Str → Prop} (h : ∀ s, lt s → lt' s) {b : Body} (g : b.good lt) : b.good lt' := by
  cases b with
  | rcd fs rt => exact fun f hf hm s e => h s (g f hf hm s e)
  | uni cs rt op => exact g.imp_right fun ⟨c, hc, k⟩ => ⟨c, hc, fun s e => h s (k s e)⟩
  | lst p lo hi => exact fun hl s e => h s (g hl s e)
structure SchOk (k : Nat) (df : Defs) : Prop extends Sch 40 df where
  four : df.length ≤ 4
  slim : ∀ d ∈ df, d.2.slim k
  rank : ∃ r : Str → Nat, (∀ d ∈ df, r d.1 < df.length) ∧ ∀ d ∈ df, d.2.good fun s => s ∈ df.map (·.1) ∧ r s < r d.1
theorem good_hasV {kvs : List (L2.Key × D)} {b : Body} {lt : Str → Prop} (g : b.good lt) (h : ∀ s, lt s → (valD kvs (.inr s)).isSome = true) : b.hasV kvs = true := by
  have kn : ∀ p : Part, (∀ s, p = .name s → lt s) → known kvs p = true := fun p hp => by
    cases p with
    | leaf L => rfl
    | name s => exact h s (hp s rfl)
  cases b with
  | rcd fs rt =>
    show (fs.all fun f => f.mode == Str.ofString "optional" || known kvs f.part) = true
    rw [List.all_eq_true]
    intro f hf
    rw [Bool.or_eq_true]
    by_cases c : f.mode = Str.ofString "optional"
    · exact .inl (by rw [c]; simp)
    · exact .inr (kn _ (g f hf c))
  | uni cs rt op =>
    show (op || cs.any fun c => known kvs c.2) = true
    rw [Bool.or_eq_true, List.any_eq_true]
    exact g.imp_right fun ⟨c, hc, k⟩ => ⟨c, hc, kn _ k⟩
  | lst p lo hi =>
    show (decide (lo ≤ 0) || known kvs p) = true
    rw [Bool.or_eq_true, decide_eq_true_eq]
    by_cases c : lo ≤ 0
    · exact .inl c
    · exact .inr (kn _ (g (by omega)))
theorem rank_known {df : Defs} {r : Str → Nat} (hg : ∀ d ∈ df, d.2.good fun s => s ∈ df.map (·.1) ∧ r s < r d.1) : ∀ (m : Nat), ∀ d ∈ df, r d.1 < m → (valD (depthsOf df m) (.inr d.1)).isSome = true
  | 0, _, _, h => absurd h (Nat.not_lt_zero _)
  | m + 1, d, hd, h => by
    rw [val_next]
    split
    · rfl
    · rename_i hn
      cases e : valD (depthsOf df m) (.inr d.1) with
      | some v => rfl
      | none =>
        refine absurd (List.mem_map_of_mem (f := fun d : Str × Body => d.1) (List.mem_filter.mpr ⟨hd, ?_⟩)) hn
        unfold newV
        rw [e]
        rw [good_hasV (hg d hd) fun s ⟨hs, hr⟩ => ?_]
        · rfl
        · rw [List.mem_map] at hs
          obtain ⟨d2, hd2, rfl⟩ := hs
          exact rank_known hg m d2 hd2 (by omega)
/-- all definitions have values -/
def AllV (df : Defs) : Prop := ∀ s ∈ df.map (·.1), (valD (depthsOf df df.length) (.inr s)).isSome = true
theorem SchOk.all {k : Nat} {df : Defs} (h : SchOk k df) : AllV df := by
  obtain ⟨r, h1, h2⟩ := h.rank
  intro s hs
  rw [List.mem_map] at hs
  obtain ⟨d, hd, rfl⟩ := hs
  exact rank_known h2 _ d hd (h1 d hd)
/-! ### the simple value of a part -/
def bestS (kvs : List (L2.Key × D)) (b : Option (Int × Part)) (c : Int × Part) : Option (Int × Part) := if known kvs c.2 then (match b with
  | none => some c
  | some e => if depN kvs c.2 < depN kvs e.2 then some c else some e) else b
def bestC (kvs : List (L2.Key × D)) (cs : List (Int × Part)) : Option (Int × Part) := cs.foldl (bestS kvs) none
/-- the best of those that have been looked at -/
def BestOf (kvs : List (L2.Key × D)) (cs : List (Int × Part)) (b : Option (Int × Part)) : Prop := (b = none ∧ ∀ c ∈ cs, known kvs c.2 = false) ∨ ∃ e, b = some e ∧ e ∈ cs ∧ known kvs e.2 = true ∧ ∀ c ∈ cs, known kvs c.2 = true → depN kvs e.2 ≤ depN kvs c.2
def simpE (f : Field) (v : D) : Option (Int × D) := if f.mode == Str.ofString "required" then some (f.id, v) else if f.mode == Str.ofString "default" then some (f.id, f.dflt) else none
def simpN : Nat → Defs → List (L2.Key × D) → Part → D
  | _, _, _, .leaf L => L.simple
  | 0, _, _, .name _ => .non
  | n + 1, df, kvs, .name s => match bodyOf df s with
    | none => .non
    | some (.lst p lo _) => .tup (List.replicate lo.toNat (simpN n df kvs p))
    | some (.rcd fs _) => .tup ((fs.filterMap fun f => simpE f (simpN n df kvs f.part)).map entT)
    | some (.uni cs _ op) => if op then unkD else match bestC kvs cs with
      | some c => .tup [.int c.1, simpN n df kvs c.2]
      | none => .non
theorem best_step {kvs : List (L2.Key × D)} {pre : List (Int × Part)} {b : Option (Int × Part)} (x : Int × Part) (h : BestOf kvs pre b) : BestOf kvs (pre ++ [x]) (bestS kvs b x) := by
  unfold bestS
  cases kx : known kvs x.2 with
  | false =>
    rw [if_neg Bool.false_ne_true]
    rcases h with ⟨h1, h2⟩ | ⟨e, h1, h2, h3, h4⟩
    · refine .inl ⟨h1, fun c hc => ?_⟩
      rcases List.mem_append.mp hc with hc | hc
      · exact h2 c hc
      · rw [List.mem_singleton] at hc
        rw [hc, kx]
    · refine .inr ⟨e, h1, List.mem_append_left _ h2, h3, fun c hc hk => ?_⟩
      rcases List.mem_append.mp hc with hc | hc
      · exact h4 c hc hk
      · rw [List.mem_singleton] at hc
        rw [hc, kx] at hk
        cases hk
  | true =>
    rw [if_pos rfl]
    rcases h with ⟨h1, h2⟩ | ⟨e, h1, h2, h3, h4⟩
    · subst h1
      refine .inr ⟨x, rfl, List.mem_append_right _ (List.mem_singleton.mpr rfl), kx, fun c hc hk => ?_⟩
      rcases List.mem_append.mp hc with hc | hc
      · rw [h2 c hc] at hk
        cases hk
      · rw [List.mem_singleton] at hc
        rw [hc]
        exact Nat.le_refl _
    · subst h1
      by_cases lt : depN kvs x.2 < depN kvs e.2
      · refine .inr ⟨x, by show (if _ then _ else _) = _; rw [if_pos lt], List.mem_append_right _ (List.mem_singleton.mpr rfl), kx, fun c hc hk => ?_⟩
        rcases List.mem_append.mp hc with hc | hc
        · have := h4 c hc hk
          omega
        · rw [List.mem_singleton] at hc
          rw [hc]
          exact Nat.le_refl _
      · refine .inr ⟨e, by show (if _ then _ else _) = _; rw [if_neg lt], List.mem_append_left _ h2, h3, fun c hc hk => ?_⟩
        rcases List.mem_append.mp hc with hc | hc
        · exact h4 c hc hk
        · rw [List.mem_singleton] at hc
          rw [hc]
          omega
theorem best_ok (kvs : List (L2.Key × D)) (cs : List (Int × Part)) : BestOf kvs cs (bestC kvs cs) := by
  have key : ∀ (pre post : List (Int × Part)) (b : Option (Int × Part)), BestOf kvs pre b → BestOf kvs (pre ++ post) (post.foldl (bestS kvs) b) := by
    intro pre post
    induction post generalizing pre with
    | nil => intro b h; rw [List.append_nil]; exact h
    | cons x post ih =>
      intro b h
      have := ih (pre ++ [x]) _ (best_step x h)
      rw [List.append_assoc] at this
      exact this
  exact key [] cs none (.inl ⟨rfl, fun _ h => by cases h⟩)

/-! ### the simple value is a value, small and not deep -/
theorem asI_of : ∀ {xs : List Int}, xs.Pairwise (· < ·) → ascI xs = true
  | [], _ => rfl
  | [_], _ => rfl
  | x :: y :: r, h => by
    rw [List.pairwise_cons] at h
    show (decide (x < y) && ascI (y :: r)) = true
    rw [asI_of h.2, decide_eq_true (h.1 y List.mem_cons_self)]
    rfl
theorem mode3 {f : Field} (w : f.wf) : (f.mode = Str.ofString "required" ∧ f.dflt = .non) ∨ (f.mode = Str.ofString "optional" ∧ f.dflt = .non) ∨ (f.mode = Str.ofString "default" ∧ ∃ L, f.part = .leaf L ∧ L.has f.dflt = true ∧ dVal f.dflt = true ∧ dW f.dflt ≤ 60) := by
  rcases w.mode with h | h | ⟨h, L, h1, h2, h3, h4, h5⟩
  · exact .inl h
  · exact .inr (.inl h)
  · exact .inr (.inr ⟨h, L, h1, h3, h4, h5⟩)
theorem m_ne : (Str.ofString "required" == Str.ofString "default") = false ∧ (Str.ofString "required" == Str.ofString "optional") = false ∧ (Str.ofString "default" == Str.ofString "required") = false ∧ (Str.ofString "default" == Str.ofString "optional") = false ∧ (Str.ofString "optional" == Str.ofString "required") = false ∧ (Str.ofString "optional" == Str.ofString "default") = false := by
  simp only [Str_beq]
  decide
theorem simpE_req {f : Field} {v : D} (h : f.mode = Str.ofString "required") : simpE f v = some (f.id, v) := by unfold simpE; rw [h]; simp
theorem simpE_dft {f : Field} {v : D} (h : f.mode = Str.ofString "default") : simpE f v = some (f.id, f.dflt) := by unfold simpE; rw [h, m_ne.2.2.1]; simp
theorem simpE_opt {f : Field} {v : D} (h : f.mode = Str.ofString "optional") : simpE f v = none := by unfold simpE; rw [h, m_ne.2.2.2.2.1, m_ne.2.2.2.2.2]; simp
/-- entries that are one for each field of some -/
theorem ents_ids {fs : List Field} {g : Field → Option (Int × D)} (h : ∀ f ∈ fs, ∀ e, g f = some e → e.1 = f.id) : ((fs.filterMap g).map (·.1)).Sublist (fs.map (·.id)) := by
  induction fs with
  | nil => exact .slnil
  | cons f fs ih =>
    have ih := ih fun f hf => h f (List.mem_cons_of_mem _ hf)
    rw [List.map_cons]
    cases e : g f with
    | none => rw [List.filterMap_cons_none e]; exact ih.cons _
    | some q =>
      rw [List.filterMap_cons_some e, List.map_cons, h f List.mem_cons_self q e]
      exact ih.cons_cons _
/-- a record's value, put together from entries of its fields -/
theorem rcd_has {df : Defs} {n : Nat} {s : Str} {fs : List Field} {rt : List Int} (hb : bodyOf df s = some (.rcd fs rt)) (w : (Body.rcd fs rt).wf n) {g : Field → Option (Int × D)} (h : ∀ f ∈ fs, ∀ e, g f = some e → e.1 = f.id ∧ has df f.part e.2 = true) (hn : ∀ f ∈ fs, g f = none → f.mode = Str.ofString "optional") :
    has df (.name s) (.tup ((fs.filterMap g).map entT)) = true ∧ (Body.rcd fs rt).kids (.tup ((fs.filterMap g).map entT)) = some ((fs.filterMap g).map fun e => ((look (Body.rcd fs rt).rows e.1).getD (.name (Str.ofString "")), e.2)) := by
  have sub := ents_ids fun f hf e he => (h f hf e he).1
  have hk : (Body.rcd fs rt).kids (.tup ((fs.filterMap g).map entT)) = some ((fs.filterMap g).map fun e => ((look (Body.rcd fs rt).rows e.1).getD (.name (Str.ofString "")), e.2)) := by
    rw [kids_r, entsD_map, Option.bind_some, if_pos]
    unfold rcdOk
    rw [Bool.and_eq_true, Bool.and_eq_true]
    refine ⟨⟨asI_of (w.1.live.1.sublist sub), List.all_eq_true.mpr fun x hx => List.contains_iff_mem.mpr (sub.subset hx)⟩, List.all_eq_true.mpr fun f hf => ?_⟩
    rw [Bool.or_eq_true]
    cases e : g f with
    | none => exact .inl (by rw [hn f hf e]; simp)
    | some q =>
      refine .inr (List.contains_iff_mem.mpr ?_)
      rw [← (h f hf q e).1]
      exact List.mem_map_of_mem (List.mem_filterMap.mpr ⟨f, hf, e⟩)
  refine ⟨?_, hk⟩
  rw [has_body hb, hk]
  refine List.all_eq_true.mpr fun k hk => ?_
  rw [List.mem_map] at hk
  obtain ⟨e, he, rfl⟩ := hk
  rw [List.mem_filterMap] at he
  obtain ⟨f, hf, e1⟩ := he
  obtain ⟨e2, e3⟩ := h f hf e e1
  have := look_mem w.nd (show (f.id, f.part) ∈ (Body.rcd fs rt).rows from List.mem_map_of_mem (f := fun f : Field => (f.id, f.part)) hf)
  rw [e2, this]
  exact e3
theorem uni_has {df : Defs} {n : Nat} {s : Str} {cs : List (Int × Part)} {rt : List Int} {op : Bool} (hb : bodyOf df s = some (.uni cs rt op)) (w : (Body.uni cs rt op).wf n) {c : Int × Part} (hc : c ∈ cs) {v : D} (h : has df c.2 v = true) :
    has df (.name s) (.tup [.int c.1, v]) = true ∧ (Body.uni cs rt op).kids (.tup [.int c.1, v]) = some [(c.2, v)] := by
  have id1 : 1 ≤ c.1 := (w.1.live.2 c.1 (List.mem_map_of_mem hc)).1
  have hk : (Body.uni cs rt op).kids (.tup [.int c.1, v]) = some [(c.2, v)] := by
    rw [kids_u]
    have : isUnk (.tup [.int c.1, v]) = false := by
      cases h : isUnk (.tup [.int c.1, v]) with
      | false => rfl
      | true =>
        have := isUnk_eq h
        unfold unkD at this
        injection this with this
        injection this with this
        injection this with this
        omega
    rw [this, if_neg Bool.false_ne_true]
    show ((some (c.1, v)).bind fun e : Int × D => (look cs e.1).map fun p => [(p, e.2)]) = _
    rw [Option.bind_some]
    have nd : (cs.map (·.1)).Nodup := w.1.live.1.imp fun h => by omega
    rw [look_mem nd hc]
    rfl
  refine ⟨?_, hk⟩
  rw [has_body hb, hk]
  show (has df c.2 v && true) = true
  rw [h]
  rfl
theorem unk_has {df : Defs} {s : Str} {cs : List (Int × Part)} {rt : List Int} (hb : bodyOf df s = some (.uni cs rt true)) : has df (.name s) unkD = true := by
  rw [has_body hb]
  rfl
theorem lst_has {df : Defs} {s : Str} {p : Part} {lo hi : Int} (hb : bodyOf df s = some (.lst p lo hi)) {ds : List D} (h0 : lo ≤ (ds.length : Int)) (h1 : (ds.length : Int) ≤ hi) (h : ∀ d ∈ ds, has df p d = true) :
    has df (.name s) (.tup ds) = true ∧ (Body.lst p lo hi).kids (.tup ds) = some (ds.map fun d => (p, d)) := by
  have hk : (Body.lst p lo hi).kids (.tup ds) = some (ds.map fun d => (p, d)) := by
    rw [kids_l, decide_eq_true h0, decide_eq_true h1]
    rfl
  refine ⟨?_, hk⟩
  rw [has_body hb, hk]
  refine List.all_eq_true.mpr fun k hk => ?_
  rw [List.mem_map] at hk
  obtain ⟨d, hd, rfl⟩ := hk
  exact h d hd
theorem Sch.body {n : Nat} {df : Defs} (S : Sch n df) {s : Str} {b : Body} (h : bodyOf df s = some b) : b.wf n ∧ ∀ p ∈ b.parts, p.inD df := ⟨S.ok.body _ (bodyOf_in h), S.cl _ (bodyOf_in h)⟩
/-- names that have values: what their bodies need has been there before -/
theorem val_body {n : Nat} {df : Defs} (S : Sch n df) {s : Str} (h : known (depthsOf df df.length) (.name s) = true) : ∃ (j : Nat) (b : Body), depN (depthsOf df df.length) (.name s) = j + 1 ∧ j < df.length ∧ bodyOf df s = some b ∧ b.hasV (depthsOf df j) = true := by
  have h : (valD (depthsOf df df.length) (.inr s)).isSome = true := h
  rw [Option.isSome_iff_exists] at h
  obtain ⟨v, h⟩ := h
  obtain ⟨j, rfl, hj, _, b, hb, hv⟩ := val_at h
  refine ⟨j, b, ?_, hj, bodyOf_mem S.ok.nd hb, hv⟩
  show depV (valD _ _) = _
  rw [h]
  show (1 + (j : Int)).toNat = j + 1
  omega
def szA (k : Nat) : Nat := 210 + 50 * k
theorem simple_m {L : Leaf} (h : L.wf) : dM L.simple ≤ 41 ∧ dDep L.simple = 0 := by
  cases L with
  | number lo hi => exact ⟨(by decide : 8 ≤ 41), rfl⟩
  | text lo hi =>
    obtain ⟨h1, h2, h3⟩ := h
    obtain ⟨a1, a2⟩ := mul_a' h1 (by omega)
    refine ⟨?_, rfl⟩
    show (Txt.mul (Str.ofString "a") lo).length + 1 ≤ 41
    omega
  | choice sy rt op => exact ⟨(by decide : 8 ≤ 41), rfl⟩
theorem has_m {L : Leaf} (h : L.wf) {v : D} (hv : L.has v = true) : dM v ≤ 41 := by
  cases L with
  | number lo hi =>
    cases v with
    | int i => exact (by decide : 8 ≤ 41)
    | _ => cases hv
  | text lo hi =>
    cases v with
    | str x =>
      have hv : (decide (lo ≤ (x.length : Int)) && decide ((x.length : Int) ≤ hi) && okT x) = true := hv
      rw [Bool.and_eq_true, Bool.and_eq_true, decide_eq_true_eq, decide_eq_true_eq] at hv
      obtain ⟨h1, h2, h3⟩ := h
      show x.length + 1 ≤ 41
      omega
    | _ => cases hv
  | choice sy rt op =>
    cases v with
    | int i => exact (by decide : 8 ≤ 41)
    | _ => cases hv
theorem dML_ent (e : Int × D) (es : List (Int × D)) : dML ((e :: es).map entT) = 9 + dM e.2 + dML (es.map entT) := by
  show (8 + (dM e.2 + 0)) + 1 + dML (es.map entT) = _
  omega
theorem dML_rep (n : Nat) (v : D) : dML (List.replicate n v) = n * dM v := by
  induction n with
  | zero => rw [Nat.zero_mul]; rfl
  | succ n ih =>
    rw [List.replicate_succ]
    show dM v + dML (List.replicate n v) = _
    rw [ih, Nat.succ_mul, Nat.add_comm]
theorem dDepL_ents {es : List (Int × D)} {n : Nat} (h : ∀ e ∈ es, dDep e.2 ≤ n) : dDepL (es.map entT) ≤ n + 1 := dDepL_le_of fun d hd => by
  rw [List.mem_map] at hd
  obtain ⟨e, he, rfl⟩ := hd
  have := h e he
  show max 0 (max (dDep e.2) 0) + 1 ≤ n + 1
  omega
theorem dValL_ents {es : List (Int × D)} (h : ∀ e ∈ es, dVal e.2 = true) : dValL (es.map entT) = true := dValL_of fun d hd => by
  rw [List.mem_map] at hd
  obtain ⟨e, he, rfl⟩ := hd
  show (true && (dVal e.2 && true)) = true
  rw [h e he]
  rfl
/-- the entries of a record's fields: leaves are small, one may be large -/
theorem ents_m {fs : List Field} {g : Field → Option (Int × D)} {B : Nat} (hl : ∀ f ∈ fs, ∀ e, g f = some e → f.need = false → dM e.2 ≤ 41) (hn : ∀ f ∈ fs, ∀ e, g f = some e → f.need = true → dM e.2 ≤ B) : dML ((fs.filterMap g).map entT) ≤ 50 * fs.length + (fs.filter Field.need).length * B := by
  induction fs with
  | nil => exact Nat.zero_le _
  | cons f fs ih =>
    have ih := ih (fun f hf => hl f (List.mem_cons_of_mem _ hf)) (fun f hf => hn f (List.mem_cons_of_mem _ hf))
    rw [List.length_cons, Nat.mul_succ]
    cases hf : f.need with
    | true =>
      rw [List.filter_cons_of_pos hf, List.length_cons, Nat.add_mul (List.filter Field.need fs).length 1 B, Nat.one_mul]
      cases e : g f with
      | none => rw [List.filterMap_cons_none e]; omega
      | some q =>
        rw [List.filterMap_cons_some e, dML_ent]
        have := hn f List.mem_cons_self q e hf
        omega
    | false =>
      rw [List.filter_cons_of_neg (by rw [hf]; exact Bool.false_ne_true)]
      cases e : g f with
      | none => rw [List.filterMap_cons_none e]; omega
      | some q =>
        rw [List.filterMap_cons_some e, dML_ent]
        have := hl f List.mem_cons_self q e hf
        omega
structure SimpOk (df : Defs) (n : Nat) (p : Part) (v : D) : Prop where
  has : has df p v = true
  val : dVal v = true
  dep : dDep v ≤ 2 * n
theorem simp_ok {m : Nat} {df : Defs} (S : Sch m df) : ∀ (n : Nat) (p : Part), p.inD df → known (depthsOf df df.length) p = true → depN (depthsOf df df.length) p ≤ n → SimpOk df n p (simpN n df (depthsOf df df.length) p)
  | n, .leaf L, hp, _, _ => by
    have h1 := simple_ok hp
    have h2 := simple_m hp
    have e : simpN n df (depthsOf df df.length) (.leaf L) = L.simple := by cases n <;> rfl
    rw [e]
    exact ⟨by rw [has_leaf]; exact h1.1, h1.2.1, by rw [h2.2]; exact Nat.zero_le _⟩
  | 0, .name s, _, hk, hd => by
    obtain ⟨j, b, h1, _⟩ := val_body S hk
    omega
  | n + 1, .name s, hp, hk, hd => by
    obtain ⟨j, b, h1, hj, hb, hv⟩ := val_body S hk
    obtain ⟨w, cl⟩ := S.body hb
    unfold simpN
    rw [hb]
    have go : ∀ p ∈ b.parts, known (depthsOf df j) p = true → SimpOk df n p (simpN n df (depthsOf df df.length) p) := fun p hp2 hk2 => by
      obtain ⟨k1, k2⟩ := depN_known hk2 (Nat.le_of_lt hj)
      exact simp_ok S n p (cl p hp2) k1 (by omega)
    cases b with
    | lst p lo hi =>
      have hv : (decide (lo ≤ 0) || known (depthsOf df j) p) = true := hv
      obtain ⟨_, _, l0, l1, l2, l3⟩ := w
      have hlen : ((List.replicate lo.toNat (simpN n df (depthsOf df df.length) p)).length : Int) = lo := by rw [List.length_replicate]; omega
      by_cases c : lo ≤ 0
      · have e0 : lo.toNat = 0 := by omega
        show SimpOk df (n + 1) (.name s) (.tup (List.replicate lo.toNat _))
        rw [e0, List.replicate_zero]
        exact ⟨(lst_has hb (by show lo ≤ 0; exact c) (by show 0 ≤ hi; omega) (fun _ h => by cases h)).1, rfl, by show 0 + 1 ≤ 2 * (n + 1); omega⟩
      · rw [decide_eq_false c, Bool.false_or] at hv
        have ok := go p List.mem_cons_self hv
        refine ⟨(lst_has hb (by omega) (by omega) fun d hd => ?_).1, dValL_of fun d hd => ?_, ?_⟩
        · rw [List.eq_of_mem_replicate hd]
          exact ok.has
        · rw [List.eq_of_mem_replicate hd]
          exact ok.val
        · have : dDepL (List.replicate lo.toNat (simpN n df (depthsOf df df.length) p)) ≤ 2 * n := dDepL_le_of fun d hd => by
            rw [List.eq_of_mem_replicate hd]
            exact ok.dep
          show dDepL _ + 1 ≤ _
          omega
    | rcd fs rt =>
      have hv : (fs.all fun f => f.mode == Str.ofString "optional" || known (depthsOf df j) f.part) = true := hv
      rw [List.all_eq_true] at hv
      have one : ∀ f ∈ fs, ∀ e, simpE f (simpN n df (depthsOf df df.length) f.part) = some e → e.1 = f.id ∧ SimpOk df n f.part e.2 := fun f hf e he => by
        have kn := hv f hf
        rcases mode3 (w.2.2 f hf).1 with ⟨h, _⟩ | ⟨h, _⟩ | ⟨h, L, hL, g1, g2, g3⟩
        · rw [simpE_req h] at he
          cases he
          rw [h, m_ne.2.1, Bool.false_or] at kn
          exact ⟨rfl, go _ (List.mem_map_of_mem hf) kn⟩
        · rw [simpE_opt h] at he
          cases he
        · rw [simpE_dft h] at he
          cases he
          refine ⟨rfl, ?_⟩
          rw [hL]
          exact ⟨by rw [has_leaf]; exact g1, g2, by rw [has_leaf_dep g1]; exact Nat.zero_le _⟩
      have ent : ∀ e ∈ fs.filterMap (fun f => simpE f (simpN n df (depthsOf df df.length) f.part)), dVal e.2 = true ∧ dDep e.2 ≤ 2 * n := fun e he => by
        rw [List.mem_filterMap] at he
        obtain ⟨f, hf, he⟩ := he
        exact ⟨(one f hf e he).2.val, (one f hf e he).2.dep⟩
      refine ⟨(rcd_has hb w (fun f hf e he => ⟨(one f hf e he).1, (one f hf e he).2.has⟩) (fun f hf he => ?_)).1, dValL_ents fun e he => (ent e he).1, ?_⟩
      · rcases mode3 (w.2.2 f hf).1 with ⟨h, _⟩ | ⟨h, _⟩ | ⟨h, _⟩
        · rw [simpE_req h] at he; cases he
        · exact h
        · rw [simpE_dft h] at he; cases he
      · have := dDepL_ents fun e he => (ent e he).2
        show dDepL _ + 1 ≤ _
        omega
    | uni cs rt op =>
      have hv : (op || cs.any fun c => known (depthsOf df j) c.2) = true := hv
      cases op with
      | true => exact ⟨unk_has hb, rfl, by show max 0 (max 0 0) + 1 ≤ _; omega⟩
      | false =>
        rw [Bool.false_or, List.any_eq_true] at hv
        obtain ⟨c, hc, hk2⟩ := hv
        obtain ⟨k1, k2⟩ := depN_known hk2 (Nat.le_of_lt hj)
        show SimpOk df (n + 1) (.name s) (match bestC (depthsOf df df.length) cs with
          | some c => .tup [.int c.1, simpN n df (depthsOf df df.length) c.2]
          | none => .non)
        rcases best_ok (depthsOf df df.length) cs with ⟨_, h2⟩ | ⟨e, h3, h4, h5, h6⟩
        · rw [h2 c hc] at k1
          cases k1
        · rw [h3]
          have := h6 c hc k1
          have ok := simp_ok S n e.2 (cl _ (List.mem_map_of_mem h4)) h5 (by omega)
          refine ⟨(uni_has hb w h4 ok.has).1, ?_, ?_⟩
          · show (true && (dVal _ && true)) = true
            rw [ok.val]
            rfl
          · have := ok.dep
            show max 0 (max (dDep _) 0) + 1 ≤ _
            omega
/-- .. and small -/
theorem simp_m {k : Nat} {df : Defs} (S : SchOk k df) : ∀ (n : Nat) (p : Part), p.inD df → known (depthsOf df df.length) p = true → depN (depthsOf df df.length) p ≤ n → dM (simpN n df (depthsOf df df.length) p) ≤ n * szA k + 41
  | n, .leaf L, hp, _, _ => by
    have h2 := simple_m hp
    have e : simpN n df (depthsOf df df.length) (.leaf L) = L.simple := by cases n <;> rfl
    rw [e]
    omega
  | 0, .name s, _, hk, hd => by
    obtain ⟨j, b, h1, _⟩ := val_body S.toSch hk
    omega
  | n + 1, .name s, hp, hk, hd => by
    obtain ⟨j, b, h1, hj, hb, hv⟩ := val_body S.toSch hk
    obtain ⟨w, cl⟩ := S.body hb
    have sl := S.slim _ (bodyOf_in hb)
    unfold simpN
    rw [hb]
    have go : ∀ p ∈ b.parts, known (depthsOf df j) p = true → dM (simpN n df (depthsOf df df.length) p) ≤ n * szA k + 41 := fun p hp2 hk2 => by
      obtain ⟨k1, k2⟩ := depN_known hk2 (Nat.le_of_lt hj)
      exact simp_m S n p (cl p hp2) k1 (by omega)
    have lf : ∀ L : Leaf, L.wf → dM (simpN n df (depthsOf df df.length) (.leaf L)) ≤ 41 := fun L hL => by
      have e : simpN n df (depthsOf df df.length) (.leaf L) = L.simple := by cases n <;> rfl
      rw [e]
      exact (simple_m hL).1
    rw [Nat.succ_mul]
    cases b with
    | lst p lo hi =>
      have hv : (decide (lo ≤ 0) || known (depthsOf df j) p) = true := hv
      show dML _ + 1 ≤ _
      rw [dML_rep]
      obtain ⟨s1, s2⟩ := sl
      cases p with
      | leaf L =>
        have := lf L (cl _ List.mem_cons_self)
        have h3 : lo.toNat * dM (simpN n df (depthsOf df df.length) (.leaf L)) ≤ 2 * 41 := Nat.mul_le_mul (by omega) this
        unfold szA
        omega
      | name t =>
        have s2 := s2 t rfl
        by_cases c : lo ≤ 0
        · rw [show lo.toNat = 0 by omega]
          unfold szA
          omega
        · rw [decide_eq_false c, Bool.false_or] at hv
          have := go _ List.mem_cons_self hv
          rw [show lo.toNat = 1 by omega]
          unfold szA at *
          omega
    | rcd fs rt =>
      have hv : (fs.all fun f => f.mode == Str.ofString "optional" || known (depthsOf df j) f.part) = true := hv
      rw [List.all_eq_true] at hv
      show dML ((fs.filterMap _).map entT) + 1 ≤ _
      have := ents_m (fs := fs) (g := fun f => simpE f (simpN n df (depthsOf df df.length) f.part)) (B := n * szA k + 41) (fun f hf e he hn => ?_) (fun f hf e he hn => ?_)
      · have h3 : (fs.filter Field.need).length * (n * szA k + 41) ≤ 1 * (n * szA k + 41) := Nat.mul_le_mul_right _ sl.2
        have h4 : 50 * fs.length ≤ 50 * k := Nat.mul_le_mul_left _ sl.1
        have e5 : szA k = 210 + 50 * k := rfl
        omega
      · rcases mode3 (w.2.2 f hf).1 with ⟨h, _⟩ | ⟨h, _⟩ | ⟨h, L, hL, g1, g2, g3⟩
        · rw [simpE_req h] at he
          cases he
          unfold Field.need at hn
          have ip := cl f.part (List.mem_map_of_mem hf)
          cases ep : f.part with
          | leaf L =>
            rw [ep] at ip
            exact lf L ip
          | name t =>
            rw [ep, h, m_ne.2.1] at hn
            cases hn
        · rw [simpE_opt h] at he
          cases he
        · rw [simpE_dft h] at he
          cases he
          have ip := cl f.part (List.mem_map_of_mem hf)
          rw [hL] at ip
          exact has_m ip g1
      · have kn := hv f hf
        rcases mode3 (w.2.2 f hf).1 with ⟨h, _⟩ | ⟨h, _⟩ | ⟨h, L, hL, g1, g2, g3⟩
        · rw [simpE_req h] at he
          cases he
          rw [h, m_ne.2.1, Bool.false_or] at kn
          exact go _ (List.mem_map_of_mem hf) kn
        · rw [simpE_opt h] at he
          cases he
        · rw [hL] at kn
          unfold Field.need at hn
          rw [hL] at hn
          cases hn
    | uni cs rt op =>
      have hv : (op || cs.any fun c => known (depthsOf df j) c.2) = true := hv
      have e5 : szA k = 210 + 50 * k := rfl
      cases op with
      | true =>
        show 10 ≤ _
        omega
      | false =>
        rw [Bool.false_or, List.any_eq_true] at hv
        obtain ⟨c, hc, hk2⟩ := hv
        obtain ⟨k1, k2⟩ := depN_known hk2 (Nat.le_of_lt hj)
        show dM (match bestC (depthsOf df df.length) cs with
          | some c => .tup [.int c.1, simpN n df (depthsOf df df.length) c.2]
          | none => .non) ≤ _
        rcases best_ok (depthsOf df df.length) cs with ⟨_, h2⟩ | ⟨e, h3, h4, h5, h6⟩
        · rw [h2 c hc] at k1
          cases k1
        · rw [h3]
          have := h6 c hc k1
          have ok := simp_m S n e.2 (cl _ (List.mem_map_of_mem h4)) h5 (by omega)
          show 8 + (dM _ + 0) + 1 ≤ _
          omega

/-! ### values as they are drawn -/
theorem fm_congr {α β : Type} {xs : List α} {f g : α → Option β} (h : ∀ x ∈ xs, f x = g x) : xs.filterMap f = xs.filterMap g := by
  induction xs with
  | nil => rfl
  | cons x xs ih =>
    have ih := ih fun y hy => h y (List.mem_cons_of_mem _ hy)
    have e := h x List.mem_cons_self
    cases e2 : g x with
    | none => rw [List.filterMap_cons_none e2, List.filterMap_cons_none (e.trans e2), ih]
    | some y => rw [List.filterMap_cons_some e2, List.filterMap_cons_some (e.trans e2), ih]
theorem simpN_eq {m : Nat} {df : Defs} (S : Sch m df) : ∀ (a b : Nat) (p : Part), p.inD df → known (depthsOf df df.length) p = true → depN (depthsOf df df.length) p ≤ a → depN (depthsOf df df.length) p ≤ b → simpN a df (depthsOf df df.length) p = simpN b df (depthsOf df df.length) p
  | 0, 0, .leaf L, _, _, _, _ => rfl
  | 0, b + 1, .leaf L, _, _, _, _ => rfl
  | a + 1, 0, .leaf L, _, _, _, _ => rfl
  | a + 1, b + 1, .leaf L, _, _, _, _ => rfl
  | 0, _, .name s, _, hk, hd, _ => by
    obtain ⟨j, b, h1, _⟩ := val_body S hk
    omega
  | _ + 1, 0, .name s, _, hk, _, hd => by
    obtain ⟨j, b, h1, _⟩ := val_body S hk
    omega
  | a + 1, c + 1, .name s, hp, hk, hd, hd2 => by
    obtain ⟨j, b, h1, hj, hb, hv⟩ := val_body S hk
    obtain ⟨w, cl⟩ := S.body hb
    unfold simpN
    rw [hb]
    have go : ∀ p ∈ b.parts, known (depthsOf df j) p = true → simpN a df (depthsOf df df.length) p = simpN c df (depthsOf df df.length) p := fun p hp2 hk2 => by
      obtain ⟨k1, k2⟩ := depN_known hk2 (Nat.le_of_lt hj)
      exact simpN_eq S a c p (cl p hp2) k1 (by omega) (by omega)
    cases b with
    | lst p lo hi =>
      have hv : (decide (lo ≤ 0) || known (depthsOf df j) p) = true := hv
      show D.tup _ = D.tup _
      by_cases z : lo ≤ 0
      · rw [show lo.toNat = 0 by omega]
        rfl
      · rw [decide_eq_false z, Bool.false_or] at hv
        rw [go p List.mem_cons_self hv]
    | rcd fs rt =>
      have hv : (fs.all fun f => f.mode == Str.ofString "optional" || known (depthsOf df j) f.part) = true := hv
      rw [List.all_eq_true] at hv
      show D.tup _ = D.tup _
      rw [fm_congr (xs := fs) (f := fun f => simpE f (simpN a df (depthsOf df df.length) f.part)) (g := fun f => simpE f (simpN c df (depthsOf df df.length) f.part)) fun f hf => ?_]
      have kn := hv f hf
      rcases mode3 (w.2.2 f hf).1 with ⟨h, _⟩ | ⟨h, _⟩ | ⟨h, _⟩
      · rw [h, m_ne.2.1, Bool.false_or] at kn
        rw [go _ (List.mem_map_of_mem hf) kn]
      · rw [simpE_opt h, simpE_opt h]
      · rw [simpE_dft h, simpE_dft h]
    | uni cs rt op =>
      have hv : (op || cs.any fun c => known (depthsOf df j) c.2) = true := hv
      cases op with
      | true => rfl
      | false =>
        rw [Bool.false_or, List.any_eq_true] at hv
        obtain ⟨e0, hc, hk2⟩ := hv
        obtain ⟨k1, k2⟩ := depN_known hk2 (Nat.le_of_lt hj)
        show (match bestC (depthsOf df df.length) cs with
          | some c => D.tup [.int c.1, simpN a df (depthsOf df df.length) c.2]
          | none => .non) = (match bestC (depthsOf df df.length) cs with
          | some e => D.tup [.int e.1, simpN c df (depthsOf df df.length) e.2]
          | none => .non)
        rcases best_ok (depthsOf df df.length) cs with ⟨_, h2⟩ | ⟨e, h3, h4, h5, h6⟩
        · rw [h2 e0 hc] at k1
          cases k1
        · rw [h3]
          have := h6 e0 hc k1
          show D.tup [_, _] = D.tup [_, _]
          rw [simpN_eq S a c e.2 (cl _ (List.mem_map_of_mem h4)) h5 (by omega) (by omega)]
theorem depN_len {df : Defs} {p : Part} (h : known (depthsOf df df.length) p = true) : depN (depthsOf df df.length) p ≤ df.length := (depN_known h (Nat.le_refl _)).2
/-- fields, each with its value or without one -/
def pickO (x : Field × Option D) : Option (Int × D) := x.2.map fun v => (x.1.id, v)
theorem picks_eq {fos : List (Field × Option D)} : fos.filterMap pickO = ((fos.map (·.1)).zip (fos.map (·.2))).filterMap pickO := by
  congr 1
  induction fos with
  | nil => rfl
  | cons x fos ih => rw [List.map_cons, List.map_cons, List.zip_cons_cons, ← ih]
theorem picks_ids : ∀ fos : List (Field × Option D), ((fos.filterMap pickO).map (·.1)).Sublist ((fos.map (·.1)).map (·.id))
  | [] => .slnil
  | x :: fos => by
    have ih := picks_ids fos
    rw [List.map_cons, List.map_cons]
    cases e : pickO x with
    | none => rw [List.filterMap_cons_none e]; exact ih.cons _
    | some q =>
      rw [List.filterMap_cons_some e, List.map_cons]
      have : q.1 = x.1.id := by
        unfold pickO at e
        rw [Option.map_eq_some_iff] at e
        obtain ⟨v, _, rfl⟩ := e
        rfl
      rw [this]
      exact ih.cons_cons _
theorem rcd_hasO {df : Defs} {n : Nat} {s : Str} {fs : List Field} {rt : List Int} (hb : bodyOf df s = some (.rcd fs rt)) (w : (Body.rcd fs rt).wf n) {fos : List (Field × Option D)} (hf : fos.map (·.1) = fs) (h : ∀ x ∈ fos, ∀ v, x.2 = some v → has df x.1.part v = true) (hn : ∀ x ∈ fos, x.2 = none → x.1.mode = Str.ofString "optional") :
    has df (.name s) (.tup ((fos.filterMap pickO).map entT)) = true ∧ (Body.rcd fs rt).kids (.tup ((fos.filterMap pickO).map entT)) = some ((fos.filterMap pickO).map fun e => ((look (Body.rcd fs rt).rows e.1).getD (.name (Str.ofString "")), e.2)) := by
  have sub := picks_ids fos
  rw [hf] at sub
  have hk : (Body.rcd fs rt).kids (.tup ((fos.filterMap pickO).map entT)) = some ((fos.filterMap pickO).map fun e => ((look (Body.rcd fs rt).rows e.1).getD (.name (Str.ofString "")), e.2)) := by
    rw [kids_r, entsD_map, Option.bind_some, if_pos]
    unfold rcdOk
    rw [Bool.and_eq_true, Bool.and_eq_true]
    refine ⟨⟨asI_of (w.1.live.1.sublist sub), List.all_eq_true.mpr fun x hx => List.contains_iff_mem.mpr (sub.subset hx)⟩, List.all_eq_true.mpr fun f hf2 => ?_⟩
    rw [Bool.or_eq_true]
    rw [← hf, List.mem_map] at hf2
    obtain ⟨x, hx, rfl⟩ := hf2
    cases e : x.2 with
    | none => exact .inl (by rw [hn x hx e]; simp)
    | some v =>
      refine .inr (List.contains_iff_mem.mpr ?_)
      exact List.mem_map_of_mem (f := fun e : Int × D => e.1) (List.mem_filterMap.mpr ⟨x, hx, show pickO x = some (x.1.id, v) by unfold pickO; rw [e]; rfl⟩)
  refine ⟨?_, hk⟩
  rw [has_body hb, hk]
  refine List.all_eq_true.mpr fun k hk => ?_
  rw [List.mem_map] at hk
  obtain ⟨e, he, rfl⟩ := hk
  rw [List.mem_filterMap] at he
  obtain ⟨x, hx, e1⟩ := he
  unfold pickO at e1
  rw [Option.map_eq_some_iff] at e1
  obtain ⟨v, e2, rfl⟩ := e1
  have hm : x.1 ∈ fs := by rw [← hf]; exact List.mem_map_of_mem hx
  have := look_mem w.nd (show (x.1.id, x.1.part) ∈ (Body.rcd fs rt).rows from List.mem_map_of_mem (f := fun f : Field => (f.id, f.part)) hm)
  show has df ((look (Body.rcd fs rt).rows x.1.id).getD _) v = true
  rw [this]
  exact h x hx v e2
def valT (k left : Nat) : Nat := (left + 5) * szA k + 41
theorem valT_s (k left : Nat) : valT k (left + 1) = valT k left + szA k := by
  unfold valT
  rw [show left + 1 + 5 = (left + 5) + 1 by omega, Nat.succ_mul]
  omega
structure ValOk (df : Defs) (p : Part) (k left u : Nat) (v : D) : Prop where
  has : has df p v = true
  val : dVal v = true
  dep : dDep v ≤ 2 * (left + 4)
  m : dM v ≤ valT k left * (1 + 3 * u)
theorem ValOk.simple {k : Nat} {df : Defs} (S : SchOk k df) {p : Part} (hp : p.inD df) (n : Nat) (hn : depN (depthsOf df df.length) p ≤ n) (u : Nat) : ValOk df p k 0 u (simpN n df (depthsOf df df.length) p) := by
  have hk : known (depthsOf df df.length) p = true := by
    cases p with
    | leaf L => rfl
    | name s => exact S.all s hp
  have h4 := S.four
  have hd := depN_len hk
  rw [simpN_eq S.toSch n 4 p hp hk hn (by omega)]
  have a := simp_ok S.toSch 4 p hp hk (by omega)
  have b := simp_m S 4 p hp hk (by omega)
  refine ⟨a.has, a.val, a.dep, Nat.le_trans b ?_⟩
  have : valT k 0 * 1 ≤ valT k 0 * (1 + 3 * u) := Nat.mul_le_mul_left _ (by omega)
  have e : valT k 0 = 5 * szA k + 41 := by unfold valT; rw [Nat.zero_add]
  omega
theorem ValOk.leaf {df : Defs} {L : Leaf} {k left u : Nat} {v : D} (hL : L.wf) (h : L.has v = true) (hv : dVal v = true) : ValOk df (.leaf L) k left u v := by
  refine ⟨by rw [has_leaf]; exact h, hv, by rw [has_leaf_dep h]; exact Nat.zero_le _, ?_⟩
  have := has_m hL h
  have h2 : valT k left * 1 ≤ valT k left * (1 + 3 * u) := Nat.mul_le_mul_left _ (by omega)
  have h3 : 41 ≤ valT k left := by unfold valT; omega
  omega
theorem picks_m {T : Nat} {fos : List (Field × Option D)} {x : Field × Option D} {b : Nat} (h : dML ((fos.filterMap pickO).map entT) ≤ b) {v : D} (hx : x.2 = some v) : dML (((fos ++ [x]).filterMap pickO).map entT) ≤ b + 9 + dM v := by
  have e : pickO x = some (x.1.id, v) := by unfold pickO; rw [hx]; rfl
  rw [fmap_some e, List.map_append, dML_app]
  show _ + dML ([(x.1.id, v)].map entT) ≤ _
  rw [dML_ent]
  show _ + (9 + dM v + 0) ≤ _
  omega

def rd_is_ascending : DTS :=
  (dRet (dB (dAll fun bs => bs.all id) (dCons (dLc (dRng1 (dCons (dOp (dPure2 dSub) (dB dLen (dCons (dVar 0) dNil)) (dC (.int 1))) dNil)) (dName 1) dYes (dOp (dPure2 dLt) (dOp dIx (dVar 0) (dVar 1)) (dOp dIx (dVar 0) (dOp (dPure2 dAdd) (dVar 1) (dC (.int 1))))) [1]) dNil)))
def sq_is_ascending : DSp := spOf 1 1 rd_is_ascending

/-! ### rows of ids -/
def asc : List Int → Bool
  | x :: y :: r => decide (x < y) && asc (y :: r)
  | _ => true
def idB (x : Int) : Bool := decide (1 ≤ x) && decide (x ≤ 99)
def idsB (xs : List Int) : Bool := asc xs && xs.all idB
def idsP : Option Int → List Int → Bool
  | _, [] => true
  | none, x :: r => idB x && idsP (some x) r
  | some p, x :: r => idB x && (decide (p < x) && idsP (some x) r)
theorem idsP_some : ∀ (xs : List Int) (p : Int), idsP (some p) xs = (asc (p :: xs) && xs.all idB)
  | [], p => rfl
  | x :: r, p => by
    show (idB x && (decide (p < x) && idsP (some x) r)) = ((decide (p < x) && asc (x :: r)) && (idB x && r.all idB))
    rw [idsP_some r x]
    cases idB x <;> cases decide (p < x) <;> cases asc (x :: r) <;> cases r.all idB <;> rfl
theorem idsP_none (xs : List Int) : idsP none xs = idsB xs := by
  cases xs with
  | nil => rfl
  | cons x r =>
    show (idB x && idsP (some x) r) = (asc (x :: r) && (idB x && r.all idB))
    rw [idsP_some r x]
    cases idB x <;> cases asc (x :: r) <;> cases r.all idB <;> rfl
theorem asc_of : ∀ {xs : List Int}, xs.Pairwise (· < ·) → asc xs = true
  | [], _ => rfl
  | [x], _ => rfl
  | x :: y :: r, h => by
    rw [List.pairwise_cons] at h
    show (decide (x < y) && asc (y :: r)) = true
    rw [asc_of h.2, decide_eq_true (h.1 y List.mem_cons_self)]
    rfl
theorem idsB_of {xs : List Int} (h : Ids xs) : idsB xs = true := by
  unfold idsB
  rw [asc_of h.1, Bool.true_and, List.all_eq_true]
  intro x hx
  have := h.2 x hx
  unfold idB
  rw [decide_eq_true this.1, decide_eq_true this.2]
  rfl
theorem asc_range : ∀ xs : List Int, (List.range (xs.length - 1)).all (fun j => decide (xs.getD j 0 < xs.getD (j + 1) 0)) = asc xs
  | [] => rfl
  | [x] => rfl
  | x :: y :: r => by
    have ih := asc_range (y :: r)
    show (List.range (r.length + 1)).all _ = (decide (x < y) && asc (y :: r))
    rw [List.range_succ_eq_map, List.all_cons, List.all_map, ← ih]
    rfl
theorem at_int {xs : List Int} {j : Nat} (h : j < xs.length) : atI (xs.map D.int) (j : Int) = some (.int (xs.getD j 0)) := by
  refine atI_nat ?_
  rw [List.getElem?_map, List.getD_eq_getElem?_getD, List.getElem?_eq_getElem h]
  rfl
theorem at_str {xs : List Str} {j : Nat} (h : j < xs.length) : atI (xs.map D.str) (j : Int) = some (.str (xs.getD j ⟨#[]⟩)) := by
  refine atI_nat ?_
  rw [List.getElem?_map, List.getD_eq_getElem?_getD, List.getElem?_eq_getElem h]
  rfl
/-- strings that ascend -/
def ascS (ss : List Str) : Bool := (List.range (ss.length - 1)).all fun j => decide ((ss.getD j ⟨#[]⟩).cps.toList < (ss.getD (j + 1) ⟨#[]⟩).cps.toList)
def sp_is_ascending : DSp := fun ds G Q _ => (∃ xs : List Int, ds = [.tup (xs.map .int)] ∧ xs.length ≤ 2000 ∧ Q (.bl (asc xs)) G) ∨ ∃ ss : List Str, ds = [.tup (ss.map .str)] ∧ ss.length ≤ 2000 ∧ Q (.bl (ascS ss)) G
theorem abs_is_ascending (ds : List D) (G : Gp) (Q : D → Gp → Prop) (E : DXK) (h : sp_is_ascending ds G Q E) : sq_is_ascending ds G Q E := by
  obtain ⟨xs, rfl, hs, q⟩ | ⟨ss, rfl, hs, q⟩ := h
  · simp! only [↓sq_is_ascending, ↓rd_is_ascending]
    refine ⟨by omega, by omega, ?_⟩
    have hn : ((xs.length : Int) - 1).toNat = xs.length - 1 := by omega
    rw [hn]
    refine comp_all (fun x => match x with | .int i => .bl (decide (xs.getD i.toNat 0 < xs.getD (i.toNat + 1) 0)) | _ => .non) trivial _ (by rw [rangeD_len, szL]; omega) (fun x hx K1 hK => ?_) ?_
    · unfold rangeD at hx
      rw [List.mem_map] at hx
      obtain ⟨j, hj, rfl⟩ := hx
      rw [List.mem_range] at hj
      have e1 : (0 : Int) + (j : Nat) = ((j : Nat) : Int) := Int.zero_add _
      have e2 : ((j : Nat) : Int) + 1 = (((j + 1 : Nat)) : Int) := rfl
      simp only [e1] at hK
      simp! only [e1]
      rw [at_int (by omega)]
      try simp!
      rw [e2, at_int (by omega)]
      exact hK
    · have e1 : (rangeD 0 (xs.length - 1)).map (fun x => match x with | .int i => D.bl (decide (xs.getD i.toNat 0 < xs.getD (i.toNat + 1) 0)) | _ => .non) = (List.range (xs.length - 1)).map fun j => D.bl (decide (xs.getD j 0 < xs.getD (j + 1) 0)) := by
        unfold rangeD
        rw [List.map_map]
        refine List.map_congr_left fun j _ => ?_
        show D.bl _ = D.bl _
        have e2 : ((0 : Int) + (j : Nat)).toNat = j := by omega
        rw [e2]
      rw [e1]
      try simp!
      rw [bls_map]
      try simp!
      rw [List.all_map]
      refine rt_same ?_
      rw [← asc_range xs] at q
      exact q
  · simp! only [↓sq_is_ascending, ↓rd_is_ascending]
    refine ⟨by omega, by omega, ?_⟩
    have hn : ((ss.length : Int) - 1).toNat = ss.length - 1 := by omega
    rw [hn]
    refine comp_all (fun x => match x with | .int i => .bl (decide ((ss.getD i.toNat ⟨#[]⟩).cps.toList < (ss.getD (i.toNat + 1) ⟨#[]⟩).cps.toList)) | _ => .non) trivial _ (by rw [rangeD_len, szL]; omega) (fun x hx K1 hK => ?_) ?_
    · unfold rangeD at hx
      rw [List.mem_map] at hx
      obtain ⟨j, hj, rfl⟩ := hx
      rw [List.mem_range] at hj
      have e1 : (0 : Int) + (j : Nat) = ((j : Nat) : Int) := Int.zero_add _
      have e2 : ((j : Nat) : Int) + 1 = (((j + 1 : Nat)) : Int) := rfl
      simp only [e1] at hK
      simp! only [e1]
      rw [at_str (by omega)]
      try simp!
      rw [e2, at_str (by omega)]
      exact hK
    · have e1 : (rangeD 0 (ss.length - 1)).map (fun x => match x with | .int i => D.bl (decide ((ss.getD i.toNat ⟨#[]⟩).cps.toList < (ss.getD (i.toNat + 1) ⟨#[]⟩).cps.toList)) | _ => .non) = (List.range (ss.length - 1)).map fun j => D.bl (decide ((ss.getD j ⟨#[]⟩).cps.toList < (ss.getD (j + 1) ⟨#[]⟩).cps.toList)) := by
        unfold rangeD
        rw [List.map_map]
        refine List.map_congr_left fun j _ => ?_
        show D.bl _ = D.bl _
        have e2 : ((0 : Int) + (j : Nat)).toNat = j := by omega
        rw [e2]
      rw [e1]
      try simp!
      rw [bls_map]
      try simp!
      rw [List.all_map]
      exact rt_same q

def rd_are_ids : DTS :=
  (dRet (dAnd (dCall sp_is_ascending (dCons (dVar 0) dNil)) (dB (dAll fun bs => bs.all id) (dCons (dLc (dIt (dVar 0)) (dName 1) dYes (dChain (dPure2 dLe) (dPure2 dLe) (dC (.int 1)) (dVar 1) (dC (.int 99))) [1]) dNil))))
def sq_are_ids : DSp := spOf 1 1 rd_are_ids

def sp_are_ids : DSp := fun ds G Q _ => ∃ xs : List Int, ds = [.tup (xs.map .int)] ∧ xs.length ≤ 2000 ∧ Q (.bl (idsB xs)) G
theorem abs_are_ids (ds : List D) (G : Gp) (Q : D → Gp → Prop) (E : DXK) (h : sp_are_ids ds G Q E) : sq_are_ids ds G Q E := by
  obtain ⟨xs, rfl, hs, q⟩ := h
  simp! only [↓sq_are_ids, ↓rd_are_ids]
  refine .inl ⟨xs, rfl, hs, ?_⟩
  try simp!
  refine dCond2 (fun a => ?_) (fun a => ?_)
  · try simp!
    refine comp_all (fun x => match x with | .int i => .bl (idB i) | _ => .non) trivial _ (by rw [List.length_map, szL]; omega) (fun x hx K1 hK => ?_) ?_
    · rw [List.mem_map] at hx
      obtain ⟨c, _, rfl⟩ := hx
      try simp!
      simp only [idB] at hK
      refine dCond2 (fun b => ?_) (fun b => ?_)
      · simp only [b, Bool.true_and] at hK
        exact hK
      · simp only [b, Bool.false_and] at hK
        exact hK
    · rw [List.map_map]
      try simp!
      rw [show ((fun x => match x with | D.int i => D.bl (idB i) | _ => .non) ∘ D.int) = fun c : Int => D.bl (idB c) from rfl, bls_map]
      try simp!
      rw [List.all_map]
      simp only [idsB, a, Bool.true_and] at q
      exact rt_same q
  · simp only [idsB, a, Bool.false_and] at q
    rw [a]
    exact rt_same q

def rd_are_live_and_retired : DTS :=
  (dSeq (dIfS (dOrT (dNotT (dTruth (dCall sp_are_ids (dCons (dVar 0) dNil)))) (dNotT (dTruth (dCall sp_are_ids (dCons (dVar 1) dNil)))))
  (dRet (dC (.bl false)))
  dNext)
  (dRet (dNot (dB (dAll fun bs => bs.any id) (dCons (dLc (dIt (dVar 0)) (dName 2) dYes (dOp (dInR false) (dVar 2) (dVar 1)) [2]) dNil)))))
def sq_are_live_and_retired : DSp := spOf 2 1 rd_are_live_and_retired

def lrB (sy rt : List Int) : Bool := idsB sy && (idsB rt && !(sy.any fun x => rt.contains x))
def sp_are_live_and_retired : DSp := fun ds G Q _ => ∃ sy rt : List Int, ds = [.tup (sy.map .int), .tup (rt.map .int)] ∧ sy.length ≤ 2000 ∧ rt.length ≤ 2000 ∧ Q (.bl (lrB sy rt)) G
theorem abs_are_live_and_retired (ds : List D) (G : Gp) (Q : D → Gp → Prop) (E : DXK) (h : sp_are_live_and_retired ds G Q E) : sq_are_live_and_retired ds G Q E := by
  obtain ⟨sy, rt, rfl, h1, h2, q⟩ := h
  simp! only [↓sq_are_live_and_retired, ↓rd_are_live_and_retired]
  refine ⟨sy, rfl, h1, ?_⟩
  try simp!
  cases a : idsB sy with
  | false =>
    simp only [lrB, a, Bool.false_and] at q
    exact rt_same q
  | true =>
    try simp!
    refine ⟨rt, rfl, h2, ?_⟩
    try simp!
    cases b : idsB rt with
    | false =>
      simp only [lrB, a, b, Bool.false_and, Bool.and_false] at q
      exact rt_same q
    | true =>
      simp only [lrB, a, b, Bool.true_and] at q
      try simp!
      refine comp_all (fun x => match x with | .int i => .bl (rt.contains i) | _ => .non) trivial _ (by rw [List.length_map, szL]; omega) (fun x hx K1 hK => ?_) ?_
      · rw [List.mem_map] at hx
        obtain ⟨c, _, rfl⟩ := hx
        try simp! only [pl_ints, dep_ints, dEqL_any]
        exact hK
      · rw [List.map_map]
        try simp!
        rw [show ((fun x => match x with | D.int i => D.bl (rt.contains i) | _ => .non) ∘ D.int) = fun c : Int => D.bl (rt.contains c) from rfl, bls_map]
        try simp!
        rw [List.any_map]
        exact rt_same q

def rd_are_alternatives : DTS :=
  (dSeq (dIfS (dNotT (dTruth (dCall sp_are_live_and_retired (dCons (dVar 0) (dCons (dVar 1) dNil)))))
  (dRet (dC (.bl false)))
  dNext)
  (dRet (dOr (dVar 2) (dAnd (dOp (dEqR) (dB dLen (dCons (dVar 1) dNil)) (dC (.int 0))) (dOp (dPure2 dGt) (dB dLen (dCons (dVar 0) dNil)) (dC (.int 0)))))))
def sq_are_alternatives : DSp := spOf 3 0 rd_are_alternatives

def alB (sy rt : List Int) (op : Bool) : Bool := lrB sy rt && (op || (decide (rt.length = 0) && decide (0 < sy.length)))
def sp_are_alternatives : DSp := fun ds G Q _ => ∃ (sy rt : List Int) (op : Bool), ds = [.tup (sy.map .int), .tup (rt.map .int), .bl op] ∧ sy.length ≤ 2000 ∧ rt.length ≤ 2000 ∧ Q (.bl (alB sy rt op)) G
theorem len_z (n : Nat) : (((n : Int)) == 0) = decide (n = 0) := by
  cases n with
  | zero => rfl
  | succ n => exact beq_eq_false_iff_ne.mpr (by omega)
theorem len_p (n : Nat) : decide (0 < (n : Int)) = decide (0 < n) := decide_eq_decide.mpr (by omega)
theorem abs_are_alternatives (ds : List D) (G : Gp) (Q : D → Gp → Prop) (E : DXK) (h : sp_are_alternatives ds G Q E) : sq_are_alternatives ds G Q E := by
  obtain ⟨sy, rt, op, rfl, h1, h2, q⟩ := h
  simp! only [↓sq_are_alternatives, ↓rd_are_alternatives]
  refine ⟨sy, rt, rfl, h1, h2, ?_⟩
  try simp!
  cases a : lrB sy rt with
  | false =>
    simp only [alB, a, Bool.false_and] at q
    exact rt_same q
  | true =>
    simp only [alB, a, Bool.true_and] at q
    cases op with
    | true =>
      try simp!
      exact rt_same q
    | false =>
      simp only [Bool.false_or] at q
      try simp! only [len_z, len_p]
      refine dCond2 (fun b => ?_) (fun b => ?_)
      · simp only [b, Bool.true_and] at q
        exact rt_same q
      · simp only [b, Bool.false_and] at q
        rw [b]
        exact rt_same q

def rd_is_valid_leaf : DTS :=
  (dSeq (dIfS (dTest (dOp (dEqR) (dOp dIx (dVar 0) (dC (.int 0))) (dC (.str (Str.ofString "choice")))))
  (dSeq (dAsg (dVar 0) (dTupG 4 (dGcons (dName 1) (dGcons (dName 2) (dGcons (dName 3) (dGcons (dName 4) dGnil))))))
  (dRet (dCall sp_are_alternatives (dCons (dVar 2) (dCons (dVar 3) (dCons (dVar 4) dNil))))))
  dNext)
  (dSeq (dAsg (dVar 0) (dTupG 3 (dGcons (dName 5) (dGcons (dName 6) (dGcons (dName 7) dGnil)))))
  (dSeq (dIfS (dTest (dOp (dEqR) (dVar 5) (dC (.str (Str.ofString "number")))))
  (dRet (dChain3 (dPure2 dLe) (dPure2 dLe) (dPure2 dLe) (dUn (dPure1 dNeg) (dC (.int 1000000000000000))) (dVar 6) (dVar 7) (dC (.int 1000000000000000))))
  dNext)
  (dRet (dChain3 (dPure2 dLe) (dPure2 dLe) (dPure2 dLe) (dC (.int 0)) (dVar 6) (dVar 7) (dC (.int 40)))))))
def sq_is_valid_leaf : DSp := spOf 1 7 rd_is_valid_leaf

def Leaf.okB : Leaf → Bool
  | .number lo hi => decide (-1000000000000000 ≤ lo) && (decide (lo ≤ hi) && decide (hi ≤ 1000000000000000))
  | .text lo hi => decide (0 ≤ lo) && (decide (lo ≤ hi) && decide (hi ≤ 40))
  | .choice sy rt op => alB sy rt op
def Leaf.small : Leaf → Prop
  | .choice sy rt _ => sy.length ≤ 2000 ∧ rt.length ≤ 2000
  | _ => True
theorem Leaf.wf.okB {L : Leaf} (h : L.wf) : L.okB = true ∧ L.small := by
  cases L with
  | number lo hi =>
    obtain ⟨h1, h2, h3⟩ := h
    simp [Leaf.okB, Leaf.small, h1, h2, h3]
  | text lo hi =>
    obtain ⟨h1, h2, h3⟩ := h
    simp [Leaf.okB, Leaf.small, h1, h2, h3]
  | choice sy rt op =>
    obtain ⟨h1, h2, h3, h4⟩ := h
    have l1 := h1.len
    have l2 := h2.len
    refine ⟨?_, by omega, by omega⟩
    have e : (sy.any fun x => rt.contains x) = false := by
      rw [List.any_eq_false]
      intro x hx z
      exact h3 x hx (by simpa using z)
    show alB sy rt op = true
    unfold alB lrB
    rw [idsB_of h1, idsB_of h2, e]
    cases op with
    | true => rfl
    | false =>
      obtain ⟨e1, e2⟩ := h4 rfl
      have := List.length_pos_iff.mpr e2
      subst e1
      simp [this]
def sp_is_valid_leaf : DSp := fun ds G Q _ => ∃ L : Leaf, ds = [L.d] ∧ L.small ∧ Q (.bl L.okB) G
theorem abs_is_valid_leaf (ds : List D) (G : Gp) (Q : D → Gp → Prop) (E : DXK) (h : sp_is_valid_leaf ds G Q E) : sq_is_valid_leaf ds G Q E := by
  obtain ⟨L, rfl, hs, q⟩ := h
  cases L with
  | number lo hi =>
    simp! only [↓sq_is_valid_leaf, ↓rd_is_valid_leaf, Leaf.d]
    simp only [Leaf.okB] at q
    refine dCond2 (fun a => ?_) (fun a => ?_)
    · simp only [a, Bool.true_and] at q
      refine dCond2 (fun b => ?_) (fun b => ?_)
      · simp only [b, Bool.true_and] at q
        exact rt_same q
      · simp only [b, Bool.false_and] at q
        exact rt_same q
    · simp only [a, Bool.false_and] at q
      exact rt_same q
  | text lo hi =>
    simp! only [↓sq_is_valid_leaf, ↓rd_is_valid_leaf, Leaf.d]
    simp only [Leaf.okB] at q
    refine dCond2 (fun a => ?_) (fun a => ?_)
    · simp only [a, Bool.true_and] at q
      refine dCond2 (fun b => ?_) (fun b => ?_)
      · simp only [b, Bool.true_and] at q
        exact rt_same q
      · simp only [b, Bool.false_and] at q
        exact rt_same q
    · simp only [a, Bool.false_and] at q
      exact rt_same q
  | choice sy rt op =>
    simp! only [↓sq_is_valid_leaf, ↓rd_is_valid_leaf, Leaf.d]
    exact ⟨sy, rt, op, rfl, hs.1, hs.2, rt_same q⟩

def rd_join_leaf : DTS :=
  (dSeq (dIfS (dTest (dOp (dNeR) (dOp dIx (dVar 0) (dC (.int 0))) (dOp dIx (dVar 1) (dC (.int 0)))))
  (dRet (dC .non))
  dNext)
  (dSeq (dIfS (dTest (dOp (dNeR) (dOp dIx (dVar 0) (dC (.int 0))) (dC (.str (Str.ofString "choice")))))
  (dRet (dTup (dCons (dOp dIx (dVar 0) (dC (.int 0))) (dCons (dB dMin2 (dCons (dOp dIx (dVar 0) (dC (.int 1))) (dCons (dOp dIx (dVar 1) (dC (.int 1))) dNil))) (dCons (dB dMax2 (dCons (dOp dIx (dVar 0) (dC (.int 2))) (dCons (dOp dIx (dVar 1) (dC (.int 2))) dNil))) dNil)))))
  dNext)
  (dSeq (dAsg (dB dTupleC (dCons (dSortU (dOp dIx (dVar 0) (dC (.int 2))) (dOp dIx (dVar 1) (dC (.int 2)))) dNil)) (dName 2))
  (dSeq (dAsg (dB dTupleC (dCons (dLc (dIt (dSortU (dOp dIx (dVar 0) (dC (.int 1))) (dOp dIx (dVar 1) (dC (.int 1))))) (dName 4) (dTest (dOp (dInR true) (dVar 4) (dVar 2))) (dVar 4) [4]) dNil)) (dName 3))
  (dRet (dTup (dCons (dC (.str (Str.ofString "choice"))) (dCons (dVar 3) (dCons (dVar 2) (dCons (dOr (dOp dIx (dVar 0) (dC (.int 3))) (dOp dIx (dVar 1) (dC (.int 3)))) dNil))))))))))
def sq_join_leaf : DSp := spOf 2 3 rd_join_leaf

def Leaf.kind : Leaf → Nat
  | .number _ _ => 0
  | .text _ _ => 1
  | .choice _ _ _ => 2
/-! ### the leaf that two leaves are joined to (point 27) -/
def Joined (xs ys ns : List Int) : Prop := ns.Pairwise (· < ·) ∧ ∀ k, k ∈ ns ↔ k ∈ xs ∨ k ∈ ys
inductive IsJoin : Leaf → Leaf → Leaf → Prop
  | number (a b c e : Int) : IsJoin (.number a b) (.number c e) (.number (if c < a then c else a) (if e > b then e else b))
  | text (a b c e : Int) : IsJoin (.text a b) (.text c e) (.text (if c < a then c else a) (if e > b then e else b))
  | choice {s r s2 r2 u v : List Int} (o o2 : Bool) : Joined r r2 v → Joined s s2 u → IsJoin (.choice s r o) (.choice s2 r2 o2) (.choice (u.filter fun k => !v.contains k) v (o || o2))
theorem asc_one : ∀ {xs ys : List Int}, xs.Pairwise (· < ·) → ys.Pairwise (· < ·) → (∀ k, k ∈ xs ↔ k ∈ ys) → xs = ys
  | [], [], _, _, _ => rfl
  | [], y :: ys, _, _, h => absurd ((h y).mpr List.mem_cons_self) (by simp)
  | x :: xs, [], _, _, h => absurd ((h x).mp List.mem_cons_self) (by simp)
  | x :: xs, y :: ys, hx, hy, h => by
    rw [List.pairwise_cons] at hx hy
    have e : x = y := by
      rcases List.mem_cons.mp ((h x).mp List.mem_cons_self) with e | m1
      · exact e
      · rcases List.mem_cons.mp ((h y).mpr List.mem_cons_self) with e | m2
        · exact e.symm
        · have a := hy.1 x m1
          have b := hx.1 y m2
          omega
    subst e
    have ht : ∀ k, k ∈ xs ↔ k ∈ ys := fun k => by
      have hk := h k
      rw [List.mem_cons, List.mem_cons] at hk
      constructor
      · intro m
        rcases hk.mp (.inr m) with e | m2
        · have := hx.1 k m; omega
        · exact m2
      · intro m
        rcases hk.mpr (.inr m) with e | m2
        · have := hy.1 k m; omega
        · exact m2
    rw [asc_one hx.2 hy.2 ht]
theorem Joined.one {xs ys a b : List Int} (h : Joined xs ys a) (k : Joined xs ys b) : a = b := asc_one h.1 k.1 fun j => (h.2 j).trans (k.2 j).symm
theorem IsJoin.one {L M J K : Leaf} (h : IsJoin L M J) (k : IsJoin L M K) : J = K := by
  cases h with
  | number a b c e => cases k; rfl
  | text a b c e => cases k; rfl
  | choice o o2 h1 h2 =>
    cases k with
    | choice _ _ k1 k2 => rw [h1.one k1, h2.one k2]
theorem plL_intsJ : ∀ v : List Int, dPlL (v.map .int) = true
  | [] => rfl
  | _ :: v => plL_intsJ v
def sp_join_leaf : DSp := fun ds G Q _ => ∃ L M : Leaf, ds = [L.d, M.d] ∧ L.size + M.size ≤ 15 ∧ (L.kind ≠ M.kind → Q .non G) ∧ ∀ J, IsJoin L M J → Q J.d G
theorem abs_join_leaf (ds : List D) (G : Gp) (Q : D → Gp → Prop) (E : DXK) (h : sp_join_leaf ds G Q E) : sq_join_leaf ds G Q E := by
  obtain ⟨L, M, rfl, hs, q0, q1⟩ := h
  cases L with
  | number a b =>
    cases M with
    | number c e =>
      simp! only [↓sq_join_leaf, ↓rd_join_leaf, Leaf.d]
      exact rt_same (q1 _ (.number a b c e))
    | text c e =>
      simp! only [↓sq_join_leaf, ↓rd_join_leaf, Leaf.d]
      exact rt_same (q0 (fun z => by cases z))
    | choice s r o =>
      simp! only [↓sq_join_leaf, ↓rd_join_leaf, Leaf.d]
      exact rt_same (q0 (fun z => by cases z))
  | text a b =>
    cases M with
    | text c e =>
      simp! only [↓sq_join_leaf, ↓rd_join_leaf, Leaf.d]
      exact rt_same (q1 _ (.text a b c e))
    | number c e =>
      simp! only [↓sq_join_leaf, ↓rd_join_leaf, Leaf.d]
      exact rt_same (q0 (fun z => by cases z))
    | choice s r o =>
      simp! only [↓sq_join_leaf, ↓rd_join_leaf, Leaf.d]
      exact rt_same (q0 (fun z => by cases z))
  | choice s r o =>
    cases M with
    | number c e =>
      simp! only [↓sq_join_leaf, ↓rd_join_leaf, Leaf.d]
      exact rt_same (q0 (fun z => by cases z))
    | text c e =>
      simp! only [↓sq_join_leaf, ↓rd_join_leaf, Leaf.d]
      exact rt_same (q0 (fun z => by cases z))
    | choice s2 r2 o2 =>
      have hs : s.length + r.length + (s2.length + r2.length) ≤ 15 := hs
      have ti : ∀ xs : List Int, tupI (.tup (xs.map .int)) = some xs := fun xs => ints_map xs
      simp! only [↓sq_join_leaf, ↓rd_join_leaf, Leaf.d, ti]
      refine ⟨by omega, by omega, fun v v1 v2 v3 => ⟨by omega, by omega, fun u u1 u2 u3 => ?_⟩⟩
      have J := q1 _ (.choice o o2 (s := s) (s2 := s2) (u := u) ⟨v1, v2⟩ ⟨u1, u2⟩)
      refine comp_map D.int (fun k => !v.contains k) D.int trivial u [] (by rw [szL, List.length_nil]; omega) (fun k hk K1 K0 k1 k0 => ?_) ?_
      · try simp! only [dEqL_any]
        refine ⟨plL_intsJ v, ?_⟩
        cases c : v.contains k with
        | true => exact k0 (by rw [c]; rfl)
        | false => exact k1 (by rw [c]; rfl)
      · simp! only [List.nil_append]
        cases o with
        | true => exact rt_same J
        | false =>
          cases o2 with
          | true => exact rt_same J
          | false => exact rt_same J

def rd__law_cell : DTS :=
  (dSeq (dIfS (dTest (dOp (dPure2 dLt) (dVar 1) (dB dLen (dCons (dVar 0) dNil))))
  (dRet (dOp dIx (dVar 0) (dVar 1)))
  dNext)
  (dRet (dC (.int 0))))
def sq__law_cell : DSp := spOf 2 0 rd__law_cell

theorem abs__law_cell (ds : List D) (G : Gp) (Q : D → Gp → Prop) (E : DXK) (h : sp__law_cell ds G Q E) : sq__law_cell ds G Q E := by
  obtain ⟨ns, k, rfl, q⟩ := h
  simp! only [↓sq__law_cell, ↓rd__law_cell]
  refine dCond2 (fun a => ?_) (fun _ => rt_same (q 0))
  have a := of_decide_eq_true a
  obtain ⟨v, e, m⟩ := at_ok (ns.map D.int) (k : Int) (by omega) (by rw [List.length_map]; exact a)
  try simp! only [e]
  rw [List.mem_map] at m
  obtain ⟨n, _, rfl⟩ := m
  exact rt_same (q n)

def rd__law_draws : DTS :=
  (dSeq (dAsg (dRef dNil) (dName 1))
  (dSeq (dAsg (dB dAbs (dCons (dVar 0) dNil)) (dName 2))
  (dSeq (dAsg (dOp (dPure2 dMod) (dB dIntC (dCons (dVar 2) dNil)) (dC (.int 2147483647))) (dName 3))
  (dSeq (dAsg (dOp (dPure2 dGe) (dVar 2) (dOp (dPure2 dPow) (dC (.int 10)) (dC (.int 18)))) (dName 4))
  (dSeq (dFor (dRng1 (dCons (dC (.int 160)) dNil)) (dName 5)
  (dIfS (dAndT (dTruth (dVar 4)) (dTest (dOp (dPure2 dGt) (dVar 2) (dC (.int 0)))))
  (dSeq (dDrop (dApp (dVar 1) (dOp (dPure2 dMod) (dB dIntC (dCons (dVar 2) dNil)) (dC (.int 1000)))))
  (dAsg (dOp (dPure2 dDiv) (dVar 2) (dC (.int 1000))) (dName 2)))
  (dSeq (dAsg (dOp (dPure2 dMod) (dB dIntC (dCons (dOp (dPure2 dAdd) (dOp (dPure2 dMul) (dVar 3) (dC (.int 48271))) (dC (.int 7919))) dNil)) (dC (.int 2147483647))) (dName 3))
  (dDrop (dApp (dVar 1) (dOp (dPure2 dDiv) (dVar 3) (dC (.int 65536))))))))
  (dRet (dRef (dCons (dC (.int 0)) (dCons (dVar 1) dNil)))))))))
def sq__law_draws : DSp := spOf 1 5 rd__law_draws

theorem abs__law_draws (ds : List D) (G : Gp) (Q : D → Gp → Prop) (E : DXK) (h : sp__law_draws ds G Q E) : sq__law_draws ds G Q E := by
  obtain ⟨i, rfl, q⟩ := h
  simp! only [↓sq__law_draws, ↓rd__law_draws]
  intro p hp
  refine loop_ind (fun ds δ G' => ∃ (ns : List Int) (r m : Int) (g : Bool) (k : Option D), δ = [some (.int i), some (.ref p), some (.int r), some (.int m), some (.bl g), k] ∧ G' = updG G p (.lst (ns.map .int)) ∧ 0 ≤ m ∧ m < 2147483647 ∧ ns.length + ds.length ≤ 160) ?_ ?_ _ _ _
    ⟨[], _, _, _, none, rfl, rfl, Int.emod_nonneg _ (by decide), Int.emod_lt_of_pos _ (by decide), by rw [rangeD_len]; decide⟩
  · rintro x r δ G' K ⟨ns, r1, m, g, k, rfl, rfl, m0, m1, hl⟩ hK
    rw [List.length_cons] at hl
    try simp!
    have h1 : ns.length < 16777216 := by omega
    have one : ∀ n : Int, updG (updG G p (.lst (ns.map .int))) p (.lst (ns.map .int ++ [.int n])) = updG G p (.lst ((ns ++ [n]).map .int)) := fun n => by rw [updG_updG, List.map_append]; rfl
    have go : ∀ (n r2 m2 : Int), 0 ≤ m2 → m2 < 2147483647 → K [some (.int i), some (.ref p), some (.int r2), some (.int m2), some (.bl g), some x] (updG (updG G p (.lst (ns.map .int))) p (.lst (ns.map .int ++ [.int n]))) := fun n r2 m2 a b => by
      rw [one]
      exact hK _ _ ⟨ns ++ [n], _, _, _, _, rfl, rfl, a, b, by rw [List.length_append, List.length_singleton]; omega⟩
    have els : ∀ K2 : Prop, True := fun _ => trivial
    have bnd : ∀ z : Int, 0 ≤ z % 2147483647 ∧ z % 2147483647 < 2147483647 := fun z => ⟨Int.emod_nonneg _ (by decide), Int.emod_lt_of_pos _ (by decide)⟩
    have c1 : (-18446744073709551616 : Int) < m ∧ m < 18446744073709551616 := by omega
    refine dCond2 (fun a => ?_) (fun a => ?_)
    · refine dCond2 (fun b => ?_) (fun b => ?_)
      · try simp! only [h1]
        exact go _ _ _ m0 m1
      · try simp! only [h1, c1]
        exact go _ _ _ (bnd _).1 (bnd _).2
    · try simp! only [h1, c1]
      exact go _ _ _ (bnd _).1 (bnd _).2
  · rintro δ G' ⟨ns, r1, m, g, k, rfl, rfl, m0, m1, hl⟩
    try simp!
    intro p2 hp2
    have n2 : p2 ≠ p := fun z => by subst z; rw [updG_same] at hp2; cases hp2
    have hG : G p2 = none := by rw [updG_ne n2] at hp2; exact hp2
    refine ⟨.ref p2, updG (updG G p .row) p2 (.drw p 160), ⟨fun a m' e => ?_, .same⟩, q p2 p _ (fun a m' e => ?_) ⟨updG_same, by rw [updG_ne n2.symm, updG_same]⟩ hG⟩
    · by_cases a2 : a = p2
      · subst a2
        rw [updG_same] at e
        cases e
        exact .inr ⟨0, by decide, updG_same⟩
      · rw [updG_ne a2] at e
        by_cases a1 : a = p
        · subst a1
          rw [updG_same] at e
          cases e
          exact .inr ⟨ns, by simpa using hl, by rw [updG_ne n2.symm, updG_same]⟩
        · rw [updG_ne a1] at e
          exact .of (by rw [updG_ne a2, updG_ne a1]; exact e)
    · rw [updG_ne (fun z => by subst z; rw [hG] at e; cases e), updG_ne (fun z => by subst z; rw [hp] at e; cases e)]
      exact e

def rd__law_next : DTS :=
  (dSeq (dAsg (dOp dIx (dVar 0) (dC (.int 0))) (dName 2))
  (dSeq (dAsg (dOp (dPure2 dAdd) (dVar 2) (dC (.int 1))) (dSubL (dVar 0) (dC (.int 0))))
  (dSeq (dAsg (dOp dIx (dVar 0) (dC (.int 1))) (dName 3))
  (dSeq (dIfS (dTest (dOp (dPure2 dGe) (dVar 2) (dB dLen (dCons (dVar 3) dNil))))
  (dRet (dC (.int 0)))
  dNext)
  (dRet (dOp (dPure2 dMod) (dB dIntC (dCons (dOp dIx (dVar 3) (dVar 2)) dNil)) (dVar 1)))))))
def sq__law_next : DSp := spOf 2 2 rd__law_next

def conc__law_next : DSp := fun ds G Q _ => ∃ (d r : Addr) (i many : Int) (ns : List Int), ds = [.ref d, .int many] ∧ d ≠ r ∧ G d = some (.lst [.int i, .ref r]) ∧ G r = some (.lst (ns.map .int)) ∧ 0 ≤ i ∧ 0 < many ∧ ∀ k, 0 ≤ k → k < many → ((ns.length : Int) ≤ i → k = 0) → Q (.int k) (updG G d (.lst [.int (i + 1), .ref r]))
theorem conc_next (ds : List D) (G : Gp) (Q : D → Gp → Prop) (E : DXK) (h : conc__law_next ds G Q E) : sq__law_next ds G Q E := by
  obtain ⟨d, r, i, many, ns, rfl, nr, hd, hr, i0, m0, q⟩ := h
  have ix : ixN [D.int i, D.ref r].length 0 = some 0 := rfl
  have ix2 : ixN (0 + 1 + 1) 0 = some 0 := rfl
  have ix3 : ixN 2 0 = some 0 := rfl
  simp! only [↓sq__law_next, ↓rd__law_next, hd, hr, ix, ix2, ix3, List.set_cons_zero, updG_ne nr.symm, decide_eq_true m0, m0]
  refine dCond2 (fun a => ?_) (fun a => ?_)
  · exact rt_same (q 0 (by decide) m0 fun _ => rfl)
  · have a := of_decide_eq_false a
    obtain ⟨v, e, m⟩ := at_ok (ns.map D.int) i i0 (by rw [List.length_map]; omega)
    rw [List.mem_map] at m
    obtain ⟨n, _, rfl⟩ := m
    try simp! only [e, m0]
    exact rt_same (q _ (Int.emod_nonneg _ (by omega)) (Int.emod_lt_of_pos _ m0) fun z => absurd z (by omega))
theorem next_core {K : KW} (vs : List V) (H : Hp) (Q : VK) (E : XK) {F : Fr} {G : Gp} {Q' : D → Gp → Prop} {d r : Addr} {n : Nat} {many : Int} (R : Rel K F H G) (rv : RepL K F H [.ref d, .int many] vs) (hd : G d = some (.drw r n)) (hr : G r = some .row) (m0 : 0 < many) (m : Nat) (hm : n ≤ m + 1)
    (q : ∀ k, 0 ≤ k → k < many → (n = 0 → k = 0) → Q' (.int k) (updG G d (.drw r m))) (kk : ∀ v H', post K F H G Q' v H' → Q v H') : upSp K sq__law_next vs H Q E := by
  obtain ⟨i, ⟨i0, i1⟩, h1⟩ := R.obj d _ hd
  obtain ⟨ns, nl, h2⟩ := R.obj r _ hr
  have nr : d ≠ r := fun z => by subst z; rw [hd] at hr; cases hr
  have g0 : ∀ a, G a = none ↔ updG (updG G r (.lst (ns.map .int))) d (.lst [.int i, .ref r]) a = none := fun a => by
    unfold updG
    by_cases a1 : a = d
    · subst a1; simp [hd]
    · by_cases a2 : a = r
      · subst a2; simp [hr, a1]
      · simp [a1, a2]
  have R1 : Rel K F H (updG (updG G r (.lst (ns.map .int))) d (.lst [.int i, .ref r])) := by
    refine ⟨fun a m e => ?_, fun a f => (g0 a).mp (R.fr a f), R.al⟩
    by_cases a1 : a = d
    · subst a1
      rw [updG_same] at e
      cases e
      exact ⟨_, h1, _, _, rfl, rfl, _, _, rfl, rfl, rfl⟩
    · rw [updG_ne a1] at e
      by_cases a2 : a = r
      · subst a2
        rw [updG_same] at e
        cases e
        exact ⟨_, h2, RepL.ints ns⟩
      · rw [updG_ne a2] at e
        exact R.obj a m e
  refine ⟨F, _, _, fun v G2 => (∃ k, v = .int k ∧ 0 ≤ k ∧ k < many ∧ (n = 0 → k = 0)) ∧ G2 = updG (updG (updG G r (.lst (ns.map .int))) d (.lst [.int i, .ref r])) d (.lst [.int (i + 1), .ref r]), R1, rv, conc_next _ _ _ _ ⟨d, r, i, many, ns, rfl, nr, updG_same, by rw [updG_ne nr.symm, updG_same], i0, m0, fun k k0 k1 k2 => ⟨⟨k, rfl, k0, k1, fun z => k2 (by omega)⟩, rfl⟩⟩, fun v H' ⟨x, F', G', k1, R', rx, ⟨⟨k, ex, k0, k2, k3⟩, eg⟩⟩ => kk v H' ?_⟩
  subst ex eg
  refine ⟨.int k, F', updG G d (.drw r m), ⟨fun a u ga ha => ?_⟩, ⟨fun a m' e => ?_, fun a f => ?_, R'.al⟩, rx, q k k0 k2 k3⟩
  · obtain ⟨a1, a2, a3⟩ := k1.k a u ((g0 a).mp ga) ha
    exact ⟨a1, by rw [updG_ne (fun z => by rw [z, hd] at ga; cases ga)]; exact ga, a3⟩
  · by_cases a1 : a = d
    · subst a1
      rw [updG_same] at e
      cases e
      obtain ⟨xs, e1, v1, r1, e2, e3, e4⟩ := R'.obj a _ updG_same
      obtain ⟨v2, e5, e6⟩ := rl1 e4
      cases e3
      cases e6
      subst e5 e2
      exact ⟨i + 1, ⟨by omega, by omega⟩, e1⟩
    · rw [updG_ne a1] at e
      by_cases a2 : a = r
      · subst a2
        rw [hr] at e
        cases e
        obtain ⟨xs, e1, e2⟩ := R'.obj a (.lst (ns.map .int)) (by rw [updG_ne a1, updG_ne a1, updG_same])
        rw [repL_ints e2] at e1
        exact ⟨ns, nl, e1⟩
      · exact R'.obj a m' (by rw [updG_ne a1, updG_ne a1, updG_ne a2]; exact e)
  · have := R'.fr a f
    rw [updG_updG] at this
    have a1 : a ≠ d := fun z => by rw [z, updG_same] at this; cases this
    rw [updG_ne a1] at this ⊢
    unfold updG at this
    by_cases a2 : a = r
    · subst a2; simp at this
    · simpa [a2] using this
theorem updG_self {G : Gp} {a : Addr} {m : MO} (h : G a = some m) : updG G a m = G := by
  funext b
  unfold updG
  split
  · rename_i e; rw [e, h]
  · rfl
theorem updG_comm {G : Gp} {a b : Addr} {m n : MO} (h : a ≠ b) : updG (updG G a m) b n = updG (updG G b n) a m := by
  funext c
  unfold updG
  by_cases h1 : c = a
  · subst h1
    rw [if_neg h, if_pos rfl, if_pos rfl]
  · by_cases h2 : c = b
    · subst h2
      rw [if_pos rfl, if_neg h1, if_pos rfl]
    · rw [if_neg h2, if_neg h1, if_neg h1, if_neg h2]
theorem abs__law_next {K : KW} (vs : List V) (H : Hp) (Q : VK) (E : XK) (h : upSp K sp__law_next vs H Q E) : upSp K sq__law_next vs H Q E := by
  obtain ⟨F, ds, G, Q', R, rv, ⟨d, many, rfl, ⟨r, n, hd, hr⟩, m0, q⟩, kk⟩ := h
  exact next_core vs H Q E R rv hd hr m0 n (by omega) (fun k k0 k1 _ => by rw [updG_self hd]; exact q k k0 k1) kk
theorem abs__law_nextS {K : KW} (vs : List V) (H : Hp) (Q : VK) (E : XK) (h : upSp K sp__law_nextS vs H Q E) : upSp K sq__law_next vs H Q E := by
  obtain ⟨F, ds, G, Q', R, rv, ⟨d, r, n, many, rfl, ⟨hd, hr⟩, m0, q⟩, kk⟩ := h
  exact next_core vs H Q E R rv hd hr m0 (n - 1) (by omega) q kk

def rd__law_big : DTS :=
  (dSeq (dAsg (dC (.int 0)) (dName 1))
  (dSeq (dFor (dRng1 (dCons (dC (.int 6)) dNil)) (dName 2)
  (dAsg (dOp (dPure2 dAdd) (dOp (dPure2 dMul) (dVar 1) (dC (.int 1000))) (dCall sp__law_next (dCons (dVar 0) (dCons (dC (.int 1000)) dNil)))) (dName 1)))
  (dRet (dVar 1))))
def sq__law_big : DSp := spOf 1 2 rd__law_big

def sp__law_big : DSp := fun ds G Q _ => ∃ d, ds = [.ref d] ∧ isDr G d ∧ ∀ n, 0 ≤ n → n < 1000000000000000000 → Q (.int n) G
theorem abs__law_big (ds : List D) (G : Gp) (Q : D → Gp → Prop) (E : DXK) (h : sp__law_big ds G Q E) : sq__law_big ds G Q E := by
  obtain ⟨d, rfl, hd, q⟩ := h
  simp! only [↓sq__law_big, ↓rd__law_big]
  refine loop_ind (fun ds δ G' => ∃ n k, δ = [some (.ref d), some (.int n), k] ∧ G' = G ∧ 0 ≤ n ∧ (n + 1) * 1000 ^ ds.length ≤ 1000000000000000000) ?_ ?_ _ _ _ ⟨0, none, rfl, rfl, by decide, by decide⟩
  · rintro x r δ G' K ⟨n, k, rfl, rfl, h0, h1⟩ hK
    have hb : n + 1 ≤ 1000000000000000000 := by
      have : (1 : Int) ≤ 1000 ^ (x :: r).length := by
        have := Int.pow_pos (n := 1000) (m := (x :: r).length) (by decide)
        omega
      have h2 : (n + 1) * 1 ≤ (n + 1) * 1000 ^ (x :: r).length := Int.mul_le_mul_of_nonneg_left this (by omega)
      omega
    try simp!
    refine ⟨d, 1000, rfl, hd, by decide, fun j j0 j1 => ?_⟩
    refine hK _ _ ⟨n * 1000 + j, _, rfl, rfl, by omega, ?_⟩
    rw [List.length_cons, Int.pow_succ] at h1
    have : (n * 1000 + j + 1) * 1000 ^ r.length ≤ (n + 1) * 1000 * 1000 ^ r.length := Int.mul_le_mul_of_nonneg_right (by omega) (Int.pow_nonneg (by decide))
    have e : (n + 1) * 1000 * 1000 ^ r.length = (n + 1) * (1000 ^ r.length * 1000) := by rw [Int.mul_assoc, Int.mul_comm 1000]
    omega
  · rintro δ G' ⟨n, k, rfl, rfl, h0, h1⟩
    try simp!
    exact rt_same (q n h0 (by simp at h1; omega))

def rd__law_char : DTS :=
  (dSeq (dAsg (dC (.str (Str.ofString " !\"#$&'()*+,-./0123456789:;<=>?@ABCDEFGHIJKLMNOPQRSTUVWXYZ[\\]^_`"))) (dName 1))
  (dSeq (dAsg (dOp (dPure2 dAdd) (dVar 1) (dC (.str (Str.ofString "abcdefghijklmnopqrstuvwxyz{|}~")))) (dName 1))
  (dRet (dOp dIx (dVar 1) (dOp (dPure2 dMod) (dB dIntC (dCons (dVar 0) dNil)) (dC (.int 94)))))))
def sq__law_char : DSp := spOf 1 1 rd__law_char

theorem chars94 : (Str.ofString " !\"#$&'()*+,-./0123456789:;<=>?@ABCDEFGHIJKLMNOPQRSTUVWXYZ[\\]^_`" ++ Str.ofString "abcdefghijklmnopqrstuvwxyz{|}~").cps.toList.length = 94 ∧
  (Str.ofString " !\"#$&'()*+,-./0123456789:;<=>?@ABCDEFGHIJKLMNOPQRSTUVWXYZ[\\]^_`" ++ Str.ofString "abcdefghijklmnopqrstuvwxyz{|}~").cps.toList.all okC = true := by decide +kernel
theorem chars_len : (Str.ofString " !\"#$&'()*+,-./0123456789:;<=>?@ABCDEFGHIJKLMNOPQRSTUVWXYZ[\\]^_`").length = 64 ∧ (Str.ofString "abcdefghijklmnopqrstuvwxyz{|}~").length = 30 := by decide +kernel
def sp__law_char : DSp := fun ds G Q _ => ∃ k, ds = [.int k] ∧ ∀ c, okC c = true → Q (.str ⟨#[c]⟩) G
theorem abs__law_char (ds : List D) (G : Gp) (Q : D → Gp → Prop) (E : DXK) (h : sp__law_char ds G Q E) : sq__law_char ds G Q E := by
  obtain ⟨k, rfl, q⟩ := h
  simp! only [↓sq__law_char, ↓rd__law_char]
  rw [if_pos (by rw [chars_len.1, chars_len.2]; decide)]
  try simp!
  obtain ⟨c, e, m⟩ := at_ok _ (k % 94) (Int.emod_nonneg _ (by decide)) (by rw [chars94.1]; exact Int.emod_lt_of_pos _ (by decide))
  have hz : (Str.ofString " !\"#$&'()*+,-./0123456789:;<=>?@ABCDEFGHIJKLMNOPQRSTUVWXYZ[\\]^_`" ++ Str.ofString "abcdefghijklmnopqrstuvwxyz{|}~").length ≤ 16777216 := by
    have h1 := chars94.1
    rw [Array.length_toList] at h1
    show Array.size _ ≤ _
    rw [h1]
    decide
  rw [if_pos hz, e]
  exact rt_same (q c (List.all_eq_true.mp chars94.2 c m))

def rd__law_ids : DTS :=
  (dSeq (dAsg (dRef dNil) (dName 2))
  (dSeq (dAsg (dC (.int 0)) (dName 3))
  (dSeq (dFor (dRng1 (dCons (dCall sp__law_next (dCons (dVar 0) (dCons (dOp (dPure2 dAdd) (dVar 1) (dC (.int 1))) dNil))) dNil)) (dName 4)
  (dSeq (dAsg (dOp (dPure2 dAdd) (dOp (dPure2 dAdd) (dVar 3) (dC (.int 1))) (dCall sp__law_next (dCons (dVar 0) (dCons (dC (.int 4)) dNil)))) (dName 3))
  (dDrop (dApp (dVar 2) (dVar 3)))))
  (dSeq (dIfS (dTest (dOp (dEqR) (dCall sp__law_next (dCons (dVar 0) (dCons (dC (.int 9)) dNil))) (dC (.int 1))))
  (dDrop (dApp (dVar 2) (dC (.int 99))))
  dNext)
  (dRet (dVar 2))))))
def sq__law_ids : DSp := spOf 2 3 rd__law_ids

def sp__law_ids : DSp := fun ds G Q _ => ∃ d most, ds = [.ref d, .int most] ∧ isDr G d ∧ 0 ≤ most ∧ most ≤ 20 ∧ ∀ ns : List Int, Ids ns → (ns.length : Int) ≤ most + 1 → Q (.lv (ns.map .int)) G
theorem abs__law_ids (ds : List D) (G : Gp) (Q : D → Gp → Prop) (E : DXK) (h : sp__law_ids ds G Q E) : sq__law_ids ds G Q E := by
  obtain ⟨d, most, rfl, hd, m0, m1, q⟩ := h
  simp! only [↓sq__law_ids, ↓rd__law_ids]
  intro p hp
  refine ⟨d, most + 1, rfl, hd.new hp, by omega, fun j j0 j1 => ?_⟩
  refine ⟨by omega, by omega, ?_⟩
  refine loop_ind (fun ds δ G' => ∃ ns num k, δ = [some (.ref d), some (.int most), some (.ref p), some (.int num), k] ∧ G' = updG G p (.lst (ns.map .int)) ∧ ns.Pairwise (· < ·) ∧ (∀ x ∈ ns, 1 ≤ x ∧ x ≤ num) ∧ 0 ≤ num ∧ num + 4 * ds.length ≤ 4 * most ∧ (ns.length : Int) + ds.length ≤ most) ?_ ?_ _ _ _ ⟨[], 0, none, rfl, rfl, .nil, by simp, by decide, ?_, ?_⟩
  · rintro x r δ G' K ⟨ns, num, k, rfl, rfl, h0, h1, h2, h3, h4⟩ hK
    rw [List.length_cons] at h3 h4
    try simp!
    refine ⟨d, 4, rfl, hd.new hp, by decide, fun i i0 i1 => ?_⟩
    try simp!
    refine ⟨by omega, ?_⟩
    rw [updG_updG]
    refine hK _ _ ⟨ns ++ [num + 1 + i], num + 1 + i, _, rfl, by rw [List.map_append]; rfl, ?_, ?_, by omega, by omega, by rw [List.length_append, List.length_singleton]; omega⟩
    · rw [List.pairwise_append]
      exact ⟨h0, List.pairwise_singleton _ _, fun a ha b hb => by rw [List.mem_singleton] at hb; have := (h1 a ha).2; omega⟩
    · intro y hy
      rcases List.mem_append.mp hy with hy | hy
      · have := h1 y hy; omega
      · rw [List.mem_singleton] at hy; omega
  · rintro δ G' ⟨ns, num, k, rfl, rfl, h0, h1, h2, h3, h4⟩
    try simp!
    refine ⟨d, 9, rfl, hd.new hp, by decide, fun i i0 i1 => ?_⟩
    rw [List.length_nil] at h3 h4
    try simp!
    refine dCond2 (fun e => ?_) (fun e => ?_)
    · try simp!
      refine ⟨by omega, ?_⟩
      rw [updG_updG]
      refine rt_frz hp ?_
      have := q (ns ++ [99]) ⟨?_, ?_⟩ (by rw [List.length_append, List.length_singleton]; omega)
      · rw [List.map_append] at this; exact this
      · rw [List.pairwise_append]
        exact ⟨h0, List.pairwise_singleton _ _, fun a ha b hb => by rw [List.mem_singleton] at hb; have := (h1 a ha).2; omega⟩
      · intro y hy
        rcases List.mem_append.mp hy with hy | hy
        · have := h1 y hy; omega
        · rw [List.mem_singleton] at hy; omega
    · refine rt_frz hp (q ns ⟨h0, fun y hy => by have := h1 y hy; omega⟩ (by omega))
  · simp [rangeD]; omega
  · simp [rangeD]; omega

def rd__law_split : DTS :=
  (dSeq (dAsg (dRef dNil) (dName 2))
  (dSeq (dAsg (dRef dNil) (dName 3))
  (dSeq (dFor (dIt (dVar 1)) (dName 4)
  (dIfS (dTest (dOp (dEqR) (dCall sp__law_next (dCons (dVar 0) (dCons (dC (.int 5)) dNil))) (dC (.int 1))))
  (dDrop (dApp (dVar 3) (dVar 4)))
  (dDrop (dApp (dVar 2) (dVar 4)))))
  (dRet (dLv (dCons (dVar 2) (dCons (dVar 3) dNil)))))))
def sq__law_split : DSp := spOf 2 3 rd__law_split

/-- live and retired ones of a row, in their order -/
def Split (xs live ret : List Int) : Prop := live.Sublist xs ∧ ret.Sublist xs ∧ ∀ x ∈ xs, x ∈ live ∨ x ∈ ret
theorem Ids.sub {xs ys : List Int} (h : Ids xs) (s : ys.Sublist xs) : Ids ys := ⟨h.1.sublist s, fun x hx => h.2 x (s.subset hx)⟩
def sp__law_split : DSp := fun ds G Q _ => ∃ d ns, ds = [.ref d, .lv (ns.map D.int)] ∧ isDr G d ∧ Ids ns ∧ ∀ live ret : List Int, Ids live → Ids ret → (∀ x ∈ live, x ∉ ret) → Split ns live ret → live.length ≤ ns.length → ret.length ≤ ns.length → Q (.lv [.lv (live.map .int), .lv (ret.map .int)]) G
theorem abs__law_split (ds : List D) (G : Gp) (Q : D → Gp → Prop) (E : DXK) (h : sp__law_split ds G Q E) : sq__law_split ds G Q E := by
  obtain ⟨d, ns, rfl, hd, hi, q⟩ := h
  have hlen := hi.len
  simp! only [↓sq__law_split, ↓rd__law_split]
  intro p hp p2 hp2
  have npp : p ≠ p2 := fun z => by subst z; rw [updG_same] at hp2; cases hp2
  have hp2' : G p2 = none := by rw [updG_ne npp.symm] at hp2; exact hp2
  have sub2 : ∀ (l r : List D) (a : Addr) (m : MO), G a = some m → updG (updG G p (.lst l)) p2 (.lst r) a = some m := fun l r a m e => by
    rw [updG_ne (fun z => by subst z; rw [hp2'] at e; cases e), updG_ne (fun z => by subst z; rw [hp] at e; cases e)]; exact e
  refine loop_ind (fun ds δ G' => ∃ (pre post live ret : List Int) (k : Option D), ns = pre ++ post ∧ ds = post.map .int ∧ δ = [some (.ref d), some (.lv (ns.map .int)), some (.ref p), some (.ref p2), k] ∧
    G' = updG (updG G p (.lst (live.map .int))) p2 (.lst (ret.map .int)) ∧ List.Sublist live pre ∧ List.Sublist ret pre ∧ (∀ x ∈ live, x ∉ ret) ∧ (∀ x ∈ pre, x ∈ live ∨ x ∈ ret)) ?_ ?_ _ _ _ ⟨[], ns, [], [], none, rfl, rfl, rfl, rfl, .slnil, .slnil, by simp, by simp⟩
  · rintro x r δ G' K ⟨pre, post, live, ret, k, e, e2, rfl, rfl, h1, h2, h3, h4⟩ hK
    cases post with
    | nil => cases e2
    | cons y post =>
      rw [List.map_cons] at e2
      injection e2 with e3 e4
      subst e3
      have hy : ∀ z ∈ pre, z < y := by
        have := hi.1
        rw [e, List.pairwise_append] at this
        exact fun z hz => this.2.2 z hz y List.mem_cons_self
      have l1 := h1.length_le
      have l2 := h2.length_le
      have l3 : pre.length ≤ ns.length := by rw [e, List.length_append]; omega
      try simp!
      refine ⟨d, 5, rfl, hd.mono (sub2 _ _), by decide, fun i i0 i1 => ?_⟩
      try simp!
      refine dCond2 (fun _ => ?_) (fun _ => ?_)
      · try simp!
        refine ⟨by omega, ?_⟩
        rw [updG_updG]
        refine hK _ _ ⟨pre ++ [y], post, live, ret ++ [y], _, by rw [e, List.append_assoc]; rfl, e4, rfl, by rw [List.map_append]; rfl, h1.trans (List.sublist_append_left _ _), h2.append (List.Sublist.refl _), fun z hz m => ?_, fun z hz => ?_⟩
        · rcases List.mem_append.mp m with m | m
          · exact h3 z hz m
          · rw [List.mem_singleton] at m
            have := hy z (h1.subset hz)
            omega
        · rcases List.mem_append.mp hz with hz | hz
          · exact (h4 z hz).elim .inl fun m => .inr (List.mem_append_left _ m)
          · exact .inr (List.mem_append_right _ hz)
      · try simp! only [updG_ne npp]
        refine ⟨by omega, ?_⟩
        refine hK _ _ ⟨pre ++ [y], post, live ++ [y], ret, _, by rw [e, List.append_assoc]; rfl, e4, rfl, ?_, h1.append (List.Sublist.refl _), h2.trans (List.sublist_append_left _ _), fun z hz m => ?_, fun z hz => ?_⟩
        · funext a
          unfold updG
          by_cases a1 : a = p2
          · subst a1; simp [npp.symm]
          · by_cases a2 : a = p
            · subst a2; simp [npp]
            · simp [a1, a2]
        · rcases List.mem_append.mp hz with hz | hz
          · exact h3 z hz m
          · rw [List.mem_singleton] at hz
            have := hy z (h2.subset m)
            omega
        · rcases List.mem_append.mp hz with hz | hz
          · exact (h4 z hz).elim (fun m => .inl (List.mem_append_left _ m)) .inr
          · exact .inl (List.mem_append_right _ hz)
  · rintro δ G' ⟨pre, post, live, ret, k, e, e2, rfl, rfl, h1, h2, h3, h4⟩
    have ep : post = [] := by cases post with
      | nil => rfl
      | cons y post => cases e2
    subst ep
    rw [List.append_nil] at e
    subst e
    try simp!
    refine ⟨D.lv [.lv (live.map .int), .lv (ret.map .int)], G, ⟨fun a m e => .of (sub2 _ _ a m e), .lv ⟨.lst (by rw [updG_ne npp, updG_same]) hp (.same _), .lst updG_same hp2' (.same _), trivial⟩⟩, ?_⟩
    exact q live ret (hi.sub h1) (hi.sub h2) h3 ⟨h1, h2, h4⟩ h1.length_le h2.length_le

def rd__law_leaf : DTS :=
  (dSeq (dAsg (dCall sp__law_next (dCons (dVar 0) (dCons (dC (.int 8)) dNil))) (dName 1))
  (dSeq (dIfS (dTest (dOp (dPure2 dLt) (dVar 1) (dC (.int 4))))
  (dSeq (dAsg (dOp (dPure2 dSub) (dCall sp__law_next (dCons (dVar 0) (dCons (dC (.int 12)) dNil))) (dC (.int 6))) (dName 2))
  (dSeq (dAsg (dOp (dPure2 dAdd) (dVar 2) (dCall sp__law_next (dCons (dVar 0) (dCons (dC (.int 9)) dNil)))) (dName 3))
  (dSeq (dIfS (dTest (dOp (dEqR) (dCall sp__law_next (dCons (dVar 0) (dCons (dC (.int 9)) dNil))) (dC (.int 1))))
  (dRet (dTup (dCons (dC (.str (Str.ofString "number"))) (dCons (dUn (dPure1 dNeg) (dOp (dPure2 dPow) (dC (.int 10)) (dC (.int 15)))) (dCons (dOp (dPure2 dPow) (dC (.int 10)) (dC (.int 15))) dNil)))))
  dNext)
  (dRet (dTup (dCons (dC (.str (Str.ofString "number"))) (dCons (dVar 2) (dCons (dVar 3) dNil))))))))
  dNext)
  (dSeq (dIfS (dTest (dOp (dPure2 dLt) (dVar 1) (dC (.int 6))))
  (dSeq (dAsg (dCall sp__law_next (dCons (dVar 0) (dCons (dC (.int 3)) dNil))) (dName 2))
  (dSeq (dAsg (dOp (dPure2 dAdd) (dVar 2) (dCall sp__law_next (dCons (dVar 0) (dCons (dC (.int 4)) dNil)))) (dName 3))
  (dSeq (dIfS (dTest (dOp (dEqR) (dCall sp__law_next (dCons (dVar 0) (dCons (dC (.int 9)) dNil))) (dC (.int 1))))
  (dAsg (dC (.int 40)) (dName 3))
  dNext)
  (dRet (dTup (dCons (dC (.str (Str.ofString "text"))) (dCons (dVar 2) (dCons (dVar 3) dNil))))))))
  dNext)
  (dSeq (dAsg (dCall sp__law_split (dCons (dVar 0) (dCons (dCall sp__law_ids (dCons (dVar 0) (dCons (dC (.int 4)) dNil))) dNil))) (dName 4))
  (dSeq (dAsg (dOr (dOp (dEqR) (dCall sp__law_next (dCons (dVar 0) (dCons (dC (.int 2)) dNil))) (dC (.int 1))) (dOr (dOp (dPure2 dGt) (dB dLen (dCons (dOp dIx (dVar 4) (dC (.int 1))) dNil)) (dC (.int 0))) (dOp (dEqR) (dB dLen (dCons (dOp dIx (dVar 4) (dC (.int 0))) dNil)) (dC (.int 0))))) (dName 5))
  (dRet (dTup (dCons (dC (.str (Str.ofString "choice"))) (dCons (dB dTupleC (dCons (dOp dIx (dVar 4) (dC (.int 0))) dNil)) (dCons (dB dTupleC (dCons (dOp dIx (dVar 4) (dC (.int 1))) dNil)) (dCons (dVar 5) dNil)))))))))))
def sq__law_leaf : DSp := spOf 1 5 rd__law_leaf

theorem nd_len : ∀ {l D : List Int}, l.Nodup → (∀ x ∈ l, x ∈ D) → l.length ≤ D.length
  | [], _, _, _ => Nat.zero_le _
  | x :: l, D, nd, h => by
    obtain ⟨n1, n2⟩ := List.nodup_cons.mp nd
    have hx := h x List.mem_cons_self
    have ih := nd_len (l := l) (D := D.erase x) n2 fun y hy => (List.mem_erase_of_ne (fun e => n1 (by rw [← e]; exact hy))).mpr (h y (List.mem_cons_of_mem _ hy))
    rw [List.length_erase_of_mem hx] at ih
    have : 0 < D.length := List.length_pos_of_mem hx
    rw [List.length_cons]
    omega
theorem asc_nd {xs : List Int} (h : xs.Pairwise (· < ·)) : xs.Nodup := h.imp fun {a b} h e => by omega
theorem split_len {ns live ret : List Int} (h1 : Ids live) (h2 : Ids ret) (h3 : ∀ x ∈ live, x ∉ ret) (h4 : Split ns live ret) : live.length + ret.length ≤ ns.length := by
  have := nd_len (l := live ++ ret) (D := ns) (List.nodup_append.mpr ⟨asc_nd h1.1, asc_nd h2.1, fun a ha b hb e => h3 a ha (by rw [e]; exact hb)⟩) fun x hx => by
    rcases List.mem_append.mp hx with hx | hx
    · exact h4.1.subset hx
    · exact h4.2.1.subset hx
  rwa [List.length_append] at this
def sp__law_leaf : DSp := fun ds G Q _ => ∃ d, ds = [.ref d] ∧ isDr G d ∧ ∀ L : Leaf, L.wf → dW L.d ≤ 40 → L.size ≤ 5 → Q L.d G
theorem abs__law_leaf (ds : List D) (G : Gp) (Q : D → Gp → Prop) (E : DXK) (h : sp__law_leaf ds G Q E) : sq__law_leaf ds G Q E := by
  obtain ⟨d, rfl, hd, q⟩ := h
  have w1 : (Str.ofString "number").length = 6 := by decide +kernel
  have w2 : (Str.ofString "text").length = 4 := by decide +kernel
  have w3 : (Str.ofString "choice").length = 6 := by decide +kernel
  simp! only [↓sq__law_leaf, ↓rd__law_leaf]
  refine ⟨d, 8, rfl, hd, by decide, fun k k0 k1 => ?_⟩
  try simp!
  refine dCond2 (fun _ => ?_) (fun _ => ?_)
  · refine ⟨d, 12, rfl, hd, by decide, fun i i0 i1 => ?_⟩
    try simp!
    refine ⟨d, 9, rfl, hd, by decide, fun j j0 j1 => ?_⟩
    try simp!
    refine ⟨d, 9, rfl, hd, by decide, fun l l0 l1 => ?_⟩
    try simp!
    refine dCond2 (fun _ => ?_) (fun _ => ?_)
    · exact (rt_same (q (.number _ _) ⟨by decide, by decide, by decide⟩ (by simp only [Leaf.d, dW, dWL, w1]; decide) (Nat.zero_le _)))
    · exact (rt_same (q (.number _ _) ⟨by omega, by omega, by omega⟩ (by simp only [Leaf.d, dW, dWL, w1]; decide) (Nat.zero_le _)))
  · refine dCond2 (fun _ => ?_) (fun _ => ?_)
    · refine ⟨d, 3, rfl, hd, by decide, fun i i0 i1 => ?_⟩
      try simp!
      refine ⟨d, 4, rfl, hd, by decide, fun j j0 j1 => ?_⟩
      try simp!
      refine ⟨d, 9, rfl, hd, by decide, fun l l0 l1 => ?_⟩
      try simp!
      refine dCond2 (fun _ => ?_) (fun _ => ?_)
      · exact (rt_same (q (.text _ _) ⟨by omega, by omega, by omega⟩ (by simp only [Leaf.d, dW, dWL, w2]; decide) (Nat.zero_le _)))
      · exact (rt_same (q (.text _ _) ⟨by omega, by omega, by omega⟩ (by simp only [Leaf.d, dW, dWL, w2]; decide) (Nat.zero_le _)))
    · refine ⟨d, 4, rfl, hd, by decide, by decide, fun ns hn hl => ?_⟩
      refine ⟨d, ns, rfl, hd, hn, fun live ret h1 h2 h3 h4 l1 l2 => ?_⟩
      try simp!
      refine ⟨d, 2, rfl, hd, by decide, fun i i0 i1 => ?_⟩
      have wt : ∀ op, dW (Leaf.choice live ret op).d ≤ 40 := fun op => by
        simp only [Leaf.d, dW, dWL, w3, dWL_ints]
        omega
      have fin : ∀ op, (op = false → ret = [] ∧ live ≠ []) → rtOf Q (.tup [.str (Str.ofString "choice"), .tup (live.map .int), .tup (ret.map .int), .bl op]) G := fun op h => rt_same (q (.choice live ret op) ⟨h1, h2, h3, h⟩ (wt op) (show live.length + ret.length ≤ 5 by have := split_len h1 h2 h3 h4; omega))
      try simp! only [List.length_map]
      refine dCond2 (fun e => ?_) (fun e => ?_)
      · exact fin _ fun z => by rw [e] at z; cases z
      · refine dCond2 (fun e2 => ?_) (fun e2 => ?_)
        · exact fin _ fun z => by rw [e2] at z; cases z
        · refine fin _ fun e3 => ⟨?_, ?_⟩
          · have := of_decide_eq_false e2
            cases ret with
            | nil => rfl
            | cons x r => simp at this
          · intro z
            subst z
            simp at e3

def rd__law_leaf_value : DTS :=
  (dSeq (dIfS (dTest (dOp (dEqR) (dOp dIx (dVar 0) (dC (.int 0))) (dC (.str (Str.ofString "number")))))
  (dSeq (dAsg (dCall sp__law_next (dCons (dVar 1) (dCons (dC (.int 5)) dNil))) (dName 2))
  (dSeq (dIfS (dTest (dOp (dEqR) (dVar 2) (dC (.int 1))))
  (dRet (dOp dIx (dVar 0) (dC (.int 1))))
  dNext)
  (dSeq (dIfS (dTest (dOp (dEqR) (dVar 2) (dC (.int 2))))
  (dRet (dOp dIx (dVar 0) (dC (.int 2))))
  dNext)
  (dRet (dOp (dPure2 dAdd) (dOp dIx (dVar 0) (dC (.int 1))) (dOp (dPure2 dMod) (dB dIntC (dCons (dCall sp__law_big (dCons (dVar 1) dNil)) dNil)) (dOp (dPure2 dAdd) (dOp (dPure2 dSub) (dOp dIx (dVar 0) (dC (.int 2))) (dOp dIx (dVar 0) (dC (.int 1)))) (dC (.int 1)))))))))
  dNext)
  (dSeq (dIfS (dTest (dOp (dEqR) (dOp dIx (dVar 0) (dC (.int 0))) (dC (.str (Str.ofString "text")))))
  (dSeq (dAsg (dOp (dPure2 dAdd) (dOp dIx (dVar 0) (dC (.int 1))) (dCall sp__law_next (dCons (dVar 1) (dCons (dOp (dPure2 dAdd) (dOp (dPure2 dSub) (dOp dIx (dVar 0) (dC (.int 2))) (dOp dIx (dVar 0) (dC (.int 1)))) (dC (.int 1))) dNil)))) (dName 3))
  (dRet (dJoin (dC (.str (Str.ofString ""))) (dLc (dRng1 (dCons (dVar 3) dNil)) (dName 4) dYes (dCall sp__law_char (dCons (dCall sp__law_next (dCons (dVar 1) (dCons (dC (.int 94)) dNil))) dNil)) [4]))))
  dNext)
  (dSeq (dAsg (dB dListM (dCons (dOp dIx (dVar 0) (dC (.int 1))) dNil)) (dName 5))
  (dSeq (dIfS (dTruth (dOp dIx (dVar 0) (dC (.int 3))))
  (dDrop (dApp (dVar 5) (dC (.int 0))))
  dNext)
  (dRet (dOp dIx (dVar 5) (dCall sp__law_next (dCons (dVar 1) (dCons (dB dLen (dCons (dVar 5) dNil)) dNil)))))))))
def sq__law_leaf_value : DSp := spOf 2 4 rd__law_leaf_value

def sp__law_leaf_value : DSp := fun ds G Q _ => ∃ (L : Leaf) (d : Addr), ds = [L.d, .ref d] ∧ L.wf ∧ isDr G d ∧ ∀ v, L.has v = true → dVal v = true → dW v ≤ 60 → Q v G
theorem abs__law_leaf_value (ds : List D) (G : Gp) (Q : D → Gp → Prop) (E : DXK) (h : sp__law_leaf_value ds G Q E) : sq__law_leaf_value ds G Q E := by
  obtain ⟨L, d, rfl, hw, hd, q⟩ := h
  cases L with
  | number lo hi =>
    obtain ⟨w1, w2, w3⟩ := hw
    have qi : ∀ i, lo ≤ i → i ≤ hi → rtOf Q (.int i) G := fun i h1 h2 => rt_same (q (.int i) (by simp only [Leaf.has, decide_eq_true h1, decide_eq_true h2]; rfl) rfl (show (1 : Nat) ≤ 60 by decide))
    simp! only [↓sq__law_leaf_value, ↓rd__law_leaf_value, Leaf.d]
    refine ⟨d, 5, rfl, hd, by decide, fun i i0 i1 => ?_⟩
    try simp!
    refine dCond2 (fun _ => qi _ (by omega) (by omega)) (fun _ => dCond2 (fun _ => qi _ (by omega) (by omega)) (fun _ => ?_))
    refine ⟨d, rfl, hd, fun n n0 n1 => ?_⟩
    try simp!
    rw [if_pos (by omega)]
    try simp!
    have h1 := Int.emod_nonneg n (show hi - lo + 1 ≠ 0 by omega)
    have h2 := Int.emod_lt_of_pos n (show 0 < hi - lo + 1 by omega)
    exact qi _ (by omega) (by omega)
  | text lo hi =>
    obtain ⟨w1, w2, w3⟩ := hw
    simp! only [↓sq__law_leaf_value, ↓rd__law_leaf_value, Leaf.d]
    refine ⟨d, hi - lo + 1, rfl, hd, by omega, fun i i0 i1 => ?_⟩
    try simp!
    refine ⟨by omega, by omega, ?_⟩
    refine draw_text (d := d) (by omega) (fun x K hK => ?_) fun cs hl hc => rt_same (q _ ?_ rfl ?_)
    · try simp!
      refine ⟨d, 94, rfl, hd, by decide, fun j j0 j1 => ⟨j, rfl, fun c hc => hK c hc⟩⟩
    · have hlen : ((⟨cs.toArray⟩ : Str).length : Int) = lo + i := by
        show ((cs.toArray.size : Nat) : Int) = _
        rw [List.size_toArray, hl]
        omega
      simp only [Leaf.has, hlen, okT_chars, hc, Bool.and_true]
      rw [decide_eq_true (by omega), decide_eq_true (by omega)]
      rfl
    · show cs.toArray.size + 1 ≤ 60
      rw [List.size_toArray, hl]
      omega
  | choice sy rt op =>
    obtain ⟨w1, w2, w3, w4⟩ := hw
    have hlen := w1.len
    have qi : ∀ i, (i ∈ sy ∨ (op = true ∧ i = 0)) → Q (.int i) G := fun i h => q (.int i) (by
      simp only [Leaf.has]
      rcases h with h | ⟨h1, h2⟩
      · rw [List.contains_iff_mem.mpr h]; rfl
      · rw [h1, h2]; simp) rfl (show (1 : Nat) ≤ 60 by decide)
    simp! only [↓sq__law_leaf_value, ↓rd__law_leaf_value, Leaf.d]
    intro p hp
    cases op with
    | true =>
      try simp!
      rw [updG_updG]
      try simp!
      refine ⟨by omega, d, _, rfl, hd.new hp, by first | omega | (rw [List.length_append, List.length_map]; simp only [List.length_cons, List.length_nil]; omega), fun i i0 i1 => ?_⟩
      obtain ⟨v, e, m⟩ := at_ok (sy.map D.int ++ [D.int 0]) i i0 (by first | exact i1 | (rw [List.length_append, List.length_map]; simp only [List.length_cons, List.length_nil]; omega))
      try simp! only [ixD_5, e]
      refine rt_sub (sub_new hp) ?_
      rcases List.mem_append.mp m with m | m
      · rw [List.mem_map] at m
        obtain ⟨n, hn, rfl⟩ := m
        exact qi n (.inl hn)
      · rw [List.mem_singleton] at m
        subst m
        exact qi 0 (.inr ⟨rfl, rfl⟩)
    | false =>
      have hne : 0 < sy.length := List.length_pos_iff.mpr (w4 rfl).2
      try simp!
      refine ⟨d, _, rfl, hd.new hp, by omega, fun i i0 i1 => ?_⟩
      obtain ⟨v, e, m⟩ := at_ok (sy.map D.int) i i0 (by rw [List.length_map]; exact i1)
      try simp! only [ixD_5, e]
      refine rt_sub (sub_new hp) ?_
      rw [List.mem_map] at m
      obtain ⟨n, hn, rfl⟩ := m
      exact qi n (.inl hn)

def rd__law_with_id : DTS :=
  (dRet (dB dTupleC (dCons (dB dSortI (dCons (dOp (dPure2 dAdd) (dB dListC (dCons (dVar 0) dNil)) (dLv (dCons (dVar 1) dNil))) dNil)) dNil)))
def sq__law_with_id : DSp := spOf 2 0 rd__law_with_id

/-- a row with one more -/
structure Plus (ids : List Int) (n : Int) (ns : List Int) : Prop where
  lt : ns.Pairwise (· < ·)
  mem : ∀ x, x ∈ ns ↔ x ∈ ids ∨ x = n
  len : ns.length = ids.length + 1
theorem Plus.of {ids ns : List Int} {n : Int} (h1 : ids.Pairwise (· < ·)) (h2 : n ∉ ids) (p : ns.Perm (ids ++ [n])) (q : ns.Pairwise (· ≤ ·)) : Plus ids n ns := by
  have nd : (ids ++ [n]).Nodup := by
    rw [List.nodup_append]
    refine ⟨h1.imp fun h => by omega, by simp, ?_⟩
    intro a ha b hb e
    rw [List.mem_singleton] at hb
    subst hb e
    exact h2 ha
  have nd2 : ns.Nodup := p.nodup_iff.mpr nd
  refine ⟨?_, fun x => ?_, ?_⟩
  · exact (q.and nd2).imp fun ⟨a, b⟩ => by omega
  · rw [p.mem_iff, List.mem_append, List.mem_singleton]
  · rw [p.length_eq, List.length_append]; rfl
theorem Plus.ids {xs ns : List Int} {n : Int} (h : Plus xs n ns) (hi : Ids xs) (h0 : 1 ≤ n) (h1 : n ≤ 99) : Ids ns := ⟨h.lt, fun x hx => by
  rcases (h.mem x).mp hx with hx | rfl
  · exact hi.2 x hx
  · exact ⟨h0, h1⟩⟩
def sp__law_with_id : DSp := fun ds G Q _ => ∃ (ids : List Int) (n : Int), ds = [.tup (ids.map .int), .int n] ∧ ids.length ≤ 1000 ∧ ids.Pairwise (· < ·) ∧ n ∉ ids ∧ ∀ ns, Plus ids n ns → Q (.tup (ns.map .int)) G
theorem abs__law_with_id (ds : List D) (G : Gp) (Q : D → Gp → Prop) (E : DXK) (h : sp__law_with_id ds G Q E) : sq__law_with_id ds G Q E := by
  obtain ⟨ids, n, rfl, hl, h1, h2, q⟩ := h
  simp! only [↓sq__law_with_id, ↓rd__law_with_id]
  rw [if_pos (by omega), optQ_e]
  have e : ids.map D.int ++ [D.int n] = (ids ++ [n]).map D.int := by rw [List.map_append]; rfl
  simp! only [e]
  exact fun ns p1 p2 => rt_same (q ns (.of h1 h2 p1 p2))

def rd__law_live : DTS :=
  (dSeq (dIfS (dTest (dOp (dEqR) (dOp dIx (dVar 0) (dC (.int 0))) (dC (.str (Str.ofString "choice")))))
  (dRet (dB dListC (dCons (dOp dIx (dVar 0) (dC (.int 1))) dNil)))
  dNext)
  (dRet (dLc (dIt (dOp dIx (dVar 0) (dC (.int 1)))) (dName 1) dYes (dOp dIx (dVar 1) (dC (.int 0))) [1])))
def sq__law_live : DSp := spOf 1 1 rd__law_live

def sp__law_live : DSp := fun ds G Q _ => ∃ (b : D) (live ret : List Int), ds = [b] ∧ HasIds b live ret ∧ Q (.lv (live.map .int)) G
theorem abs__law_live (ds : List D) (G : Gp) (Q : D → Gp → Prop) (E : DXK) (h : sp__law_live ds G Q E) : sq__law_live ds G Q E := by
  obtain ⟨b, live, ret, rfl, hb, q⟩ := h
  cases hb with
  | choice s r o =>
    simp! only [↓sq__law_live, ↓rd__law_live, Leaf.d]
    exact rt_same q
  | rcd fs r hl =>
    simp! only [↓sq__law_live, ↓rd__law_live, Body.d]
    refine comp_map (S := fun _ => True) Field.d (fun _ => true) (fun f => .int f.id) trivial fs [] (by rw [szL]; simp; omega) (fun f hf K1 K0 h1 h0 => ?_) ?_
    · simp! only [Field.d]
      exact h1 rfl
    · rw [List.filter_eq_self.mpr (fun _ _ => rfl), List.nil_append]
      rw [List.map_map] at q
      exact rt_same q
  | uni cs r o hl =>
    simp! only [↓sq__law_live, ↓rd__law_live, Body.d]
    refine comp_map (S := fun _ => True) caseD (fun _ => true) (fun f => .int f.1) trivial cs [] (by rw [szL]; simp; omega) (fun f hf K1 K0 h1 h0 => ?_) ?_
    · simp! only [caseD]
      exact h1 rfl
    · rw [List.filter_eq_self.mpr (fun _ _ => rfl), List.nil_append]
      rw [List.map_map] at q
      exact rt_same q

def rd__law_free_id : DTS :=
  (dSeq (dAsg (dCall sp__law_next (dCons (dVar 1) (dCons (dC (.int 25)) dNil))) (dName 2))
  (dSeq (dFor (dRng1 (dCons (dC (.int 99)) dNil)) (dName 3)
  (dSeq (dAsg (dOp (dPure2 dAdd) (dOp (dPure2 dMod) (dB dIntC (dCons (dOp (dPure2 dAdd) (dVar 2) (dVar 3)) dNil)) (dC (.int 99))) (dC (.int 1))) (dName 4))
  (dIfS (dAndT (dTest (dOp (dInR true) (dVar 4) (dCall sp__law_live (dCons (dVar 0) dNil)))) (dTest (dOp (dInR true) (dVar 4) (dOp dIx (dVar 0) (dC (.int 2))))))
  (dRet (dVar 4))
  dNext)))
  (dRet (dC (.int 0)))))
def sq__law_free_id : DSp := spOf 2 3 rd__law_free_id

def sp__law_free_id : DSp := fun ds G Q _ => ∃ (b : D) (live ret : List Int) (d : Addr), ds = [b, .ref d] ∧ HasIds b live ret ∧ isDr G d ∧ live.length + ret.length ≤ 98 ∧ ∀ n : Int, 1 ≤ n → n ≤ 99 → n ∉ live → n ∉ ret → Q (.int n) G
theorem abs__law_free_id (ds : List D) (G : Gp) (Q : D → Gp → Prop) (E : DXK) (h : sp__law_free_id ds G Q E) : sq__law_free_id ds G Q E := by
  obtain ⟨b, live, ret, d, rfl, hb, hd, hl, q⟩ := h
  simp! only [↓sq__law_free_id, ↓rd__law_free_id]
  refine ⟨d, 25, rfl, hd, by decide, fun i i0 i1 => ?_⟩
  refine loop_rng 99 0 (fun j δ G' => G' = G ∧ (∃ k3 k4, δ = [some b, some (.ref d), some (.int i), k3, k4]) ∧ ∀ k : Int, 0 ≤ k → k < j → (i + k) % 99 + 1 ∈ live ++ ret) ?_ ?_ _ _ ⟨rfl, ⟨none, none, rfl⟩, fun k k0 k1 => by omega⟩
  · rintro j δ G' K hj ⟨rfl, ⟨k3, k4, rfl⟩, h⟩ hK
    try simp!
    refine ⟨b, live, ret, rfl, hb, ?_⟩
    try simp! only [hb.two, pl_ints, dep_ints, dEqL_any]
    have hm : ∀ z, (i + (0 + (j : Int))) % 99 + 1 = z → 1 ≤ z ∧ z ≤ 99 := fun z e => by omega
    generalize hz : (i + (0 + (j : Int))) % 99 + 1 = z at hm
    obtain ⟨z0, z1⟩ := hm z rfl
    have next : z ∈ live ++ ret → ∀ k : Int, 0 ≤ k → k < (j + 1 : Nat) → (i + k) % 99 + 1 ∈ live ++ ret := fun m k k0 k1 => by
      by_cases e : k < j
      · exact h k k0 e
      · rw [show k = 0 + (j : Int) by omega, hz]
        exact m
    refine dCond2 (fun a => ?_) (fun a => ?_)
    · refine dCond2 (fun c => ?_) (fun c => ?_)
      · refine rt_same (q z z0 z1 (fun m => ?_) (fun m => ?_))
        · rw [List.contains_iff_mem.mpr m] at a; cases a
        · rw [List.contains_iff_mem.mpr m] at c; cases c
      · refine hK _ _ ⟨rfl, ⟨_, _, rfl⟩, next (List.mem_append_right _ ?_)⟩
        simpa using c
    · refine hK _ _ ⟨rfl, ⟨_, _, rfl⟩, next (List.mem_append_left _ ?_)⟩
      simpa using a
  · rintro δ G' ⟨rfl, ⟨k3, k4, rfl⟩, h⟩
    have := pigeon 99 (live ++ ret) fun m m0 m1 => by
      by_cases c : i ≤ m - 1
      · have := h (m - 1 - i) (by omega) (by omega)
        rwa [show (i + (m - 1 - i)) % 99 + 1 = m by omega] at this
      · have := h (m - 1 - i + 99) (by omega) (by omega)
        rwa [show (i + (m - 1 - i + 99)) % 99 + 1 = m by omega] at this
    rw [List.length_append] at this
    omega

def rd__law_step_leaf : DTS :=
  (dSeq (dIfS (dTest (dOp (dEqR) (dOp dIx (dVar 0) (dC (.int 0))) (dC (.str (Str.ofString "number")))))
  (dRet (dTup (dCons (dC (.str (Str.ofString "number"))) (dCons (dB dMax2 (dCons (dUn (dPure1 dNeg) (dOp (dPure2 dPow) (dC (.int 10)) (dC (.int 15)))) (dCons (dOp (dPure2 dSub) (dOp dIx (dVar 0) (dC (.int 1))) (dCall sp__law_next (dCons (dVar 1) (dCons (dC (.int 3)) dNil)))) dNil))) (dCons (dB dMin2 (dCons (dOp (dPure2 dPow) (dC (.int 10)) (dC (.int 15))) (dCons (dOp (dPure2 dAdd) (dOp dIx (dVar 0) (dC (.int 2))) (dCall sp__law_next (dCons (dVar 1) (dCons (dC (.int 3)) dNil)))) dNil))) dNil)))))
  dNext)
  (dSeq (dIfS (dTest (dOp (dEqR) (dOp dIx (dVar 0) (dC (.int 0))) (dC (.str (Str.ofString "text")))))
  (dRet (dTup (dCons (dC (.str (Str.ofString "text"))) (dCons (dB dMax2 (dCons (dC (.int 0)) (dCons (dOp (dPure2 dSub) (dOp dIx (dVar 0) (dC (.int 1))) (dCall sp__law_next (dCons (dVar 1) (dCons (dC (.int 2)) dNil)))) dNil))) (dCons (dB dMin2 (dCons (dC (.int 40)) (dCons (dOp (dPure2 dAdd) (dOp dIx (dVar 0) (dC (.int 2))) (dCall sp__law_next (dCons (dVar 1) (dCons (dC (.int 3)) dNil)))) dNil))) dNil)))))
  dNext)
  (dSeq (dAsg (dCall sp__law_next (dCons (dVar 1) (dCons (dC (.int 3)) dNil))) (dName 2))
  (dSeq (dAsg (dCall sp__law_free_id (dCons (dVar 0) (dCons (dVar 1) dNil))) (dName 3))
  (dSeq (dIfS (dAndT (dTest (dOp (dEqR) (dVar 2) (dC (.int 1)))) (dTest (dOp (dPure2 dGt) (dB dLen (dCons (dOp dIx (dVar 0) (dC (.int 1))) dNil)) (dC (.int 0)))))
  (dSeq (dAsg (dOp dIx (dOp dIx (dVar 0) (dC (.int 1))) (dCall sp__law_next (dCons (dVar 1) (dCons (dB dLen (dCons (dOp dIx (dVar 0) (dC (.int 1))) dNil)) dNil)))) (dName 4))
  (dRet (dTup (dCons (dC (.str (Str.ofString "choice"))) (dCons (dB dTupleC (dCons (dLc (dIt (dOp dIx (dVar 0) (dC (.int 1)))) (dName 5) (dTest (dOp (dNeR) (dVar 5) (dVar 4))) (dVar 5) [5]) dNil)) (dCons (dCall sp__law_with_id (dCons (dOp dIx (dVar 0) (dC (.int 2))) (dCons (dVar 4) dNil))) (dCons (dC (.bl true)) dNil)))))))
  dNext)
  (dSeq (dIfS (dOrT (dTest (dOp (dEqR) (dVar 2) (dC (.int 2)))) (dTest (dOp (dEqR) (dVar 3) (dC (.int 0)))))
  (dRet (dTup (dCons (dC (.str (Str.ofString "choice"))) (dCons (dOp dIx (dVar 0) (dC (.int 1))) (dCons (dOp dIx (dVar 0) (dC (.int 2))) (dCons (dC (.bl true)) dNil))))))
  dNext)
  (dRet (dTup (dCons (dC (.str (Str.ofString "choice"))) (dCons (dCall sp__law_with_id (dCons (dOp dIx (dVar 0) (dC (.int 1))) (dCons (dVar 3) dNil))) (dCons (dOp dIx (dVar 0) (dC (.int 2))) (dCons (dOp dIx (dVar 0) (dC (.int 3))) dNil))))))))))))
def sq__law_step_leaf : DSp := spOf 2 4 rd__law_step_leaf

theorem idsFol_of {ol or nl nr : List Int} (h1 : ∀ x ∈ ol, x ∈ nl ∨ x ∈ nr) (h2 : ∀ x ∈ or, x ∈ nr) : idsFol ol or nl nr = true := by
  unfold idsFol
  rw [Bool.and_eq_true, List.all_eq_true, List.all_eq_true]
  refine ⟨fun x hx => ?_, fun x hx => List.contains_iff_mem.mpr (h2 x hx)⟩
  rcases h1 x hx with h | h
  · rw [List.contains_iff_mem.mpr h]; rfl
  · rw [List.contains_iff_mem.mpr h, Bool.or_true]
def sp__law_step_leaf : DSp := fun ds G Q _ => ∃ (L : Leaf) (d : Addr), ds = [L.d, .ref d] ∧ L.wf ∧ L.size ≤ 90 ∧ isDr G d ∧ ∀ M : Leaf, M.wf → M.size ≤ L.size + 1 → L.fol M = true → Q M.d G
theorem abs__law_step_leaf (ds : List D) (G : Gp) (Q : D → Gp → Prop) (E : DXK) (h : sp__law_step_leaf ds G Q E) : sq__law_step_leaf ds G Q E := by
  obtain ⟨L, d, rfl, hw, hs, hd, q⟩ := h
  cases L with
  | number lo hi =>
    obtain ⟨w1, w2, w3⟩ := hw
    simp! only [↓sq__law_step_leaf, ↓rd__law_step_leaf, Leaf.d]
    refine ⟨d, 3, rfl, hd, by decide, fun i i0 i1 => ?_⟩
    try simp!
    refine ⟨d, 3, rfl, hd, by decide, fun j j0 j1 => ?_⟩
    try simp!
    refine rt_same (q (.number _ _) ⟨?_, ?_, ?_⟩ (Nat.zero_le _) ?_)
    · split <;> omega
    · split <;> split <;> omega
    · split <;> omega
    · unfold Leaf.fol
      rw [Bool.and_eq_true, decide_eq_true_iff, decide_eq_true_iff]
      constructor <;> split <;> omega
  | text lo hi =>
    obtain ⟨w1, w2, w3⟩ := hw
    simp! only [↓sq__law_step_leaf, ↓rd__law_step_leaf, Leaf.d]
    refine ⟨d, 2, rfl, hd, by decide, fun i i0 i1 => ?_⟩
    try simp!
    refine ⟨d, 3, rfl, hd, by decide, fun j j0 j1 => ?_⟩
    try simp!
    refine rt_same (q (.text _ _) ⟨?_, ?_, ?_⟩ (Nat.zero_le _) ?_)
    · split <;> omega
    · split <;> split <;> omega
    · split <;> omega
    · unfold Leaf.fol
      rw [Bool.and_eq_true, decide_eq_true_iff, decide_eq_true_iff]
      constructor <;> split <;> omega
  | choice sy rt op =>
    obtain ⟨w1, w2, w3, w4⟩ := hw
    have hs' : sy.length + rt.length ≤ 90 := hs
    simp! only [↓sq__law_step_leaf, ↓rd__law_step_leaf, Leaf.d]
    refine ⟨d, 3, rfl, hd, by decide, fun i i0 i1 => ?_⟩
    refine ⟨_, sy, rt, d, rfl, .choice sy rt op, hd, by omega, fun n n0 n1 n2 n3 => ?_⟩
    try simp!
    have fin : ∀ M : Leaf, M.wf → M.size ≤ sy.length + rt.length + 1 → (Leaf.choice sy rt op).fol M = true → rtOf Q M.d G := fun M h1 h2 h3 => rt_same (q M h1 h2 h3)
    have opn : rtOf Q (.tup [.str (Str.ofString "choice"), .tup (sy.map .int), .tup (rt.map .int), .bl true]) G :=
      fin (.choice sy rt true) ⟨w1, w2, w3, fun z => by cases z⟩ (Nat.le_succ _) (by
        rw [fol_c, idsFol_of (fun x hx => .inl hx) (fun x hx => hx)]
        rfl)
    have more : spQ sp__law_with_id [.tup (sy.map .int), .int n] G fun x G1 => rtOf Q (.tup [.str (Str.ofString "choice"), x, .tup (rt.map .int), .bl op]) G1 :=
      ⟨sy, n, rfl, by omega, w1.1, n2, fun ns hp => fin (.choice ns rt op) ⟨hp.ids w1 n0 n1, w2, fun x hx hr => by
        rcases (hp.mem x).mp hx with h | rfl
        · exact w3 x h hr
        · exact n3 hr, fun z => ⟨(w4 z).1, fun e => by have := hp.len; rw [e] at this; cases this⟩⟩ (by have := hp.len; rw [size_c]; omega) (by
        rw [fol_c, idsFol_of (fun x hx => .inl ((hp.mem x).mpr (.inl hx))) (fun x hx => hx)]
        cases op <;> rfl)⟩
    have last : dCond (i == 2) (rtOf Q (.tup [.str (Str.ofString "choice"), .tup (sy.map .int), .tup (rt.map .int), .bl true]) G)
        (dCond (n == 0) (rtOf Q (.tup [.str (Str.ofString "choice"), .tup (sy.map .int), .tup (rt.map .int), .bl true]) G) (spQ sp__law_with_id [.tup (sy.map .int), .int n] G fun x G1 => rtOf Q (.tup [.str (Str.ofString "choice"), x, .tup (rt.map .int), .bl op]) G1)) := dCond2 (fun _ => opn) fun _ => dCond2 (fun _ => opn) fun _ => more
    refine dCond2 (fun _ => dCond2 (fun a => ?_) (fun _ => ?_)) (fun _ => ?_)
    · have hne := of_decide_eq_true a
      refine ⟨d, _, rfl, hd, hne, fun j j0 j1 => ?_⟩
      obtain ⟨g, hg, eg⟩ := at_map D.int sy j j0 j1
      try simp! only [eg]
      have spl : (sy.filter fun x => !(x == g)).length + 1 = sy.length := by
        exact less_one w1.1 hg
      refine comp_map (S := stabS (sy.map D.int, none)) D.int (fun x => !(x == g)) D.int trivial sy [] (by rw [szL]; simp; omega) (fun x hx K1 K0 h1 h0 => ?_) ?_
      · try simp!
        refine dCond2 (fun e => h1 e) (fun e => h0 e)
      · refine ⟨rt, g, rfl, by omega, w2.1, w3 g hg, fun ns hp => ?_⟩
        refine fin (.choice (sy.filter fun x => !(x == g)) ns true) ⟨w1.sub List.filter_sublist, hp.ids w2 (w1.2 g hg).1 (w1.2 g hg).2, fun x hx hr => ?_, fun z => by cases z⟩ (by have := hp.len; rw [size_c]; omega) ?_
        · rw [List.mem_filter] at hx
          rcases (hp.mem x).mp hr with h | rfl
          · exact w3 x hx.1 h
          · simp at hx
        · rw [fol_c, idsFol_of (fun x hx => ?_) (fun x hx => (hp.mem x).mpr (.inl hx))]
          · rfl
          · by_cases e : x = g
            · exact .inr ((hp.mem x).mpr (.inr e))
            · exact .inl (List.mem_filter.mpr ⟨hx, by simpa using e⟩)
    · exact last
    · exact last

def rd__law_read_leaf : DTS :=
  (dSeq (dIfS (dTest (dOp (dEqR) (dOp dIx (dVar 0) (dC (.int 0))) (dC (.str (Str.ofString "number")))))
  (dSeq (dIfS (dTest (dChain (dPure2 dLe) (dPure2 dLe) (dOp dIx (dVar 0) (dC (.int 1))) (dVar 1) (dOp dIx (dVar 0) (dC (.int 2)))))
  (dRet (dTup (dCons (dC (.str (Str.ofString "read"))) (dCons (dVar 1) dNil))))
  dNext)
  (dRet (dTup (dCons (dC (.str (Str.ofString "not"))) (dCons (dVar 2) (dCons (dC (.str (Str.ofString "range"))) dNil))))))
  dNext)
  (dSeq (dIfS (dTest (dOp (dEqR) (dOp dIx (dVar 0) (dC (.int 0))) (dC (.str (Str.ofString "text")))))
  (dSeq (dIfS (dTest (dChain (dPure2 dLe) (dPure2 dLe) (dOp dIx (dVar 0) (dC (.int 1))) (dB dLen (dCons (dVar 1) dNil)) (dOp dIx (dVar 0) (dC (.int 2)))))
  (dRet (dTup (dCons (dC (.str (Str.ofString "read"))) (dCons (dVar 1) dNil))))
  dNext)
  (dRet (dTup (dCons (dC (.str (Str.ofString "not"))) (dCons (dVar 2) (dCons (dC (.str (Str.ofString "range"))) dNil))))))
  dNext)
  (dSeq (dIfS (dTest (dOp (dInR false) (dVar 1) (dOp dIx (dVar 0) (dC (.int 1)))))
  (dRet (dTup (dCons (dC (.str (Str.ofString "read"))) (dCons (dVar 1) dNil))))
  dNext)
  (dSeq (dIfS (dTruth (dOp dIx (dVar 0) (dC (.int 3))))
  (dRet (dTup (dCons (dC (.str (Str.ofString "read"))) (dCons (dC (.int 0)) dNil))))
  dNext)
  (dRet (dTup (dCons (dC (.str (Str.ofString "not"))) (dCons (dVar 2) (dCons (dC (.str (Str.ofString "symbol"))) dNil)))))))))
def sq__law_read_leaf : DSp := spOf 3 0 rd__law_read_leaf

def sp__law_read_leaf : DSp := fun ds G Q _ => ∃ (L M : Leaf) (v p : D), ds = [M.d, v, p] ∧ L.wf ∧ M.wf ∧ L.fol M = true ∧ L.has v = true ∧ dVal v = true ∧ ∀ w, Q (.tup [.str (Str.ofString "read"), w]) G
theorem abs__law_read_leaf (ds : List D) (G : Gp) (Q : D → Gp → Prop) (E : DXK) (h : sp__law_read_leaf ds G Q E) : sq__law_read_leaf ds G Q E := by
  obtain ⟨L, M, v, p, rfl, wl, wm, hf, hv, hd, q⟩ := h
  cases L with
  | number a b =>
    cases M with
    | number c e =>
      cases v with
      | int i =>
        simp only [Leaf.has, Leaf.fol, Bool.and_eq_true, decide_eq_true_iff] at hv hf
        simp! only [↓sq__law_read_leaf, ↓rd__law_read_leaf, Leaf.d]
        rw [decide_eq_true (show c ≤ i by omega), decide_eq_true (show i ≤ e by omega)]
        exact rt_same (q _)
      | _ => cases hv
    | _ => cases hf
  | text a b =>
    cases M with
    | text c e =>
      cases v with
      | str s =>
        simp only [Leaf.has, Leaf.fol, Bool.and_eq_true, decide_eq_true_iff] at hv hf
        obtain ⟨⟨v1, v2⟩, v3⟩ := hv
        obtain ⟨w1, w2, w3⟩ := wl
        simp! only [↓sq__law_read_leaf, ↓rd__law_read_leaf, Leaf.d]
        rw [if_pos (by omega)]
        try simp!
        rw [decide_eq_true (show c ≤ (s.length : Int) by omega), decide_eq_true (show (s.length : Int) ≤ e by omega)]
        exact rt_same (q _)
      | _ => cases hv
    | _ => cases hf
  | choice s r o =>
    cases M with
    | choice s2 r2 o2 =>
      cases v with
      | int i =>
        rw [fol_c, Bool.and_eq_true] at hf
        simp! only [↓sq__law_read_leaf, ↓rd__law_read_leaf, Leaf.d, pl_ints, dep_ints, dEqL_any]
        refine dCond2 (fun _ => rt_same (q _)) (fun k => dCond2 (fun _ => rt_same (q _)) (fun k2 => ?_))
        exfalso
        obtain ⟨h1, h2⟩ := hf
        subst k2
        have hr := (wm.2.2.2 rfl).1
        have ho : o = false := by simpa using h2
        subst ho hr
        have hs : i ∈ s := by simpa [Leaf.has] using hv
        unfold idsFol at h1
        rw [Bool.and_eq_true, List.all_eq_true] at h1
        have := h1.1 i hs
        rw [k] at this
        cases this
      | _ => cases hv
    | _ => cases hf

def rd__law_same (sb__law_same : DSp) : DTS :=
  (dSeq (dIfS (dTest (dUn (dIsN false) (dVar 1)))
  (dRet (dUn (dIsN false) (dVar 0)))
  dNext)
  (dSeq (dIfS (dTruth (dIsi "tuple" (dVar 1)))
  (dSeq (dIfS (dOrT (dNotT (dTruth (dIsi "tuple" (dVar 0)))) (dTest (dOp (dNeR) (dB dLen (dCons (dVar 0) dNil)) (dB dLen (dCons (dVar 1) dNil)))))
  (dRet (dC (.bl false)))
  dNext)
  (dSeq (dFor (dRng1 (dCons (dB dLen (dCons (dVar 1) dNil)) dNil)) (dName 2)
  (dIfS (dNotT (dTruth (dCall sb__law_same (dCons (dOp dIx (dVar 0) (dVar 2)) (dCons (dOp dIx (dVar 1) (dVar 2)) dNil)))))
  (dRet (dC (.bl false)))
  dNext))
  (dRet (dC (.bl true)))))
  dNext)
  (dSeq (dIfS (dTruth (dIsi "bool" (dVar 1)))
  (dRet (dAnd (dIsi "bool" (dVar 0)) (dOp (dEqR) (dVar 0) (dVar 1))))
  dNext)
  (dSeq (dIfS (dTruth (dIsi "int" (dVar 1)))
  (dRet (dAnd (dIsi "int" (dVar 0)) (dAnd (dNot (dIsi "bool" (dVar 0))) (dOp (dEqR) (dVar 0) (dVar 1)))))
  dNext)
  (dRet (dAnd (dIsi "str" (dVar 0)) (dOp (dEqR) (dVar 0) (dVar 1))))))))
def sq__law_same (sb__law_same : DSp) : DSp := spOf 2 1 (rd__law_same sb__law_same)

def sp__law_same : Nat → DSp
  | 0 => fun _ _ _ _ => False
  | n + 1 => fun ds G Q _ => ∃ a e, ds = [a, e] ∧ dPn a = true ∧ dPn e = true ∧ dDep e ≤ n ∧ dWL [a, e] ≤ 1000000 ∧ (a = e → Q (.bl true) G) ∧ (a ≠ e → Q (.bl false) G)
theorem abs__law_same (n : Nat) (ds : List D) (G : Gp) (Q : D → Gp → Prop) (E : DXK) (h : sp__law_same (n + 1) ds G Q E) : sq__law_same (sp__law_same n) ds G Q E := by
  obtain ⟨a, e, rfl, ha, he, hd, hw, q1, q0⟩ := h
  have f0 : a ≠ e → rtOf Q (.bl false) G := fun h => rt_same (q0 h)
  have f1 : a = e → rtOf Q (.bl true) G := fun h => rt_same (q1 h)
  cases e with
  | non =>
    simp! only [↓sq__law_same, ↓rd__law_same]
    cases a with
    | non => exact f1 rfl
    | dv _ => cases ha
    | pv _ => cases ha
    | lv _ => cases ha
    | rl _ => cases ha
    | ref _ => cases ha
    | _ => exact f0 (by intro z; cases z)
  | bl b =>
    simp! only [↓sq__law_same, ↓rd__law_same]
    cases a with
    | bl c =>
      try simp!
      by_cases z : c = b
      · subst z
        try simp!
        exact f1 rfl
      · have : (c == b) = false := beq_eq_false_iff_ne.mpr z
        rw [this]
        exact f0 (fun q => z (D.bl.inj q))
    | dv _ => cases ha
    | pv _ => cases ha
    | lv _ => cases ha
    | rl _ => cases ha
    | ref _ => cases ha
    | _ =>
      try simp!
      exact f0 (by intro z; cases z)
  | int i =>
    simp! only [↓sq__law_same, ↓rd__law_same]
    cases a with
    | int c =>
      try simp!
      by_cases z : c = i
      · subst z
        try simp!
        exact f1 rfl
      · have : (c == i) = false := beq_eq_false_iff_ne.mpr z
        rw [this]
        exact f0 (fun q => z (D.int.inj q))
    | dv _ => cases ha
    | pv _ => cases ha
    | lv _ => cases ha
    | rl _ => cases ha
    | ref _ => cases ha
    | _ =>
      try simp!
      exact f0 (by intro z; cases z)
  | str s =>
    simp! only [↓sq__law_same, ↓rd__law_same]
    cases a with
    | str c =>
      try simp!
      by_cases z : c = s
      · subst z
        try simp!
        exact f1 rfl
      · have : (c == s) = false := beq_eq_false_iff_ne.mpr z
        rw [this]
        exact f0 (fun q => z (D.str.inj q))
    | dv _ => cases ha
    | pv _ => cases ha
    | lv _ => cases ha
    | rl _ => cases ha
    | ref _ => cases ha
    | _ =>
      try simp!
      exact f0 (by intro z; cases z)
  | tup es =>
    simp! only [↓sq__law_same, ↓rd__law_same]
    cases a with
    | tup as =>
      have hl1 := dWL_len es
      have hw' : dWL as + 1 + (dWL es + 1 + 0) ≤ 1000000 := hw
      have hd' : dDepL es + 1 ≤ n := hd
      try simp!
      refine dCond2 (fun a => ?_) (fun a => ?_)
      · refine f0 fun z => ?_
        cases z
        simp at a
      · have hl : as.length = es.length := by
          rw [Bool.not_eq_false'] at a
          have := eq_of_beq a
          omega
        refine ⟨by omega, by omega, ?_⟩
        rw [Int.toNat_natCast]
        refine loop_rng _ 0 (fun j δ G' => G = G' ∧ (∃ k, δ = [some (.tup as), some (.tup es), k]) ∧ as.take j = es.take j) ?_ ?_ _ _ ⟨rfl, ⟨none, rfl⟩, rfl⟩
        · rintro j δ G' K hj ⟨rfl, ⟨k, rfl⟩, ht⟩ hK
          have e1 : atI as (0 + (j : Int)) = some as[j] := by rw [Int.zero_add]; exact atI_nat (List.getElem?_eq_getElem (by omega))
          have e2 : atI es (0 + (j : Int)) = some es[j] := by rw [Int.zero_add]; exact atI_nat (List.getElem?_eq_getElem hj)
          try simp! only [e1, e2]
          have m1 : as[j] ∈ as := List.getElem_mem _
          have m2 : es[j] ∈ es := List.getElem_mem _
          have w1 := dWL_mem m1
          have w2 := dWL_mem m2
          have d2 := dDepL_mem m2
          cases n with
          | zero => omega
          | succ n =>
            refine ⟨as[j], es[j], rfl, dPnL_mem ha m1, dPnL_mem he m2, by omega, by show dW as[j] + (dW es[j] + 0) ≤ 1000000; omega, fun z => ?_, fun z => ?_⟩
            · try simp!
              refine hK _ _ ⟨rfl, ⟨_, rfl⟩, ?_⟩
              rw [List.take_succ, List.take_succ, ht, List.getElem?_eq_getElem hj, List.getElem?_eq_getElem (by omega : j < as.length), z]
            · try simp!
              refine f0 fun q => z ?_
              cases q
              rfl
        · rintro δ G' ⟨rfl, ⟨k, rfl⟩, ht⟩
          try simp!
          refine f1 ?_
          rw [List.take_length, ← hl, List.take_length] at ht
          rw [ht]
    | dv _ => cases ha
    | pv _ => cases ha
    | lv _ => cases ha
    | rl _ => cases ha
    | ref _ => cases ha
    | _ =>
      try simp!
      exact f0 (by intro z; cases z)
  | _ => cases he

def rd__law_ids_follow : DTS :=
  (dSeq (dFor (dIt (dCall sp__law_live (dCons (dVar 0) dNil))) (dName 2)
  (dIfS (dAndT (dTest (dOp (dInR true) (dVar 2) (dCall sp__law_live (dCons (dVar 1) dNil)))) (dTest (dOp (dInR true) (dVar 2) (dOp dIx (dVar 1) (dC (.int 2))))))
  (dRet (dC (.bl false)))
  dNext))
  (dRet (dOp (dEqR) (dB dLen (dCons (dLc (dIt (dOp dIx (dVar 0) (dC (.int 2)))) (dName 2) (dTest (dOp (dInR true) (dVar 2) (dOp dIx (dVar 1) (dC (.int 2))))) (dVar 2) [2]) dNil)) (dC (.int 0)))))
def sq__law_ids_follow : DSp := spOf 2 1 rd__law_ids_follow

def sp__law_ids_follow : DSp := fun ds G Q _ => ∃ (b c : D) (ol or nl nr : List Int), ds = [b, c] ∧ HasIds b ol or ∧ HasIds c nl nr ∧ ol.length ≤ 1000 ∧ or.length ≤ 1000 ∧ Q (.bl (idsFol ol or nl nr)) G
theorem abs__law_ids_follow (ds : List D) (G : Gp) (Q : D → Gp → Prop) (E : DXK) (h : sp__law_ids_follow ds G Q E) : sq__law_ids_follow ds G Q E := by
  obtain ⟨b, c, ol, or, nl, nr, rfl, hb, hc, l1, l2, q⟩ := h
  simp! only [↓sq__law_ids_follow, ↓rd__law_ids_follow]
  refine ⟨b, ol, or, rfl, hb, ?_⟩
  try simp!
  unfold idsFol at q
  refine loop_map D.int ol (fun pre δ G' => G' = G ∧ (∃ k, δ = [some b, some c, k]) ∧ ∀ x ∈ pre, (nl.contains x || nr.contains x) = true) ?_ ?_ _ _ ⟨rfl, ⟨none, rfl⟩, fun x hx => by cases hx⟩
  · rintro pre x post δ G' K e ⟨rfl, ⟨k, rfl⟩, hp⟩ hK
    refine ⟨trivial, ?_⟩
    have next : (nl.contains x || nr.contains x) = true → ∀ y ∈ pre ++ [x], (nl.contains y || nr.contains y) = true := fun h y hy => by
      rcases List.mem_append.mp hy with hy | hy
      · exact hp y hy
      · rw [List.mem_singleton] at hy
        subst hy
        exact h
    try simp!
    refine ⟨c, nl, nr, rfl, hc, ?_⟩
    try simp! only [hc.two, pl_ints, dep_ints, dEqL_any]
    refine dCond2 (fun a => dCond2 (fun a2 => ?_) (fun a2 => ?_)) (fun a => ?_)
    · have e0 : (ol.all fun n => nl.contains n || nr.contains n) = false := by
        rw [List.all_eq_false]
        refine ⟨x, by rw [e]; exact List.mem_append_right _ List.mem_cons_self, ?_⟩
        rw [Bool.not_eq_true'] at a a2
        rw [a, a2]
        exact Bool.false_ne_true
      rw [e0] at q
      exact rt_same q
    · rw [Bool.not_eq_false'] at a2
      exact hK _ _ ⟨rfl, ⟨_, rfl⟩, next (by rw [a2, Bool.or_true])⟩
    · rw [Bool.not_eq_false'] at a
      exact hK _ _ ⟨rfl, ⟨_, rfl⟩, next (by rw [a]; rfl)⟩
  · rintro δ G' ⟨rfl, ⟨k, rfl⟩, hp⟩
    refine ⟨trivial, ?_⟩
    rw [List.all_eq_true.mpr hp, Bool.true_and] at q
    try simp! only [hb.two]
    refine comp_map (S := stabS (or.map D.int, none)) D.int (fun n => !nr.contains n) D.int trivial or [] (by rw [szL]; simp; omega) (fun x hx K1 K0 h1 h0 => ?_) ?_
    · try simp! only [hc.two, pl_ints, dep_ints, dEqL_any]
      exact dCond2 h1 h0
    · have hl := List.length_filter_le (fun n => !nr.contains n) or
      try simp! only [if_pos (show (or.filter fun n => !nr.contains n).length ≤ 16777216 by omega), len_zz]
      have e : decide ((or.filter fun n => !nr.contains n).length = 0) = or.all fun n => nr.contains n := by
        rw [Bool.eq_iff_iff, decide_eq_true_iff, List.length_eq_zero_iff, List.filter_eq_nil_iff, List.all_eq_true]
        exact ⟨fun h x hx => by simpa using h x hx, fun h x hx => by simpa using h x hx⟩
      rw [e]
      exact rt_same q

def rd__law_leaf_follows : DTS :=
  (dSeq (dIfS (dTest (dOp (dNeR) (dOp dIx (dVar 0) (dC (.int 0))) (dOp dIx (dVar 1) (dC (.int 0)))))
  (dRet (dC (.bl false)))
  dNext)
  (dSeq (dIfS (dTest (dOp (dEqR) (dOp dIx (dVar 0) (dC (.int 0))) (dC (.str (Str.ofString "choice")))))
  (dRet (dAnd (dCall sp__law_ids_follow (dCons (dVar 0) (dCons (dVar 1) dNil))) (dOr (dOp dIx (dVar 1) (dC (.int 3))) (dNot (dOp dIx (dVar 0) (dC (.int 3)))))))
  dNext)
  (dRet (dAnd (dOp (dPure2 dLe) (dOp dIx (dVar 1) (dC (.int 1))) (dOp dIx (dVar 0) (dC (.int 1)))) (dOp (dPure2 dGe) (dOp dIx (dVar 1) (dC (.int 2))) (dOp dIx (dVar 0) (dC (.int 2))))))))
def sq__law_leaf_follows : DSp := spOf 2 0 rd__law_leaf_follows

def sp__law_leaf_follows : DSp := fun ds G Q _ => ∃ L M : Leaf, ds = [L.d, M.d] ∧ L.size ≤ 1000 ∧ Q (.bl (L.fol M)) G
theorem abs__law_leaf_follows (ds : List D) (G : Gp) (Q : D → Gp → Prop) (E : DXK) (h : sp__law_leaf_follows ds G Q E) : sq__law_leaf_follows ds G Q E := by
  obtain ⟨L, M, rfl, hl, q⟩ := h
  have cut : ∀ a b c e : Int, Q (.bl (decide (c ≤ a) && decide (b ≤ e))) G → dCond (decide (c ≤ a)) (rtOf Q (.bl (decide (b ≤ e))) G) (rtOf Q (.bl (decide (c ≤ a))) G) := fun a b c e q => by
    refine dCond2 (fun k => ?_) (fun k => ?_)
    · rw [k, Bool.true_and] at q
      exact rt_same q
    · rw [k, Bool.false_and] at q
      rw [k]
      exact rt_same q
  cases L with
  | number a b =>
    cases M with
    | number c e =>
      simp! only [↓sq__law_leaf_follows, ↓rd__law_leaf_follows, Leaf.d]
      exact cut _ _ _ _ q
    | _ =>
      simp! only [↓sq__law_leaf_follows, ↓rd__law_leaf_follows, Leaf.d]
      exact rt_same q
  | text a b =>
    cases M with
    | text c e =>
      simp! only [↓sq__law_leaf_follows, ↓rd__law_leaf_follows, Leaf.d]
      exact cut _ _ _ _ q
    | _ =>
      simp! only [↓sq__law_leaf_follows, ↓rd__law_leaf_follows, Leaf.d]
      exact rt_same q
  | choice s r o =>
    cases M with
    | choice s2 r2 o2 =>
      rw [size_c] at hl
      rw [fol_c] at q
      simp! only [↓sq__law_leaf_follows, ↓rd__law_leaf_follows, Leaf.d]
      refine ⟨_, _, s, r, s2, r2, rfl, .choice s r o, .choice s2 r2 o2, by omega, by omega, ?_⟩
      try simp!
      refine dCond2 (fun a => ?_) (fun a => ?_)
      · rw [a, Bool.true_and] at q
        cases o2 with
        | true => exact rt_same q
        | false => exact rt_same q
      · rw [a, Bool.false_and] at q
        rw [a]
        exact rt_same q
    | _ =>
      simp! only [↓sq__law_leaf_follows, ↓rd__law_leaf_follows, Leaf.d]
      exact rt_same q

def rd__law_union_of : DTS :=
  (dRet (dB dSortI (dCons (dOp (dPure2 dAdd) (dB dListC (dCons (dVar 0) dNil)) (dLc (dIt (dVar 1)) (dName 2) (dTest (dOp (dInR true) (dVar 2) (dVar 0))) (dVar 2) [2])) dNil)))
def sq__law_union_of : DSp := spOf 2 1 rd__law_union_of

def sp__law_union_of : DSp := fun ds G Q _ => ∃ xs ys : List Int, ds = [.tup (xs.map .int), .tup (ys.map .int)] ∧ xs.Pairwise (· < ·) ∧ ys.Pairwise (· < ·) ∧ xs.length ≤ 1000 ∧ ys.length ≤ 1000 ∧ ∀ ns, Joined xs ys ns → ns.length ≤ xs.length + ys.length → Q (.lv (ns.map .int)) G
theorem le_lt : ∀ {l : List Int}, l.Pairwise (· ≤ ·) → l.Nodup → l.Pairwise (· < ·)
  | [], _, _ => .nil
  | x :: l, h, d => by
    rw [List.pairwise_cons] at h ⊢
    obtain ⟨d1, d2⟩ := List.nodup_cons.mp d
    refine ⟨fun y hy => ?_, le_lt h.2 d2⟩
    have a := h.1 y hy
    have b : x ≠ y := fun z => d1 (by rw [z]; exact hy)
    omega
theorem abs__law_union_of (ds : List D) (G : Gp) (Q : D → Gp → Prop) (E : DXK) (h : sp__law_union_of ds G Q E) : sq__law_union_of ds G Q E := by
  obtain ⟨xs, ys, rfl, hx, hy, lx, ly, q⟩ := h
  simp! only [↓sq__law_union_of, ↓rd__law_union_of]
  refine comp_map D.int (fun k => !xs.contains k) D.int trivial ys [] (by rw [szL, List.length_nil]; omega) (fun k hk K1 K0 k1 k0 => ?_) ?_
  · try simp! only [dEqL_any]
    refine ⟨plL_intsJ xs, ?_⟩
    cases c : xs.contains k with
    | true => exact k0 (by rw [c]; rfl)
    | false => exact k1 (by rw [c]; rfl)
  · have fl := List.length_filter_le (fun k => !xs.contains k) ys
    have e : xs.map D.int ++ (ys.filter fun k => !xs.contains k).map D.int = (xs ++ ys.filter fun k => !xs.contains k).map D.int := by rw [List.map_append]
    simp! only [List.nil_append, e, ints_map, List.length_map]
    rw [if_pos (by omega)]
    try simp!
    intro ns pm pw
    have nd : (xs ++ ys.filter fun k => !xs.contains k).Nodup := List.nodup_append.mpr ⟨asc_nd hx, (asc_nd hy).filter _, fun a ha b hb e => by
      have := (List.mem_filter.mp hb).2
      rw [← e] at this
      simp at this
      exact this ha⟩
    refine rt_same (q ns ⟨le_lt pw (pm.nodup_iff.mpr nd), fun k => ?_⟩ (by rw [pm.length_eq, List.length_append]; omega))
    rw [pm.mem_iff, List.mem_append, List.mem_filter]
    constructor
    · rintro (m | m)
      · exact .inl m
      · exact .inr m.1
    · rintro (m | m)
      · exact .inl m
      · by_cases c : k ∈ xs
        · exact .inl c
        · exact .inr ⟨m, by simpa using c⟩

def rd__law_join_leaf : DTS :=
  (dSeq (dIfS (dTest (dOp (dNeR) (dOp dIx (dVar 0) (dC (.int 0))) (dC (.str (Str.ofString "choice")))))
  (dRet (dTup (dCons (dOp dIx (dVar 0) (dC (.int 0))) (dCons (dB dMin2 (dCons (dOp dIx (dVar 0) (dC (.int 1))) (dCons (dOp dIx (dVar 1) (dC (.int 1))) dNil))) (dCons (dB dMax2 (dCons (dOp dIx (dVar 0) (dC (.int 2))) (dCons (dOp dIx (dVar 1) (dC (.int 2))) dNil))) dNil)))))
  dNext)
  (dSeq (dAsg (dCall sp__law_union_of (dCons (dOp dIx (dVar 0) (dC (.int 2))) (dCons (dOp dIx (dVar 1) (dC (.int 2))) dNil))) (dName 2))
  (dSeq (dAsg (dLc (dIt (dCall sp__law_union_of (dCons (dOp dIx (dVar 0) (dC (.int 1))) (dCons (dOp dIx (dVar 1) (dC (.int 1))) dNil)))) (dName 4) (dTest (dOp (dInR true) (dVar 4) (dVar 2))) (dVar 4) [4]) (dName 3))
  (dRet (dTup (dCons (dC (.str (Str.ofString "choice"))) (dCons (dB dTupleC (dCons (dVar 3) dNil)) (dCons (dB dTupleC (dCons (dVar 2) dNil)) (dCons (dOr (dOp dIx (dVar 0) (dC (.int 3))) (dOp dIx (dVar 1) (dC (.int 3)))) dNil)))))))))
def sq__law_join_leaf : DSp := spOf 2 3 rd__law_join_leaf

def sp__law_join_leaf : DSp := fun ds G Q _ => ∃ L M : Leaf, ds = [L.d, M.d] ∧ L.wf ∧ M.wf ∧ L.kind = M.kind ∧ ∀ J, IsJoin L M J → Q J.d G
theorem abs__law_join_leaf (ds : List D) (G : Gp) (Q : D → Gp → Prop) (E : DXK) (h : sp__law_join_leaf ds G Q E) : sq__law_join_leaf ds G Q E := by
  obtain ⟨L, M, rfl, wL, wM, hk, q⟩ := h
  cases L with
  | number a b =>
    cases M with
    | number c e =>
      simp! only [↓sq__law_join_leaf, ↓rd__law_join_leaf, Leaf.d]
      exact rt_same (q _ (.number a b c e))
    | text c e => cases hk
    | choice s r o => cases hk
  | text a b =>
    cases M with
    | number c e => cases hk
    | text c e =>
      simp! only [↓sq__law_join_leaf, ↓rd__law_join_leaf, Leaf.d]
      exact rt_same (q _ (.text a b c e))
    | choice s r o => cases hk
  | choice s r o =>
    cases M with
    | number c e => cases hk
    | text c e => cases hk
    | choice s2 r2 o2 =>
      have l1 := wL.1.len
      have l2 := wL.2.1.len
      have l3 := wM.1.len
      have l4 := wM.2.1.len
      simp! only [↓sq__law_join_leaf, ↓rd__law_join_leaf, Leaf.d]
      refine ⟨r, r2, rfl, wL.2.1.1, wM.2.1.1, by omega, by omega, fun v hv lv => ?_⟩
      try simp!
      refine ⟨s, s2, rfl, wL.1.1, wM.1.1, by omega, by omega, fun u hu lu => ?_⟩
      have J := q _ (.choice o o2 (s := s) (s2 := s2) (u := u) hv hu)
      try simp!
      refine comp_map D.int (fun k => !v.contains k) D.int trivial u [] (by rw [szL, List.length_nil]; omega) (fun k hk K1 K0 k1 k0 => ?_) ?_
      · try simp! only [dEqL_any]
        refine ⟨plL_intsJ v, ?_⟩
        cases c : v.contains k with
        | true => exact k0 (by rw [c]; rfl)
        | false => exact k1 (by rw [c]; rfl)
      · simp! only [List.nil_append]
        cases o with
        | true => exact rt_same J
        | false =>
          cases o2 with
          | true => exact rt_same J
          | false => exact rt_same J

def rd_law : DTS :=
  (dSeq (dAsg (dCall sp__law_draws (dCons (dCall sp__law_cell (dCons (dVar 0) (dCons (dC (.int 0)) dNil))) dNil)) (dName 1))
  (dSeq (dAsg (dCall sp__law_leaf (dCons (dVar 1) dNil)) (dName 2))
  (dSeq (dAsg (dCall sp__law_draws (dCons (dCall sp__law_cell (dCons (dVar 0) (dCons (dC (.int 1)) dNil))) dNil)) (dName 3))
  (dSeq (dAsg (dCall sp__law_step_leaf (dCons (dVar 2) (dCons (dVar 1) dNil))) (dName 4))
  (dSeq (dAsg (dCall sp__law_step_leaf (dCons (dVar 2) (dCons (dVar 3) dNil))) (dName 5))
  (dSeq (dIfS (dTest (dOp (dEqR) (dCall sp__law_next (dCons (dVar 3) (dCons (dC (.int 2)) dNil))) (dC (.int 1))))
  (dAsg (dCall sp__law_step_leaf (dCons (dVar 5) (dCons (dVar 3) dNil))) (dName 5))
  dNext)
  (dSeq (dIfS (dTest (dOp (dEqR) (dCall sp__law_next (dCons (dVar 3) (dCons (dC (.int 4)) dNil))) (dC (.int 1))))
  (dAsg (dCall sp__law_leaf (dCons (dVar 3) dNil)) (dName 5))
  dNext)
  (dSeq (dAsg (dCall sp_join_leaf (dCons (dVar 4) (dCons (dVar 5) dNil))) (dName 6))
  (dSeq (dIfS (dTest (dOp (dNeR) (dOp dIx (dVar 4) (dC (.int 0))) (dOp dIx (dVar 5) (dC (.int 0)))))
  (dRet (dUn (dIsN false) (dVar 6)))
  dNext)
  (dSeq (dIfS (dOrT (dNotT (dTruth (dCall (sp__law_same 8) (dCons (dVar 6) (dCons (dCall sp__law_join_leaf (dCons (dVar 4) (dCons (dVar 5) dNil))) dNil))))) (dTest (dOp (dIsB true) (dCall sp_is_valid_leaf (dCons (dVar 6) dNil)) (dC (.bl true)))))
  (dRet (dC (.bl false)))
  dNext)
  (dSeq (dIfS (dOrT (dNotT (dTruth (dCall sp__law_leaf_follows (dCons (dVar 4) (dCons (dVar 6) dNil))))) (dNotT (dTruth (dCall sp__law_leaf_follows (dCons (dVar 5) (dCons (dVar 6) dNil))))))
  (dRet (dC (.bl false)))
  dNext)
  (dSeq (dAsg (dCall sp__law_step_leaf (dCons (dCall sp__law_step_leaf (dCons (dVar 4) (dCons (dVar 3) dNil))) (dCons (dVar 3) dNil))) (dName 7))
  (dSeq (dIfS (dAndT (dTruth (dCall sp__law_leaf_follows (dCons (dVar 4) (dCons (dVar 7) dNil)))) (dTruth (dCall sp__law_leaf_follows (dCons (dVar 5) (dCons (dVar 7) dNil)))))
  (dIfS (dNotT (dTruth (dCall sp__law_leaf_follows (dCons (dVar 6) (dCons (dVar 7) dNil)))))
  (dRet (dC (.bl false)))
  dNext)
  dNext)
  (dSeq (dAsg (dCall sp__law_leaf_value (dCons (dVar 4) (dCons (dVar 3) dNil))) (dName 8))
  (dSeq (dAsg (dCall sp__law_leaf_value (dCons (dVar 5) (dCons (dVar 3) dNil))) (dName 9))
  (dRet (dAnd (dOp (dEqR) (dOp dIx (dCall sp__law_read_leaf (dCons (dVar 6) (dCons (dVar 8) (dCons (dTup dNil) dNil)))) (dC (.int 0))) (dC (.str (Str.ofString "read")))) (dOp (dEqR) (dOp dIx (dCall sp__law_read_leaf (dCons (dVar 6) (dCons (dVar 9) (dCons (dTup dNil) dNil)))) (dC (.int 0))) (dC (.str (Str.ofString "read")))))))))))))))))))))
def sq_law : DSp := spOf 1 9 rd_law

/-! ### the join is a leaf, follows both and is least -/
theorem join_wf {L M J : Leaf} (wL : L.wf) (wM : M.wf) (h : IsJoin L M J) : J.wf := by
  cases h with
  | number a b c e =>
    obtain ⟨a1, a2, a3⟩ := wL
    obtain ⟨b1, b2, b3⟩ := wM
    refine ⟨?_, ?_, ?_⟩
    · split <;> omega
    · split <;> split <;> omega
    · split <;> omega
  | text a b c e =>
    obtain ⟨a1, a2, a3⟩ := wL
    obtain ⟨b1, b2, b3⟩ := wM
    refine ⟨?_, ?_, ?_⟩
    · split <;> omega
    · split <;> split <;> omega
    · split <;> omega
  | @choice s r s2 r2 u v o o2 hv hu =>
    obtain ⟨a1, a2, a3, a4⟩ := wL
    obtain ⟨b1, b2, b3, b4⟩ := wM
    have idv : Ids v := ⟨hv.1, fun x hx => ((hv.2 x).mp hx).elim (a2.2 x) (b2.2 x)⟩
    have idu : Ids (u.filter fun k => !v.contains k) := ⟨hu.1.filter _, fun x hx => ((hu.2 x).mp (List.mem_filter.mp hx).1).elim (a1.2 x) (b1.2 x)⟩
    refine ⟨idu, idv, fun x hx hx2 => ?_, fun z => ?_⟩
    · have := (List.mem_filter.mp hx).2
      simp at this
      exact this hx2
    · rw [Bool.or_eq_false_iff] at z
      obtain ⟨c1, c2⟩ := a4 z.1
      obtain ⟨d1, d2⟩ := b4 z.2
      have ev : v = [] := by
        cases e : v with
        | nil => rfl
        | cons x t =>
          have := (hv.2 x).mp (by rw [e]; exact List.mem_cons_self)
          rw [c1, d1] at this
          simp at this
      refine ⟨ev, fun e => ?_⟩
      cases es : s with
      | nil => exact c2 es
      | cons x t =>
        have hx : x ∈ u := (hu.2 x).mpr (.inl (by rw [es]; exact List.mem_cons_self))
        have : x ∈ u.filter fun k => !v.contains k := List.mem_filter.mpr ⟨hx, by rw [ev]; rfl⟩
        rw [e] at this
        cases this
theorem ids_mk {ol or nl nr : List Int} (h1 : ∀ x ∈ ol, x ∈ nl ∨ x ∈ nr) (h2 : ∀ x ∈ or, x ∈ nr) : idsFol ol or nl nr = true := by
  unfold idsFol
  rw [Bool.and_eq_true, List.all_eq_true, List.all_eq_true]
  refine ⟨fun x hx => ?_, fun x hx => List.contains_iff_mem.mpr (h2 x hx)⟩
  rw [Bool.or_eq_true, List.contains_iff_mem, List.contains_iff_mem]
  exact h1 x hx
theorem ids_un {ol or nl nr : List Int} (h : idsFol ol or nl nr = true) : (∀ x ∈ ol, x ∈ nl ∨ x ∈ nr) ∧ ∀ x ∈ or, x ∈ nr := by
  unfold idsFol at h
  rw [Bool.and_eq_true, List.all_eq_true, List.all_eq_true] at h
  refine ⟨fun x hx => ?_, fun x hx => List.contains_iff_mem.mp (h.2 x hx)⟩
  have := h.1 x hx
  rwa [Bool.or_eq_true, List.contains_iff_mem, List.contains_iff_mem] at this
theorem join_u {s s2 u v : List Int} (hu : Joined s s2 u) {x : Int} (h : x ∈ s ∨ x ∈ s2) : x ∈ (u.filter fun k => !v.contains k) ∨ x ∈ v := by
  by_cases c : x ∈ v
  · exact .inr c
  · exact .inl (List.mem_filter.mpr ⟨(hu.2 x).mpr h, by simpa using c⟩)
theorem join_fol {L M J : Leaf} (h : IsJoin L M J) : L.fol J = true ∧ M.fol J = true := by
  cases h with
  | number a b c e =>
    constructor
    · show (decide _ && decide _) = true
      rw [decide_eq_true (by split <;> omega), decide_eq_true (by split <;> omega)]
      rfl
    · show (decide _ && decide _) = true
      rw [decide_eq_true (by split <;> omega), decide_eq_true (by split <;> omega)]
      rfl
  | text a b c e =>
    constructor
    · show (decide _ && decide _) = true
      rw [decide_eq_true (by split <;> omega), decide_eq_true (by split <;> omega)]
      rfl
    · show (decide _ && decide _) = true
      rw [decide_eq_true (by split <;> omega), decide_eq_true (by split <;> omega)]
      rfl
  | @choice s r s2 r2 u v o o2 hv hu =>
    constructor
    · show (idsFol s r _ v && ((o || o2) || !o)) = true
      rw [ids_mk (fun x hx => join_u hu (.inl hx)) fun x hx => (hv.2 x).mpr (.inl hx)]
      cases o <;> simp
    · show (idsFol s2 r2 _ v && ((o || o2) || !o2)) = true
      rw [ids_mk (fun x hx => join_u hu (.inr hx)) fun x hx => (hv.2 x).mpr (.inr hx)]
      cases o2 <;> simp
theorem join_least {L M J N : Leaf} (h : IsJoin L M J) (h1 : L.fol N = true) (h2 : M.fol N = true) : J.fol N = true := by
  cases h with
  | number a b c e =>
    cases N with
    | number x y =>
      have h1 : (decide (x ≤ a) && decide (b ≤ y)) = true := h1
      have h2 : (decide (x ≤ c) && decide (e ≤ y)) = true := h2
      rw [Bool.and_eq_true, decide_eq_true_eq, decide_eq_true_eq] at h1 h2
      show (decide _ && decide _) = true
      rw [decide_eq_true (by split <;> omega), decide_eq_true (by split <;> omega)]
      rfl
    | _ => cases h1
  | text a b c e =>
    cases N with
    | text x y =>
      have h1 : (decide (x ≤ a) && decide (b ≤ y)) = true := h1
      have h2 : (decide (x ≤ c) && decide (e ≤ y)) = true := h2
      rw [Bool.and_eq_true, decide_eq_true_eq, decide_eq_true_eq] at h1 h2
      show (decide _ && decide _) = true
      rw [decide_eq_true (by split <;> omega), decide_eq_true (by split <;> omega)]
      rfl
    | _ => cases h1
  | @choice s r s2 r2 u v o o2 hv hu =>
    cases N with
    | choice x y z =>
      have h1 : (idsFol s r x y && (z || !o)) = true := h1
      have h2 : (idsFol s2 r2 x y && (z || !o2)) = true := h2
      rw [Bool.and_eq_true] at h1 h2
      obtain ⟨a1, a2⟩ := ids_un h1.1
      obtain ⟨b1, b2⟩ := ids_un h2.1
      show (idsFol _ v x y && (z || !(o || o2))) = true
      rw [ids_mk (fun k hk => ((hu.2 k).mp (List.mem_filter.mp hk).1).elim (a1 k) (b1 k)) fun k hk => ((hv.2 k).mp hk).elim (a2 k) (b2 k)]
      have e1 := h1.2
      have e2 := h2.2
      revert e1 e2
      cases z <;> cases o <;> cases o2 <;> simp
    | _ => cases h1
def Leaf.kindS : Leaf → Str
  | .number _ _ => Str.ofString "number"
  | .text _ _ => Str.ofString "text"
  | .choice _ _ _ => Str.ofString "choice"
theorem kind_ix (L : Leaf) (G : Gp) : ixD L.d (.int 0) G = some (.str L.kindS) := by cases L <;> rfl
theorem kind_ne : (Str.ofString "number" == Str.ofString "text") = false ∧ (Str.ofString "number" == Str.ofString "choice") = false ∧ (Str.ofString "text" == Str.ofString "choice") = false ∧ (Str.ofString "text" == Str.ofString "number") = false ∧ (Str.ofString "choice" == Str.ofString "number") = false ∧ (Str.ofString "choice" == Str.ofString "text") = false := by decide +kernel
theorem kind_eq (L M : Leaf) : (L.kindS == M.kindS) = decide (L.kind = M.kind) := by
  obtain ⟨h1, h2, h3, h4, h5, h6⟩ := kind_ne
  cases L <;> cases M <;> first | exact (beq_self_eq_true _) | assumption
theorem IsJoin.kind {L M J : Leaf} (h : IsJoin L M J) : L.kind = M.kind := by cases h <;> rfl
theorem leaf_non (L : Leaf) : isNon L.d = false := by cases L <;> rfl
theorem abs_law (ns : List Int) (G : Gp) (Q : D → Gp → Prop) (E : DXK) (hl : ns.length ≤ 63) (hG : ∀ a, G a = none) (q : ∀ G', Q (.bl true) G') : sq_law [.rl (ns.map .int)] G Q E := by
  have fin : ∀ G' b, b = true → rtOf Q (.bl b) G' := fun G' b hb => by subst hb; exact rt_same (q G')
  unfold sq_law rd_law
  rw [spOf_e]
  refine ⟨rfl, ?_⟩
  refine seq_step fun nx hnx => ?_
  try simp!
  refine ⟨ns, 0, rfl, fun c => ⟨c, rfl, fun d r G1 a1 hd b1 => hnx _ _ ?_⟩⟩
  refine seq_step fun nx hnx => ?_
  try simp!
  refine ⟨d, rfl, hd.dr, fun T wT _ zT => hnx _ _ ?_⟩
  refine seq_step fun nx hnx => ?_
  try simp!
  refine ⟨ns, 1, rfl, fun c => ⟨c, rfl, fun o r' G2 a2 ho b2 => hnx _ _ ?_⟩⟩
  have hd2 : isDr G2 d := hd.dr.mono a2
  have ho2 := ho.dr
  refine seq_step fun nx hnx => ?_
  try simp!
  refine ⟨T, d, rfl, wT, by omega, hd2, fun L wL zL _ => hnx _ _ ?_⟩
  refine seq_step fun nx hnx => ?_
  try simp!
  refine ⟨T, o, rfl, wT, by omega, ho2, fun M0 w0 z0 _ => hnx _ _ ?_⟩
  refine seq_join (fun δ G' => G2 = G' ∧ ∃ M : Leaf, M.wf ∧ M.size ≤ 7 ∧ δ = [some (.rl (ns.map .int)), some (.ref d), some T.d, some (.ref o), some L.d, some M.d, none, none, none, none]) (fun nx hnx => ?_) ?_
  · try simp!
    refine ⟨o, 2, rfl, ho2, by decide, fun i i0 i1 => ?_⟩
    try simp!
    refine dCond2 (fun _ => ?_) (fun _ => hnx _ _ ⟨rfl, M0, w0, by omega, rfl⟩)
    refine ⟨M0, o, rfl, w0, by omega, ho2, fun M1 w1 z1 _ => hnx _ _ ⟨rfl, M1, w1, by omega, rfl⟩⟩
  rintro δ _ ⟨rfl, M0', w0', z0', rfl⟩
  refine seq_join (fun δ G' => G2 = G' ∧ ∃ M : Leaf, M.wf ∧ M.size ≤ 7 ∧ δ = [some (.rl (ns.map .int)), some (.ref d), some T.d, some (.ref o), some L.d, some M.d, none, none, none, none]) (fun nx hnx => ?_) ?_
  · try simp!
    refine ⟨o, 4, rfl, ho2, by decide, fun i i0 i1 => ?_⟩
    try simp!
    refine dCond2 (fun _ => ?_) (fun _ => hnx _ _ ⟨rfl, M0', w0', z0', rfl⟩)
    refine ⟨o, rfl, ho2, fun M1 w1 _ z1 => hnx _ _ ⟨rfl, M1, w1, by omega, rfl⟩⟩
  rintro δ _ ⟨rfl, M, wM, zM, rfl⟩
  refine seq_step fun nx hnx => ?_
  try simp!
  refine ⟨L, M, rfl, by omega, fun hk => hnx _ _ ?_, fun J hJ => hnx _ _ ?_⟩
  · try simp! only [kind_ix, kind_eq]
    rw [decide_eq_false hk]
    try simp!
    exact fin _ _ rfl
  · have wJ := join_wf wL wM hJ
    have hk := hJ.kind
    try simp! only [kind_ix, kind_eq]
    rw [decide_eq_true hk]
    try simp!
    refine ⟨L, M, rfl, wL, wM, hk, fun K hK => ?_⟩
    obtain rfl := hK.one hJ
    obtain ⟨f1, f2⟩ := join_fol hJ
    obtain ⟨p1, p2, p3⟩ := leaf_pn K
    have zK : K.size ≤ 200 := by
      cases K with
      | choice s r o =>
        have a := wJ.1.len
        have b := wJ.2.1.len
        show s.length + r.length ≤ 200
        omega
      | _ => exact Nat.zero_le _
    try simp!
    refine ⟨K.d, K.d, rfl, p1, p1, Nat.le_trans p2 (by decide), (by show dW K.d + (dW K.d + 0) ≤ 1000000; omega), fun _ => ?_, fun z => absurd rfl z⟩
    try simp!
    refine ⟨K, rfl, wJ.okB.2, ?_⟩
    rw [wJ.okB.1]
    try simp!
    refine ⟨L, K, rfl, by omega, ?_⟩
    rw [f1]
    try simp!
    refine ⟨M, K, rfl, by omega, ?_⟩
    rw [f2]
    try simp!
    refine ⟨L, o, rfl, wL, by omega, ho2, fun N0 w0 z0 _ => ?_⟩
    try simp!
    refine ⟨N0, o, rfl, w0, by omega, ho2, fun N wN zN _ => ?_⟩
    try simp!
    refine ⟨L, N, rfl, by omega, ?_⟩
    try simp!
    refine dCond2 (fun c1 => ?_) (fun c1 => ?_)
    rotate_left
    · refine ⟨L, o, rfl, wL, ho2, fun x hx vx _ => ?_⟩
      try simp!
      refine ⟨M, o, rfl, wM, ho2, fun y hy vy _ => ?_⟩
      try simp!
      refine ⟨L, K, x, _, rfl, wL, wJ, f1, hx, vx, fun u => ?_⟩
      try simp!
      refine ⟨M, K, y, _, rfl, wM, wJ, f2, hy, vy, fun u => ?_⟩
      try simp!
      exact fin _ _ rfl
    · refine ⟨M, N, rfl, by omega, ?_⟩
      try simp!
      refine dCond2 (fun c2 => ?_) (fun c2 => ?_)
      rotate_left
      · refine ⟨L, o, rfl, wL, ho2, fun x hx vx _ => ?_⟩
        try simp!
        refine ⟨M, o, rfl, wM, ho2, fun y hy vy _ => ?_⟩
        try simp!
        refine ⟨L, K, x, _, rfl, wL, wJ, f1, hx, vx, fun u => ?_⟩
        try simp!
        refine ⟨M, K, y, _, rfl, wM, wJ, f2, hy, vy, fun u => ?_⟩
        try simp!
        exact fin _ _ rfl
      · refine ⟨K, N, rfl, by omega, ?_⟩
        rw [join_least hJ c1 c2]
        try simp!
        refine ⟨L, o, rfl, wL, ho2, fun x hx vx _ => ?_⟩
        try simp!
        refine ⟨M, o, rfl, wM, ho2, fun y hy vy _ => ?_⟩
        try simp!
        refine ⟨L, K, x, _, rfl, wL, wJ, f1, hx, vx, fun u => ?_⟩
        try simp!
        refine ⟨M, K, y, _, rfl, wM, wJ, f2, hy, vy, fun u => ?_⟩
        try simp!
        exact fin _ _ rfl
def topS (i : Nat) : Stmt := PySem.Challenge.pw_schemabridge_k34_joined_leaves.main.body.getD i (.Pass ⟨0, 0, 0, 0⟩)
abbrev s_is_ascending : Stmt := topS 3
theorem sc_is_ascending : FnScope ["row", "at"] ["row"] (defScope s_is_ascending) := ⟨rfl, rfl, rfl, by decide +kernel, rfl, by decide +kernel, by decide +kernel⟩
abbrev s_are_ids : Stmt := topS 4
theorem sc_are_ids : FnScope ["numbers", "number"] ["numbers"] (defScope s_are_ids) := ⟨rfl, rfl, rfl, by decide +kernel, rfl, by decide +kernel, by decide +kernel⟩
abbrev s_are_live_and_retired : Stmt := topS 5
theorem sc_are_live_and_retired : FnScope ["live", "retired", "number"] ["live", "retired"] (defScope s_are_live_and_retired) := ⟨rfl, rfl, rfl, by decide +kernel, rfl, by decide +kernel, by decide +kernel⟩
abbrev s_are_alternatives : Stmt := topS 6
theorem sc_are_alternatives : FnScope ["live", "retired", "is_open"] ["live", "retired", "is_open"] (defScope s_are_alternatives) := ⟨rfl, rfl, rfl, by decide +kernel, rfl, by decide +kernel, by decide +kernel⟩
abbrev s_is_valid_leaf : Stmt := topS 10
theorem sc_is_valid_leaf : FnScope ["leaf", "_", "symbols", "retired", "is_open", "kind", "low", "high"] ["leaf"] (defScope s_is_valid_leaf) := ⟨rfl, rfl, rfl, by decide +kernel, rfl, by decide +kernel, by decide +kernel⟩
abbrev s_join_leaf : Stmt := topS 12
theorem sc_join_leaf : FnScope ["first", "second", "retired", "live", "symbol"] ["first", "second"] (defScope s_join_leaf) := ⟨rfl, rfl, rfl, by decide +kernel, rfl, by decide +kernel, by decide +kernel⟩
abbrev s__law_cell : Stmt := topS 14
theorem sc__law_cell : FnScope ["script", "k"] ["script", "k"] (defScope s__law_cell) := ⟨rfl, rfl, rfl, by decide +kernel, rfl, by decide +kernel, by decide +kernel⟩
abbrev s__law_draws : Stmt := topS 15
theorem sc__law_draws : FnScope ["cell", "row", "rest", "mixed", "is_great", "k"] ["cell"] (defScope s__law_draws) := ⟨rfl, rfl, rfl, by decide +kernel, rfl, by decide +kernel, by decide +kernel⟩
abbrev s__law_next : Stmt := topS 16
theorem sc__law_next : FnScope ["draws", "many", "at", "row"] ["draws", "many"] (defScope s__law_next) := ⟨rfl, rfl, rfl, by decide +kernel, rfl, by decide +kernel, by decide +kernel⟩
abbrev s__law_big : Stmt := topS 17
theorem sc__law_big : FnScope ["draws", "number", "k"] ["draws"] (defScope s__law_big) := ⟨rfl, rfl, rfl, by decide +kernel, rfl, by decide +kernel, by decide +kernel⟩
abbrev s__law_char : Stmt := topS 18
theorem sc__law_char : FnScope ["k", "chars"] ["k"] (defScope s__law_char) := ⟨rfl, rfl, rfl, by decide +kernel, rfl, by decide +kernel, by decide +kernel⟩
abbrev s__law_ids : Stmt := topS 19
theorem sc__law_ids : FnScope ["draws", "most", "ids", "number", "k"] ["draws", "most"] (defScope s__law_ids) := ⟨rfl, rfl, rfl, by decide +kernel, rfl, by decide +kernel, by decide +kernel⟩
abbrev s__law_split : Stmt := topS 20
theorem sc__law_split : FnScope ["draws", "ids", "live", "retired", "number"] ["draws", "ids"] (defScope s__law_split) := ⟨rfl, rfl, rfl, by decide +kernel, rfl, by decide +kernel, by decide +kernel⟩
abbrev s__law_leaf : Stmt := topS 21
theorem sc__law_leaf : FnScope ["draws", "kind", "low", "high", "parted", "is_open"] ["draws"] (defScope s__law_leaf) := ⟨rfl, rfl, rfl, by decide +kernel, rfl, by decide +kernel, by decide +kernel⟩
abbrev s__law_leaf_value : Stmt := topS 22
theorem sc__law_leaf_value : FnScope ["leaf", "draws", "pick", "size", "k", "symbols"] ["leaf", "draws"] (defScope s__law_leaf_value) := ⟨rfl, rfl, rfl, by decide +kernel, rfl, by decide +kernel, by decide +kernel⟩
abbrev s__law_with_id : Stmt := topS 23
theorem sc__law_with_id : FnScope ["ids", "number"] ["ids", "number"] (defScope s__law_with_id) := ⟨rfl, rfl, rfl, by decide +kernel, rfl, by decide +kernel, by decide +kernel⟩
abbrev s__law_live : Stmt := topS 24
theorem sc__law_live : FnScope ["body", "one"] ["body"] (defScope s__law_live) := ⟨rfl, rfl, rfl, by decide +kernel, rfl, by decide +kernel, by decide +kernel⟩
abbrev s__law_free_id : Stmt := topS 25
theorem sc__law_free_id : FnScope ["body", "draws", "start", "k", "number"] ["body", "draws"] (defScope s__law_free_id) := ⟨rfl, rfl, rfl, by decide +kernel, rfl, by decide +kernel, by decide +kernel⟩
abbrev s__law_step_leaf : Stmt := topS 26
theorem sc__law_step_leaf : FnScope ["leaf", "draws", "pick", "free", "gone", "one"] ["leaf", "draws"] (defScope s__law_step_leaf) := ⟨rfl, rfl, rfl, by decide +kernel, rfl, by decide +kernel, by decide +kernel⟩
abbrev s__law_read_leaf : Stmt := topS 27
theorem sc__law_read_leaf : FnScope ["new_leaf", "value", "path"] ["new_leaf", "value", "path"] (defScope s__law_read_leaf) := ⟨rfl, rfl, rfl, by decide +kernel, rfl, by decide +kernel, by decide +kernel⟩
abbrev s__law_same : Stmt := topS 28
theorem sc__law_same : FnScope ["actual", "expected", "k"] ["actual", "expected"] (defScope s__law_same) := ⟨rfl, rfl, rfl, by decide +kernel, rfl, by decide +kernel, by decide +kernel⟩
abbrev s__law_ids_follow : Stmt := topS 29
theorem sc__law_ids_follow : FnScope ["old_body", "new_body", "number"] ["old_body", "new_body"] (defScope s__law_ids_follow) := ⟨rfl, rfl, rfl, by decide +kernel, rfl, by decide +kernel, by decide +kernel⟩
abbrev s__law_leaf_follows : Stmt := topS 30
theorem sc__law_leaf_follows : FnScope ["old_leaf", "new_leaf"] ["old_leaf", "new_leaf"] (defScope s__law_leaf_follows) := ⟨rfl, rfl, rfl, by decide +kernel, rfl, by decide +kernel, by decide +kernel⟩
abbrev s__law_union_of : Stmt := topS 31
theorem sc__law_union_of : FnScope ["first", "second", "one"] ["first", "second"] (defScope s__law_union_of) := ⟨rfl, rfl, rfl, by decide +kernel, rfl, by decide +kernel, by decide +kernel⟩
abbrev s__law_join_leaf : Stmt := topS 32
theorem sc__law_join_leaf : FnScope ["first", "second", "retired", "live", "one"] ["first", "second"] (defScope s__law_join_leaf) := ⟨rfl, rfl, rfl, by decide +kernel, rfl, by decide +kernel, by decide +kernel⟩
abbrev s_law : Stmt := topS 33
theorem sc_law : FnScope ["script", "draws", "third", "others", "first", "second", "actual", "above", "one", "other"] ["script"] (defScope s_law) := ⟨rfl, rfl, rfl, by decide +kernel, rfl, by decide +kernel, by decide +kernel⟩
section
variable {P : Program} {w : World} {K : PySem.W.Frag} {mg : Str → Option Value} {base : Heap}
theorem ok_is_ascending {f : Addr} {fd : FuncData} (Fn : Fun K "is_ascending" "is_ascending" s_is_ascending f fd) (b_all : mg "all" = none) (b_range : mg "range" = none) (b_len : mg "len" = none) : FnOk P w K mg base CX0 1 f fd ["row"] (upSp ⟨K, P, w⟩ sq_is_ascending) := by
  refine fn_ok (t := rd_is_ascending) (m := 1) (n := 1) (k := 0) Fn sc_is_ascending rfl rfl fun cdv A outer s H E hr => ?_
  have hu := hu190 hr
  have nd := sc_is_ascending.nd
  unfold rd_is_ascending
  exact (qss_one (qs_ret (q_callB (cr_all rfl) lift_all (by rfl) b_all PyProof.Rows.boot_all (qa_cons (q_lc (own := [("at", 1)]) rfl nd (qi_range1 (by rfl) b_range (qa_cons (q_sub (q_callB call_len lift_len (by rfl) b_len boot_len (qa_cons (qv 0) qa_nil)) q_int) qa_nil)) (by show blkC ["row", "at"] (defScope s_is_ascending) _ _ = true; decide +kernel) (fun _ _ _ _ _ => (qg_name nd (fun _ _ => pw_set (by decide) _ _))) (fun _ _ _ _ _ => qts_nil) (fun _ _ _ _ _ => (q_lt (q_ix (qv 0) (qv 1)) (q_ix (qv 0) (q_add (qv 1) q_int))))) qa_nil))))
theorem ok_are_ids {f : Addr} {fd : FuncData} (Fn : Fun K "are_ids" "are_ids" s_are_ids f fd) (c_is_ascending : Cal P w K mg base 1 "is_ascending" ["row"] sp_is_ascending) (b_all : mg "all" = none) (m_LEAST_ID : ∃ t, mg "LEAST_ID" = some (.int 1 t)) (m_GREATEST_ID : ∃ t, mg "GREATEST_ID" = some (.int 99 t)) : FnOk P w K mg base CX0 2 f fd ["numbers"] (upSp ⟨K, P, w⟩ sq_are_ids) := by
  refine fn_ok (t := rd_are_ids) (m := 1) (n := 1) (k := 1) Fn sc_are_ids rfl rfl fun cdv A outer s H E hr => ?_
  have hu := hu190 hr
  have nd := sc_are_ids.nd
  unfold rd_are_ids
  exact (qss_one (qs_ret (q_and (q_c c_is_ascending hr (by decide) (by rfl) (qa_cons (qv 0) qa_nil)) (q_one (q_callB (cr_all rfl) lift_all (by rfl) b_all PyProof.Rows.boot_all (qa_cons (q_lc (own := [("number", 1)]) rfl nd (qi (qv 0)) (by show blkC ["numbers", "number"] (defScope s_are_ids) _ _ = true; decide +kernel) (fun _ _ _ _ _ => (qg_name nd (fun _ _ => pw_set (by decide) _ _))) (fun _ _ _ _ _ => qts_nil) (fun _ _ _ _ _ => (q_chain op_leU lift_ord op_leU lift_ord (q_gi (by rfl) m_LEAST_ID) (qv 1) (q_gi (by rfl) m_GREATEST_ID)))) qa_nil))))))
theorem ok_are_live_and_retired {f : Addr} {fd : FuncData} (Fn : Fun K "are_live_and_retired" "are_live_and_retired" s_are_live_and_retired f fd) (c_are_ids : Cal P w K mg base 2 "are_ids" ["numbers"] sp_are_ids) (b_any : mg "any" = none) : FnOk P w K mg base CX0 3 f fd ["live", "retired"] (upSp ⟨K, P, w⟩ sq_are_live_and_retired) := by
  refine fn_ok (t := rd_are_live_and_retired) (m := 2) (n := 1) (k := 2) Fn sc_are_live_and_retired rfl rfl fun cdv A outer s H E hr => ?_
  have hu := hu190 hr
  have nd := sc_are_live_and_retired.nd
  unfold rd_are_live_and_retired
  exact (qss_cons (qs_if (QW.pt (qw_or (qt_not (q_truth (q_c c_are_ids hr (by decide) (by rfl) (qa_cons (qv 0) qa_nil)))) (qw_or1 (qt_not (q_truth (q_c c_are_ids hr (by decide) (by rfl) (qa_cons (qv 1) qa_nil)))))))
    (qss_one (qs_ret q_bl))
    qss_nil)
    (qss_one (qs_ret (q_not (q_callB (cr_any rfl) lift_all (by rfl) b_any PyProof.Rows.boot_any (qa_cons (q_lc (own := [("number", 2)]) rfl nd (qi (qv 0)) (by show blkC ["live", "retired", "number"] (defScope s_are_live_and_retired) _ _ = true; decide +kernel) (fun _ _ _ _ _ => (qg_name nd (fun _ _ => pw_set (by decide) _ _))) (fun _ _ _ _ _ => qts_nil) (fun _ _ _ _ _ => (q_in hu (qv 2) (qv 1)))) qa_nil))))))
theorem ok_are_alternatives {f : Addr} {fd : FuncData} (Fn : Fun K "are_alternatives" "are_alternatives" s_are_alternatives f fd) (c_are_live_and_retired : Cal P w K mg base 3 "are_live_and_retired" ["live", "retired"] sp_are_live_and_retired) (b_len : mg "len" = none) : FnOk P w K mg base CX0 4 f fd ["live", "retired", "is_open"] (upSp ⟨K, P, w⟩ sq_are_alternatives) := by
  refine fn_ok (t := rd_are_alternatives) (m := 3) (n := 0) (k := 3) Fn sc_are_alternatives rfl rfl fun cdv A outer s H E hr => ?_
  have hu := hu190 hr
  have nd := sc_are_alternatives.nd
  unfold rd_are_alternatives
  exact (qss_cons (qs_if (qt_not (q_truth (q_c c_are_live_and_retired hr (by decide) (by rfl) (qa_cons (qv 0) (qa_cons (qv 1) qa_nil)))))
    (qss_one (qs_ret q_bl))
    qss_nil)
    (qss_one (qs_ret (q_or (qv 2) (q_one (q_and (q_eq hu (q_callB call_len lift_len (by rfl) b_len boot_len (qa_cons (qv 1) qa_nil)) q_int) (q_one (q_gt (q_callB call_len lift_len (by rfl) b_len boot_len (qa_cons (qv 0) qa_nil)) q_int))))))))
theorem ok_is_valid_leaf {f : Addr} {fd : FuncData} (Fn : Fun K "is_valid_leaf" "is_valid_leaf" s_is_valid_leaf f fd) (c_are_alternatives : Cal P w K mg base 4 "are_alternatives" ["live", "retired", "is_open"] sp_are_alternatives) (m_FARTHEST_NUMBER : ∃ t, mg "FARTHEST_NUMBER" = some (.int 1000000000000000 t)) (m_LONGEST_TEXT : ∃ t, mg "LONGEST_TEXT" = some (.int 40 t)) : FnOk P w K mg base CX0 5 f fd ["leaf"] (upSp ⟨K, P, w⟩ sq_is_valid_leaf) := by
  refine fn_ok (t := rd_is_valid_leaf) (m := 1) (n := 7) (k := 4) Fn sc_is_valid_leaf rfl rfl fun cdv A outer s H E hr => ?_
  have hu := hu190 hr
  have nd := sc_is_valid_leaf.nd
  unfold rd_is_valid_leaf
  exact (qss_cons (qs_if (q_tcmp (op_eqU hu) lift_eq (q_ix (qv 0) q_int) q_str (nomark _))
    (qss_cons (qs_asg (qv 0) (qg_tup rfl (qgs_cons pany (qg_name nd (fun _ _ => trivial)) (qgs_cons pany (qg_name nd (fun _ _ => trivial)) (qgs_cons pany (qg_name nd (fun _ _ => trivial)) (qgs_cons pany (qg_name nd (fun _ _ => trivial)) (qgs_nil pany)))))))
    (qss_one (qs_ret (q_c c_are_alternatives hr (by decide) (by rfl) (qa_cons (qv 2) (qa_cons (qv 3) (qa_cons (qv 4) qa_nil)))))))
    qss_nil)
    (qss_cons (qs_asg (qv 0) (qg_tup rfl (qgs_cons pany (qg_name nd (fun _ _ => trivial)) (qgs_cons pany (qg_name nd (fun _ _ => trivial)) (qgs_cons pany (qg_name nd (fun _ _ => trivial)) (qgs_nil pany))))))
    (qss_cons (qs_if (q_tcmp (op_eqU hu) lift_eq (qv 5) q_str (nomark _))
    (qss_one (qs_ret (q_chain3 op_leU lift_ord op_leU lift_ord op_leU lift_ord (q_neg (q_gi (by rfl) m_FARTHEST_NUMBER)) (qv 6) (qv 7) (q_gi (by rfl) m_FARTHEST_NUMBER))))
    qss_nil)
    (qss_one (qs_ret (q_chain3 op_leU lift_ord op_leU lift_ord op_leU lift_ord q_int (qv 6) (qv 7) (q_gi (by rfl) m_LONGEST_TEXT)))))))
theorem ok_join_leaf {f : Addr} {fd : FuncData} (Fn : Fun K "join_leaf" "join_leaf" s_join_leaf f fd) (b_max : mg "max" = none) (b_min : mg "min" = none) (b_tuple : mg "tuple" = none) (b_sorted : mg "sorted" = none) (b_set : mg "set" = none) : FnOk P w K mg base CX0 1 f fd ["first", "second"] (upSp ⟨K, P, w⟩ sq_join_leaf) := by
  refine fn_ok (t := rd_join_leaf) (m := 2) (n := 3) (k := 0) Fn sc_join_leaf rfl rfl fun cdv A outer s H E hr => ?_
  have hu := hu190 hr
  have nd := sc_join_leaf.nd
  unfold rd_join_leaf
  exact (qss_cons (qs_if (q_tcmp (op_neU hu) lift_ne (q_ix (qv 0) q_int) (q_ix (qv 1) q_int) (nomark _))
    (qss_one (qs_ret q_non))
    qss_nil)
    (qss_cons (qs_if (q_tcmp (op_neU hu) lift_ne (q_ix (qv 0) q_int) q_str (nomark _))
    (qss_one (qs_ret (q_tup (qa_cons (q_ix (qv 0) q_int) (qa_cons (q_callB (call_min2 rfl) lift_min2 (by rfl) b_min PyProof.Rows.boot_min (qa_cons (q_ix (qv 0) q_int) (qa_cons (q_ix (qv 1) q_int) qa_nil))) (qa_cons (q_callB (call_max2 rfl) lift_max2 (by rfl) b_max PyProof.Rows.boot_max (qa_cons (q_ix (qv 0) q_int) (qa_cons (q_ix (qv 1) q_int) qa_nil))) qa_nil))))))
    qss_nil)
    (qss_cons (qs_set (i := 2) nd (q_callTy call_tupB lift_tupleC (by rfl) b_tuple PyProof.Rows.boot_tuple (qa_cons (q_sortU rfl (by rfl) b_sorted (by rfl) b_set (q_ix (qv 0) q_int) (q_ix (qv 1) q_int)) qa_nil)))
    (qss_cons (qs_set (i := 3) nd (q_callTy call_tupB lift_tupleC (by rfl) b_tuple PyProof.Rows.boot_tuple (qa_cons (q_lc (own := [("symbol", 4)]) rfl nd (qi (q_sortU rfl (by rfl) b_sorted (by rfl) b_set (q_ix (qv 0) q_int) (q_ix (qv 1) q_int))) (by show blkC ["first", "second", "retired", "live", "symbol"] (defScope s_join_leaf) _ _ = true; decide +kernel) (fun _ _ _ _ _ => (qg_name nd (fun _ _ => pw_set (by decide) _ _))) (fun _ _ _ _ _ => (qts_one (q_tcmp (op_ninU hu) (lift_in true) (qv 4) (qv 2) rfl))) (fun _ _ _ _ _ => (qv 4))) qa_nil)))
    (qss_one (qs_ret (q_tup (qa_cons q_str (qa_cons (qv 3) (qa_cons (qv 2) (qa_cons (q_or (q_ix (qv 0) q_int) (q_one (q_ix (qv 1) q_int))) qa_nil)))))))))))
theorem ok__law_cell {f : Addr} {fd : FuncData} (Fn : Fun K "_law_cell" "_law_cell" s__law_cell f fd) (b_len : mg "len" = none) : FnOk P w K mg base CX0 1 f fd ["script", "k"] (upSp ⟨K, P, w⟩ sq__law_cell) := by
  refine fn_ok (t := rd__law_cell) (m := 2) (n := 0) (k := 0) Fn sc__law_cell rfl rfl fun cdv A outer s H E hr => ?_
  have hu := hu190 hr
  have nd := sc__law_cell.nd
  unfold rd__law_cell
  exact (qss_cons (qs_if (q_tcmp op_ltU lift_ord (qv 1) (q_callB call_len lift_len (by rfl) b_len boot_len (qa_cons (qv 0) qa_nil)) (nomark _))
    (qss_one (qs_ret (q_ix (qv 0) (qv 1))))
    qss_nil)
    (qss_one (qs_ret q_int)))
theorem ok__law_draws {f : Addr} {fd : FuncData} (Fn : Fun K "_law_draws" "_law_draws" s__law_draws f fd) (b_abs : mg "abs" = none) (b_int : mg "int" = none) (b_range : mg "range" = none) : FnOk P w K mg base CX0 1 f fd ["cell"] (upSp ⟨K, P, w⟩ sq__law_draws) := by
  refine fn_ok (t := rd__law_draws) (m := 1) (n := 5) (k := 0) Fn sc__law_draws rfl rfl fun cdv A outer s H E hr => ?_
  have hu := hu190 hr
  have nd := sc__law_draws.nd
  unfold rd__law_draws
  exact (qss_cons (qs_set (i := 1) nd (q_ref qa_nil))
    (qss_cons (qs_set (i := 2) nd (q_callB call_abs lift_abs (by rfl) b_abs boot_abs (qa_cons (qv 0) qa_nil)))
    (qss_cons (qs_set (i := 3) nd (q_mod (q_callTy call_int1 lift_intC (by rfl) b_int PyProof.Rows.boot_int (qa_cons (qv 2) qa_nil)) q_int))
    (qss_cons (qs_set (i := 4) nd (q_ge (qv 2) (q_pow q_int q_int)))
    (qss_cons (qs_for PassesOwn.never rfl (qi_range1 (by rfl) b_range (qa_cons q_int qa_nil)) (qg_name nd (fun _ _ => trivial))
    (qss_one (qs_if (QW.pt (qw_and (q_truth (qv 4)) (qw_and1 (q_tcmp op_gtU lift_ord (qv 2) q_int (nomark _)))))
    (qss_cons (qs_expr (q_app (qv 1) (q_mod (q_callTy call_int1 lift_intC (by rfl) b_int PyProof.Rows.boot_int (qa_cons (qv 2) qa_nil)) q_int)))
    (qss_one (qs_set (i := 2) nd (q_div (qv 2) q_int))))
    (qss_cons (qs_set (i := 3) nd (q_mod (q_callTy call_int1 lift_intC (by rfl) b_int PyProof.Rows.boot_int (qa_cons (q_add (q_mul (qv 3) q_int) q_int) qa_nil)) q_int))
    (qss_one (qs_expr (q_app (qv 1) (q_div (qv 3) q_int))))))))
    (qss_one (qs_ret (q_ref (qa_cons q_int (qa_cons (qv 1) qa_nil))))))))))
theorem ok__law_next {f : Addr} {fd : FuncData} (Fn : Fun K "_law_next" "_law_next" s__law_next f fd) (b_len : mg "len" = none) (b_int : mg "int" = none) : FnOk P w K mg base CX0 1 f fd ["draws", "many"] (upSp ⟨K, P, w⟩ sq__law_next) := by
  refine fn_ok (t := rd__law_next) (m := 2) (n := 2) (k := 0) Fn sc__law_next rfl rfl fun cdv A outer s H E hr => ?_
  have hu := hu190 hr
  have nd := sc__law_next.nd
  unfold rd__law_next
  exact (qss_cons (qs_set (i := 2) nd (q_ix (qv 0) q_int))
    (qss_cons (qs_asg (q_add (qv 2) q_int) (qg_subL (qv 0) q_int))
    (qss_cons (qs_set (i := 3) nd (q_ix (qv 0) q_int))
    (qss_cons (qs_if (q_tcmp op_geU lift_ord (qv 2) (q_callB call_len lift_len (by rfl) b_len boot_len (qa_cons (qv 3) qa_nil)) (nomark _))
    (qss_one (qs_ret q_int))
    qss_nil)
    (qss_one (qs_ret (q_mod (q_callTy call_int1 lift_intC (by rfl) b_int PyProof.Rows.boot_int (qa_cons (q_ix (qv 3) (qv 2)) qa_nil)) (qv 1))))))))
theorem ok__law_big {f : Addr} {fd : FuncData} (Fn : Fun K "_law_big" "_law_big" s__law_big f fd) (c__law_next : Cal P w K mg base 1 "_law_next" ["draws", "many"] sp__law_next) (b_range : mg "range" = none) : FnOk P w K mg base CX0 2 f fd ["draws"] (upSp ⟨K, P, w⟩ sq__law_big) := by
  refine fn_ok (t := rd__law_big) (m := 1) (n := 2) (k := 1) Fn sc__law_big rfl rfl fun cdv A outer s H E hr => ?_
  have hu := hu190 hr
  have nd := sc__law_big.nd
  unfold rd__law_big
  exact (qss_cons (qs_set (i := 1) nd q_int)
    (qss_cons (qs_for PassesOwn.never rfl (qi_range1 (by rfl) b_range (qa_cons q_int qa_nil)) (qg_name nd (fun _ _ => trivial))
    (qss_one (qs_set (i := 1) nd (q_add (q_mul (qv 1) q_int) (q_c c__law_next hr (by decide) (by rfl) (qa_cons (qv 0) (qa_cons q_int qa_nil)))))))
    (qss_one (qs_ret (qv 1)))))
theorem ok__law_char {f : Addr} {fd : FuncData} (Fn : Fun K "_law_char" "_law_char" s__law_char f fd) (b_int : mg "int" = none) : FnOk P w K mg base CX0 1 f fd ["k"] (upSp ⟨K, P, w⟩ sq__law_char) := by
  refine fn_ok (t := rd__law_char) (m := 1) (n := 1) (k := 0) Fn sc__law_char rfl rfl fun cdv A outer s H E hr => ?_
  have hu := hu190 hr
  have nd := sc__law_char.nd
  unfold rd__law_char
  exact (qss_cons (qs_set (i := 1) nd q_str)
    (qss_cons (qs_set (i := 1) nd (q_add (qv 1) q_str))
    (qss_one (qs_ret (q_ix (qv 1) (q_mod (q_callTy call_int1 lift_intC (by rfl) b_int PyProof.Rows.boot_int (qa_cons (qv 0) qa_nil)) q_int))))))
theorem ok__law_ids {f : Addr} {fd : FuncData} (Fn : Fun K "_law_ids" "_law_ids" s__law_ids f fd) (c__law_next : Cal P w K mg base 1 "_law_next" ["draws", "many"] sp__law_next) (b_range : mg "range" = none) : FnOk P w K mg base CX0 2 f fd ["draws", "most"] (upSp ⟨K, P, w⟩ sq__law_ids) := by
  refine fn_ok (t := rd__law_ids) (m := 2) (n := 3) (k := 1) Fn sc__law_ids rfl rfl fun cdv A outer s H E hr => ?_
  have hu := hu190 hr
  have nd := sc__law_ids.nd
  unfold rd__law_ids
  exact (qss_cons (qs_set (i := 2) nd (q_ref qa_nil))
    (qss_cons (qs_set (i := 3) nd q_int)
    (qss_cons (qs_for PassesOwn.never rfl (qi_range1 (by rfl) b_range (qa_cons (q_c c__law_next hr (by decide) (by rfl) (qa_cons (qv 0) (qa_cons (q_add (qv 1) q_int) qa_nil))) qa_nil)) (qg_name nd (fun _ _ => trivial))
    (qss_cons (qs_set (i := 3) nd (q_add (q_add (qv 3) q_int) (q_c c__law_next hr (by decide) (by rfl) (qa_cons (qv 0) (qa_cons q_int qa_nil)))))
    (qss_one (qs_expr (q_app (qv 2) (qv 3))))))
    (qss_cons (qs_if (q_tcmp (op_eqU hu) lift_eq (q_c c__law_next hr (by decide) (by rfl) (qa_cons (qv 0) (qa_cons q_int qa_nil))) q_int (nomark _))
    (qss_one (qs_expr (q_app (qv 2) q_int)))
    qss_nil)
    (qss_one (qs_ret (qv 2)))))))
theorem ok__law_split {f : Addr} {fd : FuncData} (Fn : Fun K "_law_split" "_law_split" s__law_split f fd) (c__law_next : Cal P w K mg base 1 "_law_next" ["draws", "many"] sp__law_next) : FnOk P w K mg base CX0 2 f fd ["draws", "ids"] (upSp ⟨K, P, w⟩ sq__law_split) := by
  refine fn_ok (t := rd__law_split) (m := 2) (n := 3) (k := 1) Fn sc__law_split rfl rfl fun cdv A outer s H E hr => ?_
  have hu := hu190 hr
  have nd := sc__law_split.nd
  unfold rd__law_split
  exact (qss_cons (qs_set (i := 2) nd (q_ref qa_nil))
    (qss_cons (qs_set (i := 3) nd (q_ref qa_nil))
    (qss_cons (qs_for PassesOwn.never rfl (qi (qv 1)) (qg_name nd (fun _ _ => trivial))
    (qss_one (qs_if (q_tcmp (op_eqU hu) lift_eq (q_c c__law_next hr (by decide) (by rfl) (qa_cons (qv 0) (qa_cons q_int qa_nil))) q_int (nomark _))
    (qss_one (qs_expr (q_app (qv 3) (qv 4))))
    (qss_one (qs_expr (q_app (qv 2) (qv 4)))))))
    (qss_one (qs_ret (q_lv (qa_cons (qv 2) (qa_cons (qv 3) qa_nil))))))))
theorem ok__law_leaf {f : Addr} {fd : FuncData} (Fn : Fun K "_law_leaf" "_law_leaf" s__law_leaf f fd) (c__law_next : Cal P w K mg base 1 "_law_next" ["draws", "many"] sp__law_next) (c__law_split : Cal P w K mg base 2 "_law_split" ["draws", "ids"] sp__law_split) (c__law_ids : Cal P w K mg base 2 "_law_ids" ["draws", "most"] sp__law_ids) (b_len : mg "len" = none) (b_tuple : mg "tuple" = none) : FnOk P w K mg base CX0 3 f fd ["draws"] (upSp ⟨K, P, w⟩ sq__law_leaf) := by
  refine fn_ok (t := rd__law_leaf) (m := 1) (n := 5) (k := 2) Fn sc__law_leaf rfl rfl fun cdv A outer s H E hr => ?_
  have hu := hu190 hr
  have nd := sc__law_leaf.nd
  unfold rd__law_leaf
  exact (qss_cons (qs_set (i := 1) nd (q_c c__law_next hr (by decide) (by rfl) (qa_cons (qv 0) (qa_cons q_int qa_nil))))
    (qss_cons (qs_if (q_tcmp op_ltU lift_ord (qv 1) q_int (nomark _))
    (qss_cons (qs_set (i := 2) nd (q_sub (q_c c__law_next hr (by decide) (by rfl) (qa_cons (qv 0) (qa_cons q_int qa_nil))) q_int))
    (qss_cons (qs_set (i := 3) nd (q_add (qv 2) (q_c c__law_next hr (by decide) (by rfl) (qa_cons (qv 0) (qa_cons q_int qa_nil)))))
    (qss_cons (qs_if (q_tcmp (op_eqU hu) lift_eq (q_c c__law_next hr (by decide) (by rfl) (qa_cons (qv 0) (qa_cons q_int qa_nil))) q_int (nomark _))
    (qss_one (qs_ret (q_tup (qa_cons q_str (qa_cons (q_neg (q_pow q_int q_int)) (qa_cons (q_pow q_int q_int) qa_nil))))))
    qss_nil)
    (qss_one (qs_ret (q_tup (qa_cons q_str (qa_cons (qv 2) (qa_cons (qv 3) qa_nil)))))))))
    qss_nil)
    (qss_cons (qs_if (q_tcmp op_ltU lift_ord (qv 1) q_int (nomark _))
    (qss_cons (qs_set (i := 2) nd (q_c c__law_next hr (by decide) (by rfl) (qa_cons (qv 0) (qa_cons q_int qa_nil))))
    (qss_cons (qs_set (i := 3) nd (q_add (qv 2) (q_c c__law_next hr (by decide) (by rfl) (qa_cons (qv 0) (qa_cons q_int qa_nil)))))
    (qss_cons (qs_if (q_tcmp (op_eqU hu) lift_eq (q_c c__law_next hr (by decide) (by rfl) (qa_cons (qv 0) (qa_cons q_int qa_nil))) q_int (nomark _))
    (qss_one (qs_set (i := 3) nd q_int))
    qss_nil)
    (qss_one (qs_ret (q_tup (qa_cons q_str (qa_cons (qv 2) (qa_cons (qv 3) qa_nil)))))))))
    qss_nil)
    (qss_cons (qs_set (i := 4) nd (q_c c__law_split hr (by decide) (by rfl) (qa_cons (qv 0) (qa_cons (q_c c__law_ids hr (by decide) (by rfl) (qa_cons (qv 0) (qa_cons q_int qa_nil))) qa_nil))))
    (qss_cons (qs_set (i := 5) nd (q_or (q_eq hu (q_c c__law_next hr (by decide) (by rfl) (qa_cons (qv 0) (qa_cons q_int qa_nil))) q_int) (q_or (q_gt (q_callB call_len lift_len (by rfl) b_len boot_len (qa_cons (q_ix (qv 4) q_int) qa_nil)) q_int) (q_one (q_eq hu (q_callB call_len lift_len (by rfl) b_len boot_len (qa_cons (q_ix (qv 4) q_int) qa_nil)) q_int)))))
    (qss_one (qs_ret (q_tup (qa_cons q_str (qa_cons (q_callTy call_tupB lift_tupleC (by rfl) b_tuple PyProof.Rows.boot_tuple (qa_cons (q_ix (qv 4) q_int) qa_nil)) (qa_cons (q_callTy call_tupB lift_tupleC (by rfl) b_tuple PyProof.Rows.boot_tuple (qa_cons (q_ix (qv 4) q_int) qa_nil)) (qa_cons (qv 5) qa_nil))))))))))))
theorem ok__law_leaf_value {f : Addr} {fd : FuncData} (Fn : Fun K "_law_leaf_value" "_law_leaf_value" s__law_leaf_value f fd) (c__law_next : Cal P w K mg base 1 "_law_next" ["draws", "many"] sp__law_next) (c__law_big : Cal P w K mg base 2 "_law_big" ["draws"] sp__law_big) (c__law_char : Cal P w K mg base 1 "_law_char" ["k"] sp__law_char) (b_int : mg "int" = none) (b_range : mg "range" = none) (b_list : mg "list" = none) (b_len : mg "len" = none) : FnOk P w K mg base CX0 3 f fd ["leaf", "draws"] (upSp ⟨K, P, w⟩ sq__law_leaf_value) := by
  refine fn_ok (t := rd__law_leaf_value) (m := 2) (n := 4) (k := 2) Fn sc__law_leaf_value rfl rfl fun cdv A outer s H E hr => ?_
  have hu := hu190 hr
  have nd := sc__law_leaf_value.nd
  unfold rd__law_leaf_value
  exact (qss_cons (qs_if (q_tcmp (op_eqU hu) lift_eq (q_ix (qv 0) q_int) q_str (nomark _))
    (qss_cons (qs_set (i := 2) nd (q_c c__law_next hr (by decide) (by rfl) (qa_cons (qv 1) (qa_cons q_int qa_nil))))
    (qss_cons (qs_if (q_tcmp (op_eqU hu) lift_eq (qv 2) q_int (nomark _))
    (qss_one (qs_ret (q_ix (qv 0) q_int)))
    qss_nil)
    (qss_cons (qs_if (q_tcmp (op_eqU hu) lift_eq (qv 2) q_int (nomark _))
    (qss_one (qs_ret (q_ix (qv 0) q_int)))
    qss_nil)
    (qss_one (qs_ret (q_add (q_ix (qv 0) q_int) (q_mod (q_callTy call_int1 lift_intC (by rfl) b_int PyProof.Rows.boot_int (qa_cons (q_c c__law_big hr (by decide) (by rfl) (qa_cons (qv 1) qa_nil)) qa_nil)) (q_add (q_sub (q_ix (qv 0) q_int) (q_ix (qv 0) q_int)) q_int))))))))
    qss_nil)
    (qss_cons (qs_if (q_tcmp (op_eqU hu) lift_eq (q_ix (qv 0) q_int) q_str (nomark _))
    (qss_cons (qs_set (i := 3) nd (q_add (q_ix (qv 0) q_int) (q_c c__law_next hr (by decide) (by rfl) (qa_cons (qv 1) (qa_cons (q_add (q_sub (q_ix (qv 0) q_int) (q_ix (qv 0) q_int)) q_int) qa_nil)))))
    (qss_one (qs_ret (q_join q_str (q_lc (own := [("k", 4)]) rfl nd (qi_range1 (by rfl) b_range (qa_cons (qv 3) qa_nil)) (by show blkC ["leaf", "draws", "pick", "size", "k", "symbols"] (defScope s__law_leaf_value) _ _ = true; decide +kernel) (fun _ _ _ _ _ => (qg_name nd (fun _ _ => pw_set (by decide) _ _))) (fun _ _ _ _ _ => qts_nil) (fun _ _ _ _ _ => (q_c c__law_char hr (by decide) (by rfl) (qa_cons (q_c c__law_next hr (by decide) (by rfl) (qa_cons (qv 1) (qa_cons q_int qa_nil))) qa_nil))))))))
    qss_nil)
    (qss_cons (qs_set (i := 5) nd (q_callTy call_list_of lift_listM (by rfl) b_list PyProof.Rows.boot_list (qa_cons (q_ix (qv 0) q_int) qa_nil)))
    (qss_cons (qs_if (q_truth (q_ix (qv 0) q_int))
    (qss_one (qs_expr (q_app (qv 5) q_int)))
    qss_nil)
    (qss_one (qs_ret (q_ix (qv 5) (q_c c__law_next hr (by decide) (by rfl) (qa_cons (qv 1) (qa_cons (q_callB call_len lift_len (by rfl) b_len boot_len (qa_cons (qv 5) qa_nil)) qa_nil))))))))))
theorem ok__law_with_id {f : Addr} {fd : FuncData} (Fn : Fun K "_law_with_id" "_law_with_id" s__law_with_id f fd) (b_tuple : mg "tuple" = none) (b_sorted : mg "sorted" = none) (b_list : mg "list" = none) : FnOk P w K mg base CX0 1 f fd ["ids", "number"] (upSp ⟨K, P, w⟩ sq__law_with_id) := by
  refine fn_ok (t := rd__law_with_id) (m := 2) (n := 0) (k := 0) Fn sc__law_with_id rfl rfl fun cdv A outer s H E hr => ?_
  have hu := hu190 hr
  have nd := sc__law_with_id.nd
  unfold rd__law_with_id
  exact (qss_one (qs_ret (q_callTy call_tupB lift_tupleC (by rfl) b_tuple PyProof.Rows.boot_tuple (qa_cons (q_callB cr_sortedI lift_sortI (by rfl) b_sorted PyProof.Rows.boot_sorted (qa_cons (q_add (q_callTy call_list_of lift_listC (by rfl) b_list PyProof.Rows.boot_list (qa_cons (qv 0) qa_nil)) (q_lv (qa_cons (qv 1) qa_nil))) qa_nil)) qa_nil))))
theorem ok__law_live {f : Addr} {fd : FuncData} (Fn : Fun K "_law_live" "_law_live" s__law_live f fd) (b_list : mg "list" = none) : FnOk P w K mg base CX0 1 f fd ["body"] (upSp ⟨K, P, w⟩ sq__law_live) := by
  refine fn_ok (t := rd__law_live) (m := 1) (n := 1) (k := 0) Fn sc__law_live rfl rfl fun cdv A outer s H E hr => ?_
  have hu := hu190 hr
  have nd := sc__law_live.nd
  unfold rd__law_live
  exact (qss_cons (qs_if (q_tcmp (op_eqU hu) lift_eq (q_ix (qv 0) q_int) q_str (nomark _))
    (qss_one (qs_ret (q_callTy call_list_of lift_listC (by rfl) b_list PyProof.Rows.boot_list (qa_cons (q_ix (qv 0) q_int) qa_nil))))
    qss_nil)
    (qss_one (qs_ret (q_lc (own := [("one", 1)]) rfl nd (qi (q_ix (qv 0) q_int)) (by show blkC ["body", "one"] (defScope s__law_live) _ _ = true; decide +kernel) (fun _ _ _ _ _ => (qg_name nd (fun _ _ => pw_set (by decide) _ _))) (fun _ _ _ _ _ => qts_nil) (fun _ _ _ _ _ => (q_ix (qv 1) q_int))))))
theorem ok__law_free_id {f : Addr} {fd : FuncData} (Fn : Fun K "_law_free_id" "_law_free_id" s__law_free_id f fd) (c__law_next : Cal P w K mg base 1 "_law_next" ["draws", "many"] sp__law_next) (c__law_live : Cal P w K mg base 1 "_law_live" ["body"] sp__law_live) (b_range : mg "range" = none) (b_int : mg "int" = none) : FnOk P w K mg base CX0 2 f fd ["body", "draws"] (upSp ⟨K, P, w⟩ sq__law_free_id) := by
  refine fn_ok (t := rd__law_free_id) (m := 2) (n := 3) (k := 1) Fn sc__law_free_id rfl rfl fun cdv A outer s H E hr => ?_
  have hu := hu190 hr
  have nd := sc__law_free_id.nd
  unfold rd__law_free_id
  exact (qss_cons (qs_set (i := 2) nd (q_c c__law_next hr (by decide) (by rfl) (qa_cons (qv 1) (qa_cons q_int qa_nil))))
    (qss_cons (qs_for PassesOwn.never rfl (qi_range1 (by rfl) b_range (qa_cons q_int qa_nil)) (qg_name nd (fun _ _ => trivial))
    (qss_cons (qs_set (i := 4) nd (q_add (q_mod (q_callTy call_int1 lift_intC (by rfl) b_int PyProof.Rows.boot_int (qa_cons (q_add (qv 2) (qv 3)) qa_nil)) q_int) q_int))
    (qss_one (qs_if (QW.pt (qw_and (q_tcmp (op_ninU hu) (lift_in true) (qv 4) (q_c c__law_live hr (by decide) (by rfl) (qa_cons (qv 0) qa_nil)) rfl) (qw_and1 (q_tcmp (op_ninU hu) (lift_in true) (qv 4) (q_ix (qv 0) q_int) rfl))))
    (qss_one (qs_ret (qv 4)))
    qss_nil))))
    (qss_one (qs_ret q_int))))
theorem ok__law_step_leaf {f : Addr} {fd : FuncData} (Fn : Fun K "_law_step_leaf" "_law_step_leaf" s__law_step_leaf f fd) (c__law_next : Cal P w K mg base 1 "_law_next" ["draws", "many"] sp__law_next) (c__law_free_id : Cal P w K mg base 2 "_law_free_id" ["body", "draws"] sp__law_free_id) (c__law_with_id : Cal P w K mg base 1 "_law_with_id" ["ids", "number"] sp__law_with_id) (b_min : mg "min" = none) (b_max : mg "max" = none) (b_len : mg "len" = none) (b_tuple : mg "tuple" = none) : FnOk P w K mg base CX0 3 f fd ["leaf", "draws"] (upSp ⟨K, P, w⟩ sq__law_step_leaf) := by
  refine fn_ok (t := rd__law_step_leaf) (m := 2) (n := 4) (k := 2) Fn sc__law_step_leaf rfl rfl fun cdv A outer s H E hr => ?_
  have hu := hu190 hr
  have nd := sc__law_step_leaf.nd
  unfold rd__law_step_leaf
  exact (qss_cons (qs_if (q_tcmp (op_eqU hu) lift_eq (q_ix (qv 0) q_int) q_str (nomark _))
    (qss_one (qs_ret (q_tup (qa_cons q_str (qa_cons (q_callB (call_max2 rfl) lift_max2 (by rfl) b_max PyProof.Rows.boot_max (qa_cons (q_neg (q_pow q_int q_int)) (qa_cons (q_sub (q_ix (qv 0) q_int) (q_c c__law_next hr (by decide) (by rfl) (qa_cons (qv 1) (qa_cons q_int qa_nil)))) qa_nil))) (qa_cons (q_callB (call_min2 rfl) lift_min2 (by rfl) b_min PyProof.Rows.boot_min (qa_cons (q_pow q_int q_int) (qa_cons (q_add (q_ix (qv 0) q_int) (q_c c__law_next hr (by decide) (by rfl) (qa_cons (qv 1) (qa_cons q_int qa_nil)))) qa_nil))) qa_nil))))))
    qss_nil)
    (qss_cons (qs_if (q_tcmp (op_eqU hu) lift_eq (q_ix (qv 0) q_int) q_str (nomark _))
    (qss_one (qs_ret (q_tup (qa_cons q_str (qa_cons (q_callB (call_max2 rfl) lift_max2 (by rfl) b_max PyProof.Rows.boot_max (qa_cons q_int (qa_cons (q_sub (q_ix (qv 0) q_int) (q_c c__law_next hr (by decide) (by rfl) (qa_cons (qv 1) (qa_cons q_int qa_nil)))) qa_nil))) (qa_cons (q_callB (call_min2 rfl) lift_min2 (by rfl) b_min PyProof.Rows.boot_min (qa_cons q_int (qa_cons (q_add (q_ix (qv 0) q_int) (q_c c__law_next hr (by decide) (by rfl) (qa_cons (qv 1) (qa_cons q_int qa_nil)))) qa_nil))) qa_nil))))))
    qss_nil)
    (qss_cons (qs_set (i := 2) nd (q_c c__law_next hr (by decide) (by rfl) (qa_cons (qv 1) (qa_cons q_int qa_nil))))
    (qss_cons (qs_set (i := 3) nd (q_c c__law_free_id hr (by decide) (by rfl) (qa_cons (qv 0) (qa_cons (qv 1) qa_nil))))
    (qss_cons (qs_if (QW.pt (qw_and (q_tcmp (op_eqU hu) lift_eq (qv 2) q_int (nomark _)) (qw_and1 (q_tcmp op_gtU lift_ord (q_callB call_len lift_len (by rfl) b_len boot_len (qa_cons (q_ix (qv 0) q_int) qa_nil)) q_int (nomark _)))))
    (qss_cons (qs_set (i := 4) nd (q_ix (q_ix (qv 0) q_int) (q_c c__law_next hr (by decide) (by rfl) (qa_cons (qv 1) (qa_cons (q_callB call_len lift_len (by rfl) b_len boot_len (qa_cons (q_ix (qv 0) q_int) qa_nil)) qa_nil)))))
    (qss_one (qs_ret (q_tup (qa_cons q_str (qa_cons (q_callTy call_tupB lift_tupleC (by rfl) b_tuple PyProof.Rows.boot_tuple (qa_cons (q_lc (own := [("one", 5)]) rfl nd (qi (q_ix (qv 0) q_int)) (by show blkC ["leaf", "draws", "pick", "free", "gone", "one"] (defScope s__law_step_leaf) _ _ = true; decide +kernel) (fun _ _ _ _ _ => (qg_name nd (fun _ _ => pw_set (by decide) _ _))) (fun _ _ _ _ _ => (qts_one (q_tcmp (op_neU hu) lift_ne (qv 5) (qv 4) (nomark _)))) (fun _ _ _ _ _ => (qv 5))) qa_nil)) (qa_cons (q_c c__law_with_id hr (by decide) (by rfl) (qa_cons (q_ix (qv 0) q_int) (qa_cons (qv 4) qa_nil))) (qa_cons q_bl qa_nil))))))))
    qss_nil)
    (qss_cons (qs_if (QW.pt (qw_or (q_tcmp (op_eqU hu) lift_eq (qv 2) q_int (nomark _)) (qw_or1 (q_tcmp (op_eqU hu) lift_eq (qv 3) q_int (nomark _)))))
    (qss_one (qs_ret (q_tup (qa_cons q_str (qa_cons (q_ix (qv 0) q_int) (qa_cons (q_ix (qv 0) q_int) (qa_cons q_bl qa_nil)))))))
    qss_nil)
    (qss_one (qs_ret (q_tup (qa_cons q_str (qa_cons (q_c c__law_with_id hr (by decide) (by rfl) (qa_cons (q_ix (qv 0) q_int) (qa_cons (qv 3) qa_nil))) (qa_cons (q_ix (qv 0) q_int) (qa_cons (q_ix (qv 0) q_int) qa_nil)))))))))))))
theorem ok__law_read_leaf {f : Addr} {fd : FuncData} (Fn : Fun K "_law_read_leaf" "_law_read_leaf" s__law_read_leaf f fd) (b_len : mg "len" = none) : FnOk P w K mg base CX0 1 f fd ["new_leaf", "value", "path"] (upSp ⟨K, P, w⟩ sq__law_read_leaf) := by
  refine fn_ok (t := rd__law_read_leaf) (m := 3) (n := 0) (k := 0) Fn sc__law_read_leaf rfl rfl fun cdv A outer s H E hr => ?_
  have hu := hu190 hr
  have nd := sc__law_read_leaf.nd
  unfold rd__law_read_leaf
  exact (qss_cons (qs_if (q_tcmp (op_eqU hu) lift_eq (q_ix (qv 0) q_int) q_str (nomark _))
    (qss_cons (qs_if (q_tchain op_leU lift_ord op_leU lift_ord (q_ix (qv 0) q_int) (qv 1) (q_ix (qv 0) q_int))
    (qss_one (qs_ret (q_tup (qa_cons q_str (qa_cons (qv 1) qa_nil)))))
    qss_nil)
    (qss_one (qs_ret (q_tup (qa_cons q_str (qa_cons (qv 2) (qa_cons q_str qa_nil)))))))
    qss_nil)
    (qss_cons (qs_if (q_tcmp (op_eqU hu) lift_eq (q_ix (qv 0) q_int) q_str (nomark _))
    (qss_cons (qs_if (q_tchain op_leU lift_ord op_leU lift_ord (q_ix (qv 0) q_int) (q_callB call_len lift_len (by rfl) b_len boot_len (qa_cons (qv 1) qa_nil)) (q_ix (qv 0) q_int))
    (qss_one (qs_ret (q_tup (qa_cons q_str (qa_cons (qv 1) qa_nil)))))
    qss_nil)
    (qss_one (qs_ret (q_tup (qa_cons q_str (qa_cons (qv 2) (qa_cons q_str qa_nil)))))))
    qss_nil)
    (qss_cons (qs_if (q_tcmp (op_inU hu) (lift_in false) (qv 1) (q_ix (qv 0) q_int) rfl)
    (qss_one (qs_ret (q_tup (qa_cons q_str (qa_cons (qv 1) qa_nil)))))
    qss_nil)
    (qss_cons (qs_if (q_truth (q_ix (qv 0) q_int))
    (qss_one (qs_ret (q_tup (qa_cons q_str (qa_cons q_int qa_nil)))))
    qss_nil)
    (qss_one (qs_ret (q_tup (qa_cons q_str (qa_cons (qv 2) (qa_cons q_str qa_nil))))))))))
theorem ok__law_same (n : Nat) {f : Addr} {fd : FuncData} (Fn : Fun K "_law_same" "_law_same" s__law_same f fd) (c__law_same : Cal P w K mg base (1 + n) "_law_same" ["actual", "expected"] (sp__law_same n)) (b_isinstance : mg "isinstance" = none) (b_tuple : mg "tuple" = none) (b_len : mg "len" = none) (b_range : mg "range" = none) (b_bool : mg "bool" = none) (b_int : mg "int" = none) (b_str : mg "str" = none) : FnOk P w K mg base CX0 (1 + n + 1) f fd ["actual", "expected"] (upSp ⟨K, P, w⟩ (sq__law_same (sp__law_same n))) := by
  refine fn_ok (t := rd__law_same (sp__law_same n)) (m := 2) (n := 1) (k := 1 + n) Fn sc__law_same rfl rfl fun cdv A outer s H E hr => ?_
  have hu := hu190 hr
  have nd := sc__law_same.nd
  unfold rd__law_same
  exact (qss_cons (qs_if (q_tisN (qv 1))
    (qss_one (qs_ret (q_isN (qv 0))))
    qss_nil)
    (qss_cons (qs_if (q_truth (q_isi (T := "tuple") (by decide) (by rfl) b_isinstance (by rfl) b_tuple PyProof.Rows.boot_tuple (qv 1)))
    (qss_cons (qs_if (QW.pt (qw_or (qt_not (q_truth (q_isi (T := "tuple") (by decide) (by rfl) b_isinstance (by rfl) b_tuple PyProof.Rows.boot_tuple (qv 0)))) (qw_or1 (q_tcmp (op_neU hu) lift_ne (q_callB call_len lift_len (by rfl) b_len boot_len (qa_cons (qv 0) qa_nil)) (q_callB call_len lift_len (by rfl) b_len boot_len (qa_cons (qv 1) qa_nil)) (nomark _)))))
    (qss_one (qs_ret q_bl))
    qss_nil)
    (qss_cons (qs_for PassesOwn.never rfl (qi_range1 (by rfl) b_range (qa_cons (q_callB call_len lift_len (by rfl) b_len boot_len (qa_cons (qv 1) qa_nil)) qa_nil)) (qg_name nd (fun _ _ => trivial))
    (qss_one (qs_if (qt_not (q_truth (q_c c__law_same hr (by omega) (by rfl) (qa_cons (q_ix (qv 0) (qv 2)) (qa_cons (q_ix (qv 1) (qv 2)) qa_nil)))))
    (qss_one (qs_ret q_bl))
    qss_nil)))
    (qss_one (qs_ret q_bl))))
    qss_nil)
    (qss_cons (qs_if (q_truth (q_isi (T := "bool") (by decide) (by rfl) b_isinstance (by rfl) b_bool PyProof.Rows.boot_bool (qv 1)))
    (qss_one (qs_ret (q_and (q_isi (T := "bool") (by decide) (by rfl) b_isinstance (by rfl) b_bool PyProof.Rows.boot_bool (qv 0)) (q_one (q_eq hu (qv 0) (qv 1))))))
    qss_nil)
    (qss_cons (qs_if (q_truth (q_isi (T := "int") (by decide) (by rfl) b_isinstance (by rfl) b_int PyProof.Rows.boot_int (qv 1)))
    (qss_one (qs_ret (q_and (q_isi (T := "int") (by decide) (by rfl) b_isinstance (by rfl) b_int PyProof.Rows.boot_int (qv 0)) (q_and (q_not (q_isi (T := "bool") (by decide) (by rfl) b_isinstance (by rfl) b_bool PyProof.Rows.boot_bool (qv 0))) (q_one (q_eq hu (qv 0) (qv 1)))))))
    qss_nil)
    (qss_one (qs_ret (q_and (q_isi (T := "str") (by decide) (by rfl) b_isinstance (by rfl) b_str PyProof.Rows.boot_str (qv 0)) (q_one (q_eq hu (qv 0) (qv 1))))))))))
theorem ok__law_ids_follow {f : Addr} {fd : FuncData} (Fn : Fun K "_law_ids_follow" "_law_ids_follow" s__law_ids_follow f fd) (c__law_live : Cal P w K mg base 1 "_law_live" ["body"] sp__law_live) (b_len : mg "len" = none) : FnOk P w K mg base CX0 2 f fd ["old_body", "new_body"] (upSp ⟨K, P, w⟩ sq__law_ids_follow) := by
  refine fn_ok (t := rd__law_ids_follow) (m := 2) (n := 1) (k := 1) Fn sc__law_ids_follow rfl rfl fun cdv A outer s H E hr => ?_
  have hu := hu190 hr
  have nd := sc__law_ids_follow.nd
  unfold rd__law_ids_follow
  exact (qss_cons (qs_for PassesOwn.never rfl (qi (q_c c__law_live hr (by decide) (by rfl) (qa_cons (qv 0) qa_nil))) (qg_name nd (fun _ _ => trivial))
    (qss_one (qs_if (QW.pt (qw_and (q_tcmp (op_ninU hu) (lift_in true) (qv 2) (q_c c__law_live hr (by decide) (by rfl) (qa_cons (qv 1) qa_nil)) rfl) (qw_and1 (q_tcmp (op_ninU hu) (lift_in true) (qv 2) (q_ix (qv 1) q_int) rfl))))
    (qss_one (qs_ret q_bl))
    qss_nil)))
    (qss_one (qs_ret (q_eq hu (q_callB call_len lift_len (by rfl) b_len boot_len (qa_cons (q_lc (own := [("number", 2)]) rfl nd (qi (q_ix (qv 0) q_int)) (by show blkC ["old_body", "new_body", "number"] (defScope s__law_ids_follow) _ _ = true; decide +kernel) (fun _ _ _ _ _ => (qg_name nd (fun _ _ => pw_set (by decide) _ _))) (fun _ _ _ _ _ => (qts_one (q_tcmp (op_ninU hu) (lift_in true) (qv 2) (q_ix (qv 1) q_int) rfl))) (fun _ _ _ _ _ => (qv 2))) qa_nil)) q_int))))
theorem ok__law_leaf_follows {f : Addr} {fd : FuncData} (Fn : Fun K "_law_leaf_follows" "_law_leaf_follows" s__law_leaf_follows f fd) (c__law_ids_follow : Cal P w K mg base 2 "_law_ids_follow" ["old_body", "new_body"] sp__law_ids_follow) : FnOk P w K mg base CX0 3 f fd ["old_leaf", "new_leaf"] (upSp ⟨K, P, w⟩ sq__law_leaf_follows) := by
  refine fn_ok (t := rd__law_leaf_follows) (m := 2) (n := 0) (k := 2) Fn sc__law_leaf_follows rfl rfl fun cdv A outer s H E hr => ?_
  have hu := hu190 hr
  have nd := sc__law_leaf_follows.nd
  unfold rd__law_leaf_follows
  exact (qss_cons (qs_if (q_tcmp (op_neU hu) lift_ne (q_ix (qv 0) q_int) (q_ix (qv 1) q_int) (nomark _))
    (qss_one (qs_ret q_bl))
    qss_nil)
    (qss_cons (qs_if (q_tcmp (op_eqU hu) lift_eq (q_ix (qv 0) q_int) q_str (nomark _))
    (qss_one (qs_ret (q_and (q_c c__law_ids_follow hr (by decide) (by rfl) (qa_cons (qv 0) (qa_cons (qv 1) qa_nil))) (q_one (q_or (q_ix (qv 1) q_int) (q_one (q_not (q_ix (qv 0) q_int))))))))
    qss_nil)
    (qss_one (qs_ret (q_and (q_le (q_ix (qv 1) q_int) (q_ix (qv 0) q_int)) (q_one (q_ge (q_ix (qv 1) q_int) (q_ix (qv 0) q_int))))))))
theorem ok__law_union_of {f : Addr} {fd : FuncData} (Fn : Fun K "_law_union_of" "_law_union_of" s__law_union_of f fd) (b_sorted : mg "sorted" = none) (b_list : mg "list" = none) : FnOk P w K mg base CX0 1 f fd ["first", "second"] (upSp ⟨K, P, w⟩ sq__law_union_of) := by
  refine fn_ok (t := rd__law_union_of) (m := 2) (n := 1) (k := 0) Fn sc__law_union_of rfl rfl fun cdv A outer s H E hr => ?_
  have hu := hu190 hr
  have nd := sc__law_union_of.nd
  unfold rd__law_union_of
  exact (qss_one (qs_ret (q_callB cr_sortedI lift_sortI (by rfl) b_sorted PyProof.Rows.boot_sorted (qa_cons (q_add (q_callTy call_list_of lift_listC (by rfl) b_list PyProof.Rows.boot_list (qa_cons (qv 0) qa_nil)) (q_lc (own := [("one", 2)]) rfl nd (qi (qv 1)) (by show blkC ["first", "second", "one"] (defScope s__law_union_of) _ _ = true; decide +kernel) (fun _ _ _ _ _ => (qg_name nd (fun _ _ => pw_set (by decide) _ _))) (fun _ _ _ _ _ => (qts_one (q_tcmp (op_ninU hu) (lift_in true) (qv 2) (qv 0) rfl))) (fun _ _ _ _ _ => (qv 2)))) qa_nil))))
theorem ok__law_join_leaf {f : Addr} {fd : FuncData} (Fn : Fun K "_law_join_leaf" "_law_join_leaf" s__law_join_leaf f fd) (c__law_union_of : Cal P w K mg base 1 "_law_union_of" ["first", "second"] sp__law_union_of) (b_max : mg "max" = none) (b_min : mg "min" = none) (b_tuple : mg "tuple" = none) : FnOk P w K mg base CX0 2 f fd ["first", "second"] (upSp ⟨K, P, w⟩ sq__law_join_leaf) := by
  refine fn_ok (t := rd__law_join_leaf) (m := 2) (n := 3) (k := 1) Fn sc__law_join_leaf rfl rfl fun cdv A outer s H E hr => ?_
  have hu := hu190 hr
  have nd := sc__law_join_leaf.nd
  unfold rd__law_join_leaf
  exact (qss_cons (qs_if (q_tcmp (op_neU hu) lift_ne (q_ix (qv 0) q_int) q_str (nomark _))
    (qss_one (qs_ret (q_tup (qa_cons (q_ix (qv 0) q_int) (qa_cons (q_callB (call_min2 rfl) lift_min2 (by rfl) b_min PyProof.Rows.boot_min (qa_cons (q_ix (qv 0) q_int) (qa_cons (q_ix (qv 1) q_int) qa_nil))) (qa_cons (q_callB (call_max2 rfl) lift_max2 (by rfl) b_max PyProof.Rows.boot_max (qa_cons (q_ix (qv 0) q_int) (qa_cons (q_ix (qv 1) q_int) qa_nil))) qa_nil))))))
    qss_nil)
    (qss_cons (qs_set (i := 2) nd (q_c c__law_union_of hr (by decide) (by rfl) (qa_cons (q_ix (qv 0) q_int) (qa_cons (q_ix (qv 1) q_int) qa_nil))))
    (qss_cons (qs_setLc (i := 3) (own := [("one", 4)]) rfl nd rfl rfl rfl rfl (by decide +kernel) (qi (q_c c__law_union_of hr (by decide) (by rfl) (qa_cons (q_ix (qv 0) q_int) (qa_cons (q_ix (qv 1) q_int) qa_nil)))) (by show blkC ["first", "second", "retired", "live", "one"] (defScope s__law_join_leaf) _ _ = true; decide +kernel) (fun _ _ _ _ _ => (qg_name nd (fun _ _ => pw_set (by decide) _ _))) (fun _ _ _ _ _ => (qts_one (q_tcmp (op_ninU hu) (lift_in true) (qv 4) (qv 2) rfl))) (fun _ _ _ _ _ => (qv 4)))
    (qss_one (qs_ret (q_tup (qa_cons q_str (qa_cons (q_callTy call_tupB lift_tupleC (by rfl) b_tuple PyProof.Rows.boot_tuple (qa_cons (qv 3) qa_nil)) (qa_cons (q_callTy call_tupB lift_tupleC (by rfl) b_tuple PyProof.Rows.boot_tuple (qa_cons (qv 2) qa_nil)) (qa_cons (q_or (q_ix (qv 0) q_int) (q_one (q_ix (qv 1) q_int))) qa_nil))))))))))
theorem ok_law {f : Addr} {fd : FuncData} (Fn : Fun K "law" "law" s_law f fd) (c__law_draws : Cal P w K mg base 1 "_law_draws" ["cell"] sp__law_draws) (c__law_cell : Cal P w K mg base 1 "_law_cell" ["script", "k"] sp__law_cell) (c__law_leaf : Cal P w K mg base 3 "_law_leaf" ["draws"] sp__law_leaf) (c__law_step_leaf : Cal P w K mg base 3 "_law_step_leaf" ["leaf", "draws"] sp__law_step_leaf) (c__law_next : Cal P w K mg base 1 "_law_next" ["draws", "many"] sp__law_next) (c_join_leaf : Cal P w K mg base 1 "join_leaf" ["first", "second"] sp_join_leaf) (c_is_valid_leaf : Cal P w K mg base 5 "is_valid_leaf" ["leaf"] sp_is_valid_leaf) (c__law_same : Cal P w K mg base 9 "_law_same" ["actual", "expected"] (sp__law_same 8)) (c__law_join_leaf : Cal P w K mg base 2 "_law_join_leaf" ["first", "second"] sp__law_join_leaf) (c__law_leaf_follows : Cal P w K mg base 3 "_law_leaf_follows" ["old_leaf", "new_leaf"] sp__law_leaf_follows) (c__law_leaf_value : Cal P w K mg base 3 "_law_leaf_value" ["leaf", "draws"] sp__law_leaf_value) (c__law_read_leaf : Cal P w K mg base 1 "_law_read_leaf" ["new_leaf", "value", "path"] sp__law_read_leaf) : FnOk P w K mg base CX0 10 f fd ["script"] (upSp ⟨K, P, w⟩ sq_law) := by
  refine fn_ok (t := rd_law) (m := 1) (n := 9) (k := 9) Fn sc_law rfl rfl fun cdv A outer s H E hr => ?_
  have hu := hu190 hr
  have nd := sc_law.nd
  unfold rd_law
  exact (qss_cons (qs_set (i := 1) nd (q_c c__law_draws hr (by decide) (by rfl) (qa_cons (q_c c__law_cell hr (by decide) (by rfl) (qa_cons (qv 0) (qa_cons q_int qa_nil))) qa_nil)))
    (qss_cons (qs_set (i := 2) nd (q_c c__law_leaf hr (by decide) (by rfl) (qa_cons (qv 1) qa_nil)))
    (qss_cons (qs_set (i := 3) nd (q_c c__law_draws hr (by decide) (by rfl) (qa_cons (q_c c__law_cell hr (by decide) (by rfl) (qa_cons (qv 0) (qa_cons q_int qa_nil))) qa_nil)))
    (qss_cons (qs_set (i := 4) nd (q_c c__law_step_leaf hr (by decide) (by rfl) (qa_cons (qv 2) (qa_cons (qv 1) qa_nil))))
    (qss_cons (qs_set (i := 5) nd (q_c c__law_step_leaf hr (by decide) (by rfl) (qa_cons (qv 2) (qa_cons (qv 3) qa_nil))))
    (qss_cons (qs_if (q_tcmp (op_eqU hu) lift_eq (q_c c__law_next hr (by decide) (by rfl) (qa_cons (qv 3) (qa_cons q_int qa_nil))) q_int (nomark _))
    (qss_one (qs_set (i := 5) nd (q_c c__law_step_leaf hr (by decide) (by rfl) (qa_cons (qv 5) (qa_cons (qv 3) qa_nil)))))
    qss_nil)
    (qss_cons (qs_if (q_tcmp (op_eqU hu) lift_eq (q_c c__law_next hr (by decide) (by rfl) (qa_cons (qv 3) (qa_cons q_int qa_nil))) q_int (nomark _))
    (qss_one (qs_set (i := 5) nd (q_c c__law_leaf hr (by decide) (by rfl) (qa_cons (qv 3) qa_nil))))
    qss_nil)
    (qss_cons (qs_set (i := 6) nd (q_c c_join_leaf hr (by decide) (by rfl) (qa_cons (qv 4) (qa_cons (qv 5) qa_nil))))
    (qss_cons (qs_if (q_tcmp (op_neU hu) lift_ne (q_ix (qv 4) q_int) (q_ix (qv 5) q_int) (nomark _))
    (qss_one (qs_ret (q_isN (qv 6))))
    qss_nil)
    (qss_cons (qs_if (QW.pt (qw_or (qt_not (q_truth (q_c c__law_same hr (by decide) (by rfl) (qa_cons (qv 6) (qa_cons (q_c c__law_join_leaf hr (by decide) (by rfl) (qa_cons (qv 4) (qa_cons (qv 5) qa_nil))) qa_nil))))) (qw_or1 (q_tcmp op_notBl lift_notB (q_c c_is_valid_leaf hr (by decide) (by rfl) (qa_cons (qv 6) qa_nil)) q_bl (nomark _)))))
    (qss_one (qs_ret q_bl))
    qss_nil)
    (qss_cons (qs_if (QW.pt (qw_or (qt_not (q_truth (q_c c__law_leaf_follows hr (by decide) (by rfl) (qa_cons (qv 4) (qa_cons (qv 6) qa_nil))))) (qw_or1 (qt_not (q_truth (q_c c__law_leaf_follows hr (by decide) (by rfl) (qa_cons (qv 5) (qa_cons (qv 6) qa_nil))))))))
    (qss_one (qs_ret q_bl))
    qss_nil)
    (qss_cons (qs_set (i := 7) nd (q_c c__law_step_leaf hr (by decide) (by rfl) (qa_cons (q_c c__law_step_leaf hr (by decide) (by rfl) (qa_cons (qv 4) (qa_cons (qv 3) qa_nil))) (qa_cons (qv 3) qa_nil))))
    (qss_cons (qs_if (QW.pt (qw_and (q_truth (q_c c__law_leaf_follows hr (by decide) (by rfl) (qa_cons (qv 4) (qa_cons (qv 7) qa_nil)))) (qw_and1 (q_truth (q_c c__law_leaf_follows hr (by decide) (by rfl) (qa_cons (qv 5) (qa_cons (qv 7) qa_nil)))))))
    (qss_one (qs_if (qt_not (q_truth (q_c c__law_leaf_follows hr (by decide) (by rfl) (qa_cons (qv 6) (qa_cons (qv 7) qa_nil)))))
    (qss_one (qs_ret q_bl))
    qss_nil))
    qss_nil)
    (qss_cons (qs_set (i := 8) nd (q_c c__law_leaf_value hr (by decide) (by rfl) (qa_cons (qv 4) (qa_cons (qv 3) qa_nil))))
    (qss_cons (qs_set (i := 9) nd (q_c c__law_leaf_value hr (by decide) (by rfl) (qa_cons (qv 5) (qa_cons (qv 3) qa_nil))))
    (qss_one (qs_ret (q_and (q_eq hu (q_ix (q_c c__law_read_leaf hr (by decide) (by rfl) (qa_cons (qv 6) (qa_cons (qv 8) (qa_cons (q_tup qa_nil) qa_nil)))) q_int) q_str) (q_one (q_eq hu (q_ix (q_c c__law_read_leaf hr (by decide) (by rfl) (qa_cons (qv 6) (qa_cons (qv 9) (qa_cons (q_tup qa_nil) qa_nil)))) q_int) q_str))))))))))))))))))))
end
def DefAt (K : PySem.W.Frag) (x : Str) (st : Stmt) : Prop := ∃ f, PySem.W.nsIn K mainGlobals x = some (some (.ref f)) ∧ PySem.W.keepIn K (.ref f) = true ∧ ∃ oc od kV doc pm an cdv ct osl,
  K.lookup f = some ⟨oc, od, .func (PySem.W.fnOf x x (defArgs st) (defBody st) (defScope st) .none kV doc pm an cdv ct), osl⟩ ∧ PySem.W.codeIn K cdv x = true
theorem def_mk {K : PySem.W.Frag} {x : Str} {st : Stmt} {f : Addr} {oc : Value} {od an : Option Addr} {osl : Array (Option Value)} {kV doc pm cdv ct : Value} (a : PySem.W.nsIn K mainGlobals x = some (some (.ref f)))
    (l : K.lookup f = some ⟨oc, od, .func (PySem.W.fnOf x x (defArgs st) (defBody st) (defScope st) .none kV doc pm an cdv ct), osl⟩) (c : PySem.W.codeIn K cdv x = true) (k : PySem.W.keepIn K (.ref f) = true) : DefAt K x st :=
  ⟨f, a, k, oc, od, kV, doc, pm, an, cdv, ct, osl, l, c⟩
theorem cal_of {P : Program} {w : World} {K : PySem.W.Frag} {h : Heap} {mg : Str → Option Value} {base : Heap} {k : Nat} {x : Str} {st : Stmt} {ps : List Str} {sp : DSp} (X : K.In h) (G : h.Ns mainGlobals mg) (d : DefAt K x st)
    (hb : ∀ (kV doc pm : Value) (an : Option Addr) (cdv ct : Value) (us : List Value), us.length = ps.length → bindArgs (PySem.W.fnOf x x (defArgs st) (defBody st) (defScope st) .none kV doc pm an cdv ct) ⟨us, []⟩ = pure (ps.zip us))
    (ok : ∀ f fd, Fun K x x st f fd → FnOk P w K mg base CX0 k f fd ps (upSp ⟨K, P, w⟩ sp)) : Cal P w K mg base k x ps sp := by
  obtain ⟨f, a, kp, oc, od, kV, doc, pm, an, cdv, ct, osl, l, c⟩ := d
  have F := fun_mk l c kp
  exact ⟨f, _, ok f _ F, PySem.W.mg_of X G a, kp, F.binds hb⟩
theorem law_end {l : PySem.W.OpenLaw} {n k : Nat} {w : World} {K : PySem.W.Frag} {sp : DSp} (h : ∀ (ns : List Int) (G : Gp) (Q : D → Gp → Prop) (E : DXK), ns.length ≤ n → (∀ a, G a = none) → (∀ G', Q (.bl true) G') → sp [.rl (ns.map D.int)] G Q E) (H : Hp) (a : Addr) (ns : List Int) (hl : ns.length ≤ n) (hO : Only H) (hS : SqL K H a (ns.map V.int)) :
    upSp ⟨K, l.prog, w⟩ sp [.ref a] H (fun v _ => v = .bl true) (fun _ _ _ => False) := by
  refine ⟨fun _ => False, [.rl (ns.map D.int)], fun _ => none, fun d _ => d = .bl true, ⟨(fun _ _ e => by cases e), (fun _ f => f.elim), (fun _ f => f.elim)⟩, ?_, h ns _ _ _ hl (fun _ => rfl) (fun _ => rfl), fun v H' ⟨d, F', G', _, _, r, e⟩ => ?_⟩
  · refine RepL.one ⟨a, ns.map V.int, rfl, ?_, RepL.ints ns⟩
    rcases hS with (hS | ⟨o, hS⟩) | hS
    · rcases hO a with e | ⟨o, xs, e⟩
      · rw [e] at hS; cases hS
      · rw [e] at hS; cases hS
    · exact .inl ⟨o, hS⟩
    · exact .inr hS
  · subst e
    exact r
theorem all_mk {l : PySem.W.OpenLaw} {w : World} {K : PySem.W.Frag} {h : Heap} {mg : Str → Option Value} {fa : Addr} (X : K.In h) (G : h.Ns mainGlobals mg) (hfa : mg "law" = some (.ref fa))
    (d_is_ascending : DefAt K "is_ascending" s_is_ascending) (d_are_ids : DefAt K "are_ids" s_are_ids) (d_are_live_and_retired : DefAt K "are_live_and_retired" s_are_live_and_retired) (d_are_alternatives : DefAt K "are_alternatives" s_are_alternatives) (d_is_valid_leaf : DefAt K "is_valid_leaf" s_is_valid_leaf) (d_join_leaf : DefAt K "join_leaf" s_join_leaf) (d__law_cell : DefAt K "_law_cell" s__law_cell) (d__law_draws : DefAt K "_law_draws" s__law_draws) (d__law_next : DefAt K "_law_next" s__law_next) (d__law_big : DefAt K "_law_big" s__law_big) (d__law_char : DefAt K "_law_char" s__law_char) (d__law_ids : DefAt K "_law_ids" s__law_ids) (d__law_split : DefAt K "_law_split" s__law_split) (d__law_leaf : DefAt K "_law_leaf" s__law_leaf) (d__law_leaf_value : DefAt K "_law_leaf_value" s__law_leaf_value) (d__law_with_id : DefAt K "_law_with_id" s__law_with_id) (d__law_live : DefAt K "_law_live" s__law_live) (d__law_free_id : DefAt K "_law_free_id" s__law_free_id) (d__law_step_leaf : DefAt K "_law_step_leaf" s__law_step_leaf) (d__law_read_leaf : DefAt K "_law_read_leaf" s__law_read_leaf) (d__law_same : DefAt K "_law_same" s__law_same) (d__law_ids_follow : DefAt K "_law_ids_follow" s__law_ids_follow) (d__law_leaf_follows : DefAt K "_law_leaf_follows" s__law_leaf_follows) (d__law_union_of : DefAt K "_law_union_of" s__law_union_of) (d__law_join_leaf : DefAt K "_law_join_leaf" s__law_join_leaf) (d_law : DefAt K "law" s_law) (z_all : PySem.W.nsIn K mainGlobals "all" = some none) (z_range : PySem.W.nsIn K mainGlobals "range" = some none) (z_len : PySem.W.nsIn K mainGlobals "len" = some none) (z_any : PySem.W.nsIn K mainGlobals "any" = some none) (z_max : PySem.W.nsIn K mainGlobals "max" = some none) (z_min : PySem.W.nsIn K mainGlobals "min" = some none) (z_tuple : PySem.W.nsIn K mainGlobals "tuple" = some none) (z_sorted : PySem.W.nsIn K mainGlobals "sorted" = some none) (z_set : PySem.W.nsIn K mainGlobals "set" = some none) (z_abs : PySem.W.nsIn K mainGlobals "abs" = some none) (z_int : PySem.W.nsIn K mainGlobals "int" = some none) (z_list : PySem.W.nsIn K mainGlobals "list" = some none) (z_isinstance : PySem.W.nsIn K mainGlobals "isinstance" = some none) (z_bool : PySem.W.nsIn K mainGlobals "bool" = some none) (z_str : PySem.W.nsIn K mainGlobals "str" = some none) {t_LEAST_ID : Tok} (g_LEAST_ID : PySem.W.nsIn K mainGlobals "LEAST_ID" = some (some (.int 1 t_LEAST_ID))) {t_GREATEST_ID : Tok} (g_GREATEST_ID : PySem.W.nsIn K mainGlobals "GREATEST_ID" = some (some (.int 99 t_GREATEST_ID))) {t_FARTHEST_NUMBER : Tok} (g_FARTHEST_NUMBER : PySem.W.nsIn K mainGlobals "FARTHEST_NUMBER" = some (some (.int 1000000000000000 t_FARTHEST_NUMBER))) {t_LONGEST_TEXT : Tok} (g_LONGEST_TEXT : PySem.W.nsIn K mainGlobals "LONGEST_TEXT" = some (some (.int 40 t_LONGEST_TEXT))) :
    ∃ fd : FuncData, (∀ (s : Shared) (v : Value), BindsTo s fd ⟨[v], []⟩ [("script", v)]) ∧ ∀ base : Heap, K.In base → base.Ns mainGlobals mg → FnOk l.prog w K mg base CX0 10 fa fd ["script"] (upSp ⟨K, l.prog, w⟩ sq_law) := by
  have b_all : mg "all" = none := PySem.W.mg_none_of X G z_all
  have b_range : mg "range" = none := PySem.W.mg_none_of X G z_range
  have b_len : mg "len" = none := PySem.W.mg_none_of X G z_len
  have b_any : mg "any" = none := PySem.W.mg_none_of X G z_any
  have b_max : mg "max" = none := PySem.W.mg_none_of X G z_max
  have b_min : mg "min" = none := PySem.W.mg_none_of X G z_min
  have b_tuple : mg "tuple" = none := PySem.W.mg_none_of X G z_tuple
  have b_sorted : mg "sorted" = none := PySem.W.mg_none_of X G z_sorted
  have b_set : mg "set" = none := PySem.W.mg_none_of X G z_set
  have b_abs : mg "abs" = none := PySem.W.mg_none_of X G z_abs
  have b_int : mg "int" = none := PySem.W.mg_none_of X G z_int
  have b_list : mg "list" = none := PySem.W.mg_none_of X G z_list
  have b_isinstance : mg "isinstance" = none := PySem.W.mg_none_of X G z_isinstance
  have b_bool : mg "bool" = none := PySem.W.mg_none_of X G z_bool
  have b_str : mg "str" = none := PySem.W.mg_none_of X G z_str
  have m_LEAST_ID := PySem.W.mg_of X G g_LEAST_ID
  have m_GREATEST_ID := PySem.W.mg_of X G g_GREATEST_ID
  have m_FARTHEST_NUMBER := PySem.W.mg_of X G g_FARTHEST_NUMBER
  have m_LONGEST_TEXT := PySem.W.mg_of X G g_LONGEST_TEXT
  have c_is_ascending : ∀ base, Cal l.prog w K mg base 1 "is_ascending" ["row"] sq_is_ascending := fun base => cal_of X G d_is_ascending (fun _ _ _ _ _ _ us hl => match us, hl with | [_], _ => rfl) fun f fd Fn => ok_is_ascending Fn  b_all b_range b_len
  replace c_is_ascending := fun base => (c_is_ascending base).imp' (sp' := sp_is_ascending) abs_is_ascending
  have c_are_ids : ∀ base, Cal l.prog w K mg base 2 "are_ids" ["numbers"] sq_are_ids := fun base => cal_of X G d_are_ids (fun _ _ _ _ _ _ us hl => match us, hl with | [_], _ => rfl) fun f fd Fn => ok_are_ids Fn (c_is_ascending base) b_all ⟨_, m_LEAST_ID⟩ ⟨_, m_GREATEST_ID⟩
  replace c_are_ids := fun base => (c_are_ids base).imp' (sp' := sp_are_ids) abs_are_ids
  have c_are_live_and_retired : ∀ base, Cal l.prog w K mg base 3 "are_live_and_retired" ["live", "retired"] sq_are_live_and_retired := fun base => cal_of X G d_are_live_and_retired (fun _ _ _ _ _ _ us hl => match us, hl with | [_, _], _ => rfl) fun f fd Fn => ok_are_live_and_retired Fn (c_are_ids base) b_any
  replace c_are_live_and_retired := fun base => (c_are_live_and_retired base).imp' (sp' := sp_are_live_and_retired) abs_are_live_and_retired
  have c_are_alternatives : ∀ base, Cal l.prog w K mg base 4 "are_alternatives" ["live", "retired", "is_open"] sq_are_alternatives := fun base => cal_of X G d_are_alternatives (fun _ _ _ _ _ _ us hl => match us, hl with | [_, _, _], _ => rfl) fun f fd Fn => ok_are_alternatives Fn (c_are_live_and_retired base) b_len
  replace c_are_alternatives := fun base => (c_are_alternatives base).imp' (sp' := sp_are_alternatives) abs_are_alternatives
  have c_is_valid_leaf : ∀ base, Cal l.prog w K mg base 5 "is_valid_leaf" ["leaf"] sq_is_valid_leaf := fun base => cal_of X G d_is_valid_leaf (fun _ _ _ _ _ _ us hl => match us, hl with | [_], _ => rfl) fun f fd Fn => ok_is_valid_leaf Fn (c_are_alternatives base) ⟨_, m_FARTHEST_NUMBER⟩ ⟨_, m_LONGEST_TEXT⟩
  replace c_is_valid_leaf := fun base => (c_is_valid_leaf base).imp' (sp' := sp_is_valid_leaf) abs_is_valid_leaf
  have c_join_leaf : ∀ base, Cal l.prog w K mg base 1 "join_leaf" ["first", "second"] sq_join_leaf := fun base => cal_of X G d_join_leaf (fun _ _ _ _ _ _ us hl => match us, hl with | [_, _], _ => rfl) fun f fd Fn => ok_join_leaf Fn  b_max b_min b_tuple b_sorted b_set
  replace c_join_leaf := fun base => (c_join_leaf base).imp' (sp' := sp_join_leaf) abs_join_leaf
  have c__law_cell : ∀ base, Cal l.prog w K mg base 1 "_law_cell" ["script", "k"] sq__law_cell := fun base => cal_of X G d__law_cell (fun _ _ _ _ _ _ us hl => match us, hl with | [_, _], _ => rfl) fun f fd Fn => ok__law_cell Fn  b_len
  replace c__law_cell := fun base => (c__law_cell base).imp' (sp' := sp__law_cell) abs__law_cell
  have c__law_draws : ∀ base, Cal l.prog w K mg base 1 "_law_draws" ["cell"] sq__law_draws := fun base => cal_of X G d__law_draws (fun _ _ _ _ _ _ us hl => match us, hl with | [_], _ => rfl) fun f fd Fn => ok__law_draws Fn  b_abs b_int b_range
  replace c__law_draws := fun base => (c__law_draws base).imp' (sp' := sp__law_draws) abs__law_draws
  have c__law_next : ∀ base, Cal l.prog w K mg base 1 "_law_next" ["draws", "many"] sq__law_next := fun base => cal_of X G d__law_next (fun _ _ _ _ _ _ us hl => match us, hl with | [_, _], _ => rfl) fun f fd Fn => ok__law_next Fn  b_len b_int
  have c__law_nextS := fun base => (c__law_next base).imp (sp' := sp__law_nextS) abs__law_nextS
  replace c__law_next := fun base => (c__law_next base).imp (sp' := sp__law_next) abs__law_next
  have c__law_big : ∀ base, Cal l.prog w K mg base 2 "_law_big" ["draws"] sq__law_big := fun base => cal_of X G d__law_big (fun _ _ _ _ _ _ us hl => match us, hl with | [_], _ => rfl) fun f fd Fn => ok__law_big Fn (c__law_next base) b_range
  replace c__law_big := fun base => (c__law_big base).imp' (sp' := sp__law_big) abs__law_big
  have c__law_char : ∀ base, Cal l.prog w K mg base 1 "_law_char" ["k"] sq__law_char := fun base => cal_of X G d__law_char (fun _ _ _ _ _ _ us hl => match us, hl with | [_], _ => rfl) fun f fd Fn => ok__law_char Fn  b_int
  replace c__law_char := fun base => (c__law_char base).imp' (sp' := sp__law_char) abs__law_char
  have c__law_ids : ∀ base, Cal l.prog w K mg base 2 "_law_ids" ["draws", "most"] sq__law_ids := fun base => cal_of X G d__law_ids (fun _ _ _ _ _ _ us hl => match us, hl with | [_, _], _ => rfl) fun f fd Fn => ok__law_ids Fn (c__law_next base) b_range
  replace c__law_ids := fun base => (c__law_ids base).imp' (sp' := sp__law_ids) abs__law_ids
  have c__law_split : ∀ base, Cal l.prog w K mg base 2 "_law_split" ["draws", "ids"] sq__law_split := fun base => cal_of X G d__law_split (fun _ _ _ _ _ _ us hl => match us, hl with | [_, _], _ => rfl) fun f fd Fn => ok__law_split Fn (c__law_next base) 
  replace c__law_split := fun base => (c__law_split base).imp' (sp' := sp__law_split) abs__law_split
  have c__law_leaf : ∀ base, Cal l.prog w K mg base 3 "_law_leaf" ["draws"] sq__law_leaf := fun base => cal_of X G d__law_leaf (fun _ _ _ _ _ _ us hl => match us, hl with | [_], _ => rfl) fun f fd Fn => ok__law_leaf Fn (c__law_next base) (c__law_split base) (c__law_ids base) b_len b_tuple
  replace c__law_leaf := fun base => (c__law_leaf base).imp' (sp' := sp__law_leaf) abs__law_leaf
  have c__law_leaf_value : ∀ base, Cal l.prog w K mg base 3 "_law_leaf_value" ["leaf", "draws"] sq__law_leaf_value := fun base => cal_of X G d__law_leaf_value (fun _ _ _ _ _ _ us hl => match us, hl with | [_, _], _ => rfl) fun f fd Fn => ok__law_leaf_value Fn (c__law_next base) (c__law_big base) (c__law_char base) b_int b_range b_list b_len
  replace c__law_leaf_value := fun base => (c__law_leaf_value base).imp' (sp' := sp__law_leaf_value) abs__law_leaf_value
  have c__law_with_id : ∀ base, Cal l.prog w K mg base 1 "_law_with_id" ["ids", "number"] sq__law_with_id := fun base => cal_of X G d__law_with_id (fun _ _ _ _ _ _ us hl => match us, hl with | [_, _], _ => rfl) fun f fd Fn => ok__law_with_id Fn  b_tuple b_sorted b_list
  replace c__law_with_id := fun base => (c__law_with_id base).imp' (sp' := sp__law_with_id) abs__law_with_id
  have c__law_live : ∀ base, Cal l.prog w K mg base 1 "_law_live" ["body"] sq__law_live := fun base => cal_of X G d__law_live (fun _ _ _ _ _ _ us hl => match us, hl with | [_], _ => rfl) fun f fd Fn => ok__law_live Fn  b_list
  replace c__law_live := fun base => (c__law_live base).imp' (sp' := sp__law_live) abs__law_live
  have c__law_free_id : ∀ base, Cal l.prog w K mg base 2 "_law_free_id" ["body", "draws"] sq__law_free_id := fun base => cal_of X G d__law_free_id (fun _ _ _ _ _ _ us hl => match us, hl with | [_, _], _ => rfl) fun f fd Fn => ok__law_free_id Fn (c__law_next base) (c__law_live base) b_range b_int
  replace c__law_free_id := fun base => (c__law_free_id base).imp' (sp' := sp__law_free_id) abs__law_free_id
  have c__law_step_leaf : ∀ base, Cal l.prog w K mg base 3 "_law_step_leaf" ["leaf", "draws"] sq__law_step_leaf := fun base => cal_of X G d__law_step_leaf (fun _ _ _ _ _ _ us hl => match us, hl with | [_, _], _ => rfl) fun f fd Fn => ok__law_step_leaf Fn (c__law_next base) (c__law_free_id base) (c__law_with_id base) b_min b_max b_len b_tuple
  replace c__law_step_leaf := fun base => (c__law_step_leaf base).imp' (sp' := sp__law_step_leaf) abs__law_step_leaf
  have c__law_read_leaf : ∀ base, Cal l.prog w K mg base 1 "_law_read_leaf" ["new_leaf", "value", "path"] sq__law_read_leaf := fun base => cal_of X G d__law_read_leaf (fun _ _ _ _ _ _ us hl => match us, hl with | [_, _, _], _ => rfl) fun f fd Fn => ok__law_read_leaf Fn  b_len
  replace c__law_read_leaf := fun base => (c__law_read_leaf base).imp' (sp' := sp__law_read_leaf) abs__law_read_leaf
  have cr__law_same : ∀ (n : Nat), (∀ base, Cal l.prog w K mg base (1 + n) "_law_same" ["actual", "expected"] (sp__law_same n)) := by
    intro n
    induction n with
    | zero => exact fun base => (cal_of X G d__law_same (fun _ _ _ _ _ _ us hl => match us, hl with | [_, _], _ => rfl) fun f fd Fn => fn_ok (k := 0) (t := fun _ _ _ => False) (m := 2) (n := 1) Fn sc__law_same rfl rfl fun _ _ _ _ _ _ _ => q_bot).imp' (sp' := sp__law_same 0) (fun _ _ _ _ h => h.elim)
    | succ n ih =>
      have ih__law_same := ih
      exact fun base => (cal_of X G d__law_same (fun _ _ _ _ _ _ us hl => match us, hl with | [_, _], _ => rfl) fun f fd Fn => ok__law_same n Fn (ih__law_same base) b_isinstance b_tuple b_len b_range b_bool b_int b_str).imp' (sp' := sp__law_same (n + 1)) (abs__law_same n)
  have c__law_same := (cr__law_same 8)
  have c__law_ids_follow : ∀ base, Cal l.prog w K mg base 2 "_law_ids_follow" ["old_body", "new_body"] sq__law_ids_follow := fun base => cal_of X G d__law_ids_follow (fun _ _ _ _ _ _ us hl => match us, hl with | [_, _], _ => rfl) fun f fd Fn => ok__law_ids_follow Fn (c__law_live base) b_len
  replace c__law_ids_follow := fun base => (c__law_ids_follow base).imp' (sp' := sp__law_ids_follow) abs__law_ids_follow
  have c__law_leaf_follows : ∀ base, Cal l.prog w K mg base 3 "_law_leaf_follows" ["old_leaf", "new_leaf"] sq__law_leaf_follows := fun base => cal_of X G d__law_leaf_follows (fun _ _ _ _ _ _ us hl => match us, hl with | [_, _], _ => rfl) fun f fd Fn => ok__law_leaf_follows Fn (c__law_ids_follow base) 
  replace c__law_leaf_follows := fun base => (c__law_leaf_follows base).imp' (sp' := sp__law_leaf_follows) abs__law_leaf_follows
  have c__law_union_of : ∀ base, Cal l.prog w K mg base 1 "_law_union_of" ["first", "second"] sq__law_union_of := fun base => cal_of X G d__law_union_of (fun _ _ _ _ _ _ us hl => match us, hl with | [_, _], _ => rfl) fun f fd Fn => ok__law_union_of Fn  b_sorted b_list
  replace c__law_union_of := fun base => (c__law_union_of base).imp' (sp' := sp__law_union_of) abs__law_union_of
  have c__law_join_leaf : ∀ base, Cal l.prog w K mg base 2 "_law_join_leaf" ["first", "second"] sq__law_join_leaf := fun base => cal_of X G d__law_join_leaf (fun _ _ _ _ _ _ us hl => match us, hl with | [_, _], _ => rfl) fun f fd Fn => ok__law_join_leaf Fn (c__law_union_of base) b_max b_min b_tuple
  replace c__law_join_leaf := fun base => (c__law_join_leaf base).imp' (sp' := sp__law_join_leaf) abs__law_join_leaf
  obtain ⟨f, a, kp, oc, od, kV, doc, pm, an, cdv, ct, osl, hl, hc⟩ := d_law
  have e := hfa.symm.trans (PySem.W.mg_of X G a)
  cases e
  have F := fun_mk (st := s_law) hl hc kp
  refine ⟨PySem.W.fnOf "law" "law" (defArgs s_law) (defBody s_law) (defScope s_law) .none kV doc pm an cdv ct, fun s v => .of_eq rfl, fun base _ _ => ?_⟩
  exact ok_law F (c__law_draws base) (c__law_cell base) (c__law_leaf base) (c__law_step_leaf base) (c__law_next base) (c_join_leaf base) (c_is_valid_leaf base) (c__law_same base) (c__law_join_leaf base) (c__law_leaf_follows base) (c__law_leaf_value base) (c__law_read_leaf base) 
end DL
open PySem PySem.W PyProof.Rows
set_option maxHeartbeats 0 in
theorem PySem.Challenge.cw_schemabridge_k34_joined_leaves_holds : PySem.Challenge.rw_schemabridge_k34_joined_leaves.Holds := by
  w_on; o_law; k_head; (case hw => w_witness2)
  k_fill
  refine L2.walk_of (l := PySem.Challenge.rw_schemabridge_k34_joined_leaves) (n := 63) (k := 10) (x := "script") (CX := fun _ => L2.CX0) (sp := fun w => DL.upSp ⟨_, PySem.Challenge.rw_schemabridge_k34_joined_leaves.prog, w⟩ DL.sq_law) rfl (by decide) rfl ⟨rfl, by decide, by decide⟩ (fun w h Y => PySem.W.kIn_of Y) ?F (fun w H a ns hl hO hS => DL.law_end (l := PySem.Challenge.rw_schemabridge_k34_joined_leaves) (k := 0) (w := w) DL.abs_law H a ns hl hO hS) (fun _ _ _ _ _ h => h)
  case F =>
    intro w mg fa h KX G hmg
    refine' DL.all_mk KX G hmg (DL.def_mk ?qa0 ?ql0 ?qc0 ?qk0) (DL.def_mk ?qa1 ?ql1 ?qc1 ?qk1) (DL.def_mk ?qa2 ?ql2 ?qc2 ?qk2) (DL.def_mk ?qa3 ?ql3 ?qc3 ?qk3) (DL.def_mk ?qa4 ?ql4 ?qc4 ?qk4) (DL.def_mk ?qa5 ?ql5 ?qc5 ?qk5) (DL.def_mk ?qa6 ?ql6 ?qc6 ?qk6) (DL.def_mk ?qa7 ?ql7 ?qc7 ?qk7) (DL.def_mk ?qa8 ?ql8 ?qc8 ?qk8) (DL.def_mk ?qa9 ?ql9 ?qc9 ?qk9) (DL.def_mk ?qa10 ?ql10 ?qc10 ?qk10) (DL.def_mk ?qa11 ?ql11 ?qc11 ?qk11) (DL.def_mk ?qa12 ?ql12 ?qc12 ?qk12) (DL.def_mk ?qa13 ?ql13 ?qc13 ?qk13) (DL.def_mk ?qa14 ?ql14 ?qc14 ?qk14) (DL.def_mk ?qa15 ?ql15 ?qc15 ?qk15) (DL.def_mk ?qa16 ?ql16 ?qc16 ?qk16) (DL.def_mk ?qa17 ?ql17 ?qc17 ?qk17) (DL.def_mk ?qa18 ?ql18 ?qc18 ?qk18) (DL.def_mk ?qa19 ?ql19 ?qc19 ?qk19) (DL.def_mk ?qa20 ?ql20 ?qc20 ?qk20) (DL.def_mk ?qa21 ?ql21 ?qc21 ?qk21) (DL.def_mk ?qa22 ?ql22 ?qc22 ?qk22) (DL.def_mk ?qa23 ?ql23 ?qc23 ?qk23) (DL.def_mk ?qa24 ?ql24 ?qc24 ?qk24) (DL.def_mk ?qa25 ?ql25 ?qc25 ?qk25) ?qz0 ?qz1 ?qz2 ?qz3 ?qz4 ?qz5 ?qz6 ?qz7 ?qz8 ?qz9 ?qz10 ?qz11 ?qz12 ?qz13 ?qz14 ?qg0 ?qg1 ?qg2 ?qg3
    (case qa0 => k_is); (case ql0 => k_is); (case qc0 => k_is); (case qk0 => k_is); (case qa1 => k_is); (case ql1 => k_is); (case qc1 => k_is); (case qk1 => k_is); (case qa2 => k_is); (case ql2 => k_is); (case qc2 => k_is); (case qk2 => k_is); (case qa3 => k_is); (case ql3 => k_is); (case qc3 => k_is); (case qk3 => k_is); (case qa4 => k_is); (case ql4 => k_is); (case qc4 => k_is); (case qk4 => k_is); (case qa5 => k_is); (case ql5 => k_is); (case qc5 => k_is); (case qk5 => k_is); (case qa6 => k_is); (case ql6 => k_is); (case qc6 => k_is); (case qk6 => k_is); (case qa7 => k_is); (case ql7 => k_is); (case qc7 => k_is); (case qk7 => k_is); (case qa8 => k_is); (case ql8 => k_is); (case qc8 => k_is); (case qk8 => k_is); (case qa9 => k_is); (case ql9 => k_is); (case qc9 => k_is); (case qk9 => k_is); (case qa10 => k_is); (case ql10 => k_is); (case qc10 => k_is); (case qk10 => k_is); (case qa11 => k_is); (case ql11 => k_is); (case qc11 => k_is); (case qk11 => k_is); (case qa12 => k_is); (case ql12 => k_is); (case qc12 => k_is); (case qk12 => k_is); (case qa13 => k_is); (case ql13 => k_is); (case qc13 => k_is); (case qk13 => k_is); (case qa14 => k_is); (case ql14 => k_is); (case qc14 => k_is); (case qk14 => k_is); (case qa15 => k_is); (case ql15 => k_is); (case qc15 => k_is); (case qk15 => k_is); (case qa16 => k_is); (case ql16 => k_is); (case qc16 => k_is); (case qk16 => k_is); (case qa17 => k_is); (case ql17 => k_is); (case qc17 => k_is); (case qk17 => k_is); (case qa18 => k_is); (case ql18 => k_is); (case qc18 => k_is); (case qk18 => k_is); (case qa19 => k_is); (case ql19 => k_is); (case qc19 => k_is); (case qk19 => k_is); (case qa20 => k_is); (case ql20 => k_is); (case qc20 => k_is); (case qk20 => k_is); (case qa21 => k_is); (case ql21 => k_is); (case qc21 => k_is); (case qk21 => k_is); (case qa22 => k_is); (case ql22 => k_is); (case qc22 => k_is); (case qk22 => k_is); (case qa23 => k_is); (case ql23 => k_is); (case qc23 => k_is); (case qk23 => k_is); (case qa24 => k_is); (case ql24 => k_is); (case qc24 => k_is); (case qk24 => k_is); (case qa25 => k_is); (case ql25 => k_is); (case qc25 => k_is); (case qk25 => k_is); (case qz0 => k_is); (case qz1 => k_is); (case qz2 => k_is); (case qz3 => k_is); (case qz4 => k_is); (case qz5 => k_is); (case qz6 => k_is); (case qz7 => k_is); (case qz8 => k_is); (case qz9 => k_is); (case qz10 => k_is); (case qz11 => k_is); (case qz12 => k_is); (case qz13 => k_is); (case qz14 => k_is); (case qg0 => k_is); (case qg1 => k_is); (case qg2 => k_is); (case qg3 => k_is)

