import PyProof.Rows.All
import HandS.ForMost
import HandS.ForExc
import HandS.IsInst
import HandS.TupAny
import HandS.Flow
import HandS.Codes
import HandS.Style
import HandS.RevTup
import HandS.TupMul
import HandS.Steps
import HandS.Zip
import HandS.ExcInit
import HandS.ExcField
import HandS.FStr
import PyProof.AutoSeq1
import KE.GoesNew
import HandS.WrittenGet
import PyProof.StrBlock2
import HandS.DictComp
import HandS.SortRule
import KE.KSortTupAny
import HandS.Keys
import PyProof.FString5
import KE.GoesSet
import HandS.Set
import HandS.SetTxt0
import PyProof.Rows.SortShellAny
import HandS.List
import PyProof.Rows.SortStr
import PyProof.Rows.StrMeet
import HandS.Deep
import HandS.RevRange
import HandS.Sort
import HandS.TryOnly
import KE.KDictPairs
import PyProof.P3In
import HandS.Conv
import HandS.Strs
import HandS.Small
import HandS.HeadEnd
import HandS.Head2
import HandS.HeadHook3
import HandS.ForSpec
import PySem.Challenge.RW_lookon_k07_needs_view_of_a_test
set_option Elab.async false
section
set_option Elab.async false
set_option linter.all false
set_option maxRecDepth 100000
set_option maxHeartbeats 2000000
/-! tuples whose object is known to have no dict -/
namespace RR
open PySem PySem.Spec PyProof.Rows L2 HT
section
variable {X : Cx} {es : List Expr} {pos : Pos} {t : TA}
/-- a tuple's object is known to have no dict -/
def ND (H : Hp) (a : Addr) (xs : List V) : Prop := ∃ ob : Obj, H a = some (.frz ob (.tup xs)) ∧ ob.dict = none
theorem ND.same {H H' : Hp} {a : Addr} {xs : List V} (h : ND H a xs) (e : Same H H') : ND H' a xs := by
  obtain ⟨ob, h1, h2⟩ := h
  exact ⟨ob, e _ _ h1, h2⟩
theorem frz_new {X : Cx} {pins : List (Addr × Obj)} {σ : L2.St} {H : Hp} {s : Shared} {xs : List V} {us : List Value} (I : L2.Inv X pins σ H s) (r : Vals xs us) (z : xs.length ≤ sizeLine) {n : Nat} :
    ∃ ob : Obj, ob = { cls := .type "tuple", data := .seq us.toArray n } ∧ ob.dict = none ∧ H s.heap.objs.size = none ∧ L2.Inv X pins σ (upd H s.heap.objs.size (.frz ob (.tup xs))) { s with heap := s.heap.push ob } := by
  refine ⟨_, rfl, rfl, I.hok.fresh (Nat.le_refl _), I.laid (t' := s.toks) (fun b o e => Heap.get?_push_of_some _ e) (Nat.le_refl _) ?_⟩
  have hg : (s.heap.push { cls := .type "tuple", data := .seq us.toArray n }).get? s.heap.objs.size = some { cls := .type "tuple", data := .seq us.toArray n } := Heap.get?_push_size _ rfl
  exact ⟨hg, z, us, r, ⟨_, hg, rfl, _, rfl⟩⟩
def tTupF (t : TA) : TE := fun σ H Q => t σ H fun xs H1 => xs.length ≤ sizeLine ∧ ∀ p ob, H1 p = none → ob.dict = none → Q (.ref p) (upd H1 p (.frz ob (.tup xs)))
theorem pe_tupF {x1} (h : PA X es t) : PE X (.Tuple es x1 pos) (tTupF t) := by
  refine ⟨fun pins s σ H Q I hq => ?_⟩
  refine wpAny_Tuple_spliced (thn (h.run pos pins s σ H _ I hq) fun us s1 ⟨xs, H1, I1, r, z, q⟩ => ⟨by rw [← r.length]; exact z, ?_⟩)
  obtain ⟨ob, e, hd, hf, J⟩ := frz_new I1 r z
  rw [e] at J hd
  exact ⟨.ref s1.heap.objs.size, _, J, rfl, q _ _ hf hd⟩
def rCatF (K : PySem.W.Frag) : R2 := fun x y H Q => ∃ a b xs ys, x = .ref a ∧ y = .ref b ∧ SqT K H a xs ∧ SqT K H b ys ∧ xs.length + ys.length ≤ sizeLine ∧
  (xs = [] → Q (.ref b) H) ∧ (xs ≠ [] → ys = [] → Q (.ref a) H) ∧ (xs ≠ [] → ys ≠ [] → ∀ p ob, H p = none → ob.dict = none → Q (.ref p) (upd H p (.frz ob (.tup (xs ++ ys)))))
theorem op_catF : OpR X (binaryOp .Add) (rCatF X.K) := by
  intro pins s σ H x y v u Q I rx ry h
  obtain ⟨a, b, xs, ys, rfl, rfl, ha, hb, hz, q0, q1, q2⟩ := h
  cases rx
  cases ry
  obtain ⟨its, r1, p1, _⟩ := I.tuple ha
  obtain ⟨its2, r2, p2, _⟩ := I.tuple hb
  by_cases hx : xs = []
  · subst hx
    cases r1
    exact cat_tup0 p1 p2 ⟨.ref b, H, I, rfl, q0 rfl⟩
  · refine HT.cat_tup p1 p2 (fun z => hx (r1.nil_iff.mp z)) (fun z => ⟨.ref a, H, I, rfl, q1 hx (r2.nil_iff.mp z)⟩) (fun z => ?_) (by rw [← r1.length, ← r2.length]; exact hz)
    obtain ⟨ob, e, hd, hf, J⟩ := frz_new (n := 0) I (r1.append r2) (by rw [List.length_append]; exact hz)
    rw [e] at J hd
    exact ⟨.ref s.heap.objs.size, _, J, rfl, q2 hx (fun w => z (r2.nil_iff.mpr w)) _ _ hf hd⟩
def rSlF (K : PySem.W.Frag) : V → Option Int → Option Int → Hp → VK → Prop := fun x lo hi H Q => ∃ a xs, x = .ref a ∧ SqT K H a xs ∧
  (HT.sIx xs.length 0 lo = 0 ∧ HT.sIx xs.length xs.length hi = xs.length → Q (.ref a) H) ∧ (¬ (HT.sIx xs.length 0 lo = 0 ∧ HT.sIx xs.length xs.length hi = xs.length) → ∀ p ob, H p = none → ob.dict = none → Q (.ref p) (upd H p (.frz ob (.tup (cutV xs lo hi)))))
theorem sl_tupF : SlR X (rSlF X.K) := by
  intro pins s σ H x v vl vu lo hi sl Q I rx hs pl pu h
  obtain ⟨a, xs, rfl, hx, q1, q2⟩ := h
  cases rx
  obtain ⟨its, r, ht, hz⟩ := I.tuple hx
  have hlen : its.toArray.size = xs.length := by rw [List.size_toArray]; exact r.length.symm
  refine ⟨"tuple", _, PyProof.Rows.slot_tuple_getitem.lookup, ht.typeIs, ?_⟩
  by_cases hw : HT.sIx xs.length 0 lo = 0 ∧ HT.sIx xs.length xs.length hi = xs.length
  · exact getItem_tuple_whole ht hs pl pu (by rw [hlen]; exact hw) ⟨.ref a, H, I, rfl, q1 hw⟩
  · refine HT.getItem_tuple_cut ht hs pl pu (by rw [hlen]; exact hw) ?_ (by rw [hlen]; exact hz)
    rw [hlen]
    obtain ⟨ob, e, hd, hf, J⟩ := frz_new (n := 0) I ((r.drop (HT.sIx xs.length 0 lo)).take (HT.sIx xs.length xs.length hi - HT.sIx xs.length 0 lo)) (Nat.le_trans (cutV_length xs lo hi) hz)
    rw [e] at J hd
    exact ⟨.ref s.heap.objs.size, _, J, rfl, q2 hw _ _ hf hd⟩
/-- tuple(l) of a list -/
def rTupF (K : PySem.W.Frag) : List V → Hp → VK → Prop := fun xs H Q => ∃ p ys, xs = [.ref p] ∧ SqL K H p ys ∧ ∀ l ob, H l = none → ob.dict = none → Q (.ref l) (upd H l (.frz ob (.tup ys)))
theorem cr_tupF {X : Cx} : CallR X (.type "tuple") (rTupF X.K) := by
  intro pins s σ H xs us Q I r h
  obtain ⟨p, ys, rfl, hq, q⟩ := h
  obtain ⟨u, rfl, rx⟩ := vals1 r
  cases rx
  obtain ⟨its, rv, pl, hz⟩ := I.list hq
  have hlen := rv.length
  refine call_tuple_list pl.isList (fun h2 kp => ?_) (by simp only [List.size_toArray] <;> omega)
  have J : L2.Inv X pins σ H { s with heap := h2 } := I.kept (t' := s.toks) kp
  obtain ⟨ob, e, hd, hf, J2⟩ := frz_new (n := 0) J rv hz
  rw [e] at J2 hd
  exact ⟨.ref h2.objs.size, _, J2, rfl, q _ _ hf hd⟩
end
end RR
end
section
set_option Elab.async false
set_option linter.all false
set_option maxRecDepth 100000
set_option maxHeartbeats 2000000
/-! Data behind the hand layer: what a reading gives, as PyData; the heap has a public part, in which the data lie, and private objects beside it. -/
namespace DL
open PySem PySem.Spec PyProof.Rows L2

theorem seqT {K : PySem.W.Frag} {H H' : Hp} {a : Addr} {xs : List V} (e : Same H H') (h : SqT K H a xs) : SqT K H' a xs := by
  rcases h with (h | ⟨o, h⟩) | h
  · exact .inl (.inl (e _ _ h))
  · exact .inl (.inr ⟨o, e _ _ h⟩)
  · exact .inr h
/-- data at a value: the lists are tracked or locked -/
theorem rd_same {H H' : Hp} {a : Addr} {u : HO} (e : Same H H') (h : Rd H a u) : Rd H' a u := by
  rcases h with h | ⟨o, h⟩
  · exact .inl (e _ _ h)
  · exact .inr ⟨o, e _ _ h⟩
/-- rows of two texts: what dict(t) is asked of -/
def pairB : PyData → Bool
  | .tuple [.str _, .str _] => true
  | _ => false
def pairsB (ds : List PyData) : Bool := ds.all pairB
mutual
inductive Dv (K : PySem.W.Frag) (H : Hp) : V → PyData → Prop
  | non : Dv K H .non .none
  | bl (b : Bool) : Dv K H (.bl b) (.bool b)
  | int (i : Int) : Dv K H (.int i) (.int i)
  | str (x : Str) : Dv K H (.str x) (.str x)
  | lst {a : Addr} {xs : List V} {ds : List PyData} : Rd H a (.lst xs) → DvA K H xs ds → Dv K H (.ref a) (.list ds)
  | tup' {a : Addr} {xs : List V} {ds : List PyData} : SqT K H a xs → (pairsB ds = true → RR.ND H a xs) → DvA K H xs ds → Dv K H (.ref a) (.tuple ds)
inductive DvA (K : PySem.W.Frag) (H : Hp) : List V → List PyData → Prop
  | nil : DvA K H [] []
  | cons {v : V} {vs : List V} {d : PyData} {ds : List PyData} : Dv K H v d → DvA K H vs ds → DvA K H (v :: vs) (d :: ds)
end
mutual
theorem dv_dp {K : PySem.W.Frag} {H : Hp} : ∀ (d : PyData) (v : V), Dv K H v d → Dp K H v d
  | .none, _, h => by cases h; exact .non
  | .bool _, _, h => by cases h; exact .bl _
  | .int _, _, h => by cases h; exact .int _
  | .str _, _, h => by cases h; exact .str _
  | .list ds, _, h => by
    cases h with
    | lst s a => exact .lst (.inl s) (dv_dpA ds _ a)
  | .tuple ds, _, h => by
    cases h with
    | tup' s n a => exact .tup s (dv_dpA ds _ a)
  | .dict _, _, h => by cases h
theorem dv_dpA {K : PySem.W.Frag} {H : Hp} : ∀ (ds : List PyData) (vs : List V), DvA K H vs ds → DpAll K H vs ds
  | [], _, h => by cases h; exact .nil
  | d :: ds, _, h => by
    cases h with
    | cons a r => exact .cons (dv_dp d _ a) (dv_dpA ds _ r)
end
mutual
theorem dp_same {K : PySem.W.Frag} {H H' : Hp} (e : Same H H') : ∀ (d : PyData) (v : V), Dv K H v d → Dv K H' v d
  | .none, _, h => by cases h; exact .non
  | .bool _, _, h => by cases h; exact .bl _
  | .int _, _, h => by cases h; exact .int _
  | .str _, _, h => by cases h; exact .str _
  | .list ds, _, h => by
    cases h with
    | lst s a => exact .lst (rd_same e s) (dp_sameA e ds _ a)
  | .tuple ds, _, h => by
    cases h with
    | tup' s n a => exact .tup' (seqT e s) (fun z => (n z).same e) (dp_sameA e ds _ a)
  | .dict _, _, h => by cases h
theorem dp_sameA {K : PySem.W.Frag} {H H' : Hp} (e : Same H H') : ∀ (ds : List PyData) (vs : List V), DvA K H vs ds → DvA K H' vs ds
  | [], _, h => by cases h; exact .nil
  | d :: ds, _, h => by
    cases h with
    | cons a r => exact .cons (dp_same e d _ a) (dp_sameA e ds _ r)
end
section
variable {K : PySem.W.Frag} {H H' H1 H2 H3 G G1 G2 : Hp}
theorem Dv.to {v : V} {d : PyData} (h : Dv K H v d) (e : Same H H') : Dv K H' v d := dp_same e d v h
theorem DvA.to {v : List V} {d : List PyData} (h : DvA K H v d) (e : Same H H') : DvA K H' v d := dp_sameA e d v h
theorem DvA.len : ∀ {vs : List V} {ds : List PyData}, DvA K H vs ds → vs.length = ds.length
  | _, _, .nil => rfl
  | _, _, .cons _ r => congrArg (· + 1) (DvA.len r)
theorem DvA.get : ∀ {vs : List V} {ds : List PyData} {i : Nat} {d : PyData}, DvA K H vs ds → ds[i]? = some d → ∃ v, vs[i]? = some v ∧ Dv K H v d
  | _, _, _, _, .nil, e => by simp at e
  | _, _, 0, _, .cons a _, e => by simp at e; subst e; exact ⟨_, rfl, a⟩
  | _, _, i + 1, d, .cons _ r, e => by
    obtain ⟨v, h1, h2⟩ := DvA.get (i := i) (d := d) r (by simpa using e)
    exact ⟨v, by simpa using h1, h2⟩
theorem DvA.getv : ∀ {vs : List V} {ds : List PyData} {i : Nat} {v : V}, DvA K H vs ds → vs[i]? = some v → ∃ d, ds[i]? = some d ∧ Dv K H v d
  | _, _, _, _, .nil, e => by simp at e
  | _, _, 0, _, .cons a _, e => by simp at e; subst e; exact ⟨_, rfl, a⟩
  | _, _, i + 1, v, .cons _ r, e => by
    obtain ⟨d, h1, h2⟩ := DvA.getv (i := i) (v := v) r (by simpa using e)
    exact ⟨d, by simpa using h1, h2⟩
theorem DvA.app : ∀ {vs ws : List V} {ds es : List PyData}, DvA K H vs ds → DvA K H ws es → DvA K H (vs ++ ws) (ds ++ es)
  | _, _, _, _, .nil, s => s
  | _, _, _, _, .cons a r, s => .cons a (DvA.app r s)
theorem DvA.take : ∀ {vs : List V} {ds : List PyData} (n : Nat), DvA K H vs ds → DvA K H (vs.take n) (ds.take n)
  | _, _, 0, _ => .nil
  | _, _, _ + 1, .nil => .nil
  | _, _, n + 1, .cons a r => .cons a (DvA.take n r)
theorem DvA.drop : ∀ {vs : List V} {ds : List PyData} (n : Nat), DvA K H vs ds → DvA K H (vs.drop n) (ds.drop n)
  | _, _, 0, r => r
  | _, _, _ + 1, .nil => .nil
  | _, _, n + 1, .cons _ r => DvA.drop n r
theorem DvA.one {v : V} {d : PyData} (h : Dv K H v d) : DvA K H [v] [d] := .cons h .nil
theorem Dv.int_inv {v : V} {i : Int} (h : Dv K H v (.int i)) : v = .int i := by cases h; rfl
theorem Dv.str_inv {v : V} {i : Str} (h : Dv K H v (.str i)) : v = .str i := by cases h; rfl
theorem Dv.bl_inv {v : V} {i : Bool} (h : Dv K H v (.bool i)) : v = .bl i := by cases h; rfl
theorem Dv.non_inv {v : V} (h : Dv K H v .none) : v = .non := by cases h; rfl
theorem Dv.lst_inv {v : V} {ds : List PyData} (h : Dv K H v (.list ds)) : ∃ a xs, v = .ref a ∧ Rd H a (.lst xs) ∧ DvA K H xs ds := by
  cases h with
  | lst s a => exact ⟨_, _, rfl, s, a⟩
theorem Dv.tup_inv {v : V} {ds : List PyData} (h : Dv K H v (.tuple ds)) : ∃ a xs, v = .ref a ∧ SqT K H a xs ∧ DvA K H xs ds := by
  cases h with
  | tup' s n a => exact ⟨_, _, rfl, s, a⟩
theorem Dv.tup_invN {v : V} {ds : List PyData} (h : Dv K H v (.tuple ds)) : ∃ a xs, v = .ref a ∧ SqT K H a xs ∧ (pairsB ds = true → RR.ND H a xs) ∧ DvA K H xs ds := by
  cases h with
  | tup' s n a => exact ⟨_, _, rfl, s, n, a⟩
theorem SqT.frz {a : Addr} {ob : Obj} {xs : List V} (h : H a = some (.frz ob (.tup xs))) : SqT K H a xs := .inl (.inr ⟨ob, h⟩)
/-- a tuple that is new -/
theorem Dv.tupF {a : Addr} {ob : Obj} {xs : List V} {ds : List PyData} (h : H a = some (.frz ob (.tup xs))) (hd : ob.dict = none) (r : DvA K H xs ds) : Dv K H (.ref a) (.tuple ds) := .tup' (SqT.frz h) (fun _ => ⟨ob, h, hd⟩) r
/-- a tuple that is no row of rows of two texts -/
theorem Dv.tup {a : Addr} {xs : List V} {ds : List PyData} (s : SqT K H a xs) (r : DvA K H xs ds) (hp : pairsB ds = false := by rfl) : Dv K H (.ref a) (.tuple ds) := .tup' s (fun z => by rw [hp] at z; cases z) r
theorem DvA.inv1 {vs : List V} {d : PyData} (h : DvA K H vs [d]) : ∃ v, vs = [v] ∧ Dv K H v d := by
  cases h with
  | cons a r => cases r; exact ⟨_, rfl, a⟩
theorem DvA.inv2 {vs : List V} {d e : PyData} (h : DvA K H vs [d, e]) : ∃ v w, vs = [v, w] ∧ Dv K H v d ∧ Dv K H w e := by
  cases h with
  | cons a r =>
    obtain ⟨w, rfl, b⟩ := DvA.inv1 r
    exact ⟨_, _, rfl, a, b⟩
theorem DvA.inv3 {vs : List V} {d e f : PyData} (h : DvA K H vs [d, e, f]) : ∃ v w x, vs = [v, w, x] ∧ Dv K H v d ∧ Dv K H w e ∧ Dv K H x f := by
  cases h with
  | cons a r =>
    obtain ⟨w, x, rfl, b, c⟩ := DvA.inv2 r
    exact ⟨_, _, _, rfl, a, b, c⟩
theorem DvA.inv4 {vs : List V} {d e f g : PyData} (h : DvA K H vs [d, e, f, g]) : ∃ v w x y, vs = [v, w, x, y] ∧ Dv K H v d ∧ Dv K H w e ∧ Dv K H x f ∧ Dv K H y g := by
  cases h with
  | cons a r =>
    obtain ⟨w, x, y, rfl, b, c, d⟩ := DvA.inv3 r
    exact ⟨_, _, _, _, rfl, a, b, c, d⟩
theorem DvA.ints : ∀ {ns : List Int}, DvA K H (ns.map V.int) (ns.map PyData.int)
  | [] => .nil
  | _ :: _ => .cons (.int _) DvA.ints
theorem DvA.ints_inv : ∀ {ns : List Int} {vs : List V}, DvA K H vs (ns.map PyData.int) → vs = ns.map V.int
  | [], _, .nil => rfl
  | _ :: _, _, .cons a r => by rw [Dv.int_inv a, DvA.ints_inv r]; rfl
theorem DvA.strs : ∀ {ns : List Str}, DvA K H (ns.map V.str) (ns.map PyData.str)
  | [] => .nil
  | _ :: _ => .cons (.str _) DvA.strs
theorem DvA.strs_inv : ∀ {ns : List Str} {vs : List V}, DvA K H vs (ns.map PyData.str) → vs = ns.map V.str
  | [], _, .nil => rfl
  | _ :: _, _, .cons a r => by rw [Dv.str_inv a, DvA.strs_inv r]; rfl
theorem DvA.bls_inv : ∀ {ns : List Bool} {vs : List V}, DvA K H vs (ns.map PyData.bool) → vs = ns.map V.bl
  | [], _, .nil => rfl
  | _ :: _, _, .cons a r => by rw [Dv.bl_inv a, DvA.bls_inv r]; rfl

/-! ### the public heap -/
/-- from the public H within H1 to the public G within H2: what was private in H1 is so still -/
structure Pub (H H1 G H2 : Hp) : Prop where
  hg : Same H G
  gh : Same G H2
  hh : Same H1 H2
  pr : ∀ b, H b = none → H1 b ≠ none → G b = none
theorem some_ne {H : Hp} {a : Addr} {o : HO} (h : H a = some o) : H a ≠ none := by rw [h]; exact fun z => nomatch z
theorem Pub.refl (e : Same H H1) : Pub H H1 H H1 := ⟨.refl _, e, .refl _, fun _ h _ => h⟩
theorem there_of (e : Same H1 H2) {b : Addr} (h : H1 b ≠ none) : H2 b ≠ none := by
  cases q : H1 b with
  | none => exact absurd q h
  | some o => exact some_ne (e b o q)
theorem Pub.trans (p : Pub H H1 G H2) (q : Pub G H2 G2 H3) : Pub H H1 G2 H3 :=
  ⟨p.hg.trans q.hg, q.gh, p.hh.trans q.hh, fun b h h1 => q.pr b (p.pr b h h1) (there_of p.hh h1)⟩
theorem same_new {H : Hp} {p : Addr} (h : H p = none) (o : HO) : Same H (upd H p o) := fun b u q => by rw [upd_ne (ne_of_none q h)]; exact q
theorem same_upd2 (e : Same H H1) (p : Addr) (h : H p = none) (o : HO) : Same H (upd H1 p o) := fun b u q => by rw [upd_ne (ne_of_none q h)]; exact e b u q
theorem same_both (e : Same H H1) (p : Addr) (o : HO) : Same (upd H p o) (upd H1 p o) := fun b u q => by
  by_cases hb : b = p
  · subst hb; rw [upd_same] at q ⊢; exact q
  · rw [upd_ne hb] at q ⊢; exact e b u q
/-- a new public object -/
theorem Pub.new (p : Pub H H1 G H2) {a : Addr} (h : H2 a = none) (o : HO) : Pub H H1 (upd G a o) (upd H2 a o) := by
  have hG := p.gh.free h
  refine ⟨p.hg.trans (same_new hG o), same_both p.gh a o, p.hh.trans (same_new h o), fun b h0 h1 => ?_⟩
  have hb : b ≠ a := fun z => by subst z; exact there_of p.hh h1 h
  rw [upd_ne hb]
  exact p.pr b h0 h1
/-- a new private object -/
theorem Pub.newP (p : Pub H H1 G H2) {a : Addr} (h : H2 a = none) (o : HO) : Pub H H1 G (upd H2 a o) :=
  ⟨p.hg, p.gh.trans (same_new h o), p.hh.trans (same_new h o), p.pr⟩
/-- a private object of one's own is written -/
theorem Pub.put (p : Pub H H1 G H2) {a : Addr} (h1 : H1 a = none) (hg : G a = none) (o : HO) : Pub H H1 G (upd H2 a o) :=
  ⟨p.hg, same_upd2 p.gh a hg o, same_upd2 p.hh a h1 o, p.pr⟩
/-- a private object of one's own is made public -/
theorem Pub.open_ (p : Pub H H1 G H2) {a : Addr} {o : HO} (h1 : H1 a = none) (hg : G a = none) (h : H2 a = some o) : Pub H H1 (upd G a o) H2 := by
  refine ⟨p.hg.trans (same_new hg o), fun b u q => ?_, p.hh, fun b h0 hb1 => ?_⟩
  · by_cases hb : b = a
    · subst hb; rw [upd_same] at q; rw [h]; exact q
    · rw [upd_ne hb] at q; exact p.gh b u q
  · have hb : b ≠ a := fun z => by subst z; exact hb1 h1
    rw [upd_ne hb]; exact p.pr b h0 hb1
/-- a private object stays what it is, and private -/
theorem Pub.keepP (p : Pub H H1 G H2) {a : Addr} {o : HO} (hH : H a = none) (h : H1 a = some o) : H2 a = some o ∧ G a = none := ⟨p.hh a o h, p.pr a hH (some_ne h)⟩
theorem Pub.same (p : Pub H H1 G H2) : Same H H2 := p.hg.trans p.gh
/-! ### what a reading gives: H the public heap, A the actual one, at which it is known -/
def GD (K : PySem.W.Frag) (t : TE) (σ : L2.St) (H A : Hp) (d : PyData) : Prop := ∀ H0 H1, Pub H A H0 H1 → ∀ Q : VK, (∀ v G H2, Pub H0 H1 G H2 → Dv K G v d → Q v H2) → t σ H1 Q
/-- one of several -/
def GR (K : PySem.W.Frag) (t : TE) (σ : L2.St) (H A : Hp) (R : PyData → Prop) : Prop := ∀ H0 H1, Pub H A H0 H1 → ∀ Q : VK, (∀ d v G H2, R d → Pub H0 H1 G H2 → Dv K G v d → Q v H2) → t σ H1 Q
/-- a known value -/
def GV (t : TE) (σ : L2.St) (H A : Hp) (v : V) : Prop := ∀ H0 H1, Pub H A H0 H1 → ∀ Q : VK, (∀ G H2, Pub H0 H1 G H2 → Q v H2) → t σ H1 Q
def GA (K : PySem.W.Frag) (t : TA) (σ : L2.St) (H A : Hp) (ds : List PyData) : Prop := ∀ H0 H1, Pub H A H0 H1 → ∀ Q, (∀ vs G H2, Pub H0 H1 G H2 → DvA K G vs ds → Q vs H2) → t σ H1 Q
def GT (t : TT) (σ : L2.St) (H A : Hp) (b : Bool) : Prop := ∀ H0 H1, Pub H A H0 H1 → ∀ Q : Bool → Hp → Prop, (∀ H2, Pub H0 H1 H0 H2 → Q b H2) → t σ H1 Q
theorem Pub.test (p : Pub H H1 G H2) (e : Same H2 H3) : Pub H H1 G H3 := ⟨p.hg, p.gh.trans e, p.hh.trans e, p.pr⟩
theorem Pub.idle {A : Hp} (s : Same H A) (e : Same A H2) : Pub H A H H2 := ⟨.refl _, s.trans e, e, fun _ h _ => h⟩
variable {A : Hp} {σ : L2.St} {t ta tb tc te : TE} {tA : TA} {tt tu : TT} {d d1 d2 d3 : PyData} {ds es : List PyData}
theorem GD.mono (g : GD K t σ H A d) (p : Pub H A G G1) : GD K t σ G G1 d := fun H0 H1 e Q q => g H0 H1 (p.trans e) Q q
theorem GA.mono (g : GA K tA σ H A ds) (p : Pub H A G G1) : GA K tA σ G G1 ds := fun H0 H1 e Q q => g H0 H1 (p.trans e) Q q
theorem GV.mono {v : V} (g : GV t σ H A v) (p : Pub H A G G1) : GV t σ G G1 v := fun H0 H1 e Q q => g H0 H1 (p.trans e) Q q
theorem GT.mono {b : Bool} (g : GT tt σ H A b) (p : Pub H A G G1) : GT tt σ G G1 b := fun H0 H1 e Q q => g H0 H1 (p.trans e) Q q
theorem GD.to {H0 : Hp} {Q : VK} (g : GD K t σ H A d) (e : Pub H A H0 H1) (k : ∀ v G H2, Pub H0 H1 G H2 → Dv K G v d → Q v H2) : t σ H1 Q := g H0 H1 e Q k
theorem GA.to {H0 : Hp} {Q : List V → Hp → Prop} (g : GA K tA σ H A ds) (e : Pub H A H0 H1) (k : ∀ vs G H2, Pub H0 H1 G H2 → DvA K G vs ds → Q vs H2) : tA σ H1 Q := g H0 H1 e Q k
theorem GV.to {H0 : Hp} {v : V} {Q : VK} (g : GV t σ H A v) (e : Pub H A H0 H1) (k : ∀ G H2, Pub H0 H1 G H2 → Q v H2) : t σ H1 Q := g H0 H1 e Q k
theorem GT.to {H0 : Hp} {Q : Bool → Hp → Prop} {b : Bool} (g : GT tt σ H A b) (e : Pub H A H0 H1) (k : ∀ H2, Pub H0 H1 H0 H2 → Q b H2) : tt σ H1 Q := g H0 H1 e Q k
theorem GD.gr (g : GD K t σ H A d) : GR K t σ H A (· = d) := fun H0 H1 e Q q => g H0 H1 e Q fun v G H2 p dv => q d v G H2 rfl p dv
/-- data by a value that is known to bear them -/
theorem GV.gd {v : V} (g : GV t σ H A v) (h : Dv K H v d) : GD K t σ H A d := fun H0 H1 e Q q => g.to e fun G H2 p => q v G H2 p (h.to (e.hg.trans p.hg))
/-! ### names, constants -/
theorem gd_var {i : Nat} {v : V} (e : σ[i]? = some (some v)) (h : Dv K H v d) : GD K (tVar i) σ H A d := fun H0 H1 s Q q => ⟨v, e, q v H0 H1 (.refl s.gh) (h.to s.hg)⟩
theorem gv_var {i : Nat} {v : V} (e : σ[i]? = some (some v)) : GV (tVar i) σ H A v := fun H0 H1 s Q q => ⟨v, e, q H0 H1 (.refl s.gh)⟩
theorem gv_c {v : V} : GV (tC v) σ H A v := fun H0 H1 s Q q => q H0 H1 (.refl s.gh)
theorem gd_c {v : V} (h : ∀ H, Dv K H v d) : GD K (tC v) σ H A d := fun H0 H1 s Q q => q v H0 H1 (.refl s.gh) (h _)
theorem gd_int {i : Int} : GD K (tC (.int i)) σ H A (.int i) := gd_c fun _ => .int i
theorem gd_str {i : Str} : GD K (tC (.str i)) σ H A (.str i) := gd_c fun _ => .str i
theorem gd_bl {i : Bool} : GD K (tC (.bl i)) σ H A (.bool i) := gd_c fun _ => .bl i
theorem gd_non : GD K (tC .non) σ H A .none := gd_c fun _ => .non
/-! ### displays -/
theorem ga_nil : GA K tNil σ H A [] := fun H0 H1 s Q q => q [] H0 H1 (.refl s.gh) .nil
theorem ga_cons (h : GD K ta σ H A d) (r : GA K tA σ H A ds) : GA K (tCons ta tA) σ H A (d :: ds) := fun H0 H1 s Q q => h.to s fun v G H2 p dv =>
  r.to (s.trans p) fun vs G2 H3 p2 dvs => q (v :: vs) G2 H3 (p.trans p2) (.cons (Dv.to dv p2.hg) dvs)
theorem gd_tup (h : GA K tA σ H A ds) (z : ds.length ≤ 1000 := by first | decide | simp) : GD K (RR.tTupF tA) σ H A (.tuple ds) := fun H0 H1 s Q q => h.to s fun vs G H2 p dv =>
  ⟨by rw [DvA.len dv]; exact Nat.le_of_lt (small1000 z), fun a ob ha hd => q (.ref a) _ _ (p.new ha _) (.tupF upd_same hd (DvA.to dv (same_new (p.gh.free ha) _)))⟩
theorem gd_lst (h : GA K tA σ H A ds) (z : ds.length ≤ 1000 := by first | decide | simp) : GD K (tLst tA) σ H A (.list ds) := fun H0 H1 s Q q => h.to s fun vs G H2 p dv =>
  ⟨by rw [DvA.len dv]; exact Nat.le_of_lt (small1000 z), fun a ha => q (.ref a) _ _ (p.new ha _) (.lst (.inl upd_same) (DvA.to dv (same_new (p.gh.free ha) _)))⟩
/-! ### operators -/
/-- by values -/
def GO (K : PySem.W.Frag) (r : R2) (d1 d2 d : PyData) : Prop := ∀ (H H1 G H2 : Hp) (x y : V) (Q : VK), Pub H H1 G H2 → Dv K G x d1 → Dv K G y d2 → (∀ v G' H3, Pub H H1 G' H3 → Dv K G' v d → Q v H3) → r x y H2 Q
theorem gdo {r : R2} (ga : GD K ta σ H A d1) (gb : GD K tb σ H A d2) (o : GO K r d1 d2 d) : GD K (tOp r ta tb) σ H A d := fun H0 H1 s Q q =>
  ga.to s fun x G1 H2 p dx => gb.to (s.trans p) fun y G2 H3 p2 dy => o _ _ G2 H3 x y Q (p.trans p2) (Dv.to dx p2.hg) dy q
def rOr (r r' : R2) : R2 := fun x y H Q => r x y H Q ∨ r' x y H Q
theorem op_or' {X : Cx} {f : Value → Value → Sem Value} {r r' : R2} (h : OpR X f r) (h' : OpR X f r') : OpR X f (rOr r r') := by
  intro pins s σ H x y v u Q I rx ry q
  rcases q with q | q
  · exact h pins s σ H x y v u Q I rx ry q
  · exact h' pins s σ H x y v u Q I rx ry q
end
end DL
end
section
set_option Elab.async false
set_option linter.all false
set_option maxRecDepth 100000
set_option maxHeartbeats 2000000
namespace DL
open PySem PySem.Spec PyProof.Rows L2
section
variable {K : PySem.W.Frag} {H H' H1 H2 H3 G G1 G2 : Hp} {σ : L2.St} {t ta tb tc te : TE} {tA : TA} {tt tu : TT} {d d1 d2 d3 : PyData} {ds es : List PyData}
/-! ### operators by values -/
theorem go_l {r r' : R2} (o : GO K r d1 d2 d) : GO K (rOr r r') d1 d2 d := fun H H1 G H2 x y Q p dx dy q => .inl (o H H1 G H2 x y Q p dx dy q)
theorem go_r {r r' : R2} (o : GO K r' d1 d2 d) : GO K (rOr r r') d1 d2 d := fun H H1 G H2 x y Q p dx dy q => .inr (o H H1 G H2 x y Q p dx dy q)
theorem go_i2 {f : Int → Int → Int} {i j : Int} : GO K (rI0 fun i j => .int (f i j)) (.int i) (.int j) (.int (f i j)) := fun H H1 G H2 x y Q p dx dy q => ⟨i, j, Dv.int_inv dx, Dv.int_inv dy, q _ G H2 p (.int _)⟩
theorem go_b2 {f : Int → Int → Bool} {i j : Int} : GO K (rI0 fun i j => .bl (f i j)) (.int i) (.int j) (.bool (f i j)) := fun H H1 G H2 x y Q p dx dy q => ⟨i, j, Dv.int_inv dx, Dv.int_inv dy, q _ G H2 p (.bl _)⟩
theorem go_ic {C : Int → Int → Prop} {f : Int → Int → Int} {i j : Int} (c : C i j) : GO K (rI C fun i j => .int (f i j)) (.int i) (.int j) (.int (f i j)) := fun H H1 G H2 x y Q p dx dy q => ⟨i, j, Dv.int_inv dx, Dv.int_inv dy, c, q _ G H2 p (.int _)⟩
/-- flat data -/
def flatD : PyData → Option V
  | .none => some .non
  | .bool b => some (.bl b)
  | .int i => some (.int i)
  | .str x => some (.str x)
  | _ => none
theorem flatD_v {v x : V} (h : Dv K H v d) (e : flatD d = some x) : v = x := by
  cases d <;> first | (cases e; cases h; rfl) | cases e
def rEqA (K : PySem.W.Frag) : R2 := rOr rEq (rEqD K)
theorem op_eqA {X : Cx} (hu : X.A.units + 64 < cLine) : OpR X (compareOp .Eq) (rEqA X.K) := op_or' op_eq (op_eqD hu)
def rNeA (K : PySem.W.Frag) : R2 := rOr rNe (rNeD K)
theorem op_neA {X : Cx} (hu : X.A.units + 64 < cLine) : OpR X (compareOp .NotEq) (rNeA X.K) := op_or' op_ne (op_neD hu)
theorem go_eqF {x y : V} (e1 : flatD d1 = some x) (e2 : flatD d2 = some y) (s : scal x y = true) : GO K (rEqA K) d1 d2 (.bool (decide (x = y))) := fun H H1 G H2 v w Q p dx dy q => by
  have e1 := flatD_v dx e1
  have e2 := flatD_v dy e2
  subst e1 e2
  exact .inl ⟨s, q _ G H2 p (.bl _)⟩
theorem go_eqS {x y : Str} : GO K (rEqA K) (.str x) (.str y) (.bool (decide (x = y))) := fun H H1 G H2 v w Q p dx dy q => by
  have e1 := Dv.str_inv dx
  have e2 := Dv.str_inv dy
  subst e1 e2
  refine .inl ⟨rfl, ?_⟩
  have z : decide (V.str x = V.str y) = decide (x = y) := by simp
  rw [z]
  exact q _ G H2 p (.bl _)
theorem go_eqI {x y : Int} : GO K (rEqA K) (.int x) (.int y) (.bool (decide (x = y))) := fun H H1 G H2 v w Q p dx dy q => by
  have e1 := Dv.int_inv dx
  have e2 := Dv.int_inv dy
  subst e1 e2
  refine .inl ⟨rfl, ?_⟩
  have z : decide (V.int x = V.int y) = decide (x = y) := by simp
  rw [z]
  exact q _ G H2 p (.bl _)
theorem go_eqD (s1 : SeqAt.shaped d1 = true) (s2 : SeqAt.shaped d2 = true) : GO K (rEqA K) d1 d2 (.bool (PyData.eqv d1 d2)) := fun H H1 G H2 v w Q p dx dy q =>
  .inr ⟨d1, d2, dv_dp _ _ (Dv.to dx p.gh), dv_dp _ _ (Dv.to dy p.gh), s1, s2, q _ G H2 p (.bl _)⟩
theorem go_neS {x y : Str} : GO K (rNeA K) (.str x) (.str y) (.bool (!decide (x = y))) := fun H H1 G H2 v w Q p dx dy q => by
  have e1 := Dv.str_inv dx
  have e2 := Dv.str_inv dy
  subst e1 e2
  refine .inl ⟨rfl, ?_⟩
  have z : decide (V.str x = V.str y) = decide (x = y) := by simp
  rw [z]
  exact q _ G H2 p (.bl _)
theorem go_neI {x y : Int} : GO K (rNeA K) (.int x) (.int y) (.bool (!decide (x = y))) := fun H H1 G H2 v w Q p dx dy q => by
  have e1 := Dv.int_inv dx
  have e2 := Dv.int_inv dy
  subst e1 e2
  refine .inl ⟨rfl, ?_⟩
  have z : decide (V.int x = V.int y) = decide (x = y) := by simp
  rw [z]
  exact q _ G H2 p (.bl _)
theorem go_neD (s1 : SeqAt.shaped d1 = true) (s2 : SeqAt.shaped d2 = true) : GO K (rNeA K) d1 d2 (.bool (!PyData.eqv d1 d2)) := fun H H1 G H2 v w Q p dx dy q =>
  .inr ⟨d1, d2, dv_dp _ _ (Dv.to dx p.gh), dv_dp _ _ (Dv.to dy p.gh), s1, s2, q _ G H2 p (.bl _)⟩
/-! is, of None and of the truth values -/
def sing : V → Bool
  | .non => true
  | .bl _ => true
  | _ => false
def rIs1 : R2 := fun x y H Q => sing y = true ∧ Q (.bl (decide (x = y))) H
def rIsNot1 : R2 := fun x y H Q => sing y = true ∧ Q (.bl (!decide (x = y))) H
theorem rel_sing {x y : V} {v u : Value} (rx : RelV x v) (ry : RelV y u) (s : sing y = true) : plainIs v u = true ∧ (v == u) = decide (x = y) := by
  cases y with
  | non =>
    cases ry
    refine ⟨?_, rx.none_iff⟩
    cases x <;> first | (cases rx; rfl) | (obtain ⟨t, rfl⟩ := rx; rfl)
  | bl b =>
    cases ry
    cases x with
    | bl c =>
      cases rx
      refine ⟨rfl, ?_⟩
      cases b <;> cases c <;> rfl
    | non => cases rx; exact ⟨rfl, rfl⟩
    | ref _ => cases rx; exact ⟨rfl, rfl⟩
    | ty _ => cases rx; exact ⟨rfl, rfl⟩
    | int _ => obtain ⟨t, rfl⟩ := rx; exact ⟨rfl, rfl⟩
    | str _ => obtain ⟨t, rfl⟩ := rx; exact ⟨rfl, rfl⟩
    | byt _ => obtain ⟨t, rfl⟩ := rx; exact ⟨rfl, rfl⟩
    | flt _ => obtain ⟨t, rfl⟩ := rx; exact ⟨rfl, rfl⟩
  | _ => cases s
theorem op_is1 {X : Cx} : OpR X (compareOp .Is) rIs1 := by
  intro pins s σ H x y v u Q I rx ry h
  obtain ⟨sy, q⟩ := h
  obtain ⟨e1, e2⟩ := rel_sing rx ry sy
  exact wpAny_is_plain e1 (by rw [e2]; exact ⟨.bl _, H, I, rfl, q⟩)
theorem op_isnot1 {X : Cx} : OpR X (compareOp .IsNot) rIsNot1 := by
  intro pins s σ H x y v u Q I rx ry h
  obtain ⟨sy, q⟩ := h
  obtain ⟨e1, e2⟩ := rel_sing rx ry sy
  exact wpAny_isNot_plain e1 (by rw [e2]; exact ⟨.bl _, H, I, rfl, q⟩)
def isNoneD : PyData → Bool
  | .none => true
  | _ => false
def isBoolD (b : Bool) : PyData → Bool
  | .bool c => c == b
  | _ => false
theorem go_isN : GO K rIs1 d .none (.bool (isNoneD d)) := fun H H1 G H2 v w Q p dx dy q => by
  have e := Dv.non_inv dy
  subst e
  refine ⟨rfl, ?_⟩
  have z : decide (v = .non) = isNoneD d := by cases dx <;> rfl
  rw [z]
  exact q _ G H2 p (.bl _)
theorem go_isB {b : Bool} : GO K rIs1 d (.bool b) (.bool (isBoolD b d)) := fun H H1 G H2 v w Q p dx dy q => by
  have e := Dv.bl_inv dy
  subst e
  refine ⟨rfl, ?_⟩
  have z : decide (v = .bl b) = isBoolD b d := by
    cases dx with
    | bl c => cases b <;> cases c <;> rfl
    | _ => rfl
  rw [z]
  exact q _ G H2 p (.bl _)
theorem go_notN : GO K rIsNot1 d .none (.bool (!isNoneD d)) := fun H H1 G H2 v w Q p dx dy q => by
  have e := Dv.non_inv dy
  subst e
  refine ⟨rfl, ?_⟩
  have z : decide (v = .non) = isNoneD d := by cases dx <;> rfl
  rw [z]
  exact q _ G H2 p (.bl _)
theorem go_notB {b : Bool} : GO K rIsNot1 d (.bool b) (.bool (!isBoolD b d)) := fun H H1 G H2 v w Q p dx dy q => by
  have e := Dv.bl_inv dy
  subst e
  refine ⟨rfl, ?_⟩
  have z : decide (v = .bl b) = isBoolD b d := by
    cases dx with
    | bl c => cases b <;> cases c <;> rfl
    | _ => rfl
  rw [z]
  exact q _ G H2 p (.bl _)
/-! less, greater: ints and texts -/
def rLeA : R2 := rOr (rI0 fun i j => .bl (decide (i ≤ j))) (fun x y H Q => ∃ i j, x = .str i ∧ y = .str j ∧ Q (.bl (!decide (j.cps.toList < i.cps.toList))) H)
theorem op_leA {X : Cx} : OpR X (compareOp .LtE) rLeA := op_or' op_le op_le_str
def rLtA : R2 := rOr (rI0 fun i j => .bl (decide (i < j))) (fun x y H Q => ∃ i j, x = .str i ∧ y = .str j ∧ Q (.bl (decide (i.cps.toList < j.cps.toList))) H)
theorem op_ltA {X : Cx} : OpR X (compareOp .Lt) rLtA := op_or' op_lt op_lt_str
theorem go_leI {i j : Int} : GO K rLeA (.int i) (.int j) (.bool (decide (i ≤ j))) := go_l go_b2
theorem go_ltI {i j : Int} : GO K rLtA (.int i) (.int j) (.bool (decide (i < j))) := go_l go_b2
def sLe (i j : Str) : Bool := !decide (j.cps.toList < i.cps.toList)
def sLt (i j : Str) : Bool := decide (i.cps.toList < j.cps.toList)
theorem go_leS {i j : Str} : GO K rLeA (.str i) (.str j) (.bool (sLe i j)) := go_r fun H H1 G H2 v w Q p dx dy q => ⟨i, j, Dv.str_inv dx, Dv.str_inv dy, q _ G H2 p (.bl _)⟩
theorem go_ltS {i j : Str} : GO K rLtA (.str i) (.str j) (.bool (sLt i j)) := go_r fun H H1 G H2 v w Q p dx dy q => ⟨i, j, Dv.str_inv dx, Dv.str_inv dy, q _ G H2 p (.bl _)⟩
abbrev rGtI : R2 := rI0 fun i j => .bl (decide (j < i))
abbrev rGeI : R2 := rI0 fun i j => .bl (decide (j ≤ i))
/-! in, not in: flat items in lists and tuples -/
theorem flat_all : ∀ {ds : List PyData} {xs vs : List V}, ds.map flatD = xs.map some → DvA K G vs ds → vs = xs
  | [], [], _, _, h => by cases h; rfl
  | d :: ds, x :: xs, _, e, h => by
    cases h with
    | cons a r =>
      rw [List.map_cons, List.map_cons, List.cons.injEq] at e
      rw [flatD_v a e.1, flat_all e.2 r]
  | [], _ :: _, _, e, _ => by simp at e
  | _ :: _, [], _, e, _ => by simp at e
theorem flatD_flat {x : V} (e : flatD d = some x) : flatV x = true := by cases d <;> first | (cases e; rfl) | cases e
theorem flatD_flats : ∀ {ds : List PyData} {xs : List V}, ds.map flatD = xs.map some → xs.all flatV = true
  | [], [], _ => rfl
  | d :: ds, x :: xs, e => by
    rw [List.map_cons, List.map_cons, List.cons.injEq] at e
    rw [List.all_cons, flatD_flat e.1, flatD_flats e.2]; rfl
  | [], _ :: _, e => by simp at e
  | _ :: _, [], e => by simp at e
theorem go_inT {x : V} {xs : List V} (e : flatD d = some x) (es : ds.map flatD = xs.map some) : GO K (rIn K false) d (.tuple ds) (.bool (inV x xs)) := fun H H1 G H2 v w Q p dx dy q => by
  have e1 := flatD_v dx e
  subst e1
  obtain ⟨a, ws, rfl, s, da⟩ := Dv.tup_inv dy
  have e2 := flat_all es da
  subst e2
  exact ⟨a, ws, rfl, .inr (seqT p.gh s), flatD_flat e, flatD_flats es, q _ G H2 p (.bl _)⟩
theorem go_inL {x : V} {xs : List V} (e : flatD d = some x) (es : ds.map flatD = xs.map some) : GO K (rIn K false) d (.list ds) (.bool (inV x xs)) := fun H H1 G H2 v w Q p dx dy q => by
  have e1 := flatD_v dx e
  subst e1
  obtain ⟨a, ws, rfl, s, da⟩ := Dv.lst_inv dy
  have e2 := flat_all es da
  subst e2
  exact ⟨a, ws, rfl, .inl (.inl (rd_same p.gh s)), flatD_flat e, flatD_flats es, q _ G H2 p (.bl _)⟩
theorem go_ninT {x : V} {xs : List V} (e : flatD d = some x) (es : ds.map flatD = xs.map some) : GO K (rIn K true) d (.tuple ds) (.bool (!inV x xs)) := fun H H1 G H2 v w Q p dx dy q => by
  have e1 := flatD_v dx e
  subst e1
  obtain ⟨a, ws, rfl, s, da⟩ := Dv.tup_inv dy
  have e2 := flat_all es da
  subst e2
  exact ⟨a, ws, rfl, .inr (seqT p.gh s), flatD_flat e, flatD_flats es, q _ G H2 p (.bl _)⟩
theorem go_ninL {x : V} {xs : List V} (e : flatD d = some x) (es : ds.map flatD = xs.map some) : GO K (rIn K true) d (.list ds) (.bool (!inV x xs)) := fun H H1 G H2 v w Q p dx dy q => by
  have e1 := flatD_v dx e
  subst e1
  obtain ⟨a, ws, rfl, s, da⟩ := Dv.lst_inv dy
  have e2 := flat_all es da
  subst e2
  exact ⟨a, ws, rfl, .inl (.inl (rd_same p.gh s)), flatD_flat e, flatD_flats es, q _ G H2 p (.bl _)⟩
theorem inV_strs (x : Str) : ∀ xs : List Str, inV (.str x) (xs.map V.str) = decide (x ∈ xs)
  | [] => rfl
  | y :: xs => by
    have ih := inV_strs x xs
    unfold inV at ih ⊢
    rw [List.map_cons, List.any_cons, ih]
    show ((y == x) || decide (x ∈ xs)) = decide (x ∈ y :: xs)
    rw [Bool.eq_iff_iff]
    simp only [Bool.or_eq_true, beq_iff_eq, decide_eq_true_eq, List.mem_cons]
    constructor
    · rintro (h | h)
      · exact .inl h.symm
      · exact .inr h
    · rintro (h | h)
      · exact .inl h.symm
      · exact .inr h
theorem inV_ints (x : Int) : ∀ xs : List Int, inV (.int x) (xs.map V.int) = decide (x ∈ xs)
  | [] => rfl
  | y :: xs => by
    have ih := inV_ints x xs
    unfold inV at ih ⊢
    rw [List.map_cons, List.any_cons, ih]
    show ((y == x) || decide (x ∈ xs)) = decide (x ∈ y :: xs)
    rw [Bool.eq_iff_iff]
    simp only [Bool.or_eq_true, beq_iff_eq, decide_eq_true_eq, List.mem_cons]
    constructor
    · rintro (h | h)
      · exact .inl h.symm
      · exact .inr h
    · rintro (h | h)
      · exact .inl h.symm
      · exact .inr h
theorem flat_strs (xs : List Str) : (xs.map PyData.str).map flatD = (xs.map V.str).map some := by
  induction xs with
  | nil => rfl
  | cons x xs ih => rw [List.map_cons, List.map_cons, List.map_cons, List.map_cons, ih]; rfl
theorem flat_ints (xs : List Int) : (xs.map PyData.int).map flatD = (xs.map V.int).map some := by
  induction xs with
  | nil => rfl
  | cons x xs ih => rw [List.map_cons, List.map_cons, List.map_cons, List.map_cons, ih]; rfl
/-! items -/
theorem atI_get' {α : Type} {xs : List α} {i : Int} {v : α} (h : atI xs i = some v) : ∃ j, ixN xs.length i = some j ∧ xs[j]? = some v := by
  unfold atI at h
  exact Option.bind_eq_some_iff.mp h
theorem DvA.at_ {vs : List V} {i : Int} (h : DvA K G vs ds) (e : atI ds i = some d) : ∃ v, atI vs i = some v ∧ Dv K G v d := by
  obtain ⟨j, e1, e2⟩ := atI_get' e
  obtain ⟨v, e3, dv⟩ := DvA.get h e2
  refine ⟨v, ?_, dv⟩
  unfold atI
  rw [DvA.len h, e1]
  exact e3
theorem go_ixT {i : Int} (e : atI ds i = some d) : GO K (rIx K) (.tuple ds) (.int i) d := fun H H1 G H2 v w Q p dx dy q => by
  obtain ⟨a, ws, rfl, s, da⟩ := Dv.tup_inv dx
  obtain ⟨v, e2, dv⟩ := DvA.at_ da e
  exact .inr (.inl ⟨a, ws, i, v, rfl, Dv.int_inv dy, seqT p.gh s, e2, q _ G H2 p dv⟩)
theorem go_ixL {i : Int} (e : atI ds i = some d) : GO K (rIx K) (.list ds) (.int i) d := fun H H1 G H2 v w Q p dx dy q => by
  obtain ⟨a, ws, rfl, s, da⟩ := Dv.lst_inv dx
  obtain ⟨v, e2, dv⟩ := DvA.at_ da e
  exact .inl ⟨a, ws, i, v, rfl, Dv.int_inv dy, .inl (rd_same p.gh s), e2, q _ G H2 p dv⟩
/-! + -/
def rCatR : R2 := fun x y H Q => ∃ l b xs zs, x = .ref l ∧ y = .ref b ∧ Rd H l (.lst xs) ∧ Rd H b (.lst zs) ∧ xs.length + zs.length ≤ sizeLine ∧ ∀ p, H p = none → Q (.ref p) (upd H p (.lst (xs ++ zs)))
theorem op_catR {X : Cx} : OpR X (binaryOp .Add) rCatR := by
  intro pins s σ H x y v u Q I rx ry h
  obtain ⟨l, b, xs, zs, rfl, rfl, hH, hB, hz, q⟩ := h
  cases rx
  cases ry
  obtain ⟨z, its, n, r, e⟩ := (show ObjOk X.prog X.w H s.heap l (.lst xs) from hH.ok I.hok)
  obtain ⟨z2, its2, n2, r2, e2⟩ := (show ObjOk X.prog X.w H s.heap b (.lst zs) from hB.ok I.hok)
  have hl := r.length
  have hl2 := r2.length
  refine PySem.P.add_list e e2 ?_ (by rw [List.size_toArray, List.size_toArray]; omega)
  have ea : its.toArray ++ its2.toArray = (its ++ its2).toArray := by simp
  rw [ea]
  exact ⟨.ref _, _, I.lnew (t' := s.toks) (r.append r2) (by rw [List.length_append]; omega), rfl, q _ I.fresh⟩
def rAddS : R2 := fun x y H Q => ∃ i j, x = .str i ∧ y = .str j ∧ i.length + j.length ≤ sizeLine ∧ Q (.str (i ++ j)) H
def rAddA (K : PySem.W.Frag) : R2 := rOr (rI0 fun i j => .int (i + j)) (rOr rAddS (rOr rCatR (RR.rCatF K)))
theorem op_addA {X : Cx} : OpR X (binaryOp .Add) (rAddA X.K) := op_or' op_add (op_or' op_add_str (op_or' op_catR RR.op_catF))
theorem go_addI {i j : Int} : GO K (rAddA K) (.int i) (.int j) (.int (i + j)) := go_l go_i2
theorem go_addS {i j : Str} (z : i.length + j.length ≤ sizeLine) : GO K (rAddA K) (.str i) (.str j) (.str (i ++ j)) := go_r (go_l fun H H1 G H2 v w Q p dx dy q => ⟨i, j, Dv.str_inv dx, Dv.str_inv dy, z, q _ G H2 p (.str _)⟩)
theorem go_addL (z : ds.length + es.length ≤ sizeLine) : GO K (rAddA K) (.list ds) (.list es) (.list (ds ++ es)) := go_r (go_r (go_l fun H H1 G H2 v w Q p dx dy q => by
  obtain ⟨a, xs, rfl, s1, da⟩ := Dv.lst_inv dx
  obtain ⟨b, ys, rfl, s2, db⟩ := Dv.lst_inv dy
  exact ⟨a, b, xs, ys, rfl, rfl, rd_same p.gh s1, rd_same p.gh s2, by rw [DvA.len da, DvA.len db]; exact z, fun c hc => q (.ref c) _ _ (p.new hc _) (.lst (.inl upd_same) ((DvA.app da db).to (same_new (p.gh.free hc) _)))⟩))
end
end DL
end
section
set_option Elab.async false
set_option linter.all false
set_option maxRecDepth 100000
set_option maxHeartbeats 2000000
namespace DL
open PySem PySem.Spec PyProof.Rows L2
section
variable {K : PySem.W.Frag} {A H H' H1 H2 H3 G G1 G2 : Hp} {σ : L2.St} {t ta tb tc te : TE} {tA : TA} {tt tu : TT} {d d1 d2 d3 : PyData} {ds es : List PyData}
theorem go_addT (z : ds.length + es.length ≤ sizeLine) : GO K (rAddA K) (.tuple ds) (.tuple es) (.tuple (ds ++ es)) := go_r (go_r (go_r fun H H1 G H2 v w Q p dx dy q => by
  obtain ⟨a, xs, rfl, s1, n1, da⟩ := Dv.tup_invN dx
  obtain ⟨b, ys, rfl, s2, n2, db⟩ := Dv.tup_invN dy
  have l1 := DvA.len da
  have l2 := DvA.len db
  refine ⟨a, b, xs, ys, rfl, rfl, seqT p.gh s1, seqT p.gh s2, by omega, fun e => ?_, fun e1 e => ?_, fun _ _ c ob hc hd => q (.ref c) _ _ (p.new hc _) (.tupF upd_same hd ((DvA.app da db).to (same_new (p.gh.free hc) _)))⟩
  · subst e
    cases da
    exact q _ G H2 p (.tup' s2 n2 db)
  · subst e
    cases db
    rw [List.append_nil] at q
    exact q _ G H2 p (.tup' s1 n1 da)))
/-! ### slices -/
def GP (t : TO) (σ : L2.St) (H A : Hp) (o : Option Int) : Prop := ∀ H0 H1, Pub H A H0 H1 → ∀ Q : Option Int → Hp → Prop, (∀ H2, Pub H0 H1 H0 H2 → Q o H2) → t σ H1 Q
theorem gp_none : GP tNoPart σ H A none := fun H0 H1 e Q q => q H1 (.refl e.gh)
theorem gp_some {i : Int} (g : GD K t σ H A (.int i)) : GP (tPart t) σ H A (some i) := fun H0 H1 e Q q => g.to e fun v G H2 p dv => ⟨i, Dv.int_inv dv, q H2 (.idle e.gh p.hh)⟩
def cutD (ds : List PyData) (lo hi : Option Int) : List PyData := (ds.drop (HT.sIx ds.length 0 lo)).take (HT.sIx ds.length ds.length hi - HT.sIx ds.length 0 lo)
theorem DvA.cut {vs : List V} (h : DvA K G vs ds) (lo hi : Option Int) : DvA K G (cutV vs lo hi) (cutD ds lo hi) := by
  unfold cutV cutD
  rw [DvA.len h]
  exact (h.drop _).take _
def rSlR : V → Option Int → Option Int → Hp → VK → Prop := fun x lo hi H Q => ∃ a xs, x = .ref a ∧ Rd H a (.lst xs) ∧ ∀ p, H p = none → Q (.ref p) (upd H p (.lst (cutV xs lo hi)))
theorem sl_listR {X : Cx} : SlR X rSlR := fun pins s σ H x v vl vu lo hi sl Q I rx hs pl pu h => by
  obtain ⟨a, xs, e, r, q⟩ := h
  exact sl_list pins s σ H x v vl vu lo hi sl Q I rx hs pl pu ⟨a, xs, e, .inl r, q⟩
def sOr (r r' : V → Option Int → Option Int → Hp → VK → Prop) : V → Option Int → Option Int → Hp → VK → Prop := fun x lo hi H Q => r x lo hi H Q ∨ r' x lo hi H Q
theorem sl_or' {X : Cx} {r r' : V → Option Int → Option Int → Hp → VK → Prop} (h : SlR X r) (h' : SlR X r') : SlR X (sOr r r') := h.or h'
def rSlD (K : PySem.W.Frag) := sOr rSlR (sOr (RR.rSlF K) C8.rSlX)
theorem sl_D {X : Cx} : SlR X (rSlD X.K) := sl_or' sl_listR (sl_or' RR.sl_tupF C8.sl_txt)
theorem gd_sl {r : V → Option Int → Option Int → Hp → VK → Prop} {tl th : TO} {lo hi : Option Int} (g : GD K te σ H A d1) (gl : GP tl σ H A lo) (gh : GP th σ H A hi)
    (h : ∀ (H H1 G H2 : Hp) (x : V) (Q : VK), Pub H H1 G H2 → Dv K G x d1 → (∀ v G' H3, Pub H H1 G' H3 → Dv K G' v d → Q v H3) → r x lo hi H2 Q) : GD K (tSl r te tl th) σ H A d := fun H0 H1 e Q q =>
  g.to e fun x G H2 p dx => gl G H2 (e.trans p) _ fun H3 e3 => gh G H3 (e.trans (p.trans e3)) _ fun H4 e4 => h H0 H1 G H4 x Q (p.trans (e3.trans e4)) dx q
theorem gd_slL {tl th : TO} {lo hi : Option Int} (g : GD K te σ H A (.list ds)) (gl : GP tl σ H A lo) (gh : GP th σ H A hi) : GD K (tSl (rSlD K) te tl th) σ H A (.list (cutD ds lo hi)) :=
  gd_sl g gl gh fun H H1 G H2 x Q p dx q => by
    obtain ⟨a, xs, rfl, s, da⟩ := Dv.lst_inv dx
    exact .inl ⟨a, xs, rfl, rd_same p.gh s, fun b hb => q (.ref b) _ _ (p.new hb _) (.lst (.inl upd_same) ((DvA.cut da lo hi).to (same_new (p.gh.free hb) _)))⟩
theorem cutV_all {α : Type} (xs : List α) (a b : Nat) (h : a = 0 ∧ b = xs.length) : (xs.drop a).take (b - a) = xs := by
  obtain ⟨rfl, rfl⟩ := h
  simp
theorem gd_slT {tl th : TO} {lo hi : Option Int} (g : GD K te σ H A (.tuple ds)) (gl : GP tl σ H A lo) (gh : GP th σ H A hi) : GD K (tSl (rSlD K) te tl th) σ H A (.tuple (cutD ds lo hi)) :=
  gd_sl g gl gh fun H H1 G H2 x Q p dx q => by
    obtain ⟨a, xs, rfl, s, n, da⟩ := Dv.tup_invN dx
    refine .inr (.inl ⟨a, xs, rfl, seqT p.gh s, fun hz => ?_, fun _ b ob hb hd => q (.ref b) _ _ (p.new hb _) (.tupF upd_same hd ((DvA.cut da lo hi).to (same_new (p.gh.free hb) _)))⟩)
    refine q _ G H2 p ?_
    have l := DvA.len da
    rw [l] at hz
    have e : cutD ds lo hi = ds := cutV_all ds _ _ hz
    rw [e]
    exact .tup' s n da
theorem gd_slS {tl th : TO} {lo hi : Option Int} {x : Str} (g : GD K te σ H A (.str x)) (gl : GP tl σ H A lo) (gh : GP th σ H A hi) (z : x.length ≤ sizeLine) : GD K (tSl (rSlD K) te tl th) σ H A (.str (Txt.slice x lo hi)) :=
  gd_sl g gl gh fun H H1 G H2 v Q p dx q => .inr (.inr ⟨x, Dv.str_inv dx, z, q _ G H2 p (.str _)⟩)
/-! ### tests -/
theorem gt_test {b : Bool} (g : GD K t σ H A (.bool b)) : GT (tTest t) σ H A b := fun H0 H1 e Q q => g.to e fun v G H2 p dv => ⟨b, Dv.bl_inv dv, q H2 (.idle e.gh p.hh)⟩
theorem gt_tB {b : Bool} (g : GD K t σ H A (.bool b)) : GT (tB t) σ H A b := fun H0 H1 e Q q => g.to e fun v G H2 p dv => ⟨b, Dv.bl_inv dv, q H2 (.idle e.gh p.hh)⟩
theorem gt_not {b : Bool} (g : GT tt σ H A b) : GT (tNot tt) σ H A (!b) := fun H0 H1 e Q q => g.to e fun H2 e2 => q H2 e2
theorem gt_and {b c : Bool} (g : GT tt σ H A b) (h : b = true → GT tu σ H A c) : GT (tAnd tt tu) σ H A (b && c) := fun H0 H1 e Q q => g.to e fun H2 e2 => by
  cases b with
  | false => exact iteF (q H2 e2)
  | true => exact iteT ((h rfl).to (e.trans e2) fun H3 e3 => q H3 (e2.trans e3))
theorem gt_or {b c : Bool} (g : GT tt σ H A b) (h : b = false → GT tu σ H A c) : GT (tOr tt tu) σ H A (b || c) := fun H0 H1 e Q q => g.to e fun H2 e2 => by
  cases b with
  | true => exact iteT (q H2 e2)
  | false => exact iteF ((h rfl).to (e.trans e2) fun H3 e3 => q H3 (e2.trans e3))
/-- truth -/
def truD : PyData → Bool
  | .none => false
  | .bool b => b
  | .int i => i != 0
  | .str x => (x.length : Int) != 0
  | .list ds => !ds.isEmpty
  | .tuple ds => !ds.isEmpty
  | .dict _ => false
def truOk : PyData → Bool
  | .str x => decide (x.length ≤ sizeLine)
  | _ => true
theorem dva_empty {vs : List V} (h : DvA K G vs ds) : vs.isEmpty = ds.isEmpty := by cases h <;> rfl
theorem truV_of {v : V} (h : Dv K H v d) (z : truOk d = true) : TruV K v H (truD d) := by
  cases h with
  | non => exact (rfl : truD .none = false)
  | bl b => exact (rfl : truD (.bool b) = b)
  | int i => exact (rfl : truD (.int i) = (i != 0))
  | str x => exact ⟨of_decide_eq_true z, rfl⟩
  | lst s a => exact .inl ⟨_, .inl s, by rw [dva_empty a]; rfl⟩
  | tup' s _ a => exact .inr (.inl ⟨_, s, by rw [dva_empty a]; rfl⟩)
def tTr (K : PySem.W.Frag) (ta : TE) : TT := fun σ H Q => ta σ H fun x H' => ∃ k, TruV K x H' k ∧ Q k H'
theorem pt_tr {X : Cx} {a : Expr} {ta : TE} (ha : PE X a ta) (he : ∀ whole, isTrue a X.env whole = (do let v ← whole; standAt a.pos; holding [v] (truthy v)) := by intro _; rfl) : PT X a (tTr X.K ta) := pt_truth ha he
theorem gt_tr (g : GD K t σ H A d) (z : truOk d = true := by rfl) : GT (tTr K t) σ H A (truD d) := fun H0 H1 e Q q => g.to e fun v G H2 p dv => ⟨_, truV_of (Dv.to dv p.gh) z, q H2 (.idle e.gh p.hh)⟩
theorem gd_and {b : Bool} (g : GD K ta σ H A (.bool b)) (h : b = true → GD K tb σ H A d) (h0 : b = false → d = .bool false) : GD K (tAndV ta tb) σ H A d := fun H0 H1 e Q q => g.to e fun v G H2 p dv => ⟨b, Dv.bl_inv dv, by
  cases b with
  | false =>
    rw [h0 rfl] at q
    exact iteF (q _ G H2 p (.bl _))
  | true => exact iteT ((h rfl).to (e.trans p) fun w G2 H3 p2 dw => q w G2 H3 (p.trans p2) dw)⟩
theorem gd_andB {b c : Bool} (g : GD K ta σ H A (.bool b)) (h : b = true → GD K tb σ H A (.bool c)) : GD K (tAndV ta tb) σ H A (.bool (b && c)) := by
  cases b with
  | false => exact gd_and g (fun z => nomatch z) fun _ => rfl
  | true => exact gd_and g (fun _ => h rfl) fun z => nomatch z
theorem gd_orB {b c : Bool} (g : GD K ta σ H A (.bool b)) (h : b = false → GD K tb σ H A (.bool c)) : GD K (tOrV ta tb) σ H A (.bool (b || c)) := fun H0 H1 e Q q => g.to e fun v G H2 p dv => ⟨b, Dv.bl_inv dv, by
  cases b with
  | true => exact iteT (q _ G H2 p (.bl _))
  | false => exact iteF ((h rfl).to (e.trans p) fun w G2 H3 p2 dw => q w G2 H3 (p.trans p2) dw)⟩
theorem gd_notB {b : Bool} (g : GD K ta σ H A (.bool b)) : GD K (tNotV ta) σ H A (.bool (!b)) := fun H0 H1 e Q q => g.to e fun v G H2 p dv => ⟨b, Dv.bl_inv dv, q _ G H2 p (.bl _)⟩
theorem gd_notT (g : GD K ta σ H A d) (z : truOk d = true := by rfl) : GD K (tNotT K ta) σ H A (.bool (!truD d)) := fun H0 H1 e Q q => g.to e fun v G H2 p dv => ⟨_, truV_of (Dv.to dv p.gh) z, q _ G H2 p (.bl _)⟩
theorem gd_andT (g : GD K ta σ H A d1) (h : truD d1 = true → GD K tb σ H A d) (h0 : truD d1 = false → d = d1) (z : truOk d1 = true := by rfl) : GD K (tAndT K ta tb) σ H A d := fun H0 H1 e Q q => g.to e fun v G H2 p dv => ⟨_, truV_of (Dv.to dv p.gh) z, by
  cases c : truD d1 with
  | false =>
    rw [h0 c] at q
    exact iteF (q _ G H2 p dv)
  | true => exact iteT ((h c).to (e.trans p) fun w G2 H3 p2 dw => q w G2 H3 (p.trans p2) dw)⟩
theorem gd_orT (g : GD K ta σ H A d1) (h : truD d1 = false → GD K tb σ H A d) (h0 : truD d1 = true → d = d1) (z : truOk d1 = true := by rfl) : GD K (tOrT K ta tb) σ H A d := fun H0 H1 e Q q => g.to e fun v G H2 p dv => ⟨_, truV_of (Dv.to dv p.gh) z, by
  cases c : truD d1 with
  | true =>
    rw [h0 c] at q
    exact iteT (q _ G H2 p dv)
  | false => exact iteF ((h c).to (e.trans p) fun w G2 H3 p2 dw => q w G2 H3 (p.trans p2) dw)⟩
theorem gd_if {b : Bool} (g : GT tt σ H A b) (h1 : b = true → GD K ta σ H A d) (h2 : b = false → GD K tb σ H A d) : GD K (tIf tt ta tb) σ H A d := fun H0 H1 e Q q => g.to e fun H2 e2 => by
  have fin : ∀ {t : TE}, GD K t σ H A d → t σ H2 Q := fun {t} g => g.to (e.trans e2) fun w G2 H3 p2 dw => q w G2 H3 (e2.trans p2) dw
  cases b with
  | true => exact iteT (fin (h1 rfl))
  | false => exact iteF (fin (h2 rfl))
/-- a op1 b op2 c, the first true or not -/
theorem gd_chain {r r' : R2} {b c : Bool} (ga : GD K ta σ H A d1) (gb : GD K tb σ H A d2) (o : GO K r d1 d2 (.bool b)) (gc : GD K tc σ H A d3) (o2 : GO K r' d2 d3 (.bool c)) : GD K (tChain r r' ta tb tc) σ H A (.bool (b && c)) := fun H0 H1 e Q q =>
  ga.to e fun x G1 H2 p dx => gb.to (e.trans p) fun y G2 H3 p2 dy => o G2 H3 G2 H3 x y _ (.refl p2.gh) (Dv.to dx p2.hg) dy fun v G3 H4 p3 dv => ⟨b, Dv.bl_inv dv, by
    have p123 := (p.trans p2).trans p3
    cases b with
    | false => exact iteF (q _ G3 H4 p123 (.bl _))
    | true => exact iteT (gc.to (e.trans p123) fun z G4 H5 p4 dz => o2 H0 H1 G4 H5 y z Q (p123.trans p4) ((Dv.to dy p3.hg).to p4.hg) dz q)⟩
/-! ### calls of what is built in -/
def GC (K : PySem.W.Frag) (r : List V → Hp → VK → Prop) (ds : List PyData) (d : PyData) : Prop := ∀ (H H1 G H2 : Hp) (vs : List V) (Q : VK), Pub H H1 G H2 → DvA K G vs ds → (∀ v G' H3, Pub H H1 G' H3 → Dv K G' v d → Q v H3) → r vs H2 Q
theorem gd_cb {r : List V → Hp → VK → Prop} (ga : GA K tA σ H A ds) (o : GC K r ds d) : GD K (tCB r tA) σ H A d := fun H0 H1 e Q q => ga.to e fun vs G H2 p dv => o H0 H1 G H2 vs Q p dv q
def cOr (r r' : List V → Hp → VK → Prop) : List V → Hp → VK → Prop := fun xs H Q => r xs H Q ∨ r' xs H Q
theorem cr_or' {X : Cx} {f : Value} {r r' : List V → Hp → VK → Prop} (h : CallR X f r) (h' : CallR X f r') : CallR X f (cOr r r') := h.or h'
def rLen (K : PySem.W.Frag) : List V → Hp → VK → Prop := fun xs H Q => ∃ x n, xs = [x] ∧ LenV K x H n ∧ Q (.int n) H
theorem cr_len {X : Cx} : CallR X (.builtin "len") (rLen X.K) := call_len
theorem gc_lenL : GC K (rLen K) [.list ds] (.int ds.length) := fun H H1 G H2 vs Q p dv q => by
  obtain ⟨v, rfl, d1⟩ := DvA.inv1 dv
  obtain ⟨a, xs, rfl, s, da⟩ := Dv.lst_inv d1
  exact ⟨_, xs.length, rfl, .inl ⟨xs, .inl (rd_same p.gh s), rfl⟩, by rw [DvA.len da]; exact q _ G H2 p (.int _)⟩
theorem gc_lenT : GC K (rLen K) [.tuple ds] (.int ds.length) := fun H H1 G H2 vs Q p dv q => by
  obtain ⟨v, rfl, d1⟩ := DvA.inv1 dv
  obtain ⟨a, xs, rfl, s, da⟩ := Dv.tup_inv d1
  exact ⟨_, xs.length, rfl, .inr ⟨xs, seqT p.gh s, rfl⟩, by rw [DvA.len da]; exact q _ G H2 p (.int _)⟩
theorem gc_lenS {x : Str} (z : x.length ≤ sizeLine) : GC K (rLen K) [.str x] (.int x.length) := fun H H1 G H2 vs Q p dv q => by
  obtain ⟨v, rfl, d1⟩ := DvA.inv1 dv
  have e := Dv.str_inv d1
  subst e
  exact ⟨_, x.length, rfl, ⟨z, rfl⟩, q _ G H2 p (.int _)⟩
def rInt : List V → Hp → VK → Prop := fun xs H Q => (∃ i, xs = [.int i] ∧ Q (.int i) H) ∨ ∃ k, xs = [.bl k] ∧ Q (.int (if k then 1 else 0)) H
theorem cr_int {X : Cx} : CallR X (.type "int") rInt := call_int1
theorem gc_int {i : Int} : GC K rInt [.int i] (.int i) := fun H H1 G H2 vs Q p dv q => by
  obtain ⟨v, rfl, d1⟩ := DvA.inv1 dv
  have e := Dv.int_inv d1
  subst e
  exact .inl ⟨i, rfl, q _ G H2 p (.int _)⟩
def rAllB (K : PySem.W.Frag) : List V → Hp → VK → Prop := rAll K
theorem gc_all {bs : List Bool} : GC K (rAll K) [.list (bs.map .bool)] (.bool (bs.all id)) := fun H H1 G H2 vs Q p dv q => by
  obtain ⟨v, rfl, d1⟩ := DvA.inv1 dv
  obtain ⟨a, xs, rfl, s, da⟩ := Dv.lst_inv d1
  have e := DvA.bls_inv da
  subst e
  exact ⟨a, bs, rfl, .inl (rd_same p.gh s), q _ G H2 p (.bl _)⟩
theorem gc_any {bs : List Bool} : GC K (rAny K) [.list (bs.map .bool)] (.bool (bs.any id)) := fun H H1 G H2 vs Q p dv q => by
  obtain ⟨v, rfl, d1⟩ := DvA.inv1 dv
  obtain ⟨a, xs, rfl, s, da⟩ := Dv.lst_inv d1
  have e := DvA.bls_inv da
  subst e
  exact ⟨a, bs, rfl, .inl (rd_same p.gh s), q _ G H2 p (.bl _)⟩
theorem gc_sum {ns : List Int} : GC K (rSum K) [.list (ns.map .int)] (.int ns.sum) := fun H H1 G H2 vs Q p dv q => by
  obtain ⟨v, rfl, d1⟩ := DvA.inv1 dv
  obtain ⟨a, xs, rfl, s, da⟩ := Dv.lst_inv d1
  have e := DvA.ints_inv da
  subst e
  exact ⟨a, ns, rfl, .inl (rd_same p.gh s), q _ G H2 p (.int _)⟩
def rListOf (K : PySem.W.Frag) : List V → Hp → VK → Prop := fun xs H Q => ∃ p ys, xs = [.ref p] ∧ (SqL K H p ys ∨ SqT K H p ys) ∧ ∀ l, H l = none → Q (.ref l) (upd H l (.lst ys))
theorem cr_listOf {X : Cx} : CallR X (.type "list") (rListOf X.K) := call_list_of
theorem gc_listL : GC K (rListOf K) [.list ds] (.list ds) := fun H H1 G H2 vs Q p dv q => by
  obtain ⟨v, rfl, d1⟩ := DvA.inv1 dv
  obtain ⟨a, xs, rfl, s, da⟩ := Dv.lst_inv d1
  exact ⟨a, xs, rfl, .inl (.inl (rd_same p.gh s)), fun b hb => q (.ref b) _ _ (p.new hb _) (.lst (.inl upd_same) (da.to (same_new (p.gh.free hb) _)))⟩
theorem gc_listT : GC K (rListOf K) [.tuple ds] (.list ds) := fun H H1 G H2 vs Q p dv q => by
  obtain ⟨v, rfl, d1⟩ := DvA.inv1 dv
  obtain ⟨a, xs, rfl, s, da⟩ := Dv.tup_inv d1
  exact ⟨a, xs, rfl, .inr (seqT p.gh s), fun b hb => q (.ref b) _ _ (p.new hb _) (.lst (.inl upd_same) (da.to (same_new (p.gh.free hb) _)))⟩
theorem gc_tupL : GC K (RR.rTupF K) [.list ds] (.tuple ds) := fun H H1 G H2 vs Q p dv q => by
  obtain ⟨v, rfl, d1⟩ := DvA.inv1 dv
  obtain ⟨a, xs, rfl, s, da⟩ := Dv.lst_inv d1
  exact ⟨a, xs, rfl, .inl (rd_same p.gh s), fun b ob hb hd => q (.ref b) _ _ (p.new hb _) (.tupF upd_same hd (da.to (same_new (p.gh.free hb) _)))⟩
/-! isinstance, of a built-in class -/
def tyN : PyData → String
  | .none => "NoneType"
  | .bool _ => "bool"
  | .int _ => "int"
  | .str _ => "str"
  | .list _ => "list"
  | .tuple _ => "tuple"
  | .dict _ => "dict"
theorem tyX_of {v : V} (h : Dv K H v d) : TyX K H v (.type (tyN d)) := by
  cases h with
  | non => exact .base .non
  | bl b => exact .base (.bl b)
  | int i => exact .base (.int i)
  | str x => exact .base (.str x)
  | lst s a =>
    rcases s with s | ⟨o, s⟩
    · exact .base (.lst s)
    · exact .base (.frz s)
  | tup' s _ a =>
    rcases s with (s | ⟨o, s⟩) | ⟨o, its, n, hk, hc, _⟩
    · exact .base (.tup s)
    · exact .fTuple s
    · exact .kTuple hk hc
/-- isinstance(x, T): the second argument is the type itself -/
def tIsi (K : PySem.W.Frag) (T : String) (te : TE) : TE := tCB (rIsi K) (tCons te (tCons (tC (.ty T)) tNil))
theorem gd_isi {T : String} {b : Bool} (g : GD K te σ H A d) (h : kitB (tyN d) T = some b := by decide +kernel) : GD K (tCB (rIsi K) (tCons te (tCons (tC (.ty T)) tNil))) σ H A (.bool b) := fun H0 H1 e Q q =>
  g.to e fun v G H2 p dv => ⟨v, .ty T, .type (tyN d), .type T, b, rfl, .ty T, tyX_of (Dv.to dv p.gh), kit_ty h, q _ G H2 p (.bl _)⟩
/-! ### a written tuple of the top -/
end
end DL
end
section
set_option Elab.async false
set_option linter.all false
set_option maxRecDepth 100000
set_option maxHeartbeats 2000000
namespace DL
open PySem PySem.Spec PyProof.Rows L2
section
variable {K : PySem.W.Frag} {A H H' H1 H2 H3 G G1 G2 : Hp} {σ : L2.St} {t ta tb tc te : TE} {tA : TA} {tt tu : TT} {d d1 d2 d3 : PyData} {ds es : List PyData}
/-! ### what is walked -/
structure Runs (K : PySem.W.Frag) (J : It) (B : Hp) (ds : List PyData) : Prop where
  go : ∀ i H, Same B H → i < ds.length → J.go i H
  stop : ∀ i H, Same B H → ds.length ≤ i → J.stop i H
  yld : ∀ i H x H' G, Same B G → Same G H → i < ds.length → J.yld i H x H' → ∃ d G', ds[i]? = some d ∧ Pub G H G' H' ∧ Dv K G' x d
def GI (K : PySem.W.Frag) (wi : TI) (σ : L2.St) (H A : Hp) (ds : List PyData) : Prop := ∀ H0 H1, Pub H A H0 H1 → ∀ R : It → Hp → Prop, (∀ J G H2, Pub H0 H1 G H2 → Runs K J G ds → R J H2) → wi σ H1 R
theorem runs_list {a : Addr} {xs : List V} (s : SqL K G a xs) (h : DvA K G xs ds) : Runs K (Itl K a) G ds where
  go := fun i H e hi => ⟨xs, xs[i]'(by rw [DvA.len h]; exact hi), e.seq s, List.getElem?_eq_getElem _⟩
  stop := fun i H e hi => ⟨xs, e.seq s, by rw [DvA.len h]; exact hi⟩
  yld := fun i H x H' G' e e2 hi hy => by
    obtain ⟨rfl, hx⟩ := hy
    obtain ⟨d, hd, dx⟩ := DvA.getv h (hx xs ((e.trans e2).seq s))
    exact ⟨d, G', hd, .refl e2, dx.to e⟩
theorem runs_tup {a : Addr} {xs : List V} (s : SqT K G a xs) (h : DvA K G xs ds) : Runs K (Itt K a) G ds where
  go := fun i H e hi => ⟨xs, xs[i]'(by rw [DvA.len h]; exact hi), seqT e s, List.getElem?_eq_getElem _⟩
  stop := fun i H e hi => ⟨xs, seqT e s, by rw [DvA.len h]; exact hi⟩
  yld := fun i H x H' G' e e2 hi hy => by
    obtain ⟨rfl, hx⟩ := hy
    obtain ⟨d, hd, dx⟩ := DvA.getv h (hx xs (seqT (e.trans e2) s))
    exact ⟨d, G', hd, .refl e2, dx.to e⟩
theorem gi_list (g : GD K te σ H A (.list ds)) : GI K (iList K te) σ H A ds := fun H0 H1 e R q => g.to e fun v G H2 p dv => by
  obtain ⟨a, xs, rfl, s, da⟩ := Dv.lst_inv dv
  exact ⟨a, rfl, ⟨xs, .inl (rd_same p.gh s)⟩, q _ G H2 p (runs_list (.inl s) da)⟩
theorem gi_tup (g : GD K te σ H A (.tuple ds)) : GI K (iTup K te) σ H A ds := fun H0 H1 e R q => g.to e fun v G H2 p dv => by
  obtain ⟨a, xs, rfl, s, da⟩ := Dv.tup_inv dv
  exact ⟨a, rfl, ⟨xs, seqT p.gh s⟩, q _ G H2 p (runs_tup s da)⟩
/-- list or tuple -/
def iOr (w w' : TI) : TI := fun σ H R => w σ H R ∨ w' σ H R
theorem pi_or {X : Cx} {tg e : Expr} {w w' : TI} (h : PI X tg e w) (h' : PI X tg e w') : PI X tg e (iOr w w') := ⟨fun pins s σ H R I q => by
  rcases q with q | q
  · exact h.run pins s σ H R I q
  · exact h'.run pins s σ H R I q⟩
def iSeq (K : PySem.W.Frag) (te : TE) : TI := iOr (iList K te) (iOr (iTup K te) (iStr te))
theorem pi_seq {X : Cx} {tg e : Expr} {te : TE} (h : PE X e te) : PI X tg e (iSeq X.K te) := pi_or (pi_list h) (pi_or (pi_tup h) (pi_str h))
theorem gi_l {w w' : TI} (g : GI K w σ H A ds) : GI K (iOr w w') σ H A ds := fun H0 H1 e R q => .inl (g H0 H1 e R q)
theorem gi_r {w w' : TI} (g : GI K w' σ H A ds) : GI K (iOr w w') σ H A ds := fun H0 H1 e R q => .inr (g H0 H1 e R q)
theorem gi_seqL (g : GD K te σ H A (.list ds)) : GI K (iSeq K te) σ H A ds := gi_l (gi_list g)
theorem gi_seqT (g : GD K te σ H A (.tuple ds)) : GI K (iSeq K te) σ H A ds := gi_r (gi_l (gi_tup g))
/-- the sgs of a text -/
def sgs (x : Str) : List Str := x.cps.toList.map fun c => ⟨#[c]⟩
theorem runs_str {x : Str} : Runs K (Its x) G ((sgs x).map .str) where
  go := fun i H e hi => by
    have z : i < x.cps.size := by simpa [sgs] using hi
    exact z
  stop := fun i H e hi => by
    have z : x.cps.size ≤ i := by simpa [sgs] using hi
    exact z
  yld := fun i H v H' G' e e2 hi hy => by
    obtain ⟨rfl, c, hc, rfl⟩ := hy
    refine ⟨.str ⟨#[c]⟩, G', ?_, .refl e2, .str _⟩
    have hc' : x.cps.toList[i]? = some c := by rw [Array.getElem?_toList]; exact hc
    unfold sgs
    rw [List.getElem?_map, List.getElem?_map, hc']
    rfl
theorem gi_str {x : Str} (g : GD K te σ H A (.str x)) : GI K (iStr te) σ H A ((sgs x).map .str) := fun H0 H1 e R q => g.to e fun v G H2 p dv => ⟨x, Dv.str_inv dv, q _ G H2 p runs_str⟩
theorem gi_seqS {x : Str} (g : GD K te σ H A (.str x)) : GI K (iSeq K te) σ H A ((sgs x).map .str) := gi_r (gi_r (gi_str g))
/-- range -/
def upto (lo : Int) (n : Nat) : List Int := (List.range n).map fun (i : Nat) => lo + (i : Int)
theorem upto_len (lo : Int) (n : Nat) : (upto lo n).length = n := by simp [upto]
theorem upto_get {lo : Int} {n i : Nat} (h : i < n) : (upto lo n)[i]? = some (lo + (i : Int)) := by simp [upto, h]
theorem runs_rng {lo : Int} {n : Nat} : Runs K (Itr lo n) G ((upto lo n).map .int) where
  go := fun i H e hi => by
    rw [List.length_map, upto_len] at hi
    exact hi
  stop := fun i H e hi => by
    rw [List.length_map, upto_len] at hi
    exact hi
  yld := fun i H v H' G' e e2 hi hy => by
    obtain ⟨rfl, rfl⟩ := hy
    rw [List.length_map, upto_len] at hi
    exact ⟨.int (lo + i), G', by rw [List.getElem?_map, upto_get hi]; rfl, .refl e2, .int _⟩
/-- zip of two lists, of two tuples -/
def zipD (as bs : List PyData) : List PyData := (as.zip bs).map fun p => .tuple [p.1, p.2]
theorem zipD_get {as bs : List PyData} {i : Nat} {a b : PyData} (h1 : as[i]? = some a) (h2 : bs[i]? = some b) : (zipD as bs)[i]? = some (.tuple [a, b]) := by
  unfold zipD
  rw [List.getElem?_map, (List.getElem?_zip_eq_some (z := (a, b))).mpr ⟨h1, h2⟩]
  rfl
theorem pairs_no {a b : PyData} (h : pairB a = false) : pairsB [a, b] = false := by
  unfold pairsB
  rw [List.all_cons, h]; rfl
theorem pairs_no2 {a b : PyData} (h : pairB b = false) : pairsB [a, b] = false := by
  unfold pairsB
  rw [List.all_cons, List.all_cons, h]
  cases pairB a <;> rfl
theorem zip_yld {T : Addr} {x y : V} {a b : PyData} {H G : Hp} (e : Same G H) (hn : H T = none) (dx : Dv K G x a) (dy : Dv K G y b) (hp : pairsB [a, b] = false := by rfl) : Pub G H (upd G T (.tup [x, y])) (upd H T (.tup [x, y])) ∧ Dv K (upd G T (.tup [x, y])) (.ref T) (.tuple [a, b]) := by
  have s := same_new (e.free hn) (.tup [x, y])
  exact ⟨(Pub.refl e).new hn _, .tup (SqT.of upd_same) (.cons (dx.to s) (.cons (dy.to s) .nil)) hp⟩
theorem runs_zipT {a b : Addr} {xs ys : List V} {as bs : List PyData} (s1 : SqT K G a xs) (s2 : SqT K G b ys) (h1 : DvA K G xs as) (h2 : DvA K G ys bs) (hz : ∀ a ∈ as, pairB a = false) : Runs K (RZ.ItzT K a b) G (zipD as bs) where
  go := fun i H e hi => by
    have z : i < as.length ∧ i < bs.length := by simp [zipD] at hi; omega
    exact ⟨xs, ys, xs[i]'(by rw [DvA.len h1]; exact z.1), ys[i]'(by rw [DvA.len h2]; exact z.2), seqT e s1, seqT e s2, List.getElem?_eq_getElem _, List.getElem?_eq_getElem _⟩
  stop := fun i H e hi => by
    have z : as.length ≤ i ∨ bs.length ≤ i := by simp [zipD] at hi; omega
    exact ⟨xs, ys, seqT e s1, seqT e s2, by rw [DvA.len h1, DvA.len h2]; exact z⟩
  yld := fun i H v H' G' e e2 hi hy => by
    obtain ⟨T, x, y, rfl, hn, rfl, hx, hy⟩ := hy
    obtain ⟨da, e3, dx⟩ := DvA.getv h1 (hx xs (seqT (e.trans e2) s1))
    obtain ⟨db, e4, dy⟩ := DvA.getv h2 (hy ys (seqT (e.trans e2) s2))
    obtain ⟨p, dz⟩ := zip_yld e2 hn (dx.to e) (dy.to e) (pairs_no (hz _ (List.mem_of_getElem? e3)))
    exact ⟨_, _, zipD_get e3 e4, p, dz⟩
theorem runs_zipL {a b : Addr} {xs ys : List V} {as bs : List PyData} (s1 : SqL K G a xs) (s2 : SqL K G b ys) (h1 : DvA K G xs as) (h2 : DvA K G ys bs) (hz : ∀ a ∈ as, pairB a = false) : Runs K (Itz K a b) G (zipD as bs) where
  go := fun i H e hi => by
    have z : i < as.length ∧ i < bs.length := by simp [zipD] at hi; omega
    exact ⟨xs, ys, xs[i]'(by rw [DvA.len h1]; exact z.1), ys[i]'(by rw [DvA.len h2]; exact z.2), e.seq s1, e.seq s2, List.getElem?_eq_getElem _, List.getElem?_eq_getElem _⟩
  stop := fun i H e hi => by
    have z : as.length ≤ i ∨ bs.length ≤ i := by simp [zipD] at hi; omega
    exact ⟨xs, ys, e.seq s1, e.seq s2, by rw [DvA.len h1, DvA.len h2]; exact z⟩
  yld := fun i H v H' G' e e2 hi hy => by
    obtain ⟨T, x, y, rfl, hn, rfl, hx, hy⟩ := hy
    obtain ⟨da, e3, dx⟩ := DvA.getv h1 (hx xs ((e.trans e2).seq s1))
    obtain ⟨db, e4, dy⟩ := DvA.getv h2 (hy ys ((e.trans e2).seq s2))
    obtain ⟨p, dz⟩ := zip_yld e2 hn (dx.to e) (dy.to e) (pairs_no (hz _ (List.mem_of_getElem? e3)))
    exact ⟨_, _, zipD_get e3 e4, p, dz⟩
theorem gi_zipT {as bs : List PyData} (ga : GA K tA σ H A [.tuple as, .tuple bs]) (hz : ∀ a ∈ as, pairB a = false) : GI K (RZ.iZipA K tA) σ H A (zipD as bs) := fun H0 H1 e R q => ga.to e fun vs G H2 p dv => by
  obtain ⟨v, w, rfl, d1, d2⟩ := DvA.inv2 dv
  obtain ⟨a, xs, rfl, s1, da⟩ := Dv.tup_inv d1
  obtain ⟨b, ys, rfl, s2, db⟩ := Dv.tup_inv d2
  exact ⟨a, b, xs, ys, rfl, .inr ⟨seqT p.gh s1, seqT p.gh s2, q _ G H2 p (runs_zipT s1 s2 da db hz)⟩⟩
theorem gi_zipL {as bs : List PyData} (ga : GA K tA σ H A [.list as, .list bs]) (hz : ∀ a ∈ as, pairB a = false) : GI K (RZ.iZipA K tA) σ H A (zipD as bs) := fun H0 H1 e R q => ga.to e fun vs G H2 p dv => by
  obtain ⟨v, w, rfl, d1, d2⟩ := DvA.inv2 dv
  obtain ⟨a, xs, rfl, s1, da⟩ := Dv.lst_inv d1
  obtain ⟨b, ys, rfl, s2, db⟩ := Dv.lst_inv d2
  exact ⟨a, b, xs, ys, rfl, .inl ⟨.inl (rd_same p.gh s1), .inl (rd_same p.gh s2), q _ G H2 p (runs_zipL (.inl s1) (.inl s2) da db hz)⟩⟩
/-! ### a list comprehension -/
theorem wipe1 {k : Nat} {v : Option V} : wipe ((wipe σ [k]).set k v) [k] = wipe σ [k] := by
  show ((σ.set k none).set k v).set k none = σ.set k none
  rw [List.set_set, List.set_set]
theorem wipe2 {k j : Nat} {v w : Option V} (h : k ≠ j) : wipe (((wipe σ [k, j]).set k v).set j w) [k, j] = wipe σ [k, j] := by
  show (((((σ.set j none).set k none).set k v).set j w).set j none).set k none = (σ.set j none).set k none
  rw [List.set_set, List.set_set, List.set_comm (i := k) (j := j) _ _ h, List.set_set, List.set_set]
/-- the general one, over a list of anything: each turn keeps or not, and gives a datum -/
theorem lc_run {α : Type} {wi : TI} {g : TG} {tt : TT} {te : TE} {vs : List Nat} {xs : List α} (em : α → PyData) (p : α → Bool) (f : α → PyData) (gi : GI K wi σ H A (xs.map em)) (z : xs.length ≤ 1000000)
    (turn : ∀ (i : Nat) (a : α), xs[i]? = some a → ∀ v G H1, Pub H A G H1 → Dv K G v (em a) → ∀ Q : L2.St → Hp → Prop,
      (∀ σ2 G2 H2, Pub G H1 G2 H2 → wipe σ2 vs = wipe σ vs → GT tt σ2 G2 H2 (p a) → (p a = true → GD K te σ2 G2 H2 (f a)) → Q σ2 H2) → g v (wipe σ vs) H1 Q) :
    GD K (tLc wi g tt te vs) σ H A (.list ((xs.filter p).map f)) := fun H0 H1 e Q q => gi H0 H1 e _ fun J B H2 pb r D hD => by
  refine ⟨fun i m Hx => m = xs.length - i ∧ i ≤ xs.length ∧ ∃ G acc, Pub B H2 G Hx ∧ Hx D = some (.lst acc) ∧ G D = none ∧ DvA K G acc (((xs.take i).filter p).map f),
    ⟨xs.length, by simp, Nat.zero_le _, B, [], (Pub.refl pb.gh).newP hD _, upd_same, pb.gh.free hD, by rw [List.take_zero]; exact .nil⟩, ?_⟩
  rintro i m Hx ⟨rfl, hi, G, acc, pg, hacc, hGD, dacc⟩
  by_cases hlt : i < xs.length
  · have hlt' : i < (xs.map em).length := by rw [List.length_map]; exact hlt
    refine .inr ⟨r.go i Hx pg.same hlt', fun H' => ∃ G acc, Pub B H2 G H' ∧ H' D = some (.lst acc) ∧ G D = none ∧ DvA K G acc (((xs.take (i + 1)).filter p).map f), fun H' ⟨G', acc', h⟩ => ⟨xs.length - (i + 1), by omega, rfl, hlt, G', acc', h⟩, fun x H' hy => ?_⟩
    obtain ⟨d, G', hd, p1, dx⟩ := r.yld i Hx x H' G pg.hg pg.gh hlt' hy
    rw [List.getElem?_map] at hd
    obtain ⟨a, ha, rfl⟩ := Option.map_eq_some_iff.mp hd
    refine turn i a ha x G' H' (e.trans (pb.trans (pg.trans p1))) dx _ fun σ2 G2 H3 p2 hw gt gd => ⟨hw, ?_⟩
    have ht : xs.take (i + 1) = xs.take i ++ [a] := by rw [List.take_add_one, ha]; rfl
    have q12 := (pg.trans p1).trans p2
    have hD3 : H3 D = some (.lst acc) := p2.hh D _ (p1.hh D _ hacc)
    have hG2D : G2 D = none := (p1.trans p2).pr D hGD (some_ne hacc)
    refine gt.to (.refl p2.gh) fun H4 e4 => ?_
    have q4 : Pub B H2 G2 H4 := q12.trans e4
    cases hp : p a with
    | false =>
      refine iteF ⟨G2, acc, q4, e4.hh D _ hD3, hG2D, ?_⟩
      rw [ht, List.filter_append, List.filter_cons, hp, if_neg Bool.false_ne_true, List.filter_nil, List.append_nil]
      exact dacc.to (p1.hg.trans p2.hg)
    | true =>
      refine iteT ((gd hp).to e4 fun y G5 H5 p5 dy => ?_)
      have hD5 : H5 D = some (.lst acc) := p5.hh D _ (e4.hh D _ hD3)
      have hG5D : G5 D = none := p5.pr D hG2D (some_ne (e4.hh D _ hD3))
      have hl : acc.length ≤ xs.length := by
        rw [DvA.len dacc, List.length_map]
        exact Nat.le_trans (List.length_filter_le _ _) (by rw [List.length_take]; omega)
      have hs : acc.length < sizeLine := Nat.lt_of_le_of_lt (Nat.le_trans hl z) (by rw [sizeLine_eq]; decide)
      refine ⟨acc, hD5, hs, G5, acc ++ [y], (q4.trans p5).put hD hG5D _, upd_same, hG5D, ?_⟩
      rw [ht, List.filter_append, List.filter_cons, hp, if_pos rfl, List.filter_nil, List.map_append]
      exact DvA.app ((dacc.to (p1.hg.trans p2.hg)).to p5.hg) (.cons dy .nil)
  · have hn : i = xs.length := by omega
    subst hn
    rw [List.take_length] at dacc
    exact .inl ⟨r.stop _ Hx pg.same (by rw [List.length_map]; exact Nat.le_refl _), q _ _ Hx (pb.trans (pg.open_ hD hGD hacc)) (.lst (.inl upd_same) (dacc.to (same_new hGD _)))⟩
/-- one name, no test -/
theorem gd_lc {α : Type} {wi : TI} {k : Nat} {xs : List α} {em : α → PyData} {f : α → PyData} (gi : GI K wi σ H A (xs.map em)) (z : xs.length ≤ 1000000)
    (he : ∀ (i : Nat) (a : α), xs[i]? = some a → ∀ v G H1, Pub H A G H1 → Dv K G v (em a) → GD K te ((wipe σ [k]).set k (some v)) G H1 (f a)) : GD K (tLc wi (gName k) tYes te [k]) σ H A (.list (xs.map f)) := by
  have e := lc_run (te := te) (tt := tYes) (g := gName k) (vs := [k]) em (fun _ => true) f gi z fun i d hd v G H1 s dv Q q => q _ G H1 (.refl s.gh) wipe1 (fun H0 H1 e Q q => q H1 (.refl e.gh)) fun _ => he i d hd v G H1 s dv
  rw [List.filter_eq_self.mpr fun _ _ => rfl] at e
  exact e
/-- one name, a test -/
theorem gd_lcIf {α : Type} {wi : TI} {k : Nat} {xs : List α} {em : α → PyData} {p : α → Bool} {f : α → PyData} (gi : GI K wi σ H A (xs.map em)) (z : xs.length ≤ 1000000) (ht : ∀ (i : Nat) (a : α), xs[i]? = some a → ∀ v G H1, Pub H A G H1 → Dv K G v (em a) → GT tt ((wipe σ [k]).set k (some v)) G H1 (p a))
    (he : ∀ (i : Nat) (a : α), xs[i]? = some a → p a = true → ∀ v G H1, Pub H A G H1 → Dv K G v (em a) → GD K te ((wipe σ [k]).set k (some v)) G H1 (f a)) : GD K (tLc wi (gName k) tt te [k]) σ H A (.list ((xs.filter p).map f)) :=
  lc_run (te := te) (tt := tt) (g := gName k) (vs := [k]) em p f gi z fun i d hd v G H1 s dv Q q => q _ G H1 (.refl s.gh) wipe1 (ht i d hd v G H1 s dv) fun hp => he i d hd hp v G H1 s dv
/-- two names, the items tuples of two; no test -/
theorem gd_lc2 {α : Type} {wi : TI} {k j : Nat} {xs : List α} {ea eb : α → PyData} {f : α → PyData} (hkj : k ≠ j) (gi : GI K wi σ H A (xs.map fun x => .tuple [ea x, eb x])) (z : xs.length ≤ 1000000)
    (he : ∀ (i : Nat) (a : α), xs[i]? = some a → ∀ v w G H1, Pub H A G H1 → Dv K G v (ea a) → Dv K G w (eb a) → GD K te (((wipe σ [k, j]).set k (some v)).set j (some w)) G H1 (f a)) :
    GD K (tLc wi (gTup K 2 (gCons (gName k) (gCons (gName j) gNil))) tYes te [k, j]) σ H A (.list (xs.map f)) := by
  have e := lc_run (te := te) (tt := tYes) (g := gTup K 2 (gCons (gName k) (gCons (gName j) gNil))) (vs := [k, j]) (fun x => .tuple [ea x, eb x]) (fun _ => true) f gi z fun i d hd v G H1 s dv Q q => by
    obtain ⟨c, ws, rfl, sq, da⟩ := Dv.tup_inv dv
    obtain ⟨x, y, rfl, dx, dy⟩ := DvA.inv2 da
    exact ⟨c, _, rfl, seqT s.gh sq, rfl, x, _, rfl, y, _, rfl, rfl, q _ G H1 (.refl s.gh) (wipe2 hkj) (fun H0 H1 e Q q => q H1 (.refl e.gh)) fun _ => he i d hd x y G H1 s dx dy⟩
  rw [List.filter_eq_self.mpr fun _ _ => rfl] at e
  exact e
theorem gc_allM {α : Type} {xs : List α} {g : α → Bool} : GC K (rAll K) [.list (xs.map fun x => .bool (g x))] (.bool (xs.all g)) := by
  have e := gc_all (K := K) (bs := xs.map g)
  rw [List.map_map, List.all_map] at e
  exact e
theorem gc_anyM {α : Type} {xs : List α} {g : α → Bool} : GC K (rAny K) [.list (xs.map fun x => .bool (g x))] (.bool (xs.any g)) := by
  have e := gc_any (K := K) (bs := xs.map g)
  rw [List.map_map, List.any_map] at e
  exact e
end
end DL
end
section
set_option Elab.async false
set_option linter.all false
set_option maxRecDepth 100000
set_option maxHeartbeats 2000000
namespace DL
open PySem PySem.Spec PyProof.Rows L2
section
variable {K : PySem.W.Frag} {A H H' H1 H2 H3 G G1 G2 : Hp} {σ : L2.St} {t ta tb tc te : TE} {tA : TA} {tt tu : TT} {d d1 d2 d3 : PyData} {ds es : List PyData}
theorem gi_rng1 {n : Int} (ga : GA K tA σ H A [.int n]) (h : n < 2 ^ 62) (h0 : -(2 ^ 62) ≤ n) : GI K (iRng1 tA) σ H A ((upto 0 n.toNat).map .int) := fun H0 H1 e R q => ga.to e fun vs G H2 p dv => by
  obtain ⟨v, rfl, d1⟩ := DvA.inv1 dv
  have e1 := Dv.int_inv d1
  subst e1
  exact ⟨n, rfl, h0, h, q _ G H2 p runs_rng⟩
theorem gi_rng2 {i n : Int} (ga : GA K tA σ H A [.int i, .int n]) (h : -(2 ^ 62) ≤ i ∧ i < 2 ^ 62 ∧ -(2 ^ 62) ≤ n ∧ n < 2 ^ 62) : GI K (iRng2 tA) σ H A ((upto i (n - i).toNat).map .int) := fun H0 H1 e R q => ga.to e fun vs G H2 p dv => by
  obtain ⟨v, w, rfl, d1, d2⟩ := DvA.inv2 dv
  have e1 := Dv.int_inv d1
  have e2 := Dv.int_inv d2
  subst e1 e2
  exact ⟨i, n, rfl, h, q _ G H2 p runs_rng⟩
/-! ### a for loop: an invariant over the turn, the slots, the public and the actual heap -/
theorem for_run {wi : TI} {g : TG} {tb : TS} {D : Ends} (gi : GI K wi σ H A ds) {H0 : Hp} (e : Pub H A H0 H1)
    (h : ∀ B H2, Pub H0 H1 B H2 → ∃ Pv : Nat → L2.St → Hp → Hp → Prop, Pv 0 σ B H2 ∧ (∀ i σ' G H', Pv i σ' G H' → Same B G ∧ Same G H') ∧
      (∀ (i : Nat) (d : PyData) σ' G H', ds[i]? = some d → Pv i σ' G H' → ∀ v G2 H3, Pub G H' G2 H3 → Dv K G2 v d →
        g v σ' H3 fun σ2 H4 => tb { D with nx := fun σ' H' => ∃ G, Pv (i + 1) σ' G H', ct := fun σ' H' => ∃ G, Pv (i + 1) σ' G H', bk := D.nx } σ2 H4) ∧
      (∀ σ' G H', Pv ds.length σ' G H' → D.nx σ' H')) : tFor wi g tb D σ H1 := gi H0 H1 e _ fun J B H2 pb r => by
  obtain ⟨Pv, h0, hs, ht, hd⟩ := h B H2 pb
  refine ⟨fun i m σ' H' => m = ds.length - i ∧ i ≤ ds.length ∧ ∃ G, Pv i σ' G H', ⟨ds.length, by simp, Nat.zero_le _, B, h0⟩, ?_⟩
  rintro i m σ' H' ⟨rfl, hi, G, pv⟩
  obtain ⟨s1, s2⟩ := hs i σ' G H' pv
  by_cases hlt : i < ds.length
  · refine .inr ⟨r.go i H' (s1.trans s2) hlt, fun σ' H' => ∃ G, Pv (i + 1) σ' G H', fun σ2 H2 ⟨G', p'⟩ => ⟨ds.length - (i + 1), by omega, rfl, hlt, G', p'⟩, fun x H'' hy => ?_⟩
    obtain ⟨d, G', hdd, p1, dx⟩ := r.yld i H' x H'' G s1 s2 hlt hy
    exact ht i d σ' G H' hdd pv x G' H'' p1 dx
  · have hn : i = ds.length := by omega
    subst hn
    exact .inl ⟨r.stop _ H' (s1.trans s2) (Nat.le_refl _), hd σ' G H' pv⟩
/-! ### a def over data: what it asks of its arguments, what it may give -/
def spD (K : PySem.W.Frag) (n : Nat) (Pre : List PyData → Prop) (R : List PyData → PyData → Prop) : Sp := fun vs H1 Q _ => vs.length = n ∧ ∃ H ds, Same H H1 ∧ DvA K H vs ds ∧ Pre ds ∧ ∀ d, R ds d → ∀ v G H2, Pub H H1 G H2 → Dv K G v d → Q v H2
def spF (K : PySem.W.Frag) (n : Nat) (Pre : List PyData → Prop) (f : List PyData → PyData) : Sp := spD K n Pre fun ds d => d = f ds
theorem gr_call {n : Nat} {Pre : List PyData → Prop} {R : List PyData → PyData → Prop} (ga : GA K tA σ H A ds) (hn : ds.length = n) (hp : Pre ds) : GR K (tCall (spD K n Pre R) [] E0 tA) σ H A (R ds) := fun H0 H1 e Q q => ga.to e fun vs G H2 p dv => by
  show spD K n Pre R (vs ++ []) H2 Q E0
  rw [List.append_nil]
  exact ⟨(DvA.len dv).trans hn, G, ds, p.gh, dv, hp, fun d r v G' H3 p2 dw => q d v G' H3 r (p.trans p2) dw⟩
theorem gd_call {n : Nat} {Pre : List PyData → Prop} {f : List PyData → PyData} (ga : GA K tA σ H A ds) (hn : ds.length = n) (hp : Pre ds) : GD K (tCall (spF K n Pre f) [] E0 tA) σ H A (f ds) := fun H0 H1 e Q q =>
  gr_call (R := fun ds d => d = f ds) ga hn hp H0 H1 e Q fun d v G H2 r p dv => by
    subst r
    exact q v G H2 p dv
/-- a def that is called by its name -/
structure Cal (P : Program) (w : World) (K : PySem.W.Frag) (mg : Str → Option Value) (base : Heap) (k : Nat) (x : Str) (sp : Sp) : Prop where
  ex : ∃ f fd ps, FnOk P w K mg base CX0 k f fd ps sp ∧ mg x = some (.ref f) ∧ PySem.W.keepIn K (.ref f) = true ∧ Binds K fd ps []
theorem Cal.mono {P : Program} {w : World} {K : PySem.W.Frag} {mg : Str → Option Value} {base : Heap} {j k : Nat} {x : Str} {sp : Sp} (c : Cal P w K mg base j x sp) (h : j ≤ k) : Cal P w K mg base k x sp := by
  obtain ⟨f, fd, ps, F, h1, h2, h3⟩ := c.ex
  exact ⟨f, fd, ps, F.mono h, h1, h2, h3⟩
theorem Cal.imp {P : Program} {w : World} {K : PySem.W.Frag} {mg : Str → Option Value} {base : Heap} {k : Nat} {x : Str} {sp sp' : Sp} (c : Cal P w K mg base k x sp) (h : ∀ vs H Q E, sp' vs H Q E → sp vs H Q E) : Cal P w K mg base k x sp' := by
  obtain ⟨f, fd, ps, F, h1, h2, h3⟩ := c.ex
  exact ⟨f, fd, ps, F.imp h, h1, h2, h3⟩
theorem pe_k {X : Cx} {k j : Nat} {x : Str} {sp : Sp} {p pos : Pos} {e : Expr} {es : List Expr} {t : TA} (c : Cal X.prog X.w X.K X.mg X.base k x sp) (hr : Room j X.A) (hk : k ≤ j) (ha : PA X (e :: es) t) (hg : Gl X x := by rfl)
    (hdb : (x == ("__debug__" : Str)) = false := by decide) (he : starEach (e :: es) X.env = (false, eval e X.env) :: starEach es X.env := by rfl) (hpl : (backTo pos (starEach es X.env)).any (·.1) = false := by rfl) :
    PE X (.Call (.Name x p) (e :: es) [] pos) (tCall sp [] E0 t) := by
  obtain ⟨f, fd, ps, F, hm, kp, b⟩ := c.ex
  exact pe_call F (hr.mono hk) hg hm kp b .nil pass0 ha hdb he hpl
theorem pe_k0 {X : Cx} {k j : Nat} {x : Str} {sp : Sp} {p pos : Pos} (c : Cal X.prog X.w X.K X.mg X.base k x sp) (hr : Room j X.A) (hk : k ≤ j) (hg : Gl X x := by rfl)
    (hdb : (x == ("__debug__" : Str)) = false := by decide) : PE X (.Call (.Name x p) [] [] pos) (tCall sp [] E0 tNil) := by
  obtain ⟨f, fd, ps, F, hm, kp, b⟩ := c.ex
  exact pe_call0 F (hr.mono hk) hg hm kp b .nil pass0 hdb
/-- from a def's promise to its name -/
theorem cal_mk {P : Program} {w : World} {K : PySem.W.Frag} {mg : Str → Option Value} {base : Heap} {k : Nat} {x y qual : Str} {st : Stmt} {f : Addr} {fd : FuncData} {ps : List Str} {sp : Sp} (F : Fun K y qual st f fd) (ok : FnOk P w K mg base CX0 k f fd ps sp) (hm : mg x = some (.ref f)) (b : Binds K fd ps []) : Cal P w K mg base k x sp := ⟨f, fd, ps, ok, hm, F.kp, b⟩
/-! ### blocks that end in a return -/
def GB (K : PySem.W.Frag) (ts : TS) (σ : L2.St) (H A : Hp) (R : PyData → Prop) : Prop := ∀ H0 H1, Pub H A H0 H1 → ∀ D : Ends, (∀ d v G H2, R d → Pub H0 H1 G H2 → Dv K G v d → D.rt v H2) → ts D σ H1
variable {R : PyData → Prop} {ts tr tx : TS}
theorem gb_ret (g : GD K t σ H A d) (r : R d) : GB K (tRet t) σ H A R := fun H0 H1 e D q => g.to e fun v G H2 p dv => q d v G H2 r p dv
theorem gb_retN (r : R .none) : GB K tRetN σ H A R := fun H0 H1 e D q => q .none .non H0 H1 r (.refl e.gh) .non
theorem GB.pub {G1 H0 : Hp} (g : GB K ts σ G G1 R) (e : Pub G G1 G2 H2) {D : Ends} (p : Pub H0 H1 G2 H2) (q : ∀ d v G H2, R d → Pub H0 H1 G H2 → Dv K G v d → D.rt v H2) : ts D σ H2 := g G2 H2 e D fun d v G' H3 r p2 dv => q d v G' H3 r (p.trans p2) dv
/-- if t: (a block that returns); rest -/
theorem gb_if {b : Bool} (g : GT tt σ H A b) (h1 : b = true → GB K ts σ H A R) (h2 : b = false → GB K tr σ H A R) : GB K (tSeq (tIfS tt ts tNext) tr) σ H A R := fun H0 H1 e D q => g.to e fun H2 e2 => by
  cases b with
  | true => exact iteT (h1 rfl H0 H2 (e.trans e2) _ fun d v G H3 r p2 dv => q d v G H3 r (e2.trans p2) dv)
  | false => exact iteF (h2 rfl H0 H2 (e.trans e2) _ fun d v G H3 r p2 dv => q d v G H3 r (e2.trans p2) dv)
theorem gb_ifE {b : Bool} (g : GT tt σ H A b) (h1 : b = true → GB K ts σ H A R) (h2 : b = false → GB K tr σ H A R) : GB K (tIfS tt ts tr) σ H A R := fun H0 H1 e D q => g.to e fun H2 e2 => by
  cases b with
  | true => exact iteT (h1 rfl H0 H2 (e.trans e2) _ fun d v G H3 r p2 dv => q d v G H3 r (e2.trans p2) dv)
  | false => exact iteF (h2 rfl H0 H2 (e.trans e2) _ fun d v G H3 r p2 dv => q d v G H3 r (e2.trans p2) dv)
theorem gb_set {i : Nat} (g : GD K t σ H A d) (h : ∀ v G H2, Pub H A G H2 → Dv K G v d → GB K tr (σ.set i (some v)) G H2 R) : GB K (tSeq (tAsg t (gName i)) tr) σ H A R := fun H0 H1 e D q => g.to e fun v G H2 p dv => h v G H2 (e.trans p) dv G H2 (.refl p.gh) D fun d v G' H3 r p2 dv => q d v G' H3 r (p.trans p2) dv
theorem gb_setR {i : Nat} {S : PyData → Prop} (g : GR K t σ H A S) (h : ∀ d v G H2, S d → Pub H A G H2 → Dv K G v d → GB K tr (σ.set i (some v)) G H2 R) : GB K (tSeq (tAsg t (gName i)) tr) σ H A R := fun H0 H1 e D q => g H0 H1 e _ fun d v G H2 s p dv => h d v G H2 s (e.trans p) dv G H2 (.refl p.gh) D fun d v G' H3 r p2 dv => q d v G' H3 r (p.trans p2) dv
theorem gb_setV {i : Nat} {v : V} (g : GV t σ H A v) (h : ∀ G H2, Pub H A G H2 → GB K tr (σ.set i (some v)) G H2 R) : GB K (tSeq (tAsg t (gName i)) tr) σ H A R := fun H0 H1 e D q => g.to e fun G H2 p => h G H2 (e.trans p) G H2 (.refl p.gh) D fun d v G' H3 r p2 dv => q d v G' H3 r (p.trans p2) dv
theorem gb_imp {S : PyData → Prop} (g : GB K ts σ H A R) (h : ∀ d, R d → S d) : GB K ts σ H A S := fun H0 H1 e D q => g H0 H1 e D fun d v G H2 r p dv => q d v G H2 (h d r) p dv
/-- a, b, c = e -/
theorem gb_tup2 {i j : Nat} (g : GD K t σ H A (.tuple [d1, d2])) (h : ∀ u v G H2, Pub H A G H2 → Dv K G u d1 → Dv K G v d2 → GB K tr ((σ.set i (some u)).set j (some v)) G H2 R) :
    GB K (tSeq (tAsg t (gTup K 2 (gCons (gName i) (gCons (gName j) gNil)))) tr) σ H A R := fun H0 H1 e D q => g.to e fun v G H2 p dv => by
  obtain ⟨a, xs, rfl, s, da⟩ := Dv.tup_inv dv
  obtain ⟨x, y, rfl, dx, dy⟩ := DvA.inv2 da
  exact ⟨a, _, rfl, seqT p.gh s, rfl, x, _, rfl, y, _, rfl, rfl, h x y G H2 (e.trans p) dx dy G H2 (.refl p.gh) D fun d v G' H3 r p2 dv => q d v G' H3 r (p.trans p2) dv⟩
theorem gb_tup3 {i j k : Nat} (g : GD K t σ H A (.tuple [d1, d2, d3])) (h : ∀ u v w G H2, Pub H A G H2 → Dv K G u d1 → Dv K G v d2 → Dv K G w d3 → GB K tr (((σ.set i (some u)).set j (some v)).set k (some w)) G H2 R) :
    GB K (tSeq (tAsg t (gTup K 3 (gCons (gName i) (gCons (gName j) (gCons (gName k) gNil))))) tr) σ H A R := fun H0 H1 e D q => g.to e fun v G H2 p dv => by
  obtain ⟨a, xs, rfl, s, da⟩ := Dv.tup_inv dv
  obtain ⟨x, y, z, rfl, dx, dy, dz⟩ := DvA.inv3 da
  exact ⟨a, _, rfl, seqT p.gh s, rfl, x, _, rfl, y, _, rfl, z, _, rfl, rfl, h x y z G H2 (e.trans p) dx dy dz G H2 (.refl p.gh) D fun d v G' H3 r p2 dv => q d v G' H3 r (p.trans p2) dv⟩
/-- a def's body that ends in a return always: its promise -/
theorem fn_gb {P : Program} {w : World} {K : PySem.W.Frag} {mg : Str → Option Value} {base : Heap} {x qual : Str} {st : Stmt} {f : Addr} {fd : FuncData} {N ps : List Str} {k n : Nat} {Pre : List PyData → Prop} {R : List PyData → PyData → Prop} (F : Fun K x qual st f fd) (S : FnScope N ps (defScope st)) (hn : n = ps.length)
    (hbody : ∀ (cdv : Value) (A : Around) (outer : List Env) (s : Shared) (H1 : Hp) (E : XK), Room k (A.deeper (envOfC qual (defScope st) s.heap.objs.size f cdv)) →
      ∃ t, PSs (cxOf CX0 P w K mg base N qual (defScope st) f cdv A outer s H1 E).nox (defBody st) t ∧ ∀ vs ds H A, Same H A → vs.length = n → DvA K H vs ds → Pre ds → GB K t (start N vs) H A (R ds)) : FnOk P w K mg base CX0 (k + 1) f fd ps (spD K n Pre R) := by
  refine F.ok S (fun vs H Q E h => by rw [h.1, hn]) (fun cdv A outer s H vs Q E hr h => ?_)
  obtain ⟨hl, H0, ds, e, dv, hp, q⟩ := h
  obtain ⟨t, h1, h2⟩ := hbody cdv A outer s H E hr
  exact ⟨t, h1, h2 vs ds H0 H e hl dv hp H0 H (.refl e) _ fun d v G H2 r p dv => q d r v G H2 p dv⟩
end
end DL
end
section
set_option Elab.async false
set_option linter.all false
set_option maxRecDepth 100000
set_option maxHeartbeats 2000000
namespace DL
open PySem PySem.Spec PyProof.Rows L2
section
variable {K : PySem.W.Frag} {A H H' H1 H2 H3 G G1 G2 : Hp} {σ : L2.St} {t ta tb tc te : TE} {tA : TA} {tt tu : TT} {d d1 d2 d3 : PyData} {ds es : List PyData}
/-- a name of the top that holds a known thing -/
theorem pe_gl {X : Cx} {x : Str} {v : V} {pos : Pos} (h : ∃ u, X.mg x = some u ∧ RelV v u) (hg : Gl X x := by rfl) (hd : (x == ("__debug__" : Str)) = false := by decide) : PE X (.Name x pos) (tC v) := by
  obtain ⟨u, h1, h2⟩ := h
  exact pe_glob hg h1 h2 hd
def rOrd : List V → Hp → VK → Prop := fun xs H Q => ∃ x, xs = [.str x] ∧ x.length = 1 ∧ Q (.int (x.cps.getD 0 0 : Nat)) H
theorem cr_ord {X : Cx} : CallR X (.builtin "ord") rOrd := call_ord
theorem gc_ord {x : Str} (h : x.length = 1) : GC K rOrd [.str x] (.int (x.cps.getD 0 0 : Nat)) := fun H H1 G H2 vs Q p dv q => by
  obtain ⟨v, rfl, d1⟩ := DvA.inv1 dv
  have e := Dv.str_inv d1
  subst e
  exact ⟨x, rfl, h, q _ G H2 p (.int _)⟩
/-! ### methods of one's own -/
structure Met (P : Program) (w : World) (K : PySem.W.Frag) (mg : Str → Option Value) (base : Heap) (CX : CXT) (k : Nat) (C : Addr) (m : Str) (sp : Sp) : Prop where
  ex : ∃ f fd ps, Cls K C ∧ Meth K C m f ∧ FnOk P w K mg base CX k f fd ps sp ∧ Binds K fd ps []
theorem pe_m {X : Cx} {k j : Nat} {C : Addr} {m : Str} {sp : Sp} {apos pos : Pos} {o e : Expr} {es : List Expr} {ta : TE} {t : TA} {pl : Sem Bool} (M : Met X.prog X.w X.K X.mg X.base CX0 k C m sp) (hr : Room j X.A) (hk : k ≤ j) (ho : PE X o ta) (ha : PA X (e :: es) t)
    (hst : starEach (e :: es) X.env = (false, eval e X.env) :: starEach es X.env := by rfl) (hpl : (backTo pos (starEach es X.env)).any (·.1) = false := by rfl)
    (ht : eval (.Call (.Attribute o m apos) (e :: es) [] pos) X.env = (do
      let ov ← eval o X.env
      standAt apos.atName
      let (f, first) ← holding [ov] (getMethod ov m pl)
      callWith pos f first (backTo pos (starEach (e :: es) X.env)) (backToKw pos (keywordEach [] X.env))) := by rfl) : PE X (.Call (.Attribute o m apos) (e :: es) [] pos) (tMeth C m sp [] E0 ta t) := by
  obtain ⟨f, fd, ps, hc, hm, F, b⟩ := M.ex
  exact pe_meth (pl := pl) ho hc hm F (hr.mono hk) b .nil pass0 ha hst hpl ht
theorem pe_mX {X : Cx} {k j : Nat} {C : Addr} {m : Str} {sp : Sp} {apos pos : Pos} {o e : Expr} {es : List Expr} {ta : TE} {t : TA} {pl : Sem Bool} {E : XK} (M : Met X.prog X.w X.K X.mg X.base (L2.CX X.prog X.w) k C m sp) (hr : Room j X.A) (hk : k ≤ j) (hx : Passes (L2.CX X.prog X.w) X E) (ho : PE X o ta) (ha : PA X (e :: es) t)
    (hst : starEach (e :: es) X.env = (false, eval e X.env) :: starEach es X.env := by rfl) (hpl : (backTo pos (starEach es X.env)).any (·.1) = false := by rfl)
    (ht : eval (.Call (.Attribute o m apos) (e :: es) [] pos) X.env = (do
      let ov ← eval o X.env
      standAt apos.atName
      let (f, first) ← holding [ov] (getMethod ov m pl)
      callWith pos f first (backTo pos (starEach (e :: es) X.env)) (backToKw pos (keywordEach [] X.env))) := by rfl) : PE X (.Call (.Attribute o m apos) (e :: es) [] pos) (tMeth C m sp [] E ta t) := by
  obtain ⟨f, fd, ps, hc, hm, F, b⟩ := M.ex
  exact pe_meth (pl := pl) ho hc hm F (hr.mono hk) b .nil hx ha hst hpl ht
theorem pe_m0 {X : Cx} {k j : Nat} {C : Addr} {m : Str} {sp : Sp} {apos pos : Pos} {o : Expr} {ta : TE} {pl : Sem Bool} (M : Met X.prog X.w X.K X.mg X.base CX0 k C m sp) (hr : Room j X.A) (hk : k ≤ j) (ho : PE X o ta)
    (ht : eval (.Call (.Attribute o m apos) [] [] pos) X.env = (do
      let ov ← eval o X.env
      standAt apos.atName
      let (f, first) ← holding [ov] (getMethod ov m pl)
      callWith pos f first (backTo pos (starEach [] X.env)) (backToKw pos (keywordEach [] X.env))) := by rfl) : PE X (.Call (.Attribute o m apos) [] [] pos) (tMeth C m sp [] E0 ta tNil) := by
  obtain ⟨f, fd, ps, hc, hm, F, b⟩ := M.ex
  exact pe_meth0 (pl := pl) ho hc hm F (hr.mono hk) b .nil pass0 ht
/-! ### own errors over own errors: LookError.__init__(self, ..) -/
theorem pe_clsinit {X : Cx} {B : Addr} {x : Str} {e : Expr} {es : List Expr} {ta : TA} {p1 p2 pos : Pos} {pl : Sem Bool} (hm : X.mg x = some (.ref B)) (ga : PySem.W.specialIn X.K (.ref B) "__getattribute__" = some (some (.builtin "type.__getattribute__"))) (rd : PySem.W.readsIn X.K B (.type "type") = true)
    (vV : PySem.W.findCls X.K (.ref B) (.type "type") "__init__" = some (.val (.builtin "ValueError.__init__"))) (ha : PA X (e :: es) ta) (hg : Gl X x := by rfl) (hd : (x == ("__debug__" : Str)) = false := by decide)
    (hc : eval (.Call (.Attribute (.Name x p1) "__init__" p2) (e :: es) [] pos) X.env = (do
      let ov ← eval (.Name x p1) X.env
      standAt p2.atName
      let (f, first) ← holding [ov] (getMethod ov "__init__" pl)
      callWith pos f first (backTo pos (starEach (e :: es) X.env)) (backToKw pos (keywordEach [] X.env))) := by rfl)
    (he : starEach (e :: es) X.env = (false, eval e X.env) :: starEach es X.env := by rfl) (hpl : (backTo pos (starEach es X.env)).any (·.1) = false := by rfl) :
    PE X (.Call (.Attribute (.Name x p1) "__init__" p2) (e :: es) [] pos) (tVeI X.K ta) := by
  refine ⟨fun pins s σ H Q I h => ?_⟩
  refine PySem.W.methodCall_KW (ld_glob I hg hm ?_ hd) hc
  refine PySem.W.method_cls I.kIn ga (PySem.W.cls_value I.kIn rd vV (by decide +kernel) ?_)
  refine PyProof.Rows.callWith_method1 (thn (ha.run pos pins _ σ H _ (I.tok _) h) fun us s1 ⟨vs, H1, I1, r1, a, C, ws, ev, hl, T, ea, q⟩ => ?_) he hpl
  subst ev
  cases r1 with
  | @cons _ u0 _ ur ra rr =>
    obtain rfl : u0 = Value.ref a := ra
    have hlen : ur.length ≤ sizeLine := by
      rw [← Paired.length rr, sizeLine_eq]
      omega
    exact oinit_ok T I1 ea hlen fun s' J => ⟨.non, H1, J, rfl, q⟩
end
end DL
namespace DL
open PySem PySem.Spec PyProof.Rows L2
section
variable {K : PySem.W.Frag} {A H : Hp} {σ : L2.St} {te : TE} {d : PyData}
def isS : PyData → Bool
  | .str _ => true
  | _ => false
def isI : PyData → Bool
  | .int _ => true
  | .bool _ => true
  | _ => false
def isB : PyData → Bool
  | .bool _ => true
  | _ => false
def isT : PyData → Bool
  | .tuple _ => true
  | _ => false
def isL : PyData → Bool
  | .list _ => true
  | _ => false
theorem kit_S : ∀ d, kitB (tyN d) "str" = some (isS d)
  | .none => (by decide +kernel : kitB "NoneType" "str" = some false)
  | .bool _ => (by decide +kernel : kitB "bool" "str" = some false)
  | .int _ => (by decide +kernel : kitB "int" "str" = some false)
  | .str _ => (by decide +kernel : kitB "str" "str" = some true)
  | .list _ => (by decide +kernel : kitB "list" "str" = some false)
  | .tuple _ => (by decide +kernel : kitB "tuple" "str" = some false)
  | .dict _ => (by decide +kernel : kitB "dict" "str" = some false)
theorem kit_I : ∀ d, kitB (tyN d) "int" = some (isI d)
  | .none => (by decide +kernel : kitB "NoneType" "int" = some false)
  | .bool _ => (by decide +kernel : kitB "bool" "int" = some true)
  | .int _ => (by decide +kernel : kitB "int" "int" = some true)
  | .str _ => (by decide +kernel : kitB "str" "int" = some false)
  | .list _ => (by decide +kernel : kitB "list" "int" = some false)
  | .tuple _ => (by decide +kernel : kitB "tuple" "int" = some false)
  | .dict _ => (by decide +kernel : kitB "dict" "int" = some false)
theorem kit_B : ∀ d, kitB (tyN d) "bool" = some (isB d)
  | .none => (by decide +kernel : kitB "NoneType" "bool" = some false)
  | .bool _ => (by decide +kernel : kitB "bool" "bool" = some true)
  | .int _ => (by decide +kernel : kitB "int" "bool" = some false)
  | .str _ => (by decide +kernel : kitB "str" "bool" = some false)
  | .list _ => (by decide +kernel : kitB "list" "bool" = some false)
  | .tuple _ => (by decide +kernel : kitB "tuple" "bool" = some false)
  | .dict _ => (by decide +kernel : kitB "dict" "bool" = some false)
theorem kit_T : ∀ d, kitB (tyN d) "tuple" = some (isT d)
  | .none => (by decide +kernel : kitB "NoneType" "tuple" = some false)
  | .bool _ => (by decide +kernel : kitB "bool" "tuple" = some false)
  | .int _ => (by decide +kernel : kitB "int" "tuple" = some false)
  | .str _ => (by decide +kernel : kitB "str" "tuple" = some false)
  | .list _ => (by decide +kernel : kitB "list" "tuple" = some false)
  | .tuple _ => (by decide +kernel : kitB "tuple" "tuple" = some true)
  | .dict _ => (by decide +kernel : kitB "dict" "tuple" = some false)
theorem kit_L : ∀ d, kitB (tyN d) "list" = some (isL d)
  | .none => (by decide +kernel : kitB "NoneType" "list" = some false)
  | .bool _ => (by decide +kernel : kitB "bool" "list" = some false)
  | .int _ => (by decide +kernel : kitB "int" "list" = some false)
  | .str _ => (by decide +kernel : kitB "str" "list" = some false)
  | .list _ => (by decide +kernel : kitB "list" "list" = some true)
  | .tuple _ => (by decide +kernel : kitB "tuple" "list" = some false)
  | .dict _ => (by decide +kernel : kitB "dict" "list" = some false)
theorem gd_isS (g : GD K te σ H A d) : GD K (tCB (rIsi K) (tCons te (tCons (tC (.ty "str")) tNil))) σ H A (.bool (isS d)) := gd_isi g (kit_S d)
theorem gd_isI (g : GD K te σ H A d) : GD K (tCB (rIsi K) (tCons te (tCons (tC (.ty "int")) tNil))) σ H A (.bool (isI d)) := gd_isi g (kit_I d)
theorem gd_isB (g : GD K te σ H A d) : GD K (tCB (rIsi K) (tCons te (tCons (tC (.ty "bool")) tNil))) σ H A (.bool (isB d)) := gd_isi g (kit_B d)
theorem gd_isT (g : GD K te σ H A d) : GD K (tCB (rIsi K) (tCons te (tCons (tC (.ty "tuple")) tNil))) σ H A (.bool (isT d)) := gd_isi g (kit_T d)
theorem gd_isL (g : GD K te σ H A d) : GD K (tCB (rIsi K) (tCons te (tCons (tC (.ty "list")) tNil))) σ H A (.bool (isL d)) := gd_isi g (kit_L d)
end
end DL
namespace DL
open PySem PySem.Spec PyProof.Rows L2
section
variable {K : PySem.W.Frag} {A H H' H1 H2 H3 G G1 G2 : Hp} {σ : L2.St} {t ta tb tc te : TE} {tA : TA} {tt tu : TT} {d d1 d2 d3 : PyData} {ds es : List PyData}
/-! ### an object of one's own, private -/
structure Own (H H1 G Hc : Hp) (p : Addr) (o : HO) : Prop where
  pub : Pub H H1 G Hc
  at_ : Hc p = some o
  pg : G p = none
  p1 : H1 p = none
theorem Own.new {Hc : Hp} {p : Addr} (P : Pub H H1 G Hc) (h : Hc p = none) (o : HO) : Own H H1 G (upd Hc p o) p o := ⟨P.newP h o, upd_same, P.gh.free h, P.hh.free h⟩
theorem Own.step {Hc H' G' : Hp} {p : Addr} {o : HO} (w : Own H H1 G Hc p o) (P : Pub G Hc G' H') : Own H H1 G' H' p o := ⟨w.pub.trans P, P.hh _ _ w.at_, P.pr _ w.pg (some_ne w.at_), w.p1⟩
theorem Own.test {Hc H' : Hp} {p : Addr} {o : HO} (w : Own H H1 G Hc p o) (e : Same Hc H') : Own H H1 G H' p o := ⟨⟨w.pub.hg, w.pub.gh.trans e, w.pub.hh.trans e, w.pub.pr⟩, e _ _ w.at_, w.pg, w.p1⟩
theorem Own.put {Hc : Hp} {p : Addr} {o : HO} (w : Own H H1 G Hc p o) (u : HO) : Own H H1 G (upd Hc p u) p u := ⟨w.pub.put w.p1 w.pg u, upd_same, w.pg, w.p1⟩
theorem Own.open_ {Hc : Hp} {p : Addr} {o : HO} (w : Own H H1 G Hc p o) : Pub H H1 (upd G p o) Hc := w.pub.open_ w.p1 w.pg w.at_
theorem Own.gh {Hc : Hp} {p : Addr} {o : HO} (w : Own H H1 G Hc p o) : Same G Hc := w.pub.gh
/-! ### statements, one after another -/
theorem s_set {i : Nat} {tr : TS} {D : Ends} (g : GD K t σ G H d) (s : Same G H) (k : ∀ v G' H', Pub G H G' H' → Dv K G' v d → tr D (σ.set i (some v)) H') : tSeq (tAsg t (gName i)) tr D σ H := g G H (.refl s) _ k
theorem s_setE {i : Nat} {D : Ends} (g : GD K t σ G H d) (s : Same G H) (k : ∀ v G' H', Pub G H G' H' → Dv K G' v d → D.nx (σ.set i (some v)) H') : tAsg t (gName i) D σ H := g G H (.refl s) _ k
theorem s_if {b : Bool} {ts tr : TS} {D : Ends} (g : GT tt σ G H b) (s : Same G H) (h1 : b = true → ∀ H', Same H H' → ts D σ H') (h2 : b = false → ∀ H', Same H H' → tr D σ H') : tIfS tt ts tr D σ H := g.to (.refl s) fun H' e => by
  cases b with
  | true => exact iteT (h1 rfl H' e.hh)
  | false => exact iteF (h2 rfl H' e.hh)
/-- o.append(e), the list o one's own -/
theorem s_append {i : Nat} {p : Addr} {xs : List V} {D : Ends} {H0 H1 : Hp} (w : Own H0 H1 G H p (.lst xs)) (ho : σ[i]? = some (some (.ref p))) (g : GD K te σ G H d) (z : xs.length < sizeLine) (k : ∀ v G' H', Own H0 H1 G' H' p (.lst (xs ++ [v])) → Same G G' → Dv K G' v d → D.nx σ H') :
    tDrop (tBM K "list" rAppend (tVar i) (tCons te tNil)) D σ H := ⟨.ref p, ho, .inl ⟨rfl, xs, SqL.of w.at_⟩, g.to (.refl w.gh) fun v G' H' P dv => ⟨p, xs, v, rfl, rfl, (w.step P).at_, z, k v G' _ ((w.step P).put _) P.hg dv⟩⟩
end
end DL
namespace DL
open PySem PySem.Spec PyProof.Rows L2
theorem s_mid {t u : TS} {D : Ends} {σ : L2.St} {H : Hp} (Mid : L2.St → Hp → Prop) (rest : ∀ σ' H', Mid σ' H' → u D σ' H') (h : (∀ σ' H', Mid σ' H' → u D σ' H') → t { D with nx := u D } σ H) : tSeq t u D σ H := h rest
end DL
namespace DL
open PySem PySem.Spec PyProof.Rows L2
section
variable {K : PySem.W.Frag} {H H1 G Hc : Hp} {p : Addr}
/-- while nothing is written, one's own list may be read as public -/
theorem Own.see {xs : List V} (w : Own H H1 G Hc p (.lst xs)) : Same (upd G p (.lst xs)) Hc := w.open_.gh
theorem Own.dv {xs : List V} {ds : List PyData} (w : Own H H1 G Hc p (.lst xs)) (h : DvA K G xs ds) : Dv K (upd G p (.lst xs)) (.ref p) (.list ds) := .lst (.inl upd_same) (h.to (same_new w.pg _))
theorem Own.dvi {ns : List Int} (w : Own H H1 G Hc p (.lst (ns.map V.int))) : Dv K (upd G p (.lst (ns.map V.int))) (.ref p) (.list (ns.map .int)) := w.dv DvA.ints
end
end DL
namespace DL
open PySem PySem.Spec PyProof.Rows L2
/-! ### data that are the same -/
noncomputable def sameD (a b : PyData) : Bool := @decide (a = b) (Classical.propDecidable _)
theorem sameD_iff {a b : PyData} : sameD a b = true ↔ a = b := by unfold sameD; exact @decide_eq_true_iff _ (Classical.propDecidable _)
theorem sameD_ne {a b : PyData} (h : a ≠ b) : sameD a b = false := by
  cases q : sameD a b with
  | false => rfl
  | true => exact absurd (sameD_iff.mp q) h
theorem sameD_eq {a b : PyData} (h : a = b) : sameD a b = true := sameD_iff.mpr h
theorem sameD_nb {a b : PyData} {c : Bool} (h : a ≠ b) (hc : c = false) : PyData.bool c = PyData.bool (sameD a b) := by rw [sameD_ne h, hc]
theorem sameD_yb {a b : PyData} {c : Bool} (h : a = b) (hc : c = true) : PyData.bool c = PyData.bool (sameD a b) := by rw [sameD_eq h, hc]
def DLt : Nat → PyData → Prop
  | 0, _ => False
  | n + 1, .list ds => ds.length ≤ 1000000 ∧ ∀ x ∈ ds, DLt n x
  | n + 1, .tuple ds => ds.length ≤ 1000000 ∧ ∀ x ∈ ds, DLt n x
  | _ + 1, .dict _ => False
  | _ + 1, _ => True
theorem DLt.mono {m : Nat} : ∀ {n : Nat} {d : PyData}, DLt n d → n ≤ m → DLt m d := by
  induction m with
  | zero =>
    intro n d h hn
    have : n = 0 := by omega
    subst this
    exact h
  | succ m ih =>
    intro n d h hn
    cases n with
    | zero => exact h.elim
    | succ n =>
      cases d with
      | list ds => exact ⟨h.1, fun x hx => ih (h.2 x hx) (by omega)⟩
      | tuple ds => exact ⟨h.1, fun x hx => ih (h.2 x hx) (by omega)⟩
      | dict _ => exact h
      | _ => trivial
theorem fn_none {P : Program} {w : World} {K : PySem.W.Frag} {mg : Str → Option Value} {base : Heap} {CX : CXT} {k : Nat} {f : Addr} {fd : FuncData} {ps : List Str} {sp : Sp} (no : ∀ vs H Q E, ¬ sp vs H Q E) : FnOk P w K mg base CX k f fd ps sp :=
  ⟨fun vs H Q E h => absurd h (no vs H Q E), fun A outer s H args us vs Q E _ _ _ _ h => absurd h (no vs H Q E)⟩
end DL
end
section
set_option Elab.async false
set_option linter.all false
set_option maxRecDepth 100000
set_option maxHeartbeats 4000000
namespace LW
open PySem PySem.Spec PyProof.Rows L2 DL
def topS (i : Nat) : Stmt := PySem.Challenge.pw_lookon_k07_needs_view_of_a_test.main.body.getD i (.Pass ⟨0, 0, 0, 0⟩)
/-- what is built in, and the numbers of the top -/
structure Bt (mg : Str → Option Value) : Prop where
  len : mg "len" = none
  isinstance : mg "isinstance" = none
  all : mg "all" = none
  ord : mg "ord" = none
  range : mg "range" = none
  sorted : mg "sorted" = none
  str : mg "str" = none
  int : mg "int" = none
  bool : mg "bool" = none
  tuple : mg "tuple" = none
  list : mg "list" = none
section
variable {P : Program} {w : World} {K : PySem.W.Frag} {mg : Str → Option Value} {base : Heap} {f : Addr} {fd : FuncData}
/-! ### names -/
def letB (s : Str) : Bool := sLe "a" s && sLe s "z"
def plainB (s : Str) : Bool := (sLe " " s && sLe s "~") && !decide (((s.cps.getD 0 0 : Nat) : Int) = 37)
def nameB (s : Str) : Bool := (decide (1 ≤ (s.length : Int)) && decide ((s.length : Int) ≤ 8)) && (sgs s).all letB
def plainT (s : Str) : Bool := decide ((s.length : Int) ≤ 20) && (sgs s).all plainB
def nameD : PyData → Bool
  | .str s => nameB s
  | _ => false
def plainD : PyData → Bool
  | .str s => plainT s
  | _ => false
def numD : PyData → Bool
  | .int i => decide (0 ≤ i)
  | _ => false
def strF (g : Str → Bool) : List PyData → PyData
  | [.str s] => .bool (g s)
  | _ => .none
def preS : List PyData → Prop := fun ds => ∃ s : Str, ds = [.str s]
def preC : List PyData → Prop := fun ds => ∃ s : Str, ds = [.str s] ∧ s.length = 1
def preV : List PyData → Prop := fun ds => ∃ d, ds = [d] ∧ ∀ s, d = .str s → s.length ≤ 1000000
def oneF (g : PyData → Bool) : List PyData → PyData
  | [d] => .bool (g d)
  | _ => .none
theorem sgs_one {x y : Str} (h : y ∈ sgs x) : y.length = 1 := by
  unfold sgs at h
  obtain ⟨c, _, rfl⟩ := List.mem_map.mp h
  rfl
theorem sgs_len (x : Str) : (sgs x).length = x.length := by simp [sgs, Str.length]
/-! ### draws -/
abbrev s_law_draws : Stmt := topS 29
theorem sc_law_draws : FnScope ["cell", "many", "rows", "rest", "k", "state"] ["cell", "many"] (defScope s_law_draws) := ⟨rfl, rfl, rfl, by decide +kernel, rfl, by decide +kernel, by decide +kernel⟩
def preDraws : List PyData → Prop := fun ds => ∃ c m : Int, ds = [.int c, .int m] ∧ 0 ≤ m ∧ m ≤ 100
def resDraws : List PyData → PyData → Prop := fun ds d => ∃ c m : Int, ds = [.int c, .int m] ∧ ∃ ns : List Int, d = .list (ns.map .int) ∧ (ns.length : Int) = m ∧ ∀ n ∈ ns, 0 ≤ n ∧ n < 1000
theorem ok_draws (T : Bt mg) (F : Fun K "_law_draws" "_law_draws" s_law_draws f fd) : FnOk P w K mg base CX0 1 f fd ["cell", "many"] (spD K 2 preDraws resDraws) := by
  refine F.ok sc_law_draws (fun vs H Q E h => h.1) (fun cdv A outer s H1 vs Q E hr h => ?_)
  obtain ⟨hl, H, ds, e, dv, ⟨c, m, rfl, hm0, hm⟩, q⟩ := h
  obtain ⟨v, u, rfl, d1, d2⟩ := DvA.inv2 dv
  have e1 := Dv.int_inv d1
  have e2 := Dv.int_inv d2
  subst e1 e2
  refine ⟨_, (pss_cons (ps_set (i := 2) sc_law_draws.nd rfl (Or.inl rfl) (pe_lst pa_nil))
      (pss_cons (ps_set (i := 3) sc_law_draws.nd rfl (Or.inl rfl) (pe_callTy cr_int (by rfl) T.int (by decide +kernel) (pa_cons (pv 0) pa_nil)))
      (pss_cons (ps_if (pt_cmpR op_ge (pv 3) (pe_op op_pow pe_int pe_int) (nomark _)) (pss_one (ps_for PassesOwn.never rfl (pi_range1 (by rfl) T.range (pa_cons (pv 1) pa_nil)) (pg_name (i := 4) sc_law_draws.nd rfl (Or.inl rfl)) (pss_one (ps_if (pt_cmpR op_gt (pv 3) pe_int (nomark _)) (pss_cons (ps_expr (pe_bm PySem.F.plainAttrs_list PySem.F.slot_list_append PySem.F.type_list_append mt_append (pv 2) (pa_cons (pe_op op_mod (pe_callTy cr_int (by rfl) T.int (by decide +kernel) (pa_cons (pv 3) pa_nil)) pe_int) pa_nil)))
      (pss_one (ps_set (i := 3) sc_law_draws.nd rfl (Or.inl rfl) (pe_op op_fdiv (pv 3) pe_int)))) pss_nil)))) pss_nil)
      (pss_cons (ps_set (i := 5) sc_law_draws.nd rfl (Or.inl rfl) (pe_op op_mod (pe_callTy cr_int (by rfl) T.int (by decide +kernel) (pa_cons (pe_op op_addA (pe_op op_mul (pe_callTy cr_int (by rfl) T.int (by decide +kernel) (pa_cons (pv 0) pa_nil)) pe_int) pe_int) pa_nil)) pe_int))
      (pss_cons (ps_for PassesOwn.never rfl (pi_range1 (by rfl) T.range (pa_cons (pv 1) pa_nil)) (pg_name (i := 4) sc_law_draws.nd rfl (Or.inl rfl)) (pss_cons (ps_set (i := 5) sc_law_draws.nd rfl (Or.inl rfl) (pe_op op_mod (pe_callTy cr_int (by rfl) T.int (by decide +kernel) (pa_cons (pe_op op_addA (pe_op op_addA (pe_op op_mul (pv 5) pe_int) (pe_op op_mul (pv 4) pe_int)) pe_int) pa_nil)) pe_int))
      (pss_one (ps_if (pt_cmpR op_ltA (pe_callB cr_len (by rfl) T.len PySem.boot_len (pa_cons (pv 2) pa_nil)) (pv 1) (nomark _)) (pss_one (ps_expr (pe_bm PySem.F.plainAttrs_list PySem.F.slot_list_append PySem.F.type_list_append mt_append (pv 2) (pa_cons (pe_op op_mod (pe_callTy cr_int (by rfl) T.int (by decide +kernel) (pa_cons (pe_op op_mod (pe_callTy cr_int (by rfl) T.int (by decide +kernel) (pa_cons (pe_op op_addA (pe_op op_mul (pv 5) pe_int) pe_int) pa_nil)) pe_int) pa_nil)) pe_int) pa_nil)))) pss_nil))))
      (pss_one (ps_ret (pv 2)))))))), ?_⟩
  refine ⟨Nat.zero_le _, fun p hp => ?_⟩
  have w0 := Own.new (Pub.refl e) hp (.lst [])
  refine s_set (K := K) (gd_cb (ga_cons (gd_var rfl (.int c)) ga_nil) gc_int) w0.gh fun v2 G2 H2 P2 dv2 => ?_
  have e2 := Dv.int_inv dv2
  subst e2
  have w1 := w0.step P2
  refine s_mid (fun σ' H' => ∃ (rest : Int) (ns : List Int) (x4 : Option V) (G3 : Hp), σ' = [some (.int c), some (.int m), some (.ref p), some (.int rest), x4, none] ∧ Own H H1 G3 H' p (.lst (ns.map V.int)) ∧ (ns.length : Int) ≤ m ∧ ∀ n ∈ ns, 0 ≤ n ∧ n < 1000) ?_ fun rest => ?_
  · rintro σ' H3 ⟨rest, ns, x4, G3, rfl, w3, hl3, hb3⟩
    refine s_set (K := K) (d := .int ((c * 48271 + 11) % 2147483647)) (gdo (gd_cb (ga_cons (gdo (gdo (gd_cb (ga_cons (gd_var rfl (.int c)) ga_nil) gc_int) gd_int (go_ic (.inr (by decide)))) gd_int go_addI) ga_nil) gc_int) gd_int (go_ic (by decide))) w3.gh fun v4 G4 H4 P4 dv4 => ?_
    have e4 := Dv.int_inv dv4
    subst e4
    have w4 := w3.step P4
    refine for_run (gi_rng1 (K := K) (ga_cons (gd_var rfl (.int m)) ga_nil) (by omega) (by omega)) (.refl w4.gh) fun B HB PB => ?_
    refine ⟨fun i σ' G H' => ∃ (st : Int) (ns : List Int) (x4 : Option V), σ' = [some (.int c), some (.int m), some (.ref p), some (.int rest), x4, some (.int st)] ∧ Own H H1 G H' p (.lst (ns.map V.int)) ∧ Same B G ∧ 0 ≤ st ∧ st < 2147483647 ∧ (ns.length : Int) ≤ m ∧ (i : Int) ≤ (ns.length : Int) ∧ ∀ n ∈ ns, 0 ≤ n ∧ n < 1000,
      ⟨_, ns, x4, rfl, w4.step PB, .refl _, Int.emod_nonneg _ (by decide), Int.emod_lt_of_pos _ (by decide), hl3, by omega, hb3⟩, fun i σ' G H' ⟨_, _, _, _, w, s, _⟩ => ⟨s, w.gh⟩, ?_, ?_⟩
    · rintro i d σ' G H' hd ⟨st, ns, x4, rfl, w, sB, hs0, hs1, hlm, hli, hb⟩ v G5 H5 P5 dv5
      have hi : i < m.toNat := by
        have z := (List.getElem?_eq_some_iff.mp hd).1
        rw [List.length_map, upto_len] at z
        exact z
      rw [List.getElem?_map, upto_get hi] at hd
      have hd' : d = .int (0 + (i : Int)) := (Option.some.inj hd).symm
      subst hd'
      have ev := Dv.int_inv dv5
      subst ev
      have w5 := w.step P5
      refine s_set (K := K) (d := .int ((st * 48271 + (0 + (i : Int)) * 69621 + 7) % 2147483647)) (gdo (gd_cb (ga_cons (gdo (gdo (gdo (gd_var rfl (.int st)) gd_int (go_ic (.inr (by decide)))) (gdo (gd_var rfl (.int (0 + (i : Int)))) gd_int (go_ic (.inr (by decide)))) go_addI) gd_int go_addI) ga_nil) gc_int) gd_int (go_ic (by decide))) w5.gh fun v6 G6 H6 P6 dv6 => ?_
      have e6 := Dv.int_inv dv6
      subst e6
      have w6 := w5.step P6
      have sB6 : Same B G6 := sB.trans (P5.hg.trans P6.hg)
      have b0 : 0 ≤ (st * 48271 + (0 + (i : Int)) * 69621 + 7) % 2147483647 := Int.emod_nonneg _ (by decide)
      have b1 : (st * 48271 + (0 + (i : Int)) * 69621 + 7) % 2147483647 < 2147483647 := Int.emod_lt_of_pos _ (by decide)
      refine s_if (gt_test (gdo (K := K) (gd_cb (ga_cons (gd_var rfl w6.dvi) ga_nil) gc_lenL) (gd_var rfl (.int m)) go_ltI)) w6.see (fun c7 H7 s7 => ?_) (fun c7 H7 s7 => ?_)
      · have w7 := w6.test s7
        have c8 := of_decide_eq_true c7
        rw [List.length_map] at c8
        refine s_append (K := K) (d := .int (((st * 48271 + (0 + (i : Int)) * 69621 + 7) % 2147483647 * 69621 + 5) % 2147483629 % 1000)) w7 rfl (gdo (gd_cb (ga_cons (gdo (gd_cb (ga_cons (gdo (gdo (gd_var rfl (.int _)) gd_int (go_ic (.inr (by decide)))) gd_int go_addI) ga_nil) gc_int) gd_int (go_ic (by decide))) ga_nil) gc_int) gd_int (go_ic (by decide))) (by rw [List.length_map, sizeLine_eq]; omega) fun v8 G8 H8 w8 s8 dv8 => ?_
        have e8 := Dv.int_inv dv8
        subst e8
        refine ⟨G8, _, ns ++ [_], some (.int _), rfl, by rw [List.map_append]; exact w8, sB6.trans s8, b0, b1, by rw [List.length_append, List.length_singleton]; omega, by rw [List.length_append, List.length_singleton]; omega, fun n hn => ?_⟩
        rcases List.mem_append.mp hn with h | h
        · exact hb n h
        · rw [List.mem_singleton.mp h]
          exact ⟨Int.emod_nonneg _ (by decide), Int.emod_lt_of_pos _ (by decide)⟩
      · have w7 := w6.test s7
        have c8 := of_decide_eq_false c7
        rw [List.length_map] at c8
        exact ⟨G6, _, ns, some (.int _), rfl, w7, sB6, b0, b1, hlm, by omega, hb⟩
    · rintro σ' G H' ⟨st, ns, x4, rfl, w, sB, hs0, hs1, hlm, hli, hb⟩
      rw [List.length_map, upto_len] at hli
      refine ⟨.ref p, rfl, q (.list (ns.map .int)) ⟨c, m, rfl, ns, rfl, by omega, hb⟩ _ _ _ w.open_ w.dvi⟩
  · refine s_if (b := decide ((10 : Int) ^ 18 ≤ c)) (gt_test (gdo (K := K) (gd_var rfl (.int c)) (gdo gd_int gd_int (go_ic ⟨by decide, by decide, by decide⟩)) go_b2)) w1.gh (fun c7 H7 s7 => ?_) (fun c7 H7 s7 => ?_)
    · have w7 := w1.test s7
      refine for_run (gi_rng1 (K := K) (ga_cons (gd_var rfl (.int m)) ga_nil) (by omega) (by omega)) (.refl w7.gh) fun B HB PB => ?_
      refine ⟨fun i σ' G H' => ∃ (r : Int) (ns : List Int) (x4 : Option V), σ' = [some (.int c), some (.int m), some (.ref p), some (.int r), x4, none] ∧ Own H H1 G H' p (.lst (ns.map V.int)) ∧ Same B G ∧ (ns.length : Int) ≤ (i : Int) ∧ ∀ n ∈ ns, 0 ≤ n ∧ n < 1000,
        ⟨c, [], none, rfl, w7.step PB, .refl _, Int.le_refl _, List.forall_mem_nil _⟩, fun i σ' G H' ⟨_, _, _, _, w, s, _⟩ => ⟨s, w.gh⟩, ?_, ?_⟩
      · rintro i d σ' G H' hd ⟨r, ns, x4, rfl, w, sB, hl, hb⟩ v G5 H5 P5 dv5
        have hi : i < m.toNat := by
          have z := (List.getElem?_eq_some_iff.mp hd).1
          rw [List.length_map, upto_len] at z
          exact z
        have w5 := w.step P5
        refine s_if (gt_test (gdo (K := K) (gd_var rfl (.int r)) gd_int go_b2)) w5.gh (fun c8 H8 s8 => ?_) (fun c8 H8 s8 => ?_)
        · have w8 := w5.test s8
          refine s_append (K := K) (d := .int (r % 1000)) w8 rfl (gdo (gd_cb (ga_cons (gd_var rfl (.int r)) ga_nil) gc_int) gd_int (go_ic (by decide))) (by rw [List.length_map, sizeLine_eq]; omega) fun v9 G9 H9 w9 s9 dv9 => ?_
          have e9 := Dv.int_inv dv9
          subst e9
          refine s_setE (K := K) (d := .int (r / 1000)) (gdo (gd_var rfl (.int r)) gd_int (go_ic ⟨by decide, by decide⟩)) w9.gh fun va Ga Ha Pa dva => ?_
          have ea := Dv.int_inv dva
          subst ea
          refine ⟨Ga, _, ns ++ [_], some v, rfl, by rw [List.map_append]; exact w9.step Pa, sB.trans (P5.hg.trans (s9.trans Pa.hg)), by rw [List.length_append, List.length_singleton]; omega, fun n hn => ?_⟩
          rcases List.mem_append.mp hn with h | h
          · exact hb n h
          · rw [List.mem_singleton.mp h]
            exact ⟨Int.emod_nonneg _ (by decide), Int.emod_lt_of_pos _ (by decide)⟩
        · exact ⟨G5, r, ns, some v, rfl, w5.test s8, sB.trans P5.hg, by omega, hb⟩
      · rintro σ' G H' ⟨r, ns, x4, rfl, w, sB, hl, hb⟩
        rw [List.length_map, upto_len] at hl
        exact rest _ _ ⟨r, ns, x4, G, rfl, w, by omega, hb⟩
    · exact rest _ _ ⟨c, [], none, G2, rfl, w1.test s7, by omega, List.forall_mem_nil _⟩
end
end LW
end
section
set_option Elab.async false
set_option linter.all false
set_option maxRecDepth 100000
set_option maxHeartbeats 2000000
namespace DL
open PySem PySem.Spec PyProof.Rows L2
section
variable {K : PySem.W.Frag} {A B C H H' H1 H2 H3 G G1 G2 : Hp} {σ : L2.St} {t ta tb tc te : TE} {tA : TA} {tt tu : TT} {d d1 d2 d3 : PyData} {ds es : List PyData}
/-! ### a comprehension over what is private: the actual heap C stays -/
structure RunsC (K : PySem.W.Frag) (J : It) (B C : Hp) (ds : List PyData) : Prop where
  go : ∀ i H, Same C H → i < ds.length → J.go i H
  stop : ∀ i H, Same C H → ds.length ≤ i → J.stop i H
  yld : ∀ i H x H' G, Same B G → Same G H → Same C H → i < ds.length → J.yld i H x H' → ∃ d G', ds[i]? = some d ∧ Pub G H G' H' ∧ Dv K G' x d
def GIc (K : PySem.W.Frag) (wi : TI) (σ : L2.St) (H A : Hp) (ds : List PyData) : Prop := ∀ H0 H1, Pub H A H0 H1 → ∀ R : It → Hp → Prop, (∀ J G H2, Pub H0 H1 G H2 → RunsC K J G H2 ds → R J H2) → wi σ H1 R
theorem lc_runC {α : Type} {wi : TI} {g : TG} {tt : TT} {te : TE} {vs : List Nat} {xs : List α} (em : α → PyData) (p : α → Bool) (f : α → PyData) (gi : GIc K wi σ H A (xs.map em)) (z : xs.length ≤ 1000000)
    (turn : ∀ (i : Nat) (a : α), xs[i]? = some a → ∀ v G H1, Pub H A G H1 → Dv K G v (em a) → ∀ Q : L2.St → Hp → Prop,
      (∀ σ2 G2 H2, Pub G H1 G2 H2 → wipe σ2 vs = wipe σ vs → GT tt σ2 G2 H2 (p a) → (p a = true → GD K te σ2 G2 H2 (f a)) → Q σ2 H2) → g v (wipe σ vs) H1 Q) :
    GD K (tLc wi g tt te vs) σ H A (.list ((xs.filter p).map f)) := fun H0 H1 e Q q => gi H0 H1 e _ fun J B H2 pb r D hD => by
  refine ⟨fun i m Hx => m = xs.length - i ∧ i ≤ xs.length ∧ ∃ G acc, Pub B H2 G Hx ∧ Hx D = some (.lst acc) ∧ G D = none ∧ DvA K G acc (((xs.take i).filter p).map f),
    ⟨xs.length, by simp, Nat.zero_le _, B, [], (Pub.refl pb.gh).newP hD _, upd_same, pb.gh.free hD, by rw [List.take_zero]; exact .nil⟩, ?_⟩
  rintro i m Hx ⟨rfl, hi, G, acc, pg, hacc, hGD, dacc⟩
  by_cases hlt : i < xs.length
  · have hlt' : i < (xs.map em).length := by rw [List.length_map]; exact hlt
    refine .inr ⟨r.go i Hx pg.hh hlt', fun H' => ∃ G acc, Pub B H2 G H' ∧ H' D = some (.lst acc) ∧ G D = none ∧ DvA K G acc (((xs.take (i + 1)).filter p).map f), fun H' ⟨G', acc', h⟩ => ⟨xs.length - (i + 1), by omega, rfl, hlt, G', acc', h⟩, fun x H' hy => ?_⟩
    obtain ⟨d, G', hd, p1, dx⟩ := r.yld i Hx x H' G pg.hg pg.gh pg.hh hlt' hy
    rw [List.getElem?_map] at hd
    obtain ⟨a, ha, rfl⟩ := Option.map_eq_some_iff.mp hd
    refine turn i a ha x G' H' (e.trans (pb.trans (pg.trans p1))) dx _ fun σ2 G2 H3 p2 hw gt gd => ⟨hw, ?_⟩
    have ht : xs.take (i + 1) = xs.take i ++ [a] := by rw [List.take_add_one, ha]; rfl
    have q12 := (pg.trans p1).trans p2
    have hD3 : H3 D = some (.lst acc) := p2.hh D _ (p1.hh D _ hacc)
    have hG2D : G2 D = none := (p1.trans p2).pr D hGD (some_ne hacc)
    refine gt.to (.refl p2.gh) fun H4 e4 => ?_
    have q4 : Pub B H2 G2 H4 := q12.trans e4
    cases hp : p a with
    | false =>
      refine iteF ⟨G2, acc, q4, e4.hh D _ hD3, hG2D, ?_⟩
      rw [ht, List.filter_append, List.filter_cons, hp, if_neg Bool.false_ne_true, List.filter_nil, List.append_nil]
      exact dacc.to (p1.hg.trans p2.hg)
    | true =>
      refine iteT ((gd hp).to e4 fun y G5 H5 p5 dy => ?_)
      have hD5 : H5 D = some (.lst acc) := p5.hh D _ (e4.hh D _ hD3)
      have hG5D : G5 D = none := p5.pr D hG2D (some_ne (e4.hh D _ hD3))
      have hl : acc.length ≤ xs.length := by
        rw [DvA.len dacc, List.length_map]
        exact Nat.le_trans (List.length_filter_le _ _) (by rw [List.length_take]; omega)
      have hs : acc.length < sizeLine := Nat.lt_of_le_of_lt (Nat.le_trans hl z) (by rw [sizeLine_eq]; decide)
      refine ⟨acc, hD5, hs, G5, acc ++ [y], (q4.trans p5).put hD hG5D _, upd_same, hG5D, ?_⟩
      rw [ht, List.filter_append, List.filter_cons, hp, if_pos rfl, List.filter_nil, List.map_append]
      exact DvA.app ((dacc.to (p1.hg.trans p2.hg)).to p5.hg) (.cons dy .nil)
  · have hn : i = xs.length := by omega
    subst hn
    rw [List.take_length] at dacc
    exact .inl ⟨r.stop _ Hx pg.hh (by rw [List.length_map]; exact Nat.le_refl _), q _ _ Hx (pb.trans (pg.open_ hD hGD hacc)) (.lst (.inl upd_same) (dacc.to (same_new hGD _)))⟩
/-- one name, no test -/
theorem gd_lcC {α : Type} {wi : TI} {k : Nat} {xs : List α} {em : α → PyData} {f : α → PyData} (gi : GIc K wi σ H A (xs.map em)) (z : xs.length ≤ 1000000)
    (he : ∀ (i : Nat) (a : α), xs[i]? = some a → ∀ v G H1, Pub H A G H1 → Dv K G v (em a) → GD K te ((wipe σ [k]).set k (some v)) G H1 (f a)) : GD K (tLc wi (gName k) tYes te [k]) σ H A (.list (xs.map f)) := by
  have e := lc_runC (te := te) (tt := tYes) (g := gName k) (vs := [k]) em (fun _ => true) f gi z fun i d hd v G H1 s dv Q q => q _ G H1 (.refl s.gh) wipe1 (fun H0 H1 e Q q => q H1 (.refl e.gh)) fun _ => he i d hd v G H1 s dv
  rw [List.filter_eq_self.mpr fun _ _ => rfl] at e
  exact e
/-- over a private row of numbers -/
theorem gi_rowP {b : Addr} {ns : List Int} (g : GV te σ H A (.ref b)) (e : A b = some (.lst (ns.map V.int))) : GIc K (iSeq K te) σ H A (ns.map PyData.int) := fun H0 H1 p R q => .inl (g.to p fun G H2 p2 => by
  have e2 := p2.hh _ _ (p.hh _ _ e)
  have sq : ∀ {Hx}, Same H2 Hx → SqL K Hx b (ns.map V.int) := fun s => SqL.of (s _ _ e2)
  refine ⟨b, rfl, ⟨_, SqL.of e2⟩, q _ G H2 p2 ⟨fun i Hx s hi => ?_, fun i Hx s hi => ?_, fun i Hx x H' G' s1 s2 s3 hi hy => ?_⟩⟩
  · rw [List.length_map] at hi
    exact ⟨_, .int ns[i], sq s, by rw [List.getElem?_map, List.getElem?_eq_getElem hi]; rfl⟩
  · rw [List.length_map] at hi
    exact ⟨_, sq s, by rw [List.length_map]; exact hi⟩
  · obtain ⟨rfl, hx⟩ := hy
    have h := hx _ (sq s3)
    rw [List.getElem?_map] at h
    obtain ⟨n, hn, rfl⟩ := Option.map_eq_some_iff.mp h
    exact ⟨.int n, G', by rw [List.getElem?_map, hn]; rfl, .refl s2, .int n⟩)
end
end DL
end
section
set_option Elab.async false
set_option linter.all false
set_option maxRecDepth 100000
set_option maxHeartbeats 4000000
/-! two rules that the hand layer lacks: t[::-1] of a tuple, xs.extend(t) by a tuple -/
namespace RR
open PySem PySem.Spec PyProof.Rows L2
section
variable {prog : Program} {w : World} {A : Around} {E : Value → Shared → Prop} {s : Shared}
theorem places_back (n : Nat) : Builtin.Slice.slicePlaces ((n : Int) - 1) (-1) (-1) = n := by
  unfold Builtin.Slice.slicePlaces
  rw [if_neg (by omega : ¬ ((-1 : Int) > 0))]
  have e : (-(-1) : Int) = 1 := by omega
  rw [e]
  by_cases h : ((n : Int) - 1) > -1
  · rw [if_pos h, Int.ediv_one]; omega
  · rw [if_neg h]; omega
theorem applied_back {sl : Addr} {t : Tok} {n : Nat} {Q : Int × Int × Nat → Shared → Prop} (hs : s.heap.IsSliceOf sl .none .none (.int (-1) t)) (h : Q ((n : Int) - 1, -1, n) s) :
    wpAny (model prog w) A (Builtin.Slice.sliceApplied (.ref sl) (pure (n : Int))) Q E s := by
  obtain ⟨o, ho, hc, hd⟩ := id hs
  unfold Builtin.Slice.sliceApplied Builtin.Slice.sliceFields
  refine wpAny_bind (wpAny_bind (wpAny_field ho hd (x := .none) rfl (wpAny_bind (wpAny_field ho hd (x := .none) rfl (wpAny_bind (wpAny_field ho hd (x := .int (-1) t) rfl (wpAny_pure ?_)))))))
  refine wpAny_bind (slicePart_int (i := -1) (u := t) ?_)
  show wpAny _ _ (if ((-1 : Int) == 0) = true then _ else _) _ _ s
  rw [if_neg (by decide : ¬ ((-1 : Int) == 0) = true)]
  refine wpAny_bind (slicePart_none (wpAny_bind (slicePart_none (wpAny_bind (wpAny_pure ?_)))))
  show wpAny _ _ (pure (((n : Int) - 1), (-1 : Int), Builtin.Slice.slicePlaces ((n : Int) - 1) (-1) (-1))) _ _ s
  rw [places_back]
  exact wpAny_pure h
theorem pick_back (xs : Array Value) : ((List.range xs.size).filterMap fun (m : Nat) => xs[(((xs.size : Int) - 1) + (m : Int) * (-1)).toNat]?).toArray = xs.toList.reverse.toArray := by
  congr 1
  have e : (fun (m : Nat) => xs[(((xs.size : Int) - 1) + (m : Int) * (-1)).toNat]?) = fun m => xs.toList[xs.size - 1 - m]? := by
    funext m
    have : (((xs.size : Int) - 1) + (m : Int) * (-1)).toNat = xs.size - 1 - m := by omega
    rw [this, Array.getElem?_toList]
  rw [e]
  apply List.ext_getElem?
  intro i
  have hl : xs.toList.length = xs.size := Array.length_toList
  generalize xs.toList = l at hl ⊢
  rw [← hl]
  clear e hl
  have h : ∀ (k : Nat), k ≤ l.length → (List.range k).filterMap (fun m => l[l.length - 1 - m]?) = l.reverse.take k := fun k => by
    induction k with
    | zero => intro _; rfl
    | succ k ih =>
      intro hk
      rw [List.range_succ, List.filterMap_append, ih (by omega), List.take_add_one, List.getElem?_reverse (by omega)]
      congr 1
  rw [h l.length (Nat.le_refl _), List.take_of_length_le (by rw [List.length_reverse]; exact Nat.le_refl _)]
theorem item_back {t sl : Addr} {items : Array Value} {k : Tok} {Q : Value → Shared → Prop} (ht : IsTup s.heap t items) (hs : s.heap.IsSliceOf sl .none .none (.int (-1) k))
    (h : Q (.ref s.heap.objs.size) { s with heap := s.heap.push { cls := .type "tuple", data := .seq items.toList.reverse.toArray } }) (hsz : items.size ≤ sizeLine) : wpAny (model prog w) A (getItem (.ref t) (.ref sl)) Q E s := by
  have room : sizeOk (.seq items.toList.reverse.toArray) := by
    show items.toList.reverse.toArray.size ≤ sizeLine
    rw [List.size_toArray, List.length_reverse, Array.length_toList]
    exact hsz
  obtain ⟨o, ho, hc, hd⟩ := id hs
  have ts : s.TypeIs (.ref sl) "slice" := ⟨o, ho, hc⟩
  unfold getItem
  try with_reducible refine wpAny_holding ?_
  first | refine wpAny_bind (wpAny_pure ?_) | skip
  refine wpAny_bind (wpAny_sequenceKey ht.typeIs (by decide) (wpAny_bind (wpAny_callSpecial?_slot (name := Str.ofString "__getitem__") ht.typeIs PyProof.Rows.slot_tuple_getitem
    (wpAny_call_entry PyProof.Rows.slot_tuple_getitem ht.typeIs entry_tuple_getitem ?_ (args_tuple_getitem _ _)))))
  show wpAny _ _ (Builtin.Tuple.tupleItemsOf (.ref t) >>= _) _ _ s
  refine wpAny_bind (tupleItemsOf_ ht (wpAny_bind (wpAny_typeOf ts ?_)))
  rw [if_pos (by decide)]
  refine wpAny_bind (applied_back (n := items.size) hs ?_)
  show wpAny _ _ (if (((items.size : Int) - 1) == 0 && (-1 : Int) == 1 && items.size == items.size) = true then _ else _) _ _ s
  have no : ¬ ((((items.size : Int) - 1) == 0 && (-1 : Int) == 1 && items.size == items.size) = true) := by
    rw [show ((-1 : Int) == 1) = false from rfl, Bool.and_false, Bool.false_and]
    exact Bool.false_ne_true
  rw [if_neg no, pick_back]
  first
    | exact wpAny_bind (m := Builtin.Tuple.tupleExact _) (wpAny_newObj_type (wpAny_pure ⟨_, rfl, wpAny_pure h⟩) room)
    | exact wpAny_bind (m := Builtin.Tuple.tupleExact _) (wpAny_newObj_type (wpAny_bind (wpAny_pure (wpAny_pure ⟨_, rfl, wpAny_pure h⟩))) room)
    | exact wpAny_bind (wpAny_bind (m := Builtin.Tuple.tupleExact _) (wpAny_newObj_type (wpAny_pure (wpAny_pure ⟨_, rfl, wpAny_pure h⟩)) room))
    | exact wpAny_bind (wpAny_bind (m := Builtin.Tuple.tupleExact _) (wpAny_newObj_type (wpAny_pure ⟨_, rfl, wpAny_pure h⟩) room))
end
/-- t[::-1] -/
def tRevT (K : PySem.W.Frag) (te : TE) : TE := fun σ H Q => te σ H fun x H1 => ∃ a xs, x = .ref a ∧ SqT K H1 a xs ∧ ∀ p ob, H1 p = none → ob.dict = none → Q (.ref p) (upd H1 p (.frz ob (.tup xs.reverse)))
theorem pe_revT {X : Cx} {e : Expr} {te : TE} {k : Nat} {p1 p2 p3 pos : Pos} (he : PE X e te) : PE X (.Subscript e (.Slice none none (some (.UnaryOp .USub (.Constant (.int 1) k p1) p2)) p3) pos) (tRevT X.K te) := by
  refine ⟨fun pins s σ H Q I h => Subscript_ (thn (he.run pins s σ H _ I h) fun v s1 ⟨x, H1, I1, r1, q1⟩ => ?_)⟩
  obtain ⟨a, xs, rfl, hx, q⟩ := q1
  cases r1
  have ho : PO X (some (.UnaryOp .USub (.Constant (.int 1) k p1) p2)) (tPart (tUn (rU fun i => .int (-i)) (tC (.int 1)))) := po_some (pe_un un_neg pe_int)
  refine wpAny_Slice (thn (po_none.run pins s1 σ H1 (fun o G => o = none ∧ G = H1) I1 ⟨rfl, rfl⟩) fun vl s2 ⟨l, H2, I2, pl, el, e2⟩ => thn (po_none.run pins s2 σ H2 (fun o G => o = none ∧ G = H2) I2 ⟨rfl, rfl⟩) fun vu s3 ⟨u, H3, I3, pu, eu, e3⟩ =>
    thn (ho.run pins s3 σ H3 (fun o G => o = some (-1) ∧ G = H3) I3 ⟨1, rfl, -1, rfl, rfl, rfl⟩) fun vs s4 ⟨o, H4, I4, ps, eo, e4⟩ => ?_)
  subst el e2 eu e3 eo e4
  cases pl
  cases pu
  obtain ⟨tk, rfl⟩ : ∃ tk, vs = .int (-1) tk := by cases ps; exact ⟨_, rfl⟩
  have I5 : L2.Inv X pins σ H4 { s4 with heap := s4.heap.push { cls := .type "slice", data := .fields #[.none, .none, .int (-1) tk] } } := I4.kept (t' := s4.toks) fun b ob q => Heap.get?_push_of_some _ q
  obtain ⟨its, r, ht, hz⟩ := I5.tuple hx
  have hlen := r.length
  show wpAny (model X.prog X.w) X.A (subscriptTail e (.Slice none none (some (.UnaryOp .USub (.Constant (.int 1) k p1) p2)) p3) (.ref a) (.ref s4.heap.objs.size)) (EP X pins σ Q) X.xe { s4 with heap := s4.heap.push { cls := .type "slice", data := .fields #[.none, .none, .int (-1) tk] } }
  refine tail_any (ops := [.ref a, .ref s4.heap.objs.size]) ht.typeIs (PyProof.Rows.slot_tuple_getitem.lookup) ?_ (by with_unfolding_all rfl)
  refine item_back ht (Heap.IsSliceOf.new _ _ _ _) ?_ (by rw [List.size_toArray]; omega)
  obtain ⟨ob, e, hd, hf, J⟩ := frz_new (n := 0) I5 r.reverse (by rw [List.length_reverse]; exact hz)
  rw [e] at J hd
  exact ⟨.ref _, _, J, rfl, q _ _ hf hd⟩
end RR
end
section
set_option Elab.async false
set_option linter.all false
set_option maxRecDepth 100000
set_option maxHeartbeats 4000000
namespace PySem.AutoSeq1
theorem ext_by_tup (l : Addr) (xs : Array Value) (m : Nat) (b : Addr) (ys : Array Value) (k : Nat) (db : Option Addr) (ob : Array (Option Value)) (door : ¬(!xs.isEmpty && Builtin.List.listTooLong (xs.size + ys.size)) = true) (z1 : xs.size ≤ sizeLine) (z2 : xs.size + ys.size ≤ sizeLine + 1) :
    Meets (Builtin.«list.extend» ⟨[.ref l, .ref b], []⟩) (fun _ R s => s.heap.get? l = some { cls := .type "list", dict := none, data := .seq xs m, slots := #[] } ∧ s.heap.get? b = some { cls := .type "tuple", dict := db, data := .seq ys k, slots := ob } ∧ R (.ok (.ret Value.none)) { s with heap := s.heap.update l (Obj.mapSeq fun x => x ++ ys), toks := s.toks }) := .of_wp fun prog w A R s q => by
  obtain ⟨h0, g0, d0, t0, o0⟩ := s
  obtain ⟨el, eb, q⟩ := q
  have i1 := idx_int
  have i2 := sub_tuple_tuple
  have i3 := sub_list_list
  have i4 := sub_tuple_list
  have i5 := sub_list_tuple
  have z3 : (xs ++ ys).size ≤ sizeLine + 1 := by rw [Array.size_append]; exact z2
  wp_walk using (wpAny_updateSeq el rfl (hz := z1) (_hz' := z3)), wpAny_loadPart' el, wpAny_loadPart' eb
  exact ⟨_, rfl, q⟩
end PySem.AutoSeq1
namespace RR
open PySem PySem.Spec PyProof.Rows L2
def rExtT (K : PySem.W.Frag) : V → List V → Hp → VK → Prop := fun x vs H Q => ∃ l b xs zs, x = .ref l ∧ vs = [.ref b] ∧ H l = some (.lst xs) ∧ SqT K H b zs ∧ xs.length + zs.length ≤ sizeLine ∧ Q .non (upd H l (.lst (xs ++ zs)))
theorem mt_extT {X : Cx} : MtM X "list.extend" (rExtT X.K) := by
  intro pins s σ H x vs v us Q I rx rv h
  obtain ⟨l, b, xs, zs, rfl, rfl, hl, hb, hz, q⟩ := h
  cases rx
  obtain ⟨u, rfl, ru⟩ := rv.one
  cases ru
  obtain ⟨z, its, n, r, hlen, e⟩ := I.lstM hl
  obtain ⟨ys, r2, ⟨⟨oc, od, oa, os⟩, eb, hc, k, hd⟩, hy⟩ := I.tuple hb
  cases hc
  cases hd
  have l2 := r2.length
  have room : its.toArray.size + ys.toArray.size ≤ sizeLine := by rw [List.size_toArray, List.size_toArray]; omega
  have door : ¬ (!its.toArray.isEmpty && Builtin.List.listTooLong (its.toArray.size + ys.toArray.size)) = true := by rw [notLongL room, Bool.and_false]; exact Bool.false_ne_true
  refine call_meets F.slot_list_extend ⟨_, e, rfl⟩ F.entry_list_extend (F.args_list_extend_2 _ _) (PySem.AutoSeq1.ext_by_tup l its.toArray n b ys.toArray k od os door (by rw [List.size_toArray]; omega) (by omega)) ⟨e, eb, ?_⟩
  refine ⟨.non, _, I.lset (its' := its ++ ys) hl e (by simp) (r.append r2) ?_, rfl, q⟩
  rw [List.length_append]; omega
end RR
end
section
set_option Elab.async false
set_option linter.all false
namespace LM
open PySem DL
/-! The trees of the law and of the program, plainly: nodes by their numbers. -/
structure Nd where
  txt : Bool
  name : Str
  marks : Str → Option Str
  kids : List Nat
  up : Option Nat
def d0 : Nd := ⟨false, "", fun _ => none, [], none⟩
def nd (ns : List Nd) (n : Nat) : Nd := ns.getD n d0
theorem nd_get {ns : List Nd} {n : Nat} (h : n < ns.length) : ns[n]? = some (nd ns n) := by
  unfold nd
  rw [List.getD_eq_getElem?_getD, List.getElem?_eq_getElem h]
  rfl
theorem nd_same {ns : List Nd} {n : Nat} {x : Nd} (h : n < ns.length) : nd (ns.set n x) n = x := by
  unfold nd
  rw [List.getD_eq_getElem?_getD, List.getElem?_set_self h]
  rfl
theorem nd_ne {ns : List Nd} {n m : Nat} {x : Nd} (h : m ≠ n) : nd (ns.set n x) m = nd ns m := by
  unfold nd
  rw [List.getD_eq_getElem?_getD, List.getElem?_set_ne (Ne.symm h), ← List.getD_eq_getElem?_getD]
theorem nd_app {ns : List Nd} {m : Nat} {x : Nd} (h : m < ns.length) : nd (ns ++ [x]) m = nd ns m := by
  unfold nd
  rw [List.getD_eq_getElem?_getD, List.getD_eq_getElem?_getD, List.getElem?_append_left h]
theorem nd_last {ns : List Nd} {x : Nd} : nd (ns ++ [x]) ns.length = x := by
  unfold nd
  rw [List.getD_eq_getElem?_getD, List.getElem?_append_right (Nat.le_refl _)]
  simp
def upD : Option Nat → PyData
  | none => .none
  | some p => .int (p : Int)
def ofN (n : Nat) : PyData := .int (n : Int)
def natsD (l : List Nat) : PyData := .list (l.map ofN)
def KS : List Str := ["k", "m", "z"]
def marksD (f : Str → Option Str) : PyData := .tuple ((KS.filterMap fun k => (f k).map fun v => (k, v)).map fun p => .tuple [.str p.1, .str p.2])
def shapeF : Nat → List Nd → Nat → PyData
  | 0, _, _ => .none
  | j + 1, ns, n => if (nd ns n).txt then .tuple [.str "t", ofN n, .str (nd ns n).name]
    else .tuple [.str "e", ofN n, .str (nd ns n).name, marksD (nd ns n).marks, .tuple ((nd ns n).kids.map (shapeF j ns))]
/-- the way from a node to its root -/
inductive Ch (ns : List Nd) : Nat → List Nat → Prop
  | top {n : Nat} : (nd ns n).up = none → Ch ns n [n]
  | step {n p : Nat} {l : List Nat} : (nd ns n).up = some p → Ch ns p l → Ch ns n (n :: l)
section
variable {ns ns' : List Nd} {n m p : Nat} {l l' : List Nat}
theorem Ch.uniq (h : Ch ns n l) : ∀ {l'}, Ch ns n l' → l = l' := by
  induction h with
  | top h =>
    intro l' h'
    cases h' with
    | top _ => rfl
    | step h2 _ => rw [h] at h2; cases h2
  | step h _ ih =>
    intro l' h'
    cases h' with
    | top h2 => rw [h] at h2; cases h2
    | step h2 c =>
      rw [h] at h2
      cases h2
      rw [ih c]
theorem Ch.self (h : Ch ns n l) : n ∈ l := by cases h <;> exact List.mem_cons_self
theorem Ch.pos (h : Ch ns n l) : 0 < l.length := by cases h <;> exact Nat.succ_pos _
theorem Ch.sub (h : Ch ns n l) : m ∈ l → ∃ l', Ch ns m l' ∧ l'.length ≤ l.length ∧ ∀ x, x ∈ l' → x ∈ l := by
  induction h with
  | top h =>
    intro hm
    rw [List.mem_singleton] at hm
    subst hm
    exact ⟨_, .top h, Nat.le_refl _, fun _ h => h⟩
  | step h c ih =>
    intro hm
    rcases List.mem_cons.mp hm with e | hm
    · subst e
      exact ⟨_, .step h c, Nat.le_refl _, fun _ h => h⟩
    · obtain ⟨l', a, b, d⟩ := ih hm
      exact ⟨l', a, Nat.le_succ_of_le b, fun x hx => List.mem_cons_of_mem _ (d x hx)⟩
theorem Ch.nodup (h : Ch ns n l) : l.Nodup := by
  induction h with
  | top h => simp
  | @step n p l h c ih =>
    refine List.nodup_cons.mpr ⟨fun hn => ?_, ih⟩
    obtain ⟨l', a, b, _⟩ := c.sub hn
    have e := a.uniq (.step h c)
    rw [e] at b
    simp at b
    omega
theorem Ch.congr (h : Ch ns n l) : (∀ m, m ∈ l → (nd ns' m).up = (nd ns m).up) → Ch ns' n l := by
  induction h with
  | top h => intro e; exact .top ((e _ List.mem_cons_self).trans h)
  | step h c ih => intro e; exact .step ((e _ List.mem_cons_self).trans h) (ih fun m hm => e m (List.mem_cons_of_mem _ hm))
end
theorem nodup_le : ∀ (N : Nat) (l : List Nat), l.Nodup → (∀ x, x ∈ l → x < N) → l.length ≤ N
  | 0, l, _, h => by
    cases l with
    | nil => exact Nat.le_refl _
    | cons x l => exact absurd (h x List.mem_cons_self) (Nat.not_lt_zero _)
  | N + 1, l, d, h => by
    by_cases hN : N ∈ l
    · have e := nodup_le N (l.erase N) (d.erase N) fun x hx => by
        have := (List.Nodup.mem_erase_iff d).mp hx
        have := h x this.2
        omega
      rw [List.length_erase_of_mem hN] at e
      omega
    · have e := nodup_le N l d fun x hx => by
        have := h x hx
        have : x ≠ N := fun z => hN (z ▸ hx)
        omega
      omega
structure Ok (ns : List Nd) : Prop where
  len : ns.length ≤ 60
  pos : 0 < ns.length
  top : (nd ns 0).up = none
  top2 : (nd ns 0).txt = false
  upk : ∀ n p, n < ns.length → (nd ns n).up = some p → p < ns.length ∧ n ∈ (nd ns p).kids
  kup : ∀ p k, p < ns.length → k ∈ (nd ns p).kids → k < ns.length ∧ (nd ns k).up = some p
  nod : ∀ p, p < ns.length → (nd ns p).kids.Nodup
  ch : ∀ n, n < ns.length → ∃ l, Ch ns n l
  mks : ∀ n, n < ns.length → ∀ k, k ∉ KS → (nd ns n).marks k = none
  tx : ∀ n, n < ns.length → (nd ns n).txt = true → (nd ns n).kids = []
section
variable {ns ns' : List Nd} {n m p : Nat} {l l' : List Nat}
theorem Ch.lt (o : Ok ns) (h : Ch ns n l) : n < ns.length → ∀ x, x ∈ l → x < ns.length := by
  induction h with
  | top h =>
    intro hn x hx
    rw [List.mem_singleton] at hx
    exact hx ▸ hn
  | step h c ih =>
    intro hn x hx
    rcases List.mem_cons.mp hx with e | hx
    · exact e ▸ hn
    · exact ih (o.upk _ _ hn h).1 x hx
theorem Ch.len (o : Ok ns) (h : Ch ns n l) (hn : n < ns.length) : l.length ≤ ns.length := nodup_le _ _ h.nodup (h.lt o hn)
theorem Ok.kidLe (o : Ok ns) (hp : p < ns.length) : (nd ns p).kids.length ≤ ns.length := nodup_le _ _ (o.nod p hp) fun x hx => (o.kup p x hp hx).1
/-- heights -/
def Ht (ns : List Nd) : Nat → Nat → Prop
  | 0, _ => False
  | j + 1, n => n < ns.length ∧ ∀ c, c ∈ (nd ns n).kids → Ht ns j c
theorem Ht.mono : ∀ {i j n : Nat}, Ht ns i n → i ≤ j → Ht ns j n
  | 0, _, _, h, _ => h.elim
  | i + 1, 0, _, _, e => by omega
  | i + 1, j + 1, n, h, e => ⟨h.1, fun c hc => Ht.mono (h.2 c hc) (by omega)⟩
theorem Ht.lt : ∀ {j n : Nat}, Ht ns j n → n < ns.length
  | 0, _, h => h.elim
  | _ + 1, _, h => h.1
theorem Ok.ht_at (o : Ok ns) : ∀ (j n : Nat) (l : List Nat), n < ns.length → Ch ns n l → l.length + j = 61 → Ht ns j n
  | 0, n, l, hn, c, e => by
    have := c.len o hn
    have := o.len
    omega
  | j + 1, n, l, hn, c, e => ⟨hn, fun k hk => by
    obtain ⟨a, b⟩ := o.kup n k hn hk
    exact Ok.ht_at o j k (k :: l) a (.step b c) (by rw [List.length_cons]; omega)⟩
theorem Ok.ht (o : Ok ns) (hn : n < ns.length) : Ht ns 60 n := by
  obtain ⟨l, c⟩ := o.ch n hn
  have h1 := c.pos
  have h2 := c.len o hn
  have h3 := o.len
  exact (o.ht_at (61 - l.length) n l hn c (by omega)).mono (by omega)
theorem shapeF_mono : ∀ {i j n : Nat}, Ht ns i n → i ≤ j → shapeF j ns n = shapeF i ns n
  | 0, _, _, h, _ => h.elim
  | i + 1, 0, _, _, e => by omega
  | i + 1, j + 1, n, h, e => by
    unfold shapeF
    have z : (nd ns n).kids.map (shapeF j ns) = (nd ns n).kids.map (shapeF i ns) := List.map_congr_left fun c hc => shapeF_mono (h.2 c hc) (by omega)
    rw [z]
def shape (ns : List Nd) (n : Nat) : PyData := shapeF 60 ns n
theorem Ok.shape (o : Ok ns) {j : Nat} (h : Ht ns j n) (hj : j ≤ 60) : shapeF j ns n = shape ns n := (shapeF_mono h hj).symm
theorem shape_congr (o : Ok ns) (same : ∀ m l, m < ns.length → Ch ns m l → n ∈ l → (nd ns' m).txt = (nd ns m).txt ∧ (nd ns' m).name = (nd ns m).name ∧ (nd ns' m).marks = (nd ns m).marks ∧ (nd ns' m).kids = (nd ns m).kids) :
    ∀ (j m : Nat) (l : List Nat), m < ns.length → Ch ns m l → n ∈ l → shapeF j ns' m = shapeF j ns m
  | 0, _, _, _, _, _ => rfl
  | j + 1, m, l, hm, c, hn => by
    obtain ⟨a, b, d, e⟩ := same m l hm c hn
    unfold shapeF
    rw [a, b, d, e]
    have z : (nd ns m).kids.map (shapeF j ns') = (nd ns m).kids.map (shapeF j ns) := List.map_congr_left fun k hk => by
      obtain ⟨h1, h2⟩ := o.kup m k hm hk
      exact shape_congr o same j k (k :: l) h1 (.step h2 c) (List.mem_cons_of_mem _ hn)
    rw [z]
/-- the way up, as numbers -/
def chainF : Nat → List Nd → Nat → List Nat
  | 0, _, n => [n]
  | j + 1, ns, n => n :: match (nd ns n).up with
    | none => []
    | some p => chainF j ns p
theorem Ch.chainF (h : Ch ns n l) : ∀ j, l.length ≤ j + 1 → chainF j ns n = l := by
  induction h with
  | top h =>
    intro j _
    cases j with
    | zero => rfl
    | succ j => unfold LM.chainF; rw [h]
  | step h c ih =>
    intro j hj
    cases j with
    | zero =>
      have := c.pos
      rw [List.length_cons] at hj
      omega
    | succ j =>
      unfold LM.chainF
      rw [h]
      show _ :: LM.chainF j ns _ = _
      rw [ih j (by rw [List.length_cons] at hj; omega)]
def above (ns : List Nd) (n : Nat) : List Nat := chainF 60 ns n
theorem Ok.above (o : Ok ns) (hn : n < ns.length) : Ch ns n (above ns n) := by
  obtain ⟨l, c⟩ := o.ch n hn
  have h := c.len o hn
  have := o.len
  have e := c.chainF 60 (by omega)
  unfold LM.above
  rw [e]
  exact c
end
end LM
end
section
set_option Elab.async false
set_option linter.all false
namespace LM
open PySem DL
/-! ### what the edits do -/
def setKids (ns : List Nd) (p : Nat) (ks : List Nat) : List Nd := ns.set p { nd ns p with kids := ks }
def setUp (ns : List Nd) (n : Nat) (u : Option Nat) : List Nd := ns.set n { nd ns n with up := u }
def setMarks (ns : List Nd) (n : Nat) (f : Str → Option Str) : List Nd := ns.set n { nd ns n with marks := f }
def setName (ns : List Nd) (n : Nat) (s : Str) : List Nd := ns.set n { nd ns n with name := s }
def mkNd (t : Bool) (s : Str) : Nd := ⟨t, s, fun _ => none, [], none⟩
def outN (ns : List Nd) (p n : Nat) : List Nd := setUp (setKids ns p ((nd ns p).kids.filter fun k => !decide (k = n))) n none
def insAt (ks : List Nat) (at_ n : Nat) : List Nat := ks.take at_ ++ [n] ++ ks.drop at_
def insN (ns : List Nd) (p n at_ : Nat) : List Nd := setUp (setKids ns p (insAt (nd ns p).kids at_ n)) n (some p)
def setM (f : Str → Option Str) (k : Str) (v : Option Str) : Str → Option Str := fun x => if x = k then v else f x
section
variable {ns : List Nd} {n m p a : Nat} {ks : List Nat} {u : Option Nat}
theorem len_setKids : (setKids ns p ks).length = ns.length := by simp [setKids]
theorem len_setUp : (setUp ns p u).length = ns.length := by simp [setUp]
theorem len_outN : (outN ns p n).length = ns.length := by simp [outN, len_setUp, len_setKids]
theorem len_insN : (insN ns p n a).length = ns.length := by simp [insN, len_setUp, len_setKids]
theorem kids_at (hp : p < ns.length) (m : Nat) : (nd (setUp (setKids ns p ks) n u) m).kids = if m = p then ks else (nd ns m).kids := by
  have h2 : p < (setKids ns p ks).length := by rw [len_setKids]; exact hp
  have h1 : (nd (setKids ns p ks) m).kids = if m = p then ks else (nd ns m).kids := by
    by_cases h : m = p
    · subst h
      rw [if_pos rfl]
      unfold setKids
      rw [nd_same hp]
    · rw [if_neg h]
      unfold setKids
      rw [nd_ne h]
  rw [← h1]
  unfold setUp
  by_cases h : m = n
  · subst h
    by_cases hm : m < (setKids ns p ks).length
    · rw [nd_same hm]
    · rw [List.set_eq_of_length_le (by omega)]
  · rw [nd_ne h]
theorem up_at (hn : n < ns.length) (m : Nat) : (nd (setUp (setKids ns p ks) n u) m).up = if m = n then u else (nd ns m).up := by
  have h2 : n < (setKids ns p ks).length := by rw [len_setKids]; exact hn
  unfold setUp
  by_cases h : m = n
  · subst h
    rw [nd_same h2, if_pos rfl]
  · rw [nd_ne h, if_neg h]
    unfold setKids
    by_cases hp : m = p
    · subst hp
      by_cases hm : m < ns.length
      · rw [nd_same hm]
      · rw [List.set_eq_of_length_le (by omega)]
    · rw [nd_ne hp]
theorem rest_at (m : Nat) : (nd (setUp (setKids ns p ks) n u) m).txt = (nd ns m).txt ∧ (nd (setUp (setKids ns p ks) n u) m).name = (nd ns m).name ∧ (nd (setUp (setKids ns p ks) n u) m).marks = (nd ns m).marks := by
  have h1 : (nd (setKids ns p ks) m).txt = (nd ns m).txt ∧ (nd (setKids ns p ks) m).name = (nd ns m).name ∧ (nd (setKids ns p ks) m).marks = (nd ns m).marks := by
    unfold setKids
    by_cases hp : m = p
    · subst hp
      by_cases hm : m < ns.length
      · rw [nd_same hm]; exact ⟨rfl, rfl, rfl⟩
      · rw [List.set_eq_of_length_le (by omega)]; exact ⟨rfl, rfl, rfl⟩
    · rw [nd_ne hp]; exact ⟨rfl, rfl, rfl⟩
  unfold setUp
  by_cases hp : m = n
  · subst hp
    by_cases hm : m < (setKids ns p ks).length
    · rw [nd_same hm]; exact h1
    · rw [List.set_eq_of_length_le (by omega)]; exact h1
  · rw [nd_ne hp]; exact h1
end
section
variable {ns : List Nd} {n m p a : Nat}
theorem Ok.ne_up (o : Ok ns) (hn : n < ns.length) (h : (nd ns n).up = some p) : p ≠ n := by
  rintro rfl
  obtain ⟨l, c⟩ := o.ch p hn
  cases c with
  | top z => rw [h] at z; cases z
  | step z c =>
    rw [h] at z
    cases z
    have e := c.uniq (.step h c)
    have e2 := congrArg List.length e
    simp at e2
theorem Ch.cut {l : List Nat} (hn : n < ns.length) (hp : p < ns.length) (ks : List Nat) (h : Ch ns m l) : ∃ l', Ch (setUp (setKids ns p ks) n none) m l' ∧ (n ∉ l → l' = l) := by
  induction h with
  | @top m h =>
    refine ⟨[m], .top ?_, fun _ => rfl⟩
    rw [up_at hn, h]
    split <;> rfl
  | @step m q l h c ih =>
    by_cases e : m = n
    · subst e
      exact ⟨[m], .top (by rw [up_at hn, if_pos rfl]), fun z => absurd List.mem_cons_self z⟩
    · obtain ⟨l', c', k⟩ := ih
      exact ⟨m :: l', .step (by rw [up_at hn, if_neg e]; exact h) c', fun z => by rw [k fun y => z (List.mem_cons_of_mem _ y)]⟩
theorem Ok.out (o : Ok ns) (hn : n < ns.length) (h : (nd ns n).up = some p) : Ok (outN ns p n) := by
  obtain ⟨hp, hk⟩ := o.upk n p hn h
  have hl : (outN ns p n).length = ns.length := len_outN
  have hK : ∀ m, (nd (outN ns p n) m).kids = if m = p then (nd ns p).kids.filter (fun k => !decide (k = n)) else (nd ns m).kids := fun m => kids_at hp m
  have hU : ∀ m, (nd (outN ns p n) m).up = if m = n then none else (nd ns m).up := fun m => up_at hn m
  have hR : ∀ m, (nd (outN ns p n) m).txt = (nd ns m).txt ∧ (nd (outN ns p n) m).name = (nd ns m).name ∧ (nd (outN ns p n) m).marks = (nd ns m).marks := fun m => rest_at m
  refine ⟨by rw [hl]; exact o.len, by rw [hl]; exact o.pos, ?_, by rw [(hR 0).1]; exact o.top2, ?_, ?_, ?_, ?_, ?_, ?_⟩
  · rw [hU]
    split
    · rfl
    · exact o.top
  · intro m q hm e
    rw [hl] at hm ⊢
    rw [hU] at e
    by_cases z : m = n
    · rw [if_pos z] at e; cases e
    · rw [if_neg z] at e
      obtain ⟨h1, h2⟩ := o.upk m q hm e
      refine ⟨h1, ?_⟩
      rw [hK]
      by_cases y : q = p
      · rw [if_pos y]
        subst y
        exact List.mem_filter.mpr ⟨h2, by simp [z]⟩
      · rw [if_neg y]; exact h2
  · intro q k hq hk'
    rw [hl] at hq ⊢
    rw [hK] at hk'
    rw [hU]
    by_cases y : q = p
    · rw [if_pos y] at hk'
      obtain ⟨h1, h2⟩ := List.mem_filter.mp hk'
      have h3 : k ≠ n := by simpa using h2
      rw [if_neg h3]
      subst y
      exact o.kup q k hp h1
    · rw [if_neg y] at hk'
      obtain ⟨h1, h2⟩ := o.kup q k hq hk'
      have h3 : k ≠ n := fun z => by
        subst z
        rw [h] at h2
        exact y (Option.some.inj h2).symm
      rw [if_neg h3]
      exact ⟨h1, h2⟩
  · intro q hq
    rw [hl] at hq
    rw [hK]
    split
    · exact (o.nod p hp).filter _
    · exact o.nod q hq
  · intro m hm
    rw [hl] at hm
    obtain ⟨l, c⟩ := o.ch m hm
    obtain ⟨l', c', _⟩ := c.cut hn hp ((nd ns p).kids.filter fun k => !decide (k = n))
    exact ⟨l', c'⟩
  · intro m hm k hk
    rw [hl] at hm
    rw [(hR m).2.2]
    exact o.mks m hm k hk
  · intro m hm ht
    rw [hl] at hm
    rw [(hR m).1] at ht
    have z := o.tx m hm ht
    rw [hK]
    by_cases y : m = p
    · rw [if_pos y]
      subst y
      rw [z]; rfl
    · rw [if_neg y]; exact z
theorem insAt_mem {ks : List Nat} {a n x : Nat} : x ∈ insAt ks a n ↔ x = n ∨ x ∈ ks := by
  unfold insAt
  have e : x ∈ ks ↔ x ∈ ks.take a ∨ x ∈ ks.drop a := by
    conv => lhs; rw [← List.take_append_drop a ks]
    exact List.mem_append
  rw [List.mem_append, List.mem_append, List.mem_singleton, e]
  constructor
  · rintro ((h | h) | h)
    · exact .inr (.inl h)
    · exact .inl h
    · exact .inr (.inr h)
  · rintro (h | h | h)
    · exact .inl (.inr h)
    · exact .inl (.inl h)
    · exact .inr h
theorem insAt_nodup {ks : List Nat} {a n : Nat} (h : ks.Nodup) (hn : n ∉ ks) : (insAt ks a n).Nodup := by
  have e : (insAt ks a n).Perm (n :: ks) := by
    unfold insAt
    rw [List.append_assoc]
    refine (List.perm_middle (l₁ := ks.take a) (l₂ := ks.drop a) (a := n)).trans ?_
    rw [List.take_append_drop]
  exact e.nodup_iff.mpr (List.nodup_cons.mpr ⟨hn, h⟩)
theorem Ch.ins {l lp : List Nat} (hn : n < ns.length) (hr : (nd ns n).up = none) (ks : List Nat) (cp : Ch ns p lp) (hnp : n ∉ lp) (h : Ch ns m l) : ∃ l', Ch (setUp (setKids ns p ks) n (some p)) m l' ∧ (n ∉ l → l' = l) := by
  have cp' : Ch (setUp (setKids ns p ks) n (some p)) p lp := cp.congr fun x hx => by
    rw [up_at hn, if_neg (fun (z : x = n) => hnp (z ▸ hx))]
  induction h with
  | @top m h =>
    by_cases e : m = n
    · subst e
      exact ⟨m :: lp, .step (by rw [up_at hn, if_pos rfl]) cp', fun z => absurd List.mem_cons_self z⟩
    · exact ⟨[m], .top (by rw [up_at hn, if_neg e]; exact h), fun _ => rfl⟩
  | @step m q l h c ih =>
    by_cases e : m = n
    · subst e
      rw [hr] at h
      cases h
    · obtain ⟨l', c', k⟩ := ih
      exact ⟨m :: l', .step (by rw [up_at hn, if_neg e]; exact h) c', fun z => by rw [k fun y => z (List.mem_cons_of_mem _ y)]⟩
theorem Ok.ins (o : Ok ns) (hn : n < ns.length) (hp : p < ns.length) (hr : (nd ns n).up = none) (h0 : n ≠ 0) (ht : (nd ns p).txt = false) (hna : n ∉ LM.above ns p) : Ok (insN ns p n a) := by
  have cp := o.above hp
  have hnp : p ≠ n := fun z => hna (z ▸ cp.self)
  have hnk : n ∉ (nd ns p).kids := fun z => by
    have := (o.kup p n hp z).2
    rw [hr] at this
    cases this
  have hl : (insN ns p n a).length = ns.length := len_insN
  have hK : ∀ m, (nd (insN ns p n a) m).kids = if m = p then insAt (nd ns p).kids a n else (nd ns m).kids := fun m => kids_at hp m
  have hU : ∀ m, (nd (insN ns p n a) m).up = if m = n then some p else (nd ns m).up := fun m => up_at hn m
  have hR : ∀ m, (nd (insN ns p n a) m).txt = (nd ns m).txt ∧ (nd (insN ns p n a) m).name = (nd ns m).name ∧ (nd (insN ns p n a) m).marks = (nd ns m).marks := fun m => rest_at m
  refine ⟨by rw [hl]; exact o.len, by rw [hl]; exact o.pos, ?_, by rw [(hR 0).1]; exact o.top2, ?_, ?_, ?_, ?_, ?_, ?_⟩
  · rw [hU, if_neg (Ne.symm h0)]
    exact o.top
  · intro m q hm e
    rw [hl] at hm ⊢
    rw [hU] at e
    by_cases z : m = n
    · rw [if_pos z] at e
      cases e
      refine ⟨hp, ?_⟩
      rw [hK, if_pos rfl]
      exact insAt_mem.mpr (.inl z)
    · rw [if_neg z] at e
      obtain ⟨h1, h2⟩ := o.upk m q hm e
      refine ⟨h1, ?_⟩
      rw [hK]
      by_cases y : q = p
      · rw [if_pos y]
        subst y
        exact insAt_mem.mpr (.inr h2)
      · rw [if_neg y]; exact h2
  · intro q k hq hk'
    rw [hl] at hq ⊢
    rw [hK] at hk'
    rw [hU]
    by_cases y : q = p
    · rw [if_pos y] at hk'
      subst y
      rcases insAt_mem.mp hk' with h1 | h1
      · rw [if_pos h1]
        exact ⟨h1 ▸ hn, rfl⟩
      · rw [if_neg (fun (z : k = n) => hnk (z ▸ h1))]
        exact o.kup q k hp h1
    · rw [if_neg y] at hk'
      obtain ⟨h1, h2⟩ := o.kup q k hq hk'
      have h3 : k ≠ n := fun z => by
        subst z
        rw [hr] at h2
        cases h2
      rw [if_neg h3]
      exact ⟨h1, h2⟩
  · intro q hq
    rw [hl] at hq
    rw [hK]
    split
    · exact insAt_nodup (o.nod p hp) hnk
    · exact o.nod q hq
  · intro m hm
    rw [hl] at hm
    obtain ⟨l, c⟩ := o.ch m hm
    obtain ⟨l', c', _⟩ := Ch.ins hn hr (insAt (nd ns p).kids a n) cp hna c
    exact ⟨l', c'⟩
  · intro m hm k hk
    rw [hl] at hm
    rw [(hR m).2.2]
    exact o.mks m hm k hk
  · intro m hm ht'
    rw [hl] at hm
    rw [(hR m).1] at ht'
    have z := o.tx m hm ht'
    have y : m ≠ p := fun y => by subst y; rw [ht] at ht'; cases ht'
    rw [hK, if_neg y]
    exact z
theorem Ok.make (o : Ok ns) (h : ns.length < 60) (t : Bool) (s : Str) : Ok (ns ++ [mkNd t s]) := by
  have hl : (ns ++ [mkNd t s]).length = ns.length + 1 := by simp
  have hc : ∀ {m}, m < (ns ++ [mkNd t s]).length → m < ns.length ∨ m = ns.length := fun hm => by rw [hl] at hm; omega
  have hA : ∀ {m}, m < ns.length → nd (ns ++ [mkNd t s]) m = nd ns m := fun hm => nd_app hm
  have hB : nd (ns ++ [mkNd t s]) ns.length = mkNd t s := nd_last
  refine ⟨by rw [hl]; omega, by rw [hl]; omega, by rw [hA o.pos]; exact o.top, by rw [hA o.pos]; exact o.top2, ?_, ?_, ?_, ?_, ?_, ?_⟩
  · intro m q hm e
    rcases hc hm with z | z
    · rw [hA z] at e
      obtain ⟨h1, h2⟩ := o.upk m q z e
      rw [hl, hA h1]
      exact ⟨by omega, h2⟩
    · subst z
      rw [hB] at e
      cases e
  · intro q k hq hk
    rcases hc hq with z | z
    · rw [hA z] at hk
      obtain ⟨h1, h2⟩ := o.kup q k z hk
      rw [hl, hA h1]
      exact ⟨by omega, h2⟩
    · subst z
      rw [hB] at hk
      cases hk
  · intro q hq
    rcases hc hq with z | z
    · rw [hA z]; exact o.nod q z
    · subst z; rw [hB]; exact List.nodup_nil
  · intro m hm
    rcases hc hm with z | z
    · obtain ⟨l, c⟩ := o.ch m z
      exact ⟨l, c.congr fun x hx => by rw [hA (c.lt o z x hx)]⟩
    · subst z
      exact ⟨_, .top (by rw [hB]; rfl)⟩
  · intro m hm k hk
    rcases hc hm with z | z
    · rw [hA z]; exact o.mks m z k hk
    · subst z; rw [hB]; rfl
  · intro m hm ht
    rcases hc hm with z | z
    · rw [hA z] at ht ⊢; exact o.tx m z ht
    · subst z; rw [hB]; rfl
/-- what leaves the tree alone -/
theorem Ok.same {ns' : List Nd} (o : Ok ns) (hl : ns'.length = ns.length) (h : ∀ m, (nd ns' m).txt = (nd ns m).txt ∧ (nd ns' m).kids = (nd ns m).kids ∧ (nd ns' m).up = (nd ns m).up) (hm : ∀ n, n < ns.length → ∀ k, k ∉ KS → (nd ns' n).marks k = none) : Ok ns' := by
  refine ⟨by rw [hl]; exact o.len, by rw [hl]; exact o.pos, by rw [(h 0).2.2]; exact o.top, by rw [(h 0).1]; exact o.top2, fun m q hq e => ?_, fun q k hq hk => ?_, fun q hq => ?_, fun m hm => ?_, fun m hm' k hk => ?_, fun m hm ht => ?_⟩
  · rw [hl] at hq ⊢
    rw [(h m).2.2] at e
    rw [(h q).2.1]
    exact o.upk m q hq e
  · rw [hl] at hq ⊢
    rw [(h q).2.1] at hk
    rw [(h k).2.2]
    exact o.kup q k hq hk
  · rw [hl] at hq
    rw [(h q).2.1]
    exact o.nod q hq
  · rw [hl] at hm
    obtain ⟨l, c⟩ := o.ch m hm
    exact ⟨l, c.congr fun x _ => (h x).2.2⟩
  · rw [hl] at hm'
    exact hm m hm' k hk
  · rw [hl] at hm
    rw [(h m).1] at ht
    rw [(h m).2.1]
    exact o.tx m hm ht
theorem Ok.mark (o : Ok ns) (f : Str → Option Str) (hf : ∀ k, k ∉ KS → f k = none) : Ok (setMarks ns n f) := by
  refine o.same (by simp [setMarks]) (fun m => ?_) fun m hm k hk => ?_
  · unfold setMarks
    by_cases e : m = n
    · subst e
      by_cases hm : m < ns.length
      · rw [nd_same hm]; exact ⟨rfl, rfl, rfl⟩
      · rw [List.set_eq_of_length_le (by omega)]; exact ⟨rfl, rfl, rfl⟩
    · rw [nd_ne e]; exact ⟨rfl, rfl, rfl⟩
  · unfold setMarks
    by_cases e : m = n
    · subst e
      rw [nd_same hm]; exact hf k hk
    · rw [nd_ne e]; exact o.mks m hm k hk
theorem Ok.write (o : Ok ns) (s : Str) : Ok (setName ns n s) := by
  refine o.same (by simp [setName]) (fun m => ?_) fun m hm k hk => ?_
  · unfold setName
    by_cases e : m = n
    · subst e
      by_cases hm : m < ns.length
      · rw [nd_same hm]; exact ⟨rfl, rfl, rfl⟩
      · rw [List.set_eq_of_length_le (by omega)]; exact ⟨rfl, rfl, rfl⟩
    · rw [nd_ne e]; exact ⟨rfl, rfl, rfl⟩
  · unfold setName
    by_cases e : m = n
    · subst e
      rw [nd_same hm]; exact o.mks m hm k hk
    · rw [nd_ne e]; exact o.mks m hm k hk
end
end LM
end
section
set_option Elab.async false
set_option linter.all false
namespace LM
open PySem DL
structure Wm where
  ns : List Nd
  told : List PyData
  downs : List PyData
inductive Deed
  | element (s : Str)
  | text (s : Str)
  | insert (p n : Nat) (b : Option Nat)
  | remove (n : Nat)
  | mark (n : Nat) (k v : Str)
  | unmark (n : Nat) (k : Str)
  | write (n : Nat) (t : Str)
def strO : Option Str → PyData
  | none => .none
  | some s => .str s
def deedD : Deed → PyData
  | .element s => .tuple [.str "element", .str s]
  | .text s => .tuple [.str "text", .str s]
  | .insert p n b => .tuple [.str "insert", ofN p, ofN n, upD b]
  | .remove n => .tuple [.str "remove", ofN n]
  | .mark n k v => .tuple [.str "mark", ofN n, .str k, .str v]
  | .unmark n k => .tuple [.str "unmark", ofN n, .str k]
  | .write n t => .tuple [.str "write", ofN n, .str t]
def belowF : Nat → List Nd → Nat → List Nat
  | 0, _, _ => []
  | j + 1, ns, n => n :: (nd ns n).kids.flatMap (belowF j ns)
def below (ns : List Nd) (n : Nat) : List Nat := belowF 60 ns n
def aboveD (ns : List Nd) (n : Nat) : PyData := .tuple ((above ns n).map ofN)
def belowO (ns : List Nd) : Option Nat → PyData
  | none => .list []
  | some b => natsD (below ns b)
def tell (w : Wm) (r : PyData) (n : Nat) (b : Option Nat) : Wm := { w with told := w.told ++ [.tuple [r, aboveD w.ns n]], downs := w.downs ++ [belowO w.ns b] }
def recOut (p n : Nat) : PyData := .tuple [.str "out", ofN p, ofN n]
def recPut (p : Nat) (s : PyData) (b : Option Nat) : PyData := .tuple [.str "put", ofN p, s, upD b]
def recMark (n : Nat) (k : Str) (v : Option Str) : PyData := .tuple [.str "mark", ofN n, .str k, strO v]
def recText (n : Nat) (t : Str) : PyData := .tuple [.str "text", ofN n, .str t]
def makeA (w : Wm) (t : Bool) (s : Str) : Wm × PyData := if 60 ≤ w.ns.length then (w, .str "full") else ({ w with ns := w.ns ++ [mkNd t s] }, ofN w.ns.length)
def outA (w : Wm) (n : Nat) : Wm := match (nd w.ns n).up with
  | none => w
  | some p => { tell w (recOut p n) p (some n) with ns := outN w.ns p n }
def nextA (ns : List Nd) (p n : Nat) : Option Nat := (nd ns p).kids[(nd ns p).kids.idxOf n + 1]?
def atA (ns : List Nd) (p : Nat) : Option Nat → Nat
  | none => (nd ns p).kids.length
  | some b => (nd ns p).kids.idxOf b
def badB (ns : List Nd) (p n : Nat) : Option Nat → Bool
  | none => false
  | some b => decide (b = n) || !decide ((nd ns b).up = some p)
def isAt (ns : List Nd) (p n : Nat) (b : Option Nat) : Bool := decide ((nd ns n).up = some p) && decide (nextA ns p n = b)
def insA (w : Wm) (p n : Nat) (b : Option Nat) : Wm :=
  let w1 := outA w n
  { tell w1 (recPut p (shape w1.ns n) b) p none with ns := insN w1.ns p n (atA w1.ns p b) }
def putA (w : Wm) (p n : Nat) (b : Option Nat) : Wm × PyData :=
  if (nd w.ns p).txt then (w, .str "not an element")
  else if n = 0 then (w, .str "top")
  else if n ∈ above w.ns p then (w, .str "inside itself")
  else if badB w.ns p n b then (w, .str "not a child")
  else if isAt w.ns p n b then (w, .none)
  else (insA w p n b, .none)
def markA (w : Wm) (n : Nat) (k : Str) (v : Option Str) : Wm × PyData :=
  if (nd w.ns n).txt then (w, .str "not an element")
  else if (nd w.ns n).marks k = v then (w, .none)
  else ({ tell w (recMark n k v) n none with ns := setMarks w.ns n (setM (nd w.ns n).marks k v) }, .none)
def writeA (w : Wm) (n : Nat) (t : Str) : Wm × PyData :=
  if (nd w.ns n).txt = false then (w, .str "not a text")
  else if (nd w.ns n).name = t then (w, .none)
  else ({ tell w (recText n t) n none with ns := setName w.ns n t }, .none)
def removeA (w : Wm) (n : Nat) : Wm × PyData := if (nd w.ns n).up = none then (w, .str "no parent") else (outA w n, .none)
def miss (N : Nat) : List (Option Nat) → Option Nat
  | [] => none
  | none :: r => miss N r
  | some n :: r => if n < N then miss N r else some n
def orMiss (w : Wm) (l : List (Option Nat)) (r : Wm × PyData) : Wm × PyData := match miss w.ns.length l with
  | some m => (w, .tuple [.str "no", ofN m])
  | none => r
def doA (w : Wm) : Deed → Wm × PyData
  | .element s => makeA w false s
  | .text s => makeA w true s
  | .insert p n b => orMiss w [some p, some n, b] (putA w p n b)
  | .remove n => orMiss w [some n] (removeA w n)
  | .mark n k v => orMiss w [some n] (markA w n k (some v))
  | .unmark n k => orMiss w [some n] (markA w n k none)
  | .write n t => orMiss w [some n] (writeA w n t)
def deedOk : Deed → Prop
  | .mark _ k _ => k ∈ KS
  | .unmark _ k => k ∈ KS
  | _ => True
section
variable {w : Wm} {ns : List Nd} {n m p a : Nat}
theorem Ok.upNot (o : Ok ns) (hn : n < ns.length) (h : (nd ns n).up = some p) : n ∉ LM.above ns p := by
  obtain ⟨hp, _⟩ := o.upk n p hn h
  have c := o.above hp
  have d := (Ch.step h c).nodup
  exact (List.nodup_cons.mp d).1
theorem out_above (o : Ok ns) (hn : n < ns.length) (h : (nd ns n).up = some p) : above (outN ns p n) p = above ns p := by
  obtain ⟨hp, _⟩ := o.upk n p hn h
  have o2 := o.out hn h
  have c2 := o2.above (n := p) (by rw [len_outN]; exact hp)
  have c := o.above hp
  obtain ⟨l', c', e⟩ := c.cut hn hp ((nd ns p).kids.filter fun k => !decide (k = n))
  rw [e (o.upNot hn h)] at c'
  exact c2.uniq c'
theorem out_up (hn : n < ns.length) : (nd (outN ns p n) n).up = none := by
  unfold outN
  rw [up_at hn, if_pos rfl]
theorem ins_above (o : Ok ns) (hn : n < ns.length) (hp : p < ns.length) (hr : (nd ns n).up = none) (h0 : n ≠ 0) (ht : (nd ns p).txt = false) (hna : n ∉ above ns p) : above (insN ns p n a) p = above ns p := by
  have o2 := o.ins (a := a) hn hp hr h0 ht hna
  have c2 := o2.above (n := p) (by rw [len_insN]; exact hp)
  have c := o.above hp
  obtain ⟨l', c', e⟩ := Ch.ins hn hr (insAt (nd ns p).kids a n) c hna c
  rw [e hna] at c'
  exact c2.uniq c'
theorem ins_shape (o : Ok ns) (hn : n < ns.length) (hp : p < ns.length) (hr : (nd ns n).up = none) (h0 : n ≠ 0) (hna : n ∉ above ns p) : shape (insN ns p n a) n = shape ns n := by
  refine shape_congr (n := n) o (fun m l hm c hn' => ?_) 60 n _ hn (.top hr) List.mem_cons_self
  unfold insN
  obtain ⟨h1, h2, h3⟩ := rest_at (ns := ns) (p := p) (ks := insAt (nd ns p).kids a n) (n := n) (u := some p) m
  refine ⟨h1, h2, h3, ?_⟩
  rw [kids_at hp, if_neg]
  rintro rfl
  have e := c.uniq (o.above hp)
  rw [e] at hn'
  exact hna hn'
theorem mem_above_out (o : Ok ns) (hn : n < ns.length) {q : Nat} (h : (nd ns n).up = some q) (hp : p < ns.length) (hna : n ∉ above ns p) : n ∉ above (outN ns q n) p := by
  obtain ⟨hq, _⟩ := o.upk n q hn h
  have o2 := o.out hn h
  have c2 := o2.above (n := p) (by rw [len_outN]; exact hp)
  have c := o.above hp
  obtain ⟨l', c', e⟩ := c.cut hn hq ((nd ns q).kids.filter fun k => !decide (k = n))
  rw [e hna] at c'
  rw [c2.uniq c']
  exact hna
theorem outA_len : (outA w n).ns.length = w.ns.length := by
  unfold outA
  split
  · rfl
  · exact len_outN
theorem outA_up (hn : n < w.ns.length) : (nd (outA w n).ns n).up = none := by
  unfold outA
  split
  · assumption
  · exact out_up hn
theorem outA_txt : (nd (outA w n).ns m).txt = (nd w.ns m).txt := by
  unfold outA
  split
  · rfl
  · exact (rest_at m).1
theorem outA_ok (o : Ok w.ns) (hn : n < w.ns.length) : Ok (outA w n).ns := by
  unfold outA
  split
  · exact o
  · rename_i h
    exact o.out hn h
theorem outA_not (o : Ok w.ns) (hn : n < w.ns.length) (hp : p < w.ns.length) (hna : n ∉ above w.ns p) : n ∉ above (outA w n).ns p := by
  unfold outA
  split
  · exact hna
  · rename_i h
    exact mem_above_out o hn h hp hna
theorem insA_ok {b : Option Nat} (o : Ok w.ns) (hn : n < w.ns.length) (hp : p < w.ns.length) (h0 : n ≠ 0) (ht : (nd w.ns p).txt = false) (hna : n ∉ above w.ns p) : Ok (insA w p n b).ns := by
  unfold insA
  exact (outA_ok o hn).ins (by rw [outA_len]; exact hn) (by rw [outA_len]; exact hp) (outA_up hn) h0 (by rw [outA_txt]; exact ht) (outA_not o hn hp hna)
theorem putA_ok {b : Option Nat} (o : Ok w.ns) (hn : n < w.ns.length) (hp : p < w.ns.length) : Ok (putA w p n b).1.ns := by
  unfold putA
  split
  · exact o
  split
  · exact o
  split
  · exact o
  split
  · exact o
  split
  · exact o
  · rename_i h1 h2 h3 h4 h5
    exact insA_ok o hn hp h2 (by simpa using h1) h3
theorem markA_ok {k : Str} {v : Option Str} (o : Ok w.ns) (hn : n < w.ns.length) (hk : k ∈ KS) : Ok (markA w n k v).1.ns := by
  unfold markA
  split
  · exact o
  split
  · exact o
  · refine o.mark _ fun x hx => ?_
    unfold setM
    rw [if_neg fun (z : x = k) => hx (z ▸ hk)]
    exact o.mks n hn x hx
theorem writeA_ok {t : Str} (o : Ok w.ns) : Ok (writeA w n t).1.ns := by
  unfold writeA
  split
  · exact o
  split
  · exact o
  · exact o.write t
theorem miss1 {N : Nat} (h : miss N [some n] = none) : n < N := by
  unfold miss at h
  split at h
  · assumption
  · cases h
theorem miss3 {N : Nat} {b : Option Nat} (h : miss N [some p, some n, b] = none) : p < N ∧ n < N ∧ ∀ x, b = some x → x < N := by
  unfold miss at h
  split at h
  · rename_i h1
    unfold miss at h
    split at h
    · rename_i h2
      refine ⟨h1, h2, fun x hx => ?_⟩
      subst hx
      exact miss1 h
    · cases h
  · cases h
theorem orMiss_ok {l : List (Option Nat)} {r : Wm × PyData} (o : Ok w.ns) (h : miss w.ns.length l = none → Ok r.1.ns) : Ok (orMiss w l r).1.ns := by
  unfold orMiss
  split
  · exact o
  · exact h (by assumption)
theorem doA_ok (o : Ok w.ns) {d : Deed} (hd : deedOk d) : Ok (doA w d).1.ns := by
  have mk : ∀ t s, Ok (makeA w t s).1.ns := fun t s => by
    unfold makeA
    split
    · exact o
    · exact o.make (by omega) t s
  cases d with
  | element s => exact mk _ _
  | text s => exact mk _ _
  | insert p n b => exact orMiss_ok o fun h => putA_ok o (miss3 h).2.1 (miss3 h).1
  | remove n =>
    refine orMiss_ok o fun h => ?_
    unfold removeA
    split
    · exact o
    · exact outA_ok o (miss1 h)
  | mark n k v => exact orMiss_ok o fun h => markA_ok o (miss1 h) hd
  | unmark n k => exact orMiss_ok o fun h => markA_ok o (miss1 h) hd
  | write n t => exact orMiss_ok o fun h => writeA_ok o
/-! what is told grows by two at most -/
theorem outA_told : (outA w n).told.length ≤ w.told.length + 1 ∧ (outA w n).downs.length ≤ w.downs.length + 1 := by
  unfold outA
  split
  · exact ⟨by omega, by omega⟩
  · unfold tell
    simp
theorem doA_told {d : Deed} : (doA w d).1.told.length ≤ w.told.length + 2 ∧ (doA w d).1.downs.length ≤ w.downs.length + 2 := by
  have base : w.told.length ≤ w.told.length + 2 ∧ w.downs.length ≤ w.downs.length + 2 := ⟨by omega, by omega⟩
  have mk : ∀ t s, (makeA w t s).1.told.length ≤ w.told.length + 2 ∧ (makeA w t s).1.downs.length ≤ w.downs.length + 2 := fun t s => by
    unfold makeA
    split <;> exact base
  have om : ∀ l (r : Wm × PyData), (r.1.told.length ≤ w.told.length + 2 ∧ r.1.downs.length ≤ w.downs.length + 2) → ((orMiss w l r).1.told.length ≤ w.told.length + 2 ∧ (orMiss w l r).1.downs.length ≤ w.downs.length + 2) := fun l r h => by
    unfold orMiss
    split
    · exact base
    · exact h
  have mkk : ∀ n k v, (markA w n k v).1.told.length ≤ w.told.length + 2 ∧ (markA w n k v).1.downs.length ≤ w.downs.length + 2 := fun n k v => by
    unfold markA tell
    split
    · exact base
    split
    · exact base
    · simp
  cases d with
  | element s => exact mk _ _
  | text s => exact mk _ _
  | insert p n b =>
    refine om _ _ ?_
    have h := outA_told (w := w) (n := n)
    unfold putA
    split
    · exact base
    split
    · exact base
    split
    · exact base
    split
    · exact base
    split
    · exact base
    · unfold insA tell
      simp
      omega
  | remove n =>
    refine om _ _ ?_
    have h := outA_told (w := w) (n := n)
    unfold removeA
    split
    · exact base
    · exact ⟨Nat.le_succ_of_le h.1, Nat.le_succ_of_le h.2⟩
  | mark n k v => exact om _ _ (mkk _ _ _)
  | unmark n k => exact om _ _ (mkk _ _ _)
  | write n t =>
    refine om _ _ ?_
    unfold writeA tell
    split
    · exact base
    split
    · exact base
    · simp
end
end LM
end
section
set_option Elab.async false
set_option linter.all false
set_option maxRecDepth 100000
set_option maxHeartbeats 2000000
namespace LM
open PySem PySem.Spec PyProof.Rows L2 DL
theorem op_eqK {X : Cx} (K : PySem.W.Frag) (hu : X.A.units + 64 < cLine) (hK : X.K = K := by rfl) : OpR X (compareOp .Eq) (rEqA K) := by subst hK; exact op_eqA hu
theorem op_neK {X : Cx} (K : PySem.W.Frag) (hu : X.A.units + 64 < cLine) (hK : X.K = K := by rfl) : OpR X (compareOp .NotEq) (rNeA K) := by subst hK; exact op_neA hu
theorem op_addK {X : Cx} (K : PySem.W.Frag) (hK : X.K = K := by rfl) : OpR X (binaryOp .Add) (rAddA K) := by subst hK; exact op_addA
theorem ix_seqK {X : Cx} (K : PySem.W.Frag) (hK : X.K = K := by rfl) : IxR X (rIx K) := by subst hK; exact ix_seq
theorem s_ret {K : PySem.W.Frag} {H G : Hp} {σ : L2.St} {t : TE} {d : PyData} {D : Ends} (g : GD K t σ G H d) (s : Same G H) (k : ∀ v G' H', Pub G H G' H' → Dv K G' v d → D.rt v H') : tRet t D σ H := g G H (.refl s) _ k
theorem s_ifr {K : PySem.W.Frag} {H G : Hp} {σ : L2.St} {tt : TT} {b : Bool} {ts tr : TS} {D : Ends} (g : GT tt σ G H b) (s : Same G H) (h1 : b = true → ∀ H', Same H H' → ts { D with nx := tr D } σ H') (h2 : b = false → ∀ H', Same H H' → tr D σ H') : tSeq (tIfS tt ts tNext) tr D σ H := s_if g s h1 h2
/-! ### the step of one thing: S its own addresses -/
structure Step (S : Addr → Prop) (H H1 : Hp) (S' : Addr → Prop) (G H2 : Hp) : Prop where
  hg : Same H G
  gh : Same G H2
  hh : ∀ b o, ¬ S b → H1 b = some o → H2 b = some o
  pr : ∀ b, H b = none → H1 b ≠ none → G b = none
  th : ∀ b, H1 b ≠ none → H2 b ≠ none
  nw : ∀ b, S' b → S b ∨ H1 b = none
  sb : ∀ b, S b → S' b
section
variable {K : PySem.W.Frag} {S S' S'' T T' : Addr → Prop} {A A2 H H1 H2 H3 G G2 : Hp}
theorem Step.of_pub (p : Pub H H1 G H2) : Step S H H1 S G H2 := ⟨p.hg, p.gh, fun b o _ h => p.hh b o h, p.pr, fun b h => there_of p.hh h, fun b h => .inl h, fun b h => h⟩
theorem Step.trans (p : Step S H H1 S' G H2) (q : Step S' G H2 S'' G2 H3) : Step S H H1 S'' G2 H3 :=
  ⟨p.hg.trans q.hg, q.gh, fun b o hS h => q.hh b o (fun z => (p.nw b z).elim hS fun e => by rw [e] at h; cases h) (p.hh b o hS h), fun b h h1 => q.pr b (p.pr b h h1) (p.th b h1), fun b h => q.th b (p.th b h),
    fun b h => (q.nw b h).elim (p.nw b) fun e => .inr (Classical.byContradiction fun z => p.th b z e), fun b h => q.sb b (p.sb b h)⟩
theorem Step.pub (p : Step S H H1 S' G H2) (q : Pub G H2 G2 H3) : Step S H H1 S' G2 H3 := p.trans (.of_pub q)
/-- a write to one's own -/
theorem Step.write {a : Addr} (e : Same H H1) (hS : S a) (h : H a = none) (o : HO) : Step S H H1 S H (upd H1 a o) :=
  ⟨.refl _, same_upd2 e a h o, fun b u hb q => by rw [upd_ne (fun (z : b = a) => hb (z ▸ hS))]; exact q, fun b h _ => h, fun b hb => by
    by_cases z : b = a
    · subst z; rw [upd_same]; exact fun y => nomatch y
    · rw [upd_ne z]; exact hb, fun b h => .inl h, fun b h => h⟩
theorem Step.refl (e : Same H H1) : Step S H H1 S H H1 := .of_pub (.refl e)
/-! ### rows -/
def LR {α : Type} (R : V → α → Prop) (xs : List V) (as : List α) : Prop := xs.length = as.length ∧ ∀ (i : Nat) (x : α), as[i]? = some x → ∃ v, xs[i]? = some v ∧ R v x
theorem LR.imp {α : Type} {R R' : V → α → Prop} {xs : List V} {as : List α} (h : LR R xs as) (e : ∀ v x, R v x → R' v x) : LR R' xs as := ⟨h.1, fun i x hx => let ⟨v, a, b⟩ := h.2 i x hx; ⟨v, a, e v x b⟩⟩
theorem LR.set {α : Type} {R : V → α → Prop} {xs : List V} {as : List α} {n : Nat} {v : V} {x : α} (h : LR R xs as) (r : R v x) : LR R (xs.set n v) (as.set n x) := by
  refine ⟨by rw [List.length_set, List.length_set]; exact h.1, fun i y hy => ?_⟩
  by_cases e : n = i
  · subst e
    have hn : n < as.length := by
      have := (List.getElem?_eq_some_iff.mp hy).1
      rwa [List.length_set] at this
    rw [List.getElem?_set_self hn] at hy
    cases hy
    exact ⟨v, List.getElem?_set_self (by rw [h.1]; exact hn), r⟩
  · rw [List.getElem?_set_ne e] at hy
    rw [List.getElem?_set_ne e]
    exact h.2 i y hy
theorem LR.keep {α : Type} {R : V → α → Prop} {xs : List V} {as : List α} {n : Nat} {x y : α} (h : LR R xs as) (hx : as[n]? = some x) (r : ∀ v, R v x → R v y) : LR R xs (as.set n y) := by
  refine ⟨by rw [List.length_set]; exact h.1, fun i z hz => ?_⟩
  by_cases e : n = i
  · subst e
    have hn : n < as.length := (List.getElem?_eq_some_iff.mp hx).1
    rw [List.getElem?_set_self hn] at hz
    cases hz
    obtain ⟨v, a, b⟩ := h.2 n x hx
    exact ⟨v, a, r v b⟩
  · rw [List.getElem?_set_ne e] at hz
    exact h.2 i z hz
theorem LR.app {α : Type} {R : V → α → Prop} {xs : List V} {as : List α} {v : V} {x : α} (h : LR R xs as) (r : R v x) : LR R (xs ++ [v]) (as ++ [x]) := by
  refine ⟨by rw [List.length_append, List.length_append, h.1]; rfl, fun i y hy => ?_⟩
  by_cases e : i < as.length
  · rw [List.getElem?_append_left e] at hy
    rw [List.getElem?_append_left (by rw [h.1]; exact e)]
    exact h.2 i y hy
  · rw [List.getElem?_append_right (by omega)] at hy
    rw [List.getElem?_append_right (by rw [h.1]; omega), h.1]
    have z : i - as.length = 0 := by
      have := (List.getElem?_eq_some_iff.mp hy).1
      simp at this
      omega
    rw [z] at hy ⊢
    cases hy
    exact ⟨v, rfl, r⟩
/-! ### dicts of marks -/
def MkK (kvs : List (Key × V)) (f : Str → Option Str) : Prop := (kvs.map (·.1)).Nodup ∧ (∀ k : Str, valV kvs (.inr k) = (f k).map V.str) ∧ ∀ e, e ∈ kvs → ∃ k, k ∈ KS ∧ e.1 = .inr k
def MkD (H : Hp) (a : Addr) (f : Str → Option Str) : Prop := ∃ kvs, H a = some (.dK kvs) ∧ MkK kvs f
theorem MkD.to {a : Addr} {f : Str → Option Str} (h : MkD H a f) (e : Same H G) : MkD G a f := let ⟨kvs, a, b⟩ := h; ⟨kvs, e _ _ a, b⟩
/-! ### the law's tables -/
def kindS (t : Bool) : Str := if t then "t" else "e"
def colR (K : PySem.W.Frag) (H : Hp) : Nat → V → Nd → Prop
  | 0, v, x => Dv K H v (.str (kindS x.txt))
  | 1, v, x => Dv K H v (.str x.name)
  | 2, v, x => ∃ a, v = .ref a ∧ MkD H a x.marks
  | 3, v, x => Dv K H v (natsD x.kids)
  | _, v, x => Dv K H v (upD x.up)
def colD : Nat → Nd → PyData
  | 0, x => .str (kindS x.txt)
  | 1, x => .str x.name
  | 3, x => natsD x.kids
  | _, x => upD x.up
theorem colR_D {i : Nat} {v : V} {x : Nd} (h : colR K H i v x) (hi : i ≠ 2) : Dv K H v (colD i x) := by
  match i, hi, h with
  | 0, _, h => exact h
  | 1, _, h => exact h
  | 3, _, h => exact h
  | _ + 4, _, h => exact h
theorem colR.to {i : Nat} {v : V} {x : Nd} (h : colR K H i v x) (e : Same H G) : colR K G i v x := by
  match i, h with
  | 0, h => exact Dv.to h e
  | 1, h => exact Dv.to h e
  | 2, ⟨a, z, h⟩ => exact ⟨a, z, h.to e⟩
  | 3, h => exact Dv.to h e
  | _ + 4, h => exact Dv.to h e
abbrev wdk (fl : Nat → Addr) : List (Key × V) := [(.inr "kind", .ref (fl 0)), (.inr "name", .ref (fl 1)), (.inr "marks", .ref (fl 2)), (.inr "kids", .ref (fl 3)), (.inr "up", .ref (fl 4)), (.inr "told", .ref (fl 5)), (.inr "downs", .ref (fl 6))]
structure WH (K : PySem.W.Frag) (wd : Addr) (fl : Nat → Addr) (H A : Hp) (w : Wm) : Prop where
  gh : Same H A
  d : A wd = some (.dK (wdk fl))
  c : ∀ i, i < 5 → ∃ xs, A (fl i) = some (.lst xs) ∧ LR (colR K H i) xs w.ns
  t : ∃ xs, A (fl 5) = some (.lst xs) ∧ DvA K H xs w.told
  b : ∃ xs, A (fl 6) = some (.lst xs) ∧ DvA K H xs w.downs
  inj : ∀ i j, i < 7 → j < 7 → fl i = fl j → i = j
  pf : ∀ i, i < 7 → H (fl i) = none
  pd : H wd = none
def wS (wd : Addr) (fl : Nat → Addr) : Addr → Prop := fun a => a = wd ∨ ∃ i, i < 7 ∧ a = fl i
variable {wd : Addr} {fl : Nat → Addr} {w : Wm}
theorem WH.other (h : WH K wd fl H A w) (st : Step T H A T' G A2) (dis : ∀ b, T b → ¬ wS wd fl b) : WH K wd fl G A2 w := by
  have nt : ∀ b, wS wd fl b → ¬ T b := fun b h1 h2 => dis b h2 h1
  refine ⟨st.gh, st.hh _ _ (nt _ (.inl rfl)) h.d, fun i hi => ?_, ?_, ?_, h.inj, fun i hi => ?_, st.pr _ h.pd (some_ne h.d)⟩
  · obtain ⟨xs, h1, h2⟩ := h.c i hi
    exact ⟨xs, st.hh _ _ (nt _ (.inr ⟨i, by omega, rfl⟩)) h1, h2.imp fun v x r => r.to st.hg⟩
  · obtain ⟨xs, h1, h2⟩ := h.t
    exact ⟨xs, st.hh _ _ (nt _ (.inr ⟨5, by omega, rfl⟩)) h1, h2.to st.hg⟩
  · obtain ⟨xs, h1, h2⟩ := h.b
    exact ⟨xs, st.hh _ _ (nt _ (.inr ⟨6, by omega, rfl⟩)) h1, h2.to st.hg⟩
  · have hn : A (fl i) ≠ none := by
      by_cases z : i < 5
      · obtain ⟨xs, h1, _⟩ := h.c i z
        exact some_ne h1
      · by_cases y : i = 5
        · subst y; obtain ⟨xs, h1, _⟩ := h.t; exact some_ne h1
        · have : i = 6 := by omega
          subst this; obtain ⟨xs, h1, _⟩ := h.b; exact some_ne h1
    exact st.pr _ (h.pf i hi) hn
theorem WH.pub (h : WH K wd fl H A w) (p : Pub H A G A2) : WH K wd fl G A2 w := h.other (T := fun _ => False) (T' := fun _ => False) (.of_pub p) fun _ z => z.elim
variable {σ : L2.St} {tn : TE} {n : Nat}
theorem WH.key (h : WH K wd fl H A w) {nm : Str} {a : Addr} (h0 : σ[0]? = some (some (.ref wd))) (e : valV (wdk fl) (.inr nm) = some (.ref a)) : GV (tDGet (tVar 0) (tC (.str nm))) σ H A (.ref a) := fun H0 H1 p Q q =>
  ⟨.ref wd, h0, wd, .ref a, rfl, by rw [← e]; exact DGet.k (k := .inr nm) (h.pub p).d, q H0 H1 (.refl p.gh)⟩
theorem nat_at {xs : List V} {v : V} (h : xs[n]? = some v) : atI xs (n : Int) = some v := atI_nat h
/-- an item of a private list -/
theorem gv_ixP {to : TE} {a : Addr} {xs : List V} {v : V} (g : GV to σ H A (.ref a)) (ha : A a = some (.lst xs)) (gn : GD K tn σ H A (ofN n)) (e : xs[n]? = some v) : GV (tOp (rIx K) to tn) σ H A v := fun H0 H1 p Q q =>
  g.to p fun G1 H2 p1 => gn.to (p.trans p1) fun x G2 H3 p2 dx => .inl ⟨a, xs, (n : Int), v, rfl, Dv.int_inv dx, SqL.of (p2.hh _ _ (p1.hh _ _ (p.hh _ _ ha))), nat_at e, q G2 H3 (p1.trans p2)⟩
theorem WH.col (h : WH K wd fl H A w) {i : Nat} {nm : Str} (hi : i < 5) (h2 : i ≠ 2) (h0 : σ[0]? = some (some (.ref wd))) (e : valV (wdk fl) (.inr nm) = some (.ref (fl i))) (hn : n < w.ns.length) (gn : GD K tn σ H A (ofN n)) :
    GD K (tOp (rIx K) (tDGet (tVar 0) (tC (.str nm))) tn) σ H A (colD i (nd w.ns n)) := by
  obtain ⟨xs, h1, r⟩ := h.c i hi
  obtain ⟨v, e2, rv⟩ := r.2 n _ (nd_get hn)
  exact (gv_ixP (h.key h0 e) h1 gn e2).gd (colR_D rv h2)
theorem WH.kindG (h : WH K wd fl H A w) (h0 : σ[0]? = some (some (.ref wd))) (hn : n < w.ns.length) (gn : GD K tn σ H A (ofN n)) : GD K (tOp (rIx K) (tDGet (tVar 0) (tC (.str "kind"))) tn) σ H A (.str (kindS (nd w.ns n).txt)) := h.col (i := 0) (by omega) (by omega) h0 rfl hn gn
theorem WH.nameG (h : WH K wd fl H A w) (h0 : σ[0]? = some (some (.ref wd))) (hn : n < w.ns.length) (gn : GD K tn σ H A (ofN n)) : GD K (tOp (rIx K) (tDGet (tVar 0) (tC (.str "name"))) tn) σ H A (.str (nd w.ns n).name) := h.col (i := 1) (by omega) (by omega) h0 rfl hn gn
theorem WH.kidsG (h : WH K wd fl H A w) (h0 : σ[0]? = some (some (.ref wd))) (hn : n < w.ns.length) (gn : GD K tn σ H A (ofN n)) : GD K (tOp (rIx K) (tDGet (tVar 0) (tC (.str "kids"))) tn) σ H A (natsD (nd w.ns n).kids) := h.col (i := 3) (by omega) (by omega) h0 rfl hn gn
theorem WH.upG (h : WH K wd fl H A w) (h0 : σ[0]? = some (some (.ref wd))) (hn : n < w.ns.length) (gn : GD K tn σ H A (ofN n)) : GD K (tOp (rIx K) (tDGet (tVar 0) (tC (.str "up"))) tn) σ H A (upD (nd w.ns n).up) := h.col (i := 4) (by omega) (by omega) h0 rfl hn gn
theorem WH.mark (h : WH K wd fl H A w) (hn : n < w.ns.length) : ∃ a, MkD H a (nd w.ns n).marks ∧ ∀ {σ : L2.St} {tn : TE}, σ[0]? = some (some (.ref wd)) → GD K tn σ H A (ofN n) → GV (tOp (rIx K) (tDGet (tVar 0) (tC (.str "marks"))) tn) σ H A (.ref a) := by
  obtain ⟨xs, h1, r⟩ := h.c 2 (by omega)
  obtain ⟨v, e2, a, rfl, m⟩ := r.2 n _ (nd_get hn)
  exact ⟨a, m, fun h0 gn => gv_ixP (h.key h0 rfl) h1 gn e2⟩
/-- how many nodes -/
theorem WH.len (h : WH K wd fl H A w) (h0 : σ[0]? = some (some (.ref wd))) : GD K (tCB (DL.rLen K) (tCons (tDGet (tVar 0) (tC (.str "kind"))) tNil)) σ H A (ofN w.ns.length) := fun H0 H1 p Q q => by
  obtain ⟨xs, h1, r⟩ := h.c 0 (by omega)
  refine (h.key (nm := "kind") h0 rfl).to p fun G H2 p2 => ⟨.ref (fl 0), xs.length, rfl, .inl ⟨xs, SqL.of (p2.hh _ _ (p.hh _ _ h1)), rfl⟩, ?_⟩
  rw [r.1]
  exact q _ G H2 p2 (.int _)
end
end LM
end
section
set_option Elab.async false
set_option linter.all false
set_option maxRecDepth 100000
set_option maxHeartbeats 4000000
namespace LW
open PySem PySem.Spec PyProof.Rows L2 DL LM
/-- more of what is built in -/
structure Bx (mg : Str → Option Value) : Prop extends Bt mg where
  zip : mg "zip" = none
  reversed : mg "reversed" = none
  set : mg "set" = none
  any : mg "any" = none
section
variable {P : Program} {W : World} {K : PySem.W.Frag} {mg : Str → Option Value} {base : Heap} {f : Addr} {fd : FuncData} {A A2 H H' H0 H1 H2 G G2 Hc : Hp} {σ : L2.St} {t te td tn tv t1 t2 : TE} {tr : TS} {ts : TS} {D : Ends} {tA : TA} {n i j : Nat} {p b : Addr} {xs ys : List V} {v : V} {d : PyData} {ds es : List PyData} {kvs : List (Key × V)}
/-! ### a def over data that are told by something -/
def spA (K : PySem.W.Frag) (n : Nat) {α : Type} (ar : α → List PyData) (Pre : α → Prop) (f : α → PyData) : Sp := fun vs H1 Q _ => ∃ (x : α) (H : Hp), vs.length = n ∧ Same H H1 ∧ DvA K H vs (ar x) ∧ Pre x ∧ ∀ v G H2, Pub H H1 G H2 → Dv K G v (f x) → Q v H2
theorem gd_callA {α : Type} {ar : α → List PyData} {Pre : α → Prop} {f : α → PyData} (x : α) (ga : GA K tA σ H A (ar x)) (hn : (ar x).length = n) (hp : Pre x) : GD K (tCall (spA K n ar Pre f) [] E0 tA) σ H A (f x) := fun H0 H1 p Q q => ga.to p fun vs G H2 p2 dv => by
  show spA K n ar Pre f (vs ++ []) H2 Q E0
  rw [List.append_nil]
  exact ⟨x, G, (DvA.len dv).trans hn, p2.gh, dv, hp, fun v G' H3 p3 dw => q v G' H3 (p2.trans p3) dw⟩
theorem fn_A {x qual : Str} {st : Stmt} {N ps : List Str} {k n : Nat} {α : Type} {ar : α → List PyData} {Pre : α → Prop} {g : α → PyData} (F : Fun K x qual st f fd) (S : FnScope N ps (defScope st)) (hn : n = ps.length)
    (hbody : ∀ (cdv : Value) (A : Around) (outer : List Env) (s : Shared) (H1 : Hp) (E : XK), Room k (A.deeper (envOfC qual (defScope st) s.heap.objs.size f cdv)) →
      ∃ t, PSs (cxOf CX0 P W K mg base N qual (defScope st) f cdv A outer s H1 E).nox (defBody st) t ∧ ∀ vs x H A, vs.length = n → Same H A → DvA K H vs (ar x) → Pre x → GB K t (start N vs) H A (fun d => d = g x)) : FnOk P W K mg base CX0 (k + 1) f fd ps (spA K n ar Pre g) := by
  refine F.ok S (fun vs H Q E h => ?_) (fun cdv A outer s H vs Q E hr h => ?_)
  · obtain ⟨_, _, hl, _⟩ := h
    rw [hl, hn]
  obtain ⟨x, H0, hl, sm, dv, hp, q⟩ := h
  obtain ⟨t, h1, h2⟩ := hbody cdv A outer s H E hr
  exact ⟨t, h1, h2 vs x H0 H hl sm dv hp H0 H (.refl sm) _ fun d v G H2 r p dv => by subst r; exact q v G H2 p dv⟩
theorem pt_trK {X : Cx} (K : PySem.W.Frag) {a : Expr} {ta : TE} (ha : PE X a ta) (hK : X.K = K := by rfl) (he : ∀ whole, isTrue a X.env whole = (do let v ← whole; standAt a.pos; holding [v] (truthy v)) := by intro _; rfl) : PT X a (tTr K ta) := by subst hK; exact pt_tr ha he
theorem pi_seqK {X : Cx} (K : PySem.W.Frag) {tg e : Expr} {te : TE} (h : PE X e te) (hK : X.K = K := by rfl) : PI X tg e (iSeq K te) := by subst hK; exact pi_seq h
theorem pe_fldK {X : Cx} (K : PySem.W.Frag) {e : Expr} {f : Str} {pos : Pos} {ta : TE} (he : PE X e ta) (hb : attributeBase e f X.env (eval e X.env) = eval e X.env) (hK : X.K = K := by rfl) : PE X (.Attribute e f pos) (tFld K ta f) := by subst hK; exact pe_fld he hb
theorem op_inK {X : Cx} (K : PySem.W.Frag) (hK : X.K = K := by rfl) : OpR X (compareOp .In) (rIn K false) := by subst hK; exact op_in_seq
theorem op_ninK {X : Cx} (K : PySem.W.Frag) (hK : X.K = K := by rfl) : OpR X (compareOp .NotIn) (rIn K true) := by subst hK; exact op_notIn_seq
theorem pg_tupK {X : Cx} (K : PySem.W.Frag) {es : List Expr} {k : Nat} {t : TGs} {n : Nat} {pos : Pos} (hc : X.calm = true) (h : PGs X es t) (hK : X.K = K := by rfl) (hn : (assignEach es X.env).length = n := by rfl) (hst : (assignEach es X.env).findIdx? (·.1) = none := by rfl) : PG X (.Tuple es k pos) (gTup K n t) := by subst hK; exact pg_tup hc h hn hst
/-! ### rows -/
theorem DvA.rev {vs : List V} {ds : List PyData} (h : DvA K H vs ds) : DvA K H vs.reverse ds.reverse := by
  induction vs generalizing ds with
  | nil => cases h; exact .nil
  | cons v vs ih =>
    cases h with
    | cons a r =>
      rw [List.reverse_cons, List.reverse_cons]
      exact DvA.app (ih r) (.cons a .nil)
theorem DvA.snoc {vs : List V} {ds : List PyData} {d : PyData} (h : DvA K H vs (ds ++ [d])) : ∃ us u, vs = us ++ [u] ∧ DvA K H us ds ∧ Dv K H u d := by
  induction ds generalizing vs with
  | nil =>
    obtain ⟨v, rfl, dv⟩ := DvA.inv1 h
    exact ⟨[], v, rfl, .nil, dv⟩
  | cons e es ih =>
    cases h with
    | cons a r =>
      obtain ⟨us, u, rfl, h1, h2⟩ := ih r
      exact ⟨_ :: us, u, rfl, .cons a h1, h2⟩
theorem gd_revT (g : GD K te σ H A (.tuple ds)) : GD K (RR.tRevT K te) σ H A (.tuple ds.reverse) := fun H0 H1 e Q q => g.to e fun v G H2 p dv => by
  obtain ⟨a, xs, rfl, s, da⟩ := Dv.tup_inv dv
  exact ⟨a, xs, rfl, seqT p.gh s, fun b ob hb hd => q (.ref b) _ _ (p.new hb _) (.tupF upd_same hd ((DvA.rev da).to (same_new (p.gh.free hb) _)))⟩
/-- a list from its end -/
theorem runs_rev {a : Addr} (s : SqL K G a xs) (h : DvA K G xs ds) : Runs K (Itv K a xs.length) G ds.reverse where
  go := fun i H e hi => by
    rw [List.length_reverse] at hi
    have hl := DvA.len h
    exact ⟨by omega, xs, xs[xs.length - 1 - i]'(by omega), e.seq s, List.getElem?_eq_getElem _⟩
  stop := fun i H e hi => by
    rw [List.length_reverse] at hi
    have hl := DvA.len h
    show xs.length ≤ i
    omega
  yld := fun i H x H' G' e e2 hi hy => by
    rw [List.length_reverse] at hi
    obtain ⟨rfl, hx⟩ := hy
    obtain ⟨d, hd, dx⟩ := DvA.getv h (hx xs ((e.trans e2).seq s))
    rw [DvA.len h] at hd
    exact ⟨d, G', by rw [List.getElem?_reverse hi]; exact hd, .refl e2, dx.to e⟩
theorem gi_rev (ga : GA K tA σ H A [.list ds]) : GI K (iRev K tA) σ H A ds.reverse := fun H0 H1 e R q => ga.to e fun vs G H2 p dv => by
  obtain ⟨v, rfl, d1⟩ := DvA.inv1 dv
  obtain ⟨a, xs, rfl, s, da⟩ := Dv.lst_inv d1
  exact ⟨a, xs, rfl, .inl (rd_same p.gh s), q _ G H2 p (runs_rev (.inl s) da)⟩
/-! ### one's own lists -/
theorem gt_own (g : GV te σ H A (.ref b)) (e : A b = some (.lst xs)) : GT (tTr K te) σ H A (!xs.isEmpty) := fun H0 H1 p Q q => g.to p fun G H2 p2 => ⟨_, .inl ⟨xs, .inl (.inl (p2.hh _ _ (p.hh _ _ e))), rfl⟩, q H2 (.idle p.gh p2.hh)⟩
theorem s_pop (w : Own H0 H1 G H p (.lst (xs ++ [v]))) (ho : σ[j]? = some (some (.ref p))) (k : ∀ H', Own H0 H1 G H' p (.lst xs) → H' = upd H p (.lst xs) → tr D (σ.set i (some v)) H') : tSeq (tAsg (tBM0 K "list" rPop (tVar j)) (gName i)) tr D σ H :=
  ⟨.ref p, ho, .inl ⟨rfl, _, SqL.of w.at_⟩, p, xs ++ [v], v, rfl, rfl, w.at_, by simp, by
    rw [List.dropLast_concat]
    exact k _ (w.put _) rfl⟩
theorem s_extT (w : Own H0 H1 G H p (.lst xs)) (ho : σ[j]? = some (some (.ref p))) (g : GD K te σ G H (.tuple ds)) (z : xs.length + ds.length ≤ sizeLine)
    (k : ∀ vs G' H' Hx, Pub G H G' Hx → H' = upd Hx p (.lst (xs ++ vs)) → Own H0 H1 G' H' p (.lst (xs ++ vs)) → DvA K G' vs ds → D.nx σ H') : tDrop (tBM K "list" (RR.rExtT K) (tVar j) (tCons te tNil)) D σ H :=
  ⟨.ref p, ho, .inl ⟨rfl, xs, SqL.of w.at_⟩, g.to (.refl w.gh) fun v G' H' P dv => by
    obtain ⟨a, zs, rfl, s, da⟩ := Dv.tup_inv dv
    exact ⟨p, a, xs, zs, rfl, rfl, (w.step P).at_, seqT P.gh s, by rw [DvA.len da]; exact z, k zs G' _ H' P rfl ((w.step P).put _) da⟩⟩
theorem s_appendX (w : Own H0 H1 G H p (.lst xs)) (ho : σ[j]? = some (some (.ref p))) (g : GD K te σ G H d) (z : xs.length < sizeLine) (k : ∀ v G' H' Hx, Pub G H G' Hx → H' = upd Hx p (.lst (xs ++ [v])) → Own H0 H1 G' H' p (.lst (xs ++ [v])) → Dv K G' v d → D.nx σ H') :
    tDrop (tBM K "list" rAppend (tVar j) (tCons te tNil)) D σ H := ⟨.ref p, ho, .inl ⟨rfl, xs, SqL.of w.at_⟩, g.to (.refl w.gh) fun v G' H' P dv => ⟨p, xs, v, rfl, rfl, (w.step P).at_, z, k v G' _ H' P rfl ((w.step P).put _) dv⟩⟩
/-- another own object stays -/
theorem Own.stay {o u : HO} (w : Own H0 H1 G Hc p o) (w2 : Own H0 H1 G (upd Hc b u) b u) (h : p ≠ b) : Own H0 H1 G (upd Hc b u) p o := ⟨w2.pub, by rw [upd_ne h]; exact w.at_, w.pg, w.p1⟩
/-! ### one's own dict of data by numbers -/
theorem gd_dnum (g : GV td σ H A (.ref b)) (e : A b = some (.dK kvs)) (gn : GD K tn σ H A (ofN n)) (hv : valV kvs (.inl (n : Int)) = some v) (dv : Dv K H v d) : GD K (tDGet td tn) σ H A d := fun H0 H1 p Q q => g.to p fun G H2 p2 => gn.to (p.trans p2) fun u G3 H3 p3 du => by
  have eu := Dv.int_inv du
  subst eu
  exact ⟨b, v, rfl, by rw [← hv]; exact DGet.k (k := .inl (n : Int)) (p3.hh _ _ (p2.hh _ _ (p.hh _ _ e))), q v G3 H3 (p2.trans p3) (dv.to (p.hg.trans (p2.hg.trans p3.hg)))⟩
theorem s_dnum (w : Own H0 H1 G H p (.dK kvs)) (ho : σ[j]? = some (some (.ref p))) (gv : GD K tv σ G H d) (gn : ∀ G' H', Pub G H G' H' → GD K tn σ G' H' (ofN n)) (z : kvs.length < sizeLine)
    (k : ∀ v G' H', Own H0 H1 G' H' p (.dK (putK kvs (.inl (n : Int)) v)) → Same G G' → Dv K G' v d → D.nx σ H') : sDPut (tVar j) tn tv D σ H := gv.to (.refl w.gh) fun v G2 H2 p2 dv => ⟨.ref p, ho, (gn G2 H2 p2).to (.refl (w.step p2).gh) fun u G3 H3 p3 du => by
  have eu := Dv.int_inv du
  subst eu
  have w3 := (w.step p2).step p3
  exact ⟨p, _, rfl, DPut.k (k := .inl (n : Int)) w3.at_ z, k v G3 _ (w3.put _) (p2.hg.trans p3.hg) (dv.to p3.hg)⟩⟩
end
end LW
end
section
set_option Elab.async false
set_option linter.all false
set_option maxRecDepth 100000
set_option maxHeartbeats 4000000
/-! zip of a tuple and a text -/
namespace RR
open PySem PySem.Spec PyProof.Rows L2 DL
/-- the items of the tuple at a and the signs of the text, in new pairs -/
def ItzTS (K : PySem.W.Frag) (a : Addr) (m : Nat) (z : Str) : It :=
  ⟨fun i H => ∃ (xs : List V) (x : V), SqT K H a xs ∧ xs.length = m ∧ xs[i]? = some x ∧ i < z.cps.size,
    fun i H v H' => ∃ T x c, v = .ref T ∧ H T = none ∧ z.cps[i]? = some c ∧ H' = upd H T (.tup [x, .str ⟨#[c]⟩]) ∧ (∀ xs, SqT K H a xs → xs[i]? = some x),
    fun i H => ∃ xs : List V, SqT K H a xs ∧ xs.length = m ∧ min m z.cps.size ≤ i⟩
theorem sepTS {a i1 i2 z TI TO : Addr} (D : PySem.ZipSep2 z TI TO i1 i2 [i1] [i2]) (h1 : a ≠ z) (h2 : a ≠ TO) (h3 : a ≠ i2) : PySem.ZipSep2 z TI TO i1 i2 [i1, a] [i2] :=
  { D with zf1 := by have := D.zf1; simp at this ⊢; exact ⟨this, fun q => h1 q.symm⟩, Tf1 := by have := D.Tf1; simp at this ⊢; exact ⟨this, fun q => h2 q.symm⟩, mem1 := by simp, sep2_1 := by have := D.sep2_1; simp at this ⊢; exact ⟨this, fun q => h3 q.symm⟩ }
theorem turn_zipTS {P : Program} {w : World} {K : PySem.W.Frag} {elts : List Expr} {kk : Nat} {tpos : Pos} {a z TI TO i1 i2 : Addr} {m : Nat} {x : Str} {tk : Tok} (D : PySem.ZipSep2 z TI TO i1 i2 [i1] [i2]) (da : a ≠ z ∧ a ≠ TI ∧ a ≠ TO ∧ a ≠ i1 ∧ a ≠ i2) :
    Turn P w K (.Tuple elts kk tpos) (ItzTS K a m x) [z, TI, TO, i1, i2] z (fun i h => i ≤ min m x.cps.size ∧ IsZip h z TI TO .none ∧ IsTupOf2 h TI (.ref i1) (.ref i2) ∧ (∃ x y, IsTupOf2 h TO x y) ∧ h.IsTupleIter i1 a i ∧ h.IsStrIter i2 (strIterType x) x tk i) where
  mem := by simp
  obj := fun i h st c hc => by
    obtain ⟨_, hz, hTI, ⟨x, y, hTO⟩, ⟨o1, e1, _, d1⟩, ⟨o2, e2, _, d2⟩⟩ := st
    have e' : c = z ∨ c = TI ∨ c = TO ∨ c = i1 ∨ c = i2 := by simpa using hc
    rcases e' with q | q | q | q | q
    · rw [q]; exact ⟨_, hz, fun v q => nomatch q⟩
    · rw [q]; exact ⟨_, hTI, fun v q => nomatch q⟩
    · rw [q]; exact ⟨_, hTO, fun v q => nomatch q⟩
    · rw [q]; exact ⟨o1, e1, fun v q => by rw [d1] at q; cases q⟩
    · rw [q]; exact ⟨o2, e2, fun v q => by rw [d2] at q; cases q⟩
  keep := fun i h h' st k => by
    obtain ⟨him, hz, hTI, ⟨x, y, hTO⟩, h1, ⟨o2, e2, r2⟩⟩ := st
    exact ⟨him, k z (by simp) _ hz, k TI (by simp) _ hTI, ⟨x, y, k TO (by simp) _ hTO⟩, h1.at fun o q => k i1 (by simp) o q, ⟨o2, k i2 (by simp) _ e2, r2⟩⟩
  item := by
    intro X hP hw hK hc i pins s σ H E I hf st hg
    subst hP hw hK
    obtain ⟨him, hz, hTI, hTO, h1, h2⟩ := st
    obtain ⟨xs, x0, hq, hm, hx, hi⟩ := hg
    obtain ⟨its, rv, p, _⟩ := I.tuple hq
    obtain ⟨u, hu, ru⟩ := rv.get hx
    have hil : i < its.toArray.size := by
      have := (List.getElem?_eq_some_iff.mp hu).1
      simpa using this
    have hd : X.A.in1.handled = none := I.ok.hd hc
    have W := PySem.GoesN.zip2 (elts := elts) (x1 := kk) (pos := tpos) (sepTS D da.1 da.2.2.1 da.2.2.2.2) (PySem.Draws.tuple (prog := X.prog) (w := X.w) hd i1 a da.2.2.2.1 its.toArray) (PySem.Draws.text (prog := X.prog) (w := X.w) hd i2 x tk)
    refine W.goes i s (fun v s2 => ∃ x', ∃ H', Inv X pins σ H' s2 ∧ RelV x' v ∧ (ItzTS X.K a m x).yld i H x' H' ∧ (i + 1 ≤ min m x.cps.size ∧ IsZip s2.heap z TI TO .none ∧ IsTupOf2 s2.heap TI (.ref i1) (.ref i2) ∧ (∃ x y, IsTupOf2 s2.heap TO x y) ∧ s2.heap.IsTupleIter i1 a (i + 1) ∧ s2.heap.IsStrIter i2 (strIterType x) x tk (i + 1)) ∧ ∀ b ∈ [z, TI, TO, i1, i2], H' b = none) E (Nat.lt_min.mpr ⟨hil, hi⟩) ⟨hz, hTI, hTO, ⟨h1, p⟩, h2⟩ fun v h' t' hY st' hk ht => ?_
    obtain ⟨T, y1, y2, rfl, hT, hy1, ⟨c, t2, hc2, rfl⟩, hTup⟩ := hY
    have hlt : ∀ b ∈ [z, TI, TO, i1, i2], b < s.heap.objs.size := fun b hb => by
      obtain ⟨o1, e1, _⟩ := h1
      obtain ⟨o2, e2, _⟩ := h2
      obtain ⟨x1, x2, e3⟩ := hTO
      have e' : b = z ∨ b = TI ∨ b = TO ∨ b = i1 ∨ b = i2 := by simpa using hb
      rcases e' with q | q | q | q | q
      · rw [q]; exact Heap.lt_size hz
      · rw [q]; exact Heap.lt_size hTI
      · rw [q]; exact Heap.lt_size e3
      · rw [q]; exact Heap.lt_size e1
      · rw [q]; exact Heap.lt_size e2
    have hy1' : its[i]? = some y1 := by simpa using hy1
    rw [hu] at hy1'
    cases hy1'
    have new : ObjOk X.prog X.w (upd H T (.tup [x0, .str ⟨#[c]⟩])) h' T (.tup [x0, .str ⟨#[c]⟩]) := ⟨by show 2 ≤ sizeLine; rw [sizeLine_eq]; decide, [u, .str ⟨#[c]⟩ t2], .cons ru (.cons ⟨_, rfl⟩ .nil), hTup⟩
    have I1 : Inv X pins σ (upd H T (.tup [x0, .str ⟨#[c]⟩])) { s with heap := h', toks := t' } :=
      I.turnedNew (t' := t') (ch := [z, TI, TO, i1, i2]) (fun b o hb q => hk b o (fun z => hb (by simp at z ⊢; rcases z with z | z | z | z <;> simp [z])) q) hf hT new
    refine ⟨.ref T, _, I1, rfl, ⟨T, x0, c, rfl, I.hok.fresh hT, hc2, rfl, fun l hl => by rw [I.tuple_inj hl hq]; exact hx⟩, ⟨by have := (List.getElem?_eq_some_iff.mp hx).1; omega, st'.1, st'.2.1, st'.2.2.1, st'.2.2.2.1.1, st'.2.2.2.2⟩, fun b hb => ?_⟩
    rw [upd_ne (Nat.ne_of_lt (Nat.lt_of_lt_of_le (hlt b hb) hT))]
    exact (hf b hb).1
  done := by
    intro X hP hw hK hc i pins s σ H E I hf st hg
    subst hP hw hK
    obtain ⟨him, hz, hTI, hTO, h1, h2⟩ := st
    obtain ⟨xs, hq, hm, hi⟩ := hg
    obtain ⟨its, rv, p, _⟩ := I.tuple hq
    have hlen := rv.length
    have hn : i = min its.toArray.size x.cps.size := by rw [List.size_toArray, ← hlen]; omega
    have hd : X.A.in1.handled = none := I.ok.hd hc
    have W := PySem.GoesN.zip2 (elts := elts) (x1 := kk) (pos := tpos) (sepTS D da.1 da.2.2.1 da.2.2.2.2) (PySem.Draws.tuple (prog := X.prog) (w := X.w) hd i1 a da.2.2.2.1 its.toArray) (PySem.Draws.text (prog := X.prog) (w := X.w) hd i2 x tk)
    subst hn
    exact W.stops s _ E ⟨hz, hTI, hTO, ⟨h1, p⟩, h2⟩ fun h' t' hk ht => I.turnedL (t' := t') (ch := [z, TI, TO, i1, i2]) (fun b o hb q => hk b o (fun z => hb (by simp at z ⊢; rcases z with z | z | z | z <;> simp [z])) q) hf
  self := fun A i s Q E st h => wpAny_pyIter_zip st.2.1 h
def iZipTS (K : PySem.W.Frag) (ta : TA) : TI := fun σ H R => ta σ H fun vs H1 => ∃ a x xs, vs = [.ref a, .str x] ∧ SqT K H1 a xs ∧ R (ItzTS K a xs.length x) H1
theorem pi_zipTS {X : Cx} {e e2 : Expr} {ta : TA} {p pos tpos : Pos} {elts : List Expr} {kk : Nat} (hg : Gl X "zip") (hm : X.mg "zip" = none) (ha : PA X [e, e2] ta)
    (hs : starEach [e, e2] X.env = (false, eval e X.env) :: starEach [e2] X.env := by rfl) (hpl : (backTo pos (starEach [e2] X.env)).any (·.1) = false := by rfl) :
    PI X (.Tuple elts kk tpos) (.Call (.Name "zip" p) [e, e2] [] pos) (iZipTS X.K ta) := by
  refine ⟨fun pins s σ H R I h => ?_⟩
  refine Call_ (ld_blt I hg hm PyProof.Rows.boot_zip (PyProof.Rows.callWith_type1 (thn (ha.run pos pins s σ H _ I h) fun us s1 ⟨vs, H1, I1, r1, q1⟩ => ?_) hs hpl))
  obtain ⟨a, x, xs, ex, hq, q⟩ := q1
  subst ex
  cases r1 with
  | cons r rr =>
    cases rr with
    | cons r' rr =>
      cases rr
      cases r
      obtain ⟨t, rfl⟩ := r'
      obtain ⟨its, rv, p1, _⟩ := I1.tuple hq
      obtain ⟨o1, ho1, _⟩ := id p1
      have hal : a < s1.heap.objs.size := Heap.lt_size ho1
      have fresh5 : ∀ c, c ∈ [s1.heap.objs.size + 4, s1.heap.objs.size + 2, s1.heap.objs.size + 3, s1.heap.objs.size, s1.heap.objs.size + 1] → FpOk X pins H1 c := fun c hcm => by
        have e' : c = s1.heap.objs.size + 4 ∨ c = s1.heap.objs.size + 2 ∨ c = s1.heap.objs.size + 3 ∨ c = s1.heap.objs.size ∨ c = s1.heap.objs.size + 1 := by simpa using hcm
        have hle : s1.heap.objs.size ≤ c := by
          rcases e' with z | z | z | z | z
          · rw [z]; exact Nat.le_add_right _ _
          · rw [z]; exact Nat.le_add_right _ _
          · rw [z]; exact Nat.le_add_right _ _
          · rw [z]; exact Nat.le_refl _
          · rw [z]; exact Nat.le_add_right _ _
        exact I1.fpOk hle (I1.hok.fresh hle)
      refine PySem.zip_begins2 (PySem.begins_tuple a its.toArray) (PySem.begins_text x t) p1 trivial fun h' hz hTI hTO h1 h2 hsz hk => wpAny_pyIter_zip hz ?_
      have I2 : Inv X pins σ H1 { s1 with heap := h' } := I1.kept (t' := s1.toks) hk
      have ne : ∀ k : Nat, a ≠ s1.heap.objs.size + k := fun k => Nat.ne_of_lt (Nat.lt_of_lt_of_le hal (Nat.le_add_right _ _))
      exact ⟨s1.heap.objs.size + 4, [s1.heap.objs.size + 4, s1.heap.objs.size + 2, s1.heap.objs.size + 3, s1.heap.objs.size, s1.heap.objs.size + 1], _, _, H1, rfl, I2, turn_zipTS (m := xs.length) (tk := t) (PySem.zip_sep2 (N := s1.heap.objs.size) (fp1 := []) (fp2 := []) (fun b hb => by cases hb) fun b hb => by cases hb) ⟨ne 4, ne 2, ne 3, ne 0, ne 1⟩, ⟨Nat.zero_le _, hz, hTI, ⟨_, _, hTO⟩, ⟨_, h1, rfl, rfl⟩, ⟨_, h2, rfl, rfl⟩⟩, fresh5, q⟩
/-- the data of such a walk -/
theorem runs_zipTS {K : PySem.W.Frag} {G : Hp} {a : Addr} {x : Str} {xs : List V} {ds : List PyData} (s : SqT K G a xs) (h : DvA K G xs ds) : DL.Runs K (ItzTS K a xs.length x) G (zipD ds ((sgs x).map .str)) where
  go := fun i H e hi => by
    have z : i < ds.length ∧ i < x.cps.size := by simp [zipD, sgs] at hi; omega
    exact ⟨xs, xs[i]'(by rw [DvA.len h]; exact z.1), seqT e s, rfl, List.getElem?_eq_getElem _, z.2⟩
  stop := fun i H e hi => by
    have z : min ds.length x.cps.size ≤ i := by simpa [zipD, sgs] using hi
    exact ⟨xs, seqT e s, rfl, by rw [DvA.len h]; exact z⟩
  yld := fun i H v H' G' e e2 hi hy => by
    obtain ⟨T, y, c, rfl, hn, hc, rfl, hx⟩ := hy
    obtain ⟨da, e3, dx⟩ := DvA.getv h (hx xs (seqT (e.trans e2) s))
    obtain ⟨p, dz⟩ := zip_yld e2 hn (dx.to e) (Dv.str ⟨#[c]⟩) (pairs_no2 rfl)
    refine ⟨_, _, zipD_get e3 ?_, p, dz⟩
    have hc' : x.cps.toList[i]? = some c := by rw [Array.getElem?_toList]; exact hc
    unfold sgs
    rw [List.getElem?_map, List.getElem?_map, hc']
    rfl
end RR
namespace DL
open PySem PySem.Spec PyProof.Rows L2
theorem gi_zipTS {K : PySem.W.Frag} {A H : Hp} {σ : L2.St} {tA : TA} {ds : List PyData} {x : Str} (ga : GA K tA σ H A [.tuple ds, .str x]) : GI K (RR.iZipTS K tA) σ H A (zipD ds ((sgs x).map .str)) := fun H0 H1 e R q => ga.to e fun vs G H2 p dv => by
  obtain ⟨v, w, rfl, d1, d2⟩ := DvA.inv2 dv
  obtain ⟨a, xs, rfl, s1, da⟩ := Dv.tup_inv d1
  have e2 := Dv.str_inv d2
  subst e2
  exact ⟨a, x, xs, rfl, seqT p.gh s1, q _ G H2 p (RR.runs_zipTS s1 da)⟩
end DL
end
section
set_option Elab.async false
set_option linter.all false
set_option maxRecDepth 100000
set_option maxHeartbeats 4000000
/-! d.get(k) of a written dict with text keys -/
namespace RR
open PySem PySem.Spec PyProof.Rows L2 DL
/-- the written dict at a holds (none: lacks) r at x -/
def WDct (K : PySem.W.Frag) (w : World) (a : Addr) (x : Str) (r : Option V) : Prop :=
  ∃ es n ru, K.lookup a = some ⟨.type "dict", none, .dict es n, #[]⟩ ∧ PySem.W.KeysLit w.params es.toList ∧ (a == sysModules) = false ∧ PySem.W.nsIn K a x = some ru ∧ RelO r ru
def tWGet1 (K : PySem.W.Frag) (w : World) (td ty : TE) : TE := fun σ H Q => td σ H fun x H1 => ∃ a, x = .ref a ∧ (∃ es n, K.lookup a = some ⟨.type "dict", none, .dict es n, #[]⟩ ∧ (a == sysModules) = false) ∧ ty σ H1 fun y H2 => ∃ z o, y = .str z ∧ WDct K w a z o ∧ Q (o.getD .non) H2
theorem pe_wget1 {X : Cx} {o e : Expr} {apos cpos : Pos} {td ty : TE} (ho : PE X o td) (he : PE X e ty) (m : M1 X o "get" apos e cpos) : PE X (.Call (.Attribute o "get" apos) [e] [] cpos) (tWGet1 X.K X.w td ty) := by
  refine ⟨fun pins s σ H Q I h => ?_⟩
  refine wpAny_Call_method m.base m.few m.line PySem.F.plainAttrs_dict PySem.F.slot_dict_get PySem.F.type_dict_get (thn (ho.run pins s σ H _ I h) fun u s1 ⟨x, H1, I1, rx, a, ex, ⟨es, n, hl, hd⟩, q1⟩ => ?_)
  subst ex
  obtain rfl : u = Value.ref a := rx
  have g := I1.kIn _ _ hl
  refine ⟨⟨_, g, rfl⟩, fun b q => by cases q; exact ⟨_, g, rfl⟩, ?_⟩
  rw [m.trees]
  refine Calls.callWith_builtin rfl (Calls.evalArgs_plain (Calls.spliced_cons (thn (he.run pins s1 σ H1 _ I1 q1) fun iv s2 ⟨y, H2, I2, ry, z, ov, ey, ⟨es2, n2, ru, hl2, hk, hd2, hf, rr⟩, q2⟩ => Calls.spliced_nil ?_)))
  subst ey
  obtain ⟨t, rfl⟩ := ry
  have hm := PySem.W.mapOf_K (prog := X.prog) (w := X.w) I2.kIn hl2 hk
  refine call_meetsIn PySem.F.slot_dict_get hm.typeIs PySem.F.entry_dict_get (PySem.F.args_dict_get_2 _ _) (meets_dict_get (strKind X.prog X.w) a (strKind_is X.prog X.w z t) hd2) ⟨_, hm, ?_⟩
  rw [PySem.W.find_K hl2 hf]
  exact ⟨_, H2, I2.tok _, RelO.getD (d := .non) (d' := .none) rr (show RelV V.non Value.none from rfl), q2⟩
end RR
namespace DL
open PySem PySem.Spec PyProof.Rows L2
section
variable {K : PySem.W.Frag} {w : World} {A H : Hp} {σ : L2.St} {t te : TE}
/-- a table of texts by texts -/
def tabO (l : List (Str × Str)) (x : Str) : Option Str := (l.find? fun p => decide (p.1 = x)).map (·.2)
def oD : Option Str → PyData
  | none => .none
  | some x => .str x
/-- the written dict at a is the table -/
def IsTab (K : PySem.W.Frag) (w : World) (a : Addr) (l : List (Str × Str)) : Prop := ∃ es n, K.lookup a = some ⟨.type "dict", none, .dict es n, #[]⟩ ∧ PySem.W.KeysLit w.params es.toList ∧ (a == sysModules) = false ∧ Paired (fun (e : DictEntry) (p : Str × Str) => (∃ t, e.key = .str p.1 t) ∧ ∃ t, e.val = .str p.2 t) es.toList l
theorem isTab_find : ∀ {es : List DictEntry} {l : List (Str × Str)}, Paired (fun (e : DictEntry) (p : Str × Str) => (∃ t, e.key = .str p.1 t) ∧ ∃ t, e.val = .str p.2 t) es l → ∀ x, RelO ((tabO l x).map V.str) ((es.find? fun d => d.key.isStr x).map (·.val)) := fun {es l} h x => by
  induction h with
  | nil => exact True.intro
  | @cons e p es l hp h ih =>
    obtain ⟨⟨t, e1⟩, ⟨u, e2⟩⟩ := hp
    have k : e.key.isStr x = decide (p.1 = x) := by
      rw [e1]
      show (p.1 == x) = _
      rw [Bool.eq_iff_iff]; simp
    unfold tabO
    rw [List.find?_cons, List.find?_cons, k]
    cases hc : decide (p.1 = x) with
    | true => exact (show RelV (.str p.2) e.val from ⟨u, e2⟩)
    | false => exact ih
theorem isTab_w {a : Addr} {l : List (Str × Str)} (h : IsTab K w a l) (x : Str) : RR.WDct K w a x ((tabO l x).map V.str) := by
  obtain ⟨es, n, hl, hk, hd, hp⟩ := h
  refine ⟨es, n, _, hl, hk, hd, ?_, isTab_find hp x⟩
  unfold PySem.W.nsIn
  rw [hl]
  have hr : es.toList.any (fun e => e.refKey) = false := List.any_eq_false.mpr fun e he => by
    obtain ⟨y, t, e1, _⟩ := hk.all e he
    unfold DictEntry.refKey
    rw [e1]
    exact Bool.false_ne_true
  show (match es.toList.find? (fun e => e.key.isStr x) with | some e => some (some e.val) | none => if es.toList.any (fun e => e.refKey) = true then none else some none) = some ((es.toList.find? fun d => d.key.isStr x).map (·.val))
  cases es.toList.find? (fun e => e.key.isStr x) with
  | some e => rfl
  | none => rw [hr]; rfl
theorem gd_wget {a : Addr} {l : List (Str × Str)} {x : Str} (h : IsTab K w a l) (g : GD K te σ H A (.str x)) : GD K (RR.tWGet1 K w (tC (.ref a)) te) σ H A (oD (tabO l x)) := fun H0 H1 e Q q => by
  obtain ⟨es, n, hl, hk, hd, hp⟩ := id h
  refine ⟨a, rfl, ⟨es, n, hl, hd⟩, g.to e fun v G H2 p dv => ⟨x, _, Dv.str_inv dv, isTab_w h x, ?_⟩⟩
  have e2 : Dv K G ((Option.map V.str (tabO l x)).getD V.non) (oD (tabO l x)) := by
    cases tabO l x with
    | none => exact .non
    | some y => exact .str y
  exact q _ G H2 p e2
end
end DL
end
section
set_option Elab.async false
set_option linter.all false
set_option maxRecDepth 100000
set_option maxHeartbeats 4000000
/-! tests of queries as data -/
namespace LM
open PySem DL
inductive Tst
  | leaf (w : Str) (as : List Str)
  | un (w : Str) (t : Tst)
  | many (w : Str) (ts : List Tst)
namespace Tst
mutual
def toD : Tst → PyData
  | leaf w as => .tuple (.str w :: as.map .str)
  | un w t => .tuple [.str w, toD t]
  | many w ts => .tuple [.str w, .tuple (toDs ts)]
def toDs : List Tst → List PyData
  | [] => []
  | t :: ts => toD t :: toDs ts
end
theorem toDs_eq : ∀ ts : List Tst, toDs ts = ts.map toD
  | [] => rfl
  | t :: ts => by rw [toDs, toDs_eq ts]; rfl
theorem toD_leaf {w : Str} {as : List Str} : toD (leaf w as) = .tuple (.str w :: as.map .str) := by rw [toD]
theorem toD_un {w : Str} {t : Tst} : toD (un w t) = .tuple [.str w, toD t] := by rw [toD]
theorem toD_many {w : Str} {ts : List Tst} : toD (many w ts) = .tuple [.str w, .tuple (ts.map toD)] := by rw [toD, toDs_eq]
end Tst
def dAt (ds : List Int) (i : Nat) : Int := ds.getD i 0
def sAt (l : List Str) (i : Int) : Str := l.getD i.toNat ""
theorem sAt_all {l : List Str} {p : Str → Prop} (h : ∀ x ∈ l, p x) (hd : p "") (i : Int) : p (sAt l i) := by
  unfold sAt
  rw [List.getD_eq_getElem?_getD]
  cases e : l[i.toNat]? with
  | none => exact hd
  | some x => exact h x (List.mem_of_getElem? e)
def ownT (ds : List Int) : Tst :=
  let way := dAt ds 0 % 9
  if way < 3 then .leaf "name" [sAt ["a", "b", "c"] (dAt ds 1 % 3)]
  else if way = 3 then .leaf "mark" [sAt ["m", "n"] (dAt ds 1 % 2)]
  else if way < 6 then .leaf "value" [sAt ["m", "n"] (dAt ds 1 % 2), sAt ["", "1", "x"] (dAt ds 2 % 3)]
  else if way = 6 then .leaf "text" [sAt ["x", "y", ""] (dAt ds 1 % 3)]
  else if way = 7 then .leaf "any" [] else .leaf "first" []
def rot (k : Nat) (ds : List Int) : List Int := ds.drop k ++ ds.take k
def lawT : Nat → List Int → Bool → Tst
  | 0, ds, _ => ownT ds
  | n + 1, ds, back =>
    let way := dAt ds 3 % 14
    if way < 3 then ownT ds
    else if way < 5 then .un "not" (lawT n (rot 5 ds) back)
    else if way < 9 then .un (sAt ["under", "in", "next", "behind"] (way - 5)) (lawT n (rot 5 ds) back)
    else if way < 12 then .many (if way < 11 then "both" else "one") [lawT n (rot 5 ds) back, lawT n (rot 3 (rot 5 ds)) back]
    else if back = true then ownT ds
    else if way = 12 then .un (sAt ["over", "has"] (dAt ds 4 % 2)) (lawT n (rot 5 ds) back)
    else .leaf (sAt ["last", "empty"] (dAt ds 4 % 2)) []
theorem rot_len (k : Nat) (ds : List Int) (h : k ≤ ds.length) : (rot k ds).length = ds.length := by
  unfold rot
  rw [List.length_append, List.length_drop, List.length_take]
  omega
/-! ### what a test is -/
def ARGS : List (Str × Str) := [("any", ""), ("name", "n"), ("mark", "n"), ("value", "ns"), ("text", "s"), ("first", ""), ("last", ""), ("empty", ""), ("not", "t"), ("both", "p"), ("one", "p"), ("under", "t"), ("in", "t"), ("next", "t"), ("behind", "t"), ("over", "t"), ("has", "t")]
def lawL0 : List Str := ["any", "first", "last", "empty"]
def lawL1 : List Str := ["name", "mark"]
def lawL4 : List Str := ["both", "one"]
def lawL5 : List Str := ["not", "under", "in", "next", "behind", "over", "has"]
def lawKind (w : Str) : Nat := if w ∈ lawL0 then 0 else if w ∈ lawL1 then 1 else if w = "text" then 2 else if w = "value" then 3 else if w ∈ lawL4 then 4 else if w ∈ lawL5 then 5 else 6
def kindSig : Nat → Option Str
  | 0 => some ""
  | 1 => some "n"
  | 2 => some "s"
  | 3 => some "ns"
  | 4 => some "p"
  | 5 => some "t"
  | _ => none
theorem tab_kind (w : Str) : tabO ARGS w = kindSig (lawKind w) := by
  by_cases h : w ∈ ARGS.map (·.1)
  · simp only [ARGS, List.map_cons, List.map_nil, List.mem_cons, List.mem_nil_iff, or_false] at h
    rcases h with h | h | h | h | h | h | h | h | h | h | h | h | h | h | h | h | h <;> subst h <;> decide +kernel
  · have e1 : tabO ARGS w = none := by
      unfold tabO
      rw [List.find?_eq_none.mpr fun p hp => ?_]; rfl
      intro z
      exact h (List.mem_map.mpr ⟨p, hp, of_decide_eq_true z⟩)
    have m : ∀ l : List Str, (∀ x ∈ l, x ∈ ARGS.map (·.1)) → w ∉ l := fun l hl z => h (hl w z)
    have e2 : lawKind w = 6 := by
      unfold lawKind
      rw [if_neg (m lawL0 (by decide +kernel)), if_neg (m lawL1 (by decide +kernel)), if_neg (fun z => m ["text"] (by decide +kernel) (by rw [z]; simp)), if_neg (fun z => m ["value"] (by decide +kernel) (by rw [z]; simp)), if_neg (m lawL4 (by decide +kernel)), if_neg (m lawL5 (by decide +kernel))]
    rw [e1, e2]; rfl
/-- of a text: short, without the percent sign -/
def clS (s : Str) : Prop := s.length ≤ 1000 ∧ ∀ c ∈ s.cps.toList, c ≠ 37 ∧ c < 0x110000
def strOk (d : PyData) : Prop := ∀ s, d = .str s → clS s
def Cl : Nat → PyData → Prop
  | 0, _ => True
  | n + 1, d => strOk d ∧ match d with
    | .none => True
    | .bool _ => True
    | .int _ => True
    | .str _ => True
    | .list ds => ds.length ≤ 1000
    | .tuple [] => True
    | .tuple (.str w :: r) => clS w ∧ r.length ≤ 1000 ∧ ∀ x ∈ r, strOk x ∧ if lawKind w = 4 then ∀ ys, x = .tuple ys → ys.length ≤ 1000 ∧ ∀ y ∈ ys, Cl n y else Cl n x
    | .tuple (.int _ :: r) => r.length ≤ 1000
    | _ => False
instance (s : Str) : Decidable (clS s) := inferInstanceAs (Decidable (s.length ≤ 1000 ∧ ∀ c ∈ s.cps.toList, c ≠ 37 ∧ c < 0x110000))
def Clean0 (d : PyData) : Prop := ∀ n, Cl n d
theorem clean0_un {w : Str} {d : PyData} (hw : clS w) (h4 : lawKind w ≠ 4) (hd : Clean0 d) : Clean0 (.tuple [.str w, d])
  | 0 => trivial
  | n + 1 => ⟨(fun s e => nomatch e), hw, by show 1 ≤ 1000; decide, fun x hx => by
    rw [List.mem_singleton.mp hx, if_neg h4]
    refine ⟨fun s e => ?_, hd n⟩
    exact (hd 1).1 s e⟩
theorem clean0_strs {w : Str} {as : List Str} (hw : clS w) (h4 : lawKind w ≠ 4) (hl : as.length ≤ 1000) (ha : ∀ a ∈ as, clS a) : Clean0 (.tuple (.str w :: as.map .str))
  | 0 => trivial
  | n + 1 => ⟨(fun s e => nomatch e), hw, by rw [List.length_map]; exact hl, fun x hx => by
    obtain ⟨a, h, rfl⟩ := List.mem_map.mp hx
    have z : strOk (.str a) := fun s e => by cases e; exact ha a h
    rw [if_neg h4]
    refine ⟨z, ?_⟩
    cases n with
    | zero => trivial
    | succ n => exact ⟨z, trivial⟩⟩
theorem clean0_many {w : Str} {ds : List PyData} (hw : clS w) (h4 : lawKind w = 4) (hl : ds.length ≤ 1000) (ha : ∀ a ∈ ds, Clean0 a) : Clean0 (.tuple [.str w, .tuple ds])
  | 0 => trivial
  | n + 1 => ⟨(fun s e => nomatch e), hw, by show 1 ≤ 1000; decide, fun x hx => by
    rw [List.mem_singleton.mp hx, if_pos h4]
    exact ⟨(fun s e => nomatch e), fun ys e => by cases e; exact ⟨hl, fun y hy => ha y hy n⟩⟩⟩
theorem clean0_str {s : Str} (h : clS s) : Clean0 (.str s)
  | 0 => trivial
  | n + 1 => ⟨fun s e => by cases e; exact h, trivial⟩
theorem clean0_int {i : Int} : Clean0 (.int i)
  | 0 => trivial
  | n + 1 => ⟨fun s e => (nomatch e), trivial⟩
theorem clean0_lst {ds : List PyData} (h : ds.length ≤ 1000) : Clean0 (.list ds)
  | 0 => trivial
  | n + 1 => ⟨fun s e => (nomatch e), h⟩
theorem clean0_nil : Clean0 (.tuple [])
  | 0 => trivial
  | n + 1 => ⟨fun s e => (nomatch e), trivial⟩
def Clean (d : PyData) : Prop := Clean0 d ∧ d.canLay0 = true
theorem lay_str {s : Str} (h : clS s) : (PyData.str s).canLay0 = true := by
  unfold PyData.canLay0 PyData.strOk
  rw [← Array.all_toList]
  exact List.all_eq_true.mpr fun c hc => decide_eq_true (h.2 c hc).2
theorem lay_all : ∀ {ds : List PyData}, (∀ d ∈ ds, d.canLay0 = true) → PyData.canLayAll0 ds = true
  | [], _ => by unfold PyData.canLayAll0; rfl
  | d :: ds, h => by
    unfold PyData.canLayAll0
    rw [h d List.mem_cons_self, lay_all fun x hx => h x (List.mem_cons_of_mem _ hx)]; rfl
theorem lay_tup {ds : List PyData} (h : ∀ d ∈ ds, d.canLay0 = true) : (PyData.tuple ds).canLay0 = true := by unfold PyData.canLay0; exact lay_all h
theorem lay_lst {ds : List PyData} (h : ∀ d ∈ ds, d.canLay0 = true) : (PyData.list ds).canLay0 = true := by unfold PyData.canLay0; exact lay_all h
theorem lay_inv : ∀ {ds : List PyData}, PyData.canLayAll0 ds = true → ∀ d ∈ ds, d.canLay0 = true
  | [], _, _, h => nomatch h
  | d :: ds, h, x, hx => by
    unfold PyData.canLayAll0 at h
    rw [Bool.and_eq_true] at h
    rcases List.mem_cons.mp hx with rfl | hx
    · exact h.1
    · exact lay_inv h.2 x hx
theorem lay_tup_inv {ds : List PyData} (h : (PyData.tuple ds).canLay0 = true) : ∀ d ∈ ds, d.canLay0 = true := by unfold PyData.canLay0 at h; exact lay_inv h
theorem clean_un {w : Str} {d : PyData} (hw : clS w) (h4 : lawKind w ≠ 4) (hd : Clean d) : Clean (.tuple [.str w, d]) := ⟨clean0_un hw h4 hd.1, lay_tup fun x hx => by
  simp only [List.mem_cons, List.mem_nil_iff, or_false] at hx
  rcases hx with rfl | rfl
  · exact lay_str hw
  · exact hd.2⟩
theorem clean_strs {w : Str} {as : List Str} (hw : clS w) (h4 : lawKind w ≠ 4) (hl : as.length ≤ 1000) (ha : ∀ a ∈ as, clS a) : Clean (.tuple (.str w :: as.map .str)) := ⟨clean0_strs hw h4 hl ha, lay_tup fun x hx => by
  rcases List.mem_cons.mp hx with rfl | hx
  · exact lay_str hw
  · obtain ⟨a, h, rfl⟩ := List.mem_map.mp hx
    exact lay_str (ha a h)⟩
theorem clean_many {w : Str} {ds : List PyData} (hw : clS w) (h4 : lawKind w = 4) (hl : ds.length ≤ 1000) (ha : ∀ a ∈ ds, Clean a) : Clean (.tuple [.str w, .tuple ds]) := ⟨clean0_many hw h4 hl fun a h => (ha a h).1, lay_tup fun x hx => by
  simp only [List.mem_cons, List.mem_nil_iff, or_false] at hx
  rcases hx with rfl | rfl
  · exact lay_str hw
  · exact lay_tup fun a h => (ha a h).2⟩
theorem clean_str {s : Str} (h : clS s) : Clean (.str s) := ⟨clean0_str h, lay_str h⟩
theorem clean_int {i : Int} : Clean (.int i) := ⟨clean0_int, by unfold PyData.canLay0; rfl⟩
theorem clean_lst {ds : List PyData} (h : ds.length ≤ 1000) (ha : ∀ a ∈ ds, a.canLay0 = true) : Clean (.list ds) := ⟨clean0_lst h, lay_lst ha⟩
theorem clean_nil : Clean (.tuple []) := ⟨clean0_nil, lay_tup fun _ h => nomatch h⟩
theorem clean_own (ds : List Int) : Clean (ownT ds).toD := by
  have p : ∀ {l : List Str} {i : Int}, (∀ x ∈ l, clS x) → clS (sAt l i) := fun h => sAt_all h (by decide +kernel) _
  unfold ownT
  dsimp only
  split
  · rw [Tst.toD_leaf]
    exact clean_strs (by decide +kernel) (by decide +kernel) (by show 1 ≤ 1000; decide) fun a ha => by rw [List.mem_singleton.mp ha]; exact p (by decide +kernel)
  split
  · rw [Tst.toD_leaf]
    exact clean_strs (by decide +kernel) (by decide +kernel) (by show 1 ≤ 1000; decide) fun a ha => by rw [List.mem_singleton.mp ha]; exact p (by decide +kernel)
  split
  · rw [Tst.toD_leaf]
    refine clean_strs (by decide +kernel) (by decide +kernel) (by show 2 ≤ 1000; decide) fun a ha => ?_
    simp only [List.mem_cons, List.mem_nil_iff, or_false] at ha
    rcases ha with rfl | rfl
    · exact p (by decide +kernel)
    · exact p (by decide +kernel)
  split
  · rw [Tst.toD_leaf]
    exact clean_strs (by decide +kernel) (by decide +kernel) (by show 1 ≤ 1000; decide) fun a ha => by rw [List.mem_singleton.mp ha]; exact p (by decide +kernel)
  split
  · rw [Tst.toD_leaf]
    exact clean_strs (by decide +kernel) (by decide +kernel) (by show 0 ≤ 1000; decide) fun a ha => nomatch ha
  · rw [Tst.toD_leaf]
    exact clean_strs (by decide +kernel) (by decide +kernel) (by show 0 ≤ 1000; decide) fun a ha => nomatch ha
theorem clean_lawT : ∀ (n : Nat) (ds : List Int) (b : Bool), Clean (lawT n ds b).toD
  | 0, ds, _ => clean_own ds
  | n + 1, ds, b => by
    have p : ∀ {l : List Str} {i : Int}, (∀ x ∈ l, clS x) → clS (sAt l i) := fun h => sAt_all h (by decide +kernel) _
    have q : ∀ {l : List Str} {i : Int}, (∀ x ∈ l, lawKind x ≠ 4) → lawKind (sAt l i) ≠ 4 := fun h => sAt_all (p := fun x => lawKind x ≠ 4) h (by decide +kernel) _
    have ih := clean_lawT n
    unfold lawT
    dsimp only
    split
    · exact clean_own ds
    split
    · rw [Tst.toD_un]; exact clean_un (by decide +kernel) (by decide +kernel) (ih _ _)
    split
    · rw [Tst.toD_un]; exact clean_un (p (by decide +kernel)) (q (by decide +kernel)) (ih _ _)
    split
    · rw [Tst.toD_many]
      refine clean_many ?_ ?_ (by show 2 ≤ 1000; decide) fun a ha => ?_
      · split <;> decide +kernel
      · split <;> decide +kernel
      · obtain ⟨t, ht, rfl⟩ := List.mem_map.mp ha
        simp only [List.mem_cons, List.mem_nil_iff, or_false] at ht
        rcases ht with rfl | rfl <;> exact ih _ _
    split
    · exact clean_own ds
    split
    · rw [Tst.toD_un]; exact clean_un (p (by decide +kernel)) (q (by decide +kernel)) (ih _ _)
    · rw [Tst.toD_leaf]; exact clean_strs (p (by decide +kernel)) (q (by decide +kernel)) (by show 0 ≤ 1000; decide) fun a ha => nomatch ha
end LM
end
section
set_option Elab.async false
set_option linter.all false
set_option maxRecDepth 100000
set_option maxHeartbeats 4000000
namespace RR
open PySem PySem.Spec PyProof.Rows L2
/-- a text times an int -/
def rMulS : R2 := fun x y H Q => ∃ z n, x = .str z ∧ y = .int n ∧ MulOk z n ∧ Q (.str (Txt.mul z n)) H
theorem op_mulS {X : Cx} : OpR X (binaryOp .Mult) rMulS := by
  intro pins s σ H x y v u Q I rx ry h
  obtain ⟨z, n, rfl, rfl, ok, q⟩ := h
  obtain ⟨t, rfl⟩ := rx
  obtain ⟨t', rfl⟩ := ry
  exact SB.mul ok fun t2 k => ⟨.str _, H, I.tok _, ⟨t2, rfl⟩, q⟩
end RR
namespace DL
open PySem PySem.Spec PyProof.Rows L2
section
variable {K : PySem.W.Frag} {A H : Hp} {σ : L2.St} {te tn : TE} {ds : List PyData}
theorem go_mulS {z : Str} {n : Int} (h : MulOk z n) : GO K RR.rMulS (.str z) (.int n) (.str (Txt.mul z n)) := fun H H1 G H2 v w Q p dx dy q => ⟨z, n, Dv.str_inv dx, Dv.int_inv dy, h, q _ G H2 p (.str _)⟩
theorem DvA.rep {G : Hp} {vs : List V} {es : List PyData} (h : DvA K G vs es) : ∀ k : Nat, DvA K G (List.replicate k vs).flatten (List.replicate k es).flatten
  | 0 => .nil
  | k + 1 => by
    rw [List.replicate_succ, List.replicate_succ, List.flatten_cons, List.flatten_cons]
    exact h.app (DvA.rep h k)
theorem go_repT {k : Int} (hn : ds ≠ []) (h1 : 2 ≤ k) (h2 : k ≤ 1000) (hl : ds.length ≤ 1000) (hp : pairsB (List.replicate k.toNat ds).flatten = false) : GO K (rRepT K) (.tuple ds) (.int k) (.tuple (List.replicate k.toNat ds).flatten) := fun H H1 G H2 v w Q p dx dy q => by
  obtain ⟨a, xs, rfl, s, da⟩ := Dv.tup_inv dx
  have l := DvA.len da
  exact ⟨a, k, xs, rfl, Dv.int_inv dy, seqT p.gh s, fun z => hn (by subst z; cases da; rfl), h1, h2, by omega, fun b hb => q (.ref b) _ _ (p.new hb _) (.tup (SqT.of upd_same) ((DvA.rep da _).to (same_new (p.gh.free hb) _)) hp)⟩
/-- one sign of a text -/
theorem go_ixS {x : Str} {i : Int} {c : Nat} (z : x.length ≤ sizeLine) (h : atI x.cps.toList i = some c) : GO K (rIx K) (.str x) (.int i) (.str ⟨#[c]⟩) := fun H H1 G H2 v w Q p dx dy q => .inr (.inr ⟨x, i, c, Dv.str_inv dx, Dv.int_inv dy, z, h, q _ G H2 p (.str _)⟩)
/-- == of data, one of which is not deep -/
def rEqN (K : PySem.W.Frag) : R2 := fun x y H Q => ∃ d e, Dp K H x d ∧ Dp K H y e ∧ d.canLay0 = true ∧ e.canLay0 = true ∧ min d.depth e.depth ≤ 64 ∧ Q (.bl (PyData.eqv d e)) H
theorem op_eqN {X : Cx} (hu : X.A.units + 64 < cLine) : OpR X (compareOp .Eq) (rEqN X.K) := by
  intro pins s σ H x y v u Q I rx ry h
  obtain ⟨d, e, hd, he, sd, se, hm, q⟩ := h
  obtain ⟨as, r1⟩ := Dp.reads I d x v hd rx
  obtain ⟨bs, r2⟩ := Dp.reads I e y u he ry
  exact SeqAt.compareEq_reads r1 r2 sd se (by omega) ⟨.bl _, H, I, rfl, q⟩
def rNeN (K : PySem.W.Frag) : R2 := fun x y H Q => ∃ d e, Dp K H x d ∧ Dp K H y e ∧ d.canLay0 = true ∧ e.canLay0 = true ∧ min d.depth e.depth ≤ 64 ∧ Q (.bl (!PyData.eqv d e)) H
theorem go_eqN_ {d1 d2 : PyData} (s1 : d1.canLay0 = true) (s2 : d2.canLay0 = true) (hm : min d1.depth d2.depth ≤ 64) : GO K (rEqN K) d1 d2 (.bool (PyData.eqv d1 d2)) := fun H H1 G H2 v w Q p dx dy q =>
  ⟨d1, d2, dv_dp _ _ (Dv.to dx p.gh), dv_dp _ _ (Dv.to dy p.gh), s1, s2, hm, q _ G H2 p (.bl _)⟩
def rNinS : R2 := fun x y H Q => ∃ (c : Nat) (z : Str), x = .str ⟨#[c]⟩ ∧ y = .str z ∧ Q (.bl (!decide (c ∈ z.cps.toList))) H
theorem op_ninS {X : Cx} : OpR X (compareOp .NotIn) rNinS := op_notIn_sign
theorem go_ninS {c : Nat} {z : Str} : GO K rNinS (.str ⟨#[c]⟩) (.str z) (.bool (!decide (c ∈ z.cps.toList))) := fun H H1 G H2 v w Q p dx dy q => ⟨c, z, Dv.str_inv dx, Dv.str_inv dy, q _ G H2 p (.bl _)⟩
end
end DL
end
section
set_option Elab.async false
set_option linter.all false
set_option maxRecDepth 100000
set_option maxHeartbeats 4000000
namespace LW
open PySem PySem.Spec PyProof.Rows L2 DL LM
section
variable {P : Program} {W : World} {K : PySem.W.Frag} {mg : Str → Option Value} {base : Heap} {f : Addr} {fd : FuncData} {A A2 H H' H0 H1 H2 G G2 Hc : Hp} {σ : L2.St} {t te td tn tv t1 t2 : TE} {tr : TS} {ts : TS} {D : Ends} {tA : TA} {n i j : Nat} {p b : Addr} {xs ys : List V} {v : V} {d : PyData} {ds es : List PyData}
def intsD (ds : List Int) : PyData := .list (ds.map .int)
theorem qatI {l : List PyData} {k : Int} {d : PyData} (h0 : 0 ≤ k) (h : l[k.toNat]? = some d) : atI l k = some d := by
  have e : k = ((k.toNat : Nat) : Int) := by omega
  rw [e]
  exact atI_nat h
theorem gd_pickS {l : List Str} {k : Int} (g : GD K t1 σ H A (.list (l.map .str))) (g2 : GD K t2 σ H A (.int k)) (h0 : 0 ≤ k) (h1 : k < (l.length : Int)) : GD K (tOp (rIx K) t1 t2) σ H A (.str (sAt l k)) := by
  refine gdo g g2 (go_ixL (qatI h0 ?_))
  unfold sAt
  rw [List.getElem?_map, List.getD_eq_getElem?_getD, List.getElem?_eq_getElem (by omega : k.toNat < l.length)]
  rfl
theorem gd_sgn {x : Str} {l : List Str} {k : Int} (hl : sgs x = l) (z : x.length ≤ 1000) (g2 : GD K t2 σ H A (.int k)) (h0 : 0 ≤ k) (h1 : k < (l.length : Int)) : GD K (tOp (rIx K) (tC (.str x)) t2) σ H A (.str (sAt l k)) := by
  subst hl
  have hn : k.toNat < x.cps.toList.length := by
    have : (sgs x).length = x.cps.toList.length := by unfold sgs; rw [List.length_map]
    omega
  have e : sAt (sgs x) k = ⟨#[x.cps.toList[k.toNat]]⟩ := by
    unfold sAt sgs
    rw [List.getD_eq_getElem?_getD, List.getElem?_map, List.getElem?_eq_getElem hn]
    rfl
  rw [e]
  refine gdo gd_str g2 (go_ixS (Nat.le_trans z (by rw [sizeLine_eq]; decide)) ?_)
  have e2 : ((k.toNat : Nat) : Int) = k := by omega
  have h := atI_nat (xs := x.cps.toList) (j := k.toNat) (List.getElem?_eq_getElem hn)
  rw [e2] at h
  exact h
theorem gd_draw {ds : List Int} {j : Nat} (i : Nat) (h2 : σ[j]? = some (some v)) (d2 : Dv K H v (intsD ds)) (h : i < ds.length) : GD K (tOp (rIx K) (tVar j) (tC (.int (i : Int)))) σ H A (.int (dAt ds i)) := by
  refine gdo (gd_var h2 d2) gd_int (go_ixL (qatI (by omega) ?_))
  unfold dAt
  rw [List.getElem?_map, List.getD_eq_getElem?_getD, Int.toNat_natCast, List.getElem?_eq_getElem h]
  rfl
theorem gd_drawI {ds : List Int} {j : Nat} (i : Nat) (h2 : σ[j]? = some (some v)) (d2 : Dv K H v (intsD ds)) (h : i < ds.length) : GD K (tCB rInt (tCons (tOp (rIx K) (tVar j) (tC (.int (i : Int)))) tNil)) σ H A (.int (dAt ds i)) := gd_cb (ga_cons (gd_draw i h2 d2 h) ga_nil) gc_int
theorem gd_mod {c : Int} {b : Int} (g : GD K te σ H A (.int c)) (hb : 0 < b) : GD K (tOp (rI (fun _ j => 0 < j) fun i j => .int (i % j)) te (tC (.int b))) σ H A (.int (c % b)) := gdo g gd_int (go_ic hb)
theorem qcut_to {l : List Int} {a : Nat} (h : a ≤ l.length) : DL.cutD (l.map PyData.int) none (some (a : Int)) = (l.take a).map .int := by
  unfold DL.cutD
  rw [HT.sIx_none, HT.sIx_nat, List.length_map, Nat.min_eq_left h, List.drop_zero, Nat.sub_zero, List.map_take]
theorem qcut_from {l : List Int} {a : Nat} (h : a ≤ l.length) : DL.cutD (l.map PyData.int) (some (a : Int)) none = (l.drop a).map .int := by
  unfold DL.cutD
  rw [HT.sIx_none, HT.sIx_nat, List.length_map, Nat.min_eq_left h, ← List.map_drop, List.take_of_length_le (by rw [List.length_map, List.length_drop]; omega)]
/-- draws[k:] + draws[:k] -/
theorem gd_rot {ds : List Int} {j : Nat} (k : Nat) (h2 : σ[j]? = some (some v)) (d2 : Dv K H v (intsD ds)) (h : k ≤ ds.length) (z : ds.length ≤ 1000) : GD K (tOp (rAddA K) (tSl (rSlD K) (tVar j) (tPart (tC (.int (k : Int)))) tNoPart) (tSl (rSlD K) (tVar j) tNoPart (tPart (tC (.int (k : Int)))))) σ H A (intsD (rot k ds)) := by
  have g1 := gd_slL (K := K) (σ := σ) (H := H) (A := A) (gd_var h2 d2) (gp_some (K := K) (gd_int (i := (k : Int)))) gp_none
  have g2 := gd_slL (K := K) (σ := σ) (H := H) (A := A) (gd_var h2 d2) gp_none (gp_some (K := K) (gd_int (i := (k : Int))))
  rw [qcut_from h] at g1
  rw [qcut_to h] at g2
  have g := gdo g1 g2 (go_addL (by rw [List.length_map, List.length_map, List.length_drop, List.length_take, sizeLine_eq]; omega))
  rw [← List.map_append] at g
  exact g
def arDw : List Int → List PyData := fun ds => [intsD ds]
def preDw (ds : List Int) : Prop := 9 ≤ ds.length ∧ ds.length ≤ 100
abbrev s_law_own_test : Stmt := topS 35
theorem sc_law_own_test : FnScope ["draws", "way"] ["draws"] (defScope s_law_own_test) := ⟨rfl, rfl, rfl, by decide +kernel, rfl, by decide +kernel, by decide +kernel⟩
theorem ok_own_test (T : Bt mg) (F : Fun K "_law_own_test" "_law_own_test" s_law_own_test f fd) : FnOk P W K mg base CX0 1 f fd ["draws"] (spA K 1 arDw preDw fun ds => (ownT ds).toD) := by
  refine fn_A F sc_law_own_test rfl fun cdv A outer s H1 E hr => ⟨_, (pss_cons (ps_set (i := 1) sc_law_own_test.nd rfl (Or.inl rfl) (pe_op op_mod (pe_callTy cr_int (by rfl) T.int (by decide +kernel) (pa_cons (pe_ix ix_seq (pv 0) pe_int (fun _ _ => rfl)) pa_nil)) pe_int))
      (pss_cons (ps_if (pt_cmpR op_ltA (pv 1) pe_int (nomark _)) (pss_one (ps_ret (RR.pe_tupF (pa_cons pe_str (pa_cons (pe_ix ix_seq pe_str (pe_op op_mod (pe_callTy cr_int (by rfl) T.int (by decide +kernel) (pa_cons (pe_ix ix_seq (pv 0) pe_int (fun _ _ => rfl)) pa_nil)) pe_int) (fun _ _ => rfl)) pa_nil))))) pss_nil)
      (pss_cons (ps_if (pt_cmpR (op_eqA hr.units) (pv 1) pe_int (nomark _)) (pss_one (ps_ret (RR.pe_tupF (pa_cons pe_str (pa_cons (pe_ix ix_seq pe_str (pe_op op_mod (pe_callTy cr_int (by rfl) T.int (by decide +kernel) (pa_cons (pe_ix ix_seq (pv 0) pe_int (fun _ _ => rfl)) pa_nil)) pe_int) (fun _ _ => rfl)) pa_nil))))) pss_nil)
      (pss_cons (ps_if (pt_cmpR op_ltA (pv 1) pe_int (nomark _)) (pss_one (ps_ret (RR.pe_tupF (pa_cons pe_str (pa_cons (pe_ix ix_seq pe_str (pe_op op_mod (pe_callTy cr_int (by rfl) T.int (by decide +kernel) (pa_cons (pe_ix ix_seq (pv 0) pe_int (fun _ _ => rfl)) pa_nil)) pe_int) (fun _ _ => rfl)) (pa_cons (pe_ix ix_seq (pe_lst (pa_cons pe_str (pa_cons pe_str (pa_cons pe_str pa_nil)))) (pe_op op_mod (pe_callTy cr_int (by rfl) T.int (by decide +kernel) (pa_cons (pe_ix ix_seq (pv 0) pe_int (fun _ _ => rfl)) pa_nil)) pe_int) (fun _ _ => rfl)) pa_nil)))))) pss_nil)
      (pss_cons (ps_if (pt_cmpR (op_eqA hr.units) (pv 1) pe_int (nomark _)) (pss_one (ps_ret (RR.pe_tupF (pa_cons pe_str (pa_cons (pe_ix ix_seq (pe_lst (pa_cons pe_str (pa_cons pe_str (pa_cons pe_str pa_nil)))) (pe_op op_mod (pe_callTy cr_int (by rfl) T.int (by decide +kernel) (pa_cons (pe_ix ix_seq (pv 0) pe_int (fun _ _ => rfl)) pa_nil)) pe_int) (fun _ _ => rfl)) pa_nil))))) pss_nil)
      (pss_one (ps_ret (pe_ifExp (pt_cmpR (op_eqA hr.units) (pv 1) pe_int (nomark _)) (RR.pe_tupF (pa_cons pe_str pa_nil)) (RR.pe_tupF (pa_cons pe_str pa_nil)))))))))), fun vs ds H A hl sm dv hp => ?_⟩
  obtain ⟨h9, hz⟩ := hp
  obtain ⟨v, rfl, d1⟩ := DvA.inv1 dv
  refine gb_set (d := .int (dAt ds 0 % 9)) (gd_mod (gd_drawI 0 rfl d1 (by omega)) (by decide)) fun v1 G1 H1 p1 dv1 => ?_
  have e1 := Dv.int_inv dv1
  subst e1
  have d1' := d1.to p1.hg
  obtain ⟨way, hw⟩ : ∃ w, w = dAt ds 0 % 9 := ⟨_, rfl⟩
  rw [← hw]
  have gw : ∀ {G' H'}, GD K (tVar 1) [some v, some (.int way)] G' H' (.int way) := gd_var (i := 1) rfl (.int _)
  have m3 : ∀ i : Int, 0 ≤ i % 3 ∧ i % 3 < 3 := fun i => by omega
  have m2 : ∀ i : Int, 0 ≤ i % 2 ∧ i % 2 < 2 := fun i => by omega
  refine gb_if (gt_test (gdo gw gd_int go_ltI)) (fun c => ?_) fun c => ?_
  · refine gb_ret (gd_tup (ga_cons gd_str (ga_cons (gd_sgn (l := ["a", "b", "c"]) (by decide +kernel) (by decide +kernel) (gd_mod (gd_drawI 1 rfl d1' (by omega)) (by decide)) (m3 _).1 (m3 _).2) ga_nil))) ?_
    unfold ownT
    dsimp only
    rw [← hw, if_pos (of_decide_eq_true c), Tst.toD_leaf]; rfl
  have n1 : ¬ way < 3 := of_decide_eq_false c
  refine gb_if (gt_test (gdo gw gd_int go_eqI)) (fun c => ?_) fun c => ?_
  · refine gb_ret (gd_tup (ga_cons gd_str (ga_cons (gd_sgn (l := ["m", "n"]) (by decide +kernel) (by decide +kernel) (gd_mod (gd_drawI 1 rfl d1' (by omega)) (by decide)) (m2 _).1 (m2 _).2) ga_nil))) ?_
    unfold ownT
    dsimp only
    rw [← hw, if_neg n1, if_pos (of_decide_eq_true c), Tst.toD_leaf]; rfl
  have n2 : ¬ way = 3 := of_decide_eq_false c
  refine gb_if (gt_test (gdo gw gd_int go_ltI)) (fun c => ?_) fun c => ?_
  · refine gb_ret (gd_tup (ga_cons gd_str (ga_cons (gd_sgn (l := ["m", "n"]) (by decide +kernel) (by decide +kernel) (gd_mod (gd_drawI 1 rfl d1' (by omega)) (by decide)) (m2 _).1 (m2 _).2) (ga_cons (gd_pickS (l := ["", "1", "x"]) (gd_lst (ga_cons gd_str (ga_cons gd_str (ga_cons gd_str ga_nil)))) (gd_mod (gd_drawI 2 rfl d1' (by omega)) (by decide)) (m3 _).1 (m3 _).2) ga_nil)))) ?_
    unfold ownT
    dsimp only
    rw [← hw, if_neg n1, if_neg n2, if_pos (of_decide_eq_true c), Tst.toD_leaf]; rfl
  have n3 : ¬ way < 6 := of_decide_eq_false c
  refine gb_if (gt_test (gdo gw gd_int go_eqI)) (fun c => ?_) fun c => ?_
  · refine gb_ret (gd_tup (ga_cons gd_str (ga_cons (gd_pickS (l := ["x", "y", ""]) (gd_lst (ga_cons gd_str (ga_cons gd_str (ga_cons gd_str ga_nil)))) (gd_mod (gd_drawI 1 rfl d1' (by omega)) (by decide)) (m3 _).1 (m3 _).2) ga_nil))) ?_
    unfold ownT
    dsimp only
    rw [← hw, if_neg n1, if_neg n2, if_neg n3, if_pos (of_decide_eq_true c), Tst.toD_leaf]; rfl
  have n4 : ¬ way = 6 := of_decide_eq_false c
  refine gb_ret (d := (ownT ds).toD) (gd_if (gt_test (gdo gw gd_int go_eqI)) (fun c => ?_) fun c => ?_) rfl
  · have e : (ownT ds).toD = .tuple [.str "any"] := by
      unfold ownT
      dsimp only
      rw [← hw, if_neg n1, if_neg n2, if_neg n3, if_neg n4, if_pos (of_decide_eq_true c), Tst.toD_leaf]; rfl
    rw [e]
    exact gd_tup (ga_cons gd_str ga_nil)
  · have e : (ownT ds).toD = .tuple [.str "first"] := by
      unfold ownT
      dsimp only
      rw [← hw, if_neg n1, if_neg n2, if_neg n3, if_neg n4, if_neg (of_decide_eq_false c), Tst.toD_leaf]; rfl
    rw [e]
    exact gd_tup (ga_cons gd_str ga_nil)
def arLt : List Int × Nat × Bool → List PyData := fun x => [intsD x.1, ofN x.2.1, .bool x.2.2]
def preLt (j : Nat) (x : List Int × Nat × Bool) : Prop := preDw x.1 ∧ x.2.1 < j
abbrev s_law_test : Stmt := topS 36
theorem sc_law_test : FnScope ["draws", "deep", "back", "way", "more", "rest", "parts"] ["draws", "deep", "back"] (defScope s_law_test) := ⟨rfl, rfl, rfl, by decide +kernel, rfl, by decide +kernel, by decide +kernel⟩
theorem ok_law_test_step {j : Nat} (T : Bt mg) (F : Fun K "_law_test" "_law_test" s_law_test f fd) (c_law_own_test : Cal P W K mg base 1 "_law_own_test" (spA K 1 arDw preDw fun ds => (ownT ds).toD)) (c_law_test : Cal P W K mg base (j + 1) "_law_test" (spA K 3 arLt (preLt j) fun x => (lawT x.2.1 x.1 x.2.2).toD)) : FnOk P W K mg base CX0 (j + 2) f fd ["draws", "deep", "back"] (spA K 3 arLt (preLt (j + 1)) fun x => (lawT x.2.1 x.1 x.2.2).toD) := by
  refine fn_A F sc_law_test rfl fun cdv A outer s H1 E hr => ⟨_, (pss_cons (ps_set (i := 3) sc_law_test.nd rfl (Or.inl rfl) (pe_op op_mod (pe_callTy cr_int (by rfl) T.int (by decide +kernel) (pa_cons (pe_ix ix_seq (pv 0) pe_int (fun _ _ => rfl)) pa_nil)) pe_int))
      (pss_cons (ps_if (PW.pt (pw_or (pt_cmpR (op_eqA hr.units) (pv 1) pe_int (nomark _)) (pw_or1 (pt_cmpR op_ltA (pv 3) pe_int (nomark _))))) (pss_one (ps_ret (pe_k c_law_own_test hr (by omega) (pa_cons (pv 0) pa_nil)))) pss_nil)
      (pss_cons (ps_set (i := 4) sc_law_test.nd rfl (Or.inl rfl) (pe_op op_addA (pe_slice sl_D (pv 0) (po_some pe_int) po_none) (pe_slice sl_D (pv 0) po_none (po_some pe_int))))
      (pss_cons (ps_if (pt_cmpR op_ltA (pv 3) pe_int (nomark _)) (pss_one (ps_ret (RR.pe_tupF (pa_cons pe_str (pa_cons (pe_k c_law_test hr (by omega) (pa_cons (pv 4) (pa_cons (pe_op op_sub (pv 1) pe_int) (pa_cons (pv 2) pa_nil)))) pa_nil))))) pss_nil)
      (pss_cons (ps_if (pt_cmpR op_ltA (pv 3) pe_int (nomark _)) (pss_one (ps_ret (RR.pe_tupF (pa_cons (pe_ix ix_seq (pe_lst (pa_cons pe_str (pa_cons pe_str (pa_cons pe_str (pa_cons pe_str pa_nil))))) (pe_op op_sub (pv 3) pe_int) (fun _ _ => rfl)) (pa_cons (pe_k c_law_test hr (by omega) (pa_cons (pv 4) (pa_cons (pe_op op_sub (pv 1) pe_int) (pa_cons (pv 2) pa_nil)))) pa_nil))))) pss_nil)
      (pss_cons (ps_if (pt_cmpR op_ltA (pv 3) pe_int (nomark _)) (pss_cons (ps_set (i := 5) sc_law_test.nd rfl (Or.inl rfl) (pe_op op_addA (pe_slice sl_D (pv 4) (po_some pe_int) po_none) (pe_slice sl_D (pv 4) po_none (po_some pe_int))))
      (pss_cons (ps_set (i := 6) sc_law_test.nd rfl (Or.inl rfl) (RR.pe_tupF (pa_cons (pe_k c_law_test hr (by omega) (pa_cons (pv 4) (pa_cons (pe_op op_sub (pv 1) pe_int) (pa_cons (pv 2) pa_nil)))) (pa_cons (pe_k c_law_test hr (by omega) (pa_cons (pv 5) (pa_cons (pe_op op_sub (pv 1) pe_int) (pa_cons (pv 2) pa_nil)))) pa_nil))))
      (pss_one (ps_ret (RR.pe_tupF (pa_cons (pe_ifExp (pt_cmpR op_ltA (pv 3) pe_int (nomark _)) pe_str pe_str) (pa_cons (pv 6) pa_nil))))))) pss_nil)
      (pss_cons (ps_if (pt_tr (pv 2)) (pss_one (ps_ret (pe_k c_law_own_test hr (by omega) (pa_cons (pv 0) pa_nil)))) pss_nil)
      (pss_cons (ps_if (pt_cmpR (op_eqA hr.units) (pv 3) pe_int (nomark _)) (pss_one (ps_ret (RR.pe_tupF (pa_cons (pe_ix ix_seq (pe_lst (pa_cons pe_str (pa_cons pe_str pa_nil))) (pe_op op_mod (pe_callTy cr_int (by rfl) T.int (by decide +kernel) (pa_cons (pe_ix ix_seq (pv 0) pe_int (fun _ _ => rfl)) pa_nil)) pe_int) (fun _ _ => rfl)) (pa_cons (pe_k c_law_test hr (by omega) (pa_cons (pv 4) (pa_cons (pe_op op_sub (pv 1) pe_int) (pa_cons (pv 2) pa_nil)))) pa_nil))))) pss_nil)
      (pss_one (ps_ret (RR.pe_tupF (pa_cons (pe_ix ix_seq (pe_lst (pa_cons pe_str (pa_cons pe_str pa_nil))) (pe_op op_mod (pe_callTy cr_int (by rfl) T.int (by decide +kernel) (pa_cons (pe_ix ix_seq (pv 0) pe_int (fun _ _ => rfl)) pa_nil)) pe_int) (fun _ _ => rfl)) pa_nil)))))))))))), fun vs x H A hl sm dv hp => ?_⟩
  obtain ⟨ds, n, bk⟩ := x
  obtain ⟨hd, hnj⟩ := hp
  have hnj : n < j + 1 := hnj
  obtain ⟨h9, hz⟩ := id hd
  have h9 : 9 ≤ ds.length := h9
  have hz : ds.length ≤ 100 := hz
  obtain ⟨v, u, w, rfl, d1, d2, d3⟩ := DvA.inv3 dv
  have e2 := Dv.int_inv d2
  have e3 := Dv.bl_inv d3
  subst e2 e3
  refine gb_set (d := .int (dAt ds 3 % 14)) (gd_mod (gd_drawI 3 rfl d1 (by omega)) (by decide)) fun v1 G1 H1 p1 dv1 => ?_
  have e1 := Dv.int_inv dv1
  subst e1
  have d1' := d1.to p1.hg
  obtain ⟨way, hw⟩ : ∃ w, w = dAt ds 3 % 14 := ⟨_, rfl⟩
  rw [← hw]
  have hw0 : 0 ≤ way ∧ way < 14 := by omega
  refine gb_if (gt_or (gt_test (gdo (K := K) (gd_var (i := 1) rfl (.int (n : Int))) gd_int go_eqI)) fun _ => gt_test (gdo (K := K) (gd_var (i := 3) rfl (.int way)) gd_int go_ltI)) (fun c => ?_) fun c => ?_
  · refine gb_ret (d := (ownT ds).toD) (gd_callA (ar := arDw) (f := fun ds => (ownT ds).toD) ds (ga_cons (gd_var (i := 0) rfl d1') ga_nil) rfl hd) ?_
    show _ = (lawT n ds bk).toD
    rcases (Bool.or_eq_true _ _).mp c with c | c
    · have : (n : Int) = 0 := of_decide_eq_true c
      have hn : n = 0 := by omega
      subst hn
      rfl
    · cases n with
      | zero => rfl
      | succ n =>
        unfold lawT
        dsimp only
        rw [← hw, if_pos (of_decide_eq_true c)]
  have cc := (Bool.or_eq_false_iff.mp c)
  have hn0 : ¬ (n : Int) = 0 := of_decide_eq_false cc.1
  have n1 : ¬ way < 3 := of_decide_eq_false cc.2
  obtain ⟨m, rfl⟩ : ∃ m, n = m + 1 := ⟨n - 1, by omega⟩
  refine gb_set (d := intsD (rot 5 ds)) (gd_rot 5 rfl d1' (by omega) (by omega)) fun v4 G4 H4 p4 dv4 => ?_
  have d1'' := d1'.to p4.hg
  have hr5 : preDw (rot 5 ds) := by
    unfold preDw
    rw [rot_len 5 ds (by omega)]
    exact ⟨h9, hz⟩
  have hr3 : preDw (rot 3 (rot 5 ds)) := by
    unfold preDw
    rw [rot_len 3 _ (by rw [rot_len 5 ds (by omega)]; omega), rot_len 5 ds (by omega)]
    exact ⟨h9, hz⟩
  have gsub : ∀ {σ : L2.St} {G' H' : Hp}, σ[1]? = some (some (.int ((m + 1 : Nat) : Int))) → GD K (tOp (rI0 fun i j => .int (i - j)) (tVar 1) (tC (.int 1))) σ G' H' (ofN m) := fun {σ G' H'} h => by
    have g := gdo (K := K) (σ := σ) (H := G') (A := H') (gd_var h (.int ((m + 1 : Nat) : Int))) (gd_int (i := 1)) (go_i2 (f := fun i j => i - j))
    have z : (((m + 1 : Nat) : Int) - 1) = (m : Int) := by omega
    rw [z] at g
    exact g
  have gcal : ∀ {σ : L2.St} {G' H' : Hp} {k : Nat} {ds' : List Int} {y : V}, σ[k]? = some (some y) → Dv K G' y (intsD ds') → preDw ds' → σ[1]? = some (some (.int ((m + 1 : Nat) : Int))) → σ[2]? = some (some (.bl bk)) → GD K (tCall (spA K 3 arLt (preLt j) fun x => (lawT x.2.1 x.1 x.2.2).toD) [] E0 (tCons (tVar k) (tCons (tOp (rI0 fun i j => .int (i - j)) (tVar 1) (tC (.int 1))) (tCons (tVar 2) tNil)))) σ G' H' (lawT m ds' bk).toD := fun {σ G' H' k ds' y} hk dy hp' h1 h2 =>
    gd_callA (K := K) (ar := arLt) (Pre := preLt j) (f := fun x => (lawT x.2.1 x.1 x.2.2).toD) (ds', m, bk) (ga_cons (gd_var hk dy) (ga_cons (gsub h1) (ga_cons (gd_var h2 (.bl bk)) ga_nil))) rfl ⟨hp', by show m < j; omega⟩
  have el : (lawT (m + 1) ds bk).toD = (if way < 5 then Tst.un "not" (lawT m (rot 5 ds) bk) else if way < 9 then .un (sAt ["under", "in", "next", "behind"] (way - 5)) (lawT m (rot 5 ds) bk) else if way < 12 then .many (if way < 11 then "both" else "one") [lawT m (rot 5 ds) bk, lawT m (rot 3 (rot 5 ds)) bk] else if bk = true then ownT ds else if way = 12 then .un (sAt ["over", "has"] (dAt ds 4 % 2)) (lawT m (rot 5 ds) bk) else .leaf (sAt ["last", "empty"] (dAt ds 4 % 2)) []).toD := by
    conv => lhs; unfold lawT
    dsimp only
    rw [← hw, if_neg n1]
  refine gb_imp (R := fun d => d = (lawT (m + 1) ds bk).toD) ?_ fun d h => h
  rw [el]
  have gw : ∀ {x4 x5 x6 : Option V} {G' H'}, GD K (tVar 3) [some v, some (.int ((m + 1 : Nat) : Int)), some (.bl bk), some (.int way), x4, x5, x6] G' H' (.int way) := gd_var (i := 3) rfl (.int _)
  refine gb_if (gt_test (gdo gw gd_int go_ltI)) (fun c => ?_) fun c => ?_
  · rw [if_pos (of_decide_eq_true c)]
    exact gb_ret (gd_tup (ga_cons gd_str (ga_cons (gcal (k := 4) rfl dv4 hr5 rfl rfl) ga_nil))) (by rw [Tst.toD_un])
  rw [if_neg (of_decide_eq_false c)]
  have n2 : ¬ way < 5 := of_decide_eq_false c
  refine gb_if (gt_test (gdo gw gd_int go_ltI)) (fun c => ?_) fun c => ?_
  · have c9 : way < 9 := of_decide_eq_true c
    rw [if_pos c9]
    exact gb_ret (gd_tup (ga_cons (gd_pickS (l := ["under", "in", "next", "behind"]) (gd_lst (ga_cons gd_str (ga_cons gd_str (ga_cons gd_str (ga_cons gd_str ga_nil))))) (gdo gw gd_int (go_i2 (f := fun i j => i - j))) (by omega) (by show way - 5 < 4; omega)) (ga_cons (gcal (k := 4) rfl dv4 hr5 rfl rfl) ga_nil))) (by rw [Tst.toD_un])
  rw [if_neg (of_decide_eq_false c)]
  refine gb_if (gt_test (gdo gw gd_int go_ltI)) (fun c => ?_) fun c => ?_
  · rw [if_pos (of_decide_eq_true c)]
    refine gb_set (d := intsD (rot 3 (rot 5 ds))) (gd_rot 3 rfl dv4 (by rw [rot_len 5 ds (by omega)]; omega) (by rw [rot_len 5 ds (by omega)]; omega)) fun v5 G5 H5 p5 dv5 => ?_
    refine gb_set (d := .tuple [(lawT m (rot 5 ds) bk).toD, (lawT m (rot 3 (rot 5 ds)) bk).toD]) (gd_tup (ga_cons (gcal (k := 4) rfl (dv4.to p5.hg) hr5 rfl rfl) (ga_cons (gcal (k := 5) rfl dv5 hr3 rfl rfl) ga_nil))) fun v6 G6 H6 p6 dv6 => ?_
    refine gb_ret (gd_tup (ga_cons (d := .str (if way < 11 then "both" else "one")) (gd_if (gt_test (gdo gw gd_int go_ltI)) (fun c => ?_) fun c => ?_) (ga_cons (gd_var (i := 6) rfl dv6) ga_nil))) (by rw [Tst.toD_many]; rfl)
    · rw [if_pos (of_decide_eq_true c)]; exact gd_str
    · rw [if_neg (of_decide_eq_false c)]; exact gd_str
  rw [if_neg (of_decide_eq_false c)]
  refine gb_if (gt_tr (gd_var (i := 2) rfl (.bl bk))) (fun c => ?_) fun c => ?_
  · have cb : bk = true := c
    rw [if_pos cb]
    exact gb_ret (d := (ownT ds).toD) (gd_callA (ar := arDw) (f := fun ds => (ownT ds).toD) ds (ga_cons (gd_var (i := 0) rfl d1'') ga_nil) rfl hd) rfl
  have cb : bk = false := c
  rw [if_neg (by rw [cb]; exact Bool.false_ne_true)]
  have m2 : ∀ i : Int, 0 ≤ i % 2 ∧ i % 2 < 2 := fun i => by omega
  refine gb_if (gt_test (gdo gw gd_int go_eqI)) (fun c => ?_) fun c => ?_
  · rw [if_pos (of_decide_eq_true c)]
    exact gb_ret (gd_tup (ga_cons (gd_pickS (l := ["over", "has"]) (gd_lst (ga_cons gd_str (ga_cons gd_str ga_nil))) (gd_mod (gd_drawI 4 rfl d1'' (by omega)) (by decide)) (m2 _).1 (m2 _).2) (ga_cons (gcal (k := 4) rfl dv4 hr5 rfl rfl) ga_nil))) (by rw [Tst.toD_un])
  · rw [if_neg (of_decide_eq_false c)]
    exact gb_ret (gd_tup (ga_cons (gd_pickS (l := ["last", "empty"]) (gd_lst (ga_cons gd_str (ga_cons gd_str ga_nil))) (gd_mod (gd_drawI 4 rfl d1'' (by omega)) (by decide)) (m2 _).1 (m2 _).2) ga_nil)) (by rw [Tst.toD_leaf]; rfl)
theorem cal_law_test (T : Bt mg) (F : Fun K "_law_test" "_law_test" s_law_test f fd) (hm : mg "_law_test" = some (.ref f)) (b : Binds K fd ["draws", "deep", "back"] []) (c : Cal P W K mg base 1 "_law_own_test" (spA K 1 arDw preDw fun ds => (ownT ds).toD)) : ∀ j, Cal P W K mg base (j + 1) "_law_test" (spA K 3 arLt (preLt j) fun x => (lawT x.2.1 x.1 x.2.2).toD)
  | 0 => cal_mk F (fn_none fun vs H Q E h => by
      obtain ⟨_, _, _, _, _, hp, _⟩ := h
      exact absurd hp.2 (Nat.not_lt_zero _)) hm b
  | j + 1 => cal_mk F (ok_law_test_step T F c (cal_law_test T F hm b c j)) hm b
/-! ### the script of a law -/
def spLw (K : PySem.W.Frag) : Sp := fun vs H Q _ => ∃ (s : Addr) (ns : List Int), vs = [.ref s] ∧ SqL K H s (ns.map V.int) ∧ ns.length ≤ 63 ∧ ∀ H', Q (.bl true) H'
theorem gi_scr {s : Addr} {ns : List Int} (h : σ[i]? = some (some (.ref s))) (e : SqL K H s (ns.map V.int)) : GI K (iSeq K (tVar i)) σ H A (ns.map .int) := gi_l fun H0 H1 p R q => ⟨.ref s, h, s, rfl, ⟨_, p.same.seq e⟩, q _ H0 H1 (.refl p.gh) (runs_list (p.hg.seq e) DvA.ints)⟩
/-- draws = _law_draws(cell, m) -/
theorem s_draws {i : Nat} {m : Nat} {c : Int} {G : Hp} (g : GD K te σ G H (.int c)) (s : Same G H) (hm : m ≤ 100) (k : ∀ ds v G' H', ds.length = m → (∀ x ∈ ds, 0 ≤ x ∧ x < 1000) → Pub G H G' H' → Dv K G' v (intsD ds) → tr D (σ.set i (some v)) H') :
    tSeq (tAsg (tCall (spD K 2 preDraws resDraws) [] E0 (tCons te (tCons (tC (.int (m : Int))) tNil))) (gName i)) tr D σ H := g.to (.refl s) fun u G1 H1 p1 du => by
  refine ⟨by rfl, G1, [.int c, .int (m : Int)], p1.gh, .cons du (.cons (.int _) .nil), ⟨c, m, rfl, by omega, by omega⟩, ?_⟩
  intro d r v G2 H2 p2 dv
  obtain ⟨c', m', e, ds, rfl, hl, hb⟩ := r
  have e2 : m' = (m : Int) := by
    simp at e
    exact e.2.symm
  subst e2
  exact k ds v G2 H2 (by omega) hb (p1.trans p2) dv
end
end LW
end
section
set_option Elab.async false
set_option linter.all false
set_option maxRecDepth 100000
set_option maxHeartbeats 4000000
namespace LM
open PySem DL LW
/-! ### what the program takes for a test -/
def manyB (f : PyData → Bool) : PyData → Bool
  | .tuple ds => (decide ((2 : Int) ≤ (ds.length : Int)) && decide ((ds.length : Int) ≤ 4)) && ds.all f
  | _ => false
def argB (f : PyData → Bool) (d : PyData) (s : Str) : Bool :=
  if s = "n" then nameD d else if s = "s" then plainD d else if s = "t" then f d else manyB f d
def tstB : Nat → PyData → Bool
  | 0, _ => false
  | n + 1, .tuple (.str w :: r) => (match tabO ARGS w with
    | none => false
    | some sg => decide (r.length = sg.length) && (r.zip (sgs sg)).all fun p => argB (tstB n) p.1 p.2)
  | _ + 1, _ => false
theorem zipD_strs (r : List PyData) (l : List Str) : zipD r (l.map .str) = (r.zip l).map fun x => .tuple [x.1, .str x.2] := by
  unfold zipD
  rw [List.zip_map_right, List.map_map]
  rfl
end LM
namespace LW
open PySem PySem.Spec PyProof.Rows L2 DL LM
/-- the table of the words -/
structure Bar (mg : Str → Option Value) (K : PySem.W.Frag) (w : World) : Prop where
  ex : ∃ aA : Addr, mg "ARGUMENTS" = some (.ref aA) ∧ IsTab K w aA ARGS
section
variable {P : Program} {W : World} {K : PySem.W.Frag} {mg : Str → Option Value} {base : Heap} {f : Addr} {fd : FuncData} {A A2 H H' H0 H1 H2 G G2 Hc : Hp} {σ : L2.St} {t te td tn tv t1 t2 : TE} {tr : TS} {ts : TS} {D : Ends} {tA : TA} {n i j : Nat} {p b : Addr} {xs ys : List V} {v : V} {d : PyData} {ds es : List PyData}
theorem gd_anyq {g : PyData → Bool} (gg : GD K te σ H A d) (h : strOk d) : GD K (tCall (spF K 1 preV (oneF g)) [] E0 (tCons te tNil)) σ H A (.bool (g d)) := by
  have x := gd_call (K := K) (f := oneF g) (Pre := preV) (ga_cons gg ga_nil) rfl ⟨d, rfl, fun s e => Nat.le_trans (h s e).1 (by decide)⟩
  exact x
def arTn : PyData × Nat → List PyData := fun x => [x.1, ofN x.2]
def preTn (j : Nat) (x : PyData × Nat) : Prop := x.2 < j ∧ Cl x.2 x.1
def fTn (x : PyData × Nat) : PyData := .bool (tstB x.2 x.1)
def arAr : PyData × Str × Nat → List PyData := fun x => [x.1, .str x.2.1, ofN x.2.2]
def preAr (j : Nat) (x : PyData × Str × Nat) : Prop := 1 ≤ x.2.2 ∧ x.2.2 ≤ j ∧ strOk x.1 ∧ (x.2.1 = "t" → Cl (x.2.2 - 1) x.1) ∧ (x.2.1 ≠ "n" → x.2.1 ≠ "s" → x.2.1 ≠ "t" → ∀ ys, x.1 = .tuple ys → ys.length ≤ 1000 ∧ ∀ y ∈ ys, Cl (x.2.2 - 1) y)
def fAr (x : PyData × Str × Nat) : PyData := .bool (argB (tstB (x.2.2 - 1)) x.1 x.2.1)
theorem gd_tst {j : Nat} {m : Nat} (g : GD K te σ H A d) (g2 : GD K tn σ H A (ofN m)) (hm : m < j) (hc : Cl m d) : GD K (tCall (spA K 2 arTn (preTn j) fTn) [] E0 (tCons te (tCons tn tNil))) σ H A (.bool (tstB m d)) := gd_callA (K := K) (ar := arTn) (f := fTn) (d, m) (ga_cons g (ga_cons g2 ga_nil)) rfl ⟨hm, hc⟩
theorem gd_sub1 {m : Nat} (g : GD K te σ H A (ofN m)) (h : 1 ≤ m) : GD K (tOp (rI0 fun i j => .int (i - j)) te (tC (.int 1))) σ H A (ofN (m - 1)) := by
  have g := gdo g (gd_int (i := 1)) (go_i2 (f := fun i j => i - j))
  have z : ((m : Int) - 1) = ((m - 1 : Nat) : Int) := by omega
  rw [z] at g
  exact g
theorem sig_mem {w sg s : Str} (h : tabO ARGS w = some sg) (hs : s ∈ sgs sg) (h4 : lawKind w ≠ 4) : s = "n" ∨ s = "s" ∨ s = "t" := by
  rw [tab_kind] at h
  have hk : ∀ k sg, k ≠ 4 → kindSig k = some sg → ∀ s ∈ sgs sg, s = "n" ∨ s = "s" ∨ s = "t" := fun k sg hk h => by
    match k, h with
    | 0, h => cases h; intro s hs; cases hs
    | 1, h => cases h; decide +kernel
    | 2, h => cases h; decide +kernel
    | 3, h => cases h; decide +kernel
    | 4, h => exact absurd rfl hk
    | 5, h => cases h; decide +kernel
    | k + 6, h => cases h
  exact hk _ sg h4 h s hs
theorem sig_mem4 {w sg s : Str} (h : tabO ARGS w = some sg) (hs : s ∈ sgs sg) (h4 : lawKind w = 4) : s = "p" := by
  rw [tab_kind, h4] at h
  cases h
  have : ∀ s ∈ sgs ("p" : Str), s = "p" := by decide +kernel
  exact this s hs
theorem cut1 {h : PyData} {r : List PyData} : DL.cutD (h :: r) (some 1) none = r := by
  unfold DL.cutD
  have e := HT.sIx_nat (h :: r).length 0 1
  have e2 : HT.sIx (h :: r).length 0 (some 1) = 1 := e.trans (by rw [List.length_cons]; omega)
  rw [HT.sIx_none, e2, List.drop_succ_cons, List.drop_zero, List.length_cons, Nat.add_sub_cancel, List.take_length]
theorem sgs_short {sg : Str} {w : Str} (h : tabO ARGS w = some sg) : sg.length ≤ 1000 := by
  unfold tabO at h
  obtain ⟨p, hp, rfl⟩ := Option.map_eq_some_iff.mp h
  have m := List.mem_of_find?_eq_some hp
  have : ∀ p ∈ ARGS, p.2.length ≤ 1000 := by decide +kernel
  exact this p m
def fT6 (d : PyData) : PyData := .bool (tstB 6 d)
end
end LW
end
section
set_option Elab.async false
set_option linter.all false
set_option maxRecDepth 100000
set_option maxHeartbeats 4000000
/-! a rule that the hand layer lacks: {k: v for a in xs for b in ys} without tests -/
namespace RR
open PySem PySem.Spec PyProof.Rows L2
abbrev dcx (kx vx t0 i0 t1 i1 : Expr) (sc : Scope) (ps : Pos) : Expr := .DictComp kx vx [⟨t0, i0, [], 0⟩, ⟨t1, i1, [], 0⟩] sc ps
theorem turn_o (kx vx t0 i0 t1 i1 : Expr) (sc : Scope) (ps : Pos) (it acc : Value) (env : Env) : compTurn (dcx kx vx t0 i0 t1 i1 sc ps) 0 it acc env = (do
    standAt i0.pos
    match ← pyNext it with
    | none => pure (.done .next)
    | some y =>
      letOwnedTupleGo t0 it y
      assign t0 env y
      let mut go := true
      for c in ([] : List Expr) do
        if go then go ← isTrue c env (eval c env)
      if go then
        let u ← eval i1 env
        standAt i1.pos
        let u ← foldedSetIterable i1 env u
        let _ ← runOwn (.compStart (dcx kx vx t0 i0 t1 i1 sc ps) 1 (← holding [u] (pyIter u)) acc env) env
      again (.compLoop (dcx kx vx t0 i0 t1 i1 sc ps) 0 it acc env)) := by rfl
theorem turn_i (kx vx t0 i0 t1 i1 : Expr) (sc : Scope) (ps : Pos) (it : Value) (D : Addr) (env : Env) : compTurn (dcx kx vx t0 i0 t1 i1 sc ps) 1 it (.ref D) env = (do
    standAt i1.pos
    match ← pyNext it with
    | none => pure (.done .next)
    | some y =>
      letOwnedTupleGo t1 it y
      assign t1 env y
      let mut go := true
      for c in ([] : List Expr) do
        if go then go ← isTrue c env (eval c env)
      if go then
        (do
          let a ← eval kx env
          let b ← holding [a] (eval vx env)
          standAt { kx.pos with endLine := vx.pos.endLine, endCol := vx.pos.endCol }
          holding [a, b] (dictSet D a b))
      again (.compLoop (dcx kx vx t0 i0 t1 i1 sc ps) 1 it (.ref D) env)) := by rfl
section
variable {pr : Program} {wo : World} {Ar : Around} {Rs : Result → Shared → Prop} {s : Shared} {kx vx t0 i0 t1 i1 : Expr} {sc : Scope} {ps : Pos} {it : Value} {D : Addr} {env : Env}
def no : Value → Shared → Prop := fun _ _ => False
theorem loop_o (hf : ∀ x, foldedSetIterable i1 env x = pure x) (J : Nat → Shared → Prop)
    (st : ∀ n s, J n s → wpAny (model pr wo) Ar (pyNext it) (fun r sa => match r with
      | none => Rs (.ok .next) sa
      | some y => wpAny (model pr wo) Ar (letOwnedTupleGo t0 it y) (fun _ sb => wpAny (model pr wo) Ar (assign t0 env y) (fun _ sd => wpAny (model pr wo) Ar (eval i1 env) (fun u se => wpAny (model pr wo) Ar (pyIter u) (fun j sf =>
          codeAny (model pr wo) Ar (.compStart (dcx kx vx t0 i0 t1 i1 sc ps) 1 j (.ref D) env) (fun r sg => match r with | .ok _ => ∃ m, m < n ∧ J m sg | .error _ => False) sf) no se) no sd) no sb) no sa) no s)
    (n : Nat) (h : J n s) : codeAny (model pr wo) Ar (.compLoop (dcx kx vx t0 i0 t1 i1 sc ps) 0 it (.ref D) env) Rs s := by
  refine codeAny_loop rfl J (fun n s hJ => ?_) n h
  show wpAny _ Ar ((compTurn (dcx kx vx t0 i0 t1 i1 sc ps) 0 it (.ref D) env).onRaise fun x => do noteFrame x env; theTreesLotGoes x) _ _ s
  refine wpAny_noted ?_
  rw [turn_o]
  refine wpAny_bind (wpAny_standAt (wpAny_bind (thnF (st n s hJ) fun r sa ha => ?_)))
  cases r with
  | none => exact wpAny_pure ha
  | some y =>
    refine wpAny_bind (thnF ha fun _ sb hb => wpAny_bind (thnF hb fun _ sd hd => wpAny_bind (wpAny_pure ?_)))
    refine wpAny_bind (thnF hd fun u se he => wpAny_bind (wpAny_standAt (wpAny_bind (wpAny_of_eq (hf u) (wpAny_bind (wpAny_holding (thnF he fun j sf hj => ?_)))))))
    refine wpAny_bind (wpAny_runOwn ?_)
    rw [Around.mark_none]
    refine codeAny_mono hj fun r sg hg => ?_
    cases r with
    | ok f => first | exact wpAny_pure ⟨rfl, hg⟩ | exact wpAny_bind (wpAny_pure (wpAny_pure ⟨rfl, hg⟩))
    | error e => exact hg.elim
theorem loop_i (J : Nat → Shared → Prop)
    (st : ∀ n s, J n s → wpAny (model pr wo) Ar (pyNext it) (fun r sa => match r with
      | none => Rs (.ok .next) sa
      | some y => wpAny (model pr wo) Ar (letOwnedTupleGo t1 it y) (fun _ sb => wpAny (model pr wo) Ar (assign t1 env y) (fun _ sd => wpAny (model pr wo) Ar (eval kx env) (fun a se => wpAny (model pr wo) Ar (eval vx env) (fun b sf =>
          wpAny (model pr wo) Ar (dictSet D a b) (fun _ sg => ∃ m, m < n ∧ J m sg) no sf) no se) no sd) no sb) no sa) no s)
    (n : Nat) (h : J n s) : codeAny (model pr wo) Ar (.compLoop (dcx kx vx t0 i0 t1 i1 sc ps) 1 it (.ref D) env) Rs s := by
  refine codeAny_loop rfl J (fun n s hJ => ?_) n h
  show wpAny _ Ar ((compTurn (dcx kx vx t0 i0 t1 i1 sc ps) 1 it (.ref D) env).onRaise fun x => do noteFrame x env; theTreesLotGoes x) _ _ s
  refine wpAny_noted ?_
  rw [turn_i]
  refine wpAny_bind (wpAny_standAt (wpAny_bind (thnF (st n s hJ) fun r sa ha => ?_)))
  cases r with
  | none => exact wpAny_pure ha
  | some y =>
    refine wpAny_bind (thnF ha fun _ sb hb => wpAny_bind (thnF hb fun _ sd hd => wpAny_bind (wpAny_pure ?_)))
    exact wpAny_bind (wpAny_bind (thnF hd fun a se he => wpAny_bind (wpAny_holding (thnF he fun b sf hf => wpAny_bind (wpAny_standAt (wpAny_holding (thnF hf fun _ sg hg => wpAny_pure ⟨rfl, hg⟩)))))))
theorem start_i (h0 : codeAny (model pr wo) Ar (.compLoop (dcx kx vx t0 i0 t1 i1 sc ps) 1 it (.ref D) env) Rs s)
    (h : wpAny (model pr wo) Ar (pyIter it) (fun j s' => codeAny (model pr wo) Ar (.compLoop (dcx kx vx t0 i0 t1 i1 sc ps) 1 j (.ref D) env) Rs s') (notedBy (model pr wo) Ar env fun x s' => Rs (.error x) s') s) :
    codeAny (model pr wo) Ar (.compStart (dcx kx vx t0 i0 t1 i1 sc ps) 1 it (.ref D) env) Rs s := by
  refine codeAny_of_tree ?_
  show wpAny _ _ ((compStart (dcx kx vx t0 i0 t1 i1 sc ps) 1 it (.ref D) env).onRaise fun x => do noteFrame x env; standAt theWindowsPlace) _ _ s
  refine wpAny_notedAt ?_
  unfold compStart
  show wpAny _ _ (ask >>= _) _ _ s
  refine wpAny_bind (wpAny_askSetting (wpAny_ite ?_))
  split
  · first | exact wpAny_bind (wpAny_pure (wpAny_pure (And.intro rfl h0))) | exact wpAny_pure (And.intro rfl h0)
  · first
      | exact wpAny_bind (wpAny_rule (wpAny_bind (wpAny_standAt (wpAny_bind (wpAny_mono h (fun j s' hj => wpAny_pure (And.intro rfl hj)) fun _ _ x => x)))))
      | exact wpAny_bind (wpAny_rule (wpAny_bind (m := standAt i1.pos) (wpAny_standAt (wpAny_bind (wpAny_mono h (fun j s' hj => wpAny_pure (And.intro rfl hj)) fun _ _ x => x)))))
end
end RR
end
section
set_option Elab.async false
set_option linter.all false
set_option maxRecDepth 100000
set_option maxHeartbeats 4000000
namespace RR
open PySem PySem.Spec PyProof.Rows L2
/-- {k: v for a in xs for b in ys}: U over the outer loop, U1 over the inner one -/
def tD2 (wi : TI) (g : TG) (wi1 : TI) (g1 : TG) (tk tv : TE) (vs vs1 : List Nat) : TE := fun σ H Q => wi σ H fun J HJ => ∀ D, HJ D = none → ∃ U : Nat → Nat → Hp → Prop, (∃ m, U 0 m (upd HJ D (.dK []))) ∧ ∀ i m Hu, U i m Hu →
  (J.stop i Hu ∧ Q (.ref D) Hu) ∨ (J.go i Hu ∧ ∃ Nx : Hp → Prop, (∀ Hn, Nx Hn → ∃ m', m' < m ∧ U (i + 1) m' Hn) ∧ ∀ x Hy, J.yld i Hu x Hy → g x (wipe σ vs) Hy fun σa Ha => wipe σa vs = wipe σ vs ∧
    wi1 σa Ha fun J1 Hb => ∃ U1 : Nat → Nat → Hp → Prop, (∃ m, U1 0 m Hb) ∧ ∀ j k Hv, U1 j k Hv → (J1.stop j Hv ∧ Nx Hv) ∨ (J1.go j Hv ∧ ∃ Nz : Hp → Prop, (∀ Hn, Nz Hn → ∃ k', k' < k ∧ U1 (j + 1) k' Hn) ∧ ∀ x Hz, J1.yld j Hv x Hz →
      g1 x (wipe σa vs1) Hz fun σb Hc => wipe σb vs1 = wipe σa vs1 ∧ tk σb Hc fun y Hd => tv σb Hd fun z He => ∃ kvs key, y = kV key ∧ He D = some (.dK kvs) ∧ kvs.length < sizeLine ∧ Nz (upd He D (.dK (putK kvs key z)))))
section
variable {X : Cx}
/-- what a turn leaves behind for the loop of its block -/
theorem back_to {Y : Cx} {pins : List (Addr × Obj)} {fp : List Addr} {h7 : Heap} {σ8 σ9 : L2.St} {H' : Hp} {s' : Shared} (I' : L2.Inv Y (pins ++ pinsAt fp h7) σ9 H' s') (hl : σ8.length = σ9.length) (hk : ∀ (j : Nat) v, σ8[j]? = some (some v) → σ9[j]? = some (some v)) (ob : ∀ b ∈ fp, ∃ o, h7.get? b = some o) :
    L2.Inv Y pins σ8 H' s' ∧ (∀ b ∈ fp, ∀ o, h7.get? b = some o → s'.heap.get? b = some o) ∧ ∀ b ∈ fp, H' b = none := by
  have pin : ∀ b ∈ fp, ∀ o, h7.get? b = some o → s'.heap.get? b = some o ∧ H' b = none := fun b hb o e =>
    have z := I'.pin (b, o) (List.mem_append_right _ (List.mem_append_right _ (mem_pinsAt hb e)))
    ⟨z.1, z.2.1⟩
  refine ⟨(I'.unpinned (pins := pins)).weak hl hk, fun b hb o e => (pin b hb o e).1, fun b hb => ?_⟩
  obtain ⟨o, e⟩ := ob b hb
  exact (pin b hb o e).2
theorem pe_d2 {kx vx t0 i0 t1 i1 : Expr} {sc : Scope} {own : List (Str × Nat)} {vs1 : List Nat} {ps : Pos} {wi wi1 : TI} {g g1 : TG} {tk tv : TE} (hc : X.calm = true) (hN : X.N.Nodup) (hi : PI X t0 i0 wi) (bk : BlkOk X.N X.env.scope sc own) (hv : ∀ i ∈ vs1, i ∈ own.map (·.2))
    (hg : ∀ (s : Shared) (H : Hp) (C : Addr) (cl : List (Str × Addr)) (fp : List Addr), PG (X.blk s H sc (compEnvC sc cl C X.env) fp) t0 g) (hi1 : ∀ (s : Shared) (H : Hp) (C : Addr) (cl : List (Str × Addr)) (fp : List Addr), PI (X.blk s H sc (compEnvC sc cl C X.env) fp) t1 i1 wi1)
    (hg1 : ∀ (s : Shared) (H : Hp) (C : Addr) (cl : List (Str × Addr)) (fp : List Addr), PG (X.blk s H sc (compEnvC sc cl C X.env) fp) t1 g1) (hk : ∀ (s : Shared) (H : Hp) (C : Addr) (cl : List (Str × Addr)) (fp : List Addr), PE (X.blk s H sc (compEnvC sc cl C X.env) fp) kx tk)
    (he : ∀ (s : Shared) (H : Hp) (C : Addr) (cl : List (Str × Addr)) (fp : List Addr), PE (X.blk s H sc (compEnvC sc cl C X.env) fp) vx tv) (hs : ∀ x, foldedSetIterable i0 X.env x = pure x := by intro _; rfl) (hs1 : ∀ env x, foldedSetIterable i1 env x = pure x := by intro _ _; rfl) :
    PE X (dcx kx vx t0 i0 t1 i1 sc ps) (tD2 wi g wi1 g1 tk tv (own.map (·.2)) vs1) := by
  refine ⟨fun pins s σ H Q I h => ?_⟩
  rw [arm_eval_DictComp]
  have free : ∀ y ∈ sc.names, y.2 = .free → ∃ c, X.env.cells.lookup y.1 = some c := fun y hy e => (bk.free y hy e).elim (fun z => I.ok.has _ (.inl z)) fun z => I.ok.has _ (.inr z)
  refine wpAny_comprehension_free (use := none) rfl hs (closure_ok free) bk.kind (fun y hy e => by rw [bk.uniq y hy, e]) (thn (hi.run pins s σ H _ I h) fun xv sa hx => thn hx fun itv sb hb => ?_)
  obtain ⟨it, fp, tn, J, HJ, rfl, Ib, T, stb, fb, q⟩ := hb
  refine wpAny_newObj_type (newEnv_comp ?_)
  obtain ⟨D, hD⟩ : ∃ D, D = sb.heap.objs.size := ⟨_, rfl⟩
  obtain ⟨U, ⟨m0, u0⟩, turn⟩ := q D (by rw [hD]; exact Ib.hok.fresh (Nat.le_refl _))
  obtain ⟨sd, hsd⟩ : ∃ sd : Shared, sd = { sb with heap := sb.heap.push { cls := .type "dict", data := .dict #[] } } := ⟨_, rfl⟩
  obtain ⟨HD, hHD⟩ : ∃ HD, HD = upd HJ D (.dK []) := ⟨_, rfl⟩
  have hh : sd.heap = sb.heap.push { cls := .type "dict", data := .dict #[] } := by rw [hsd]
  have Id : L2.Inv X pins σ HD sd := by
    rw [hsd, hHD, hD]
    exact Ib.laid (t' := sb.toks) (fun b o e => Heap.get?_push_of_some _ e) (Nat.le_refl _) (dk_empty sb.heap Ib.big)
  have small : ∀ b ∈ fp, b < sb.heap.objs.size := fun b hb => by
    obtain ⟨o, e, _⟩ := T.obj _ _ stb b hb
    exact Heap.lt_size e
  have fd : ∀ b ∈ fp, FpOk X pins HD b ∧ b < sd.heap.objs.size := fun b hb => by
    have hlt := small b hb
    refine ⟨⟨?_, (fb b hb).2⟩, by rw [hh, Heap.size_push]; exact Nat.lt_succ_of_lt hlt⟩
    rw [hHD, upd_ne (by rw [hD]; exact Nat.ne_of_lt hlt)]
    exact (fb b hb).1
  have std : tn 0 sd.heap := T.keep _ _ _ stb fun b _ o e => by rw [hh]; exact Heap.get?_push_of_some _ e
  have nfp : ∀ b ∈ fp, HD b = none := fun b hb => (fd b hb).1.1
  have Ie := block_start Id bk hN fd
  obtain ⟨cs, hcs⟩ : ∃ cs, cs = cellsFrom (sd.heap.objs.size + 1) sc.names (cloFrom X.env.cells sc.names []) := ⟨_, rfl⟩
  have pg := hg sd HD sd.heap.objs.size cs fp
  have pi1 := hi1 sd HD sd.heap.objs.size cs fp
  have pg1 := hg1 sd HD sd.heap.objs.size cs fp
  have pk := hk sd HD sd.heap.objs.size cs fp
  have pe := he sd HD sd.heap.objs.size cs fp
  rw [← hD, ← hsd]
  show codeAny _ _ (.compStart (dcx kx vx t0 i0 t1 i1 sc ps) 0 (.ref it) (.ref D) (compEnvC sc (cellsFrom (sd.heap.objs.size + 1) sc.names (cloFrom X.env.cells sc.names [])) sd.heap.objs.size X.env)) (compPost (model X.prog X.w) X.A X.xe none _ (.ref D) sd.heap.objs.size) { sd with heap := pushCells (sd.heap.push { cls := .type "dict", data := .dict #[] }) sc.names }
  rw [← hcs] at Ie ⊢
  obtain ⟨ce, hce⟩ : ∃ ce, ce = compEnvC sc cs sd.heap.objs.size X.env := ⟨_, rfl⟩
  rw [← hce] at Ie pg pi1 pg1 pk pe ⊢
  have cL : ce.locals = sd.heap.objs.size := by rw [hce]; rfl
  obtain ⟨se, hse⟩ : ∃ se : Shared, se = { sd with heap := pushCells (sd.heap.push { cls := .type "dict", data := .dict #[] }) sc.names } := ⟨_, rfl⟩
  rw [← hse] at Ie ⊢
  have ste : tn 0 se.heap := T.keep _ _ _ std fun b _ o e => by rw [hse]; exact pushCells_keeps _ _ _ _ (Heap.get?_push_of_some _ e)
  obtain ⟨Y, hY⟩ : ∃ Y, Y = X.blk sd HD sc ce fp := ⟨_, rfl⟩
  have sta : ∀ {σ' : L2.St} {H' : Hp} {s' : Shared}, L2.Inv (X.blk sd HD sc ce fp) [] σ' H' s' → (∀ b ∈ fp, H' b = none) → ∀ b ∈ fp, FpOk (X.blk sd HD sc ce fp) [] H' b := fun {σ' H' s'} I' hn b hb =>
    ⟨hn b hb, (I'.ok.exf b hb).1, I'.ok.exfs b hb, .inl hb, fun x c e => (I'.ok.exf b hb).2 x c e, fun p hp => absurd (show p ∈ ([] : List (Addr × Obj)) ++ [] from hp) (by simp)⟩
  have big : codeAny (model X.prog X.w) X.A (.compLoop (dcx kx vx t0 i0 t1 i1 sc ps) 0 (.ref it) (.ref D) ce) (compPost (model X.prog X.w) X.A X.xe none (EP X pins σ Q) (.ref D) sd.heap.objs.size) se := by
    refine loop_o (hs1 ce) (fun n s' => ∃ i H', L2.Inv (X.blk sd HD sc ce fp) [] (wipe σ (own.map (·.2))) H' s' ∧ tn i s'.heap ∧ (∀ b ∈ fp, H' b = none) ∧ U i n H') ?_ m0 ⟨0, HD, Ie, ste, nfp, by rw [hHD]; exact u0⟩
    rintro n sf ⟨i, Hf, If, stf, nf, uf⟩
    rcases turn i n Hf uf with ⟨stop, qq⟩ | ⟨go, Nx, hNx, step⟩
    · refine thnF (T.done (X.blk sd HD sc ce fp) rfl rfl rfl hc i [] sf _ Hf (fun _ _ => False) If (sta If nf) stf stop) fun r sg ⟨hr, Ig⟩ => ?_
      subst hr
      have Ih : L2.Inv X pins σ Hf sg := Id.call' (ch := fp) Ig.os Ig.base Ig.hok Ig.bare fun b hb => ⟨(fd b hb).1.2.2.2.1, (fd b hb).1.2.1, (fd b hb).1.2.2.2.2.1, (fd b hb).1.2.2.2.2.2⟩
      have nC : Hf sd.heap.objs.size = none := by
        have z : Hf ce.locals = none := Ig.free
        rwa [cL] at z
      obtain ⟨m, hn, _⟩ := Ig.loc
      have hn : sg.heap.Ns ce.locals m := hn
      rw [cL] at hn
      obtain ⟨f0, f1, f2, f3, f4, f5⟩ := Id.fpOk (Nat.le_refl _) nC
      exact ⟨m, hn, fun h'' sb => ⟨.ref D, Hf, Ih.turned (t' := sg.toks) (fun b o hb e => (sb.2 b hb).trans e) f0 f1 f3 f4 f5, rfl, qq⟩⟩
    · refine thnF (T.item (X.blk sd HD sc ce fp) rfl rfl rfl hc i [] sf _ Hf (fun _ _ => False) If (sta If nf) stf go) fun r sg ⟨u, hr, hg'⟩ => ?_
      subst hr
      refine thnF hg' fun _ sh ⟨x, Hh, Ih, rh, yh, sth, nh⟩ => ?_
      have obh : ∀ b ∈ fp, ∃ o, sh.heap.get? b = some o := fun b hb => (T.obj _ _ sth b hb).imp fun _ z => z.1
      refine thnF (pg.run _ sh _ Hh x u _ (Ih.pinned (sta Ih nh) (T.obj _ _ sth)) rh (step x Hh yh)) fun _ si ⟨σi, Hi, Ii, hwi, qi⟩ => ?_
      have l8 : (wipe σ (own.map (·.2))).length = σi.length := by rw [← hwi, wipe_length]
      have k8 : ∀ (j : Nat) v, (wipe σ (own.map (·.2)))[j]? = some (some v) → (wipe σi vs1)[j]? = some (some v) := fun j v e => by
        rw [← hwi] at e
        obtain ⟨e1, e2⟩ := wipe_some e
        rw [wipe_out fun z => e2 (hv j z)]
        exact e1
      refine thnF (pi1.run _ si σi Hi _ Ii qi) fun xw sj hj => thnF hj fun jv sk hk' => ?_
      obtain ⟨it1, fp1, tn1, J1, Hk, rfl, Ik, T1, stk, fk, U1, ⟨m1, u1⟩, turn1⟩ := hk'
      have sta1 : ∀ {H' : Hp}, (∀ b ∈ fp1, H' b = none) → ∀ b ∈ fp1, FpOk (X.blk sd HD sc ce fp) ([] ++ pinsAt fp sh.heap) H' b := fun hn b hb => ⟨hn b hb, (fk b hb).2⟩
      have small1 : codeAny (model X.prog X.w) X.A (.compLoop (dcx kx vx t0 i0 t1 i1 sc ps) 1 (.ref it1) (.ref D) ce) (fun r s' => match r with | .ok _ => ∃ m, m < n ∧ ∃ i H', L2.Inv (X.blk sd HD sc ce fp) [] (wipe σ (own.map (·.2))) H' s' ∧ tn i s'.heap ∧ (∀ b ∈ fp, H' b = none) ∧ U i m H' | .error _ => False) sk := by
        refine loop_i (fun k s' => ∃ j H', L2.Inv (X.blk sd HD sc ce fp) ([] ++ pinsAt fp sh.heap) (wipe σi vs1) H' s' ∧ tn1 j s'.heap ∧ (∀ b ∈ fp1, H' b = none) ∧ U1 j k H') ?_ m1 ⟨0, Hk, Ik.weak (wipe_length _ _) (fun j v e => (wipe_some e).1), stk, fun b hb => (fk b hb).1, u1⟩
        rintro k sl ⟨j, Hl, Il, stl, nl, ul⟩
        rcases turn1 j k Hl ul with ⟨stop1, nx⟩ | ⟨go1, Nz, hNz, step1⟩
        · refine thnF (T1.done (X.blk sd HD sc ce fp) rfl rfl rfl hc j _ sl (wipe σi vs1) Hl (fun _ _ => False) Il (sta1 nl) stl stop1) fun r sm ⟨hr, Im⟩ => ?_
          subst hr
          obtain ⟨Im', keep, none'⟩ := back_to Im (l8.trans (wipe_length σi vs1).symm) k8 obh
          obtain ⟨m', hm', um⟩ := hNx Hl nx
          exact ⟨m', hm', i + 1, Hl, Im', T.keep _ _ _ sth keep, none', um⟩
        · refine thnF (T1.item (X.blk sd HD sc ce fp) rfl rfl rfl hc j _ sl (wipe σi vs1) Hl (fun _ _ => False) Il (sta1 nl) stl go1) fun r sm ⟨u1', hr, hm⟩ => ?_
          subst hr
          refine thnF hm fun _ sn ⟨x1, Hn, In, rn, yn, stn, nn⟩ => ?_
          have obn : ∀ b ∈ fp1, ∃ o, sn.heap.get? b = some o := fun b hb => (T1.obj _ _ stn b hb).imp fun _ z => z.1
          refine thnF (pg1.run _ sn (wipe σi vs1) Hn x1 u1' _ (In.pinned (sta1 nn) (T1.obj _ _ stn)) rn (step1 x1 Hn yn)) fun _ so ⟨σo, Ho, Io, hwo, qo⟩ => ?_
          refine thnF (pk.run _ so σo Ho _ Io qo) fun a sp ⟨ya, Hp, Ip, ra, qp⟩ => ?_
          refine thnF (pe.run _ sp σo Hp _ Ip qp) fun b sq ⟨yb, Hq, Iq, rb, kvs, key, ek, hDq, hz, nz⟩ => ?_
          subst ek
          refine d_dictSet (X := X.blk sd HD sc ce fp) Iq hDq hz ra rb fun sr Ir => ?_
          obtain ⟨Ir', keep, none'⟩ := back_to (σ8 := wipe σi vs1) (σ9 := σo) Ir (by rw [← hwo, wipe_length]) (fun j v e => by rw [← hwo] at e; exact (wipe_some e).1) obn
          obtain ⟨k', hk'', uz⟩ := hNz _ nz
          exact ⟨k', hk'', j + 1, _, Ir', T1.keep _ _ _ stn keep, none', uz⟩
      exact start_i small1 (T1.self X.A 0 _ _ _ stk small1)
  exact codeAny_compStart_dict big (T.self X.A 0 _ _ _ ste big)
end
end RR
end
section
set_option Elab.async false
set_option linter.all false
set_option maxRecDepth 100000
set_option maxHeartbeats 4000000
/-! sorted(rows) of rows of two texts, told by a rank of the first -/
namespace RR
open PySem PySem.Spec PySem.W PyProof.Rows L2
def TwoT (h : Heap) (v : Value) (p : Str × Str) : Prop := ∃ (b : Addr) (ob : Obj) (t1 t2 : Tok) (m : Nat), v = .ref b ∧ h.get? b = some ob ∧ ob.cls = .type "tuple" ∧ ob.data = .seq #[.str p.1 t1, .str p.2 t2] m
theorem TwoT.stay {h h2 : Heap} {v : Value} {p : Str × Str} (z : TwoT h v p) (k : ∀ b ob, h.get? b = some ob → ob.cls = .type "tuple" → h2.get? b = some ob) : TwoT h2 v p := by
  obtain ⟨b, ob, t1, t2, m, e, g1, g2, g3⟩ := z
  exact ⟨b, ob, t1, t2, m, e, k _ _ g1 g2, g2, g3⟩
section
variable {prog : Program} {w : World} {A : Around} {E : Value → Shared → Prop} {s : Shared}
theorem twoT_heads {h : Heap} {k : Value → Str × Str} : ∀ us : List Value, (∀ u ∈ us, TwoT h u (k u)) → ∃ hs : List Value, KatTups h us hs ∧ hs.length = us.length ∧ ∀ x ∈ hs, ∃ y t, x = Value.str y t
  | [], _ => ⟨[], .nil, rfl, fun _ z => nomatch z⟩
  | u :: us, g => by
    obtain ⟨hs, kt, hl, hi⟩ := twoT_heads us fun x hx => g x (List.mem_cons_of_mem _ hx)
    obtain ⟨b, ob, t1, t2, m, e, g1, g2, g3⟩ := g u List.mem_cons_self
    rw [e]
    refine ⟨.str (k u).1 t1 :: hs, KatTups.cons g1 g2 g3 rfl kt, by rw [List.length_cons, List.length_cons, hl], fun x hx => ?_⟩
    rcases List.mem_cons.mp hx with rfl | hx
    · exact ⟨_, t1, rfl⟩
    · exact hi x hx
abbrev byRk (rk : Str → Int) (k : Value → Str × Str) (v u : Value) : Bool := decide (rk (k v).1 < rk (k u).1)
theorem byRk_swo (rk : Str → Int) (k : Value → Str × Str) : SrtO.Swo (byRk rk k) := by
  refine ⟨fun x y h => ?_, fun x y z h1 h2 => ?_⟩
  · have h := of_decide_eq_true h
    exact decide_eq_false (by omega)
  · have h1 := of_decide_eq_false h1
    have h2 := of_decide_eq_false h2
    exact decide_eq_false (by omega)
theorem twoT_cmp {vs : List Value} {k : Value → Str × Str} {rk : Str → Int} (hp : ∀ v ∈ vs, TwoT s.heap v (k v)) (hi : ∀ v ∈ vs, ∀ u ∈ vs, (k v).1 = (k u).1 → (k v).2 = (k u).2)
    (hr : ∀ v ∈ vs, ∀ u ∈ vs, decide ((k v).1.cps.toList < (k u).1.cps.toList) = decide (rk (k v).1 < rk (k u).1)) : SrtO.Cmp prog w A s (tuples' true) (fun p => p.1 ∈ vs) (SrtO.lt2 (byRk rk k)) := by
  intro p q hm hm2
  have g1 := hp _ hm
  have g2 := hp _ hm2
  have g3 := hi _ hm _ hm2
  have g4 := hr _ hm _ hm2
  have g5 := hr _ hm _ hm
  show wpAny (model prog w) A (keyLt' (tuples' true) p.1 q.1) (fun r s2 => s2 = s ∧ r = byRk rk k p.1 q.1) (fun _ _ => False) s
  unfold byRk
  rw [← g4]
  generalize k p.1 = x at g1 g3 g5 ⊢
  generalize k q.1 = y at g2 g3 ⊢
  obtain ⟨b, ob, t1, t2, m, e, a1, a2, a3⟩ := g1
  obtain ⟨b2, ob2, t3, t4, m2, e2, b1, b3, b4⟩ := g2
  rw [e, e2]
  refine kat_lt a1 a3 b1 b4 ?_
  show KatLex prog w A true (decide (2 < 2)) _ [(.str x.1 t1, .str y.1 t3), (.str x.2 t2, .str y.2 t4)] 0 s
  refine kat_cons (wpAny_eqBool_str ?_)
  refine kat_go (fun z => ?_) fun z => kat_no (oneLt_any_str ⟨rfl, rfl⟩)
  have z := of_decide_eq_true z
  refine kat_yes (kat_cons (wpAny_eqBool_str ?_))
  refine kat_go (fun _ => kat_yes (kat_nil ⟨rfl, ?_⟩)) fun z2 => absurd (g3 z) (of_decide_eq_false z2)
  rw [← z, g5]
  exact (decide_eq_false (Int.lt_irrefl _)).symm
theorem twoT_sortable {a : Addr} {vs : List Value} {k : Value → Str × Str} {rk : Str → Int} (h0 : 0 < vs.length) (hp : ∀ v ∈ vs, TwoT s.heap v (k v)) (hi : ∀ v ∈ vs, ∀ u ∈ vs, (k v).1 = (k u).1 → (k v).2 = (k u).2)
    (hr : ∀ v ∈ vs, ∀ u ∈ vs, decide ((k v).1.cps.toList < (k u).1.cps.toList) = decide (rk (k v).1 < rk (k u).1)) (ha : ∀ o, s.heap.get? a = some o → o.cls ≠ .type "tuple") : SrtO.SortableO prog w A s a vs (byRk rk k) := by
  intro h2 stay
  have hp2 : ∀ v ∈ vs, TwoT h2 v (k v) := fun v hm => (hp v hm).stay fun b o e c => stay b o (fun z => by subst z; exact ha o e c) e
  obtain ⟨hs, k1, k2, k3⟩ := twoT_heads vs hp2
  refine ⟨tuples' true, fun Q E hq => ?_, twoT_cmp hp2 hi hr⟩
  refine kat_kind (T := .type "str") k1 (by omega) (fun f hm => ?_) (by rfl) ?_
  · obtain ⟨x, t, rfl⟩ := k3 f hm
    exact .now
  · have e : (Value.type "str" != Value.type "tuple") = true := by first | decide +kernel | rfl | decide
    rw [e]
    exact hq
end
def rSortT (K : PySem.W.Frag) : List V → Hp → VK → Prop := fun vs H Q => ∃ (a : Addr) (xs : List V) (k : V → Str × Str) (rk : Str → Int), vs = [V.ref a] ∧ SqL K H a xs ∧ (∀ x ∈ xs, ∃ t, x = V.ref t ∧ SqT K H t [.str (k x).1, .str (k x).2]) ∧
  (∀ x ∈ xs, ∀ y ∈ xs, (k x).1 = (k y).1 → (k x).2 = (k y).2) ∧ (∀ x ∈ xs, ∀ y ∈ xs, decide ((k x).1.cps.toList < (k y).1.cps.toList) = decide (rk (k x).1 < rk (k y).1)) ∧
  ∀ ys p, ys.Perm xs → ys.Pairwise (fun x y => rk (k x).1 ≤ rk (k y).1) → H p = none → Q (.ref p) (upd H p (.lst ys))
theorem cr_sortT {X : Cx} : CallR X (.builtin "sorted") (rSortT X.K) := by
  intro pins s σ H vs us Q I r h
  obtain ⟨a, xs, k, rk, rfl, hs, hx, hi, hr, q⟩ := h
  obtain ⟨its, rv, hl, hz⟩ := I.list hs
  obtain ⟨u, rfl, ru⟩ := vals1 r
  obtain rfl : u = Value.ref a := ru
  obtain ⟨e1, e2⟩ := refs_back rv fun x m => (hx x m).imp fun _ z => z.1
  have inx : ∀ v ∈ its, backV v ∈ xs := fun v hv => by rw [e1]; exact List.mem_map.mpr ⟨_, hv, rfl⟩
  have two : ∀ v ∈ its, TwoT s.heap v (k (backV v)) := fun v hv => by
    obtain ⟨t, rfl⟩ := e2 v hv
    have hm := inx _ hv
    obtain ⟨t2, e, ht⟩ := hx _ hm
    cases e
    obtain ⟨its2, r2, ⟨o, ho, hc, n, hd⟩, _⟩ := I.tuple ht
    obtain ⟨u1, u2, rfl, ⟨t1, rfl⟩, ⟨t3, rfl⟩⟩ := vals2 r2
    exact ⟨t, o, t1, t3, n, rfl, ho, hc, hd⟩
  refine SrtO.sorted_ord (byRk_swo rk fun v => k (backV v)) hl.isList (by rw [← rv.length]; exact hz) (fun h2 h1 b hb kk => ?_) fun out h1 h2 => ?_
  · refine twoT_sortable (s := { s with heap := h1 }) (by omega) (fun v hm => (two v hm).stay fun b o e _ => (kk b o e).2) (fun v hv u hu => hi _ (inx v hv) _ (inx u hu)) (fun v hv u hu => hr _ (inx v hv) _ (inx u hu)) fun o e c => ?_
    have e' : some o = some (seqObj "list" its.toArray 0) := e.symm.trans hb
    cases e'
    exact absurd (Value.type.inj c) (by decide)
  · have h3 : ∀ u ∈ out, ∃ a, u = Value.ref a := fun u hu => e2 u (h2.perm.mem_iff.mp hu)
    obtain ⟨n, hn⟩ := PyProof.Rows.sortedAll_at s.heap its out.toArray
    have hp : (out.map backV).Perm xs := by
      rw [e1]
      exact h2.perm.map backV
    have hf : H (s.heap.objs.size + 1) = none := I.hok.fresh (Nat.le_succ _)
    refine ⟨.ref (s.heap.objs.size + 1), upd H (s.heap.objs.size + 1) (.lst (out.map backV)), I.laid (t' := s.toks) (fun b o e => PyProof.Rows.sortedAll_old e) (Nat.le_succ _) ⟨by rw [hp.length_eq]; exact hz, out, n, vals_back h3, hn⟩, rfl, q _ _ hp ?_ hf⟩
    refine List.pairwise_map.mpr (h1.imp fun {x y} z => ?_)
    exact Int.not_lt.mp (of_decide_eq_false (p := rk (k (backV y)).1 < rk (k (backV x)).1) z)
end RR
end
section
set_option Elab.async false
set_option linter.all false
set_option maxRecDepth 100000
set_option maxHeartbeats 4000000
namespace RR
open PySem PySem.Spec PyProof.Rows L2
/-- x > y of texts -/
theorem op_gtT {X : Cx} : OpR X (compareOp .Gt) (fun x y H Q => ∃ a b, x = .str a ∧ y = .str b ∧ Q (.bl (decide (b.cps.toList < a.cps.toList))) H) := by
  intro pins s σ H x y u v Q I rx ry h
  obtain ⟨a, b, rfl, rfl, q⟩ := h
  obtain ⟨t1, rfl⟩ := rx
  obtain ⟨t2, rfl⟩ := ry
  exact PySem.P.gt_str (fin_bl I q rfl)
/-- sorted(rows): rows of two texts told one by one -/
def rSortZ (K : PySem.W.Frag) : List V → Hp → VK → Prop := fun vs H Q => ∃ (a : Addr) (zs : List (V × (Str × Str))) (rk : Str → Int), vs = [V.ref a] ∧ SqL K H a (zs.map (·.1)) ∧ (∀ z ∈ zs, ∃ t, z.1 = V.ref t ∧ SqT K H t [.str z.2.1, .str z.2.2]) ∧
  (∀ z ∈ zs, ∀ y ∈ zs, z.2.1 = y.2.1 → z.2.2 = y.2.2) ∧ (∀ z ∈ zs, ∀ y ∈ zs, decide (z.2.1.cps.toList < y.2.1.cps.toList) = decide (rk z.2.1 < rk y.2.1)) ∧
  ∀ (ws : List (V × (Str × Str))) (p : Addr), ws.Perm zs → ws.Pairwise (fun x y => rk x.2.1 ≤ rk y.2.1) → H p = none → Q (.ref p) (upd H p (.lst (ws.map (·.1))))
open Classical in
theorem cr_sortZ {X : Cx} : CallR X (.builtin "sorted") (rSortZ X.K) := by
  intro pins s σ H vs us Q I r h
  obtain ⟨a, zs, rk, rfl, hs, hx, hi, hr, q⟩ := h
  obtain ⟨k, hk⟩ : ∃ k : V → Str × Str, ∀ z ∈ zs, k z.1 = z.2 := by
    refine ⟨fun x => if h : ∃ z, z ∈ zs ∧ z.1 = x then (choose h).2 else ("", ""), fun z hz => ?_⟩
    have h : ∃ y, y ∈ zs ∧ y.1 = z.1 := ⟨z, hz, rfl⟩
    show (if h : ∃ y, y ∈ zs ∧ y.1 = z.1 then (choose h).2 else ("", "")) = z.2
    rw [dif_pos h]
    obtain ⟨h1, h2⟩ := choose_spec h
    generalize choose h = y at h1 h2
    obtain ⟨t, e1, s1⟩ := hx y h1
    obtain ⟨t2, e2, s2⟩ := hx z hz
    rw [e1, e2] at h2
    cases h2
    have e := I.tuple_inj s1 s2
    obtain ⟨y0, y1, y2⟩ := y
    obtain ⟨z0, z1, z2⟩ := z
    injection e with e3 e4
    injection e4 with e5 _
    cases e3
    cases e5
    rfl
  refine cr_sortT pins s σ H _ us Q I r ⟨a, zs.map (·.1), k, rk, rfl, hs, fun x hm => ?_, fun x hm y hm2 => ?_, fun x hm y hm2 => ?_, fun ys p hp hpw hf => ?_⟩
  · obtain ⟨z, hz, rfl⟩ := List.mem_map.mp hm
    rw [hk z hz]
    exact hx z hz
  · obtain ⟨z, hz, rfl⟩ := List.mem_map.mp hm
    obtain ⟨z2, hz2, rfl⟩ := List.mem_map.mp hm2
    rw [hk z hz, hk z2 hz2]
    exact hi z hz z2 hz2
  · obtain ⟨z, hz, rfl⟩ := List.mem_map.mp hm
    obtain ⟨z2, hz2, rfl⟩ := List.mem_map.mp hm2
    rw [hk z hz, hk z2 hz2]
    exact hr z hz z2 hz2
  · obtain ⟨ws, w1, rfl⟩ := perm_lift (fun z : V × (Str × Str) => z.1) hp zs rfl
    refine q ws p w1 ?_ hf
    refine (List.pairwise_map.mp hpw).imp_of_mem fun {x y} h1 h2 h3 => ?_
    rw [hk x (w1.mem_iff.mp h1), hk y (w1.mem_iff.mp h2)] at h3
    exact h3
end RR
end
section
set_option Elab.async false
set_option linter.all false
set_option maxRecDepth 100000
set_option maxHeartbeats 4000000
/-! sets of texts whose table can be walked: add -/
namespace RR
open PySem PySem.Spec PyProof.Rows L2 PySem.Froz
/-- the payload D holds the texts l, its table rises and can be walked -/
def txtOf (e : Int × Value) : Str := match e.2 with | .str x _ => x | _ => ""
def TxR (P : Program) (w : World) (D : SD) (l : List Str) : Prop := TxOk P w D l ∧ Ris D.2.2.place.toList ∧ (w.params.followText "set-order" = true ∨ D.2.2.led = true) ∧ (D.1.toList.map txtOf).Perm l
theorem txR_new (P : Program) (w : World) : TxR P w (#[], 0, .fresh 0 0 (!w.params.followText "set-order")) [] := by
  refine ⟨TxOk.nil rfl, List.Pairwise.nil, ?_, .refl _⟩
  show _ ∨ (!w.params.followText "set-order") = true
  cases w.params.followText "set-order"
  · exact .inr rfl
  · exact .inl rfl
section
variable {P : Program} {w : World} {A : Around} {E : Value → Shared → Prop} {s : Shared}
theorem tail_ris {ep : Nat} {es1 : Array (Int × Value)} {t2 : SetTable} {wd : Bool} (h : Ris t2.place.toList) : Ris (tailTx ep es1 t2 wd).2.2.place.toList := by
  unfold tailTx
  by_cases c : (!wd && t2.tooFull) = true
  · rw [if_pos c]; exact relayAll_ris _ _ _
  · rw [if_neg c]; exact h
theorem tail_led {ep : Nat} {es1 : Array (Int × Value)} {t2 : SetTable} {wd : Bool} : (tailTx ep es1 t2 wd).2.2.led = t2.led := by
  unfold tailTx
  by_cases c : (!wd && t2.tooFull) = true
  · rw [if_pos c]; exact relayAll_led _ _ _
  · rw [if_neg c]
theorem txR_add {D : SD} {l : List Str} {k : Str} (u : Tok) (F : TxR P w D l) : TxR P w (addTx (hashStr w k) (.str k u) D) (k :: l) := by
  obtain ⟨F1, F2, F3, F4⟩ := F
  refine ⟨add_ok u F1, ?_, ?_, ?_⟩
  · obtain ⟨es, ep, t⟩ := D
    have h := layNew_ris t es (hashStr w k) (.str k u) F2
    unfold addTx
    refine tail_ris ?_
    dsimp only
    by_cases c : (layNew t es (hashStr w k) (.str k u)).2.1.plain = true
    · rw [if_pos c]; exact h
    · rw [if_neg c]; exact h
  · refine F3.imp id fun z => ?_
    obtain ⟨es, ep, t⟩ := D
    have h := layNew_led t es (hashStr w k) (.str k u)
    have z : t.led = true := z
    unfold addTx
    rw [tail_led]
    dsimp only
    by_cases c : (layNew t es (hashStr w k) (.str k u)).2.1.plain = true
    · rw [if_pos c]; exact h.trans z
    · rw [if_neg c]; exact h.trans z
  · obtain ⟨es, ep, t⟩ := D
    have hp := layNew_perm t es (hashStr w k) (.str k u)
    rw [Array.toList_push] at hp
    have F4 : (es.toList.map txtOf).Perm l := F4
    have ht : (tailTx ep (layNew t es (hashStr w k) (.str k u)).1 (if (layNew t es (hashStr w k) (.str k u)).2.1.plain = true then { (layNew t es (hashStr w k) (.str k u)).2.1 with plain := false } else (layNew t es (hashStr w k) (.str k u)).2.1) (layNew t es (hashStr w k) (.str k u)).2.2.1).1.toList.Perm (es.toList ++ [(hashStr w k, .str k u)]) := by
      refine List.Perm.trans ?_ hp
      generalize (layNew t es (hashStr w k) (.str k u)).1 = es1
      generalize (if (layNew t es (hashStr w k) (.str k u)).2.1.plain = true then { (layNew t es (hashStr w k) (.str k u)).2.1 with plain := false } else (layNew t es (hashStr w k) (.str k u)).2.1) = t2
      unfold tailTx
      by_cases c : (!(layNew t es (hashStr w k) (.str k u)).2.2.1 && t2.tooFull) = true
      · rw [if_pos c]; exact relayAll_perm _ _ _
      · rw [if_neg c]
    refine (ht.map txtOf).trans ?_
    rw [List.map_append]
    exact (List.perm_append_singleton _ _).trans (F4.cons k)
/-- a text that is there -/
theorem add_there {a : Addr} {D : SD} {l : List Str} {k : Str} {u : Tok} {Q : Bool → Shared → Prop} (ho : s.heap.get? a = some (sObj "set" D)) (F : TxOk P w D l) (hk : k ∈ l) (hb : l.length < scanBound)
    (h : Q false s) : wpAny (model P w) A (setAddHashed a (.str k u) (hashStr w k)) Q E s := by
  obtain ⟨es, ep, t⟩ := D
  have hd : (sObj "set" (es, ep, t)).data = .set es ep t := rfl
  have hf : t.fits es.size = true := F.fit
  have hel : ElemsOf (strKind P w) es.toList := F.el
  have hsz : es.size = l.length := F.sz
  have hkey : (strKind P w).is k (.str k u) = true := is_str k u
  unfold setAddHashed setAddHashedIn
  refine wpAny_holding (wpAny_bind (wpAny_setState_of ho hd hf ?_))
  dsimp only
  rw [byScan_of rfl (by omega) hel]
  simp only [↓reduceIte]
  unfold setAddByScan
  refine wpAny_bind ?_
  refine wpAny_bind (wpAny_rule ?_)
  refine wpAny_bind (wpAny_setScan_of (knd := strKind P w) (k := k) hkey ho hd hf hel ?_)
  cases hfi : List.findIdx? (fun e => (strKind P w).is k e.2) es.toList with
  | some j => exact wpAny_pure (wpAny_pure h)
  | none =>
    obtain ⟨e, he, q⟩ := (F.mem k).mp hk
    have c := List.findIdx?_eq_none_iff.mp hfi e he
    rw [q] at c
    cases c
/-- the set of the texts l at a -/
def TxAt (P : Program) (w : World) (h : Heap) (a : Addr) (l : List Str) : Prop := ∃ D, h.get? a = some (sObj "set" D) ∧ TxR P w D l
def addL (k : Str) (l : List Str) : List Str := if k ∈ l then l else k :: l
theorem call_addT {a : Addr} {l : List Str} {k : Str} {u : Tok} {Q : Value → Shared → Prop} (R : TxAt P w s.heap a l) (hb : l.length + 1 < scanBound)
    (h : ∀ h', (∀ b o, b ≠ a → s.heap.get? b = some o → h'.get? b = some o) → s.heap.objs.size ≤ h'.objs.size → TxAt P w h' a (addL k l) → Q .none { s with heap := h', toks := s.toks + 1 }) :
    wpAny (model P w) A (call (.builtin "set.add") [.ref a, .str k u]) Q E s := by
  obtain ⟨D, ho, R1⟩ := R
  have hT : s.TypeIs (.ref a) "set" := ⟨_, ho, rfl⟩
  refine wpAny_call_entry F.slot_set_add hT F.entry_set_add ?_ (F.args_set_add_2 _ _)
  unfold Builtin.«set.add» Builtin.Frozenset.oneOther
  simp only [List.isEmpty_nil, bind_assoc]
  unfold Builtin.Frozenset.addrOf setAdd
  refine wpAny_bind (wpAny_pure ?_)
  try dsimp only
  refine wpAny_bind (wpAny_pure ?_)
  try dsimp only
  refine wpAny_bind ?_
  refine wpAny_holding ?_
  refine wpAny_bind ((strKind P w).pyHash (is_str k u) ?_)
  by_cases hk : k ∈ l
  · refine add_there (s := { s with toks := s.toks + 1 }) ho R1.1 hk (by omega) ?_
    show wpAny _ _ (ret Value.none) _ _ _
    refine wpAny_pure ⟨_, rfl, ?_⟩
    have q := h s.heap (fun _ _ _ e => e) (Nat.le_refl _) ⟨D, ho, by unfold addL; rw [if_pos hk]; exact R1⟩
    exact q
  · refine add_x (s := { s with toks := s.toks + 1 }) ho R1.1 hk hb ?_
    show wpAny _ _ (ret Value.none) _ _ _
    refine wpAny_pure ⟨_, rfl, ?_⟩
    exact h (s.heap.update a fun _ => sObj "set" (addTx (hashStr w k) (.str k u) D)) (fun b o hb e => (Heap.get?_update_other _ _ (Ne.symm hb)).trans e) (Nat.le_of_eq (Heap.size_update _ _ _).symm) ⟨_, get_upd _ ho rfl, by unfold addL; rw [if_neg hk]; exact txR_add u R1⟩
end
end RR
end
section
set_option Elab.async false
set_option linter.all false
set_option maxRecDepth 100000
set_option maxHeartbeats 4000000
/-! a rule that the hand layer lacks: {k for a in xs if ..}, k texts -/
namespace RR
open PySem PySem.Spec PyProof.Rows L2 PySem.Froz
def SetX (P : Program) (w : World) (a : Addr) (l : List Str) : HO := .ext fun h => TxAt P w h a l
theorem txAt_keep {P : Program} {w : World} {h h' : Heap} {a : Addr} {l : List Str} (R : TxAt P w h a l) (k : ∀ o, h.get? a = some o → h'.get? a = some o) : TxAt P w h' a l := by
  obtain ⟨D, ho, r⟩ := R
  exact ⟨D, k _ ho, r⟩
theorem setX_new {w : World} {P : Program} {H : Hp} {h : Heap} {a : Addr} {l : List Str} (R : TxAt P w h a l) : ObjOk P w H h a (SetX P w a l) := by
  have ⟨D, ho, _⟩ := R
  exact ⟨R, ⟨_, ho⟩, fun h1 h2 p k => txAt_keep p k⟩
section
variable {X : Cx}
theorem setX_get {pins : List (Addr × Obj)} {σ : L2.St} {H : Hp} {s : Shared} {a : Addr} {l : List Str} (I : L2.Inv X pins σ H s) (ha : H a = some (SetX X.prog X.w a l)) : TxAt X.prog X.w s.heap a l := (I.hok a _ ha).1
/-- k into the set at D, by a comprehension -/
theorem d_addX {pins : List (Addr × Obj)} {σ : L2.St} {H : Hp} {s : Shared} {E : Value → Shared → Prop} {D : Addr} {l : List Str} {k : Str} {u : Value} {Q : Value → Shared → Prop} (I : L2.Inv X pins σ H s) (hD : H D = some (SetX X.prog X.w D l)) (hz : l.length + 1 < scanBound)
    (rv : RelV (.str k) u) (h : ∀ s', L2.Inv X pins σ (upd H D (SetX X.prog X.w D (addL k l))) s' → Q .none s') : wpAny (model X.prog X.w) X.A (call (.builtin "set.add") [.ref D, u]) Q E s := by
  obtain ⟨t, rfl⟩ := rv
  refine call_addT (setX_get I hD) hz fun h' keep hsz new => h _ ?_
  have ⟨D', ho, _⟩ := new
  exact I.write (e := D) (t' := s.toks + 1) (by rw [hD]; trivial) (.inl rfl) keep ⟨_, ho⟩ (setX_new new)
/-- {k for target in iter if ..}: D the new set -/
def tSc (P : Program) (w : World) (wi : TI) (g : TG) (tt : TT) (tk : TE) (vs : List Nat) : TE := fun σ H Q => wi σ H fun J H1 => ∀ D, H1 D = none → ∃ W : Nat → Nat → Hp → Prop, (∃ m, W 0 m (upd H1 D (SetX P w D []))) ∧ ∀ i m H, W i m H →
  (J.stop i H ∧ Q (.ref D) H) ∨ (J.go i H ∧ ∃ Nx : Hp → Prop, (∀ H', Nx H' → ∃ m', m' < m ∧ W (i + 1) m' H') ∧ ∀ x H', J.yld i H x H' → g x (wipe σ vs) H' fun σ2 H2 => wipe σ2 vs = wipe σ vs ∧ tt σ2 H2 fun b H3 =>
    if b = true then tk σ2 H3 fun y H4 => ∃ k l, y = .str k ∧ H4 D = some (SetX P w D l) ∧ l.length + 1 < scanBound ∧ Nx (upd H4 D (SetX P w D (addL k l))) else Nx H3)
theorem pe_sc {kx tg iter : Expr} {ifs : List Expr} {sc : Scope} {own : List (Str × Nat)} {ps : Pos} {wi : TI} {g : TG} {tt : TT} {tk : TE} (hc : X.calm = true) (hN : X.N.Nodup) (hi : PI X tg iter wi) (bk : BlkOk X.N X.env.scope sc own)
    (hg : ∀ (s : Shared) (H : Hp) (C : Addr) (cl : List (Str × Addr)) (fp : List Addr), PG (X.blk s H sc (compEnvC sc cl C X.env) fp) tg g) (ht : ∀ (s : Shared) (H : Hp) (C : Addr) (cl : List (Str × Addr)) (fp : List Addr), PTs (X.blk s H sc (compEnvC sc cl C X.env) fp) ifs tt)
    (hk : ∀ (s : Shared) (H : Hp) (C : Addr) (cl : List (Str × Addr)) (fp : List Addr), PE (X.blk s H sc (compEnvC sc cl C X.env) fp) kx tk) (hs : ∀ x, foldedSetIterable iter X.env x = pure x := by intro _; rfl) :
    PE X (.SetComp kx [⟨tg, iter, ifs, 0⟩] sc ps) (tSc X.prog X.w wi g tt tk (own.map (·.2))) := by
  refine ⟨fun pins s σ H Q I h => ?_⟩
  rw [arm_eval_SetComp]
  have free : ∀ y ∈ sc.names, y.2 = .free → ∃ c, X.env.cells.lookup y.1 = some c := fun y hy e => (bk.free y hy e).elim (fun z => I.ok.has _ (.inl z)) fun z => I.ok.has _ (.inr z)
  refine wpAny_comprehension_free (use := none) rfl hs (closure_ok free) bk.kind (fun y hy e => by rw [bk.uniq y hy, e]) (thn (hi.run pins s σ H _ I h) fun xv sa hx => thn hx fun itv sb hb => ?_)
  obtain ⟨it, fp, tn, J, HJ, rfl, Ib, T, stb, fb, q⟩ := hb
  refine wpAny_newSet_raw fun led hled => newEnv_comp ?_
  subst hled
  obtain ⟨D, hD⟩ : ∃ D, D = sb.heap.objs.size := ⟨_, rfl⟩
  obtain ⟨U, ⟨m0, u0⟩, turn⟩ := q D (by rw [hD]; exact Ib.hok.fresh (Nat.le_refl _))
  obtain ⟨nob, hnob⟩ : ∃ nob : Obj, nob = { cls := .type "set", dict := none, data := .set #[] 0 (.fresh 0 0 (!X.w.params.followText "set-order")) } := ⟨_, rfl⟩
  rw [← hnob]
  have hnf : nob.isFreed = false := by rw [hnob]; rfl
  obtain ⟨sd, hsd⟩ : ∃ sd : Shared, sd = { sb with heap := sb.heap.push nob } := ⟨_, rfl⟩
  obtain ⟨HD, hHD⟩ : ∃ HD, HD = upd HJ D (SetX X.prog X.w D []) := ⟨_, rfl⟩
  have hh : sd.heap = sb.heap.push nob := by rw [hsd]
  have Id : L2.Inv X pins σ HD sd := by
    rw [hsd, hHD, hD]
    refine Ib.laid (t' := sb.toks) (fun b o e => Heap.get?_push_of_some _ e) (Nat.le_refl _) (setX_new ⟨(#[], 0, .fresh 0 0 (!X.w.params.followText "set-order")), ?_, txR_new _ _⟩)
    rw [hnob]
    exact Heap.get?_push_size _ rfl
  have small : ∀ b ∈ fp, b < sb.heap.objs.size := fun b hb => by
    obtain ⟨o, e, _⟩ := T.obj _ _ stb b hb
    exact Heap.lt_size e
  have fd : ∀ b ∈ fp, FpOk X pins HD b ∧ b < sd.heap.objs.size := fun b hb => by
    have hlt := small b hb
    refine ⟨⟨?_, (fb b hb).2⟩, by rw [hh, Heap.size_push]; exact Nat.lt_succ_of_lt hlt⟩
    rw [hHD, upd_ne (by rw [hD]; exact Nat.ne_of_lt hlt)]
    exact (fb b hb).1
  have std : tn 0 sd.heap := T.keep _ _ _ stb fun b _ o e => by rw [hh]; exact Heap.get?_push_of_some _ e
  have nfp : ∀ b ∈ fp, HD b = none := fun b hb => (fd b hb).1.1
  have Ie := block_start Id bk hN fd
  obtain ⟨cs, hcs⟩ : ∃ cs, cs = cellsFrom (sd.heap.objs.size + 1) sc.names (cloFrom X.env.cells sc.names []) := ⟨_, rfl⟩
  have pg := hg sd HD sd.heap.objs.size cs fp
  have pt := ht sd HD sd.heap.objs.size cs fp
  have pk := hk sd HD sd.heap.objs.size cs fp
  rw [← hD, ← hsd]
  show codeAny _ _ (.compStart (.SetComp kx [⟨tg, iter, ifs, 0⟩] sc ps) 0 (.ref it) (.ref D) (compEnvC sc (cellsFrom (sd.heap.objs.size + 1) sc.names (cloFrom X.env.cells sc.names [])) sd.heap.objs.size X.env)) (compPost (model X.prog X.w) X.A X.xe none _ (.ref D) sd.heap.objs.size) { sd with heap := pushCells (sd.heap.push { cls := .type "dict", data := .dict #[] }) sc.names }
  rw [← hcs] at Ie ⊢
  obtain ⟨ce, hce⟩ : ∃ ce, ce = compEnvC sc cs sd.heap.objs.size X.env := ⟨_, rfl⟩
  rw [← hce] at Ie pg pt pk ⊢
  have cL : ce.locals = sd.heap.objs.size := by rw [hce]; rfl
  obtain ⟨se, hse⟩ : ∃ se : Shared, se = { sd with heap := pushCells (sd.heap.push { cls := .type "dict", data := .dict #[] }) sc.names } := ⟨_, rfl⟩
  rw [← hse] at Ie ⊢
  have ste : tn 0 se.heap := T.keep _ _ _ std fun b _ o e => by rw [hse]; exact pushCells_keeps _ _ _ _ (Heap.get?_push_of_some _ e)
  have sta : ∀ {σ' : L2.St} {H' : Hp} {s' : Shared}, L2.Inv (X.blk sd HD sc ce fp) [] σ' H' s' → (∀ b ∈ fp, H' b = none) → ∀ b ∈ fp, FpOk (X.blk sd HD sc ce fp) [] H' b := fun {σ' H' s'} I' hn b hb =>
    ⟨hn b hb, (I'.ok.exf b hb).1, I'.ok.exfs b hb, .inl hb, fun x c e => (I'.ok.exf b hb).2 x c e, fun p hp => absurd (show p ∈ ([] : List (Addr × Obj)) ++ [] from hp) (by simp)⟩
  have big : codeAny (model X.prog X.w) X.A (.compLoop (.SetComp kx [⟨tg, iter, ifs, 0⟩] sc ps) 0 (.ref it) (.ref D) ce) (compPost (model X.prog X.w) X.A X.xe none (EP X pins σ Q) (.ref D) sd.heap.objs.size) se := by
    refine compLoop_set_any (fun n s' => ∃ i H', L2.Inv (X.blk sd HD sc ce fp) [] (wipe σ (own.map (·.2))) H' s' ∧ tn i s'.heap ∧ (∀ b ∈ fp, H' b = none) ∧ U i n H') ?_ m0 ⟨0, HD, Ie, ste, nfp, by rw [hHD]; exact u0⟩
    rintro n sf ⟨i, Hf, If, stf, nf, uf⟩
    rcases turn i n Hf uf with ⟨stop, qq⟩ | ⟨go, Nx, hNx, step⟩
    · refine thnF (T.done (X.blk sd HD sc ce fp) rfl rfl rfl hc i [] sf _ Hf (fun _ _ => False) If (sta If nf) stf stop) fun r sg ⟨hr, Ig⟩ => ?_
      subst hr
      have Ih : L2.Inv X pins σ Hf sg := Id.call' (ch := fp) Ig.os Ig.base Ig.hok Ig.bare fun b hb => ⟨(fd b hb).1.2.2.2.1, (fd b hb).1.2.1, (fd b hb).1.2.2.2.2.1, (fd b hb).1.2.2.2.2.2⟩
      have nC : Hf sd.heap.objs.size = none := by
        have z : Hf ce.locals = none := Ig.free
        rwa [cL] at z
      obtain ⟨m, hn, _⟩ := Ig.loc
      have hn : sg.heap.Ns ce.locals m := hn
      rw [cL] at hn
      obtain ⟨f0, f1, f2, f3, f4, f5⟩ := Id.fpOk (Nat.le_refl _) nC
      exact ⟨m, hn, fun h'' sb => ⟨.ref D, Hf, Ih.turned (t' := sg.toks) (fun b o hb e => (sb.2 b hb).trans e) f0 f1 f3 f4 f5, rfl, qq⟩⟩
    · refine thnF (T.item (X.blk sd HD sc ce fp) rfl rfl rfl hc i [] sf _ Hf (fun _ _ => False) If (sta If nf) stf go) fun r sg ⟨u, hr, hg'⟩ => ?_
      subst hr
      refine thnF hg' fun _ sh ⟨x, Hh, Ih, rh, yh, sth, nh⟩ => ?_
      refine thnF (pg.run _ sh _ Hh x u _ (Ih.pinned (sta Ih nh) (T.obj _ _ sth)) rh (step x Hh yh)) fun _ si ⟨σi, Hi, Ii, hwi, qi⟩ => ?_
      refine thnF (pt.run _ si σi Hi _ Ii qi) fun b sj ⟨Hj, Ij, qj⟩ => ?_
      have obh : ∀ b ∈ fp, ∃ o, sh.heap.get? b = some o := fun b hb => (T.obj _ _ sth b hb).imp fun _ z => z.1
      have fin : ∀ {s' : Shared} {H' : Hp}, L2.Inv (X.blk sd HD sc ce fp) ([] ++ pinsAt fp sh.heap) σi H' s' → Nx H' → ∃ m, m < n ∧ ∃ i H', L2.Inv (X.blk sd HD sc ce fp) [] (wipe σ (own.map (·.2))) H' s' ∧ tn i s'.heap ∧ (∀ b ∈ fp, H' b = none) ∧ U i m H' := fun {s' H'} I' nx => by
        obtain ⟨I2, keep, none'⟩ := back_to (σ8 := wipe σ (own.map (·.2))) (σ9 := σi) I' (by rw [← hwi, wipe_length]) (fun j v e => by rw [← hwi] at e; exact (wipe_some e).1) obh
        obtain ⟨m', hm, w'⟩ := hNx H' nx
        exact ⟨m', hm, i + 1, H', I2, T.keep _ _ _ sth keep, none', w'⟩
      cases b with
      | false =>
        simp only [Bool.false_eq_true, if_false] at qj ⊢
        exact fin Ij qj
      | true =>
        simp only [if_true] at qj ⊢
        refine thnF (pk.run _ sj σi Hj _ Ij qj) fun a sk ⟨ya, Hk, Ik, ra, k, l, ek, hDk, hz, nz⟩ => ?_
        subst ek
        exact d_addX (X := X.blk sd HD sc ce fp) Ik hDk hz ra fun sl Il => fin Il nz
  exact codeAny_compStart_set big (T.self X.A 0 _ _ _ ste big)
end
end RR
end
section
set_option Elab.async false
set_option linter.all false
set_option maxRecDepth 100000
set_option maxHeartbeats 4000000
/-! sorted(set of texts) -/
namespace RR
open PySem PySem.Spec PyProof.Rows L2 PySem.Froz
section
variable {P : Program} {w : World} {A : Around} {E : Value → Shared → Prop} {s : Shared}
theorem el_str {es : List (Int × Value)} (h : ElemsOf (strKind P w) es) : ∀ e ∈ es, ∃ x t, e.2 = Value.str x t := fun e he => by
  obtain ⟨⟨k, q, _⟩, _⟩ := h e he
  have q : Value.isStrOf k e.2 = true := q
  cases hv : e.2 <;> rw [hv] at q <;> first | exact ⟨_, _, rfl⟩ | (exact absurd q (by simp [Value.isStrOf]))
theorem el_is {e : Int × Value} (h : ∃ x t, e.2 = Value.str x t) (k : Str) : (strKind P w).is k e.2 = true ↔ txtOf e = k := by
  obtain ⟨x, t, e1⟩ := h
  unfold txtOf
  rw [e1]
  show Value.isStrOf k (.str x t) = true ↔ x = k
  exact beq_iff_eq
theorem strs_are : ∀ vs : List Value, (∀ v ∈ vs, ∃ x t, v = Value.str x t) → StrsAre vs (vs.map fun v => txtOf (0, v))
  | [], _ => .nil
  | v :: vs, h => by
    obtain ⟨x, t, rfl⟩ := h v List.mem_cons_self
    exact .cons x t (strs_are vs fun u hu => h u (List.mem_cons_of_mem _ hu))
theorem sorted_setX {a : Addr} {l : List Str} {Q : Value → Shared → Prop} (R : TxAt P w s.heap a l) (hh : A.handled = none) (hb : l.length < scanBound)
    (hQ : ∀ s' p (out : Array Value) (c : Nat) (ns : List Str), (∀ b o, s.heap.get? b = some o → s'.heap.get? b = some o) → s'.gens = s.gens → s'.os = s.os → s.heap.objs.size ≤ p →
      s'.heap.get? p = some (seqObj "list" out c) → StrsAre out.toList ns → sortedS ns = true → ns.Perm l → Q (.ref p) s') :
    wpAny (model P w) A (call (.builtin "sorted") [.ref a]) Q E s := by
  obtain ⟨D, ho, F1, hr, hl, hpl⟩ := R
  obtain ⟨es, ep, t⟩ := D
  have hsz : es.size = l.length := F1.sz
  have hel : ElemsOf (strKind P w) es.toList := F1.el
  have hst := el_str hel
  refine Calls.call_function_entry kind_sorted plain_sorted entry_sorted (args_sorted1 _) ?_
  unfold Builtin.«sorted»
  refine wpAny_bind (m := checkCount "sorted" 1 1 _) (wpAny_pure ?_)
  refine wpAny_bind (collect_set (A := A.in1) hh ⟨_, ho, rfl, rfl⟩ F1.fit (by rw [hsz]; exact hb) hr hl fun s1 vs k1 hz g1 o1 pm => ?_)
  have hvl : vs.length = l.length := by rw [pm.length_eq, List.length_map, Array.length_toList]; exact hsz
  have hs : StrsAre vs (vs.map fun v => txtOf (0, v)) := strs_are vs fun v hv => by
    obtain ⟨e, he, q⟩ := List.mem_map.mp (pm.mem_iff.mp hv)
    rw [← q]
    exact hst e he
  have pk : (vs.map fun v => txtOf (0, v)).Perm (es.toList.map txtOf) := by
    have q := pm.map fun v => txtOf (0, v)
    rw [List.map_map] at q
    exact q
  have hL : vs.length ≤ sizeLine := by rw [hvl]; exact fits_of_scanBound hb
  refine wpAny_bind (wpAny_newList ?_ hL)
  have hoL : (s1.heap.push (seqObj "list" vs.toArray 0)).get? s1.heap.objs.size = some (seqObj "list" vs.toArray 0) := Heap.get?_push_size _ rfl
  refine wpAny_bind (wpAny_holding (wpAny_call_entry slot_list_sort ⟨_, hoL, rfl⟩ entry_list_sort (list_sort_treeKAny strKind_oneLt hoL hs.keysOf (fun v₁ v₂ rest e => keyKind_strs (by rw [← e]; exact hs)) hL fun st' hp hso => ⟨_, rfl, ?_⟩) (args_list_sort _)))
  obtain ⟨ss, h1, h2, h3⟩ := sorted_out_str hs hp hso
  obtain ⟨c, hc⟩ := sortedHeap_at (vs := vs) (out := (arrOf st').map (·.2)) hoL
  have pn := h2.trans pk
  refine wpAny_pure ⟨_, rfl, hQ _ s1.heap.objs.size _ c ss (fun b u e => ?_) g1 o1 hz hc h1 h3 (pn.trans hpl)⟩
  have q := k1 b u e
  have hlt := Heap.lt_size q
  show (sortedHeap (s1.heap.push (seqObj "list" vs.toArray 0)) s1.heap.objs.size vs ((arrOf st').map (·.2))).get? b = some u
  rw [sortedHeap_old (Nat.ne_of_lt hlt) (by rw [size_push']; exact Nat.lt_succ_of_lt hlt)]
  exact Heap.get?_push_of_some _ q
end
/-- sorted(set of texts) -/
def rSortedX (P : Program) (w : World) : List V → Hp → VK → Prop := fun vs H Q => ∃ (a : Addr) (l : List Str), vs = [V.ref a] ∧ H a = some (SetX P w a l) ∧ l.length < scanBound ∧
  ∀ (ns : List Str) (p : Addr), sortedS ns = true → ns.Perm l → H p = none → Q (.ref p) (upd H p (.lst (ns.map V.str)))
theorem cr_sortedX {X : Cx} (hc : X.calm = true) : CallR X (.builtin "sorted") (rSortedX X.prog X.w) := by
  intro pins s σ H vs us Q I r h
  obtain ⟨a, l, rfl, ha, hb, q⟩ := h
  have R := setX_get I ha
  rw [Vals.ref1 r]
  refine sorted_setX R (I.ok.hd hc) hb fun s' p out c ns k g o hp hg hi hs hm => ?_
  have hlen : (ns.map V.str).length ≤ sizeLine := by rw [List.length_map, hm.length_eq]; exact fits_of_scanBound hb
  have hn : H p = none := I.hok.fresh hp
  have J : L2.Inv X pins σ (upd H p (.lst (ns.map V.str))) { s with heap := s'.heap, gens := s'.gens, drawn := s'.drawn, toks := s'.toks } :=
    I.call (ch := []) (Un.laid k hp hn) (I.hok.laid k hp ⟨hlen, out.toList, c, vals_of_strs hi, hg⟩) (by rw [g]; exact I.bare) (fun _ z => nomatch z)
  obtain ⟨h2, g2, d2, t2, o2⟩ := s'
  obtain rfl : o2 = s.os := o
  exact ⟨.ref p, _, J, rfl, q ns p hs hm hn⟩
end RR
end
section
set_option Elab.async false
set_option linter.all false
set_option maxRecDepth 100000
set_option maxHeartbeats 4000000
/-! the tests within a test: all of them, put together each once, met by a plain walk -/
namespace LM
open PySem DL
/-! ### data of texts and tuples alone -/
mutual
def PlD : PyData → Bool
  | .str _ => true
  | .tuple ds => PlDs ds
  | _ => false
def PlDs : List PyData → Bool
  | [] => true
  | d :: ds => PlD d && PlDs ds
end
theorem plDs_iff : ∀ ds : List PyData, PlDs ds = true ↔ ∀ d ∈ ds, PlD d = true
  | [] => ⟨fun _ d h => (nomatch h), fun _ => (by unfold PlDs; rfl)⟩
  | d :: ds => by
    rw [PlDs, Bool.and_eq_true, plDs_iff ds]
    refine ⟨fun h x hx => (List.mem_cons.mp hx).elim (fun e => e ▸ h.1) (h.2 x), fun h => ⟨h d List.mem_cons_self, fun x hx => h x (List.mem_cons_of_mem _ hx)⟩⟩
mutual
theorem eqv_pl : ∀ (a b : PyData), PlD a = true → (PyData.eqv b a = true ↔ b = a)
  | .str s, b, _ => by
    cases b <;> simp [PyData.eqv]
  | .tuple as, b, h => by
    have h : PlDs as = true := by rw [PlD] at h; exact h
    cases b with
    | tuple bs =>
      rw [PyData.eqv, eqvs_pl as bs h]
      exact ⟨fun e => by rw [e], fun e => by injection e⟩
    | _ => simp [PyData.eqv]
  | .none, _, h => by unfold PlD at h; cases h
  | .bool _, _, h => by unfold PlD at h; cases h
  | .int _, _, h => by unfold PlD at h; cases h
  | .list _, _, h => by unfold PlD at h; cases h
  | .dict _, _, h => by unfold PlD at h; cases h
theorem eqvs_pl : ∀ (as bs : List PyData), PlDs as = true → (PyData.eqvAll bs as = true ↔ bs = as)
  | [], bs, _ => by cases bs <;> simp [PyData.eqvAll]
  | a :: as, bs, h => by
    rw [PlDs, Bool.and_eq_true] at h
    cases bs with
    | nil => simp [PyData.eqvAll]
    | cons b bs =>
      rw [PyData.eqvAll, Bool.and_eq_true, eqv_pl a b h.1, eqvs_pl as bs h.2]
      exact ⟨fun e => by rw [e.1, e.2], fun e => by injection e with e1 e2; exact ⟨e1, e2⟩⟩
end
noncomputable def inD (d : PyData) (l : List PyData) : Bool := @decide (d ∈ l) (Classical.propDecidable _)
theorem inD_iff {d : PyData} {l : List PyData} : inD d l = true ↔ d ∈ l := by unfold inD; exact @decide_eq_true_iff _ (Classical.propDecidable _)
theorem inD_no {d : PyData} {l : List PyData} : inD d l = false ↔ d ∉ l := by
  rw [← inD_iff]
  cases inD d l <;> simp
theorem any_pl {d : PyData} {l : List PyData} (h : PlD d = true) : (l.any fun z => PyData.eqv z d) = inD d l := by
  rw [Bool.eq_iff_iff, inD_iff, List.any_eq_true]
  exact ⟨fun ⟨x, hx, e⟩ => by rw [← (eqv_pl d x h).mp e]; exact hx, fun hd => ⟨d, hd, (eqv_pl d d h).mpr rfl⟩⟩
def kindLen : Nat → Nat
  | 1 => 1
  | 2 => 1
  | 3 => 2
  | _ => 0
/-- the word of a test, its first and its second text, told by the data -/
def wD : PyData → Str
  | .tuple (.str w :: _) => w
  | _ => ""
def a1D : PyData → Str
  | .tuple (_ :: .str a :: _) => a
  | _ => ""
def a2D : PyData → Str
  | .tuple (_ :: _ :: .str a :: _) => a
  | _ => ""
namespace Tst
/-! ### the tests right in a test -/
def kids : Tst → List Tst
  | leaf _ _ => []
  | un _ t => [t]
  | many _ ts => ts
mutual
def WF : Tst → Prop
  | leaf w as => lawKind w < 4 ∧ as.length = kindLen (lawKind w)
  | un w t => lawKind w = 5 ∧ WF t
  | many w ts => lawKind w = 4 ∧ WFs ts
def WFs : List Tst → Prop
  | [] => True
  | t :: ts => WF t ∧ WFs ts
end
mutual
def subT : Tst → List Tst
  | leaf w as => [leaf w as]
  | un w t => un w t :: subT t
  | many w ts => many w ts :: subTs ts
def subTs : List Tst → List Tst
  | [] => []
  | t :: ts => subT t ++ subTs ts
end
noncomputable def putT (t : Tst) (l : List Tst) : List Tst := if inD t.toD (l.map toD) = true then l else l ++ [t]
mutual
noncomputable def colT : Tst → List Tst → List Tst
  | leaf w as, l => putT (leaf w as) l
  | un w t, l => putT (un w t) (colT t l)
  | many w ts, l => putT (many w ts) (colTs ts l)
noncomputable def colTs : List Tst → List Tst → List Tst
  | [], l => l
  | t :: ts, l => colTs ts (colT t l)
end
def metT : Nat → List Tst → List Tst → List Tst
  | 0, _, acc => acc
  | n + 1, ws, acc => match ws.getLast? with
    | none => metT n ws acc
    | some t => metT n (ws.dropLast ++ t.kids) (acc ++ [t])
theorem wfs_iff : ∀ ts : List Tst, WFs ts ↔ ∀ t ∈ ts, WF t
  | [] => ⟨fun _ t h => (nomatch h), fun _ => (by unfold WFs; trivial)⟩
  | t :: ts => by
    unfold WFs
    rw [wfs_iff ts]
    exact ⟨fun h x hx => (List.mem_cons.mp hx).elim (fun e => e ▸ h.1) (h.2 x), fun h => ⟨h t List.mem_cons_self, fun x hx => h x (List.mem_cons_of_mem _ hx)⟩⟩
theorem wf_kids {t : Tst} (h : WF t) : ∀ s ∈ t.kids, WF s := by
  cases t with
  | leaf w as => intro s hs; cases hs
  | un w t => unfold WF at h; intro s hs; rw [List.mem_singleton.mp hs]; exact h.2
  | many w ts => unfold WF at h; exact (wfs_iff ts).mp h.2
theorem subT_eq (t : Tst) : subT t = t :: subTs t.kids := by
  cases t with
  | leaf w as => unfold subT kids subTs; rfl
  | un w t => 
    show subT (un w t) = un w t :: subTs [t]
    unfold subTs subTs
    rw [List.append_nil]
    conv => lhs; unfold subT
  | many w ts => 
    show subT (many w ts) = many w ts :: subTs ts
    conv => lhs; unfold subT
theorem colTs_nil (l : List Tst) : colTs [] l = l := by unfold colTs; rfl
theorem colTs_cons (t : Tst) (ts l : List Tst) : colTs (t :: ts) l = colTs ts (colT t l) := by conv => lhs; unfold colTs
theorem colTs_snoc : ∀ (ts : List Tst) (t : Tst) (l : List Tst), colTs (ts ++ [t]) l = colT t (colTs ts l)
  | [], t, l => by rw [List.nil_append, colTs_cons, colTs_nil, colTs_nil]
  | s :: ts, t, l => by rw [List.cons_append, colTs_cons, colTs_cons, colTs_snoc ts]
theorem colT_eq (t : Tst) (l : List Tst) : colT t l = putT t (colTs t.kids l) := by
  cases t with
  | leaf w as => 
    show colT (leaf w as) l = putT _ (colTs [] l)
    rw [colTs_nil]; unfold colT; rfl
  | un w t => 
    show colT (un w t) l = putT _ (colTs [t] l)
    rw [colTs_cons, colTs_nil]
    conv => lhs; unfold colT
  | many w ts => 
    show colT (many w ts) l = putT _ (colTs ts l)
    conv => lhs; unfold colT
theorem mem_subTs {s : Tst} : ∀ {ts : List Tst}, s ∈ subTs ts ↔ ∃ t ∈ ts, s ∈ subT t
  | [] => by unfold subTs; simp
  | t :: ts => by
    unfold subTs
    rw [List.mem_append, mem_subTs (ts := ts)]
    simp
/-- what the putting together keeps -/
structure Tgt (l : List Tst) : Prop where
  nd : (l.map toD).Nodup
  cl : ∀ a s b, l = a ++ s :: b → ∀ y ∈ subTs s.kids, y.toD ∈ a.map toD
theorem Tgt.nil : Tgt [] := ⟨List.nodup_nil, fun a s b h => by simp at h⟩
theorem snoc_split {α : Type} {l a b : List α} {t s : α} (h : l ++ [t] = a ++ s :: b) : (∃ b', b = b' ++ [t] ∧ l = a ++ s :: b') ∨ (b = [] ∧ s = t ∧ a = l) := by
  rcases List.eq_nil_or_concat b with rfl | ⟨b', x, rfl⟩
  · right
    have := List.append_inj' h (by simp)
    exact ⟨rfl, by simpa using this.2.symm, this.1.symm⟩
  · left
    rw [List.concat_eq_append] at h ⊢
    have e : l ++ [t] = (a ++ s :: b') ++ [x] := by rw [h]; simp
    have := List.append_inj' e rfl
    have hx : t = x := by simpa using this.2
    exact ⟨b', by rw [hx], this.1⟩
theorem Tgt.put {l : List Tst} {t : Tst} (h : Tgt l) (hk : ∀ y ∈ subTs t.kids, y.toD ∈ l.map toD) : Tgt (putT t l) := by
  unfold putT
  split
  · exact h
  · rename_i c
    have c : t.toD ∉ l.map toD := fun z => c (inD_iff.mpr z)
    refine ⟨?_, fun a s b e => ?_⟩
    · rw [List.map_append, List.nodup_append]
      refine ⟨h.nd, by simp, fun x hx y hy e => c ?_⟩
      have : y = t.toD := by simpa using hy
      rw [← this, ← e]; exact hx
    · rcases snoc_split e with ⟨b', rfl, e2⟩ | ⟨_, rfl, rfl⟩
      · exact h.cl a s b' e2
      · exact hk
theorem put_all (t : Tst) (l m : List Tst) (h : Tgt m) (h2 : ∃ r, m = l ++ r ∧ (∀ s ∈ r, s ∈ subTs t.kids) ∧ r.length ≤ (subTs t.kids).length) (h3 : ∀ s ∈ subTs t.kids, s.toD ∈ m.map toD) :
    Tgt (putT t m) ∧ (∃ r, putT t m = l ++ r ∧ (∀ s ∈ r, s ∈ subT t) ∧ r.length ≤ (subT t).length) ∧ ∀ s ∈ subT t, s.toD ∈ (putT t m).map toD := by
  obtain ⟨r, e, hr, hl⟩ := h2
  have es := subT_eq t
  have up : ∀ x ∈ m.map toD, x ∈ (putT t m).map toD := fun x hx => by
    unfold putT
    split
    · exact hx
    · rw [List.map_append]; exact List.mem_append_left _ hx
  refine ⟨h.put h3, ?_, fun s hs => ?_⟩
  · unfold putT
    split
    · exact ⟨r, e, fun s hs => by rw [es]; exact List.mem_cons_of_mem _ (hr s hs), by rw [es, List.length_cons]; omega⟩
    · refine ⟨r ++ [t], by rw [e, List.append_assoc], fun s hs => ?_, by rw [es, List.length_append, List.length_cons]; simp only [List.length_cons, List.length_nil]; omega⟩
      rw [es]
      rcases List.mem_append.mp hs with z | z
      · exact List.mem_cons_of_mem _ (hr s z)
      · rw [List.mem_singleton.mp z]; exact List.mem_cons_self
  · rw [es] at hs
    rcases List.mem_cons.mp hs with rfl | hs
    · unfold putT
      split
      · rename_i c; exact inD_iff.mp c
      · rw [List.map_append]; exact List.mem_append_right _ (by simp)
    · exact up _ (h3 s hs)
mutual
theorem col_all : ∀ (t : Tst) (l : List Tst), Tgt l → Tgt (colT t l) ∧ (∃ r, colT t l = l ++ r ∧ (∀ s ∈ r, s ∈ subT t) ∧ r.length ≤ (subT t).length) ∧ ∀ s ∈ subT t, s.toD ∈ (colT t l).map toD
  | leaf w as, l, h => put_all (leaf w as) l l h (by unfold kids subTs; exact ⟨[], by simp, fun s hs => (by cases hs), Nat.le_refl _⟩) (by unfold kids subTs; exact fun s hs => (by cases hs)) |> fun z => by
    have e := colT_eq (leaf w as) l
    rw [show (leaf w as).kids = [] from rfl, colTs_nil] at e
    rw [e]; exact z
  | un w t, l, h => by
    obtain ⟨h1, ⟨r, e1, hr, hl⟩, h3⟩ := col_all t l h
    have e := colT_eq (un w t) l
    rw [show (un w t).kids = [t] from rfl, colTs_cons, colTs_nil] at e
    have es : subTs (un w t).kids = subT t := by
      show subTs [t] = _
      unfold subTs subTs; rw [List.append_nil]
    rw [e]
    exact put_all (un w t) l (colT t l) h1 (by rw [es]; exact ⟨r, e1, hr, hl⟩) (by rw [es]; exact h3)
  | many w ts, l, h => by
    obtain ⟨h1, h2, h3⟩ := cols_all ts l h
    have e := colT_eq (many w ts) l
    rw [show (many w ts).kids = ts from rfl] at e
    rw [e]
    exact put_all (many w ts) l (colTs ts l) h1 h2 h3
theorem cols_all : ∀ (ts : List Tst) (l : List Tst), Tgt l → Tgt (colTs ts l) ∧ (∃ r, colTs ts l = l ++ r ∧ (∀ s ∈ r, s ∈ subTs ts) ∧ r.length ≤ (subTs ts).length) ∧ ∀ s ∈ subTs ts, s.toD ∈ (colTs ts l).map toD
  | [], l, h => by rw [colTs_nil]; exact ⟨h, ⟨[], by simp, fun s hs => (by cases hs), Nat.zero_le _⟩, fun s hs => by unfold subTs at hs; cases hs⟩
  | t :: ts, l, h => by
    obtain ⟨h1, ⟨r1, e1, hr1, hl1⟩, h3⟩ := col_all t l h
    obtain ⟨k1, ⟨r2, e2, hr2, hl2⟩, k3⟩ := cols_all ts (colT t l) h1
    have es : subTs (t :: ts) = subT t ++ subTs ts := by conv => lhs; unfold subTs
    rw [colTs_cons]
    refine ⟨k1, ⟨r1 ++ r2, by rw [e2, e1, List.append_assoc], fun s hs => ?_, by rw [es, List.length_append, List.length_append]; omega⟩, fun s hs => ?_⟩
    · rw [es]
      rcases List.mem_append.mp hs with z | z
      · exact List.mem_append_left _ (hr1 s z)
      · exact List.mem_append_right _ (hr2 s z)
    · rw [es] at hs
      rcases List.mem_append.mp hs with z | z
      · have := h3 s z
        rw [e2, List.map_append]
        exact List.mem_append_left _ this
      · exact k3 s z
end
end Tst
end LM
end
section
set_option Elab.async false
set_option linter.all false
set_option maxRecDepth 100000
set_option maxHeartbeats 4000000
namespace LM
open PySem DL
namespace Tst
/-! ### a test is no test within itself -/
mutual
theorem size_sub : ∀ (t : Tst), ∀ s ∈ subT t, sizeOf s.toD ≤ sizeOf t.toD
  | leaf w as, s, h => by
    unfold subT at h
    rw [List.mem_singleton.mp h]; exact Nat.le_refl _
  | un w t, s, h => by
    unfold subT at h
    rcases List.mem_cons.mp h with rfl | h
    · exact Nat.le_refl _
    · have := size_sub t s h
      rw [toD_un]
      simp only [PyData.tuple.sizeOf_spec, List.cons.sizeOf_spec]
      omega
  | many w ts, s, h => by
    unfold subT at h
    rcases List.mem_cons.mp h with rfl | h
    · exact Nat.le_refl _
    · have := size_subs ts s h
      rw [toD_many]
      simp only [PyData.tuple.sizeOf_spec, List.cons.sizeOf_spec]
      omega
theorem size_subs : ∀ (ts : List Tst), ∀ s ∈ subTs ts, sizeOf s.toD ≤ sizeOf (ts.map toD)
  | [], s, h => by unfold subTs at h; cases h
  | t :: ts, s, h => by
    unfold subTs at h
    rw [List.map_cons]
    simp only [List.cons.sizeOf_spec]
    rcases List.mem_append.mp h with h | h
    · have := size_sub t s h; omega
    · have := size_subs ts s h; omega
end
theorem size_lt (t : Tst) : ∀ s ∈ subTs t.kids, sizeOf s.toD < sizeOf t.toD := by
  intro s h
  cases t with
  | leaf w as => unfold kids subTs at h; cases h
  | un w t =>
    unfold kids subTs subTs at h
    rw [List.append_nil] at h
    have := size_sub t s h
    rw [toD_un]
    simp only [PyData.tuple.sizeOf_spec, List.cons.sizeOf_spec]
    omega
  | many w ts =>
    have := size_subs ts s h
    rw [toD_many]
    simp only [PyData.tuple.sizeOf_spec, List.cons.sizeOf_spec]
    omega
/-- all tests in a test, each once -/
noncomputable def told (t : Tst) : List Tst := colT t []
theorem told_last (t : Tst) : ∃ r, told t = r ++ [t] := by
  unfold told
  rw [colT_eq]
  obtain ⟨_, ⟨r, e, hr, _⟩, _⟩ := cols_all t.kids [] .nil
  rw [List.nil_append] at e
  unfold putT
  rw [if_neg]
  · exact ⟨_, rfl⟩
  · intro z
    obtain ⟨s, hs, e2⟩ := List.mem_map.mp (inD_iff.mp z)
    rw [e] at hs
    have := size_lt t s (hr s hs)
    rw [e2] at this
    omega
theorem told_tgt (t : Tst) : Tgt (told t) := (col_all t [] .nil).1
theorem told_sub {t s : Tst} (h : s ∈ told t) : s ∈ subT t := by
  obtain ⟨_, ⟨r, e, hr, _⟩, _⟩ := col_all t [] .nil
  rw [List.nil_append] at e
  unfold told at h
  rw [e] at h
  exact hr s h
theorem told_has {t s : Tst} (h : s ∈ subT t) : s.toD ∈ (told t).map toD := (col_all t [] .nil).2.2 s h
theorem told_len (t : Tst) : (told t).length ≤ (subT t).length := by
  obtain ⟨_, ⟨r, e, _, hl⟩, _⟩ := col_all t [] .nil
  rw [List.nil_append] at e
  unfold told
  rw [e]; exact hl
/-! ### the plain walk -/
theorem subTs_app : ∀ (a b : List Tst), subTs (a ++ b) = subTs a ++ subTs b
  | [], b => by
    have : subTs [] = [] := by unfold subTs; rfl
    rw [List.nil_append, this, List.nil_append]
  | t :: a, b => by
    rw [List.cons_append]
    have e : ∀ ts, subTs (t :: ts) = subT t ++ subTs ts := fun ts => by conv => lhs; unfold subTs
    rw [e, e, subTs_app a b, List.append_assoc]
theorem subTs_one (t : Tst) : subTs [t] = subT t := by unfold subTs subTs; rw [List.append_nil]
theorem metT_snoc (n : Nat) (ws : List Tst) (t : Tst) (acc : List Tst) : metT (n + 1) (ws ++ [t]) acc = metT n (ws ++ t.kids) (acc ++ [t]) := by
  conv => lhs; unfold metT
  rw [List.getLast?_concat]
  show metT n ((ws ++ [t]).dropLast ++ t.kids) _ = _
  rw [List.dropLast_concat]
theorem metT_nil : ∀ (n : Nat) (acc : List Tst), metT n [] acc = acc
  | 0, acc => by unfold metT; rfl
  | n + 1, acc => by
    conv => lhs; unfold metT
    exact metT_nil n acc
theorem metT_mem : ∀ (n : Nat) (ws acc : List Tst), (subTs ws).length ≤ n → ∀ s, s ∈ metT n ws acc ↔ s ∈ acc ∨ s ∈ subTs ws
  | n, ws, acc, h, s => by
    rcases List.eq_nil_or_concat ws with rfl | ⟨v, t, rfl⟩
    · have : subTs [] = [] := by unfold subTs; rfl
      rw [metT_nil, this]; simp
    · rw [List.concat_eq_append] at h ⊢
      have e1 : subTs (v ++ [t]) = subTs v ++ (t :: subTs t.kids) := by rw [subTs_app, subTs_one, subT_eq]
      rw [e1] at h ⊢
      rw [List.length_append, List.length_cons] at h
      cases n with
      | zero => omega
      | succ n =>
        rw [metT_snoc, metT_mem n (v ++ t.kids) (acc ++ [t]) (by rw [subTs_app, List.length_append]; omega) s, subTs_app]
        simp only [List.mem_append, List.mem_cons, List.mem_singleton, List.not_mem_nil, or_false]
        constructor
        · rintro ((h | h) | h | h)
          · exact .inl h
          · exact .inr (.inr (.inl h))
          · exact .inr (.inl h)
          · exact .inr (.inr (.inr h))
        · rintro (h | h | h | h)
          · exact .inl (.inl h)
          · exact .inr (.inl h)
          · exact .inl (.inr h)
          · exact .inr (.inr h)
theorem metT_acc : ∀ (n : Nat) (ws acc : List Tst), metT n ws acc = acc ++ metT n ws []
  | 0, ws, acc => by unfold metT; rw [List.append_nil]
  | n + 1, ws, acc => by
    rcases List.eq_nil_or_concat ws with rfl | ⟨v, t, rfl⟩
    · rw [metT_nil, metT_nil, List.append_nil]
    · rw [List.concat_eq_append, metT_snoc, metT_snoc, metT_acc n _ (acc ++ [t]), metT_acc n _ ([] ++ [t]), List.nil_append, List.append_assoc]
theorem metT_len : ∀ (n : Nat) (ws : List Tst), (metT n ws []).length ≤ n
  | 0, ws => by unfold metT; exact Nat.le_refl _
  | n + 1, ws => by
    rcases List.eq_nil_or_concat ws with rfl | ⟨v, t, rfl⟩
    · rw [metT_nil]; exact Nat.zero_le _
    · have := metT_len n (v ++ t.kids)
      rw [List.concat_eq_append, metT_snoc, metT_acc, List.nil_append, List.length_append, List.length_singleton]; omega
theorem metT_sub {t s : Tst} (h : (subT t).length ≤ 300) : s ∈ metT 300 [t] [] ↔ s ∈ subT t := by
  have z := metT_mem 300 [t] [] (by rw [subTs_one]; exact h) s
  rw [subTs_one] at z
  exact z.trans (by simp)
theorem metT_tail {t : Tst} (h : (subT t).length ≤ 300) : ∃ r, metT 300 [t] [] = t :: r ∧ ∀ s, s ∈ r ↔ s ∈ subTs t.kids := by
  refine ⟨metT 299 t.kids [], ?_, fun s => ?_⟩
  · have := metT_snoc 299 [] t []
    simp only [List.nil_append] at this
    exact this.trans (metT_acc 299 t.kids [t])
  · have z := metT_mem 299 t.kids [] (by rw [subT_eq, List.length_cons] at h; omega) s
    exact z.trans (by simp)
/-! ### what holds of all tests in a test -/
mutual
theorem all_sub {p : Tst → Prop} (hk : ∀ t, p t → ∀ s ∈ t.kids, p s) : ∀ t, p t → ∀ s ∈ subT t, p s
  | leaf w as, h, s, hs => by
    unfold subT at hs
    rw [List.mem_singleton.mp hs]; exact h
  | un w t, h, s, hs => by
    unfold subT at hs
    rcases List.mem_cons.mp hs with rfl | hs
    · exact h
    · exact all_sub hk t (hk _ h t (by unfold kids; simp)) s hs
  | many w ts, h, s, hs => by
    unfold subT at hs
    rcases List.mem_cons.mp hs with rfl | hs
    · exact h
    · exact all_subs hk ts (fun t ht => hk _ h t ht) s hs
theorem all_subs {p : Tst → Prop} (hk : ∀ t, p t → ∀ s ∈ t.kids, p s) : ∀ ts : List Tst, (∀ t ∈ ts, p t) → ∀ s ∈ subTs ts, p s
  | [], h, s, hs => by unfold subTs at hs; cases hs
  | t :: ts, h, s, hs => by
    unfold subTs at hs
    rcases List.mem_append.mp hs with hs | hs
    · exact all_sub hk t (h t List.mem_cons_self) s hs
    · exact all_subs hk ts (fun x hx => h x (List.mem_cons_of_mem _ hx)) s hs
end
/-- well formed, not too deep, texts can be laid -/
structure Okt (n : Nat) (t : Tst) : Prop where
  wf : WF t
  lay : t.toD.canLay0 = true
  dep : t.toD.depth ≤ n
  len : (subT t).length ≤ 15
theorem sub_len {t : Tst} : ∀ s ∈ t.kids, (subT s).length ≤ (subT t).length := by
  intro s hs
  rw [subT_eq t, List.length_cons]
  have : ∀ (ts : List Tst), s ∈ ts → (subT s).length ≤ (subTs ts).length := by
    intro ts
    induction ts with
    | nil => intro h; cases h
    | cons t ts ih =>
      intro h
      have e : subTs (t :: ts) = subT t ++ subTs ts := by conv => lhs; unfold subTs
      rw [e, List.length_append]
      rcases List.mem_cons.mp h with rfl | h
      · omega
      · have := ih h; omega
  have := this _ hs
  omega
theorem dep_all : ∀ {ds : List PyData}, ∀ d ∈ ds, d.depth ≤ PyData.depthAll ds
  | e :: ds, d, h => by
    unfold PyData.depthAll
    rcases List.mem_cons.mp h with rfl | h
    · omega
    · have := dep_all d h; omega
theorem Okt.kids {n : Nat} {t : Tst} (h : Okt n t) : ∀ s ∈ t.kids, Okt n s := by
  intro s hs
  refine ⟨wf_kids h.wf s hs, ?_, ?_, Nat.le_trans (sub_len s hs) h.len⟩
  · have l := h.lay
    cases t with
    | leaf w as => cases hs
    | un w t =>
      rw [toD_un] at l
      rw [List.mem_singleton.mp hs]
      exact lay_tup_inv l _ (by simp)
    | many w ts =>
      rw [toD_many] at l
      exact lay_tup_inv (lay_tup_inv l (.tuple (ts.map toD)) (by simp)) _ (List.mem_map_of_mem hs)
  · have l := h.dep
    cases t with
    | leaf w as => cases hs
    | un w t =>
      rw [toD_un] at l
      rw [List.mem_singleton.mp hs]
      unfold PyData.depth at l
      have := dep_all (ds := [.str w, t.toD]) t.toD (by simp)
      omega
    | many w ts =>
      rw [toD_many] at l
      unfold PyData.depth at l
      have h1 := dep_all (ds := [.str w, .tuple (ts.map toD)]) (.tuple (ts.map toD)) (by simp)
      unfold PyData.depth at h1
      have h2 := dep_all (ds := ts.map toD) s.toD (List.mem_map_of_mem hs)
      omega
theorem Okt.sub {n : Nat} {t : Tst} (h : Okt n t) : ∀ s ∈ subT t, Okt n s := all_sub (fun t ht => ht.kids) t h
mutual
theorem pl_toD : ∀ t : Tst, PlD t.toD = true
  | leaf w as => by
    rw [toD_leaf]
    unfold PlD PlDs
    rw [Bool.and_eq_true]
    refine ⟨by unfold PlD; rfl, (plDs_iff _).mpr fun d hd => ?_⟩
    obtain ⟨a, _, rfl⟩ := List.mem_map.mp hd
    unfold PlD; rfl
  | un w t => by
    rw [toD_un]
    unfold PlD
    refine (plDs_iff _).mpr fun d hd => ?_
    simp only [List.mem_cons, List.not_mem_nil, or_false] at hd
    rcases hd with rfl | rfl
    · unfold PlD; rfl
    · exact pl_toD t
  | many w ts => by
    rw [toD_many]
    unfold PlD
    refine (plDs_iff _).mpr fun d hd => ?_
    simp only [List.mem_cons, List.not_mem_nil, or_false] at hd
    rcases hd with rfl | rfl
    · unfold PlD; rfl
    · unfold PlD
      exact (plDs_iff _).mpr (pl_toDs ts)
theorem pl_toDs : ∀ ts : List Tst, ∀ d ∈ ts.map toD, PlD d = true
  | [], d, h => by cases h
  | t :: ts, d, h => by
    rw [List.map_cons] at h
    rcases List.mem_cons.mp h with rfl | h
    · exact pl_toD t
    · exact pl_toDs ts d h
end
end Tst
end LM
end
section
set_option Elab.async false
set_option linter.all false
set_option maxRecDepth 100000
set_option maxHeartbeats 4000000
namespace LM
open PySem DL
theorem sAt_in {l : List Str} {p : Str → Prop} {i : Int} (h0 : 0 ≤ i) (h1 : i < (l.length : Int)) (h : ∀ x ∈ l, p x) : p (sAt l i) := by
  unfold sAt
  rw [List.getD_eq_getElem?_getD, List.getElem?_eq_getElem (by omega : i.toNat < l.length)]
  exact h _ (List.getElem_mem _)
namespace Tst
theorem wf_own (ds : List Int) : WF (ownT ds) := by
  unfold ownT
  dsimp only
  split
  · unfold WF; exact ⟨by decide +kernel, by show 1 = kindLen (lawKind "name"); decide +kernel⟩
  split
  · unfold WF; exact ⟨by decide +kernel, by show 1 = kindLen (lawKind "mark"); decide +kernel⟩
  split
  · unfold WF; exact ⟨by decide +kernel, by show 2 = kindLen (lawKind "value"); decide +kernel⟩
  split
  · unfold WF; exact ⟨by decide +kernel, by show 1 = kindLen (lawKind "text"); decide +kernel⟩
  split
  · unfold WF; exact ⟨by decide +kernel, by show 0 = kindLen (lawKind "any"); decide +kernel⟩
  · unfold WF; exact ⟨by decide +kernel, by show 0 = kindLen (lawKind "first"); decide +kernel⟩
theorem wf_lawT : ∀ (n : Nat) (ds : List Int) (b : Bool), WF (lawT n ds b)
  | 0, ds, _ => wf_own ds
  | n + 1, ds, b => by
    have ih := wf_lawT n
    have m2 : ∀ i : Int, 0 ≤ i % 2 ∧ i % 2 < 2 := fun i => by omega
    unfold lawT
    dsimp only
    split
    · exact wf_own ds
    rename_i h3
    split
    · unfold WF; exact ⟨by decide +kernel, ih _ _⟩
    rename_i h5
    split
    · rename_i h9
      unfold WF
      exact ⟨sAt_in (l := ["under", "in", "next", "behind"]) (p := fun x => lawKind x = 5) (by omega) (by show dAt ds 3 % 14 - 5 < 4; omega) (by decide +kernel), ih _ _⟩
    split
    · unfold WF WFs WFs WFs
      refine ⟨?_, ih _ _, ih _ _, trivial⟩
      split <;> decide +kernel
    split
    · exact wf_own ds
    split
    · unfold WF
      exact ⟨sAt_in (l := ["over", "has"]) (p := fun x => lawKind x = 5) (m2 _).1 (m2 _).2 (by decide +kernel), ih _ _⟩
    · unfold WF
      refine ⟨?_, ?_⟩
      · exact sAt_in (l := ["last", "empty"]) (p := fun x => lawKind x < 4) (m2 _).1 (m2 _).2 (by decide +kernel)
      · exact sAt_in (l := ["last", "empty"]) (p := fun x => 0 = kindLen (lawKind x)) (m2 _).1 (m2 _).2 (by decide +kernel)
theorem dA0 : PyData.depthAll [] = 0 := by unfold PyData.depthAll; rfl
theorem dAc (d : PyData) (ds : List PyData) : PyData.depthAll (d :: ds) = max d.depth (PyData.depthAll ds) := by conv => lhs; unfold PyData.depthAll
theorem dTu (ds : List PyData) : (PyData.tuple ds).depth = PyData.depthAll ds + 1 := by conv => lhs; unfold PyData.depth
theorem dSt (w : Str) : (PyData.str w).depth = 0 := by unfold PyData.depth; rfl
theorem dep_strs : ∀ l : List Str, PyData.depthAll (l.map PyData.str) = 0
  | [] => dA0
  | a :: l => by rw [List.map_cons, dAc, dep_strs l, dSt]; rfl
theorem dep_leaf {w : Str} {as : List Str} : (leaf w as).toD.depth ≤ 1 := by
  rw [toD_leaf, dTu, dAc, dep_strs, dSt]; decide
theorem dep_un {w : Str} {t : Tst} : (un w t).toD.depth ≤ 1 + t.toD.depth := by
  rw [toD_un, dTu, dAc, dAc, dA0, dSt]; omega
theorem dep_two {w : Str} {s t : Tst} : (many w [s, t]).toD.depth ≤ 2 + max s.toD.depth t.toD.depth := by
  rw [toD_many, List.map_cons, List.map_cons, List.map_nil, dTu, dAc, dAc, dA0, dSt, dTu, dAc, dAc, dA0]; omega
theorem own_leaf (ds : List Int) : ∃ w as, ownT ds = leaf w as := by
  unfold ownT
  dsimp only
  split
  · exact ⟨_, _, rfl⟩
  split
  · exact ⟨_, _, rfl⟩
  split
  · exact ⟨_, _, rfl⟩
  split
  · exact ⟨_, _, rfl⟩
  split
  · exact ⟨_, _, rfl⟩
  · exact ⟨_, _, rfl⟩
theorem size_own (ds : List Int) : (ownT ds).toD.depth ≤ 1 ∧ (subT (ownT ds)).length = 1 := by
  obtain ⟨w, as, e⟩ := own_leaf ds
  rw [e]
  exact ⟨dep_leaf, by unfold subT; rfl⟩
def big : Nat → Nat
  | 0 => 1
  | n + 1 => 1 + 2 * big n
theorem size_lawT : ∀ (n : Nat) (ds : List Int) (b : Bool), (lawT n ds b).toD.depth ≤ 1 + 2 * n ∧ (subT (lawT n ds b)).length ≤ big n
  | 0, ds, _ => by
    have := size_own ds
    unfold lawT big
    omega
  | n + 1, ds, b => by
    have ih := size_lawT n
    have h0 := size_own ds
    have hu : ∀ w ds' b', (un w (lawT n ds' b')).toD.depth ≤ 1 + 2 * (n + 1) ∧ (subT (un w (lawT n ds' b'))).length ≤ big (n + 1) := fun w ds' b' => by
      have h1 := dep_un (w := w) (t := lawT n ds' b')
      have h2 := ih ds' b'
      have h3 : (subT (un w (lawT n ds' b'))).length = 1 + (subT (lawT n ds' b')).length := by
        rw [subT_eq, List.length_cons]
        show (subTs [_]).length + 1 = _
        rw [subTs_one]; omega
      unfold big
      omega
    have ho : (ownT ds).toD.depth ≤ 1 + 2 * (n + 1) ∧ (subT (ownT ds)).length ≤ big (n + 1) := by unfold big; omega
    unfold lawT
    dsimp only
    split
    · exact ho
    split
    · exact hu _ _ _
    split
    · exact hu _ _ _
    split
    · have h1 := ih (rot 5 ds) b
      have h2 := ih (rot 3 (rot 5 ds)) b
      have hd := @dep_two (if dAt ds 3 % 14 < 11 then "both" else "one") (lawT n (rot 5 ds) b) (lawT n (rot 3 (rot 5 ds)) b)
      refine ⟨by omega, ?_⟩
      rw [subT_eq, List.length_cons]
      show (subTs [_, _]).length + 1 ≤ _
      have e : ∀ s t, subTs [s, t] = subT s ++ subT t := fun s t => by
        have := subTs_app [s] [t]
        rw [subTs_one, subTs_one] at this
        exact this
      rw [e, List.length_append]
      unfold big
      omega
    split
    · exact ho
    split
    · exact hu _ _ _
    · refine ⟨Nat.le_trans dep_leaf (by omega), ?_⟩
      unfold subT big
      show 1 ≤ _
      omega
theorem okt_lawT (ds : List Int) (b : Bool) : Okt 7 (lawT 3 ds b) := ⟨wf_lawT 3 ds b, (clean_lawT 3 ds b).2, (size_lawT 3 ds b).1, (size_lawT 3 ds b).2⟩
/-! ### what a test looks like -/
theorem toD_head (t : Tst) : ∃ r, t.toD = .tuple (.str (wD t.toD) :: r) := by
  cases t with
  | leaf w as => rw [toD_leaf]; exact ⟨_, rfl⟩
  | un w t => rw [toD_un]; exact ⟨_, rfl⟩
  | many w ts => rw [toD_many]; exact ⟨_, rfl⟩
theorem leaf_of {t : Tst} (h : WF t) (hk : lawKind (wD t.toD) < 4) : ∃ as, t = leaf (wD t.toD) as ∧ as.length = kindLen (lawKind (wD t.toD)) := by
  cases t with
  | leaf w as =>
    unfold WF at h
    rw [toD_leaf]
    exact ⟨as, rfl, h.2⟩
  | un w t =>
    unfold WF at h
    rw [toD_un] at hk
    have : lawKind w < 4 := hk
    omega
  | many w ts =>
    unfold WF at h
    rw [toD_many] at hk
    have : lawKind w < 4 := hk
    omega
theorem one_of {t : Tst} (h : WF t) {w : Str} (hw : wD t.toD = w) (hk : kindLen (lawKind w) = 1) (h4 : lawKind w < 4) : t.toD = .tuple [.str w, .str (a1D t.toD)] := by
  obtain ⟨as, e, hl⟩ := leaf_of h (by rw [hw]; exact h4)
  rw [hw] at e hl
  rw [hk] at hl
  match as, hl with
  | [a], _ =>
    rw [e, toD_leaf]; rfl
theorem two_of {t : Tst} (h : WF t) (hw : wD t.toD = "value") : t.toD = .tuple [.str "value", .str (a1D t.toD), .str (a2D t.toD)] := by
  obtain ⟨as, e, hl⟩ := leaf_of h (by rw [hw]; decide +kernel)
  rw [hw] at e hl
  rw [show kindLen (lawKind "value") = 2 from by decide +kernel] at hl
  match as, hl with
  | [a, b], _ =>
    rw [e, toD_leaf]; rfl
end Tst
end LM
end
section
set_option Elab.async false
set_option linter.all false
set_option maxRecDepth 100000
set_option maxHeartbeats 4000000
/-! texts in order, each once -/
namespace LM
open PySem PySem.Spec PyProof.Rows DL
def leS (a b : Str) : Prop := ¬ (b.cps.toList < a.cps.toList)
theorem leS_trans {a b c : Str} (h1 : leS a b) (h2 : leS b c) : leS a c := List.le_trans (α := Nat) h1 h2
theorem leS_anti {a b : Str} (h1 : leS a b) (h2 : leS b a) : a = b := by
  have e := List.le_antisymm (α := Nat) h1 h2
  obtain ⟨x⟩ := a
  obtain ⟨y⟩ := b
  have : x = y := Array.toList_inj.mp e
  rw [this]
theorem asc_uniq : ∀ l1 l2 : List Str, l1.Perm l2 → l1.Pairwise leS → l2.Pairwise leS → l1 = l2
  | [], l2, p, _, _ => by rw [List.Perm.nil_eq p]
  | a :: l1, [], p, _, _ => by have := p.length_eq; simp at this
  | a :: l1, b :: l2, p, h1, h2 => by
    obtain ⟨a1, a2⟩ := List.pairwise_cons.mp h1
    obtain ⟨b1, b2⟩ := List.pairwise_cons.mp h2
    have e : a = b := by
      have ha : a ∈ b :: l2 := p.mem_iff.mp List.mem_cons_self
      have hb : b ∈ a :: l1 := p.mem_iff.mpr List.mem_cons_self
      rcases List.mem_cons.mp ha with e | ha
      · exact e
      rcases List.mem_cons.mp hb with e | hb
      · exact e.symm
      · exact leS_anti (a1 b hb) (b1 a ha)
    subst e
    rw [asc_uniq l1 l2 (p.cons_inv) a2 b2]
theorem rising_pw : ∀ (r : List Str) (p : Str), risingS p r = true → (p :: r).Pairwise leS
  | [], p, _ => by simp
  | x :: r, p, h => by
    have h : (!ltCps x.cps.toList p.cps.toList && risingS x r) = true := h
    rw [Bool.and_eq_true, Bool.not_eq_true', ltCps_eq] at h
    have i := rising_pw r x h.2
    have px : leS p x := of_decide_eq_false h.1
    refine List.pairwise_cons.mpr ⟨fun y hy => ?_, i⟩
    rcases List.mem_cons.mp hy with rfl | hy
    · exact px
    · exact leS_trans px ((List.pairwise_cons.mp i).1 y hy)
theorem sorted_pw : ∀ l : List Str, sortedS l = true → l.Pairwise leS
  | [], _ => List.Pairwise.nil
  | x :: r, h => rising_pw r x h
/-- ys are the texts of l in order, each once -/
structure Asc (l ys : List Str) : Prop where
  pw : ys.Pairwise leS
  nd : ys.Nodup
  mem : ∀ k, k ∈ ys ↔ k ∈ l
open Classical in
noncomputable def srtS (l : List Str) : List Str := if h : ∃ ys, Asc l ys then choose h else []
theorem Asc.eq {l ys : List Str} (h : Asc l ys) : ys = srtS l := by
  have hx : ∃ ys, Asc l ys := ⟨ys, h⟩
  unfold srtS
  rw [dif_pos hx]
  have z := Classical.choose_spec hx
  exact asc_uniq _ _ ((List.perm_ext_iff_of_nodup h.nd z.nd).mpr fun k => (h.mem k).trans (z.mem k).symm) h.pw z.pw
theorem srtS_congr {l m : List Str} (h : ∀ k, k ∈ l ↔ k ∈ m) : srtS l = srtS m := by
  have e : Asc l = Asc m := by
    funext ys
    exact propext ⟨fun a => ⟨a.pw, a.nd, fun k => (a.mem k).trans (h k)⟩, fun a => ⟨a.pw, a.nd, fun k => (a.mem k).trans (h k).symm⟩⟩
  unfold srtS
  rw [e]
theorem asc_of {l ys us : List Str} (hs : sortedS ys = true) (p : ys.Perm us) (nd : us.Nodup) (m : ∀ k, k ∈ us ↔ k ∈ l) : ys = srtS l :=
  Asc.eq ⟨sorted_pw _ hs, p.nodup_iff.mpr nd, fun k => p.mem_iff.trans (m k)⟩
end LM
end
section
set_option Elab.async false
set_option linter.all false
set_option maxRecDepth 100000
set_option maxHeartbeats 4000000
namespace DL
open PySem PySem.Spec PyProof.Rows L2 LM RR
theorem room65 {k : Nat} {A : Around} (r : Room k A) : A.units + 65 < cLine := by have := r.un; omega
theorem sl_DK {X : Cx} (K : PySem.W.Frag) (hK : X.K = K := by rfl) : SlR X (rSlD K) := by subst hK; exact sl_D
theorem op_inDK {X : Cx} (K : PySem.W.Frag) (hu : X.A.units + 65 < cLine) (hK : X.K = K := by rfl) : OpR X (compareOp .In) (rInD K) := by subst hK; exact op_inD hu
theorem op_ninDK {X : Cx} (K : PySem.W.Frag) (hu : X.A.units + 65 < cLine) (hK : X.K = K := by rfl) : OpR X (compareOp .NotIn) (rNotInD K) := by subst hK; exact op_notInD hu
section
variable {P : Program} {W : World} {K : PySem.W.Frag} {A H H' H0 H1 H2 G G2 Hc : Hp} {σ : L2.St} {t te td tn tv t1 t2 : TE} {tt : TT} {g : TG} {tr : TS} {D : Ends} {tA : TA} {n i j : Nat} {p b : Addr} {xs ys : List V} {v : V} {d : PyData} {ds es : List PyData}
theorem go_inD (s1 : SeqAt.shaped d = true) (s2 : SeqAt.shaped (.list ds) = true) : GO K (rInD K) d (.list ds) (.bool (ds.any fun z => PyData.eqv z d)) := fun H H1 G H2 v w Q p dx dy q =>
  ⟨d, ds, dv_dp _ _ (Dv.to dx p.gh), dv_dp _ _ (Dv.to dy p.gh), s1, s2, q _ G H2 p (.bl _)⟩
theorem go_ninD (s1 : SeqAt.shaped d = true) (s2 : SeqAt.shaped (.list ds) = true) : GO K (rNotInD K) d (.list ds) (.bool (!ds.any fun z => PyData.eqv z d)) := fun H H1 G H2 v w Q p dx dy q =>
  ⟨d, ds, dv_dp _ _ (Dv.to dx p.gh), dv_dp _ _ (Dv.to dy p.gh), s1, s2, q _ G H2 p (.bl _)⟩
/-- sorted({f(x) for x in xs if p(x)}) -/
theorem gd_srtX {α : Type} {wi : TI} {vs : List Nat} {zs : List α} (em : α → PyData) (p : α → Bool) (f : α → Str) (gi : GI K wi σ H A (zs.map em)) (z : zs.length ≤ 1000)
    (turn : ∀ (i : Nat) (a : α), zs[i]? = some a → ∀ v G H1, Pub H A G H1 → Dv K G v (em a) → ∀ Q : L2.St → Hp → Prop,
      (∀ σ2 G2 H2, Pub G H1 G2 H2 → wipe σ2 vs = wipe σ vs → GT tt σ2 G2 H2 (p a) → (p a = true → GD K te σ2 G2 H2 (.str (f a))) → Q σ2 H2) → g v (wipe σ vs) H1 Q) :
    GD K (tCB (rSortedX P W) (tCons (tSc P W wi g tt te vs) tNil)) σ H A (.list ((srtS ((zs.filter p).map f)).map .str)) := fun H0 H1 e Q q => by
  show tSc P W wi g tt te vs σ H1 fun v H2 => rSortedX P W [v] H2 Q
  refine gi H0 H1 e _ fun J B H2 pb r D hD => ?_
  refine ⟨fun i m Hx => m = zs.length - i ∧ i ≤ zs.length ∧ ∃ G l, Pub B H2 G Hx ∧ Hx D = some (SetX P W D l) ∧ G D = none ∧ l.Nodup ∧ (∀ k, k ∈ l ↔ k ∈ ((zs.take i).filter p).map f) ∧ l.length ≤ i,
    ⟨zs.length, by simp, Nat.zero_le _, B, [], (Pub.refl pb.gh).newP hD _, upd_same, pb.gh.free hD, List.nodup_nil, by simp, Nat.le_refl _⟩, ?_⟩
  rintro i m Hx ⟨rfl, hi, G, l, pg, hl, hGD, nd, mem, len⟩
  by_cases hlt : i < zs.length
  · have hlt' : i < (zs.map em).length := by rw [List.length_map]; exact hlt
    refine .inr ⟨r.go i Hx pg.same hlt', fun H' => ∃ G l, Pub B H2 G H' ∧ H' D = some (SetX P W D l) ∧ G D = none ∧ l.Nodup ∧ (∀ k, k ∈ l ↔ k ∈ ((zs.take (i + 1)).filter p).map f) ∧ l.length ≤ i + 1, fun H' ⟨G', l', h⟩ => ⟨zs.length - (i + 1), by omega, rfl, hlt, G', l', h⟩, fun x H' hy => ?_⟩
    obtain ⟨d, G', hd, p1, dx⟩ := r.yld i Hx x H' G pg.hg pg.gh hlt' hy
    rw [List.getElem?_map] at hd
    obtain ⟨a, ha, rfl⟩ := Option.map_eq_some_iff.mp hd
    refine turn i a ha x G' H' (e.trans (pb.trans (pg.trans p1))) dx _ fun σ2 G2 H3 p2 hw gt gd => ⟨hw, ?_⟩
    have ht : zs.take (i + 1) = zs.take i ++ [a] := by rw [List.take_add_one, ha]; rfl
    have q12 := (pg.trans p1).trans p2
    have hD3 : H3 D = some (SetX P W D l) := p2.hh D _ (p1.hh D _ hl)
    have hG2D : G2 D = none := (p1.trans p2).pr D hGD (some_ne hl)
    refine gt.to (.refl p2.gh) fun H4 e4 => ?_
    have q4 : Pub B H2 G2 H4 := q12.trans e4
    cases hp : p a with
    | false =>
      refine iteF ⟨G2, l, q4, e4.hh D _ hD3, hG2D, nd, fun k => ?_, by omega⟩
      rw [ht, List.filter_append, List.filter_cons, hp, if_neg Bool.false_ne_true, List.filter_nil, List.append_nil]
      exact mem k
    | true =>
      refine iteT ((gd hp).to e4 fun y G5 H5 p5 dy => ?_)
      have hy := Dv.str_inv dy
      subst hy
      have hD5 : H5 D = some (SetX P W D l) := p5.hh D _ (e4.hh D _ hD3)
      have hG5D : G5 D = none := p5.pr D hG2D (some_ne (e4.hh D _ hD3))
      have big : l.length + 1 < scanBound := Nat.lt_of_le_of_lt (show l.length + 1 ≤ 1001 by omega) (by decide)
      refine ⟨f a, l, rfl, hD5, big, G5, addL (f a) l, (q4.trans p5).put hD hG5D _, upd_same, hG5D, ?_, fun k => ?_, ?_⟩
      · unfold addL
        by_cases c : f a ∈ l
        · rw [if_pos c]; exact nd
        · rw [if_neg c]; exact List.nodup_cons.mpr ⟨c, nd⟩
      · rw [ht, List.filter_append, List.filter_cons, hp, if_pos rfl, List.filter_nil, List.map_append, List.mem_append, ← mem k]
        unfold addL
        by_cases c : f a ∈ l
        · rw [if_pos c]
          exact ⟨.inl, fun h => h.elim id fun h => by rw [List.mem_singleton.mp h]; exact c⟩
        · rw [if_neg c, List.mem_cons]
          exact ⟨fun h => h.elim (fun h => .inr (by rw [h]; exact List.mem_singleton.mpr rfl)) .inl, fun h => h.elim .inr fun h => .inl (List.mem_singleton.mp h)⟩
      · unfold addL
        by_cases c : f a ∈ l
        · rw [if_pos c]; omega
        · rw [if_neg c, List.length_cons]; omega
  · have hn : i = zs.length := by omega
    subst hn
    rw [List.take_length] at mem
    refine .inl ⟨r.stop _ Hx pg.same (by rw [List.length_map]; exact Nat.le_refl _), D, l, rfl, hl, Nat.lt_of_le_of_lt (show l.length ≤ 1000 by omega) (by decide), fun ns c hs hperm hc => ?_⟩
    have en := asc_of hs hperm nd mem
    subst en
    exact q _ _ _ ((pb.trans pg).new hc _) (.lst (.inl upd_same) DvA.strs)
/-- sorted of a list of texts, each once -/
theorem gc_srtS {l : List Str} (nd : l.Nodup) (z : l.length < 64) : GC K (rSortedS K) [.list (l.map .str)] (.list ((srtS l).map .str)) := fun H H1 G H2 vs Q p dv q => by
  obtain ⟨v, rfl, d1⟩ := DvA.inv1 dv
  obtain ⟨a, xs, rfl, s, da⟩ := Dv.lst_inv d1
  have e := DvA.strs_inv da
  subst e
  refine ⟨a, l, rfl, .inl (rd_same p.gh s), z, fun ys c hp hs hc => ?_⟩
  have en := asc_of hs hp nd fun k => Iff.rfl
  subst en
  exact q _ _ _ (p.new hc _) (.lst (.inl upd_same) DvA.strs)
/-! ### two lists of one's own -/
/-- the list at j and a public one, put together anew -/
theorem s_addOwn (w : Own H0 H1 G H p (.lst xs)) (ho : σ[j]? = some (some (.ref p))) (ge : GD K te σ G H (.list ds)) (z : xs.length + ds.length ≤ sizeLine)
    (k : ∀ c vs G' H' Hx, Pub G H G' Hx → Hx c = none → H' = upd Hx c (.lst (xs ++ vs)) → DvA K G' vs ds → D.nx (σ.set i (some (.ref c))) H') : tAsg (tOp (rAddA K) (tVar j) te) (gName i) D σ H :=
  ⟨.ref p, ho, ge.to (.refl w.gh) fun v G' H' P dv => by
    obtain ⟨b, ys, rfl, s2, db⟩ := Dv.lst_inv dv
    have w2 := w.step P
    exact .inr (.inr (.inl ⟨p, b, xs, ys, rfl, rfl, .inl w2.at_, rd_same P.gh s2, by rw [DvA.len db]; exact z, fun c hc => k c ys G' _ H' P hc rfl db⟩))⟩
end
end DL
end
section
set_option Elab.async false
set_option linter.all false
set_option maxRecDepth 100000
set_option maxHeartbeats 4000000
namespace LW
open PySem PySem.Spec PyProof.Rows L2 DL LM
section
variable {P : Program} {W : World} {K : PySem.W.Frag} {mg : Str → Option Value} {base : Heap} {f : Addr} {fd : FuncData} {A A2 H H' H0 H1 H2 G G2 Hc : Hp} {σ : L2.St} {t te td tn tv t1 t2 : TE} {tr : TS} {ts : TS} {D : Ends} {tA : TA} {n i j : Nat} {p b : Addr} {xs ys : List V} {v : V} {d : PyData} {ds es : List PyData}
open Tst
/-- the written table's text at a word that it has -/
theorem gd_tabIx {a : Addr} {l : List (Str × Str)} {x y : Str} (h : IsTab K W a l) (hx : tabO l x = some y) (g : GD K te σ H A (.str x)) : GD K (tOp (rIxD K W) (tC (.ref a)) te) σ H A (.str y) := fun H0 H1 e Q q => by
  refine g.to e fun v G H2 p dv => ?_
  have ev := Dv.str_inv dv
  subst ev
  obtain ⟨es, n, ru, hl, hk, hd, hn, rr⟩ := isTab_w h x
  rw [hx] at rr
  cases ru with
  | none => exact rr.elim
  | some u => exact ⟨a, x, .str y, rfl, rfl, ⟨es, n, u, hl, hk, hn, rr⟩, q _ G H2 p (.str _)⟩
theorem gd_w0 {s : Tst} (h : σ[i]? = some (some v)) (dv : Dv K H v s.toD) : GD K (tOp (rIx K) (tVar i) (tC (.int 0))) σ H A (.str (wD s.toD)) := by
  obtain ⟨r, e⟩ := toD_head s
  generalize wD s.toD = w at e ⊢
  rw [e] at dv
  exact gdo (gd_var h dv) gd_int (go_ixT (atI_nat (j := 0) rfl))
theorem sig_of {t : Tst} (h : WF t) : ∃ sg, tabO ARGS (wD t.toD) = some sg ∧ ((sg = "p" ∧ ∃ w ts, t = many w ts) ∨ (sg = "t" ∧ ∃ w s, t = un w s) ∨ (sg ≠ "p" ∧ sg ≠ "t" ∧ t.kids = [])) := by
  rw [tab_kind]
  cases t with
  | leaf w as =>
    unfold WF at h
    have e : wD (leaf w as).toD = w := by rw [toD_leaf]; rfl
    rw [e]
    have hk := h.1
    generalize lawKind w = k at hk
    match k, hk with
    | 0, _ => exact ⟨_, rfl, .inr (.inr ⟨by decide +kernel, by decide +kernel, rfl⟩)⟩
    | 1, _ => exact ⟨_, rfl, .inr (.inr ⟨by decide +kernel, by decide +kernel, rfl⟩)⟩
    | 2, _ => exact ⟨_, rfl, .inr (.inr ⟨by decide +kernel, by decide +kernel, rfl⟩)⟩
    | 3, _ => exact ⟨_, rfl, .inr (.inr ⟨by decide +kernel, by decide +kernel, rfl⟩)⟩
    | k + 4, hk => omega
  | un w t =>
    unfold WF at h
    have e : wD (un w t).toD = w := by rw [toD_un]; rfl
    rw [e, h.1]
    exact ⟨_, rfl, .inr (.inl ⟨rfl, _, _, rfl⟩)⟩
  | many w ts =>
    unfold WF at h
    have e : wD (many w ts).toD = w := by rw [toD_many]; rfl
    rw [e, h.1]
    exact ⟨_, rfl, .inl ⟨rfl, _, _, rfl⟩⟩
def arT : Tst → List PyData := fun t => [t.toD]
abbrev stests_in : Stmt := topS 2
theorem sctests_in : FnScope ["test", "signs"] ["test"] (defScope stests_in) := ⟨rfl, rfl, rfl, by decide +kernel, rfl, by decide +kernel, by decide +kernel⟩
theorem ok_tests_in (B : Bar mg K W) (F : Fun K "tests_in" "tests_in" stests_in f fd) : FnOk P W K mg base CX0 1 f fd ["test"] (spA K 1 arT WF fun t => .tuple (t.kids.map toD)) := by
  obtain ⟨aA, hA, tab⟩ := B.ex
  refine fn_A F sctests_in rfl fun cdv A outer s H1 E hr => ⟨_, (pss_cons (ps_set (i := 1) sctests_in.nd rfl (Or.inl rfl) (pe_ix ix_kdict (pe_gl (v := .ref aA) ⟨_, hA, rfl⟩) (pe_ix ix_seq (pv 0) pe_int (fun _ _ => rfl)) (fun _ _ => rfl)))
      (pss_cons (ps_if (pt_cmpR (op_eqA hr.units) (pv 1) pe_str (nomark _)) (pss_one (ps_ret (pe_ix ix_seq (pv 0) pe_int (fun _ _ => rfl)))) pss_nil)
      (pss_one (ps_ret (pe_ifExp (pt_cmpR (op_eqA hr.units) (pv 1) pe_str (nomark _)) (RR.pe_tupF (pa_cons (pe_ix ix_seq (pv 0) pe_int (fun _ _ => rfl)) pa_nil)) (RR.pe_tupF pa_nil)))))), fun vs t H A hl sm dv hp => ?_⟩
  obtain ⟨v, rfl, d1⟩ := DvA.inv1 dv
  obtain ⟨sg, hs, hc⟩ := sig_of hp
  refine gb_set (d := .str sg) (gd_tabIx tab hs (gd_w0 rfl d1)) fun v2 G2 H2 p2 dv2 => ?_
  have d1' := d1.to p2.hg
  show GB K _ _ G2 H2 fun d => d = .tuple (t.kids.map toD)
  rcases hc with ⟨rfl, w, ts, rfl⟩ | ⟨rfl, w, s, rfl⟩ | ⟨h1, h2, h3⟩
  · rw [toD_many] at d1'
    refine gb_if (b := true) (gt_test (gdo (K := K) (gd_var (i := 1) rfl dv2) gd_str go_eqS)) (fun _ => ?_) fun z => nomatch z
    exact gb_ret (gdo (gd_var (i := 0) rfl d1') gd_int (go_ixT (atI_nat (j := 1) rfl))) rfl
  · rw [toD_un] at d1'
    refine gb_if (b := decide (("t" : Str) = "p")) (gt_test (gdo (K := K) (gd_var (i := 1) rfl dv2) gd_str go_eqS)) (fun c => absurd (of_decide_eq_true c) (by decide +kernel)) fun _ => ?_
    refine gb_ret (d := .tuple [s.toD]) (gd_if (b := decide (("t" : Str) = "t")) (gt_test (gdo (K := K) (gd_var (i := 1) rfl dv2) gd_str go_eqS)) (fun _ => ?_) fun c => absurd rfl (of_decide_eq_false c)) rfl
    exact gd_tup (ga_cons (gdo (gd_var (i := 0) rfl d1') gd_int (go_ixT (atI_nat (j := 1) rfl))) ga_nil)
  · rw [h3]
    refine gb_if (gt_test (gdo (K := K) (gd_var (i := 1) rfl dv2) gd_str go_eqS)) (fun c => absurd (of_decide_eq_true c) h1) fun _ => ?_
    exact gb_ret (d := .tuple []) (gd_if (gt_test (gdo (K := K) (gd_var (i := 1) rfl dv2) gd_str go_eqS)) (fun c => absurd (of_decide_eq_true c) h2) fun _ => gd_tup ga_nil) rfl
theorem shp_T {t : Tst} (h : Okt 7 t) : SeqAt.shaped t.toD = true := by
  have hl := h.lay
  have hd := h.dep
  show (t.toD.canLay0 && decide (t.toD.depth ≤ 64)) = true
  rw [Bool.and_eq_true]
  exact ⟨hl, decide_eq_true (by omega)⟩
theorem dA_le {ds : List PyData} {n : Nat} (h : ∀ d ∈ ds, d.depth ≤ n) : PyData.depthAll ds ≤ n := by
  induction ds with
  | nil => rw [dA0]; omega
  | cons d ds ih =>
    rw [dAc]
    have h1 := h d List.mem_cons_self
    have h2 := ih fun x hx => h x (List.mem_cons_of_mem _ hx)
    omega
theorem shp_L {l : List Tst} (h : ∀ s ∈ l, Okt 7 s) : SeqAt.shaped (.list (l.map toD)) = true := by
  show ((PyData.list (l.map toD)).canLay0 && decide ((PyData.list (l.map toD)).depth ≤ 64)) = true
  rw [Bool.and_eq_true]
  refine ⟨lay_lst fun d hd => ?_, decide_eq_true ?_⟩
  · obtain ⟨s, hs, rfl⟩ := List.mem_map.mp hd
    exact (h s hs).lay
  · have e : (PyData.list (l.map toD)).depth = PyData.depthAll (l.map toD) + 1 := by conv => lhs; unfold PyData.depth
    have := dA_le (ds := l.map toD) (n := 7) fun d hd => by
      obtain ⟨s, hs, rfl⟩ := List.mem_map.mp hd
      exact (h s hs).dep
    omega
/-- part in parts, the parts tests -/
theorem gt_inT {tb : TE} {t : Tst} {l : List Tst} (ht : Okt 7 t) (hl : ∀ s ∈ l, Okt 7 s) (g : GD K te σ H A t.toD) (g2 : GD K tb σ H A (.list (l.map toD))) : GT (tTest (tOp (rInD K) te tb)) σ H A (inD t.toD (l.map toD)) := by
  have x := gt_test (gdo (K := K) g g2 (go_inD (shp_T ht) (shp_L hl)))
  rw [any_pl (pl_toD t)] at x
  exact x
theorem gt_ninT {tb : TE} {t : Tst} {l : List Tst} (ht : Okt 7 t) (hl : ∀ s ∈ l, Okt 7 s) (g : GD K te σ H A t.toD) (g2 : GD K tb σ H A (.list (l.map toD))) : GT (tTest (tOp (rNotInD K) te tb)) σ H A (!inD t.toD (l.map toD)) := by
  have x := gt_test (gdo (K := K) g g2 (go_ninD (shp_T ht) (shp_L hl)))
  rw [any_pl (pl_toD t)] at x
  exact x
theorem kid_dep {t : Tst} : ∀ s ∈ t.kids, s.toD.depth < t.toD.depth := by
  intro s hs
  cases t with
  | leaf w as => cases hs
  | un w t =>
    rw [List.mem_singleton.mp hs, toD_un, dTu, dAc, dAc]
    omega
  | many w ts =>
    rw [toD_many, dTu, dAc, dAc, dTu]
    have := dep_all (ds := ts.map toD) s.toD (List.mem_map_of_mem hs)
    omega
/-- a test and all in it, put into the caller's own list -/
def spCol (K : PySem.W.Frag) (j : Nat) : Sp := fun vs H Q _ => ∃ (t : Tst) (l : List Tst) (H0 H1 G : Hp) (p : Addr) (v : V) (xs : List V), vs = [v, .ref p] ∧ Own H0 H1 G H p (.lst xs) ∧ Dv K G v t.toD ∧ Okt 7 t ∧ t.toD.depth < j ∧ DvA K G xs (l.map toD) ∧ (∀ s ∈ l, Okt 7 s) ∧ l.length + (subT t).length ≤ 100 ∧ Tgt l ∧
  ∀ G' H' xs', Own H0 H1 G' H' p (.lst xs') → Same G G' → DvA K G' xs' ((colT t l).map toD) → Q .non H'
theorem s_col {k m : Nat} {t : Tst} {l : List Tst} (w : Own H0 H1 G H p (.lst xs)) (hi : σ[k]? = some (some v)) (hj : σ[m]? = some (some (.ref p))) (dv : Dv K G v t.toD) (ok : Okt 7 t) (hd : t.toD.depth < j) (da : DvA K G xs (l.map toD)) (okl : ∀ s ∈ l, Okt 7 s) (z : l.length + (subT t).length ≤ 100) (tg : Tgt l)
    (kk : ∀ G' H' xs', Own H0 H1 G' H' p (.lst xs') → Same G G' → DvA K G' xs' ((colT t l).map toD) → D.nx σ H') : tDrop (tCall (spCol K j) [] E0 (tCons (tVar k) (tCons (tVar m) tNil))) D σ H :=
  ⟨v, hi, .ref p, hj, t, l, H0, H1, G, p, v, xs, rfl, w, dv, ok, hd, da, okl, z, tg, kk⟩
end
end LW
end
section
set_option Elab.async false
set_option linter.all false
set_option maxRecDepth 100000
set_option maxHeartbeats 4000000
namespace LW
open PySem PySem.Spec PyProof.Rows L2 DL LM
section
variable {P : Program} {W : World} {K : PySem.W.Frag} {mg : Str → Option Value} {base : Heap} {f : Addr} {fd : FuncData} {A A2 H H' H0 H1 H2 G G2 Hc : Hp} {σ : L2.St} {t te td tn tv t1 t2 : TE} {tr : TS} {ts : TS} {D : Ends} {tA : TA} {n i j : Nat} {p b : Addr} {xs ys : List V} {v : V} {d : PyData} {ds es : List PyData}
open Tst
theorem subTs_take (ts : List Tst) (i : Nat) : (subTs (ts.take i)).length ≤ (subTs ts).length := by
  conv => rhs; rw [← List.take_append_drop i ts]
  rw [subTs_app, List.length_append]; omega
abbrev s_collect : Stmt := topS 4
theorem sc_collect : FnScope ["test", "found", "part"] ["test", "found"] (defScope s_collect) := ⟨rfl, rfl, rfl, by decide +kernel, rfl, by decide +kernel, by decide +kernel⟩
theorem ok_collect_step {j : Nat} (F : Fun K "_collect" "_collect" s_collect f fd) (ctests_in : Cal P W K mg base 1 "tests_in" (spA K 1 arT WF fun t => .tuple (t.kids.map toD))) (c_collect : Cal P W K mg base (j + 1) "_collect" (spCol K j)) : FnOk P W K mg base CX0 (j + 2) f fd ["test", "found"] (spCol K (j + 1)) := by
  refine F.ok sc_collect (fun vs H Q E h => ?_) (fun cdv A outer s H vs Q E hr h => ?_)
  · obtain ⟨_, _, _, _, _, _, _, _, rfl, _⟩ := h; rfl
  obtain ⟨t, l, H0, H1, G, p, v, xs, rfl, w, dv, ok, hd, da, okl, z, tg, q⟩ := h
  refine ⟨_, (pss_cons (ps_for PassesOwn.never rfl (pi_seq (pe_k ctests_in hr (by omega) (pa_cons (pv 0) pa_nil))) (pg_name (i := 2) sc_collect.nd rfl (Or.inl rfl)) (pss_one (ps_expr (pe_k c_collect hr (by omega) (pa_cons (pv 2) (pa_cons (pv 1) pa_nil))))))
      (pss_one (ps_if (pt_cmpR (op_notInD (room65 hr)) (pv 0) (pv 1) (by rfl)) (pss_one (ps_expr (pe_bm PySem.F.plainAttrs_list PySem.F.slot_list_append PySem.F.type_list_append mt_append (pv 1) (pa_cons (pv 0) pa_nil)))) pss_nil))), ?_⟩
  have hlen : ∀ m, (colTs (t.kids.take m) l).length + (subTs (t.kids.drop m)).length + 1 ≤ 100 := fun m => by
    obtain ⟨_, ⟨r, e, _, hl⟩, _⟩ := cols_all (t.kids.take m) l tg
    have h1 : (subTs t.kids).length = (subTs (t.kids.take m)).length + (subTs (t.kids.drop m)).length := by
      conv => lhs; rw [← List.take_append_drop m t.kids]
      rw [subTs_app, List.length_append]
    rw [subT_eq, List.length_cons] at z
    rw [e, List.length_append]
    omega
  have hok : ∀ m, ∀ s ∈ colTs (t.kids.take m) l, Okt 7 s := fun m s hs => by
    obtain ⟨_, ⟨r, e, hr, _⟩, _⟩ := cols_all (t.kids.take m) l tg
    rw [e] at hs
    rcases List.mem_append.mp hs with h | h
    · exact okl s h
    · obtain ⟨x, hx, hxs⟩ := mem_subTs.mp (hr s h)
      exact (ok.kids x (List.mem_of_mem_take hx)).sub s hxs
  refine s_mid (fun σ' H' => ∃ (x2 : Option V) (G' : Hp) (xs' : List V), σ' = [some v, some (.ref p), x2] ∧ Own H0 H1 G' H' p (.lst xs') ∧ Same G G' ∧ DvA K G' xs' ((colTs t.kids l).map toD)) ?_ fun rest => ?_
  · rintro σ' H' ⟨x2, G', xs', rfl, w', sG, da'⟩
    have hk : t.kids.take t.kids.length = t.kids := List.take_length
    have hok' := hok t.kids.length
    have hln := hlen t.kids.length
    have htg := (cols_all t.kids l tg).1
    rw [hk] at hok' hln
    have dv' := dv.to sG
    have lay := w'.dv da'
    refine s_if (gt_ninT ok hok' (gd_var (i := 0) rfl (dv'.to (same_new w'.pg _))) (gd_var (i := 1) rfl lay)) w'.see (fun c H2 s2 => ?_) fun c H2 s2 => ?_
    · rw [Bool.not_eq_true'] at c
      have w2 := w'.test s2
      refine s_append (K := K) w2 rfl (gd_var (i := 0) rfl dv') (by rw [DvA.len da', List.length_map, sizeLine_eq]; omega) fun u G3 H3 w3 s3 du => ?_
      refine q G3 H3 _ w3 (sG.trans s3) ?_
      rw [colT_eq]
      unfold putT
      rw [if_neg (by rw [c]; exact Bool.false_ne_true), List.map_append]
      exact DvA.app (da'.to s3) (.cons du .nil)
    · rw [Bool.not_eq_false'] at c
      refine q G' H2 _ (w'.test s2) sG ?_
      rw [colT_eq]
      unfold putT
      rw [if_pos c]
      exact da'
  · refine for_run (H := G) (A := H) (gi_seqT (gd_callA (K := K) (ar := arT) (f := fun t => .tuple (t.kids.map toD)) (n := 1) t (ga_cons (gd_var (i := 0) rfl dv) ga_nil) rfl ok.wf)) (.refl w.gh) fun B HB PB => ?_
    refine ⟨fun i σ' G' H' => ∃ (x2 : Option V) (xs' : List V), σ' = [some v, some (.ref p), x2] ∧ Own H0 H1 G' H' p (.lst xs') ∧ Same B G' ∧ DvA K G' xs' ((colTs (t.kids.take i) l).map toD),
      ⟨none, xs, rfl, w.step PB, .refl _, by rw [List.take_zero, colTs_nil]; exact da.to PB.hg⟩, fun i σ' G' H' ⟨_, _, _, w', s, _⟩ => ⟨s, w'.gh⟩, ?_, ?_⟩
    · rintro i d σ' G' H' hd' ⟨x2, xs', rfl, w', sB, da'⟩ u G5 H5 P5 dv5
      rw [List.getElem?_map] at hd'
      obtain ⟨s, hs, rfl⟩ := Option.map_eq_some_iff.mp hd'
      have hm : s ∈ t.kids := List.mem_of_getElem? hs
      have hdr : t.kids.drop i = s :: t.kids.drop (i + 1) := by
        obtain ⟨hi, e⟩ := List.getElem?_eq_some_iff.mp hs
        rw [List.drop_eq_getElem_cons hi, e]
      have htk : t.kids.take (i + 1) = t.kids.take i ++ [s] := by rw [List.take_add_one, hs]; rfl
      have hl := hlen i
      rw [hdr] at hl
      have e2 : (subTs (s :: t.kids.drop (i + 1))).length = (subT s).length + (subTs (t.kids.drop (i + 1))).length := by
        conv => lhs; unfold subTs
        rw [List.length_append]
      rw [e2] at hl
      have w5 := w'.step P5
      refine s_col (K := K) (j := j) (k := 2) (m := 1) w5 rfl rfl dv5 (ok.kids s hm) (by have := kid_dep s hm; omega) (da'.to P5.hg) (hok i) (by omega) (cols_all _ l tg).1 fun G6 H6 xs6 w6 s6 da6 => ?_
      exact ⟨G6, some u, xs6, rfl, w6, sB.trans (P5.hg.trans s6), by rw [htk, colTs_snoc]; exact da6⟩
    · rintro σ' G' H' ⟨x2, xs', rfl, w', sB, da'⟩
      rw [List.length_map, List.take_length] at da'
      exact rest _ _ ⟨x2, G', xs', rfl, w', PB.hg.trans sB, da'⟩
theorem cal_collect (F : Fun K "_collect" "_collect" s_collect f fd) (hm : mg "_collect" = some (.ref f)) (b : Binds K fd ["test", "found"] []) (c : Cal P W K mg base 1 "tests_in" (spA K 1 arT WF fun t => .tuple (t.kids.map toD))) : ∀ j, Cal P W K mg base (j + 1) "_collect" (spCol K j)
  | 0 => cal_mk F (fn_none fun vs H Q E h => by
      obtain ⟨_, _, _, _, _, _, _, _, _, _, _, _, hd, _⟩ := h
      exact absurd hd (Nat.not_lt_zero _)) hm b
  | j + 1 => cal_mk F (ok_collect_step F c (cal_collect F hm b c j)) hm b
noncomputable def toldD (t : Tst) : PyData := .list ((told t).map toD)
abbrev ssubtests : Stmt := topS 3
theorem scsubtests : FnScope ["test", "found"] ["test"] (defScope ssubtests) := ⟨rfl, rfl, rfl, by decide +kernel, rfl, by decide +kernel, by decide +kernel⟩
theorem ok_subtests (F : Fun K "subtests" "subtests" ssubtests f fd) (c_collect : Cal P W K mg base 9 "_collect" (spCol K 8)) : FnOk P W K mg base CX0 10 f fd ["test"] (spA K 1 arT (Okt 7) toldD) := by
  refine fn_A F scsubtests rfl fun cdv A outer s H1 E hr => ⟨_, (pss_cons (ps_set (i := 1) scsubtests.nd rfl (Or.inl rfl) (pe_lst pa_nil))
      (pss_cons (ps_expr (pe_k c_collect hr (by omega) (pa_cons (pv 0) (pa_cons (pv 1) pa_nil))))
      (pss_one (ps_ret (pv 1))))), fun vs t H A hl sm dv ok => ?_⟩
  obtain ⟨v, rfl, d1⟩ := DvA.inv1 dv
  intro H0 H1 e D q
  refine ⟨Nat.zero_le _, fun p hp => ?_⟩
  have w0 := Own.new (Pub.refl e.gh) hp (.lst [])
  have hz := ok.len
  have hdp := ok.dep
  refine s_col (K := K) (j := 8) (k := 0) (m := 1) (t := t) (l := []) w0 rfl rfl (d1.to e.hg) ok (by omega) .nil (fun s h => nomatch h) (by show 0 + _ ≤ 100; omega) .nil fun G' H' xs' w s da => ?_
  exact ⟨.ref p, rfl, q (toldD t) _ _ _ rfl w.open_ (w.dv da)⟩
theorem okt_told {t : Tst} (h : Okt 7 t) : ∀ s ∈ told t, Okt 7 s := fun s hs => h.sub s (told_sub hs)
theorem told_100 {t : Tst} (h : Okt 7 t) : (told t).length ≤ 15 := Nat.le_trans (told_len t) h.len
/-- the tests in a test, one after another -/
theorem gi_sub {t : Tst} (ok : Okt 7 t) (g : GD K te σ H A t.toD) : GI K (iSeq K (tCall (spA K 1 arT (Okt 7) toldD) [] E0 (tCons te tNil))) σ H A ((told t).map toD) := gi_seqL (gd_callA (K := K) (ar := arT) (f := toldD) (n := 1) t (ga_cons g ga_nil) rfl ok)
def arTw : Tst × Str → List PyData := fun x => [x.1.toD, .str x.2]
noncomputable def fHw (x : Tst × Str) : PyData := .bool ((told x.1).any fun s => decide (wD s.toD = x.2))
def FWD : List Str := ["last", "empty", "over", "has"]
structure Bfw (mg : Str → Option Value) (K : PySem.W.Frag) : Prop where
  ex : ∃ aF : Addr, mg "FORWARD" = some (.ref aF) ∧ ∀ H, SqT K H aF (FWD.map V.str)
noncomputable def fLb (t : Tst) : PyData := .bool (!FWD.any fun w => (told t).any fun s => decide (wD s.toD = w))
end
end LW
end
section
set_option Elab.async false
set_option linter.all false
set_option maxRecDepth 100000
set_option maxHeartbeats 4000000
namespace LW
open PySem PySem.Spec PyProof.Rows L2 DL LM
section
variable {P : Program} {W : World} {K : PySem.W.Frag} {mg : Str → Option Value} {base : Heap} {f : Addr} {fd : FuncData} {A A2 H H' H0 H1 H2 G G2 Hc : Hp} {σ : L2.St} {t te td tn tv t1 t2 : TE} {tr : TS} {ts : TS} {tt : TT} {D : Ends} {tA : TA} {n i j : Nat} {p b : Addr} {xs ys : List V} {v : V} {d : PyData} {ds es : List PyData}
open Tst
theorem cutTo {l : List PyData} (k : Nat) : DL.cutD l none (some (k : Int)) = l.take k := by
  unfold DL.cutD
  rw [HT.sIx_none, HT.sIx_nat, List.drop_zero, Nat.sub_zero]
  rcases Nat.le_total k l.length with h | h
  · rw [Nat.min_eq_left h]
  · rw [Nat.min_eq_right h, List.take_length, List.take_of_length_le h]
theorem cutFrom {l : List PyData} (k : Nat) : DL.cutD l (some (k : Int)) none = l.drop k := by
  unfold DL.cutD
  rw [HT.sIx_none, HT.sIx_nat]
  rcases Nat.le_total k l.length with h | h
  · rw [Nat.min_eq_left h, List.take_of_length_le (by rw [List.length_drop]; omega)]
  · rw [Nat.min_eq_right h, List.drop_length, List.drop_eq_nil_of_le h, List.take_nil]
/-- sorted({f(part) for part in parts if p(part)}) over tests -/
theorem gd_srtT {wi : TI} {k : Nat} {zs : List Tst} {p : Tst → Bool} {f : Tst → Str} (gi : GI K wi σ H A (zs.map toD)) (z : zs.length ≤ 1000)
    (ht : ∀ s ∈ zs, ∀ v G H1, Pub H A G H1 → Dv K G v s.toD → GT tt ((wipe σ [k]).set k (some v)) G H1 (p s))
    (he : ∀ s ∈ zs, p s = true → ∀ v G H1, Pub H A G H1 → Dv K G v s.toD → GD K te ((wipe σ [k]).set k (some v)) G H1 (.str (f s))) :
    GD K (tCB (RR.rSortedX P W) (tCons (RR.tSc P W wi (gName k) tt te [k]) tNil)) σ H A (.list ((srtS ((zs.filter p).map f)).map .str)) :=
  gd_srtX toD p f gi z fun i s hs v G H1 q dv Q qq => qq _ G H1 (.refl q.gh) wipe1 (ht s (List.mem_of_getElem? hs) v G H1 q dv) fun hp => he s (List.mem_of_getElem? hs) hp v G H1 q dv
theorem gd_w1 {s : Tst} {w : Str} (h : σ[i]? = some (some v)) (dv : Dv K H v s.toD) (e : s.toD = .tuple [.str w, .str (a1D s.toD)]) : GD K (tOp (rIx K) (tVar i) (tC (.int 1))) σ H A (.str (a1D s.toD)) := by
  have dv' : Dv K H v (.tuple [.str w, .str (a1D s.toD)]) := by rw [← e]; exact dv
  exact gdo (gd_var h dv') gd_int (go_ixT (atI_nat (j := 1) rfl))
theorem gd_v1 {s : Tst} (h : σ[i]? = some (some v)) (dv : Dv K H v s.toD) (e : s.toD = .tuple [.str "value", .str (a1D s.toD), .str (a2D s.toD)]) : GD K (tOp (rIx K) (tVar i) (tC (.int 1))) σ H A (.str (a1D s.toD)) := by
  have dv' : Dv K H v (.tuple [.str "value", .str (a1D s.toD), .str (a2D s.toD)]) := by rw [← e]; exact dv
  exact gdo (gd_var h dv') gd_int (go_ixT (atI_nat (j := 1) rfl))
theorem gd_v2 {s : Tst} (h : σ[i]? = some (some v)) (dv : Dv K H v s.toD) (e : s.toD = .tuple [.str "value", .str (a1D s.toD), .str (a2D s.toD)]) : GD K (tOp (rIx K) (tVar i) (tC (.int 2))) σ H A (.str (a2D s.toD)) := by
  have dv' : Dv K H v (.tuple [.str "value", .str (a1D s.toD), .str (a2D s.toD)]) := by rw [← e]; exact dv
  exact gdo (gd_var h dv') gd_int (go_ixT (atI_nat (j := 2) rfl))
def pW (w : Str) (s : Tst) : Bool := decide (wD s.toD = w)
def MV : List Str := ["mark", "value"]
def pM (s : Tst) : Bool := decide (wD s.toD ∈ MV)
def pV (m : Str) (s : Tst) : Bool := decide (wD s.toD = "value") && decide (a1D s.toD = m)
noncomputable def wordsD (p : Tst → Bool) (f : Tst → Str) (l : List Tst) : PyData := .list ((srtS ((l.filter p).map f)).map .str)
noncomputable def fNm (t : Tst) : PyData := wordsD (pW "name") (fun s => a1D s.toD) (told t)
noncomputable def fMk (t : Tst) : PyData := wordsD pM (fun s => a1D s.toD) (told t)
noncomputable def fTx (t : Tst) : PyData := wordsD (pW "text") (fun s => a1D s.toD) (told t)
noncomputable def fVl (x : Tst × Str) : PyData := wordsD (pV x.2) (fun s => a2D s.toD) (told x.1)
theorem one_name {s : Tst} (h : WF s) (hp : pW "name" s = true) : s.toD = .tuple [.str "name", .str (a1D s.toD)] := one_of h (of_decide_eq_true hp) (by decide +kernel) (by decide +kernel)
theorem one_text {s : Tst} (h : WF s) (hp : pW "text" s = true) : s.toD = .tuple [.str "text", .str (a1D s.toD)] := one_of h (of_decide_eq_true hp) (by decide +kernel) (by decide +kernel)
theorem gd_mk1 {s : Tst} (h : σ[i]? = some (some v)) (dv : Dv K H v s.toD) (wf : WF s) (hp : pM s = true) : GD K (tOp (rIx K) (tVar i) (tC (.int 1))) σ H A (.str (a1D s.toD)) := by
  have hp : wD s.toD ∈ MV := of_decide_eq_true hp
  simp only [MV, List.mem_cons, List.not_mem_nil, or_false] at hp
  rcases hp with hp | hp
  · exact gd_w1 h dv (one_of wf hp (by decide +kernel) (by decide +kernel))
  · exact gd_v1 h dv (two_of wf hp)
/-- part[:2] == ("value", mark) -/
theorem gt_val {s : Tst} {m : Str} {k : Nat} {u : V} (h : σ[i]? = some (some v)) (dv : Dv K H v s.toD) (ok : Okt 7 s) (hk : σ[k]? = some (some u)) (du : Dv K H u (.str m)) (hm : (PyData.str m).canLay0 = true) :
    GT (tTest (tOp (rEqA K) (tSl (rSlD K) (tVar i) tNoPart (tPart (tC (.int 2)))) (RR.tTupF (tCons (tC (.str "value")) (tCons (tVar k) tNil))))) σ H A (pV m s) := by
  obtain ⟨r, e⟩ := toD_head s
  have hl := ok.lay
  have hd := ok.dep
  have hsub : ∃ ds, s.toD = .tuple ds ∧ ∀ x ∈ ds, x.canLay0 = true ∧ x.depth ≤ 7 := by
    refine ⟨_, e, fun x hx => ⟨?_, ?_⟩⟩
    · rw [e] at hl; exact lay_tup_inv hl x hx
    · rw [e, dTu] at hd
      have := dep_all x hx
      omega
  obtain ⟨ds, e2, hds⟩ := hsub
  rw [e2] at dv
  have g1 := gd_slT (K := K) (A := A) (gd_var h dv) gp_none (gp_some (K := K) (gd_int (i := ((2 : Nat) : Int))))
  rw [cutTo 2] at g1
  have shp : ∀ l : List PyData, (∀ x ∈ l, x.canLay0 = true ∧ x.depth ≤ 7) → SeqAt.shaped (.tuple l) = true := fun l hl => by
    show ((PyData.tuple l).canLay0 && decide ((PyData.tuple l).depth ≤ 64)) = true
    rw [Bool.and_eq_true]
    refine ⟨lay_tup fun x hx => (hl x hx).1, decide_eq_true ?_⟩
    rw [dTu]
    have := dA_le (ds := l) (n := 7) fun x hx => (hl x hx).2
    omega
  have g := gt_test (gdo (K := K) g1 (gd_tup (ga_cons gd_str (ga_cons (gd_var hk du) ga_nil))) (go_eqD (shp _ fun x hx => hds x (List.mem_of_mem_take hx)) (shp [.str "value", .str m] fun x hx => by
    simp only [List.mem_cons, List.not_mem_nil, or_false] at hx
    rcases hx with rfl | rfl
    · exact ⟨lay_str (by decide +kernel), by rw [dSt]; omega⟩
    · exact ⟨hm, by rw [dSt]; omega⟩)))
  have hb : PyData.eqv (.tuple (ds.take 2)) (.tuple [.str "value", .str m]) = pV m s := by
    rw [Bool.eq_iff_iff, eqv_pl _ _ (by unfold PlD PlDs PlDs PlDs PlD; rfl)]
    unfold pV
    rw [Bool.and_eq_true, decide_eq_true_eq, decide_eq_true_eq]
    constructor
    · intro h
      injection h with h
      match ds, h, e2 with
      | a :: b :: rest, h, e2 =>
        have h : [a, b] = [PyData.str "value", .str m] := h
        injection h with h1 h2
        injection h2 with h2 _
        rw [e2, h1, h2]
        exact ⟨rfl, rfl⟩
    · rintro ⟨h1, h2⟩
      have e3 := two_of ok.wf h1
      rw [e2] at e3
      injection e3 with e3
      rw [e3, ← e2, h2]; rfl
  rw [hb] at g
  exact g
abbrev stexts_of : Stmt := topS 6
theorem sctexts_of : FnScope ["test", "part"] ["test"] (defScope stexts_of) := ⟨rfl, rfl, rfl, by decide +kernel, rfl, by decide +kernel, by decide +kernel⟩
theorem ok_texts_of (T : Bx mg) (F : Fun K "texts_of" "texts_of" stexts_of f fd) (csubtests : Cal P W K mg base 10 "subtests" (spA K 1 arT (Okt 7) toldD)) : FnOk P W K mg base CX0 11 f fd ["test"] (spA K 1 arT (Okt 7) fTx) := by
  refine fn_A F sctexts_of rfl fun cdv A outer s H1 E hr => ⟨_, (pss_one (ps_ret (pe_callB (RR.cr_sortedX rfl) (by rfl) T.sorted (by decide +kernel) (pa_cons (RR.pe_sc (own := [("part", 1)]) (by rfl) sctexts_of.nd (pi_seq (pe_k csubtests hr (by omega) (pa_cons (pv 0) pa_nil))) (blkOk_by (own := [("part", 1)]) (N := ["test", "part"]) (sc := defScope stexts_of) (by decide +kernel)) (fun _ _ _ _ _ => (pg_name (i := 1) sctexts_of.nd rfl (Or.inl rfl))) (fun _ _ _ _ _ => (pts_one (pt_cmpR (op_eqK K hr.units) (pe_ix (ix_seqK K) (pv 1) pe_int (fun _ _ => rfl)) pe_str (nomark _)))) (fun _ _ _ _ _ => (pe_ix (ix_seqK K) (pv 1) pe_int (fun _ _ => rfl)))) pa_nil)))), fun vs t H A hl sm dv ok => ?_⟩
  obtain ⟨v, rfl, d1⟩ := DvA.inv1 dv
  have hz := told_100 ok
  exact gb_ret (gd_srtT (P := P) (W := W) (p := pW "text") (f := fun s => a1D s.toD) (gi_sub ok (gd_var (i := 0) rfl d1)) (by omega) (fun s hs v' G H1 p0 dv' => gt_test (gdo (K := K) (gd_w0 rfl dv') gd_str go_eqS)) fun s hs hp v' G H1 p0 dv' => gd_w1 rfl dv' (one_text (okt_told ok s hs).wf hp)) rfl
abbrev smarks_of : Stmt := topS 5
theorem scmarks_of : FnScope ["test", "part"] ["test"] (defScope smarks_of) := ⟨rfl, rfl, rfl, by decide +kernel, rfl, by decide +kernel, by decide +kernel⟩
theorem ok_marks_of (T : Bx mg) (F : Fun K "marks_of" "marks_of" smarks_of f fd) (csubtests : Cal P W K mg base 10 "subtests" (spA K 1 arT (Okt 7) toldD)) : FnOk P W K mg base CX0 11 f fd ["test"] (spA K 1 arT (Okt 7) fMk) := by
  refine fn_A F scmarks_of rfl fun cdv A outer s H1 E hr => ⟨_, (pss_one (ps_ret (pe_callB (RR.cr_sortedX rfl) (by rfl) T.sorted (by decide +kernel) (pa_cons (RR.pe_sc (own := [("part", 1)]) (by rfl) scmarks_of.nd (pi_seq (pe_k csubtests hr (by omega) (pa_cons (pv 0) pa_nil))) (blkOk_by (own := [("part", 1)]) (N := ["test", "part"]) (sc := defScope smarks_of) (by decide +kernel)) (fun _ _ _ _ _ => (pg_name (i := 1) scmarks_of.nd rfl (Or.inl rfl))) (fun _ _ _ _ _ => (pts_one (pt_cmpR (op_inK K) (pe_ix (ix_seqK K) (pv 1) pe_int (fun _ _ => rfl)) (RR.pe_tupF (pa_cons pe_str (pa_cons pe_str pa_nil))) (by rfl)))) (fun _ _ _ _ _ => (pe_ix (ix_seqK K) (pv 1) pe_int (fun _ _ => rfl)))) pa_nil)))), fun vs t H A hl sm dv ok => ?_⟩
  obtain ⟨v, rfl, d1⟩ := DvA.inv1 dv
  have hz := told_100 ok
  refine gb_ret (gd_srtT (P := P) (W := W) (p := pM) (f := fun s => a1D s.toD) (gi_sub ok (gd_var (i := 0) rfl d1)) (by omega) (fun s hs v' G H1 p0 dv' => ?_) fun s hs hp v' G H1 p0 dv' => gd_mk1 rfl dv' (okt_told ok s hs).wf hp) rfl
  have g := gt_test (gdo (K := K) (A := H1) (gd_w0 (σ := ((wipe [some v, none] [1]).set 1 (some v'))) (i := 1) rfl dv') (gd_tup (ga_cons gd_str (ga_cons gd_str ga_nil))) (go_inT (x := .str (wD s.toD)) (xs := MV.map V.str) rfl rfl))
  rw [inV_strs] at g
  exact g
end
end LW
end
section
set_option Elab.async false
set_option linter.all false
set_option maxRecDepth 100000
set_option maxHeartbeats 4000000
/-! matching: tables of nodes, the places of the elements in order, what each test comes to -/
namespace LM
open PySem DL
/-- a table of nodes: how many, which are elements, their children, their parents; what the tests without tests hold of -/
structure Tb where
  N : Nat
  E : Nat → Bool
  kids : Nat → List Nat
  up : Nat → Option Nat
  own : Str → List Str → Nat → Bool
namespace Tb
variable (b : Tb)
def ek (p : Nat) : List Nat := (b.kids p).filter b.E
def abvF : Nat → Nat → List Nat
  | 0, _ => []
  | n + 1, k => match b.up k with
    | none => []
    | some p => p :: abvF n p
def abv (k : Nat) : List Nat := b.abvF b.N k
def bef (k : Nat) : List Nat := match b.up k with
  | none => []
  | some p => if k ∈ b.ek p then (b.ek p).take ((b.ek p).idxOf k) else []
def aft (k : Nat) : Option Nat := match b.up k with
  | none => none
  | some p => (b.ek p)[(b.ek p).idxOf k + 1]?
def has (k : Nat) : List Nat := (List.range b.N).filter fun o => b.E o && decide (k ∈ b.abv o)
mutual
def sem : Tst → Nat → Bool
  | .leaf w as, k => b.own w as k
  | .un w t, k =>
    if w = "not" then !sem t k else
    if w = "under" then (b.abv k).head?.any (sem t) else
    if w = "in" then (b.abv k).any (sem t) else
    if w = "next" then (b.bef k).getLast?.any (sem t) else
    if w = "behind" then (b.bef k).any (sem t) else
    if w = "over" then (b.ek k).any (sem t) else (b.has k).any (sem t)
  | .many w ts, k => if w = "both" then semA ts k else semO ts k
def semA : List Tst → Nat → Bool
  | [], _ => true
  | t :: ts, k => sem t k && semA ts k
def semO : List Tst → Nat → Bool
  | [], _ => false
  | t :: ts, k => sem t k || semO ts k
end
/-- eo are the elements in order: parents before their children, children in their order -/
structure Seen (b : Tb) (eo : List Nat) : Prop where
  nd : eo.Nodup
  mem : ∀ k, k ∈ eo ↔ k < b.N ∧ b.E k = true
  kup : ∀ p ∈ eo, ∀ c, c ∈ b.kids p ↔ c < b.N ∧ b.up c = some p
  par : ∀ k p, k < b.N → b.up k = some p → p ∈ eo ∧ (k ∈ eo → eo.idxOf p < eo.idxOf k)
  sib : ∀ p ∈ eo, (b.ek p).Sublist eo
variable {b : Tb} {eo : List Nat} {f g : Nat → Bool}
theorem held_at {k : Nat} (h : k ∈ eo) : (eo.map f).getD (eo.idxOf k) false = f k := by
  have hl := List.idxOf_lt_length_of_mem h
  rw [List.getD_eq_getElem?_getD, List.getElem?_map, List.getElem?_eq_getElem hl, List.getElem_idxOf hl]; rfl
/-! ### the neighbour's -/
def besideL (nb : List (Option Nat)) (held : List Bool) : List Bool := nb.map fun o => match o with
  | none => false
  | some j => held.getD j false
theorem beside_ok {r : Nat → Option Nat} (hr : ∀ k ∈ eo, ∀ q, r k = some q → q ∈ eo) : besideL (eo.map fun k => (r k).map eo.idxOf) (eo.map f) = eo.map fun k => (r k).any f := by
  unfold besideL
  rw [List.map_map]
  refine List.map_congr_left fun k hk => ?_
  show (match (r k).map eo.idxOf with | none => false | some j => (eo.map f).getD j false) = _
  cases e : r k with
  | none => rfl
  | some q => exact held_at (hr k hk q e)
/-! ### the neighbour's, or one further on -/
def alB (held acc : List Bool) : Option Nat → Bool
  | none => false
  | some j => held.getD j false || acc.getD j false
def alongS (held : List Bool) (acc : List Bool) (o : Option Nat) : List Bool := acc ++ [alB held acc o]
def alongL (nb : List (Option Nat)) (held : List Bool) : List Bool := nb.foldl (alongS held) []
theorem along_take {r : Nat → Option Nat} (nd : eo.Nodup) (hr : ∀ k ∈ eo, ∀ q, r k = some q → q ∈ eo ∧ eo.idxOf q < eo.idxOf k) (hg : ∀ k ∈ eo, g k = (r k).any fun q => f q || g q) :
    ∀ i, i ≤ eo.length → alongL ((eo.map fun k => (r k).map eo.idxOf).take i) (eo.map f) = (eo.map g).take i
  | 0, _ => rfl
  | i + 1, h => by
    have ih := along_take nd hr hg i (by omega)
    have hi : i < eo.length := by omega
    have e1 : (eo.map fun k => (r k).map eo.idxOf).take (i + 1) = (eo.map fun k => (r k).map eo.idxOf).take i ++ [(r eo[i]).map eo.idxOf] := by
      rw [List.take_add_one, List.getElem?_map, List.getElem?_eq_getElem hi]; rfl
    have e2 : (eo.map g).take (i + 1) = (eo.map g).take i ++ [g eo[i]] := by
      rw [List.take_add_one, List.getElem?_map, List.getElem?_eq_getElem hi]; rfl
    unfold alongL at ih ⊢
    rw [e1, List.foldl_append, ih, e2]
    show (eo.map g).take i ++ [_] = _
    congr 2
    have hm := List.getElem_mem hi
    rw [hg _ hm]
    cases e : r eo[i] with
    | none => rfl
    | some q =>
      obtain ⟨hq, hlt⟩ := hr _ hm q e
      rw [List.Nodup.idxOf_getElem nd] at hlt
      show ((eo.map f).getD (eo.idxOf q) false || ((eo.map g).take i).getD (eo.idxOf q) false) = (f q || g q)
      rw [held_at hq, List.getD_eq_getElem?_getD, List.getElem?_take_of_lt hlt, ← List.getD_eq_getElem?_getD, held_at hq]
theorem along_ok {r : Nat → Option Nat} (nd : eo.Nodup) (hr : ∀ k ∈ eo, ∀ q, r k = some q → q ∈ eo ∧ eo.idxOf q < eo.idxOf k) (hg : ∀ k ∈ eo, g k = (r k).any fun q => f q || g q) :
    alongL (eo.map fun k => (r k).map eo.idxOf) (eo.map f) = eo.map g := by
  have := along_take nd hr hg eo.length (Nat.le_refl _)
  rw [List.take_of_length_le (by rw [List.length_map]; exact Nat.le_refl _), List.take_of_length_le (by rw [List.length_map]; exact Nat.le_refl _)] at this
  exact this
/-! ### of one below -/
def belowS (inner : List (List Nat)) (held : List Bool) (found : List Bool) (p : Nat) : List Bool := found.set p ((inner.getD p []).any fun c => held.getD c false || found.getD c false)
def belowL (inner : List (List Nat)) (held : List Bool) : List Bool := (List.range inner.length).reverse.foldl (belowS inner held) (inner.map fun _ => false)
theorem below_go {r : Nat → List Nat} (nd : eo.Nodup) (hr : ∀ k ∈ eo, ∀ c ∈ r k, c ∈ eo ∧ eo.idxOf k < eo.idxOf c) (hg : ∀ k ∈ eo, g k = (r k).any fun c => f c || g c) :
    ∀ i, i ≤ eo.length → (List.range i).reverse.foldl (belowS (eo.map fun k => (r k).map eo.idxOf) (eo.map f)) (List.replicate i false ++ (eo.map g).drop i) = eo.map g
  | 0, _ => by rfl
  | i + 1, h => by
    have hi : i < eo.length := by omega
    have hm := List.getElem_mem hi
    rw [List.range_succ, List.reverse_append, List.reverse_singleton, List.singleton_append, List.foldl_cons]
    have e : belowS (eo.map fun k => (r k).map eo.idxOf) (eo.map f) (List.replicate (i + 1) false ++ (eo.map g).drop (i + 1)) i = List.replicate i false ++ (eo.map g).drop i := by
      unfold belowS
      have ei : (eo.map fun k => (r k).map eo.idxOf).getD i [] = (r eo[i]).map eo.idxOf := by
        rw [List.getD_eq_getElem?_getD, List.getElem?_map, List.getElem?_eq_getElem hi]; rfl
      have ev : ((r eo[i]).map eo.idxOf).any (fun c => (eo.map f).getD c false || (List.replicate (i + 1) false ++ (eo.map g).drop (i + 1)).getD c false) = g eo[i] := by
        rw [hg _ hm, List.any_map, Bool.eq_iff_iff, List.any_eq_true, List.any_eq_true]
        have key : ∀ c ∈ r eo[i], ((eo.map f).getD (eo.idxOf c) false || (List.replicate (i + 1) false ++ (eo.map g).drop (i + 1)).getD (eo.idxOf c) false) = (f c || g c) := fun c hc => by
          obtain ⟨hce, hlt⟩ := hr _ hm c hc
          rw [List.Nodup.idxOf_getElem nd] at hlt
          rw [held_at hce, List.getD_eq_getElem?_getD (l := List.replicate (i + 1) false ++ _), List.getElem?_append_right (by rw [List.length_replicate]; omega), List.length_replicate, List.getElem?_drop]
          have e3 : i + 1 + (eo.idxOf c - (i + 1)) = eo.idxOf c := by omega
          rw [e3, ← List.getD_eq_getElem?_getD, held_at hce]
        exact ⟨fun ⟨c, hc, z⟩ => ⟨c, hc, by rw [← key c hc]; exact z⟩, fun ⟨c, hc, z⟩ => ⟨c, hc, by show ((eo.map f).getD (eo.idxOf c) false || _) = true; rw [key c hc]; exact z⟩⟩
      rw [ei, ev]
      have ed : (eo.map g).drop i = g eo[i] :: (eo.map g).drop (i + 1) := by
        rw [List.drop_eq_getElem_cons (by rw [List.length_map]; exact hi), List.getElem_map]
      rw [ed, List.replicate_succ', List.append_assoc, List.set_append, if_neg (by rw [List.length_replicate]; omega), List.length_replicate, Nat.sub_self]; rfl
    rw [e]
    exact below_go nd hr hg i (by omega)
theorem below_ok {r : Nat → List Nat} (nd : eo.Nodup) (hr : ∀ k ∈ eo, ∀ c ∈ r k, c ∈ eo ∧ eo.idxOf k < eo.idxOf c) (hg : ∀ k ∈ eo, g k = (r k).any fun c => f c || g c) :
    belowL (eo.map fun k => (r k).map eo.idxOf) (eo.map f) = eo.map g := by
  have h := below_go nd hr hg eo.length (Nat.le_refl _)
  rw [List.drop_eq_nil_of_le (by rw [List.length_map]; exact Nat.le_refl _), List.append_nil] at h
  unfold belowL
  rw [List.length_map]
  have e : (eo.map fun k => (r k).map eo.idxOf).map (fun _ => false) = List.replicate eo.length false := by
    rw [List.map_map]
    exact List.map_const'
  rw [e]
  exact h
theorem over_ok {r : Nat → List Nat} (hr : ∀ k ∈ eo, ∀ c ∈ r k, c ∈ eo) : ((eo.map fun k => (r k).map eo.idxOf).map fun row => row.any fun c => (eo.map f).getD c false) = eo.map fun k => (r k).any f := by
  rw [List.map_map]
  refine List.map_congr_left fun k hk => ?_
  show ((r k).map eo.idxOf).any _ = _
  rw [List.any_map, Bool.eq_iff_iff, List.any_eq_true, List.any_eq_true]
  exact ⟨fun ⟨c, hc, z⟩ => ⟨c, hc, by rw [← held_at (f := f) (hr k hk c hc)]; exact z⟩, fun ⟨c, hc, z⟩ => ⟨c, hc, by show (eo.map f).getD (eo.idxOf c) false = true; rw [held_at (hr k hk c hc)]; exact z⟩⟩
/-! ### what the tables say of the elements in order -/
theorem idx_sub {l : List Nat} (nd : eo.Nodup) (h : l.Sublist eo) {i j : Nat} (hi : i < j) (hj : j < l.length) : eo.idxOf (l[i]'(by omega)) < eo.idxOf l[j] := by
  have p : eo.Pairwise fun a c => eo.idxOf a < eo.idxOf c := List.pairwise_iff_getElem.mpr fun i j hi hj hij => by
    rw [List.Nodup.idxOf_getElem nd, List.Nodup.idxOf_getElem nd]; exact hij
  exact List.pairwise_iff_getElem.mp (p.sublist h) i j (by omega) hj hi
namespace Seen
variable (s : Seen b eo)
include s
theorem len : eo.length ≤ b.N := nodup_le _ _ s.nd fun x hx => ((s.mem x).mp hx).1
theorem abvF_eq : ∀ (n m k : Nat), k ∈ eo → eo.idxOf k < n → eo.idxOf k < m → b.abvF n k = b.abvF m k
  | 0, _, _, _, h, _ => absurd h (Nat.not_lt_zero _)
  | _, 0, _, _, _, h => absurd h (Nat.not_lt_zero _)
  | n + 1, m + 1, k, hk, h1, h2 => by
    unfold abvF
    cases e : b.up k with
    | none => rfl
    | some p =>
      obtain ⟨hp, hlt⟩ := s.par k p ((s.mem k).mp hk).1 e
      have hlt := hlt hk
      show p :: b.abvF n p = p :: b.abvF m p
      rw [abvF_eq n m p hp (by omega) (by omega)]
theorem abv_eq {k : Nat} (hk : k ∈ eo) : b.abv k = match b.up k with
    | none => []
    | some p => p :: b.abv p := by
  have hl := s.len
  have hi := List.idxOf_lt_length_of_mem hk
  unfold abv
  have hN : b.N = (b.N - 1) + 1 := by omega
  conv => lhs; rw [hN]; unfold abvF
  cases e : b.up k with
  | none => rfl
  | some p =>
    obtain ⟨hp, hlt⟩ := s.par k p ((s.mem k).mp hk).1 e
    have hlt := hlt hk
    show p :: b.abvF (b.N - 1) p = p :: b.abvF b.N p
    rw [s.abvF_eq (b.N - 1) b.N p hp (by omega) (by omega)]
theorem ek_mem {p c : Nat} (hp : p ∈ eo) : c ∈ b.ek p ↔ c ∈ eo ∧ b.up c = some p := by
  unfold ek
  rw [List.mem_filter, s.kup p hp, s.mem]
  exact ⟨fun h => ⟨⟨h.1.1, h.2⟩, h.1.2⟩, fun h => ⟨⟨h.1.1, h.2⟩, h.1.2⟩⟩
theorem ek_idx {k c : Nat} (hk : k ∈ eo) (hc : c ∈ b.ek k) : c ∈ eo ∧ eo.idxOf k < eo.idxOf c := by
  obtain ⟨h1, h2⟩ := (s.ek_mem hk).mp hc
  exact ⟨h1, (s.par c k ((s.mem c).mp h1).1 h2).2 h1⟩
theorem abv_any {k : Nat} (hk : k ∈ eo) : (b.abv k).any f = (b.up k).any fun p => f p || (b.abv p).any f := by
  rw [s.abv_eq hk]
  cases b.up k <;> rfl
theorem abv_head {k : Nat} (hk : k ∈ eo) : (b.abv k).head? = b.up k := by
  rw [s.abv_eq hk]
  cases b.up k <;> rfl
theorem abv_iff {k : Nat} (hk : k ∈ eo) : ∀ (n o : Nat), eo.idxOf o < n → o ∈ eo → (k ∈ b.abv o ↔ ∃ c ∈ b.ek k, o = c ∨ c ∈ b.abv o)
  | 0, _, h, _ => absurd h (Nat.not_lt_zero _)
  | n + 1, o, h, ho => by
    rw [s.abv_eq ho]
    cases e : b.up o with
    | none =>
      refine ⟨fun h => (nomatch h), fun ⟨c, hc, z⟩ => ?_⟩
      rcases z with rfl | z
      · have := ((s.ek_mem hk).mp hc).2
        rw [e] at this; cases this
      · cases z
    | some p =>
      obtain ⟨hp, hlt⟩ := s.par o p ((s.mem o).mp ho).1 e
      have hlt := hlt ho
      have ih := abv_iff hk n p (by omega) hp
      show k ∈ p :: b.abv p ↔ ∃ c ∈ b.ek k, o = c ∨ c ∈ p :: b.abv p
      rw [List.mem_cons, ih]
      constructor
      · rintro (rfl | ⟨c, hc, z⟩)
        · exact ⟨o, (s.ek_mem hk).mpr ⟨ho, e⟩, .inl rfl⟩
        · exact ⟨c, hc, .inr (List.mem_cons.mpr (z.imp Eq.symm id))⟩
      · rintro ⟨c, hc, rfl | z⟩
        · have := ((s.ek_mem hk).mp hc).2
          rw [e] at this
          exact .inl (Option.some.inj this).symm
        · rcases List.mem_cons.mp z with z | z
          · exact .inr ⟨c, hc, .inl z.symm⟩
          · exact .inr ⟨c, hc, .inr z⟩
theorem has_any {k : Nat} (hk : k ∈ eo) : (b.has k).any f = (b.ek k).any fun c => f c || (b.has c).any f := by
  have hm : ∀ k o, o ∈ b.has k ↔ o ∈ eo ∧ k ∈ b.abv o := fun k o => by
    unfold has
    rw [List.mem_filter, List.mem_range, Bool.and_eq_true, decide_eq_true_eq, s.mem]
    exact ⟨fun h => ⟨⟨h.1, h.2.1⟩, h.2.2⟩, fun h => ⟨h.1.1, h.1.2, h.2⟩⟩
  rw [Bool.eq_iff_iff, List.any_eq_true, List.any_eq_true]
  constructor
  · rintro ⟨o, ho, z⟩
    obtain ⟨h1, h2⟩ := (hm k o).mp ho
    obtain ⟨c, hc, h3⟩ := (s.abv_iff hk _ o (Nat.lt_succ_self _) h1).mp h2
    refine ⟨c, hc, ?_⟩
    rw [Bool.or_eq_true]
    rcases h3 with rfl | h3
    · exact .inl z
    · exact .inr (List.any_eq_true.mpr ⟨o, (hm c o).mpr ⟨h1, h3⟩, z⟩)
  · rintro ⟨c, hc, z⟩
    rw [Bool.or_eq_true] at z
    obtain ⟨hce, _⟩ := s.ek_idx hk hc
    rcases z with z | z
    · exact ⟨c, (hm k c).mpr ⟨hce, (s.abv_iff hk _ c (Nat.lt_succ_self _) hce).mpr ⟨c, hc, .inl rfl⟩⟩, z⟩
    · obtain ⟨o, ho, z⟩ := List.any_eq_true.mp z
      obtain ⟨h1, h2⟩ := (hm c o).mp ho
      exact ⟨o, (hm k o).mpr ⟨h1, (s.abv_iff hk _ o (Nat.lt_succ_self _) h1).mpr ⟨c, hc, .inr h2⟩⟩, z⟩
theorem bef_eq {k p : Nat} (hk : k ∈ eo) (hp : b.up k = some p) : ∃ h : (b.ek p).idxOf k < (b.ek p).length, (b.ek p)[(b.ek p).idxOf k] = k ∧ b.bef k = (b.ek p).take ((b.ek p).idxOf k) := by
  have hpe := (s.par k p ((s.mem k).mp hk).1 hp).1
  have hm := (s.ek_mem hpe).mpr ⟨hk, hp⟩
  have hl := List.idxOf_lt_length_of_mem hm
  refine ⟨hl, List.getElem_idxOf hl, ?_⟩
  unfold bef
  rw [hp]
  show (if k ∈ b.ek p then _ else _) = _
  rw [if_pos hm]
theorem bef_last {k q : Nat} (hk : k ∈ eo) (h : (b.bef k).getLast? = some q) : q ∈ eo ∧ eo.idxOf q < eo.idxOf k ∧ b.bef k = b.bef q ++ [q] := by
  cases hp : b.up k with
  | none =>
    unfold bef at h
    rw [hp] at h
    cases h
  | some p =>
    obtain ⟨hl, hkk, hb⟩ := s.bef_eq hk hp
    have hpe := (s.par k p ((s.mem k).mp hk).1 hp).1
    generalize hi : (b.ek p).idxOf k = i at hl hkk hb
    rw [hb] at h ⊢
    cases i with
    | zero => rw [List.take_zero] at h; cases h
    | succ i =>
      have hil : i < (b.ek p).length := by omega
      have e : (b.ek p).take (i + 1) = (b.ek p).take i ++ [(b.ek p)[i]] := by rw [List.take_add_one, List.getElem?_eq_getElem hil]; rfl
      rw [e, List.getLast?_concat] at h
      have hq : (b.ek p)[i] = q := Option.some.inj h
      have hqm : q ∈ b.ek p := by rw [← hq]; exact List.getElem_mem hil
      obtain ⟨hqe, hqu⟩ := (s.ek_mem hpe).mp hqm
      have hlt := idx_sub s.nd (s.sib p hpe) (i := i) (j := i + 1) (Nat.lt_succ_self _) hl
      rw [hq, hkk] at hlt
      obtain ⟨_, _, hbq⟩ := s.bef_eq hqe hqu
      have hqi : (b.ek p).idxOf q = i := by
        rw [← hq]
        exact List.Nodup.idxOf_getElem ((s.sib p hpe).nodup s.nd) i hil
      refine ⟨hqe, hlt, ?_⟩
      rw [e, hbq, hqi, hq]
theorem bef_any {k : Nat} (hk : k ∈ eo) : (b.bef k).any f = (b.bef k).getLast?.any fun q => f q || (b.bef q).any f := by
  cases e : (b.bef k).getLast? with
  | none =>
    rw [List.getLast?_eq_none_iff.mp e]; rfl
  | some q =>
    obtain ⟨_, _, e2⟩ := s.bef_last hk e
    rw [e2, List.any_append]
    show ((b.bef q).any f || (f q || false)) = (f q || (b.bef q).any f)
    rw [Bool.or_false, Bool.or_comm]
/-! ### what each kind of test comes to -/
theorem p_under : besideL (eo.map fun k => (b.up k).map eo.idxOf) (eo.map f) = eo.map fun k => (b.abv k).head?.any f := by
  rw [beside_ok fun k hk q e => (s.par k q ((s.mem k).mp hk).1 e).1]
  exact List.map_congr_left fun k hk => by rw [s.abv_head hk]
theorem p_in : alongL (eo.map fun k => (b.up k).map eo.idxOf) (eo.map f) = eo.map fun k => (b.abv k).any f :=
  along_ok s.nd (fun k hk q e => ⟨(s.par k q ((s.mem k).mp hk).1 e).1, (s.par k q ((s.mem k).mp hk).1 e).2 hk⟩) fun k hk => s.abv_any hk
theorem p_next : besideL (eo.map fun k => (b.bef k).getLast?.map eo.idxOf) (eo.map f) = eo.map fun k => (b.bef k).getLast?.any f :=
  beside_ok fun k hk q e => (s.bef_last hk e).1
theorem p_behind : alongL (eo.map fun k => (b.bef k).getLast?.map eo.idxOf) (eo.map f) = eo.map fun k => (b.bef k).any f :=
  along_ok s.nd (fun k hk q e => ⟨(s.bef_last hk e).1, (s.bef_last hk e).2.1⟩) fun k hk => s.bef_any hk
theorem p_over : ((eo.map fun k => (b.ek k).map eo.idxOf).map fun row => row.any fun c => (eo.map f).getD c false) = eo.map fun k => (b.ek k).any f :=
  over_ok fun k hk c hc => (s.ek_idx hk hc).1
theorem p_has : belowL (eo.map fun k => (b.ek k).map eo.idxOf) (eo.map f) = eo.map fun k => (b.has k).any f :=
  below_ok s.nd (fun k hk c hc => s.ek_idx hk hc) fun k hk => s.has_any hk
end Seen
end Tb
end LM
end
section
set_option Elab.async false
set_option linter.all false
set_option maxRecDepth 100000
set_option maxHeartbeats 4000000
/-! range(n) as a value, and a loop over a range that is held -/
namespace RR
open PySem PySem.Spec PyProof.Rows L2
def rRange1 : List V → Hp → VK → Prop := fun vs H Q => ∃ i, vs = [V.int i] ∧ ∀ p, H p = none → Q (.ref p) (upd H p (.rng 0 i))
theorem cr_range1 {X : Cx} : CallR X (.type "range") rRange1 := by
  intro pins s σ H vs us Q I r h
  obtain ⟨i, rfl, q⟩ := h
  obtain ⟨u1, rfl, ri⟩ := vals1 r
  obtain ⟨t, rfl⟩ := ri
  refine call_range_1 ⟨.ref s.heap.objs.size, upd H s.heap.objs.size (.rng 0 i), I.laid (t' := s.toks + 1 + 1) (fun b o e => Heap.get?_push_of_some _ e) (Nat.le_refl _) ?_, rfl, q _ (I.hok.fresh (Nat.le_refl _))⟩
  exact ⟨s.toks, t, s.toks + 1, Heap.get?_push_size _ rfl⟩
def iRngV (te : TE) : TI := fun σ H R => te σ H fun x H1 => ∃ (a : Addr) (lo hi : Int), x = .ref a ∧ H1 a = some (.rng lo hi) ∧ (-(2 ^ 62) ≤ lo ∧ lo < 2 ^ 62 ∧ -(2 ^ 62) ≤ hi ∧ hi < 2 ^ 62) ∧ R (Itr lo (hi - lo).toNat) H1
theorem pi_rngV {X : Cx} {tg e : Expr} {te : TE} (he : PE X e te) : PI X tg e (iRngV te) := by
  refine ⟨fun pins s σ H R I h => ?_⟩
  refine thn (he.run pins s σ H _ I h) fun v s1 ⟨x, H1, I1, r1, a, lo, hi, ex, ha, ⟨b1, b2, b3, b4⟩, q⟩ => ?_
  subst ex
  obtain rfl : v = Value.ref a := r1
  obtain ⟨t, u, w, hr⟩ := I1.hok a _ ha
  refine wpAny_pyIter_range (t := t) (u := u) (v := w) hr (small_one b1 b2 b3 b4) ?_
  have I2 : L2.Inv X pins σ H1 { s1 with heap := s1.heap.push { cls := .type "range_iterator", data := .fields #[rawInt lo, rawInt (Builtin.Range.rangeSize lo hi 1), rawInt 1] } } := I1.kept (t' := s1.toks) fun b o e => Heap.get?_push_of_some _ e
  refine ⟨s1.heap.objs.size, [s1.heap.objs.size], _, _, H1, rfl, I2, turn_range _ lo (hi - lo).toNat, ?_, fun b hb => ?_, q⟩
  · have e1 : lo + ((0 : Nat) : Int) * 1 = lo := by simp
    have e2 : (((hi - lo).toNat : Nat) : Int) - ((0 : Nat) : Int) = Builtin.Range.rangeSize lo hi 1 := by rw [rangeSize_one]; split <;> omega
    show IsRangeIter _ _ (lo + ((0 : Nat) : Int) * 1) ((((hi - lo).toNat : Nat) : Int) - ((0 : Nat) : Int)) 1
    rw [e1, e2]
    exact Heap.get?_push_size _ rfl
  · have e : b = s1.heap.objs.size := by simpa using hb
    subst e
    exact I1.fpOk (Nat.le_refl _) (I1.hok.fresh (Nat.le_refl _))
end RR
namespace DL
open PySem PySem.Spec PyProof.Rows L2 RR
section
variable {K : PySem.W.Frag} {A H H' H0 H1 H2 G G2 : Hp} {σ : L2.St} {t te : TE} {tA : TA} {n : Int} {a : Addr}
/-- over a held range -/
theorem gi_rngV (g : GV te σ H A (.ref a)) (ha : A a = some (.rng 0 n)) (b0 : -(2 ^ 62) ≤ n) (b : n < 2 ^ 62) : GI K (iRngV te) σ H A ((upto 0 n.toNat).map .int) := fun H0 H1 e R q => g.to e fun G H2 p => ⟨a, 0, n, rfl, p.hh _ _ (e.hh _ _ ha), ⟨by decide, by decide, b0, b⟩, by
  have z : (n - 0).toNat = n.toNat := by rw [Int.sub_zero]
  rw [z]
  exact q _ G H2 p runs_rng⟩
/-- over a range from its end -/
theorem runs_rngC {m : Nat} : Runs K (Itc (0 + (m : Int) - 1) (-1) m) G ((List.range m).reverse.map LM.ofN) where
  go := fun i H e hi => by
    rw [List.length_map, List.length_reverse, List.length_range] at hi
    exact hi
  stop := fun i H e hi => by
    rw [List.length_map, List.length_reverse, List.length_range] at hi
    exact hi
  yld := fun i H v H' G' e e2 hi hy => by
    obtain ⟨rfl, rfl⟩ := hy
    rw [List.length_map, List.length_reverse, List.length_range] at hi
    refine ⟨.int (0 + (m : Int) - 1 + (i : Int) * (-1)), G', ?_, .refl e2, .int _⟩
    rw [List.getElem?_map, List.getElem?_reverse (by rw [List.length_range]; exact hi), List.length_range, List.getElem?_range (by omega)]
    show some (PyData.int ((m - 1 - i : Nat) : Int)) = _
    congr 2
    omega
theorem gi_revR {m : Nat} (g : GD K te σ H A (LM.ofN m)) (b : m ≤ 1000000) : GI K (iRevR (tRg1 te)) σ H A ((List.range m).reverse.map LM.ofN) := fun H0 H1 e R q => g.to e fun v G H2 p dv => by
  have ev := Dv.int_inv dv
  subst ev
  have z : ((m : Int) - 0).toNat = m := by omega
  refine ⟨(m : Int), rfl, by decide, by decide, by omega, by omega, ?_⟩
  rw [z]
  exact q _ G H2 p runs_rngC
end
end DL
end
section
set_option Elab.async false
set_option linter.all false
set_option maxRecDepth 100000
set_option maxHeartbeats 4000000
namespace LM
open PySem DL
open Tb
theorem alongL_len (nb : List (Option Nat)) (hd : List Bool) : (alongL nb hd).length = nb.length := by
  have : ∀ (nb : List (Option Nat)) (acc : List Bool), (nb.foldl (alongS hd) acc).length = acc.length + nb.length := by
    intro nb
    induction nb with
    | nil => intro acc; rfl
    | cons o nb ih =>
      intro acc
      rw [List.foldl_cons, ih, List.length_cons]
      unfold alongS
      rw [List.length_append, List.length_singleton]; omega
  have := this nb []
  unfold alongL
  rw [this, List.length_nil, Nat.zero_add]
end LM
namespace LW
open PySem PySem.Spec PyProof.Rows L2 DL LM
section
variable {P : Program} {W : World} {K : PySem.W.Frag} {mg : Str → Option Value} {base : Heap} {f : Addr} {fd : FuncData} {A A2 H H' H0 H1 H2 G G2 Hc : Hp} {σ : L2.St} {t te td tn tv t1 t2 : TE} {tr : TS} {ts : TS} {tt : TT} {D : Ends} {tA : TA} {n i j : Nat} {p b : Addr} {xs ys : List V} {v : V} {d : PyData} {ds es : List PyData}
open Tst Tb
def blsD (l : List Bool) : PyData := .list (l.map .bool)
def upsD (l : List (Option Nat)) : PyData := .list (l.map upD)
theorem DvA.bls : ∀ {l : List Bool}, DvA K H (l.map V.bl) (l.map PyData.bool)
  | [] => .nil
  | _ :: _ => .cons (.bl _) DvA.bls
def arNb : List (Option Nat) × List Bool → List PyData := fun x => [upsD x.1, blsD x.2]
def preNb (x : List (Option Nat) × List Bool) : Prop := x.1.length ≤ 1000 ∧ ∀ q, some q ∈ x.1 → q < x.2.length
theorem go_nisN : GO K rIsNot1 d .none (.bool (!isNoneD d)) := fun H H1 G H2 v w Q p dx dy q => by
  have e := Dv.non_inv dy
  subst e
  refine ⟨rfl, ?_⟩
  have z : decide (v = .non) = isNoneD d := by cases dx <;> rfl
  rw [z]
  exact q _ G H2 p (.bl _)
theorem gd_bAt {l : List Bool} {q : Nat} (g : GD K te σ H A (blsD l)) (g2 : GD K tn σ H A (ofN q)) (hq : q < l.length) : GD K (tOp (rIx K) te tn) σ H A (.bool (l.getD q false)) := by
  refine gdo g g2 (go_ixL (atI_nat (j := q) ?_))
  rw [List.getElem?_map, List.getD_eq_getElem?_getD, List.getElem?_eq_getElem hq]; rfl
abbrev s_beside : Stmt := topS 18
theorem sc_beside : FnScope ["neighbours", "held", "place"] ["neighbours", "held"] (defScope s_beside) := ⟨rfl, rfl, rfl, by decide +kernel, rfl, by decide +kernel, by decide +kernel⟩
theorem ok_beside (F : Fun K "_beside" "_beside" s_beside f fd) : FnOk P W K mg base CX0 1 f fd ["neighbours", "held"] (spA K 2 arNb preNb fun x => blsD (besideL x.1 x.2)) := by
  refine fn_A F sc_beside rfl fun cdv A outer s H1 E hr => ⟨_, (pss_one (ps_ret (pe_lc (own := [("place", 2)]) (by rfl) sc_beside.nd (pi_seq (pv 0)) (blkOk_by (own := [("place", 2)]) (N := ["neighbours", "held", "place"]) (sc := defScope s_beside) (by decide +kernel)) (fun _ _ _ _ _ => (pg_name (i := 2) sc_beside.nd rfl (Or.inl rfl))) (fun _ _ _ _ _ => pts_nil) (fun _ _ _ _ _ => (pe_and (pe_cmpR op_isnot1 (pv 2) pe_non (nomark _)) (pe_one (pe_ix (ix_seqK K) (pv 1) (pv 2) (fun _ _ => rfl)))))))), fun vs x H A hl sm dv hp => ?_⟩
  obtain ⟨nb, hd⟩ := x
  obtain ⟨hz, hq⟩ := hp
  have hz : nb.length ≤ 1000 := hz
  obtain ⟨v, u, rfl, d1, d2⟩ := DvA.inv2 dv
  refine gb_ret (gd_lc (K := K) (k := 2) (em := upD) (xs := nb) (f := fun o => PyData.bool (match o with | none => false | some j => hd.getD j false)) (gi_seqL (gd_var rfl d1)) (by omega) fun i o ho v' G H1 p0 dv' => ?_) ?_
  · cases o with
    | none => exact gd_andB (b := false) (c := false) (gdo (K := K) (gd_var (i := 2) rfl dv') gd_non go_nisN) fun z => nomatch z
    | some q => exact gd_andB (b := true) (gdo (K := K) (gd_var (i := 2) rfl dv') gd_non go_nisN) fun _ => gd_bAt (gd_var rfl (d2.to p0.hg)) (gd_var rfl dv') (hq q (List.mem_of_getElem? ho))
  · show PyData.list _ = PyData.list ((besideL nb hd).map .bool)
    unfold besideL
    rw [List.map_map]; rfl
/-- o.append(b), where the list itself is read for b -/
theorem s_appendB {bb : Bool} (w : Own H0 H1 G H p (.lst xs)) (ho : σ[j]? = some (some (.ref p))) (g : GD K te σ (upd G p (.lst xs)) H (.bool bb)) (z : xs.length < sizeLine) (k : ∀ H', Own H0 H1 G H' p (.lst (xs ++ [.bl bb])) → D.nx σ H') :
    tDrop (tBM K "list" rAppend (tVar j) (tCons te tNil)) D σ H := ⟨.ref p, ho, .inl ⟨rfl, xs, SqL.of w.at_⟩, g.to (.refl w.see) fun v G' H' P dv => ⟨p, xs, v, rfl, rfl, (w.test P.hh).at_, z, by
      have e := Dv.bl_inv dv
      subst e
      exact k _ ((w.test P.hh).put _)⟩⟩
def preAl (x : List (Option Nat) × List Bool) : Prop := x.1.length ≤ 1000 ∧ x.1.length = x.2.length ∧ ∀ (i q : Nat), x.1[i]? = some (some q) → q < i
abbrev s_along : Stmt := topS 19
theorem sc_along : FnScope ["neighbours", "held", "found", "place"] ["neighbours", "held"] (defScope s_along) := ⟨rfl, rfl, rfl, by decide +kernel, rfl, by decide +kernel, by decide +kernel⟩
theorem ok_along (F : Fun K "_along" "_along" s_along f fd) : FnOk P W K mg base CX0 1 f fd ["neighbours", "held"] (spA K 2 arNb preAl fun x => blsD (alongL x.1 x.2)) := by
  refine fn_A F sc_along rfl fun cdv A outer s H1 E hr => ⟨_, (pss_cons (ps_set (i := 2) sc_along.nd rfl (Or.inl rfl) (pe_lst pa_nil))
      (pss_cons (ps_for PassesOwn.never rfl (pi_seq (pv 0)) (pg_name (i := 3) sc_along.nd rfl (Or.inl rfl)) (pss_one (ps_expr (pe_bm PySem.F.plainAttrs_list PySem.F.slot_list_append PySem.F.type_list_append mt_append (pv 2) (pa_cons (pe_and (pe_cmpR op_isnot1 (pv 3) pe_non (nomark _)) (pe_one (pe_or (pe_ix ix_seq (pv 1) (pv 3) (fun _ _ => rfl)) (pe_one (pe_ix ix_seq (pv 2) (pv 3) (fun _ _ => rfl)))))) pa_nil)))))
      (pss_one (ps_ret (pv 2))))), fun vs x H A hl sm dv hp => ?_⟩
  obtain ⟨nb, hd⟩ := x
  obtain ⟨hz, he, hq⟩ := hp
  have hz : nb.length ≤ 1000 := hz
  have he : nb.length = hd.length := he
  have hq : ∀ (i q : Nat), nb[i]? = some (some q) → q < i := hq
  obtain ⟨v, u, rfl, d1, d2⟩ := DvA.inv2 dv
  intro H0 H1 e D q
  refine ⟨Nat.zero_le _, fun p hp => ?_⟩
  have w0 := Own.new (Pub.refl e.gh) hp (.lst [])
  dsimp only [gName]
  refine for_run (H := H0) (gi_seqL (gd_var (i := 0) rfl (d1.to e.hg))) (.refl w0.gh) fun B HB PB => ?_
  refine ⟨fun i σ' G H' => ∃ (x3 : Option V), σ' = [some v, some u, some (.ref p), x3] ∧ Own H0 H1 G H' p (.lst ((alongL (nb.take i) hd).map V.bl)) ∧ Same B G, ⟨none, rfl, w0.step PB, .refl _⟩, fun i σ' G H' ⟨_, _, w, s⟩ => ⟨s, w.gh⟩, ?_, ?_⟩
  · rintro i dd σ' G H' hdd ⟨x3, rfl, w, sB⟩ z G5 H5 P5 dv5
    rw [List.getElem?_map] at hdd
    obtain ⟨o, ho, rfl⟩ := Option.map_eq_some_iff.mp hdd
    have hi : i < nb.length := (List.getElem?_eq_some_iff.mp ho).1
    have w5 := w.step P5
    have ht : nb.take (i + 1) = nb.take i ++ [o] := by rw [List.take_add_one, ho]; rfl
    have hln : (alongL (nb.take i) hd).length = i := by rw [alongL_len, List.length_take]; omega
    have s5 : Same H G5 := e.hg.trans (PB.hg.trans (sB.trans P5.hg))
    have up := same_new w5.pg (.lst ((alongL (nb.take i) hd).map V.bl))
    have es : alongL (nb.take (i + 1)) hd = alongL (nb.take i) hd ++ [alB hd (alongL (nb.take i) hd) o] := by
      unfold alongL
      rw [ht, List.foldl_append]; rfl
    refine s_appendB (K := K) (bb := alB hd (alongL (nb.take i) hd) o) w5 rfl ?_ (by rw [List.length_map, hln, sizeLine_eq]; omega) fun H6 w6 => ?_
    · cases o with
      | none => exact gd_andB (b := false) (c := false) (gdo (K := K) (gd_var (i := 3) rfl (dv5.to up)) gd_non go_nisN) fun z => nomatch z
      | some qq =>
        have hlt := hq i qq ho
        exact gd_andB (b := true) (gdo (K := K) (gd_var (i := 3) rfl (dv5.to up)) gd_non go_nisN) fun _ => gd_orB (gd_bAt (gd_var rfl (d2.to (s5.trans up))) (gd_var rfl (dv5.to up)) (by omega)) fun _ => gd_bAt (l := alongL (nb.take i) hd) (gd_var rfl (w5.dv DvA.bls)) (gd_var rfl (dv5.to up)) (by omega)
    · refine ⟨G5, some z, rfl, ?_, sB.trans P5.hg⟩
      rw [es, List.map_append]; exact w6
  · rintro σ' G H' ⟨x3, rfl, w, sB⟩
    rw [List.length_map, List.take_length] at w
    exact ⟨.ref p, rfl, q (blsD (alongL nb hd)) _ _ _ rfl w.open_ (w.dv DvA.bls)⟩
end
end LW
end
section
set_option Elab.async false
set_option linter.all false
set_option maxRecDepth 100000
set_option maxHeartbeats 4000000
namespace DL
open PySem PySem.Spec PyProof.Rows L2
theorem cr_allK {X : Cx} (K : PySem.W.Frag) (hc : X.calm = true) (hK : X.K = K := by rfl) : CallR X (.builtin "all") (rAll K) := by subst hK; exact cr_all hc
theorem cr_anyK {X : Cx} (K : PySem.W.Frag) (hc : X.calm = true) (hK : X.K = K := by rfl) : CallR X (.builtin "any") (rAny K) := by subst hK; exact cr_any hc
section
variable {K : PySem.W.Frag} {A H H' H0 H1 H2 G G2 Hc : Hp} {σ : L2.St} {t te ti : TE} {tA : TA} {D : Ends} {p : Addr} {xs : List V} {i j : Nat} {v : V} {d : PyData} {ds : List PyData}
/-- a comprehension whose list stays private -/
def OWn (K : PySem.W.Frag) (t : TE) (σ : L2.St) (H A : Hp) (ds : List PyData) : Prop := ∀ H0 H1, Pub H A H0 H1 → ∀ Q : VK, (∀ c xs G H2, Own H0 H1 G H2 c (.lst xs) → DvA K G xs ds → Q (.ref c) H2) → t σ H1 Q
theorem own_lc {α : Type} {wi : TI} {k : Nat} {zs : List α} {em : α → PyData} {f : α → PyData} (gi : GI K wi σ H A (zs.map em)) (z : zs.length ≤ 1000000)
    (he : ∀ (i : Nat) (a : α), zs[i]? = some a → ∀ v G H1, Pub H A G H1 → Dv K G v (em a) → GD K te ((wipe σ [k]).set k (some v)) G H1 (f a)) : OWn K (tLc wi (gName k) tYes te [k]) σ H A (zs.map f) := fun H0 H1 e Q q => gi H0 H1 e _ fun J B H2 pb r D hD => by
  refine ⟨fun i m Hx => m = zs.length - i ∧ i ≤ zs.length ∧ ∃ G acc, Own B H2 G Hx D (.lst acc) ∧ DvA K G acc ((zs.take i).map f),
    ⟨zs.length, by simp, Nat.zero_le _, B, [], Own.new (.refl pb.gh) hD _, .nil⟩, ?_⟩
  rintro i m Hx ⟨rfl, hi, G, acc, w, da⟩
  by_cases hlt : i < zs.length
  · have hlt' : i < (zs.map em).length := by rw [List.length_map]; exact hlt
    refine .inr ⟨r.go i Hx w.pub.same hlt', fun H' => ∃ G acc, Own B H2 G H' D (.lst acc) ∧ DvA K G acc ((zs.take (i + 1)).map f), fun H' ⟨G', acc', h1, h2⟩ => ⟨zs.length - (i + 1), by omega, rfl, hlt, G', acc', h1, h2⟩, fun x H' hy => ?_⟩
    obtain ⟨d, G', hd, p1, dx⟩ := r.yld i Hx x H' G w.pub.hg w.gh hlt' hy
    rw [List.getElem?_map] at hd
    obtain ⟨a, ha, rfl⟩ := Option.map_eq_some_iff.mp hd
    have w1 := w.step p1
    have ht : zs.take (i + 1) = zs.take i ++ [a] := by rw [List.take_add_one, ha]; rfl
    have hl : acc.length = i := by rw [DvA.len da, List.length_map, List.length_take]; omega
    refine ⟨wipe1, ?_⟩
    dsimp only [tYes]
    refine iteT ?_
    refine (he i a ha x G' H' (e.trans (pb.trans w1.pub)) dx).to (.refl w1.gh) fun y G5 H5 p5 dy => ?_
    have w5 := w1.step p5
    refine ⟨acc, w5.at_, by rw [hl, sizeLine_eq]; omega, G5, acc ++ [y], w5.put _, ?_⟩
    rw [ht, List.map_append]
    exact DvA.app (da.to (p1.hg.trans p5.hg)) (.cons dy .nil)
  · have hn : i = zs.length := by omega
    subst hn
    rw [List.take_length] at da
    refine .inl ⟨r.stop _ Hx w.pub.same (by rw [List.length_map]; exact Nat.le_refl _), q D acc G Hx ⟨pb.trans w.pub, w.at_, w.pg, ?_⟩ da⟩
    exact pb.hh.free hD
theorem s_own {tr : TS} (g : OWn K t σ G H ds) (s : Same G H) (k : ∀ c xs G' H', Own G H G' H' c (.lst xs) → DvA K G' xs ds → tr D (σ.set i (some (.ref c))) H') : tSeq (tAsg t (gName i)) tr D σ H := g G H (.refl s) _ k
/-- o[i] = b, the list o one's own and read for b -/
theorem s_setB {bb : Bool} {k : Nat} (w : Own H0 H1 G H p (.lst xs)) (ho : σ[j]? = some (some (.ref p))) (g : GD K te σ (upd G p (.lst xs)) H (.bool bb)) (gi : ∀ G' H', Same (upd G p (.lst xs)) G' → GD K ti σ G' H' (LM.ofN k)) (hk : k < xs.length) (kk : ∀ H', Own H0 H1 G H' p (.lst (xs.set k (.bl bb))) → D.nx σ H') :
    tAsg te (gSub (tVar j) ti rSetL) D σ H := g.to (.refl w.see) fun v G2 H2 P dv => ⟨.ref p, ho, (gi G2 H2 P.hg).to (.refl P.gh) fun u G3 H3 P3 du => by
      have e := Dv.bl_inv dv
      have e2 := Dv.int_inv du
      subst e e2
      have w3 := (w.test P.hh).test P3.hh
      refine ⟨p, xs, (k : Int), k, rfl, rfl, w3.at_, ?_, kk _ (w3.put _)⟩
      unfold ixN
      rw [if_pos (by omega), if_pos (by omega)]
      congr 1⟩
end
end DL
end
section
set_option Elab.async false
set_option linter.all false
set_option maxRecDepth 100000
set_option maxHeartbeats 4000000
namespace LM
open PySem DL
def joinL (w : Str) (rows : List (List Bool)) (n : Nat) : List Bool :=
  if w = "both" then (List.range n).map fun k => rows.all fun r => r.getD k false
  else if w = "one" then (List.range n).map fun k => rows.any fun r => r.getD k false
  else (rows.headD []).map fun x => !x
end LM
namespace LW
open PySem PySem.Spec PyProof.Rows L2 DL LM
section
variable {P : Program} {W : World} {K : PySem.W.Frag} {mg : Str → Option Value} {base : Heap} {f : Addr} {fd : FuncData} {A A2 H H' H0 H1 H2 G G2 Hc : Hp} {σ : L2.St} {t te td tn tv t1 t2 : TE} {tr : TS} {ts : TS} {tt : TT} {D : Ends} {tA : TA} {n i j : Nat} {p b : Addr} {xs ys : List V} {v : V} {d : PyData} {ds es : List PyData}
open Tst Tb
def rowsD (rows : List (List Bool)) : PyData := .list (rows.map blsD)
def arJn : Str × List (List Bool) × Nat → List PyData := fun x => [.str x.1, rowsD x.2.1]
def preJn (x : Str × List (List Bool) × Nat) : Prop := x.2.1 ≠ [] ∧ x.2.1.length ≤ 1000 ∧ x.2.2 ≤ 1000 ∧ ∀ r ∈ x.2.1, r.length = x.2.2
theorem gd_row0 {rows : List (List Bool)} (g : GD K te σ H A (rowsD rows)) (h : rows ≠ []) : GD K (tOp (rIx K) te (tC (.int 0))) σ H A (blsD (rows.headD [])) := by
  cases rows with
  | nil => exact absurd rfl h
  | cons r rows => exact gdo g gd_int (go_ixL (atI_nat (j := 0) rfl))
theorem upto_ofN (m : Nat) : (upto 0 m).map PyData.int = (List.range m).map ofN := by
  refine List.ext_getElem? fun i => ?_
  rw [List.getElem?_map, List.getElem?_map]
  by_cases h : i < m
  · rw [upto_get h, List.getElem?_range h]
    show some (PyData.int (0 + (i : Int))) = some (PyData.int (i : Int))
    rw [Int.zero_add]
  · rw [List.getElem?_eq_none (by rw [upto_len]; omega), List.getElem?_eq_none (by rw [List.length_range]; omega)]; rfl
abbrev s_joined : Stmt := topS 17
theorem sc_joined : FnScope ["word", "inner", "places", "place", "held", "holds"] ["word", "inner"] (defScope s_joined) := ⟨rfl, rfl, rfl, by decide +kernel, rfl, by decide +kernel, by decide +kernel⟩
theorem ok_joined (T : Bx mg) (F : Fun K "_joined" "_joined" s_joined f fd) : FnOk P W K mg base CX0 1 f fd ["word", "inner"] (spA K 2 arJn preJn fun x => blsD (joinL x.1 x.2.1 x.2.2)) := by
  refine fn_A F sc_joined rfl fun cdv A outer s H1 E hr => ⟨_, (pss_cons (ps_set (i := 2) sc_joined.nd rfl (Or.inl rfl) (pe_callTy RR.cr_range1 (by rfl) T.range (by decide +kernel) (pa_cons (pe_callB cr_len (by rfl) T.len PySem.boot_len (pa_cons (pe_ix ix_seq (pv 1) pe_int (fun _ _ => rfl)) pa_nil)) pa_nil)))
      (pss_cons (ps_if (pt_cmpR (op_eqA hr.units) (pv 0) pe_str (nomark _)) (pss_one (ps_ret (pe_lc (own := [("place", 3)]) (by rfl) sc_joined.nd (RR.pi_rngV (pv 2)) (blkOk_by (own := [("place", 3)]) (N := ["word", "inner", "places", "place", "held", "holds"]) (sc := defScope s_joined) (by decide +kernel)) (fun _ _ _ _ _ => (pg_name (i := 3) sc_joined.nd rfl (Or.inr rfl))) (fun _ _ _ _ _ => pts_nil) (fun _ _ _ _ _ => (pe_callB (cr_allK K rfl) (by rfl) T.all (by decide +kernel) (pa_cons (pe_lc (scope := ({ kind := .function, names := [(".0", .local), ("held", .local), ("place", .free)], isGenerator := false, isCoroutine := false } : Scope)) (own := [("held", 4)]) (by rfl) sc_joined.nd (pi_seqK K (pv 1)) (by exact blkOk_by (scope := ({ kind := .function, names := [(".0", .local), ("held", .local), ("place", .free)], isGenerator := false, isCoroutine := false } : Scope)) (own := [("held", 4)]) (N := ["word", "inner", "places", "place", "held", "holds"]) (sc := ({ kind := .function, names := [(".0", .local), ("place", .cell), ("all", .globalImplicit), ("inner", .cell)], isGenerator := false, isCoroutine := false } : Scope)) (by decide +kernel)) (fun _ _ _ _ _ => (pg_name (i := 4) sc_joined.nd rfl (Or.inl rfl))) (fun _ _ _ _ _ => pts_nil) (fun _ _ _ _ _ => (pe_ix (ix_seqK K) (pv 4) (pv 3) (fun _ _ => rfl)))) pa_nil)))))) pss_nil)
      (pss_cons (ps_if (pt_cmpR (op_eqA hr.units) (pv 0) pe_str (nomark _)) (pss_one (ps_ret (pe_lc (own := [("place", 3)]) (by rfl) sc_joined.nd (RR.pi_rngV (pv 2)) (blkOk_by (own := [("place", 3)]) (N := ["word", "inner", "places", "place", "held", "holds"]) (sc := defScope s_joined) (by decide +kernel)) (fun _ _ _ _ _ => (pg_name (i := 3) sc_joined.nd rfl (Or.inr rfl))) (fun _ _ _ _ _ => pts_nil) (fun _ _ _ _ _ => (pe_callB (cr_anyK K rfl) (by rfl) T.any (by decide +kernel) (pa_cons (pe_lc (scope := ({ kind := .function, names := [(".0", .local), ("held", .local), ("place", .free)], isGenerator := false, isCoroutine := false } : Scope)) (own := [("held", 4)]) (by rfl) sc_joined.nd (pi_seqK K (pv 1)) (by exact blkOk_by (scope := ({ kind := .function, names := [(".0", .local), ("held", .local), ("place", .free)], isGenerator := false, isCoroutine := false } : Scope)) (own := [("held", 4)]) (N := ["word", "inner", "places", "place", "held", "holds"]) (sc := ({ kind := .function, names := [(".0", .local), ("place", .cell), ("any", .globalImplicit), ("inner", .cell)], isGenerator := false, isCoroutine := false } : Scope)) (by decide +kernel)) (fun _ _ _ _ _ => (pg_name (i := 4) sc_joined.nd rfl (Or.inl rfl))) (fun _ _ _ _ _ => pts_nil) (fun _ _ _ _ _ => (pe_ix (ix_seqK K) (pv 4) (pv 3) (fun _ _ => rfl)))) pa_nil)))))) pss_nil)
      (pss_one (ps_ret (pe_lc (own := [("holds", 5)]) (by rfl) sc_joined.nd (pi_seq (pe_ix ix_seq (pv 1) pe_int (fun _ _ => rfl))) (blkOk_by (own := [("holds", 5)]) (N := ["word", "inner", "places", "place", "held", "holds"]) (sc := defScope s_joined) (by decide +kernel)) (fun _ _ _ _ _ => (pg_name (i := 5) sc_joined.nd rfl (Or.inl rfl))) (fun _ _ _ _ _ => pts_nil) (fun _ _ _ _ _ => (pe_not (pv 5))))))))), fun vs x H A hl sm dv hp => ?_⟩
  obtain ⟨w, rows, n⟩ := x
  obtain ⟨hne, hz, hn, hr⟩ := hp
  have hne : rows ≠ [] := hne
  have hz : rows.length ≤ 1000 := hz
  have hn : n ≤ 1000 := hn
  have hr : ∀ r ∈ rows, r.length = n := hr
  obtain ⟨v, u, rfl, d1, d2⟩ := DvA.inv2 dv
  have hh : (rows.headD []).length = n := by
    cases rows with
    | nil => exact absurd rfl hne
    | cons r rows => exact hr r List.mem_cons_self
  intro H0 H1 e D q
  have d1 := d1.to e.hg
  have d2 := d2.to e.hg
  have gl := gd_cb (K := K) (H := H0) (A := H1) (ga_cons (gd_row0 (gd_var (σ := [some v, some u, none, none, none, none]) (i := 1) rfl d2) hne) ga_nil) gc_lenL
  rw [List.length_map, hh] at gl
  refine gl.to (.refl e.gh) fun x G1 Hx P1 dx => ?_
  have ex := Dv.int_inv dx
  subst ex
  refine ⟨(n : Int), rfl, fun p hp => ?_⟩
  dsimp only [gName]
  have P2 := P1.newP hp (.rng 0 (n : Int))
  have d1 := d1.to P1.hg
  have d2 := d2.to P1.hg
  have hrng : ∀ {G' H'}, Same (upd Hx p (.rng 0 (n : Int))) H' → GI K (RR.iRngV (tVar 2)) [some v, some u, some (.ref p), none, none, none] G' H' ((List.range n).map ofN) := fun {G' H'} s => by
    have g := gi_rngV (K := K) (H := G') (A := H') (σ := [some v, some u, some (.ref p), none, none, none]) (te := tVar 2) (n := (n : Int)) (gv_var rfl) (s _ _ upd_same) (by omega) (by omega)
    rw [Int.toNat_natCast, upto_ofN] at g
    exact g
  refine s_ifr (K := K) (gt_test (gdo (K := K) (gd_var (i := 0) rfl d1) gd_str go_eqS)) P2.gh (fun c H3 s3 => ?_) fun c H3 s3 => ?_
  · have P3 := P2.test s3
    refine s_ret (K := K) (d := blsD (joinL w rows n)) ?_ P3.gh fun y G4 H4 P4 dy => q (blsD (joinL w rows n)) y G4 H4 rfl (P3.trans P4) dy
    unfold joinL
    rw [if_pos (of_decide_eq_true c)]
    show GD K _ _ G1 H3 (.list (((List.range n).map fun k => rows.all fun r => r.getD k false).map .bool))
    rw [List.map_map]
    refine gd_lc (K := K) (k := 3) (em := ofN) (xs := List.range n) (hrng s3) (by rw [List.length_range]; omega) fun i k hk v' G5 H5 p5 dv' => ?_
    have hkn : k < n := List.mem_range.mp (List.mem_of_getElem? hk)
    refine gd_cb (ga_cons (gd_lc (K := K) (k := 4) (em := blsD) (xs := rows) (f := fun r => PyData.bool (r.getD k false)) (gi_seqL (gd_var rfl (d2.to p5.hg))) (by omega) fun i r hr' v6 G6 H6 p6 dv6 => ?_) ga_nil) gc_allM
    exact gd_bAt (gd_var rfl dv6) (gd_var rfl (dv'.to p6.hg)) (by rw [hr r (List.mem_of_getElem? hr')]; exact hkn)
  · have P3 := P2.test s3
    have nb : w ≠ "both" := of_decide_eq_false c
    refine s_ifr (K := K) (gt_test (gdo (K := K) (gd_var (i := 0) rfl d1) gd_str go_eqS)) P3.gh (fun c H4 s4 => ?_) fun c H4 s4 => ?_
    · have P4 := P3.test s4
      refine s_ret (K := K) (d := blsD (joinL w rows n)) ?_ P4.gh fun y G4 H4 P5 dy => q (blsD (joinL w rows n)) y G4 H4 rfl (P4.trans P5) dy
      unfold joinL
      rw [if_neg nb, if_pos (of_decide_eq_true c)]
      show GD K _ _ G1 H4 (.list (((List.range n).map fun k => rows.any fun r => r.getD k false).map .bool))
      rw [List.map_map]
      refine gd_lc (K := K) (k := 3) (em := ofN) (xs := List.range n) (hrng (s3.trans s4)) (by rw [List.length_range]; omega) fun i k hk v' G5 H5 p5 dv' => ?_
      have hkn : k < n := List.mem_range.mp (List.mem_of_getElem? hk)
      refine gd_cb (ga_cons (gd_lc (K := K) (k := 4) (em := blsD) (xs := rows) (f := fun r => PyData.bool (r.getD k false)) (gi_seqL (gd_var rfl (d2.to p5.hg))) (by omega) fun i r hr' v6 G6 H6 p6 dv6 => ?_) ga_nil) gc_anyM
      exact gd_bAt (gd_var rfl dv6) (gd_var rfl (dv'.to p6.hg)) (by rw [hr r (List.mem_of_getElem? hr')]; exact hkn)
    · have P4 := P3.test s4
      refine s_ret (K := K) (d := blsD (joinL w rows n)) ?_ P4.gh fun y G4 H4 P5 dy => q (blsD (joinL w rows n)) y G4 H4 rfl (P4.trans P5) dy
      unfold joinL
      rw [if_neg nb, if_neg (of_decide_eq_false c)]
      show GD K _ _ G1 H4 (.list (((rows.headD []).map fun x => !x).map .bool))
      rw [List.map_map]
      exact gd_lc (K := K) (k := 5) (em := PyData.bool) (xs := rows.headD []) (gi_seqL (gd_row0 (gd_var rfl d2) hne)) (by omega) fun i x hx v' G5 H5 p5 dv' => gd_notB (gd_var rfl dv')
def placesD (l : List (List Nat)) : PyData := .list (l.map natsD)
def arBl : List (List Nat) × List Bool → List PyData := fun x => [placesD x.1, blsD x.2]
def preBl (x : List (List Nat) × List Bool) : Prop := x.1.length ≤ 1000 ∧ x.1.length = x.2.length ∧ ∀ r ∈ x.1, r.length ≤ 1000 ∧ ∀ c ∈ r, c < x.1.length
theorem belowS_len (inner : List (List Nat)) (hd fd : List Bool) (k : Nat) : (belowS inner hd fd k).length = fd.length := by unfold belowS; rw [List.length_set]
abbrev s_below : Stmt := topS 20
theorem sc_below : FnScope ["inner", "held", "found", "place", "_", "child"] ["inner", "held"] (defScope s_below) := ⟨rfl, rfl, rfl, by decide +kernel, rfl, by decide +kernel, by decide +kernel⟩
theorem ok_below (T : Bx mg) (F : Fun K "_below" "_below" s_below f fd) : FnOk P W K mg base CX0 1 f fd ["inner", "held"] (spA K 2 arBl preBl fun x => blsD (belowL x.1 x.2)) := by
  refine fn_A F sc_below rfl fun cdv A outer s H1 E hr => ⟨_, (pss_cons (ps_set (i := 2) sc_below.nd rfl (Or.inr rfl) (pe_lc (own := [("_", 4)]) (by rfl) sc_below.nd (pi_seq (pv 0)) (blkOk_by (own := [("_", 4)]) (N := ["inner", "held", "found", "place", "_", "child"]) (sc := defScope s_below) (by decide +kernel)) (fun _ _ _ _ _ => (pg_name (i := 4) sc_below.nd rfl (Or.inl rfl))) (fun _ _ _ _ _ => pts_nil) (fun _ _ _ _ _ => pe_bl)))
      (pss_cons (ps_for PassesOwn.never rfl (pi_revR (by rfl) T.reversed (prg_1 (by rfl) T.range (pe_callB cr_len (by rfl) T.len PySem.boot_len (pa_cons (pv 0) pa_nil)))) (pg_name (i := 3) sc_below.nd rfl (Or.inl rfl)) (pss_one (ps_asg (pe_callB (cr_any rfl) (by rfl) T.any (by decide +kernel) (pa_cons (pe_lc (own := [("child", 5)]) (by rfl) sc_below.nd (pi_seq (pe_ix ix_seq (pv 0) (pv 3) (fun _ _ => rfl))) (blkOk_by (own := [("child", 5)]) (N := ["inner", "held", "found", "place", "_", "child"]) (sc := defScope s_below) (by decide +kernel)) (fun _ _ _ _ _ => (pg_name (i := 5) sc_below.nd rfl (Or.inl rfl))) (fun _ _ _ _ _ => pts_nil) (fun _ _ _ _ _ => (pe_or (pe_ix (ix_seqK K) (pv 1) (pv 5) (fun _ _ => rfl)) (pe_one (pe_ix (ix_seqK K) (pv 2) (pv 5) (fun _ _ => rfl)))))) pa_nil)) (pg_sub (pv 2) (pv 3) set_list))))
      (pss_one (ps_ret (pv 2))))), fun vs x H A hl sm dv hp => ?_⟩
  obtain ⟨inner, hd⟩ := x
  obtain ⟨hz, he, hq⟩ := hp
  have hz : inner.length ≤ 1000 := hz
  have he : inner.length = hd.length := he
  have hq : ∀ r ∈ inner, r.length ≤ 1000 ∧ ∀ c ∈ r, c < inner.length := hq
  obtain ⟨v, u, rfl, d1, d2⟩ := DvA.inv2 dv
  intro H0 H1 e D q
  have d1 := d1.to e.hg
  have d2 := d2.to e.hg
  refine s_own (own_lc (K := K) (H := H0) (A := H1) (σ := [some v, some u, none, none, none, none]) (k := 4) (em := natsD) (zs := inner) (f := fun _ => PyData.bool false) (gi_seqL (gd_var (i := 0) rfl d1)) (by omega) (fun i a ha v' G H1 p0 dv' => gd_bl)) e.gh fun p ys G1 Hx w da => ?_
  have e0 : inner.map (fun _ => PyData.bool false) = (inner.map fun _ => false).map .bool := by rw [List.map_map]; rfl
  rw [e0] at da
  have ey := DvA.bls_inv da
  subst ey
  have d1 := d1.to w.pub.hg
  have d2 := d2.to w.pub.hg
  have glen := gd_cb (K := K) (H := G1) (A := Hx) (ga_cons (gd_var (σ := [some v, some u, some (.ref p), none, none, none]) (i := 0) rfl d1) ga_nil) gc_lenL
  rw [List.length_map] at glen
  refine for_run (gi_revR (m := inner.length) glen (by omega)) (.refl w.gh) fun B HB PB => ?_
  have fold : ∀ (ks : List Nat) (fd : List Bool), (ks.foldl (belowS inner hd) fd).length = fd.length := by
    intro ks
    induction ks with
    | nil => intro fd; rfl
    | cons k ks ih => intro fd; rw [List.foldl_cons, ih, belowS_len]
  refine ⟨fun i σ' G H' => ∃ (x3 : Option V), σ' = [some v, some u, some (.ref p), x3, none, none] ∧ Own H0 H1 G H' p (.lst ((((List.range inner.length).reverse.take i).foldl (belowS inner hd) (inner.map fun _ => false)).map V.bl)) ∧ Same B G, ⟨none, rfl, w.step PB, .refl _⟩, fun i σ' G H' ⟨_, _, w, s⟩ => ⟨s, w.gh⟩, ?_, ?_⟩
  · rintro i dd σ' G H' hdd ⟨x3, rfl, w', sB⟩ z G5 H5 P5 dv5
    rw [List.getElem?_map] at hdd
    obtain ⟨k, hk, rfl⟩ := Option.map_eq_some_iff.mp hdd
    have hkn : k < inner.length := by
      have := List.mem_of_getElem? hk
      rw [List.mem_reverse, List.mem_range] at this
      exact this
    have w5 := w'.step P5
    have s5 : Same G1 G5 := PB.hg.trans (sB.trans P5.hg)
    obtain ⟨fdn, hfd⟩ : ∃ fdn, fdn = ((List.range inner.length).reverse.take i).foldl (belowS inner hd) (inner.map fun _ => false) := ⟨_, rfl⟩
    have hfl : fdn.length = inner.length := by rw [hfd, fold, List.length_map]
    have ht : ((List.range inner.length).reverse.take (i + 1)).foldl (belowS inner hd) (inner.map fun _ => false) = belowS inner hd fdn k := by
      rw [List.take_add_one, hk, List.foldl_append, ← hfd]; rfl
    rw [← hfd] at w5
    have up := same_new w5.pg (.lst (fdn.map V.bl))
    have d1u := (d1.to s5).to up
    have ez := Dv.int_inv dv5
    subst ez
    refine s_setB (K := K) (k := k) (bb := (inner.getD k []).any fun c => hd.getD c false || fdn.getD c false) w5 rfl ?_ (fun G' H' _ => gd_var (i := 3) rfl (.int (k : Int))) (by rw [List.length_map, hfl]; exact hkn) fun H6 w6 => ?_
    · have hg : inner[k]? = some (inner.getD k []) := by rw [List.getD_eq_getElem?_getD, List.getElem?_eq_getElem hkn]; rfl
      have hm := List.mem_of_getElem? hg
      have grow : GD K (tOp (rIx K) (tVar 0) (tVar 3)) [some v, some u, some (.ref p), some (.int (k : Int)), none, none] (upd G5 p (.lst (fdn.map V.bl))) H5 (natsD (inner.getD k [])) := gdo (gd_var rfl d1u) (gd_var rfl (.int (k : Int))) (go_ixL (atI_nat (j := k) (by rw [List.getElem?_map, hg]; rfl)))
      refine gd_cb (ga_cons (gd_lc (K := K) (k := 5) (em := ofN) (xs := inner.getD k []) (f := fun c => PyData.bool (hd.getD c false || fdn.getD c false)) (gi_seqL grow) (by have := (hq _ hm).1; omega) fun i c hc v' G6 H6 p6 dv' => ?_) ga_nil) gc_anyM
      have hcl := (hq _ hm).2 c (List.mem_of_getElem? hc)
      exact gd_orB (gd_bAt (gd_var rfl (((d2.to s5).to up).to p6.hg)) (gd_var rfl dv') (by omega)) fun _ => gd_bAt (l := fdn) (gd_var rfl ((w5.dv DvA.bls).to p6.hg)) (gd_var rfl dv') (by omega)
    · refine ⟨G5, some (.int (k : Int)), rfl, ?_, sB.trans P5.hg⟩
      rw [ht]
      unfold belowS
      rw [List.map_set]
      exact w6
  · rintro σ' G H' ⟨x3, rfl, w', sB⟩
    rw [List.length_map, List.take_length] at w'
    exact ⟨.ref p, rfl, q (blsD (belowL inner hd)) _ _ _ rfl w'.open_ (w'.dv DvA.bls)⟩
end
end LW
end
section
set_option Elab.async false
set_option linter.all false
namespace LM
open PySem DL
/-! ### below: each node once -/
theorem nodup_flat {g : Nat → List Nat} : ∀ ks : List Nat, ks.Nodup → (∀ c, c ∈ ks → (g c).Nodup) → (∀ c c', c ∈ ks → c' ∈ ks → c ≠ c' → ∀ m, m ∈ g c → m ∉ g c') → (ks.flatMap g).Nodup
  | [], _, _, _ => by simp
  | c :: ks, hd, hg, hx => by
    obtain ⟨h1, h2⟩ := List.nodup_cons.mp hd
    rw [List.flatMap_cons]
    refine List.nodup_append.mpr ⟨hg c List.mem_cons_self, nodup_flat ks h2 (fun x hx' => hg x (List.mem_cons_of_mem _ hx')) (fun x y h3 h4 => hx x y (List.mem_cons_of_mem _ h3) (List.mem_cons_of_mem _ h4)), ?_⟩
    intro a ha b hb e
    subst e
    obtain ⟨c', hc', hm⟩ := List.mem_flatMap.mp hb
    exact hx c c' List.mem_cons_self (List.mem_cons_of_mem _ hc') (fun z => h1 (z ▸ hc')) a ha hm
section
variable {ns : List Nd} {n m : Nat} {l : List Nat}
theorem Ch.same_len (h : Ch ns m l) : ∀ {a b : Nat} {la lb : List Nat}, a ∈ l → b ∈ l → Ch ns a la → Ch ns b lb → la.length = lb.length → a = b := by
  induction h with
  | top h =>
    intro a b la lb ha hb _ _ _
    rw [List.mem_singleton] at ha hb
    rw [ha, hb]
  | @step n p l h c ih =>
    intro a b la lb ha hb ca cb e
    have hN : ∀ {x : Nat} {lx : List Nat}, x ∈ l → Ch ns x lx → lx.length ≤ l.length := fun hx cx => by
      obtain ⟨l', c', hl, _⟩ := c.sub hx
      rw [cx.uniq c']
      exact hl
    rcases List.mem_cons.mp ha with za | za <;> rcases List.mem_cons.mp hb with zb | zb
    · rw [za, zb]
    · subst za
      have h1 := ca.uniq (.step h c)
      have h2 := hN zb cb
      rw [h1, List.length_cons] at e
      omega
    · subst zb
      have h1 := cb.uniq (.step h c)
      have h2 := hN za ca
      rw [h1, List.length_cons] at e
      omega
    · exact ih za zb ca cb e
theorem Ok.below_mem (o : Ok ns) : ∀ (j n m : Nat), n < ns.length → m ∈ belowF j ns n → m < ns.length ∧ ∃ l, Ch ns m l ∧ n ∈ l
  | 0, _, _, _, h => nomatch h
  | j + 1, n, m, hn, h => by
    unfold belowF at h
    rcases List.mem_cons.mp h with e | h
    · subst e
      obtain ⟨l, c⟩ := o.ch m hn
      exact ⟨hn, l, c, c.self⟩
    · obtain ⟨c, hc, hm⟩ := List.mem_flatMap.mp h
      obtain ⟨h1, h2⟩ := o.kup n c hn hc
      obtain ⟨h3, l, cl, hcl⟩ := Ok.below_mem o j c m h1 hm
      obtain ⟨l', c', _, hs⟩ := cl.sub hcl
      obtain ⟨ln, cn⟩ := o.ch n hn
      have e := c'.uniq (.step h2 cn)
      exact ⟨h3, l, cl, hs n (by rw [e]; exact List.mem_cons_of_mem _ cn.self)⟩
theorem Ok.below_nodup (o : Ok ns) : ∀ (j n : Nat), n < ns.length → (belowF j ns n).Nodup
  | 0, _, _ => List.nodup_nil
  | j + 1, n, hn => by
    unfold belowF
    obtain ⟨ln, cn⟩ := o.ch n hn
    refine List.nodup_cons.mpr ⟨fun h => ?_, nodup_flat _ (o.nod n hn) (fun c hc => Ok.below_nodup o j c (o.kup n c hn hc).1) fun c c' hc hc' hne m hm hm' => ?_⟩
    · obtain ⟨c, hc, hm⟩ := List.mem_flatMap.mp h
      obtain ⟨h1, h2⟩ := o.kup n c hn hc
      obtain ⟨_, l, cl, hcl⟩ := o.below_mem j c n h1 hm
      obtain ⟨l', c', hlen, _⟩ := cl.sub hcl
      rw [c'.uniq (.step h2 cn), cl.uniq cn, List.length_cons] at hlen
      omega
    · obtain ⟨h1, h2⟩ := o.kup n c hn hc
      obtain ⟨h1', h2'⟩ := o.kup n c' hn hc'
      obtain ⟨_, l, cl, hcl⟩ := o.below_mem j c m h1 hm
      obtain ⟨_, l', cl', hcl'⟩ := o.below_mem j c' m h1' hm'
      rw [← cl.uniq cl'] at hcl'
      exact hne (cl.same_len hcl hcl' (.step h2 cn) (.step h2' cn) rfl)
theorem Ok.below_len (o : Ok ns) (j : Nat) (hn : n < ns.length) : (belowF j ns n).length ≤ ns.length := nodup_le _ _ (o.below_nodup j n hn) fun x hx => (o.below_mem j n x hn hx).1
end
end LM
end
section
set_option Elab.async false
set_option linter.all false
namespace LM
open PySem DL
/-! ### shapes as trees -/
inductive Sh
  | t (n : Nat) (s : Str)
  | e (n : Nat) (nm : Str) (ms : List (Str × Str)) (ks : List Sh)
def mpairD (p : Str × Str) : PyData := .tuple [.str p.1, .str p.2]
def pairsD (ms : List (Str × Str)) : PyData := .tuple (ms.map mpairD)
namespace Sh
def num : Sh → Nat
  | t n _ => n
  | e n _ _ _ => n
def kids : Sh → List Sh
  | t _ _ => []
  | e _ _ _ ks => ks
def isE : Sh → Bool
  | t _ _ => false
  | e _ _ _ _ => true
def tag (s : Sh) : Str := if s.isE then "e" else "t"
mutual
def toD : Sh → PyData
  | t n s => .tuple [.str "t", ofN n, .str s]
  | e n nm ms ks => .tuple [.str "e", ofN n, .str nm, pairsD ms, .tuple (toDs ks)]
def toDs : List Sh → List PyData
  | [] => []
  | k :: ks => toD k :: toDs ks
end
theorem toDs_eq : ∀ ks : List Sh, toDs ks = ks.map toD
  | [] => rfl
  | k :: ks => by rw [toDs, toDs_eq ks]; rfl
theorem toD_e {n : Nat} {nm : Str} {ms : List (Str × Str)} {ks : List Sh} : toD (e n nm ms ks) = .tuple [.str "e", ofN n, .str nm, pairsD ms, .tuple (ks.map toD)] := by rw [toD, toDs_eq]
theorem toD_t {n : Nat} {s : Str} : toD (t n s) = .tuple [.str "t", ofN n, .str s] := by rw [toD]
mutual
def pre : Sh → List Sh
  | t n s => [t n s]
  | e n nm ms ks => e n nm ms ks :: pres ks
def pres : List Sh → List Sh
  | [] => []
  | k :: ks => pre k ++ pres ks
end
theorem pres_eq : ∀ ks : List Sh, pres ks = ks.flatMap pre
  | [] => rfl
  | k :: ks => by rw [pres, pres_eq ks]; rfl
theorem pre_eq (s : Sh) : pre s = s :: s.kids.flatMap pre := by
  cases s with
  | t n x => rw [pre]; rfl
  | e n nm ms ks => rw [pre, pres_eq]; rfl
theorem pre_self (s : Sh) : s ∈ pre s := by rw [pre_eq]; exact List.mem_cons_self
/-- induction over the children -/
theorem ind {P : Sh → Prop} (ht : ∀ n s, P (t n s)) (he : ∀ n nm ms ks, (∀ k ∈ ks, P k) → P (e n nm ms ks)) : ∀ s, P s := fun s => by
  refine Sh.rec (motive_1 := P) (motive_2 := fun ks => ∀ k ∈ ks, P k) ht he (fun k h => nomatch h) (fun k ks h1 h2 x hx => ?_) s
  rcases List.mem_cons.mp hx with rfl | hx
  · exact h1
  · exact h2 x hx
theorem indk {P : Sh → Prop} (h : ∀ s, (∀ k ∈ s.kids, P k) → P s) : ∀ s, P s := ind (fun n s => h _ fun k hk => nomatch hk) (fun n nm ms ks hk => h _ hk)
def nums (s : Sh) : List Nat := s.pre.map num
/-- each number once -/
def Uni (s : Sh) : Prop := s.nums.Nodup
theorem pre_trans : ∀ s : Sh, ∀ p ∈ s.pre, ∀ q ∈ p.pre, q ∈ s.pre := indk fun s ih p hp q hq => by
  rw [pre_eq] at hp ⊢
  rcases List.mem_cons.mp hp with rfl | hp
  · rw [pre_eq] at hq; exact hq
  · obtain ⟨k, hk, hp⟩ := List.mem_flatMap.mp hp
    exact List.mem_cons_of_mem _ (List.mem_flatMap.mpr ⟨k, hk, ih k hk p hp q hq⟩)
theorem kid_pre {s k : Sh} (h : k ∈ s.kids) : k ∈ s.pre := by
  rw [pre_eq]
  exact List.mem_cons_of_mem _ (List.mem_flatMap.mpr ⟨k, h, pre_self k⟩)
theorem kid_sub {s k : Sh} (h : k ∈ s.kids) : k.pre.Sublist s.pre := by
  rw [pre_eq s]
  refine List.Sublist.cons _ ?_
  obtain ⟨a, b, e⟩ := List.append_of_mem h
  rw [e, List.flatMap_append, List.flatMap_cons]
  exact List.Sublist.trans (List.sublist_append_left _ _) (List.sublist_append_right _ _)
theorem Uni.kid {s k : Sh} (u : Uni s) (h : k ∈ s.kids) : Uni k := u.sublist ((kid_sub h).map _)
theorem Uni.part : ∀ {s : Sh}, Uni s → ∀ p ∈ s.pre, Uni p := fun {s} => (indk (P := fun s => Uni s → ∀ p ∈ s.pre, Uni p) fun s ih u p hp => by
  rw [pre_eq] at hp
  rcases List.mem_cons.mp hp with rfl | hp
  · exact u
  · obtain ⟨k, hk, hp⟩ := List.mem_flatMap.mp hp
    exact ih k hk (u.kid hk) p hp) s
theorem Uni.eq {s p q : Sh} (u : Uni s) (hp : p ∈ s.pre) (hq : q ∈ s.pre) (e : p.num = q.num) : p = q := by
  obtain ⟨i, hi, e1⟩ := List.getElem_of_mem hp
  obtain ⟨j, hj, e2⟩ := List.getElem_of_mem hq
  have z := (List.getElem_inj (xs := s.nums) (i := i) (j := j) (h₀ := by unfold nums; rw [List.length_map]; exact hi) (h₁ := by unfold nums; rw [List.length_map]; exact hj) u).mp (by
    unfold nums
    rw [List.getElem_map, List.getElem_map, e1, e2, e])
  subst z
  exact e1.symm.trans e2
mutual
def dep : Sh → Nat
  | t _ _ => 1
  | e _ _ _ ks => deps ks + 1
def deps : List Sh → Nat
  | [] => 0
  | k :: ks => max (dep k) (deps ks)
end
theorem dep_pos : ∀ s : Sh, 0 < dep s
  | t _ _ => by rw [dep]; omega
  | e _ _ _ ks => by rw [dep]; omega
theorem deps_kid : ∀ {ks : List Sh} {k : Sh}, k ∈ ks → dep k ≤ deps ks
  | x :: ks, k, h => by
    rw [deps]
    rcases List.mem_cons.mp h with rfl | h
    · omega
    · have := deps_kid h
      omega
theorem dep_kid {s k : Sh} (h : k ∈ s.kids) : dep k < dep s := by
  cases s with
  | t _ _ => cases h
  | e n nm ms ks => rw [dep]; have := deps_kid h; exact Nat.lt_succ_of_le this
theorem deps_le : ∀ {ks : List Sh} {m : Nat}, (∀ k ∈ ks, dep k ≤ m) → deps ks ≤ m
  | [], _, _ => Nat.zero_le _
  | x :: ks, m, h => by
    rw [deps]
    have h1 := h x List.mem_cons_self
    have h2 := deps_le (ks := ks) (m := m) fun k hk => h k (List.mem_cons_of_mem _ hk)
    omega
def size (s : Sh) : Nat := s.pre.length
theorem size_pos (s : Sh) : 0 < size s := by unfold size; rw [pre_eq]; exact Nat.succ_pos _
/-- bounds that all of ours keep -/
def msB (s : Sh) : Bool := match s with
  | t _ x => decide (x.length ≤ 1000)
  | e _ nm ms _ => decide (nm.length ≤ 1000) && decide (ms.length ≤ 1000) && ms.all fun p => decide (p.1.length ≤ 1000) && decide (p.2.length ≤ 1000)
structure Fit (s : Sh) : Prop where
  uni : Uni s
  size : s.size ≤ 1000
  dep : s.dep ≤ 60
  ms : ∀ p ∈ s.pre, p.msB = true
theorem dep_pre : ∀ s : Sh, ∀ p ∈ s.pre, p.dep ≤ s.dep := indk fun s ih p hp => by
  rw [pre_eq] at hp
  rcases List.mem_cons.mp hp with rfl | hp
  · exact Nat.le_refl _
  · obtain ⟨k, hk, hp⟩ := List.mem_flatMap.mp hp
    have h1 := ih k hk p hp
    have h2 := dep_kid hk
    omega
theorem sub_pre : ∀ s : Sh, ∀ p ∈ s.pre, p.pre.Sublist s.pre := indk fun s ih p hp => by
  have hp' := hp
  rw [pre_eq] at hp
  rcases List.mem_cons.mp hp with rfl | hp
  · exact List.Sublist.refl _
  · obtain ⟨k, hk, hp⟩ := List.mem_flatMap.mp hp
    exact (ih k hk p hp).trans (kid_sub hk)
theorem Fit.part {s p : Sh} (f : Fit s) (hp : p ∈ s.pre) : Fit p :=
  ⟨f.uni.part p hp, Nat.le_trans (sub_pre s p hp).length_le f.size, Nat.le_trans (dep_pre s p hp) f.dep, fun q hq => f.ms q (pre_trans s p hp q hq)⟩
theorem kids_le (s : Sh) : s.kids.length ≤ s.size := by
  have h : ∀ ks : List Sh, ks.length ≤ (ks.flatMap pre).length := fun ks => by
    induction ks with
    | nil => exact Nat.le_refl _
    | cons k ks ih =>
      rw [List.flatMap_cons, List.length_append, List.length_cons]
      have := size_pos k
      unfold size at this
      omega
  unfold size
  rw [pre_eq, List.length_cons]
  exact Nat.le_succ_of_le (h s.kids)
theorem Fit.kid {s k : Sh} (f : Fit s) (h : k ∈ s.kids) : Fit k := f.part (kid_pre h)
theorem Fit.kl {s : Sh} (f : Fit s) : s.kids.length ≤ 1000 := Nat.le_trans (kids_le s) f.size
theorem kids_nums_nodup {s : Sh} (u : Uni s) : (s.kids.map num).Nodup := by
  have h : ∀ ks : List Sh, (ks.map num).Sublist ((ks.flatMap pre).map num) := fun ks => by
    induction ks with
    | nil => exact List.Sublist.refl _
    | cons k ks ih =>
      rw [List.flatMap_cons, List.map_append, List.map_cons, pre_eq k, List.map_cons, List.cons_append]
      exact List.Sublist.cons_cons _ (ih.trans (List.sublist_append_right _ _))
  unfold Uni nums at u
  rw [pre_eq, List.map_cons] at u
  exact (List.nodup_cons.mp u).2.sublist (h s.kids)
end Sh
/-! ### finding -/
namespace Sh
def findS (s : Sh) (n : Nat) : Option Sh := s.pre.find? fun p => decide (p.num = n)
theorem findS_some {s p : Sh} {n : Nat} (h : s.findS n = some p) : p ∈ s.pre ∧ p.num = n := ⟨List.mem_of_find?_eq_some h, by simpa using List.find?_some h⟩
theorem Uni.find {s p : Sh} (u : Uni s) (hp : p ∈ s.pre) : s.findS p.num = some p := by
  cases h : s.findS p.num with
  | none =>
    have := List.find?_eq_none.mp h p hp
    simp at this
  | some q =>
    obtain ⟨h1, h2⟩ := findS_some h
    rw [u.eq h1 hp h2]
end Sh
/-! ### the shapes of a document -/
def pairsOf (f : Str → Option Str) : List (Str × Str) := KS.filterMap fun k => (f k).map fun v => (k, v)
theorem marksD_eq (f : Str → Option Str) : marksD f = pairsD (pairsOf f) := rfl
def shF : Nat → List Nd → Nat → Sh
  | 0, _, _ => .t 0 ""
  | j + 1, ns, n => if (nd ns n).txt then .t n (nd ns n).name else .e n (nd ns n).name (pairsOf (nd ns n).marks) ((nd ns n).kids.map (shF j ns))
theorem shF_D {ns : List Nd} : ∀ {j n : Nat}, Ht ns j n → (shF j ns n).toD = shapeF j ns n
  | 0, _, h => h.elim
  | j + 1, n, h => by
    unfold shF shapeF
    split
    · rw [Sh.toD_t]
    · rw [Sh.toD_e, marksD_eq]
      have z : ((nd ns n).kids.map (shF j ns)).map Sh.toD = (nd ns n).kids.map (shapeF j ns) := by
        rw [List.map_map]
        exact List.map_congr_left fun c hc => shF_D (h.2 c hc)
      rw [z]
theorem shF_num {ns : List Nd} {j n : Nat} (h : Ht ns j n) : (shF j ns n).num = n := by
  cases j with
  | zero => exact h.elim
  | succ j => unfold shF; split <;> rfl
def sh (ns : List Nd) (n : Nat) : Sh := shF 60 ns n
end LM
end
section
set_option Elab.async false
set_option linter.all false
namespace LM
open PySem DL
/-! ### a document's shapes fit -/
section
variable {ns : List Nd}
theorem pre_shF (o : Ok ns) : ∀ (j n : Nat), Ht ns j n → ∀ p ∈ (shF j ns n).pre, ∃ i, Ht ns i p.num ∧ p = shF i ns p.num ∧ ∃ l, Ch ns p.num l ∧ n ∈ l
  | 0, _, h, _, _ => h.elim
  | j + 1, n, h, p, hp => by
    obtain ⟨l, c⟩ := o.ch n h.1
    rw [Sh.pre_eq] at hp
    rcases List.mem_cons.mp hp with rfl | hp
    · rw [shF_num h]
      exact ⟨j + 1, h, rfl, l, c, c.self⟩
    · obtain ⟨k, hk, hp⟩ := List.mem_flatMap.mp hp
      have hks : (shF (j + 1) ns n).kids = if (nd ns n).txt then [] else (nd ns n).kids.map (shF j ns) := by unfold shF; split <;> rfl
      rw [hks] at hk
      split at hk
      · cases hk
      · obtain ⟨m, hm, rfl⟩ := List.mem_map.mp hk
        obtain ⟨i, h1, h2, l1, c1, hl1⟩ := pre_shF o j m (h.2 m hm) p hp
        refine ⟨i, h1, h2, l1, c1, ?_⟩
        obtain ⟨l2, c2, _, hs⟩ := c1.sub hl1
        have e := c2.uniq (.step (o.kup n m h.1 hm).2 c)
        exact hs n (by rw [e]; exact List.mem_cons_of_mem _ c.self)
theorem nums_shF (o : Ok ns) : ∀ (j n : Nat), Ht ns j n → (shF j ns n).nums.Nodup
  | 0, _, h => h.elim
  | j + 1, n, h => by
    have hks : (shF (j + 1) ns n).kids = if (nd ns n).txt then [] else (nd ns n).kids.map (shF j ns) := by unfold shF; split <;> rfl
    unfold Sh.nums
    rw [Sh.pre_eq, List.map_cons, shF_num h, hks]
    split
    · exact List.nodup_cons.mpr ⟨(fun z => nomatch z), List.nodup_nil⟩
    · have e : (((nd ns n).kids.map (shF j ns)).flatMap Sh.pre).map Sh.num = (nd ns n).kids.flatMap fun c => (shF j ns c).nums := by
        rw [List.flatMap_map, List.map_flatMap]
        rfl
      rw [e]
      obtain ⟨ln, cn⟩ := o.ch n h.1
      have mem : ∀ c ∈ (nd ns n).kids, ∀ m ∈ (shF j ns c).nums, ∃ l, Ch ns m l ∧ c ∈ l := fun c hc m hm => by
        obtain ⟨p, hp, rfl⟩ := List.mem_map.mp hm
        obtain ⟨_, _, _, l, cl, hl⟩ := pre_shF o j c (h.2 c hc) p hp
        exact ⟨l, cl, hl⟩
      refine List.nodup_cons.mpr ⟨fun z => ?_, nodup_flat _ (o.nod n h.1) (fun c hc => nums_shF o j c (h.2 c hc)) fun c c' hc hc' hne m hm hm' => ?_⟩
      · obtain ⟨c, hc, hm⟩ := List.mem_flatMap.mp z
        obtain ⟨l, cl, hcl⟩ := mem c hc n hm
        obtain ⟨l', c', hlen, _⟩ := cl.sub hcl
        rw [c'.uniq (.step (o.kup n c h.1 hc).2 cn), cl.uniq cn, List.length_cons] at hlen
        omega
      · obtain ⟨l, cl, hcl⟩ := mem c hc m hm
        obtain ⟨l', cl', hcl'⟩ := mem c' hc' m hm'
        rw [← cl.uniq cl'] at hcl'
        exact hne (cl.same_len hcl hcl' (.step (o.kup n c h.1 hc).2 cn) (.step (o.kup n c' h.1 hc').2 cn) rfl)
theorem dep_shF : ∀ (j n : Nat), Ht ns j n → (shF j ns n).dep ≤ j
  | 0, _, h => h.elim
  | j + 1, n, h => by
    unfold shF
    split
    · rw [Sh.dep]; omega
    · rw [Sh.dep]
      have z := Sh.deps_le (ks := (nd ns n).kids.map (shF j ns)) (m := j) fun k hk => by
        obtain ⟨m, hm, rfl⟩ := List.mem_map.mp hk
        exact dep_shF j m (h.2 m hm)
      omega
theorem size_shF (o : Ok ns) {j n : Nat} (h : Ht ns j n) : (shF j ns n).size ≤ 60 := by
  have e := nums_shF o j n h
  have z := nodup_le ns.length _ e fun x hx => by
    obtain ⟨p, hp, rfl⟩ := List.mem_map.mp hx
    obtain ⟨i, hi, _⟩ := pre_shF o j n h p hp
    exact hi.lt
  unfold Sh.nums at z
  rw [List.length_map] at z
  exact Nat.le_trans z o.len
/-- names, texts and marks are short -/
def Shorts (ns : List Nd) : Prop := ∀ n, (nd ns n).name.length ≤ 1000 ∧ ∀ k v, (nd ns n).marks k = some v → v.length ≤ 1000
theorem pairsOf_len (f : Str → Option Str) : (pairsOf f).length ≤ 3 := Nat.le_trans (List.length_filterMap_le _ _) (by decide)
theorem pairsOf_mem {f : Str → Option Str} {p : Str × Str} (h : p ∈ pairsOf f) : p.1 ∈ KS ∧ f p.1 = some p.2 := by
  obtain ⟨k, hk, e⟩ := List.mem_filterMap.mp h
  cases z : f k with
  | none => rw [z] at e; cases e
  | some v => rw [z] at e; cases e; exact ⟨hk, z⟩
theorem KS_len {k : Str} (h : k ∈ KS) : k.length ≤ 1000 := by
  unfold KS at h
  simp only [List.mem_cons, List.mem_nil_iff, or_false] at h
  rcases h with rfl | rfl | rfl <;> decide
theorem msB_shF (s : Shorts ns) {j n : Nat} (h : Ht ns j n) : (shF j ns n).msB = true := by
  cases j with
  | zero => exact h.elim
  | succ j =>
    obtain ⟨h1, h2⟩ := s n
    unfold shF
    split
    · exact decide_eq_true h1
    · have z : ((pairsOf (nd ns n).marks).all fun p => decide (p.1.length ≤ 1000) && decide (p.2.length ≤ 1000)) = true := List.all_eq_true.mpr fun p hp => by
        obtain ⟨a, b⟩ := pairsOf_mem hp
        rw [decide_eq_true (KS_len a), decide_eq_true (h2 _ _ b)]; rfl
      show (decide (_ ≤ 1000) && decide (_ ≤ 1000) && _) = true
      rw [decide_eq_true h1, decide_eq_true (Nat.le_trans (pairsOf_len _) (by decide)), z]; rfl
theorem fit_shF (o : Ok ns) (s : Shorts ns) {j n : Nat} (h : Ht ns j n) (hj : j ≤ 60) : Sh.Fit (shF j ns n) :=
  ⟨nums_shF o j n h, Nat.le_trans (size_shF o h) (by decide), Nat.le_trans (dep_shF j n h) hj, fun p hp => by
    obtain ⟨i, hi, e, _⟩ := pre_shF o j n h p hp
    rw [e]
    exact msB_shF s hi⟩
theorem fit_sh (o : Ok ns) (s : Shorts ns) {n : Nat} (hn : n < ns.length) : Sh.Fit (sh ns n) := fit_shF o s (o.ht hn) (Nat.le_refl _)
theorem sh_D (o : Ok ns) {n : Nat} (hn : n < ns.length) : (sh ns n).toD = shape ns n := shF_D (o.ht hn)
end
/-! ### options and views -/
structure Op where
  scope : Str
  marks : Option (List Str)
  texts : Bool
def Op.toD (o : Op) : PyData := .tuple [.str o.scope, (match o.marks with | none => .none | some l => .tuple (l.map .str)), .bool o.texts]
def SC : List Str := ["own", "list", "all"]
structure Op.Good (o : Op) : Prop where
  sc : o.scope ∈ SC
  ml : ∀ l, o.marks = some l → l.length ≤ 1000
def Op.wants (o : Op) (k : Str) : Bool := match o.marks with
  | none => true
  | some l => decide (k ∈ l)
namespace Sh
def seen (o : Op) (s : Sh) (ks : List Sh) : Sh := match s with
  | t n x => t n (if o.texts then x else "")
  | e n nm ms _ => e n nm (ms.filter fun p => o.wants p.1) ks
def bare : Sh → Sh
  | t n _ => t n ""
  | e n nm _ _ => e n nm [] []
mutual
def viewA (o : Op) : Sh → Sh
  | t n x => seen o (t n x) []
  | e n nm ms ks => seen o (e n nm ms ks) (viewAs o ks)
def viewAs (o : Op) : List Sh → List Sh
  | [] => []
  | k :: ks => viewA o k :: viewAs o ks
end
theorem viewAs_eq {o : Op} : ∀ ks : List Sh, viewAs o ks = ks.map (viewA o)
  | [] => rfl
  | k :: ks => by rw [viewAs, viewAs_eq ks]; rfl
theorem viewA_eq {o : Op} (s : Sh) : viewA o s = seen o s (s.kids.map (viewA o)) := by
  cases s with
  | t n x => rw [viewA]; rfl
  | e n nm ms ks => rw [viewA, viewAs_eq]; rfl
def view (o : Op) (s : Sh) : Sh := if o.scope = "own" then seen o s [] else if o.scope = "list" then seen o s (s.kids.map bare) else viewA o s
theorem seen_num {o : Op} {s : Sh} {ks : List Sh} : (seen o s ks).num = s.num := by cases s <;> rfl
theorem bare_num {s : Sh} : (bare s).num = s.num := by cases s <;> rfl
theorem viewA_num {o : Op} {s : Sh} : (viewA o s).num = s.num := by rw [viewA_eq, seen_num]
theorem seen_kids {o : Op} {s : Sh} {ks : List Sh} : (seen o s ks).kids = if s.isE then ks else [] := by cases s <;> rfl
theorem viewA_kids {o : Op} {s : Sh} : (viewA o s).kids = s.kids.map (viewA o) := by
  rw [viewA_eq, seen_kids]
  cases s <;> rfl
theorem seen_isE {o : Op} {s : Sh} {ks : List Sh} : (seen o s ks).isE = s.isE := by cases s <;> rfl
theorem viewA_isE {o : Op} {s : Sh} : (viewA o s).isE = s.isE := by rw [viewA_eq, seen_isE]
theorem pre_viewA {o : Op} : ∀ s : Sh, (viewA o s).pre = s.pre.map (viewA o) := indk fun s ih => by
  rw [pre_eq, pre_eq s, List.map_cons, viewA_kids, List.flatMap_map, List.map_flatMap]
  congr 1
  have h : ∀ ks : List Sh, (∀ k ∈ ks, (viewA o k).pre = k.pre.map (viewA o)) → (ks.flatMap fun k => (viewA o k).pre) = ks.flatMap fun k => k.pre.map (viewA o) := fun ks => by
    induction ks with
    | nil => intro _; rfl
    | cons k ks ih2 =>
      intro h
      rw [List.flatMap_cons, List.flatMap_cons, h k List.mem_cons_self, ih2 fun x hx => h x (List.mem_cons_of_mem _ hx)]
  exact h _ ih
theorem find_viewA {o : Op} {s : Sh} {n : Nat} : (viewA o s).findS n = (s.findS n).map (viewA o) := by
  unfold findS
  rw [pre_viewA, List.find?_map]
  congr 1
  congr 1
  funext p
  show decide ((viewA o p).num = n) = _
  rw [viewA_num]
/-- at least as wide -/
def rank (x : Str) : Nat := SC.idxOf x
def wider (a b : Op) : Bool := decide (rank b.scope ≤ rank a.scope) && (!b.texts || a.texts) && (match b.marks with | none => a.marks.isNone | some l => l.all a.wants)
end Sh
theorem wider_wants {a b : Op} (h : Sh.wider a b = true) (k : Str) (hk : b.wants k = true) : a.wants k = true := by
  unfold Sh.wider at h
  simp only [Bool.and_eq_true] at h
  obtain ⟨_, h⟩ := h
  unfold Op.wants at hk ⊢
  cases hb : b.marks with
  | none =>
    rw [hb] at h
    cases ha : a.marks with
    | none => rfl
    | some l => rw [ha] at h; cases h
  | some l =>
    rw [hb] at h hk
    have z := List.all_eq_true.mp h k (of_decide_eq_true hk)
    unfold Op.wants at z
    exact z
namespace Sh
theorem seen_seen {a b : Op} (h : wider a b = true) {s : Sh} {ks ls : List Sh} : seen b (seen a s ks) ls = seen b s ls := by
  cases s with
  | t n x =>
    show t n (if b.texts then (if a.texts then x else "") else "") = t n (if b.texts then x else "")
    have z : b.texts = true → a.texts = true := fun hb => by
      unfold wider at h
      simp only [Bool.and_eq_true] at h
      have := h.1.2
      rw [hb] at this
      exact this
    by_cases hb : b.texts = true
    · rw [if_pos hb, if_pos hb, if_pos (z hb)]
    · rw [if_neg hb, if_neg hb]
  | e n nm ms _ =>
    show e n nm ((ms.filter fun p => a.wants p.1).filter fun p => b.wants p.1) ls = e n nm (ms.filter fun p => b.wants p.1) ls
    rw [List.filter_filter]
    congr 1
    refine List.filter_congr fun p _ => ?_
    cases hb : b.wants p.1 with
    | false => rfl
    | true => rw [wider_wants h p.1 hb]; rfl
theorem bare_seen {a : Op} {s : Sh} {ks : List Sh} : bare (seen a s ks) = bare s := by cases s <;> rfl
theorem bare_bare {s : Sh} : bare (bare s) = bare s := by cases s <;> rfl
theorem seen_t {b : Op} {s : Sh} {ks ls : List Sh} (h : s.isE = false) : seen b s ks = seen b s ls := by
  cases s with
  | t _ _ => rfl
  | e _ _ _ _ => cases h
theorem viewA_viewA {a b : Op} (h : wider a b = true) : ∀ s : Sh, viewA b (viewA a s) = viewA b s := indk fun s ih => by
  rw [viewA_eq (viewA a s), viewA_eq (o := b) s, viewA_kids, List.map_map]
  have z : s.kids.map (viewA b ∘ viewA a) = s.kids.map (viewA b) := List.map_congr_left ih
  rw [z, viewA_eq (o := a) s, seen_seen h]
theorem wider_scope {a b : Op} (h : wider a b = true) : rank b.scope ≤ rank a.scope := by
  unfold wider at h
  simp only [Bool.and_eq_true] at h
  exact of_decide_eq_true h.1.1
theorem scope_cases {o : Op} (g : o.Good) : o.scope = "own" ∨ o.scope = "list" ∨ o.scope = "all" := by
  have h := g.sc
  unfold SC at h
  simpa using h
theorem view_view {a b : Op} (ga : a.Good) (gb : b.Good) (h : wider a b = true) (s : Sh) : view b (view a s) = view b s := by
  have hr := wider_scope h
  have mb : ∀ {ks : List Sh}, (seen a s ks).kids.map bare = (if s.isE then ks else []).map bare := fun {ks} => by rw [seen_kids]
  rcases scope_cases gb with e | e | e
  · have vb : ∀ x, view b x = seen b x [] := fun x => by unfold view; rw [if_pos e]
    rw [vb, vb]
    rcases scope_cases ga with e2 | e2 | e2
    · have : view a s = seen a s [] := by unfold view; rw [if_pos e2]
      rw [this, seen_seen h]
    · have : view a s = seen a s (s.kids.map bare) := by unfold view; rw [e2]; rfl
      rw [this, seen_seen h]
    · have : view a s = viewA a s := by unfold view; rw [e2]; rfl
      rw [this, viewA_eq, seen_seen h]
  · have vb : ∀ x, view b x = seen b x (x.kids.map bare) := fun x => by unfold view; rw [e]; rfl
    rw [vb, vb]
    rcases scope_cases ga with e2 | e2 | e2
    · rw [e, e2] at hr; exact absurd hr (by decide)
    · have : view a s = seen a s (s.kids.map bare) := by unfold view; rw [e2]; rfl
      rw [this, seen_seen h, mb]
      cases s with
      | t _ _ => rfl
      | e n nm ms ks =>
        show seen b _ ((ks.map bare).map bare) = seen b _ (ks.map bare)
        rw [List.map_map]
        congr 1
        exact List.map_congr_left fun k _ => bare_bare
    · have : view a s = viewA a s := by unfold view; rw [e2]; rfl
      rw [this, viewA_kids, viewA_eq, seen_seen h, List.map_map]
      congr 1
      exact List.map_congr_left fun k _ => by show bare (viewA a k) = _; rw [viewA_eq, bare_seen]
  · have vb : ∀ x, view b x = viewA b x := fun x => by unfold view; rw [e]; rfl
    rw [vb, vb]
    rcases scope_cases ga with e2 | e2 | e2
    · rw [e, e2] at hr; exact absurd hr (by decide)
    · rw [e, e2] at hr; exact absurd hr (by decide)
    · have : view a s = viewA a s := by unfold view; rw [e2]; rfl
      rw [this, viewA_viewA h]
theorem wider_self (o : Op) : wider o o = true := by
  unfold wider
  rw [decide_eq_true (Nat.le_refl _)]
  cases ht : o.texts <;> cases hm : o.marks
  · rfl
  · rename_i l
    show (l.all o.wants) = true
    refine List.all_eq_true.mpr fun k hk => ?_
    unfold Op.wants; rw [hm]; exact decide_eq_true hk
  · rfl
  · rename_i l
    show (l.all o.wants) = true
    refine List.all_eq_true.mpr fun k hk => ?_
    unfold Op.wants; rw [hm]; exact decide_eq_true hk
def full : Op := ⟨"all", none, true⟩
theorem full_good : full.Good := ⟨by decide, fun _ h => nomatch h⟩
theorem wider_full {o : Op} (g : o.Good) : wider full o = true := by
  unfold wider
  have h : rank o.scope ≤ rank full.scope := by rcases scope_cases g with e | e | e <;> rw [e] <;> decide
  rw [decide_eq_true h]
  cases hm : o.marks with
  | none => cases o.texts <;> rfl
  | some l =>
    have z : l.all full.wants = true := List.all_eq_true.mpr fun _ _ => rfl
    show (true && (!o.texts || true) && l.all full.wants) = true
    rw [z]; cases o.texts <;> rfl
theorem view_full : ∀ s : Sh, view full s = s := fun s => by
  have : ∀ s : Sh, viewA full s = s := indk fun s ih => by
    rw [viewA_eq]
    have z : s.kids.map (viewA full) = s.kids := by
      conv => rhs; rw [← List.map_id s.kids]
      exact List.map_congr_left ih
    rw [z]
    cases s with
    | t _ _ => rfl
    | e n nm ms ks =>
      show e n nm (ms.filter fun _ => true) ks = _
      rw [List.filter_eq_self.mpr fun _ _ => rfl]
  exact this s
end Sh
end LM
end
section
set_option Elab.async false
set_option linter.all false
set_option maxRecDepth 100000
set_option maxHeartbeats 4000000
namespace LW
open PySem PySem.Spec PyProof.Rows L2 DL LM
section
variable {P : Program} {W : World} {K : PySem.W.Frag} {mg : Str → Option Value} {base : Heap} {f : Addr} {fd : FuncData} {A A2 H H' H0 H1 H2 G G2 Hc : Hp} {σ : L2.St} {t te td tn tv t1 t2 : TE} {tr : TS} {ts : TS} {D : Ends} {tA : TA} {n i j : Nat} {p b : Addr} {xs ys : List V} {v : V} {d : PyData} {ds es : List PyData} {kvs : List (Key × V)}
/-! ### parts of a shape's data -/
theorem tagE (s : Sh) : decide (s.tag = "e") = s.isE := by unfold Sh.tag; cases s.isE <;> decide
theorem tagT (s : Sh) : decide (s.tag = "t") = !s.isE := by unfold Sh.tag; cases s.isE <;> decide
theorem gd_tag {s : Sh} (g : GD K t σ H A s.toD) : GD K (tOp (rIx K) t (tC (.int 0))) σ H A (.str s.tag) := by
  cases s with
  | t m x => rw [Sh.toD_t] at g; exact gdo g (gd_int (i := 0)) (go_ixT rfl)
  | e m nm ms ks => rw [Sh.toD_e] at g; exact gdo g (gd_int (i := 0)) (go_ixT rfl)
theorem gd_num {s : Sh} (g : GD K t σ H A s.toD) : GD K (tOp (rIx K) t (tC (.int 1))) σ H A (ofN s.num) := by
  cases s with
  | t m x => rw [Sh.toD_t] at g; exact gdo g (gd_int (i := 1)) (go_ixT rfl)
  | e m nm ms ks => rw [Sh.toD_e] at g; exact gdo g (gd_int (i := 1)) (go_ixT rfl)
theorem gd_kids {s : Sh} (g : GD K t σ H A s.toD) (h : s.isE = true) : GD K (tOp (rIx K) t (tC (.int 4))) σ H A (.tuple (s.kids.map Sh.toD)) := by
  cases s with
  | t m x => cases h
  | e m nm ms ks => rw [Sh.toD_e] at g; exact gdo g (gd_int (i := 4)) (go_ixT rfl)
theorem gt_isE {s : Sh} (g : GD K t σ H A s.toD) : GT (tTest (tOp (rEqA K) (tOp (rIx K) t (tC (.int 0))) (tC (.str "e")))) σ H A s.isE := by
  have h := gt_test (gdo (gd_tag g) (gd_str (i := "e")) go_eqS)
  rw [tagE] at h
  exact h
theorem gt_isT {s : Sh} (g : GD K t σ H A s.toD) : GT (tTest (tOp (rEqA K) (tOp (rIx K) t (tC (.int 0))) (tC (.str "t")))) σ H A (!s.isE) := by
  have h := gt_test (gdo (gd_tag g) (gd_str (i := "t")) go_eqS)
  rw [tagT] at h
  exact h
theorem go_eqN {a b : Nat} : GO K (rEqA K) (ofN a) (ofN b) (.bool (decide (a = b))) := by
  have h := go_eqI (K := K) (x := (a : Int)) (y := (b : Int))
  have z : decide ((a : Int) = (b : Int)) = decide (a = b) := decide_eq_decide.mpr ⟨fun h => by omega, fun h => by omega⟩
  rw [z] at h
  exact h
def arH : Sh → List PyData := fun s => [s.toD]
end
end LW
end
section
set_option Elab.async false
set_option linter.all false
set_option maxRecDepth 100000
set_option maxHeartbeats 4000000
namespace LW
open PySem PySem.Spec PyProof.Rows L2 DL LM
section
variable {P : Program} {W : World} {K : PySem.W.Frag} {mg : Str → Option Value} {base : Heap} {f : Addr} {fd : FuncData} {A A2 H H' H0 H1 H2 G G2 Hc : Hp} {σ : L2.St} {t te td tn tv t1 t2 : TE} {tr : TS} {ts : TS} {D : Ends} {tA : TA} {n i j : Nat} {p b : Addr} {xs ys : List V} {v : V} {d : PyData} {ds es : List PyData} {kvs : List (Key × V)}
def kidsT (s : Sh) : PyData := .tuple (s.kids.map Sh.toD)
abbrev schildren_of : Stmt := topS 8
theorem scchildren_of : FnScope ["shape"] ["shape"] (defScope schildren_of) := ⟨rfl, rfl, rfl, by decide +kernel, rfl, by decide +kernel, by decide +kernel⟩
theorem ok_children_of (F : Fun K "children_of" "children_of" schildren_of f fd) : FnOk P W K mg base CX0 1 f fd ["shape"] (spA K 1 arH (fun _ => True) kidsT) := by
  refine fn_A F scchildren_of rfl fun cdv A outer s H1 E hr => ⟨_, (pss_one (ps_ret (pe_ifExp (pt_cmpR (op_eqA hr.units) (pe_ix ix_seq (pv 0) pe_int (fun _ _ => rfl)) pe_str (nomark _)) (pe_ix ix_seq (pv 0) pe_int (fun _ _ => rfl)) (RR.pe_tupF pa_nil)))), fun vs x H A hl sm dv hp => ?_⟩
  obtain ⟨v, rfl, d1⟩ := DvA.inv1 dv
  refine gb_ret (d := kidsT x) (gd_if (gt_isE (gd_var rfl d1)) (fun h => gd_kids (gd_var rfl d1) h) fun h => ?_) rfl
  have e : kidsT x = .tuple [] := by
    cases x with
    | t _ _ => rfl
    | e _ _ _ _ => cases h
  rw [e]
  exact gd_tup ga_nil
theorem flat_len (ls : List Sh) : ls.length ≤ (ls.flatMap Sh.pre).length := by
  induction ls with
  | nil => exact Nat.le_refl _
  | cons k ks ih =>
    rw [List.flatMap_cons, List.length_append, List.length_cons]
    have := Sh.size_pos k
    unfold Sh.size at this
    omega
def partsD (s : Sh) : PyData := .list (s.pre.map Sh.toD)
def preSz (s : Sh) : Prop := s.size ≤ 100000
abbrev sparts_of : Stmt := topS 9
theorem scparts_of : FnScope ["shape", "parts", "left", "part"] ["shape"] (defScope sparts_of) := ⟨rfl, rfl, rfl, by decide +kernel, rfl, by decide +kernel, by decide +kernel⟩
theorem ok_parts_of (F : Fun K "parts_of" "parts_of" sparts_of f fd) (cchildren_of : Cal P W K mg base 1 "children_of" (spA K 1 arH (fun _ => True) kidsT)) : FnOk P W K mg base CX0 2 f fd ["shape"] (spA K 1 arH preSz partsD) := by
  refine fn_A F scparts_of rfl fun cdv A outer s H1 E hr => ⟨_, (pss_cons (ps_set (i := 1) scparts_of.nd rfl (Or.inl rfl) (pe_lst pa_nil))
      (pss_cons (ps_set (i := 2) scparts_of.nd rfl (Or.inl rfl) (pe_lst (pa_cons (pv 0) pa_nil)))
      (pss_cons (ps_while PassesOwn.never (pt_tr (pv 2)) (pss_cons (ps_set (i := 3) scparts_of.nd rfl (Or.inl rfl) (pe_bm0 PySem.F.plainAttrs_list PySem.F.slot_list_pop PySem.F.type_list_pop mt_pop (pv 2)))
      (pss_cons (ps_expr (pe_bm PySem.F.plainAttrs_list PySem.F.slot_list_append PySem.F.type_list_append mt_append (pv 1) (pa_cons (pv 3) pa_nil)))
      (pss_one (ps_expr (pe_bm PySem.F.plainAttrs_list PySem.F.slot_list_extend PySem.F.type_list_extend RR.mt_extT (pv 2) (pa_cons (RR.pe_revT (pe_k cchildren_of hr (by omega) (pa_cons (pv 3) pa_nil))) pa_nil)))))))
      (pss_one (ps_ret (pv 1)))))), fun vs x H A hl sm dv hp => ?_⟩
  obtain ⟨v, rfl, d1⟩ := DvA.inv1 dv
  intro H0 H1 e D q
  have d1' := d1.to e.hg
  refine ⟨Nat.zero_le _, fun p hp0 => ?_⟩
  have w0 := Own.new (Pub.refl e.gh) hp0 (.lst [])
  refine ⟨v, rfl, by rw [sizeLine_eq]; show 1 ≤ _; decide, fun l hl0 => ?_⟩
  have w1 := Own.new w0.pub hl0 (.lst [v])
  have npl : p ≠ l := fun z => by subst z; rw [upd_same] at hl0; cases hl0
  have w0' := Own.stay w0 w1 npl
  refine ⟨fun m σ' H' => ∃ (ls ps : List Sh) (xs ys : List V) (x3 : Option V) (G' : Hp), σ' = [some v, some (.ref p), some (.ref l), x3] ∧ Own H0 H1 G' H' p (.lst xs) ∧ Own H0 H1 G' H' l (.lst ys) ∧ DvA K G' xs (ps.map Sh.toD) ∧ DvA K G' ys (ls.map Sh.toD) ∧ x.pre = ps ++ ls.reverse.flatMap Sh.pre ∧ m = (ls.reverse.flatMap Sh.pre).length,
    ⟨_, [x], [], [], [v], none, H0, rfl, w0', w1, .nil, .cons d1' .nil, by show x.pre = [] ++ (x.pre ++ []); rw [List.nil_append, List.append_nil], rfl⟩, ?_⟩
  rintro m σ' H' ⟨ls, ps, xs, ys, x3, G', rfl, wp, wl, dx, dy, hpre, rfl⟩
  have hsz : x.pre.length ≤ 100000 := hp
  rw [hpre, List.length_append] at hsz
  have hxl := DvA.len dx
  rw [List.length_map] at hxl
  have gt0 : ∀ {b : Bool}, (!ys.isEmpty) = b → GT (tTr K (tVar 2)) [some v, some (.ref p), some (.ref l), x3] G' H' b := fun h => h ▸ gt_own (K := K) (gv_var (i := 2) rfl) wl.at_
  rcases List.eq_nil_or_concat ls with rfl | ⟨ls, t, rfl⟩
  · cases dy
    refine (gt0 (b := false) rfl).to (.refl wl.gh) fun H5 p5 => iteF ?_
    have wp5 := wp.test p5.hh
    have wl5 := wl.test p5.hh
    rw [List.reverse_nil, List.flatMap_nil, List.append_nil] at hpre
    refine ⟨.ref p, rfl, q (partsD x) _ _ _ rfl wp5.open_ ?_⟩
    unfold partsD
    rw [hpre]
    exact Own.dv wp5 dx
  · rw [List.concat_eq_append] at *
    rw [List.map_append] at dy
    obtain ⟨us, u, rfl, dus, du⟩ := DvA.snoc dy
    refine (gt0 (b := true) (by simp)).to (.refl wl.gh) fun H5 p5 => iteT ?_
    have wp5 := wp.test p5.hh
    have wl5 := wl.test p5.hh
    have erev : (ls ++ [t]).reverse.flatMap Sh.pre = t.pre ++ ls.reverse.flatMap Sh.pre := by rw [List.reverse_append]; rfl
    have ekids : (ls ++ t.kids.reverse).reverse.flatMap Sh.pre = t.kids.flatMap Sh.pre ++ ls.reverse.flatMap Sh.pre := by rw [List.reverse_append, List.reverse_reverse, List.flatMap_append]
    rw [erev] at hpre hsz ⊢
    have et := Sh.pre_eq t
    have hul := DvA.len dus
    rw [List.length_map] at hul
    have hfl := flat_len ls.reverse
    rw [List.length_reverse] at hfl
    have hkl := flat_len t.kids
    rw [List.length_append, et, List.length_cons] at hsz
    refine ⟨fun σ' H' => ∃ (ls' ps : List Sh) (xs ys : List V) (x3 : Option V) (G' : Hp), σ' = [some v, some (.ref p), some (.ref l), x3] ∧ Own H0 H1 G' H' p (.lst xs) ∧ Own H0 H1 G' H' l (.lst ys) ∧ DvA K G' xs (ps.map Sh.toD) ∧ DvA K G' ys (ls'.map Sh.toD) ∧ x.pre = ps ++ ls'.reverse.flatMap Sh.pre ∧ (ls'.reverse.flatMap Sh.pre).length < (t.pre ++ ls.reverse.flatMap Sh.pre).length, fun σ' H' ⟨ls', ps, xs, ys, x3, G', h1, h2, h3, h4, h5, h6, h7⟩ => ⟨_, h7, ls', ps, xs, ys, x3, G', h1, h2, h3, h4, h5, h6, rfl⟩, ?_⟩
    refine s_pop (K := K) (i := 3) (j := 2) wl5 rfl fun H6 wl6 e6 => ?_
    subst e6
    have wp6 := Own.stay wp5 wl6 npl
    refine s_appendX (K := K) (j := 1) (d := t.toD) wp6 rfl (gd_var (i := 3) rfl du) (by rw [sizeLine_eq]; omega) fun v7 G7 H7 Hx P7 e7 wp7 dv7 => ?_
    subst e7
    have wl7 := Own.stay (wl6.step P7) wp7 (Ne.symm npl)
    have du7 := du.to P7.hg
    refine s_extT (K := K) (j := 2) (ds := (t.kids.map Sh.toD).reverse) wl7 rfl (gd_revT (gd_callA (K := K) (ar := arH) (f := kidsT) t (ga_cons (gd_var (i := 3) rfl du7) ga_nil) rfl trivial)) (by rw [List.length_reverse, List.length_map, sizeLine_eq]; omega) fun ws G8 H8 Hy P8 e8 wl8 dw8 => ?_
    subst e8
    have wp8 := Own.stay (wp7.step P8) wl8 npl
    refine ⟨ls ++ t.kids.reverse, ps ++ [t], _, _, _, G8, rfl, wp8, wl8, ?_, ?_, ?_, ?_⟩
    · rw [List.map_append]
      exact DvA.app ((dx.to P7.hg).to P8.hg) (.cons (dv7.to P8.hg) .nil)
    · rw [List.map_append, List.map_reverse]
      exact DvA.app ((dus.to P7.hg).to P8.hg) dw8
    · rw [hpre, ekids, et, List.append_assoc]; rfl
    · rw [ekids, et, List.cons_append, List.length_cons]
      exact Nat.lt_succ_self _
end
end LW
end
section
set_option Elab.async false
set_option linter.all false
set_option maxRecDepth 100000
set_option maxHeartbeats 4000000
namespace LM
open PySem DL
theorem find_hit {l : List Sh} {P : Sh → Bool} {i : Nat} {t : Sh} (h : ∀ j, j < i → ∀ p, l[j]? = some p → P p = false) (hi : l[i]? = some t) (ht : P t = true) : l.find? P = some t := by
  induction l generalizing i with
  | nil => cases hi
  | cons x l ih =>
    cases i with
    | zero =>
      cases hi
      rw [List.find?_cons, ht]
    | succ i =>
      have hx := h 0 (Nat.succ_pos _) x rfl
      rw [List.find?_cons, hx]
      exact ih (fun j hj p hp => h (j + 1) (Nat.succ_lt_succ hj) p hp) hi
theorem find_miss {l : List Sh} {P : Sh → Bool} (h : ∀ j, j < l.length → ∀ p, l[j]? = some p → P p = false) : l.find? P = none := by
  refine List.find?_eq_none.mpr fun x hx hp => ?_
  obtain ⟨j, hj, e⟩ := List.getElem_of_mem hx
  rw [h j hj x (by rw [List.getElem?_eq_getElem hj, e])] at hp
  cases hp
end LM
namespace LW
open PySem PySem.Spec PyProof.Rows L2 DL LM
section
variable {P : Program} {W : World} {K : PySem.W.Frag} {mg : Str → Option Value} {base : Heap} {f : Addr} {fd : FuncData} {A A2 H H' H0 H1 H2 G G2 Hc : Hp} {σ : L2.St} {t te td tn tv t1 t2 : TE} {tr : TS} {ts : TS} {D : Ends} {tA : TA} {n i j : Nat} {p b : Addr} {xs ys : List V} {v : V} {d : PyData} {ds es : List PyData} {kvs : List (Key × V)}
def optS : Option Sh → PyData
  | none => .none
  | some s => s.toD
def arF : Sh × Nat → List PyData := fun x => [x.1.toD, ofN x.2]
def numsD (s : Sh) : PyData := natsD s.nums
/-! ### options -/
def arV : Sh × Op → List PyData := fun x => [x.1.toD, x.2.toD]
def arW : Op × Str → List PyData := fun x => [x.1.toD, .str x.2]
def arO2 : Op × Op → List PyData := fun x => [x.1.toD, x.2.toD]
def marksO (o : Op) : PyData := match o.marks with | none => .none | some l => .tuple (l.map .str)
theorem gd_osc {o : Op} (g : GD K t σ H A o.toD) : GD K (tOp (rIx K) t (tC (.int 0))) σ H A (.str o.scope) := gdo g (gd_int (i := 0)) (go_ixT rfl)
theorem gd_omk {o : Op} (g : GD K t σ H A o.toD) : GD K (tOp (rIx K) t (tC (.int 1))) σ H A (marksO o) := gdo g (gd_int (i := 1)) (go_ixT rfl)
theorem gd_otx {o : Op} (g : GD K t σ H A o.toD) : GD K (tOp (rIx K) t (tC (.int 2))) σ H A (.bool o.texts) := gdo g (gd_int (i := 2)) (go_ixT rfl)
theorem isN_marks (o : Op) : isNoneD (marksO o) = o.marks.isNone := by unfold marksO; cases o.marks <;> rfl
abbrev swants_mark : Stmt := topS 26
theorem scwants_mark : FnScope ["options", "name"] ["options", "name"] (defScope swants_mark) := ⟨rfl, rfl, rfl, by decide +kernel, rfl, by decide +kernel, by decide +kernel⟩
theorem ok_wants (F : Fun K "wants_mark" "wants_mark" swants_mark f fd) : FnOk P W K mg base CX0 1 f fd ["options", "name"] (spA K 2 arW (fun _ => True) fun x => .bool (x.1.wants x.2)) := by
  refine fn_A F scwants_mark rfl fun cdv A outer s H1 E hr => ⟨_, (pss_one (ps_ret (pe_or (pe_cmpR op_is1 (pe_ix ix_seq (pv 0) pe_int (fun _ _ => rfl)) pe_non (nomark _)) (pe_one (pe_cmpR op_in_seq (pv 1) (pe_ix ix_seq (pv 0) pe_int (fun _ _ => rfl)) (by rfl)))))), fun vs x H A hl sm dv hp => ?_⟩
  obtain ⟨o, k⟩ := x
  obtain ⟨v, u, rfl, d1, d2⟩ := DvA.inv2 dv
  have g1 := gdo (K := K) (A := A) (gd_omk (gd_var (σ := [some v, some u]) (i := 0) rfl d1)) gd_non go_isN
  rw [isN_marks] at g1
  refine gb_ret (d := .bool (o.wants k)) ?_ rfl
  cases hm : o.marks with
  | none =>
    rw [hm] at g1
    have g := gd_orB g1 (tb := tOp (rIn K false) (tVar 1) (tOp (rIx K) (tVar 0) (tC (.int 1)))) (c := true) fun z => nomatch z
    have e : o.wants k = true := by unfold Op.wants; rw [hm]
    rw [e]
    exact g
  | some l =>
    rw [hm] at g1
    have e : o.wants k = decide (k ∈ l) := by unfold Op.wants; rw [hm]
    rw [e]
    have g2 : GD K (tOp (rIx K) (tVar 0) (tC (.int 1))) [some v, some u] H A (.tuple (l.map .str)) := by
      have g := gd_omk (gd_var (σ := [some v, some u]) (A := A) (i := 0) rfl d1)
      unfold marksO at g
      rw [hm] at g
      exact g
    have g3 := gdo (gd_var (i := 1) rfl d2) g2 (go_inT (K := K) (d := .str k) (x := .str k) rfl (flat_strs l))
    rw [inV_strs] at g3
    exact gd_orB g1 fun _ => g3
abbrev sbare : Stmt := topS 25
theorem scbare : FnScope ["shape"] ["shape"] (defScope sbare) := ⟨rfl, rfl, rfl, by decide +kernel, rfl, by decide +kernel, by decide +kernel⟩
theorem ok_bare (F : Fun K "bare" "bare" sbare f fd) : FnOk P W K mg base CX0 1 f fd ["shape"] (spA K 1 arH (fun _ => True) fun s => (Sh.bare s).toD) := by
  refine fn_A F scbare rfl fun cdv A outer s H1 E hr => ⟨_, (pss_cons (ps_if (pt_cmpR (op_eqA hr.units) (pe_ix ix_seq (pv 0) pe_int (fun _ _ => rfl)) pe_str (nomark _)) (pss_one (ps_ret (RR.pe_tupF (pa_cons pe_str (pa_cons (pe_ix ix_seq (pv 0) pe_int (fun _ _ => rfl)) (pa_cons pe_str pa_nil)))))) pss_nil)
      (pss_one (ps_ret (RR.pe_tupF (pa_cons pe_str (pa_cons (pe_ix ix_seq (pv 0) pe_int (fun _ _ => rfl)) (pa_cons (pe_ix ix_seq (pv 0) pe_int (fun _ _ => rfl)) (pa_cons (RR.pe_tupF pa_nil) (pa_cons (RR.pe_tupF pa_nil) pa_nil))))))))), fun vs x H A hl sm dv hp => ?_⟩
  obtain ⟨v, rfl, d1⟩ := DvA.inv1 dv
  refine gb_if (gt_isT (gd_var rfl d1)) (fun h => ?_) fun h => ?_
  · cases x with
    | t m y => exact gb_ret (gd_tup (ga_cons gd_str (ga_cons (gd_num (gd_var rfl d1)) (ga_cons gd_str ga_nil)))) (by show _ = (Sh.t m "").toD; rw [Sh.toD_t]; rfl)
    | e m nm ms ks => cases h
  · cases x with
    | t m y => cases h
    | e m nm ms ks =>
      have d1' := d1
      rw [Sh.toD_e] at d1'
      exact gb_ret (gd_tup (ga_cons gd_str (ga_cons (gd_num (gd_var rfl d1)) (ga_cons (gdo (gd_var rfl d1') (gd_int (i := 2)) (go_ixT rfl)) (ga_cons (gd_tup ga_nil) (ga_cons (gd_tup ga_nil) ga_nil)))))) (by show _ = (Sh.e m nm [] []).toD; rw [Sh.toD_e]; rfl)
def arSn : Sh × Op × List Sh → List PyData := fun x => [x.1.toD, x.2.1.toD, .list (x.2.2.map Sh.toD)]
def preSn (x : Sh × Op × List Sh) : Prop := x.1.msB = true
abbrev s_seen : Stmt := topS 24
theorem sc_seen : FnScope ["shape", "options", "children", "marks", "pair"] ["shape", "options", "children"] (defScope s_seen) := ⟨rfl, rfl, rfl, by decide +kernel, rfl, by decide +kernel, by decide +kernel⟩
theorem ok_seen (T : Bt mg) (F : Fun K "_seen" "_seen" s_seen f fd) (cwants_mark : Cal P W K mg base 1 "wants_mark" (spA K 2 arW (fun _ => True) fun x => .bool (x.1.wants x.2))) : FnOk P W K mg base CX0 2 f fd ["shape", "options", "children"] (spA K 3 arSn preSn fun x => (Sh.seen x.2.1 x.1 x.2.2).toD) := by
  refine fn_A F sc_seen rfl fun cdv A outer s H1 E hr => ⟨_, (pss_cons (ps_if (pt_cmpR (op_eqA hr.units) (pe_ix ix_seq (pv 0) pe_int (fun _ _ => rfl)) pe_str (nomark _)) (pss_one (ps_ret (RR.pe_tupF (pa_cons pe_str (pa_cons (pe_ix ix_seq (pv 0) pe_int (fun _ _ => rfl)) (pa_cons (pe_ifExp (pt_tr (pe_ix ix_seq (pv 1) pe_int (fun _ _ => rfl))) (pe_ix ix_seq (pv 0) pe_int (fun _ _ => rfl)) pe_str) pa_nil)))))) pss_nil)
      (pss_cons (ps_setLc (i := 3) (own := [("pair", 4)]) (by rfl) sc_seen.nd rfl rfl (sw_true rfl rfl rfl (by decide +kernel)) (pi_seq (pe_ix ix_seq (pv 0) pe_int (fun _ _ => rfl))) (blkOk_by (own := [("pair", 4)]) (N := ["shape", "options", "children", "marks", "pair"]) (sc := defScope s_seen) (by decide +kernel)) (fun _ _ _ _ _ => (pg_name (i := 4) sc_seen.nd rfl (Or.inl rfl))) (fun _ _ _ _ _ => (pts_one (pt_trK K (pe_k cwants_mark hr (by omega) (pa_cons (pv 1) (pa_cons (pe_ix (ix_seqK K) (pv 4) pe_int (fun _ _ => rfl)) pa_nil)))))) (fun _ _ _ _ _ => (pv 4)))
      (pss_one (ps_ret (RR.pe_tupF (pa_cons pe_str (pa_cons (pe_ix ix_seq (pv 0) pe_int (fun _ _ => rfl)) (pa_cons (pe_ix ix_seq (pv 0) pe_int (fun _ _ => rfl)) (pa_cons (pe_callTy RR.cr_tupF (by rfl) T.tuple (by decide +kernel) (pa_cons (pv 3) pa_nil)) (pa_cons (pe_callTy RR.cr_tupF (by rfl) T.tuple (by decide +kernel) (pa_cons (pv 2) pa_nil)) pa_nil)))))))))), fun vs x H A hl sm dv hp => ?_⟩
  obtain ⟨x, o, ks⟩ := x
  obtain ⟨v, u, w, rfl, d1, d2, d3⟩ := DvA.inv3 dv
  refine gb_if (gt_isT (gd_var rfl d1)) (fun h => ?_) fun h => ?_
  · cases x with
    | t m y =>
      have d1' := d1
      rw [Sh.toD_t] at d1'
      have e : (Sh.seen o (.t m y) ks).toD = .tuple [.str "t", ofN m, .str (if o.texts then y else "")] := Sh.toD_t
      refine gb_ret (d := .tuple [.str "t", ofN m, .str (if o.texts then y else "")]) (gd_tup (ga_cons gd_str (ga_cons (gd_num (gd_var rfl d1)) (ga_cons (gd_if (gt_tr (gd_otx (gd_var rfl d2))) (fun h => ?_) fun h => ?_) ga_nil)))) e.symm
      · have h : o.texts = true := h
        rw [if_pos h]
        exact gdo (gd_var rfl d1') (gd_int (i := 2)) (go_ixT rfl)
      · have h : o.texts = false := h
        rw [if_neg (by rw [h]; exact Bool.false_ne_true)]
        exact gd_str
    | e m nm ms ks => cases h
  · cases x with
    | t m y => cases h
    | e m nm ms cs =>
      have d1' := d1
      rw [Sh.toD_e] at d1'
      have hms : ms.length ≤ 1000 := by
        have hp : (decide (nm.length ≤ 1000) && decide (ms.length ≤ 1000) && _) = true := hp
        simp only [Bool.and_eq_true] at hp
        exact of_decide_eq_true hp.1.2
      have e : (Sh.seen o (.e m nm ms cs) ks).toD = .tuple [.str "e", ofN m, .str nm, pairsD (ms.filter fun p => o.wants p.1), .tuple (ks.map Sh.toD)] := Sh.toD_e
      refine gb_set (d := .list ((ms.filter fun (p : Str × Str) => o.wants p.1).map mpairD)) (gd_lcIf (K := K) (σ := [some v, some u, some w, none, none]) (k := 4) (em := mpairD) (xs := ms) (p := fun (p : Str × Str) => o.wants p.1) (f := mpairD) (gi_seqT (gdo (gd_var (i := 0) rfl d1') (gd_int (i := 3)) (go_ixT rfl))) (by omega) (fun i a ha v' G H1 p0 dv' => ?_) fun i a ha hpa v' G H1 p0 dv' => gd_var (i := 4) rfl dv') fun v3 G2 H2 p2 dv3 => ?_
      · exact gt_tr (gd_callA (K := K) (ar := arW) (f := fun x => .bool (x.1.wants x.2)) (o, a.1) (ga_cons (gd_var rfl (d2.to p0.hg)) (ga_cons (gdo (gd_var rfl dv') (gd_int (i := 0)) (go_ixT rfl)) ga_nil)) rfl trivial)
      · refine gb_ret (d := .tuple [.str "e", ofN m, .str nm, pairsD (ms.filter fun p => o.wants p.1), .tuple (ks.map Sh.toD)]) (gd_tup (ga_cons gd_str (ga_cons (gd_num (gd_var rfl (d1.to p2.hg))) (ga_cons (gdo (gd_var rfl (d1'.to p2.hg)) (gd_int (i := 2)) (go_ixT rfl)) (ga_cons (gd_cb (ga_cons (gd_var rfl dv3) ga_nil) gc_tupL) (ga_cons (gd_cb (ga_cons (gd_var rfl (d3.to p2.hg)) ga_nil) gc_tupL) ga_nil)))))) e.symm
end
end LW
end
section
set_option Elab.async false
set_option linter.all false
set_option maxRecDepth 100000
set_option maxHeartbeats 4000000
namespace RR
open PySem PySem.Spec PyProof.Rows L2
theorem pairs_uv {X : Cx} {pins : List (Addr × Obj)} {σ : L2.St} {H : Hp} {s : Shared} (I : L2.Inv X pins σ H s) : ∀ {ps : List Addr} {kvs : List (Key × V)}, Paired (fun p kv => SqT X.K H p [kV kv.1, kv.2]) ps kvs →
    ∃ (prs : List (Key × Value)) (uvs : List (Value × Value)), KV kvs prs ∧ prs.length = ps.length ∧ uvs.length = ps.length ∧ ∀ (j : Nat) (k v : Value), uvs[j]? = some (k, v) → ∃ (b : Addr) (key : Key), ps[j]? = some b ∧ IsTup s.heap b #[k, v] ∧ prs[j]? = some (key, v) ∧ (mixKind X.prog X.w).is key k = true
  | _, _, .nil => ⟨[], [], .nil, rfl, rfl, fun j k v e => by simp at e⟩
  | _, _, .cons (a := p) (b := kv) h t => by
    obtain ⟨prs, uvs, r, hl, hl2, hp⟩ := pairs_uv I t
    obtain ⟨its, rv, ht, _⟩ := I.tuple h
    obtain ⟨u, y, ei, ru, ry⟩ := vals2 rv
    subst ei
    refine ⟨(kv.1, y) :: prs, (u, y) :: uvs, .cons ⟨rfl, ry⟩ r, by rw [List.length_cons, List.length_cons, hl], by rw [List.length_cons, List.length_cons, hl2], fun j k v e => ?_⟩
    cases j with
    | zero =>
      have e2 : (u, y) = (k, v) := Option.some.inj e
      cases e2
      exact ⟨p, kv.1, rfl, ht, rfl, kV_is (P := X.prog) (w := X.w) ru⟩
    | succ j =>
      obtain ⟨b, key, h1, h2, h3, h4⟩ := hp j k v (by simpa using e)
      exact ⟨b, key, by simpa using h1, h2, by simpa using h3, h4⟩
/-- dict(t) of a tuple of pairs whose object has no dict -/
def rDictT (K : PySem.W.Frag) : List V → Hp → VK → Prop := fun xs H Q => ∃ (a : Addr) (ob : Obj) (ps : List Addr) (kvs : List (Key × V)), xs = [.ref a] ∧ H a = some (.frz ob (.tup (ps.map V.ref))) ∧ ob.dict = none ∧ Paired (fun p kv => SqT K H p [kV kv.1, kv.2]) ps kvs ∧
  ∀ p, H p = none → Q (.ref p) (upd H p (.dK (mergeK [] kvs)))
theorem cr_dictT {X : Cx} (hcalm : X.calm = true) : CallR X (.type "dict") (rDictT X.K) := by
  intro pins s σ H xs us Q I r g
  obtain ⟨a, ob, ps, kvs, rfl, ha, hdn, hp, q⟩ := g
  obtain ⟨u, rfl, rx⟩ := vals1 r
  cases rx
  obtain ⟨e1, hz, its, rv, o2, e2, hc, n, hd⟩ := I.hok a _ ha
  have ee : ob = o2 := Option.some.inj (e1.symm.trans e2)
  subst ee
  have ei := refs_at rv
  subst ei
  rw [List.length_map] at hz
  obtain ⟨prs, uvs, rel, hl, hl2, hpr⟩ := pairs_uv I hp
  refine PySem.call_dict_pairs (knd := mixKind X.prog X.w) (kvs := prs) (PairArg.tuple a (ps.map Value.ref).toArray (fun j => ps.getD j 0) uvs) (I.ok.hd hcalm) ⟨⟨ob, n, e1, hc, hdn, hd⟩, by simp [hl2], fun j k v e => ?_⟩ ⟨by rw [hl, hl2], fun j k v e => ?_⟩ (by rw [hl2]; exact hz) fun h2 tk hd2 kp => ?_
  · obtain ⟨b, key, h1, ⟨o3, e3, c3, n3, d3⟩, h3, h4⟩ := hpr j k v e
    have hb : ps.getD j 0 = b := by rw [List.getD_eq_getElem?_getD, h1]; rfl
    show (List.map Value.ref ps).toArray[j]? = some (Value.ref (ps.getD j 0)) ∧ PairAt s.heap (ps.getD j 0) k v
    rw [hb]
    exact ⟨by simp [h1], .inl ⟨o3, e3, c3, n3, d3⟩⟩
  · obtain ⟨b, key, h1, h2, h3, h4⟩ := hpr j k v e
    exact ⟨key, h3, h4⟩
  · have hm : (s.heap.objs.size == sysModules) = false := beq_eq_false_iff_ne.mpr (Nat.ne_of_gt I.big)
    have hlen : (mergeK [] kvs).length ≤ sizeLine := by
      refine Nat.le_trans (length_mergeK kvs []) ?_
      rw [List.length_nil, Nat.zero_add, rel.length, hl]
      exact hz
    exact ⟨.ref s.heap.objs.size, upd H s.heap.objs.size (.dK (mergeK [] kvs)), I.laid (t' := tk) (fun b o e => kp b o (fun z => nomatch z) e) (Nat.le_refl _) (show ObjOk X.prog X.w _ _ _ (.dK (mergeK [] kvs)) from ⟨hlen, hm, merged [] prs, KV.merge rel .nil, hd2⟩), rfl, q _ (I.hok.fresh (Nat.le_refl _))⟩
end RR
end
section
set_option Elab.async false
set_option linter.all false
set_option maxRecDepth 100000
set_option maxHeartbeats 4000000
namespace LM
open PySem DL
namespace Sh
def mks : Sh → List (Str × Str)
  | t _ _ => []
  | e _ _ ms _ => ms
end Sh
end LM
namespace LM
open PySem DL
def findM (ms : List (Str × Str)) (k : Str) : Option Str := (ms.find? fun p => decide (p.1 = k)).map (·.2)
end LM
namespace LW
open PySem PySem.Spec PyProof.Rows L2 DL LM
section
variable {P : Program} {W : World} {K : PySem.W.Frag} {mg : Str → Option Value} {base : Heap} {f : Addr} {fd : FuncData} {A A2 H H' H0 H1 H2 G G2 Hc : Hp} {σ : L2.St} {t te td tn tv tk ti t1 t2 : TE} {tr : TS} {ts : TS} {D : Ends} {tA : TA} {n i j : Nat} {p b : Addr} {xs ys : List V} {v : V} {d : PyData} {ds es : List PyData} {kvs : List (Key × V)}
/-- a shape's value whose marks' tuple is known to have no dict -/
def PlM (K : PySem.W.Frag) (G : Hp) (v : V) (ms : List (Str × Str)) : Prop := ∃ (a : Addr) (xs : List V) (mt : Addr) (ob : Obj) (ps : List Addr), v = .ref a ∧ SqT K G a xs ∧ xs[3]? = some (.ref mt) ∧ G mt = some (.frz ob (.tup (ps.map V.ref))) ∧ ob.dict = none ∧ Paired (fun p (m : Str × Str) => SqT K G p [.str m.1, .str m.2]) ps ms
theorem paired_to {ms : List (Str × Str)} (s : Same G G2) : ∀ {ps : List Addr} {ms : List (Str × Str)}, Paired (fun p (m : Str × Str) => SqT K G p [.str m.1, .str m.2]) ps ms → Paired (fun p (m : Str × Str) => SqT K G2 p [.str m.1, .str m.2]) ps ms
  | _, _, .nil => .nil
  | _, _, .cons h t => .cons (seqT s h) (paired_to (ms := ms) s t)
theorem PlM.to {ms : List (Str × Str)} (h : PlM K G v ms) (s : Same G G2) : PlM K G2 v ms := by
  obtain ⟨a, xs, mt, ob, ps, e, h1, h2, h3, h4, h5⟩ := h
  exact ⟨a, xs, mt, ob, ps, e, seqT s h1, h2, s _ _ h3, h4, paired_to (ms := ms) s h5⟩
theorem paired_key : ∀ {ps : List Addr} {ms : List (Str × Str)}, Paired (fun p (m : Str × Str) => SqT K G p [.str m.1, .str m.2]) ps ms → Paired (fun p (kv : Key × V) => SqT K G p [kV kv.1, kv.2]) ps (ms.map fun m => (.inr m.1, .str m.2))
  | _, _, .nil => .nil
  | _, _, .cons h t => .cons h (paired_key t)
theorem valV_mergeS {k : Str} : ∀ (ms : List (Str × Str)) (acc : List (Key × V)), (ms.map (·.1)).Nodup → valV (mergeK acc (ms.map fun m => ((.inr m.1 : Key), V.str m.2))) (.inr k) = match findM ms k with
    | some x => some (.str x)
    | none => valV acc (.inr k)
  | [], acc, _ => rfl
  | m :: ms, acc, hd => by
    rw [List.map_cons] at hd
    obtain ⟨h1, h2⟩ := List.nodup_cons.mp hd
    have ih := valV_mergeS (k := k) ms (putK acc (.inr m.1) (.str m.2)) h2
    show valV (mergeK (putK acc (.inr m.1) (.str m.2)) (ms.map fun m => ((.inr m.1 : Key), V.str m.2))) (.inr k) = _
    rw [ih]
    by_cases e : m.1 = k
    · have hn : findM ms k = none := by
        unfold findM
        rw [List.find?_eq_none.mpr fun p hp z => h1 (List.mem_map.mpr ⟨p, hp, by rw [e]; simpa using z⟩)]; rfl
      have hs : findM (m :: ms) k = some m.2 := by
        unfold findM
        rw [List.find?_cons, decide_eq_true e]; rfl
      rw [hn, hs]
      show valV (putK acc (.inr m.1) (.str m.2)) (.inr k) = _
      rw [valV_put, if_pos (by rw [e])]
    · have hs : findM (m :: ms) k = findM ms k := by
        unfold findM
        rw [List.find?_cons, decide_eq_false e]
      rw [hs]
      cases findM ms k with
      | some x => rfl
      | none =>
        show valV (putK acc (.inr m.1) (.str m.2)) (.inr k) = _
        rw [valV_put, if_neg fun z => e (Sum.inr.inj z).symm]
structure Bd (mg : Str → Option Value) : Prop extends Bt mg where
  dict : mg "dict" = none
def spMo (K : PySem.W.Frag) : Sp := fun vs H1 Q _ => ∃ (G : Hp) (v : V) (ms : List (Str × Str)) (k : Str), vs = [v, .str k] ∧ Same G H1 ∧ PlM K G v ms ∧ (ms.map (·.1)).Nodup ∧ ∀ w G' H2, Pub G H1 G' H2 → Dv K G' w (strO (findM ms k)) → Q w H2
theorem gd_mo {ms : List (Str × Str)} {k : Str} (hv : σ[i]? = some (some v)) (pm : PlM K H v ms) (gn : GD K tn σ H A (.str k)) (hn : (ms.map (·.1)).Nodup) : GD K (tCall (spMo K) [] E0 (tCons (tVar i) (tCons tn tNil))) σ H A (strO (findM ms k)) := fun H0 H1 p Q q => by
  refine ⟨v, hv, gn.to p fun u G2 H2 p2 du => ?_⟩
  have eu := Dv.str_inv du
  subst eu
  show spMo K ([v, .str k] ++ []) H2 Q E0
  exact ⟨G2, v, ms, k, rfl, p2.gh, pm.to (p.hg.trans p2.hg), hn, fun w G' H3 p3 dw => q w G' H3 (p2.trans p3) dw⟩
abbrev smark_of : Stmt := topS 10
theorem scmark_of : FnScope ["shape", "name"] ["shape", "name"] (defScope smark_of) := ⟨rfl, rfl, rfl, by decide +kernel, rfl, by decide +kernel, by decide +kernel⟩
theorem ok_mark_of (T : Bd mg) (F : Fun K "mark_of" "mark_of" smark_of f fd) : FnOk P W K mg base CX0 1 f fd ["shape", "name"] (spMo K) := by
  refine F.ok scmark_of (fun vs H Q E h => ?_) (fun cdv A outer s H vs Q E hr h => ?_)
  · obtain ⟨_, _, _, _, rfl, _⟩ := h
    rfl
  obtain ⟨G, v, ms, k, rfl, sm, ⟨a, xs, mt, ob, ps, rfl, h1, h2, h3, h4, h5⟩, hn, q⟩ := h
  refine ⟨_, (pss_one (ps_ret (pe_dget1 (hu_of hr) (pe_callTy (RR.cr_dictT rfl) (by rfl) T.dict (by decide +kernel) (pa_cons (pe_ix ix_seq (pv 0) pe_int (fun _ _ => rfl)) pa_nil)) (pv 1) ⟨rfl, rfl, rfl, rfl⟩))), ?_⟩
  refine ⟨.ref a, rfl, .inr (.inl ⟨a, xs, ((3 : Nat) : Int), .ref mt, rfl, rfl, seqT sm h1, atI_nat h2, mt, ob, ps, _, rfl, sm _ _ h3, h4, paired_key (paired_to (ms := ms) sm h5), fun p hp => ⟨p, rfl, .inl ⟨_, .inl upd_same⟩, .str k, rfl, _, DGet.k (k := .inr k) upd_same, ?_⟩⟩)⟩
  refine q _ G _ ((Pub.refl sm).newP hp _) ?_
  rw [valV_mergeS ms [] hn]
  cases findM ms k with
  | some x => exact .str x
  | none => exact .non
theorem pairsB_ms (ms : List (Str × Str)) : pairsB (ms.map mpairD) = true := List.all_eq_true.mpr fun d hd => by
  obtain ⟨m, _, rfl⟩ := List.mem_map.mp hd
  rfl
theorem dva_pairs : ∀ {ms : List (Str × Str)} {ys : List V}, DvA K G ys (ms.map mpairD) → ∃ ps : List Addr, ys = ps.map V.ref ∧ Paired (fun p (m : Str × Str) => SqT K G p [.str m.1, .str m.2]) ps ms
  | [], _, h => by cases h; exact ⟨[], rfl, .nil⟩
  | m :: ms, _, h => by
    cases h with
    | cons a r =>
      obtain ⟨ps, e, hp⟩ := dva_pairs r
      obtain ⟨t, ys, e2, sq, dy⟩ := Dv.tup_inv a
      obtain ⟨y1, y2, rfl, dy1, dy2⟩ := DvA.inv2 dy
      have e3 := Dv.str_inv dy1
      subst e3
      have e4 := Dv.str_inv dy2
      subst e4
      exact ⟨t :: ps, by rw [e2, e]; rfl, .cons sq hp⟩
/-- a shape's value has its marks' tuple -/
theorem plm_of {s : Sh} (h : Dv K G v s.toD) (hE : s.isE = true) : PlM K G v s.mks := by
  cases s with
  | t n x => cases hE
  | e n nm ms ks =>
    rw [Sh.toD_e] at h
    obtain ⟨a, xs, rfl, sq, da⟩ := Dv.tup_inv h
    obtain ⟨u, hu, du⟩ := DvA.get da (i := 3) (d := pairsD ms) rfl
    obtain ⟨mt, ys, rfl, _, nd, dy⟩ := Dv.tup_invN du
    obtain ⟨ob, h1, h2⟩ := nd (pairsB_ms ms)
    obtain ⟨ps, e, hp⟩ := dva_pairs dy
    subst e
    exact ⟨a, xs, mt, ob, ps, rfl, sq, hu, h1, h2, hp⟩
def arMo : Sh × Str → List PyData := fun x => [x.1.toD, .str x.2]
theorem gd_moA {s : Sh} {k : Str} (g1 : GD K t1 σ H A s.toD) (hE : s.isE = true) (gn : GD K tn σ H A (.str k)) (hn : (s.mks.map (·.1)).Nodup) : GD K (tCall (spMo K) [] E0 (tCons t1 (tCons tn tNil))) σ H A (strO (findM s.mks k)) := fun H0 H1 p Q q => g1.to p fun v G1 H1' p1 dv => gn.to (p.trans p1) fun u G2 H2 p2 du => by
  have eu := Dv.str_inv du
  subst eu
  show spMo K ([v, .str k] ++ []) H2 Q E0
  exact ⟨G2, v, s.mks, k, rfl, p2.gh, (plm_of dv hE).to p2.hg, hn, fun w G' H3 p3 dw => q w G' H3 ((p1.trans p2).trans p3) dw⟩
end
end LW
end
section
set_option Elab.async false
set_option linter.all false
set_option maxRecDepth 100000
set_option maxHeartbeats 4000000
namespace LM
open PySem DL
namespace Sh
/-- the name of an element, the text of a text -/
def tx : Sh → Str
  | t _ s => s
  | e _ nm _ _ => nm
end Sh
/-- what a test without tests in it holds of -/
def ownS (w : Str) (as : List Str) (p : Sh) (ah af : Option Nat) : Bool :=
  if w = "name" then decide (p.tx = as.getD 0 "")
  else if w = "mark" then (findM p.mks (as.getD 0 "")).isSome
  else if w = "value" then decide (findM p.mks (as.getD 0 "") = some (as.getD 1 ""))
  else if w = "text" then p.kids.any fun c => !c.isE && decide (c.tx = as.getD 0 "")
  else if w = "first" then ah.isNone
  else if w = "last" then af.isNone
  else if w = "empty" then p.kids.isEmpty
  else true
/-- the places of a view -/
structure Plc where
  ps : List Sh
  inner : List (List Nat)
  up : List (Option Nat)
  ahead : List (Option Nat)
  after : List (Option Nat)
structure Plc.Ok (z : Plc) : Prop where
  len : z.ps.length ≤ 1000
  li : z.inner.length = z.ps.length
  lu : z.up.length = z.ps.length
  la : z.ahead.length = z.ps.length
  lf : z.after.length = z.ps.length
  el : ∀ p ∈ z.ps, p.isE = true ∧ (p.mks.map (·.1)).Nodup ∧ p.kids.length ≤ 1000
end LM
namespace LW
open PySem PySem.Spec PyProof.Rows L2 DL LM
section
variable {P : Program} {W : World} {K : PySem.W.Frag} {mg : Str → Option Value} {base : Heap} {f : Addr} {fd : FuncData} {CP : Addr} {A A2 H H' H0 H1 H2 G G2 Hc : Hp} {σ : L2.St} {t te td tn tv t1 t2 : TE} {tr : TS} {ts : TS} {tt : TT} {D : Ends} {tA : TA} {n i j : Nat} {p b x : Addr} {xs ys : List V} {v : V} {d : PyData} {ds es : List PyData}
open Tst Tb
structure PC (K : PySem.W.Frag) (CP : Addr) : Prop where
  c : Cls K CP
  a : NoAttr K CP "parts" ∧ NoAttr K CP "inner" ∧ NoAttr K CP "up" ∧ NoAttr K CP "ahead" ∧ NoAttr K CP "after"
/-- the places stand at x -/
structure PlcH (K : PySem.W.Frag) (CP : Addr) (G H : Hp) (x : Addr) (z : Plc) : Prop where
  ex : ∃ (dx : Addr) (vp vi vu va vf : V), H x = some (.ins CP dx [("parts", vp), ("inner", vi), ("up", vu), ("ahead", va), ("after", vf)]) ∧
    Dv K G vp (.list (z.ps.map Sh.toD)) ∧ Dv K G vi (placesD z.inner) ∧ Dv K G vu (upsD z.up) ∧ Dv K G va (upsD z.ahead) ∧ Dv K G vf (upsD z.after)
theorem PlcH.to {z : Plc} (h : PlcH K CP G H x z) (s : Same G G2) (s2 : Same H H2) : PlcH K CP G2 H2 x z := by
  obtain ⟨dx, vp, vi, vu, va, vf, h1, h2, h3, h4, h5, h6⟩ := h.ex
  exact ⟨dx, vp, vi, vu, va, vf, s2 _ _ h1, h2.to s, h3.to s, h4.to s, h5.to s, h6.to s⟩
theorem gv_fldP {b C dx : Addr} {fs : List (Str × V)} {f : Str} {v : V} (g : GV te σ H A (.ref b)) (ha : A b = some (.ins C dx fs)) (c : Cls K C) (na : NoAttr K C f) (e : fs.lookup f = some v) : GV (tFld K te f) σ H A v := fun H0 H1 p Q q =>
  g.to p fun G H2 p2 => ⟨b, C, dx, fs, v, rfl, p2.hh _ _ (p.hh _ _ ha), c, na, e, q G H2 p2⟩
theorem gd_gv (g : GV te σ H A v) (dv : Dv K H v d) : GD K te σ H A d := fun H0 H1 e Q q => g.to e fun G H2 p => q v G H2 p (dv.to (e.hg.trans p.hg))
variable {z : Plc}
theorem PlcH.gp (h : PlcH K CP H A x z) (C : PC K CP) (h0 : σ[j]? = some (some (.ref x))) : GD K (tFld K (tVar j) "parts") σ H A (.list (z.ps.map Sh.toD)) := by
  obtain ⟨dx, vp, vi, vu, va, vf, h1, h2, h3, h4, h5, h6⟩ := h.ex
  exact gd_gv (gv_fldP (gv_var h0) h1 C.c C.a.1 rfl) h2
theorem PlcH.gi (h : PlcH K CP H A x z) (C : PC K CP) (h0 : σ[j]? = some (some (.ref x))) : GD K (tFld K (tVar j) "inner") σ H A (placesD z.inner) := by
  obtain ⟨dx, vp, vi, vu, va, vf, h1, h2, h3, h4, h5, h6⟩ := h.ex
  exact gd_gv (gv_fldP (gv_var h0) h1 C.c C.a.2.1 rfl) h3
theorem PlcH.gu (h : PlcH K CP H A x z) (C : PC K CP) (h0 : σ[j]? = some (some (.ref x))) : GD K (tFld K (tVar j) "up") σ H A (upsD z.up) := by
  obtain ⟨dx, vp, vi, vu, va, vf, h1, h2, h3, h4, h5, h6⟩ := h.ex
  exact gd_gv (gv_fldP (gv_var h0) h1 C.c C.a.2.2.1 rfl) h4
theorem PlcH.ga (h : PlcH K CP H A x z) (C : PC K CP) (h0 : σ[j]? = some (some (.ref x))) : GD K (tFld K (tVar j) "ahead") σ H A (upsD z.ahead) := by
  obtain ⟨dx, vp, vi, vu, va, vf, h1, h2, h3, h4, h5, h6⟩ := h.ex
  exact gd_gv (gv_fldP (gv_var h0) h1 C.c C.a.2.2.2.1 rfl) h5
theorem PlcH.gf (h : PlcH K CP H A x z) (C : PC K CP) (h0 : σ[j]? = some (some (.ref x))) : GD K (tFld K (tVar j) "after") σ H A (upsD z.after) := by
  obtain ⟨dx, vp, vi, vu, va, vf, h1, h2, h3, h4, h5, h6⟩ := h.ex
  exact gd_gv (gv_fldP (gv_var h0) h1 C.c C.a.2.2.2.2 rfl) h6
theorem gd_upAt {l : List (Option Nat)} {q : Nat} (g : GD K te σ H A (upsD l)) (g2 : GD K tn σ H A (ofN q)) (hq : q < l.length) : GD K (tOp (rIx K) te tn) σ H A (upD (l.getD q none)) := by
  refine gdo g g2 (go_ixL (atI_nat (j := q) ?_))
  rw [List.getElem?_map, List.getD_eq_getElem?_getD, List.getElem?_eq_getElem hq]; rfl
def spHo (K : PySem.W.Frag) (CP : Addr) : Sp := fun vs H Q _ => ∃ (x : Addr) (u w : V) (G : Hp) (z : Plc) (k : Nat) (wd : Str) (as : List Str), vs = [.ref x, u, w] ∧ Same G H ∧ PlcH K CP G H x z ∧ z.Ok ∧ Dv K G u (ofN k) ∧ k < z.ps.length ∧ Dv K G w (leaf wd as).toD ∧ WF (leaf wd as) ∧
  ∀ G' H', Pub G H G' H' → Q (.bl (ownS wd as (z.ps.getD k (.t 0 "")) (z.ahead.getD k none) (z.after.getD k none))) H'
theorem gd_tup_at {l : List Str} {w : Str} {k : Nat} (h : σ[i]? = some (some v)) (dv : Dv K H v (leaf w l).toD) (hk : k < l.length) : GD K (tOp (rIx K) (tVar i) (tC (.int ((k + 1 : Nat) : Int)))) σ H A (.str (l.getD k "")) := by
  rw [toD_leaf] at dv
  refine gdo (gd_var h dv) gd_int (go_ixT (atI_nat (j := k + 1) ?_))
  rw [List.getElem?_cons_succ, List.getElem?_map, List.getD_eq_getElem?_getD, List.getElem?_eq_getElem hk]; rfl
theorem go_eqO {o : Option Str} {y : Str} : GO K (rEqA K) (strO o) (.str y) (.bool (decide (o = some y))) := by
  cases o with
  | some x =>
    have e : decide (some x = some y) = decide (x = y) := by simp
    rw [e]
    exact go_eqS
  | none =>
    intro H H1 G H2 v w Q p dx dy q
    have e1 := Dv.non_inv dx
    have e2 := Dv.str_inv dy
    subst e1 e2
    refine .inl ⟨rfl, ?_⟩
    have z : decide (V.non = V.str y) = false := by simp
    rw [z]
    have z2 : decide ((none : Option Str) = some y) = false := by simp
    rw [z2] at q
    exact q _ G H2 p (.bl _)
theorem sh_tag {c : Sh} : ∃ r, c.toD = .tuple (.str (if c.isE then "e" else "t") :: ofN c.num :: .str c.tx :: r) := by
  cases c with
  | t n s => rw [Sh.toD_t]; exact ⟨_, rfl⟩
  | e n nm ms ks => rw [Sh.toD_e]; exact ⟨_, rfl⟩
abbrev s_holds : Stmt := topS 21
theorem sc_holds : FnScope ["places", "place", "test", "part", "child"] ["places", "place", "test"] (defScope s_holds) := ⟨rfl, rfl, rfl, by decide +kernel, rfl, by decide +kernel, by decide +kernel⟩
theorem ok_holds (T : Bx mg) (C : PC K CP) (F : Fun K "_holds" "_holds" s_holds f fd) (cmark_of : Cal P W K mg base 1 "mark_of" (spMo K)) : FnOk P W K mg base CX0 2 f fd ["places", "place", "test"] (spHo K CP) := by
  refine F.ok sc_holds (fun vs H Q E h => ?_) (fun cdv A outer s H vs Q E hr h => ?_)
  · obtain ⟨_, _, _, _, _, _, _, _, rfl, _⟩ := h
    rfl
  obtain ⟨x, u, w, G, z, k, wd, as, rfl, sm, ph, ok, du, hk, dw, wf, q⟩ := h
  have eu := Dv.int_inv du
  subst eu
  unfold WF at wf
  obtain ⟨hk4, hal⟩ := wf
  refine ⟨_, (pss_cons (ps_set (i := 3) sc_holds.nd rfl (Or.inl rfl) (pe_ix ix_seq (pe_fld (pv 0) rfl) (pv 1) (fun _ _ => rfl)))
      (pss_cons (ps_if (pt_cmpR (op_eqA hr.units) (pe_ix ix_seq (pv 2) pe_int (fun _ _ => rfl)) pe_str (nomark _)) (pss_one (ps_ret (pe_cmpR (op_eqA hr.units) (pe_ix ix_seq (pv 3) pe_int (fun _ _ => rfl)) (pe_ix ix_seq (pv 2) pe_int (fun _ _ => rfl)) (nomark _)))) pss_nil)
      (pss_cons (ps_if (pt_cmpR (op_eqA hr.units) (pe_ix ix_seq (pv 2) pe_int (fun _ _ => rfl)) pe_str (nomark _)) (pss_one (ps_ret (pe_cmpR op_isnot1 (pe_k cmark_of hr (by omega) (pa_cons (pv 3) (pa_cons (pe_ix ix_seq (pv 2) pe_int (fun _ _ => rfl)) pa_nil))) pe_non (nomark _)))) pss_nil)
      (pss_cons (ps_if (pt_cmpR (op_eqA hr.units) (pe_ix ix_seq (pv 2) pe_int (fun _ _ => rfl)) pe_str (nomark _)) (pss_one (ps_ret (pe_cmpR (op_eqA hr.units) (pe_k cmark_of hr (by omega) (pa_cons (pv 3) (pa_cons (pe_ix ix_seq (pv 2) pe_int (fun _ _ => rfl)) pa_nil))) (pe_ix ix_seq (pv 2) pe_int (fun _ _ => rfl)) (nomark _)))) pss_nil)
      (pss_cons (ps_if (pt_cmpR (op_eqA hr.units) (pe_ix ix_seq (pv 2) pe_int (fun _ _ => rfl)) pe_str (nomark _)) (pss_one (ps_ret (pe_callB (cr_any rfl) (by rfl) T.any (by decide +kernel) (pa_cons (pe_lc (own := [("child", 4)]) (by rfl) sc_holds.nd (pi_seq (pe_ix ix_seq (pv 3) pe_int (fun _ _ => rfl))) (blkOk_by (own := [("child", 4)]) (N := ["places", "place", "test", "part", "child"]) (sc := defScope s_holds) (by decide +kernel)) (fun _ _ _ _ _ => (pg_name (i := 4) sc_holds.nd rfl (Or.inl rfl))) (fun _ _ _ _ _ => pts_nil) (fun _ _ _ _ _ => (pe_and (pe_cmpR (op_eqK K hr.units) (pe_ix (ix_seqK K) (pv 4) pe_int (fun _ _ => rfl)) pe_str (nomark _)) (pe_one (pe_cmpR (op_eqK K hr.units) (pe_ix (ix_seqK K) (pv 4) pe_int (fun _ _ => rfl)) (pe_ix (ix_seqK K) (pv 2) pe_int (fun _ _ => rfl)) (nomark _)))))) pa_nil)))) pss_nil)
      (pss_cons (ps_if (pt_cmpR (op_eqA hr.units) (pe_ix ix_seq (pv 2) pe_int (fun _ _ => rfl)) pe_str (nomark _)) (pss_one (ps_ret (pe_cmpR op_is1 (pe_ix ix_seq (pe_fld (pv 0) rfl) (pv 1) (fun _ _ => rfl)) pe_non (nomark _)))) pss_nil)
      (pss_cons (ps_if (pt_cmpR (op_eqA hr.units) (pe_ix ix_seq (pv 2) pe_int (fun _ _ => rfl)) pe_str (nomark _)) (pss_one (ps_ret (pe_cmpR op_is1 (pe_ix ix_seq (pe_fld (pv 0) rfl) (pv 1) (fun _ _ => rfl)) pe_non (nomark _)))) pss_nil)
      (pss_cons (ps_if (pt_cmpR (op_eqA hr.units) (pe_ix ix_seq (pv 2) pe_int (fun _ _ => rfl)) pe_str (nomark _)) (pss_one (ps_ret (pe_notT (pe_ix ix_seq (pv 3) pe_int (fun _ _ => rfl))))) pss_nil)
      (pss_one (ps_ret pe_bl)))))))))), ?_⟩
  obtain ⟨pt, hpt⟩ : ∃ pt, pt = z.ps.getD k (.t 0 "") := ⟨_, rfl⟩
  have hget : z.ps[k]? = some pt := by rw [hpt, List.getD_eq_getElem?_getD, List.getElem?_eq_getElem hk]; rfl
  obtain ⟨hE, hnd, hkl⟩ := ok.el pt (List.mem_of_getElem? hget)
  rw [← hpt] at q
  refine s_set (K := K) (d := pt.toD) (gdo (ph.gp C (j := 0) rfl) (gd_var (i := 1) rfl (.int (k : Int))) (go_ixL (atI_nat (j := k) (by rw [List.getElem?_map, hget]; rfl)))) sm fun v3 G3 H3 P3 dv3 => ?_
  have dw3 := dw.to P3.hg
  have ph3 := ph.to P3.hg P3.hh
  have g0 : ∀ {H' : Hp}, GD K (tOp (rIx K) (tVar 2) (tC (.int 0))) [some (.ref x), some (.int (k : Int)), some w, some v3, none] G3 H' (.str wd) := fun {H'} => by
    have := gd_w0 (K := K) (A := H') (σ := [some (.ref x), some (.int (k : Int)), some w, some v3, none]) (i := 2) rfl dw3
    rw [show wD (leaf wd as).toD = wd from by rw [toD_leaf]; rfl] at this
    exact this
  have ret : ∀ {te : TE} {H' : Hp} {D : Ends}, Same H3 H' → D.rt = Q → GD K te [some (.ref x), some (.int (k : Int)), some w, some v3, none] G3 H' (.bool (ownS wd as pt (z.ahead.getD k none) (z.after.getD k none))) → tRet te D [some (.ref x), some (.int (k : Int)), some w, some v3, none] H' := fun {te H' D} sh hD g =>
    s_ret (K := K) g (P3.gh.trans sh) fun y G4 H4 P4 dy => by
      have e := Dv.bl_inv dy
      subst e
      rw [hD]
      exact q G4 H4 ((P3.test sh).trans P4)
  cases pt with
  | t n x => cases hE
  | e n nm ms ks =>
    obtain ⟨pt, hpt2⟩ : ∃ pt, pt = Sh.e n nm ms ks := ⟨_, rfl⟩
    rw [← hpt2] at dv3
    have dve : Dv K G3 v3 (.tuple [.str "e", ofN n, .str nm, pairsD ms, .tuple (ks.map Sh.toD)]) := by rw [← Sh.toD_e, ← hpt2]; exact dv3
    have hks : ks.length ≤ 1000 := hkl
    have gp : ∀ {H' : Hp}, GD K (tVar 3) [some (.ref x), some (.int (k : Int)), some w, some v3, none] G3 H' pt.toD := gd_var (i := 3) rfl dv3
    have gte : ∀ {s : Str} {H' : Hp}, GT (tTest (tOp (rEqA K) (tOp (rIx K) (tVar 2) (tC (.int 0))) (tC (.str s)))) [some (.ref x), some (.int (k : Int)), some w, some v3, none] G3 H' (decide (wd = s)) := fun {s H'} => gt_test (gdo (K := K) g0 gd_str go_eqS)
    have one : ∀ {s : Str}, wd = s → kindLen (lawKind s) = 1 → 0 < as.length := fun e h => by rw [hal, e, h]; decide
    refine s_ifr (K := K) gte P3.gh (fun c H4 s4 => ?_) fun c H4 s4 => ?_
    · have c := of_decide_eq_true c
      refine ret s4 rfl ?_
      have e : ownS wd as (.e n nm ms ks) (z.ahead.getD k none) (z.after.getD k none) = decide (nm = as.getD 0 "") := by unfold ownS; rw [if_pos c]; rfl
      rw [e]
      exact gdo (gdo (gd_var (i := 3) rfl dve) gd_int (go_ixT (atI_nat (j := 2) rfl))) (gd_tup_at (i := 2) (k := 0) rfl dw3 (one c (by decide +kernel))) go_eqS
    have n1 : wd ≠ "name" := of_decide_eq_false c
    refine s_ifr (K := K) gte (P3.gh.trans s4) (fun c H5 s5 => ?_) fun c H5 s5 => ?_
    · have c := of_decide_eq_true c
      refine ret (s4.trans s5) rfl ?_
      have e : ownS wd as (.e n nm ms ks) (z.ahead.getD k none) (z.after.getD k none) = !isNoneD (strO (findM pt.mks (as.getD 0 ""))) := by
        unfold ownS; rw [if_neg n1, if_pos c, ← hpt2]
        cases findM pt.mks (as.getD 0 "") <;> rfl
      rw [e]
      exact gdo (gd_moA gp (by rw [hpt2]; rfl) (gd_tup_at (i := 2) (k := 0) rfl dw3 (one c (by decide +kernel))) (by rw [hpt2]; exact hnd)) gd_non go_notN
    have n2 : wd ≠ "mark" := of_decide_eq_false c
    refine s_ifr (K := K) gte (P3.gh.trans (s4.trans s5)) (fun c H6 s6 => ?_) fun c H6 s6 => ?_
    · have c := of_decide_eq_true c
      refine ret (s4.trans (s5.trans s6)) rfl ?_
      have e : ownS wd as (.e n nm ms ks) (z.ahead.getD k none) (z.after.getD k none) = decide (findM pt.mks (as.getD 0 "") = some (as.getD 1 "")) := by
        unfold ownS; rw [if_neg n1, if_neg n2, if_pos c, ← hpt2]
      rw [e]
      have h2 : as.length = 2 := by rw [hal, c]; decide +kernel
      exact gdo (gd_moA gp (by rw [hpt2]; rfl) (gd_tup_at (i := 2) (k := 0) rfl dw3 (by omega)) (by rw [hpt2]; exact hnd)) (gd_tup_at (i := 2) (k := 1) rfl dw3 (by omega)) go_eqO
    have n3 : wd ≠ "value" := of_decide_eq_false c
    have s46 := s4.trans (s5.trans s6)
    refine s_ifr (K := K) gte (P3.gh.trans s46) (fun c H7 s7 => ?_) fun c H7 s7 => ?_
    · have c := of_decide_eq_true c
      refine ret (s46.trans s7) rfl ?_
      have e : ownS wd as (.e n nm ms ks) (z.ahead.getD k none) (z.after.getD k none) = ks.any fun c => !c.isE && decide (c.tx = as.getD 0 "") := by
        unfold ownS; rw [if_neg n1, if_neg n2, if_neg n3, if_pos c]; rfl
      rw [e]
      refine gd_cb (ga_cons (gd_lc (K := K) (k := 4) (em := Sh.toD) (xs := ks) (f := fun c => PyData.bool (!c.isE && decide (c.tx = as.getD 0 ""))) (gi_seqT (gdo (gd_var (i := 3) rfl dve) gd_int (go_ixT (atI_nat (j := 4) rfl)))) (by omega) fun i c' hc v' G8 H8 p8 dv8 => ?_) ga_nil) gc_anyM
      obtain ⟨r, er⟩ := sh_tag (c := c')
      have dv9 : Dv K G8 v' (.tuple (.str (if c'.isE then "e" else "t") :: ofN c'.num :: .str c'.tx :: r)) := by rw [← er]; exact dv8
      have et : (!c'.isE) = decide ((if c'.isE then "e" else "t" : Str) = "t") := by cases c'.isE <;> decide +kernel
      rw [et]
      exact gd_andB (gdo (K := K) (gdo (gd_var rfl dv9) gd_int (go_ixT (atI_nat (j := 0) rfl))) gd_str go_eqS) fun _ => gdo (K := K) (gdo (gd_var rfl dv9) gd_int (go_ixT (atI_nat (j := 2) rfl))) (gd_tup_at (i := 2) (k := 0) rfl (dw3.to p8.hg) (one c (by decide +kernel))) go_eqS
    have n4 : wd ≠ "text" := of_decide_eq_false c
    refine s_ifr (K := K) gte (P3.gh.trans (s46.trans s7)) (fun c H8 s8 => ?_) fun c H8 s8 => ?_
    · have c := of_decide_eq_true c
      refine ret (s46.trans (s7.trans s8)) rfl ?_
      have e : ownS wd as (.e n nm ms ks) (z.ahead.getD k none) (z.after.getD k none) = isNoneD (upD (z.ahead.getD k none)) := by
        unfold ownS; rw [if_neg n1, if_neg n2, if_neg n3, if_neg n4, if_pos c]
        cases z.ahead.getD k none <;> rfl
      rw [e]
      exact gdo (gd_upAt ((ph3.to (.refl _) (s46.trans (s7.trans s8))).ga C (j := 0) rfl) (gd_var (i := 1) rfl (.int (k : Int))) (by rw [ok.la]; exact hk)) gd_non go_isN
    have n5 : wd ≠ "first" := of_decide_eq_false c
    have s48 := s46.trans (s7.trans s8)
    refine s_ifr (K := K) gte (P3.gh.trans s48) (fun c H9 s9 => ?_) fun c H9 s9 => ?_
    · have c := of_decide_eq_true c
      refine ret (s48.trans s9) rfl ?_
      have e : ownS wd as (.e n nm ms ks) (z.ahead.getD k none) (z.after.getD k none) = isNoneD (upD (z.after.getD k none)) := by
        unfold ownS; rw [if_neg n1, if_neg n2, if_neg n3, if_neg n4, if_neg n5, if_pos c]
        cases z.after.getD k none <;> rfl
      rw [e]
      exact gdo (gd_upAt ((ph3.to (.refl _) (s48.trans s9)).gf C (j := 0) rfl) (gd_var (i := 1) rfl (.int (k : Int))) (by rw [ok.lf]; exact hk)) gd_non go_isN
    have n6 : wd ≠ "last" := of_decide_eq_false c
    refine s_ifr (K := K) gte (P3.gh.trans (s48.trans s9)) (fun c Ha sa => ?_) fun c Ha sa => ?_
    · have c := of_decide_eq_true c
      refine ret (s48.trans (s9.trans sa)) rfl ?_
      have e : ownS wd as (.e n nm ms ks) (z.ahead.getD k none) (z.after.getD k none) = !truD (.tuple (ks.map Sh.toD)) := by
        unfold ownS; rw [if_neg n1, if_neg n2, if_neg n3, if_neg n4, if_neg n5, if_neg n6, if_pos c]
        cases ks <;> rfl
      rw [e]
      exact gd_notT (gdo (gd_var (i := 3) rfl dve) gd_int (go_ixT (atI_nat (j := 4) rfl)))
    have n7 : wd ≠ "empty" := of_decide_eq_false c
    refine ret (s48.trans (s9.trans sa)) rfl ?_
    have e : ownS wd as (.e n nm ms ks) (z.ahead.getD k none) (z.after.getD k none) = true := by
      unfold ownS; rw [if_neg n1, if_neg n2, if_neg n3, if_neg n4, if_neg n5, if_neg n6, if_neg n7]
    rw [e]
    exact gd_bl
end
end LW
end
section
set_option Elab.async false
set_option linter.all false
set_option maxRecDepth 100000
set_option maxHeartbeats 4000000
namespace LM
open PySem DL
open Tst
theorem kind_4 {w : Str} : w ∈ lawL4 ↔ lawKind w = 4 := by
  constructor
  · have : ∀ x ∈ lawL4, lawKind x = 4 := by decide +kernel
    exact this w
  · intro h
    unfold lawKind at h
    split at h
    · cases h
    split at h
    · cases h
    split at h
    · cases h
    split at h
    · cases h
    split at h
    · assumption
    split at h <;> cases h
theorem kind_5 {w : Str} : w ∈ lawL5 ↔ lawKind w = 5 := by
  constructor
  · have : ∀ x ∈ lawL5, lawKind x = 5 := by decide +kernel
    exact this w
  · intro h
    unfold lawKind at h
    split at h
    · cases h
    split at h
    · cases h
    split at h
    · cases h
    split at h
    · cases h
    split at h
    · cases h
    split at h
    · assumption
    · cases h
/-- which of the three a well formed test is, told by its word -/
theorem shape_of {t : Tst} (h : WF t) : (wD t.toD ∈ lawL4 ∧ ∃ w, t = many w t.kids) ∨ (wD t.toD ∉ lawL4 ∧ wD t.toD ∈ lawL5 ∧ ∃ w s, t = un w s) ∨ (wD t.toD ∉ lawL4 ∧ wD t.toD ∉ lawL5 ∧ t.kids = []) := by
  rw [kind_4, kind_5]
  cases t with
  | leaf w as =>
    unfold WF at h
    have e : wD (leaf w as).toD = w := by rw [toD_leaf]; rfl
    rw [e]
    exact .inr (.inr ⟨by omega, by omega, rfl⟩)
  | un w t =>
    unfold WF at h
    have e : wD (un w t).toD = w := by rw [toD_un]; rfl
    rw [e]
    exact .inr (.inl ⟨by omega, h.1, _, _, rfl⟩)
  | many w ts =>
    unfold WF at h
    have e : wD (many w ts).toD = w := by rw [toD_many]; rfl
    rw [e]
    exact .inl ⟨h.1, _, rfl⟩
/-- the texts that stand in l for the first time -/
def firstS (l : List Str) (i : Nat) : List Str := (((List.range i).map fun k => (k, l.getD k "")).filter fun p => !decide (p.2 ∈ l.take p.1)).map (·.2)
theorem firstS_ok (l : List Str) : ∀ i, i ≤ l.length → (firstS l i).Nodup ∧ ∀ x, x ∈ firstS l i ↔ x ∈ l.take i
  | 0, _ => ⟨List.nodup_nil, fun x => by rw [List.take_zero]; exact Iff.rfl⟩
  | i + 1, h => by
    obtain ⟨n, m⟩ := firstS_ok l i (by omega)
    have hx : l.getD i "" = l[i]'(by omega) := by rw [List.getD_eq_getElem?_getD, List.getElem?_eq_getElem (by omega)]; rfl
    have ht : l.take (i + 1) = l.take i ++ [l[i]'(by omega)] := by rw [List.take_add_one, List.getElem?_eq_getElem (by omega)]; rfl
    have e : firstS l (i + 1) = firstS l i ++ (if l[i]'(by omega) ∈ l.take i then [] else [l[i]'(by omega)]) := by
      unfold firstS
      rw [List.range_succ, List.map_append, List.filter_append, List.map_append]
      congr 1
      show ((List.filter _ [(i, l.getD i "")]).map (·.2)) = _
      rw [hx, List.filter_cons]
      by_cases c : l[i]'(by omega) ∈ l.take i
      · rw [if_pos c, if_neg (by simp [c])]; rfl
      · rw [if_neg c, if_pos (by simp [c])]; rfl
    rw [e, ht]
    by_cases c : l[i]'(by omega) ∈ l.take i
    · rw [if_pos c, List.append_nil]
      refine ⟨n, fun x => (m x).trans ?_⟩
      rw [List.mem_append]
      exact ⟨.inl, fun h => h.elim id fun h => by rw [List.mem_singleton.mp h]; exact c⟩
    · rw [if_neg c]
      refine ⟨?_, fun x => by rw [List.mem_append, List.mem_append, m]⟩
      rw [List.nodup_append]
      refine ⟨n, by simp, fun x hx y hy e => c ?_⟩
      rw [← List.mem_singleton.mp hy, ← e]
      exact (m x).mp hx
end LM
namespace LW
open PySem PySem.Spec PyProof.Rows L2 DL LM
section
variable {P : Program} {W : World} {K : PySem.W.Frag} {mg : Str → Option Value} {base : Heap} {f : Addr} {fd : FuncData} {A A2 H H' H0 H1 H2 G G2 Hc : Hp} {σ : L2.St} {t te td tn tv t1 t2 : TE} {tr : TS} {ts : TS} {tt : TT} {D : Ends} {tA : TA} {n i j : Nat} {p b : Addr} {xs ys : List V} {v : V} {d : PyData} {ds es : List PyData}
open Tst
structure Bq (mg : Str → Option Value) : Prop extends Bx mg where
  enumerate : mg "enumerate" = none
noncomputable def metD (t : Tst) : PyData := .list ((metT 300 [t] []).map toD)
def arS1 : List Str → List PyData := fun l => [.list (l.map .str)]
noncomputable def fOnce (l : List Str) : PyData := .list ((srtS l).map .str)
def enumT (ds : List PyData) : List PyData := (List.range ds.length).map fun i => .tuple [ofN i, ds.getD i .none]
theorem enumT_get {ds : List PyData} {i : Nat} {d : PyData} (h : ds[i]? = some d) : (enumT ds)[i]? = some (.tuple [ofN i, d]) := by
  have hl := (List.getElem?_eq_some_iff.mp h).1
  unfold enumT
  rw [List.getElem?_map, List.getElem?_range hl]
  show some (PyData.tuple [ofN i, ds.getD i .none]) = _
  rw [List.getD_eq_getElem?_getD, h]; rfl
theorem enumT_len {ds : List PyData} : (enumT ds).length = ds.length := by unfold enumT; rw [List.length_map, List.length_range]
theorem runs_enumT {a : Addr} (s : SqL K G a xs) (h : DvA K G xs ds) : Runs K (Ite K a) G (enumT ds) where
  go := fun i H e hi => by
    rw [enumT_len] at hi
    exact ⟨xs, xs[i]'(by rw [DvA.len h]; exact hi), e.seq s, List.getElem?_eq_getElem _⟩
  stop := fun i H e hi => by
    rw [enumT_len] at hi
    exact ⟨xs, e.seq s, by rw [DvA.len h]; exact hi⟩
  yld := fun i H x H' G' e e2 hi hy => by
    obtain ⟨T, y, rfl, hn, rfl, hx⟩ := hy
    obtain ⟨d, hd, dy⟩ := DvA.getv h (hx xs ((e.trans e2).seq s))
    obtain ⟨p, dz⟩ := zip_yld (K := K) (a := ofN i) e2 hn (.int (i : Int)) (dy.to e)
    exact ⟨_, _, enumT_get hd, p, dz⟩
theorem gi_enumT (ga : GA K tA σ H A [.list ds]) : GI K (iEnum K tA) σ H A (enumT ds) := fun H0 H1 e R q => ga.to e fun vs G H2 p dv => by
  obtain ⟨v, rfl, d1⟩ := DvA.inv1 dv
  obtain ⟨a, xs, rfl, s, da⟩ := Dv.lst_inv d1
  exact ⟨a, xs, rfl, .inl (rd_same p.gh s), q _ G H2 p (runs_enumT (.inl s) da)⟩
theorem enumT_strs (l : List Str) : enumT (l.map .str) = ((List.range l.length).map fun k => (k, l.getD k "")).map fun p => .tuple [ofN p.1, .str p.2] := by
  unfold enumT
  rw [List.length_map, List.map_map]
  refine List.map_congr_left fun i hi => ?_
  have hi := List.mem_range.mp hi
  show PyData.tuple [ofN i, (l.map PyData.str).getD i .none] = .tuple [ofN i, .str (l.getD i "")]
  rw [List.getD_eq_getElem?_getD, List.getElem?_map, List.getElem?_eq_getElem hi, List.getD_eq_getElem?_getD, List.getElem?_eq_getElem hi]; rfl
end
end LW
end
section
set_option Elab.async false
set_option linter.all false
set_option maxRecDepth 100000
set_option maxHeartbeats 4000000
namespace LM
open PySem DL
open Tb
structure Plc.OkI (z : Plc) : Prop where
  up : ∀ (i q : Nat), z.up[i]? = some (some q) → q < i
  ah : ∀ (i q : Nat), z.ahead[i]? = some (some q) → q < i
  inn : ∀ r ∈ z.inner, r.length ≤ 1000 ∧ ∀ c ∈ r, c < z.ps.length
def Tst.args : Tst → List Str
  | .leaf _ as => as
  | _ => []
def JW : List Str := ["not", "both", "one"]
def heldL (z : Plc) (w : Str) (as : List Str) (rows : List (List Bool)) : List Bool :=
  if w ∈ JW then joinL w rows z.ps.length
  else if w = "under" then besideL z.up (rows.headD [])
  else if w = "in" then alongL z.up (rows.headD [])
  else if w = "next" then besideL z.ahead (rows.headD [])
  else if w = "behind" then alongL z.ahead (rows.headD [])
  else if w = "over" then z.inner.map fun r => r.any fun c => (rows.headD []).getD c false
  else if w = "has" then belowL z.inner (rows.headD [])
  else (List.range z.ps.length).map fun k => ownS w as (z.ps.getD k (.t 0 "")) (z.ahead.getD k none) (z.after.getD k none)
end LM
namespace LW
open PySem PySem.Spec PyProof.Rows L2 DL LM
section
variable {P : Program} {W : World} {K : PySem.W.Frag} {mg : Str → Option Value} {base : Heap} {f : Addr} {fd : FuncData} {CP : Addr} {A A2 H H' H0 H1 H2 G G2 Hc : Hp} {σ : L2.St} {t te td tn tv t1 t2 : TE} {tr : TS} {ts : TS} {tt : TT} {D : Ends} {tA : TA} {n i j : Nat} {p b x : Addr} {xs ys : List V} {v : V} {d : PyData} {ds es : List PyData}
open Tst Tb
def spHd (K : PySem.W.Frag) (CP : Addr) : Sp := fun vs H Q _ => ∃ (x : Addr) (u w : V) (G : Hp) (z : Plc) (t : Tst) (rows : List (List Bool)), vs = [.ref x, u, w] ∧ Same G H ∧ PlcH K CP G H x z ∧ z.Ok ∧ z.OkI ∧ Dv K G u t.toD ∧ WF t ∧ Dv K G w (rowsD rows) ∧ rows.length = t.kids.length ∧ rows.length ≤ 1000 ∧ (t.args = [] → lawKind (wD t.toD) = 4 → rows ≠ []) ∧ (∀ r ∈ rows, r.length = z.ps.length) ∧
  ∀ y G' H', Pub G H G' H' → Dv K G' y (blsD (heldL z (wD t.toD) t.args rows)) → Q y H'
abbrev s_held : Stmt := topS 16
theorem sc_held : FnScope ["places", "test", "inner", "word", "children", "child", "place"] ["places", "test", "inner"] (defScope s_held) := ⟨rfl, rfl, rfl, by decide +kernel, rfl, by decide +kernel, by decide +kernel⟩
theorem ok_held (T : Bx mg) (C : PC K CP) (F : Fun K "_held" "_held" s_held f fd) (c_joined : Cal P W K mg base 1 "_joined" (spA K 2 arJn preJn fun x => blsD (joinL x.1 x.2.1 x.2.2))) (c_beside : Cal P W K mg base 1 "_beside" (spA K 2 arNb preNb fun x => blsD (besideL x.1 x.2)))
    (c_along : Cal P W K mg base 1 "_along" (spA K 2 arNb preAl fun x => blsD (alongL x.1 x.2))) (c_below : Cal P W K mg base 1 "_below" (spA K 2 arBl preBl fun x => blsD (belowL x.1 x.2))) (c_holds : Cal P W K mg base 2 "_holds" (spHo K CP)) : FnOk P W K mg base CX0 3 f fd ["places", "test", "inner"] (spHd K CP) := by
  refine F.ok sc_held (fun vs H Q E h => ?_) (fun cdv A outer s H vs Q E hr h => ?_)
  · obtain ⟨_, _, _, _, _, _, _, rfl, _⟩ := h
    rfl
  obtain ⟨x, u, w, G, z, t, rows, rfl, sm, ph, ok, oki, du, wf, dr, hrl, hrz, hne4, hrn, q⟩ := h
  refine ⟨_, (pss_cons (ps_set (i := 3) sc_held.nd rfl (Or.inl rfl) (pe_ix ix_seq (pv 1) pe_int (fun _ _ => rfl)))
      (pss_cons (ps_if (pt_cmpR op_in_seq (pv 3) (RR.pe_tupF (pa_cons pe_str (pa_cons pe_str (pa_cons pe_str pa_nil)))) (by rfl)) (pss_one (ps_ret (pe_k c_joined hr (by omega) (pa_cons (pv 3) (pa_cons (pv 2) pa_nil))))) pss_nil)
      (pss_cons (ps_if (pt_cmpR (op_eqA hr.units) (pv 3) pe_str (nomark _)) (pss_one (ps_ret (pe_k c_beside hr (by omega) (pa_cons (pe_fld (pv 0) rfl) (pa_cons (pe_ix ix_seq (pv 2) pe_int (fun _ _ => rfl)) pa_nil))))) pss_nil)
      (pss_cons (ps_if (pt_cmpR (op_eqA hr.units) (pv 3) pe_str (nomark _)) (pss_one (ps_ret (pe_k c_along hr (by omega) (pa_cons (pe_fld (pv 0) rfl) (pa_cons (pe_ix ix_seq (pv 2) pe_int (fun _ _ => rfl)) pa_nil))))) pss_nil)
      (pss_cons (ps_if (pt_cmpR (op_eqA hr.units) (pv 3) pe_str (nomark _)) (pss_one (ps_ret (pe_k c_beside hr (by omega) (pa_cons (pe_fld (pv 0) rfl) (pa_cons (pe_ix ix_seq (pv 2) pe_int (fun _ _ => rfl)) pa_nil))))) pss_nil)
      (pss_cons (ps_if (pt_cmpR (op_eqA hr.units) (pv 3) pe_str (nomark _)) (pss_one (ps_ret (pe_k c_along hr (by omega) (pa_cons (pe_fld (pv 0) rfl) (pa_cons (pe_ix ix_seq (pv 2) pe_int (fun _ _ => rfl)) pa_nil))))) pss_nil)
      (pss_cons (ps_if (pt_cmpR (op_eqA hr.units) (pv 3) pe_str (nomark _)) (pss_one (ps_ret (pe_lc (own := [("children", 4)]) (by rfl) sc_held.nd (pi_seq (pe_fld (pv 0) rfl)) (blkOk_by (own := [("children", 4)]) (N := ["places", "test", "inner", "word", "children", "child", "place"]) (sc := defScope s_held) (by decide +kernel)) (fun _ _ _ _ _ => (pg_name (i := 4) sc_held.nd rfl (Or.inl rfl))) (fun _ _ _ _ _ => pts_nil) (fun _ _ _ _ _ => (pe_callB (cr_anyK K rfl) (by rfl) T.any (by decide +kernel) (pa_cons (pe_lc (scope := ({ kind := .function, names := [(".0", .local), ("child", .local), ("inner", .free)], isGenerator := false, isCoroutine := false } : Scope)) (own := [("child", 5)]) (by rfl) sc_held.nd (pi_seqK K (pv 4)) (by exact blkOk_by (scope := ({ kind := .function, names := [(".0", .local), ("child", .local), ("inner", .free)], isGenerator := false, isCoroutine := false } : Scope)) (own := [("child", 5)]) (N := ["places", "test", "inner", "word", "children", "child", "place"]) (sc := ({ kind := .function, names := [(".0", .local), ("children", .local), ("any", .globalImplicit), ("inner", .cell)], isGenerator := false, isCoroutine := false } : Scope)) (by decide +kernel)) (fun _ _ _ _ _ => (pg_name (i := 5) sc_held.nd rfl (Or.inl rfl))) (fun _ _ _ _ _ => pts_nil) (fun _ _ _ _ _ => (pe_ix (ix_seqK K) (pe_ix (ix_seqK K) (pv 2) pe_int (fun _ _ => rfl)) (pv 5) (fun _ _ => rfl)))) pa_nil)))))) pss_nil)
      (pss_cons (ps_if (pt_cmpR (op_eqA hr.units) (pv 3) pe_str (nomark _)) (pss_one (ps_ret (pe_k c_below hr (by omega) (pa_cons (pe_fld (pv 0) rfl) (pa_cons (pe_ix ix_seq (pv 2) pe_int (fun _ _ => rfl)) pa_nil))))) pss_nil)
      (pss_one (ps_ret (pe_lc (own := [("place", 6)]) (by rfl) sc_held.nd (pi_range1 (by rfl) T.range (pa_cons (pe_callB cr_len (by rfl) T.len PySem.boot_len (pa_cons (pe_fld (pv 0) rfl) pa_nil)) pa_nil)) (blkOk_by (own := [("place", 6)]) (N := ["places", "test", "inner", "word", "children", "child", "place"]) (sc := defScope s_held) (by decide +kernel)) (fun _ _ _ _ _ => (pg_name (i := 6) sc_held.nd rfl (Or.inl rfl))) (fun _ _ _ _ _ => pts_nil) (fun _ _ _ _ _ => (pe_k c_holds hr (by omega) (pa_cons (pv 0) (pa_cons (pv 6) (pa_cons (pv 1) pa_nil)))))))))))))))), ?_⟩
  refine s_set (K := K) (d := .str (wD t.toD)) (gd_w0 (i := 1) rfl du) sm fun v3 G3 H3 P3 dv3 => ?_
  obtain ⟨wd, hwd⟩ : ∃ wd, wd = wD t.toD := ⟨_, rfl⟩
  rw [← hwd] at dv3 q hne4
  have ev3 := Dv.str_inv dv3
  subst ev3
  have du := du.to P3.hg
  have dr := dr.to P3.hg
  have ph := ph.to P3.hg P3.hh
  have zl := ok.len
  have ret : ∀ {te : TE} {H' : Hp} {D : Ends}, Same H3 H' → D.rt = Q → GD K te [some (.ref x), some u, some w, some (.str wd), none, none, none] G3 H' (blsD (heldL z wd t.args rows)) → tRet te D [some (.ref x), some u, some w, some (.str wd), none, none, none] H' := fun {te H' D} sh hD g =>
    s_ret (K := K) g (P3.gh.trans sh) fun y G4 H4 P4 dy => by
      rw [hD]
      exact q y G4 H4 ((P3.test sh).trans P4) dy
  have un_ne : wd ∈ lawL5 → rows ≠ [] := fun h e => by
    rcases shape_of wf with ⟨h4, _⟩ | ⟨_, _, w, s, rfl⟩ | ⟨_, h5, _⟩
    · rw [← hwd] at h4
      have : ∀ x ∈ lawL4, x ∉ lawL5 := by decide +kernel
      exact this _ h4 h
    · rw [e] at hrl
      have : (0 : Nat) = 1 := hrl
      omega
    · rw [← hwd] at h5
      exact h5 h
  have hd0 : rows ≠ [] → (rows.headD []).length = z.ps.length := fun h => by
    cases rows with
    | nil => exact absurd rfl h
    | cons r rows => exact hrn r List.mem_cons_self
  have grow : ∀ {H' : Hp}, rows ≠ [] → GD K (tOp (rIx K) (tVar 2) (tC (.int 0))) [some (.ref x), some u, some w, some (.str wd), none, none, none] G3 H' (blsD (rows.headD [])) := fun {H'} h => gd_row0 (gd_var (i := 2) rfl dr) h
  have gte : ∀ {s : Str} {H' : Hp}, GT (tTest (tOp (rEqA K) (tVar 3) (tC (.str s)))) [some (.ref x), some u, some w, some (.str wd), none, none, none] G3 H' (decide (wd = s)) := fun {s H'} => gt_test (gdo (K := K) (gd_var (i := 3) rfl (.str wd)) gd_str go_eqS)
  have gin := gt_test (gdo (K := K) (A := H3) (H := G3) (gd_var (σ := [some (.ref x), some u, some w, some (.str wd), none, none, none]) (i := 3) rfl (.str wd)) (gd_tup (ga_cons gd_str (ga_cons gd_str (ga_cons gd_str ga_nil)))) (go_inT (x := .str wd) (xs := JW.map V.str) rfl rfl))
  rw [inV_strs] at gin
  refine s_ifr (K := K) gin P3.gh (fun c H4 s4 => ?_) fun c H4 s4 => ?_
  · have c := of_decide_eq_true c
    refine ret s4 rfl ?_
    have e : heldL z wd t.args rows = joinL wd rows z.ps.length := by unfold heldL; rw [if_pos c]
    rw [e]
    have hne : rows ≠ [] := by
      rcases shape_of wf with ⟨h4, w', es⟩ | ⟨_, h5, _⟩ | ⟨h4, h5, _⟩
      · rw [← hwd] at h4
        exact hne4 (by rw [es]; rfl) (kind_4.mp h4)
      · rw [← hwd] at h5; exact un_ne h5
      · rw [← hwd] at h4 h5
        have : ∀ x ∈ JW, x ∈ lawL4 ∨ x ∈ lawL5 := by decide +kernel
        rcases this _ c with h | h
        · exact absurd h h4
        · exact absurd h h5
    exact gd_callA (K := K) (ar := arJn) (Pre := preJn) (f := fun x => blsD (joinL x.1 x.2.1 x.2.2)) (n := 2) (wd, rows, z.ps.length) (ga_cons (gd_var (i := 3) rfl (.str wd)) (ga_cons (gd_var (i := 2) rfl dr) ga_nil)) rfl ⟨hne, hrz, zl, hrn⟩
  have n0 : wd ∉ JW := of_decide_eq_false c
  have upre : ∀ q, some q ∈ z.up → q < z.ps.length := fun q hq => by
    obtain ⟨i, hi⟩ := List.getElem?_of_mem hq
    have := oki.up i q hi
    have hl := (List.getElem?_eq_some_iff.mp hi).1
    rw [ok.lu] at hl
    omega
  have apre : ∀ q, some q ∈ z.ahead → q < z.ps.length := fun q hq => by
    obtain ⟨i, hi⟩ := List.getElem?_of_mem hq
    have := oki.ah i q hi
    have hl := (List.getElem?_eq_some_iff.mp hi).1
    rw [ok.la] at hl
    omega
  refine s_ifr (K := K) gte (P3.gh.trans s4) (fun c H5 s5 => ?_) fun c H5 s5 => ?_
  · have c := of_decide_eq_true c
    have hne := un_ne (by rw [c]; decide +kernel)
    refine ret (s4.trans s5) rfl ?_
    have e : heldL z wd t.args rows = besideL z.up (rows.headD []) := by unfold heldL; rw [if_neg n0, if_pos c]
    rw [e]
    exact gd_callA (K := K) (ar := arNb) (Pre := preNb) (f := fun x => blsD (besideL x.1 x.2)) (n := 2) (z.up, rows.headD []) (ga_cons ((ph.to (.refl _) (s4.trans s5)).gu C (j := 0) rfl) (ga_cons (grow hne) ga_nil)) rfl ⟨by show z.up.length ≤ 1000; rw [ok.lu]; exact zl, fun q hq => by rw [hd0 hne]; exact upre q hq⟩
  have n1 : wd ≠ "under" := of_decide_eq_false c
  have s45 := s4.trans s5
  refine s_ifr (K := K) gte (P3.gh.trans s45) (fun c H6 s6 => ?_) fun c H6 s6 => ?_
  · have c := of_decide_eq_true c
    have hne := un_ne (by rw [c]; decide +kernel)
    refine ret (s45.trans s6) rfl ?_
    have e : heldL z wd t.args rows = alongL z.up (rows.headD []) := by unfold heldL; rw [if_neg n0, if_neg n1, if_pos c]
    rw [e]
    exact gd_callA (K := K) (ar := arNb) (Pre := preAl) (f := fun x => blsD (alongL x.1 x.2)) (n := 2) (z.up, rows.headD []) (ga_cons ((ph.to (.refl _) (s45.trans s6)).gu C (j := 0) rfl) (ga_cons (grow hne) ga_nil)) rfl ⟨by show z.up.length ≤ 1000; rw [ok.lu]; exact zl, by show z.up.length = _; rw [hd0 hne]; exact ok.lu, oki.up⟩
  have n2 : wd ≠ "in" := of_decide_eq_false c
  have s46 := s45.trans s6
  refine s_ifr (K := K) gte (P3.gh.trans s46) (fun c H7 s7 => ?_) fun c H7 s7 => ?_
  · have c := of_decide_eq_true c
    have hne := un_ne (by rw [c]; decide +kernel)
    refine ret (s46.trans s7) rfl ?_
    have e : heldL z wd t.args rows = besideL z.ahead (rows.headD []) := by unfold heldL; rw [if_neg n0, if_neg n1, if_neg n2, if_pos c]
    rw [e]
    exact gd_callA (K := K) (ar := arNb) (Pre := preNb) (f := fun x => blsD (besideL x.1 x.2)) (n := 2) (z.ahead, rows.headD []) (ga_cons ((ph.to (.refl _) (s46.trans s7)).ga C (j := 0) rfl) (ga_cons (grow hne) ga_nil)) rfl ⟨by show z.ahead.length ≤ 1000; rw [ok.la]; exact zl, fun q hq => by rw [hd0 hne]; exact apre q hq⟩
  have n3 : wd ≠ "next" := of_decide_eq_false c
  have s47 := s46.trans s7
  refine s_ifr (K := K) gte (P3.gh.trans s47) (fun c H8 s8 => ?_) fun c H8 s8 => ?_
  · have c := of_decide_eq_true c
    have hne := un_ne (by rw [c]; decide +kernel)
    refine ret (s47.trans s8) rfl ?_
    have e : heldL z wd t.args rows = alongL z.ahead (rows.headD []) := by unfold heldL; rw [if_neg n0, if_neg n1, if_neg n2, if_neg n3, if_pos c]
    rw [e]
    exact gd_callA (K := K) (ar := arNb) (Pre := preAl) (f := fun x => blsD (alongL x.1 x.2)) (n := 2) (z.ahead, rows.headD []) (ga_cons ((ph.to (.refl _) (s47.trans s8)).ga C (j := 0) rfl) (ga_cons (grow hne) ga_nil)) rfl ⟨by show z.ahead.length ≤ 1000; rw [ok.la]; exact zl, by show z.ahead.length = _; rw [hd0 hne]; exact ok.la, oki.ah⟩
  have n4 : wd ≠ "behind" := of_decide_eq_false c
  have s48 := s47.trans s8
  refine s_ifr (K := K) gte (P3.gh.trans s48) (fun c H9 s9 => ?_) fun c H9 s9 => ?_
  · have c := of_decide_eq_true c
    have hne := un_ne (by rw [c]; decide +kernel)
    refine ret (s48.trans s9) rfl ?_
    have e : heldL z wd t.args rows = z.inner.map fun r => r.any fun c => (rows.headD []).getD c false := by unfold heldL; rw [if_neg n0, if_neg n1, if_neg n2, if_neg n3, if_neg n4, if_pos c]
    rw [e]
    show GD K _ _ G3 H9 (.list ((z.inner.map fun r => r.any fun c => (rows.headD []).getD c false).map .bool))
    rw [List.map_map]
    refine gd_lc (K := K) (k := 4) (em := natsD) (xs := z.inner) (gi_seqL ((ph.to (.refl _) (s48.trans s9)).gi C (j := 0) rfl)) (by rw [ok.li]; omega) fun i r hi v' Ga Ha pa dva => ?_
    obtain ⟨hr1, hr2⟩ := oki.inn r (List.mem_of_getElem? hi)
    refine gd_cb (ga_cons (gd_lc (K := K) (k := 5) (em := ofN) (xs := r) (f := fun c => PyData.bool ((rows.headD []).getD c false)) (gi_seqL (gd_var rfl dva)) (by omega) fun i2 c2 hc2 v2 Gb Hb pb dvb => ?_) ga_nil) gc_anyM
    have hlt := hr2 c2 (List.mem_of_getElem? hc2)
    exact gd_bAt (gd_row0 (gd_var rfl (dr.to (pa.hg.trans pb.hg))) hne) (gd_var rfl dvb) (by rw [hd0 hne]; exact hlt)
  have n5 : wd ≠ "over" := of_decide_eq_false c
  have s49 := s48.trans s9
  refine s_ifr (K := K) gte (P3.gh.trans s49) (fun c Ha sa => ?_) fun c Ha sa => ?_
  · have c := of_decide_eq_true c
    have hne := un_ne (by rw [c]; decide +kernel)
    refine ret (s49.trans sa) rfl ?_
    have e : heldL z wd t.args rows = belowL z.inner (rows.headD []) := by unfold heldL; rw [if_neg n0, if_neg n1, if_neg n2, if_neg n3, if_neg n4, if_neg n5, if_pos c]
    rw [e]
    exact gd_callA (K := K) (ar := arBl) (Pre := preBl) (f := fun x => blsD (belowL x.1 x.2)) (n := 2) (z.inner, rows.headD []) (ga_cons ((ph.to (.refl _) (s49.trans sa)).gi C (j := 0) rfl) (ga_cons (grow hne) ga_nil)) rfl ⟨by show z.inner.length ≤ 1000; rw [ok.li]; exact zl, by show z.inner.length = _; rw [hd0 hne]; exact ok.li, fun r hr => by
      obtain ⟨h1, h2⟩ := oki.inn r hr
      exact ⟨h1, fun c hc => by show c < z.inner.length; rw [ok.li]; exact h2 c hc⟩⟩
  have n6 : wd ≠ "has" := of_decide_eq_false c
  have s4a := s49.trans sa
  refine ret s4a rfl ?_
  have e : heldL z wd t.args rows = (List.range z.ps.length).map fun k => ownS wd t.args (z.ps.getD k (.t 0 "")) (z.ahead.getD k none) (z.after.getD k none) := by unfold heldL; rw [if_neg n0, if_neg n1, if_neg n2, if_neg n3, if_neg n4, if_neg n5, if_neg n6]
  rw [e]
  have hleaf : t = leaf wd t.args := by
    cases t with
    | leaf w as => 
      have : wd = w := by rw [hwd, toD_leaf]; rfl
      rw [this]; rfl
    | un w s =>
      unfold WF at wf
      have e1 : wd = w := by rw [hwd, toD_un]; rfl
      have : wd ∈ lawL5 := kind_5.mpr (by rw [e1]; exact wf.1)
      have hL : ∀ x ∈ lawL5, x ∈ JW ∨ x = "under" ∨ x = "in" ∨ x = "next" ∨ x = "behind" ∨ x = "over" ∨ x = "has" := by decide +kernel
      rcases hL _ this with h | h | h | h | h | h | h
      · exact absurd h n0
      · exact absurd h n1
      · exact absurd h n2
      · exact absurd h n3
      · exact absurd h n4
      · exact absurd h n5
      · exact absurd h n6
    | many w ks =>
      unfold WF at wf
      have e1 : wd = w := by rw [hwd, toD_many]; rfl
      have : wd ∈ lawL4 := kind_4.mpr (by rw [e1]; exact wf.1)
      have hL : ∀ x ∈ lawL4, x ∈ JW := by decide +kernel
      exact absurd (hL _ this) n0
  have glen := gd_cb (K := K) (H := G3) (A := Ha) (ga_cons ((ph.to (.refl _) s4a).gp C (σ := [some (.ref x), some u, some w, some (.str wd), none, none, none]) (j := 0) rfl) ga_nil) gc_lenL
  rw [List.length_map] at glen
  have grng := gi_rng1 (K := K) (ga_cons glen ga_nil) (by omega) (by omega)
  rw [Int.toNat_natCast, upto_ofN] at grng
  show GD K _ _ G3 Ha (.list (((List.range z.ps.length).map fun k => ownS wd t.args (z.ps.getD k (.t 0 "")) (z.ahead.getD k none) (z.after.getD k none)).map .bool))
  rw [List.map_map]
  refine gd_lc (K := K) (k := 6) (em := ofN) (xs := List.range z.ps.length) grng (by rw [List.length_range]; omega) fun i k hk v' Gb Hb pb dvb => ?_
  have hkn : k < z.ps.length := List.mem_range.mp (List.mem_of_getElem? hk)
  intro Hx Hy px Q2 q2
  refine ⟨.ref x, rfl, v', rfl, u, rfl, ?_⟩
  show spHo K CP ([.ref x, v', u] ++ []) Hy Q2 E0
  have ee := pb.trans px
  refine ⟨x, v', u, Hx, z, k, wd, t.args, rfl, ee.gh, (ph.to ee.hg (s4a.trans ee.hh)), ok, (dvb.to px.hg), hkn, by rw [← hleaf]; exact du.to ee.hg, by rw [← hleaf]; exact wf, fun G' H' pp => q2 _ G' H' pp (.bl _)⟩
end
end LW
end
section
set_option Elab.async false
set_option linter.all false
set_option maxRecDepth 100000
set_option maxHeartbeats 8000000
namespace LM
open PySem DL
/-- the elements of a view in order, and what stands around them, as it is put together -/
def esOf (s : Sh) : List Sh := s.pre.filter Sh.isE
def enOf (s : Sh) : List Nat := (esOf s).map Sh.num
def innOf (s : Sh) : List (List Nat) := (esOf s).map fun p => (p.kids.filter Sh.isE).map fun c => (enOf s).idxOf c.num
def upS (p : Nat) (acc : List (Option Nat)) (row : List Nat) : List (Option Nat) := row.foldl (fun acc c => acc.set c (some p)) acc
def ahS (acc : List (Option Nat)) (row : List Nat) : List (Option Nat) := (row.zip row.tail).foldl (fun acc q => acc.set q.2 (some q.1)) acc
def afS (acc : List (Option Nat)) (row : List Nat) : List (Option Nat) := (row.zip row.tail).foldl (fun acc q => acc.set q.1 (some q.2)) acc
def upTo (rows : List (List Nat)) (n i : Nat) : List (Option Nat) := (List.range i).foldl (fun acc p => upS p acc (rows.getD p [])) (List.replicate n none)
def ahTo (rows : List (List Nat)) (n i : Nat) : List (Option Nat) := (List.range i).foldl (fun acc p => ahS acc (rows.getD p [])) (List.replicate n none)
def afTo (rows : List (List Nat)) (n i : Nat) : List (Option Nat) := (List.range i).foldl (fun acc p => afS acc (rows.getD p [])) (List.replicate n none)
def plcOf (s : Sh) : Plc := ⟨esOf s, innOf s, upTo (innOf s) (esOf s).length (esOf s).length, ahTo (innOf s) (esOf s).length (esOf s).length, afTo (innOf s) (esOf s).length (esOf s).length⟩
def upV : Option Nat → L2.V
  | none => .non
  | some n => .int (n : Int)
end LM
namespace LW
open PySem PySem.Spec PyProof.Rows L2 DL LM
section
variable {P : Program} {W : World} {K : PySem.W.Frag} {mg : Str → Option Value} {base : Heap} {f : Addr} {fd : FuncData} {CP dx : Addr} {A A2 H H' H0 H1 H2 G G2 Hc : Hp} {σ : L2.St} {t te td tn tv ti t1 t2 : TE} {tr : TS} {ts : TS} {tt : TT} {D : Ends} {tA : TA} {n i j : Nat} {p b x : Addr} {xs ys : List V} {v : V} {d : PyData} {ds es : List PyData}
open Tst Tb
theorem DvA.upv : ∀ {l : List (Option Nat)}, DvA K H (l.map upV) (l.map upD)
  | [] => .nil
  | none :: _ => .cons .non DvA.upv
  | some n :: _ => .cons (.int (n : Int)) DvA.upv
/-- a field of one's own instance, a datum -/
theorem s_fldD {fs : List (Str × V)} {fl : Str} (w : Own H0 H1 G H x (.ins CP dx fs)) (h0 : σ[j]? = some (some (.ref x))) (c : Cls K CP) (na : NoAttr K CP fl) (hl : fs.length < 1000) (g : GD K te σ G H d)
    (k : ∀ v G' Hx, Pub G H G' Hx → Own H0 H1 G' (upd Hx x (.ins CP dx (putF fl v fs))) x (.ins CP dx (putF fl v fs)) → Dv K G' v d → D.nx σ (upd Hx x (.ins CP dx (putF fl v fs)))) : sFld K (tVar j) te fl D σ H :=
  g.to (.refl w.gh) fun v G' H' P dv => ⟨.ref x, h0, x, CP, dx, fs, rfl, (w.step P).at_, c, na, hl, k v G' H' P ((w.step P).put _) dv⟩
theorem s_fldO {fs : List (Str × V)} {fl : Str} (w : Own H0 H1 G H x (.ins CP dx fs)) (h0 : σ[j]? = some (some (.ref x))) (c : Cls K CP) (na : NoAttr K CP fl) (hl : fs.length < 1000) (g : OWn K te σ G H ds)
    (k : ∀ q ys G' Hx, Own G H G' Hx q (.lst ys) → Own H0 H1 G' (upd Hx x (.ins CP dx (putF fl (.ref q) fs))) x (.ins CP dx (putF fl (.ref q) fs)) → DvA K G' ys ds → D.nx σ (upd Hx x (.ins CP dx (putF fl (.ref q) fs)))) : sFld K (tVar j) te fl D σ H :=
  g G H (.refl w.gh) _ fun q ys G' Hx wq dv => ⟨.ref x, h0, x, CP, dx, fs, rfl, (w.step wq.pub).at_, c, na, hl, k q ys G' Hx wq ((w.step wq.pub).put _) dv⟩
/-- {part[1]: place for place, part in enumerate(parts)} -/
theorem own_num {ps : List Sh} {k j : Nat} (hkj : k ≠ j) (hjl : j < σ.length) (hkl : k < σ.length) (hn : (ps.map Sh.num).Nodup) (z : ps.length ≤ 1000) (g : GD K te σ G H (.list (ps.map Sh.toD))) :
    ∀ H0 H1, Pub G H H0 H1 → ∀ Q : VK, (∀ (c : Addr) (kvs : List (Key × V)) (G' H2 : Hp), Own H0 H1 G' H2 c (.dK kvs) → (∀ (i : Nat) (p : Sh), ps[i]? = some p → valV kvs (.inl (p.num : Int)) = some (.int (i : Int))) → Q (.ref c) H2) →
      tDc (iEnum K (tCons te tNil)) (gTup K 2 (gCons (gName k) (gCons (gName j) gNil))) tYes (tOp (rIx K) (tVar j) (tC (.int 1))) (tVar k) [k, j] σ H1 Q := fun H0 H1 e Q kk => gi_enumT (ga_cons g ga_nil) H0 H1 e _ fun J B H2 pb r Dd hD => by
  refine ⟨fun i m Hx => m = ps.length - i ∧ i ≤ ps.length ∧ ∃ G' kvs, Own B H2 G' Hx Dd (.dK kvs) ∧ kvs.length ≤ i ∧ ∀ q p, q < i → ps[q]? = some p → valV kvs (.inl (p.num : Int)) = some (.int (q : Int)),
    ⟨ps.length, by simp, Nat.zero_le _, B, [], Own.new (.refl pb.gh) hD _, Nat.le_refl _, fun q p h => absurd h (Nat.not_lt_zero _)⟩, ?_⟩
  rintro i m Hx ⟨rfl, hi, G', kvs, w, hl, hv⟩
  have hel : (enumT (ps.map Sh.toD)).length = ps.length := by rw [enumT_len, List.length_map]
  by_cases hlt : i < ps.length
  · refine .inr ⟨r.go i Hx w.pub.same (by rw [hel]; exact hlt), fun H' => ∃ G' kvs, Own B H2 G' H' Dd (.dK kvs) ∧ kvs.length ≤ i + 1 ∧ ∀ q p, q < i + 1 → ps[q]? = some p → valV kvs (.inl (p.num : Int)) = some (.int (q : Int)), fun H' ⟨G2, k2, h⟩ => ⟨ps.length - (i + 1), by omega, rfl, hlt, G2, k2, h⟩, fun y H' hy => ?_⟩
    obtain ⟨d, G1, hd, p1, dx⟩ := r.yld i Hx y H' G' w.pub.hg w.gh (by rw [hel]; exact hlt) hy
    have hget : ps[i]? = some ps[i] := List.getElem?_eq_getElem hlt
    rw [enumT_get (i := i) (d := ps[i].toD) (by rw [List.getElem?_map, hget]; rfl)] at hd
    have hd := (Option.some.inj hd).symm
    subst hd
    have w1 := w.step p1
    obtain ⟨c, ws, rfl, sq, da⟩ := Dv.tup_inv dx
    obtain ⟨a, e, rfl, dxa, dxe⟩ := DvA.inv2 da
    have ea := Dv.int_inv dxa
    subst ea
    refine ⟨c, _, rfl, seqT w1.gh sq, rfl, _, _, rfl, e, _, rfl, rfl, wipe2 hkj, ?_⟩
    dsimp only [tYes]
    refine iteT ?_
    have hse : (((wipe σ [k, j]).set k (some (V.int (i : Int)))).set j (some e))[j]? = some (some e) := by
      rw [List.getElem?_set_self (by rw [List.length_set, wipe_length]; exact hjl)]
    have hsa : (((wipe σ [k, j]).set k (some (V.int (i : Int)))).set j (some e))[k]? = some (some (V.int (i : Int))) := by
      rw [List.getElem?_set_ne (Ne.symm hkj), List.getElem?_set_self (by rw [wipe_length]; exact hkl)]
    obtain ⟨rr, er⟩ := sh_tag (c := ps[i])
    have dxe' : Dv K G1 e (.tuple (.str (if ps[i].isE then "e" else "t") :: ofN ps[i].num :: .str ps[i].tx :: rr)) := by rw [← er]; exact dxe
    refine (gdo (K := K) (gd_var hse dxe') gd_int (go_ixT (atI_nat (j := 1) rfl))).to (.refl w1.gh) fun y5 G5 H5 p5 dy5 => ?_
    have ey := Dv.int_inv dy5
    subst ey
    have w5 := w1.step p5
    refine ⟨.int (i : Int), hsa, kvs, .inl (ps[i].num : Int), rfl, w5.at_, Nat.lt_of_le_of_lt (show kvs.length ≤ 1000 by omega) (by rw [sizeLine_eq]; decide), G5, putK kvs (.inl (ps[i].num : Int)) (.int (i : Int)), w5.put _, ?_, fun q p hq hp => ?_⟩
    · have := length_putK kvs (.inl (ps[i].num : Int)) (V.int (i : Int))
      omega
    · rw [valV_put]
      by_cases hqi : q = i
      · subst hqi
        rw [hget] at hp
        have e2 := Option.some.inj hp
        rw [if_pos (by rw [e2])]
      · rw [if_neg, hv q p (by omega) hp]
        intro e2
        have e3 : p.num = ps[i].num := by
          have := Sum.inl.inj e2
          omega
        obtain ⟨hq2, ep⟩ := List.getElem?_eq_some_iff.mp hp
        refine hqi ?_
        have := (List.getElem_inj (xs := ps.map Sh.num) (i := q) (j := i) (h₀ := by rw [List.length_map]; exact hq2) (h₁ := by rw [List.length_map]; exact hlt) hn).mp (by rw [List.getElem_map, List.getElem_map, ep]; exact e3)
        exact this
  · have hn2 : i = ps.length := by omega
    subst hn2
    exact .inl ⟨r.stop _ Hx w.pub.same (by rw [hel]; exact Nat.le_refl _), kk Dd kvs G' Hx ⟨pb.trans w.pub, w.at_, w.pg, pb.hh.free hD⟩ fun q p hp => hv q p (List.getElem?_eq_some_iff.mp hp).1 hp⟩
theorem s_numd {tr : TS} {ps : List Sh} {i k j : Nat} (hkj : k ≠ j) (hjl : j < σ.length) (hkl : k < σ.length) (hn : (ps.map Sh.num).Nodup) (z : ps.length ≤ 1000) (g : GD K te σ G H (.list (ps.map Sh.toD))) (s : Same G H)
    (kk : ∀ (c : Addr) (kvs : List (Key × V)) (G' H' : Hp), Own G H G' H' c (.dK kvs) → (∀ (i : Nat) (p : Sh), ps[i]? = some p → valV kvs (.inl (p.num : Int)) = some (.int (i : Int))) → tr D (σ.set i (some (.ref c))) H') :
    tSeq (tAsg (tDc (iEnum K (tCons te tNil)) (gTup K 2 (gCons (gName k) (gCons (gName j) gNil))) tYes (tOp (rIx K) (tVar j) (tC (.int 1))) (tVar k) [k, j]) (gName i)) tr D σ H := own_num hkj hjl hkl hn z g G H (.refl s) (fun v H' => tr D (σ.set i (some v)) H') kk
end
end LW
end
section
set_option Elab.async false
set_option linter.all false
set_option maxRecDepth 100000
set_option maxHeartbeats 8000000
namespace LM
open PySem DL
/-- a view whose places can be put together -/
structure Vw (s : Sh) : Prop where
  sz : s.size ≤ 1000
  uni : s.Uni
  mms : ∀ p ∈ s.pre, (p.mks.map (·.1)).Nodup ∧ p.kids.length ≤ 1000
theorem en_nodup {s : Sh} (h : Vw s) : (enOf s).Nodup := (List.Sublist.map Sh.num List.filter_sublist).nodup h.uni
theorem es_kid {s p c : Sh} (hp : p ∈ esOf s) (hc : c ∈ p.kids) (hE : c.isE = true) : c ∈ esOf s := by
  obtain ⟨h1, _⟩ := List.mem_filter.mp hp
  refine List.mem_filter.mpr ⟨Sh.pre_trans s p h1 c ?_, hE⟩
  rw [Sh.pre_eq]
  exact List.mem_cons_of_mem _ (List.mem_flatMap.mpr ⟨c, hc, Sh.pre_self c⟩)
theorem set_repl (n : Nat) : (List.replicate n (none : Option Nat)).map upD = List.replicate n PyData.none := List.map_replicate
theorem ups_len (p : Nat) (row : List Nat) : ∀ acc, (upS p acc row).length = acc.length := by
  unfold upS
  induction row with
  | nil => intro acc; rfl
  | cons c row ih => intro acc; rw [List.foldl_cons, ih, List.length_set]
theorem ahs_len (row : List Nat) (acc : List (Option Nat)) : (ahS acc row).length = acc.length := by
  unfold ahS
  generalize row.zip row.tail = l
  induction l generalizing acc with
  | nil => rfl
  | cons c l ih => rw [List.foldl_cons, ih, List.length_set]
theorem afs_len (row : List Nat) (acc : List (Option Nat)) : (afS acc row).length = acc.length := by
  unfold afS
  generalize row.zip row.tail = l
  induction l generalizing acc with
  | nil => rfl
  | cons c l ih => rw [List.foldl_cons, ih, List.length_set]
theorem upTo_succ (rows : List (List Nat)) (n i : Nat) : upTo rows n (i + 1) = upS i (upTo rows n i) (rows.getD i []) := by unfold upTo; rw [List.range_succ, List.foldl_append]; rfl
theorem ahTo_succ (rows : List (List Nat)) (n i : Nat) : ahTo rows n (i + 1) = ahS (ahTo rows n i) (rows.getD i []) := by unfold ahTo; rw [List.range_succ, List.foldl_append]; rfl
theorem afTo_succ (rows : List (List Nat)) (n i : Nat) : afTo rows n (i + 1) = afS (afTo rows n i) (rows.getD i []) := by unfold afTo; rw [List.range_succ, List.foldl_append]; rfl
theorem upTo_len (rows : List (List Nat)) (n : Nat) : ∀ i, (upTo rows n i).length = n
  | 0 => by unfold upTo; rw [List.range_zero, List.foldl_nil, List.length_replicate]
  | i + 1 => by rw [upTo_succ, ups_len, upTo_len rows n i]
theorem ahTo_len (rows : List (List Nat)) (n : Nat) : ∀ i, (ahTo rows n i).length = n
  | 0 => by unfold ahTo; rw [List.range_zero, List.foldl_nil, List.length_replicate]
  | i + 1 => by rw [ahTo_succ, ahs_len, ahTo_len rows n i]
theorem afTo_len (rows : List (List Nat)) (n : Nat) : ∀ i, (afTo rows n i).length = n
  | 0 => by unfold afTo; rw [List.range_zero, List.foldl_nil, List.length_replicate]
  | i + 1 => by rw [afTo_succ, afs_len, afTo_len rows n i]
theorem inn_lt {s : Sh} {r : List Nat} (h : r ∈ innOf s) : ∀ c ∈ r, c < (esOf s).length := by
  intro c hc
  obtain ⟨p, hp, rfl⟩ := List.mem_map.mp h
  obtain ⟨k, hk, rfl⟩ := List.mem_map.mp hc
  obtain ⟨h1, h2⟩ := List.mem_filter.mp hk
  have hm : k.num ∈ enOf s := List.mem_map_of_mem (es_kid hp h1 h2)
  have := List.idxOf_lt_length_of_mem hm
  unfold enOf at this ⊢
  rw [List.length_map] at this
  exact this
end LM
namespace LW
open PySem PySem.Spec PyProof.Rows L2 DL LM
section
variable {P : Program} {W : World} {K : PySem.W.Frag} {mg : Str → Option Value} {base : Heap} {f : Addr} {fd : FuncData} {CP dx : Addr} {A A2 H H' H0 H1 H2 G G2 Hc : Hp} {σ : L2.St} {t te td tn tv ti to t1 t2 : TE} {tr : TS} {ts u : TS} {tt : TT} {D : Ends} {tA : TA} {n i j : Nat} {p b x q : Addr} {xs ys : List V} {v : V} {d : PyData} {ds es : List PyData}
open Tst Tb
theorem s_seqT (h : ts { D with nx := u D } σ H) : tSeq ts u D σ H := h
theorem Own.up {o : HO} (P : Pub H0 H1 G H) (w : Own G H G2 H2 q o) : Own H0 H1 G2 H2 q o := ⟨P.trans w.pub, w.at_, w.pg, P.hh.free w.p1⟩
theorem DvA.upv_inv : ∀ {l : List (Option Nat)} {ys : List V}, DvA K H ys (l.map upD) → ys = l.map upV
  | [], _, h => by cases h; rfl
  | none :: l, _, h => by
    cases h with
    | cons a r => rw [Dv.non_inv a, DvA.upv_inv r]; rfl
  | some n :: l, _, h => by
    cases h with
    | cons a r => rw [Dv.int_inv a, DvA.upv_inv r]; rfl
/-- to[c] = p, to a list of one's own -/
theorem s_setO {l : List (Option Nat)} {c pl k : Nat} (w : Own H0 H1 G H q (.lst (l.map upV))) (hv : σ[k]? = some (some (.int (pl : Int)))) (gv : GV to σ G H (.ref q)) (gi : ∀ G' H', Pub G H G' H' → GD K ti σ G' H' (ofN c)) (hc : c < l.length)
    (kk : ∀ G' Hx, Pub G H G' Hx → Own H0 H1 G' (upd Hx q (.lst ((l.set c (some pl)).map upV))) q (.lst ((l.set c (some pl)).map upV)) → D.nx σ (upd Hx q (.lst ((l.set c (some pl)).map upV)))) : tAsg (tVar k) (gSub to ti rSetL) D σ H :=
  ⟨_, hv, gv.to (.refl w.gh) fun G2 H2 p2 => (gi G2 H2 p2).to (.refl p2.gh) fun y G3 H3 p3 dy => by
    have e := Dv.int_inv dy
    subst e
    have P := p2.trans p3
    have w3 := w.step P
    have es : (l.map upV).set c (.int (pl : Int)) = (l.set c (some pl)).map upV := by rw [List.map_set]; rfl
    refine ⟨q, l.map upV, (c : Int), c, rfl, rfl, w3.at_, ?_, ?_⟩
    · unfold ixN
      rw [if_pos (by omega), if_pos (by rw [List.length_map]; omega)]
      congr 1
    · rw [es]
      exact kk G3 H3 P (w3.put _)⟩
end
end LW
end
section
set_option Elab.async false
set_option linter.all false
set_option maxRecDepth 100000
set_option maxHeartbeats 8000000
namespace LW
open PySem PySem.Spec PyProof.Rows L2 DL LM
section
variable {P : Program} {W : World} {K : PySem.W.Frag} {mg : Str → Option Value} {base : Heap} {f : Addr} {fd : FuncData} {CP dx : Addr} {A A2 H H' H0 H1 H2 G G2 Hc : Hp} {σ : L2.St} {t te td tn tv ti to t1 t2 : TE} {tr : TS} {ts u : TS} {tt : TT} {D : Ends} {tA : TA} {n i j : Nat} {p b x q : Addr} {xs ys : List V} {v : V} {d : PyData} {ds es : List PyData}
open Tst Tb
/-- places half made: the instance and its three rows, private -/
structure Ini (H0 H1 G H : Hp) (CP dx x : Addr) (vp vi : V) (pu pa pf : Addr) (u a f : List (Option Nat)) : Prop where
  wx : Own H0 H1 G H x (.ins CP dx [("parts", vp), ("inner", vi), ("up", .ref pu), ("ahead", .ref pa), ("after", .ref pf)])
  wu : Own H0 H1 G H pu (.lst (u.map upV))
  wa : Own H0 H1 G H pa (.lst (a.map upV))
  wf : Own H0 H1 G H pf (.lst (f.map upV))
  d1 : pu ≠ pa
  d2 : pu ≠ pf
  d3 : pa ≠ pf
variable {vp vi : V} {pu pa pf : Addr} {ul al fl : List (Option Nat)}
theorem Own.ne_k {o o' : HO} (w : Own H0 H1 G H p o) (w2 : Own H0 H1 G H q o') (h : o ≠ o') : p ≠ q := fun z => by
  subst z
  have := w.at_.symm.trans w2.at_
  exact h (Option.some.inj this)
theorem Ini.step (z : Ini H0 H1 G H CP dx x vp vi pu pa pf ul al fl) (P : Pub G H G2 H2) : Ini H0 H1 G2 H2 CP dx x vp vi pu pa pf ul al fl := ⟨z.wx.step P, z.wu.step P, z.wa.step P, z.wf.step P, z.d1, z.d2, z.d3⟩
theorem Ini.test (z : Ini H0 H1 G H CP dx x vp vi pu pa pf ul al fl) (P : Same H H2) : Ini H0 H1 G H2 CP dx x vp vi pu pa pf ul al fl := ⟨z.wx.test P, z.wu.test P, z.wa.test P, z.wf.test P, z.d1, z.d2, z.d3⟩
theorem ins_lst {C d : Addr} {fs : List (Str × V)} {l : List V} : HO.ins C d fs ≠ HO.lst l := fun z => nomatch z
theorem Ini.setU {c : Nat} {o : Option Nat} (z : Ini H0 H1 G H CP dx x vp vi pu pa pf ul al fl) (w : Own H0 H1 G (upd H pu (.lst ((ul.set c o).map upV))) pu (.lst ((ul.set c o).map upV))) : Ini H0 H1 G (upd H pu (.lst ((ul.set c o).map upV))) CP dx x vp vi pu pa pf (ul.set c o) al fl :=
  ⟨LW.Own.stay z.wx w (Own.ne_k z.wx z.wu ins_lst), w, LW.Own.stay z.wa w (Ne.symm z.d1), LW.Own.stay z.wf w (Ne.symm z.d2), z.d1, z.d2, z.d3⟩
theorem Ini.setA {c : Nat} {o : Option Nat} (z : Ini H0 H1 G H CP dx x vp vi pu pa pf ul al fl) (w : Own H0 H1 G (upd H pa (.lst ((al.set c o).map upV))) pa (.lst ((al.set c o).map upV))) : Ini H0 H1 G (upd H pa (.lst ((al.set c o).map upV))) CP dx x vp vi pu pa pf ul (al.set c o) fl :=
  ⟨LW.Own.stay z.wx w (Own.ne_k z.wx z.wa ins_lst), LW.Own.stay z.wu w z.d1, w, LW.Own.stay z.wf w (Ne.symm z.d3), z.d1, z.d2, z.d3⟩
theorem Ini.setF {c : Nat} {o : Option Nat} (z : Ini H0 H1 G H CP dx x vp vi pu pa pf ul al fl) (w : Own H0 H1 G (upd H pf (.lst ((fl.set c o).map upV))) pf (.lst ((fl.set c o).map upV))) : Ini H0 H1 G (upd H pf (.lst ((fl.set c o).map upV))) CP dx x vp vi pu pa pf ul al (fl.set c o) :=
  ⟨LW.Own.stay z.wx w (Own.ne_k z.wx z.wf ins_lst), LW.Own.stay z.wu w z.d2, LW.Own.stay z.wa w z.d3, w, z.d1, z.d2, z.d3⟩
theorem Ini.fld {fl_ : Str} {w : V} (z : Ini H0 H1 G H CP dx x vp vi pu pa pf ul al fl) (c : Cls K CP) (na : NoAttr K CP fl_) (h0 : σ[j]? = some (some (.ref x))) (e : ([("parts", vp), ("inner", vi), ("up", .ref pu), ("ahead", .ref pa), ("after", .ref pf)] : List (Str × V)).lookup fl_ = some w) : GV (tFld K (tVar j) fl_) σ G H w := gv_fldP (gv_var h0) z.wx.at_ c na e
/-- for deeper in inner: self.up[deeper] = place -/
theorem s_ups {row : List Nat} {kp : Nat} {vr : V} (C : PC K CP) (z : Ini H0 H1 G H CP dx x vp vi pu pa pf ul al fl) (dr : Dv K G vr (natsD row)) (hrow : ∀ c ∈ row, c < ul.length)
    (σ0 : Option V → L2.St) (e0 : ∀ y, (σ0 y)[0]? = some (some (.ref x))) (e2 : ∀ y, (σ0 y)[2]? = some (some (.int (kp : Int)))) (e4 : ∀ y, (σ0 y)[4]? = some (some vr)) (e5 : ∀ y, (σ0 (some y))[5]? = some (some y)) (eset : ∀ y w, (σ0 y).set 5 (some w) = σ0 (some w)) (y0 : Option V)
    (kont : ∀ y G' H', Ini H0 H1 G' H' CP dx x vp vi pu pa pf (upS kp ul row) al fl → Same G G' → D.nx (σ0 y) H') :
    tFor (iSeq K (tVar 4)) (gName 5) (tAsg (tVar 2) (gSub (tFld K (tVar 0) "up") (tVar 5) rSetL)) D (σ0 y0) H := by
  refine for_run (H := G) (A := H) (gi_seqL (gd_var (e4 y0) dr)) (.refl z.wx.gh) fun B HB PB => ?_
  refine ⟨fun i σ' G' H' => ∃ y, σ' = σ0 y ∧ Ini H0 H1 G' H' CP dx x vp vi pu pa pf (upS kp ul (row.take i)) al fl ∧ Same B G', ⟨y0, rfl, by rw [List.take_zero]; exact z.step PB, .refl _⟩, fun i σ' G' H' ⟨_, _, w, s⟩ => ⟨s, w.wx.gh⟩, ?_, ?_⟩
  · rintro i dd σ' G' H' hdd ⟨y, rfl, z', sB⟩ w G5 H5 P5 dv5
    rw [List.getElem?_map] at hdd
    obtain ⟨c, hc, rfl⟩ := Option.map_eq_some_iff.mp hdd
    have z5 := z'.step P5
    show (tAsg (tVar 2) (gSub (tFld K (tVar 0) "up") (tVar 5) rSetL)) _ ((σ0 y).set 5 (some w)) H5
    rw [eset]
    refine s_setO (K := K) (k := 2) (c := c) (pl := kp) z5.wu (e2 _) (z5.fld C.c C.a.2.2.1 (e0 _) rfl) (fun G6 H6 P6 => gd_var (e5 _) (dv5.to P6.hg)) (by rw [ups_len]; exact hrow c (List.mem_of_getElem? hc)) fun G6 Hx P6 w6 => ?_
    refine ⟨G6, some w, rfl, ?_, sB.trans (P5.hg.trans P6.hg)⟩
    have ht : row.take (i + 1) = row.take i ++ [c] := by rw [List.take_add_one, hc]; rfl
    have e : upS kp ul (row.take (i + 1)) = (upS kp ul (row.take i)).set c (some kp) := by unfold upS; rw [ht, List.foldl_append]; rfl
    rw [e]
    exact (z5.step P6).setU w6
  · rintro σ' G' H' ⟨y, rfl, z', sB⟩
    rw [List.length_map, List.take_length] at z'
    exact kont y G' H' z' (PB.hg.trans sB)
theorem zip_tail (row : List Nat) : zipD (row.map ofN) ((row.map ofN).drop 1) = (row.zip row.tail).map fun q => .tuple [ofN q.1, ofN q.2] := by
  unfold zipD
  rw [← List.map_drop, List.zip_map, List.map_map, List.drop_one]; rfl
/-- for left, right in zip(inner, inner[1:]): self.ahead[right] = left; self.after[left] = right -/
theorem s_ahs {row : List Nat} {vr : V} (C : PC K CP) (z : Ini H0 H1 G H CP dx x vp vi pu pa pf ul al fl) (dr : Dv K G vr (natsD row)) (hra : ∀ c ∈ row, c < al.length) (hrf : ∀ c ∈ row, c < fl.length)
    (σ0 : Option V → Option V → L2.St) (e0 : ∀ y w, (σ0 y w)[0]? = some (some (.ref x))) (e4 : ∀ y w, (σ0 y w)[4]? = some (some vr)) (e6 : ∀ y w, (σ0 (some y) w)[6]? = some (some y)) (e7 : ∀ y w, (σ0 y (some w))[7]? = some (some w)) (eset : ∀ y w a c, ((σ0 y w).set 6 (some a)).set 7 (some c) = σ0 (some a) (some c)) (y0 w0 : Option V)
    (kont : ∀ y w G' H', Ini H0 H1 G' H' CP dx x vp vi pu pa pf ul (ahS al row) (afS fl row) → Same G G' → D.nx (σ0 y w) H') :
    tFor (RZ.iZipA K (tCons (tVar 4) (tCons (tSl (rSlD K) (tVar 4) (tPart (tC (.int 1))) tNoPart) tNil))) (gTup K 2 (gCons (gName 6) (gCons (gName 7) gNil))) (tSeq (tAsg (tVar 6) (gSub (tFld K (tVar 0) "ahead") (tVar 7) rSetL)) (tAsg (tVar 7) (gSub (tFld K (tVar 0) "after") (tVar 6) rSetL))) D (σ0 y0 w0) H := by
  have gsl := gd_slL (K := K) (H := G) (A := H) (gd_var (e4 y0 w0) dr) (gp_some (K := K) (gd_int (i := ((1 : Nat) : Int)))) gp_none
  rw [cutFrom 1] at gsl
  have gz := gi_zipL (K := K) (H := G) (A := H) (ga_cons (gd_var (e4 y0 w0) dr) (ga_cons gsl ga_nil)) fun a ha => by
    obtain ⟨n, _, rfl⟩ := List.mem_map.mp ha
    rfl
  rw [zip_tail] at gz
  refine for_run gz (.refl z.wx.gh) fun B HB PB => ?_
  refine ⟨fun i σ' G' H' => ∃ y w, σ' = σ0 y w ∧ Ini H0 H1 G' H' CP dx x vp vi pu pa pf ul (((row.zip row.tail).take i).foldl (fun acc q => acc.set q.2 (some q.1)) al) (((row.zip row.tail).take i).foldl (fun acc q => acc.set q.1 (some q.2)) fl) ∧ Same B G', ⟨y0, w0, rfl, by rw [List.take_zero]; exact z.step PB, .refl _⟩, fun i σ' G' H' ⟨_, _, _, w, s⟩ => ⟨s, w.wx.gh⟩, ?_, ?_⟩
  · rintro i dd σ' G' H' hdd ⟨y, w, rfl, z', sB⟩ vq G5 H5 P5 dv5
    rw [List.getElem?_map] at hdd
    obtain ⟨q, hq, rfl⟩ := Option.map_eq_some_iff.mp hdd
    have hm := List.of_mem_zip (List.mem_of_getElem? hq)
    have hm2 : q.2 ∈ row := List.mem_of_mem_tail hm.2
    have z5 := z'.step P5
    obtain ⟨c, ws, rfl, sq, da⟩ := Dv.tup_inv dv5
    obtain ⟨a, e, rfl, dxa, dxe⟩ := DvA.inv2 da
    have ea := Dv.int_inv dxa
    have ee := Dv.int_inv dxe
    subst ea ee
    refine ⟨c, _, rfl, seqT z5.wx.gh sq, rfl, _, _, rfl, _, _, rfl, rfl, ?_⟩
    rw [eset]
    have la : ∀ (l : List (Nat × Nat)) (acc : List (Option Nat)), (l.foldl (fun acc q => acc.set q.2 (some q.1)) acc).length = acc.length := by
      intro l
      induction l with
      | nil => intro acc; rfl
      | cons a l ih => intro acc; rw [List.foldl_cons, ih, List.length_set]
    have lf : ∀ (l : List (Nat × Nat)) (acc : List (Option Nat)), (l.foldl (fun acc q => acc.set q.1 (some q.2)) acc).length = acc.length := by
      intro l
      induction l with
      | nil => intro acc; rfl
      | cons a l ih => intro acc; rw [List.foldl_cons, ih, List.length_set]
    refine s_seqT ?_
    refine s_setO (K := K) (k := 6) (c := q.2) (pl := q.1) z5.wa (e6 _ _) (z5.fld C.c C.a.2.2.2.1 (e0 _ _) rfl) (fun G6 H6 P6 => gd_var (e7 _ _) (.int (q.2 : Int))) (by rw [la]; exact hra _ hm2) fun G6 Hx P6 w6 => ?_
    have z6 := (z5.step P6).setA w6
    dsimp only
    refine s_setO (K := K) (k := 7) (c := q.1) (pl := q.2) z6.wf (e7 _ _) (z6.fld C.c C.a.2.2.2.2 (e0 _ _) rfl) (fun G7 H7 P7 => gd_var (e6 _ _) (.int (q.1 : Int))) (by rw [lf]; exact hrf _ hm.1) fun G7 Hy P7 w7 => ?_
    refine ⟨G7, _, _, rfl, ?_, sB.trans (P5.hg.trans (P6.hg.trans P7.hg))⟩
    have ht : (row.zip row.tail).take (i + 1) = (row.zip row.tail).take i ++ [q] := by rw [List.take_add_one, hq]; rfl
    rw [ht, List.foldl_append, List.foldl_append]
    exact (z6.step P7).setF w7
  · rintro σ' G' H' ⟨y, w, rfl, z', sB⟩
    rw [List.length_map, List.take_length] at z'
    exact kont y w G' H' z' (PB.hg.trans sB)
end
end LW
end
section
set_option Elab.async false
set_option linter.all false
set_option maxRecDepth 100000
set_option maxHeartbeats 8000000
namespace LW
open PySem PySem.Spec PyProof.Rows L2 DL LM
section
variable {P : Program} {W : World} {K : PySem.W.Frag} {mg : Str → Option Value} {base : Heap} {f : Addr} {fd : FuncData} {CP dx : Addr} {A A2 H H' H0 H1 H2 G G2 Hc : Hp} {σ : L2.St} {t te td tn tv ti to t1 t2 : TE} {tr : TS} {ts u : TS} {tt : TT} {D : Ends} {tA : TA} {n i j : Nat} {p b x q : Addr} {xs ys : List V} {v : V} {d : PyData} {ds es : List PyData}
open Tst Tb
def spPI (K : PySem.W.Frag) (CP : Addr) : Sp := fun vs H Q _ => ∃ (x dx : Addr) (v : V) (H0 H1 G : Hp) (s : Sh), vs = [.ref x, v] ∧ Own H0 H1 G H x (.ins CP dx []) ∧ Dv K G v s.toD ∧ Vw s ∧ ∀ G' H', Pub H0 H1 G' H' → Same G G' → PlcH K CP G' H' x (plcOf s) → Q .non H'
theorem putF1 {a c : V} : putF "inner" c ([("parts", a)] : List (Str × V)) = ([("parts", a), ("inner", c)] : List (Str × V)) := by
  unfold putF; rw [if_neg (by decide +kernel)]; rfl
theorem putF2 {a c e : V} : putF "up" e ([("parts", a), ("inner", c)] : List (Str × V)) = ([("parts", a), ("inner", c), ("up", e)] : List (Str × V)) := by
  unfold putF; rw [if_neg (by decide +kernel)]; unfold putF; rw [if_neg (by decide +kernel)]; rfl
theorem putF3 {a c e g : V} : putF "ahead" g ([("parts", a), ("inner", c), ("up", e)] : List (Str × V)) = ([("parts", a), ("inner", c), ("up", e), ("ahead", g)] : List (Str × V)) := by
  unfold putF; rw [if_neg (by decide +kernel)]; unfold putF; rw [if_neg (by decide +kernel)]; unfold putF; rw [if_neg (by decide +kernel)]; rfl
theorem putF4 {a c e g k : V} : putF "after" k ([("parts", a), ("inner", c), ("up", e), ("ahead", g)] : List (Str × V)) = ([("parts", a), ("inner", c), ("up", e), ("ahead", g), ("after", k)] : List (Str × V)) := by
  unfold putF; rw [if_neg (by decide +kernel)]; unfold putF; rw [if_neg (by decide +kernel)]; unfold putF; rw [if_neg (by decide +kernel)]; unfold putF; rw [if_neg (by decide +kernel)]; rfl
theorem dva_nones {α : Type} {l : List α} {ys : List V} (h : DvA K H ys (l.map fun _ => PyData.none)) : ys = (List.replicate l.length (none : Option Nat)).map upV := by
  refine DvA.upv_inv (K := K) (H := H) ?_
  rw [set_repl]
  have e : (l.map fun _ => PyData.none) = List.replicate l.length PyData.none := List.map_const'
  rw [← e]; exact h
abbrev sPlaces_init : Stmt := inClass (topS 14) 0
theorem scPlaces_init : FnScope ["self", "shape", "place", "places", "inner", "deeper", "left", "right", "part", "child", "_"] ["self", "shape"] (defScope sPlaces_init) := ⟨rfl, rfl, rfl, by decide +kernel, rfl, by decide +kernel, by decide +kernel⟩
theorem ok_places (T : Bq mg) (C : PC K CP) (F : Fun K "__init__" "Places.__init__" sPlaces_init f fd) (cparts_of : Cal P W K mg base 2 "parts_of" (spA K 1 arH preSz partsD)) : FnOk P W K mg base CX0 3 f fd ["self", "shape"] (spPI K CP) := by
  refine F.ok scPlaces_init (fun vs H Q E h => ?_) (fun cdv A outer s H vs Q E hr h => ?_)
  · obtain ⟨_, _, _, _, _, _, _, rfl, _⟩ := h
    rfl
  obtain ⟨x, dx, v, H0, H1, G, s, rfl, w0, dv, vw, q⟩ := h
  refine ⟨_, (pss_cons (ps_fld (pv 0) (pe_lc (own := [("part", 8)]) (by rfl) scPlaces_init.nd (pi_seq (pe_k cparts_of hr (by omega) (pa_cons (pv 1) pa_nil))) (blkOk_by (own := [("part", 8)]) (N := ["self", "shape", "place", "places", "inner", "deeper", "left", "right", "part", "child", "_"]) (sc := defScope sPlaces_init) (by decide +kernel)) (fun _ _ _ _ _ => (pg_name (i := 8) scPlaces_init.nd rfl (Or.inl rfl))) (fun _ _ _ _ _ => (pts_one (pt_cmpR (op_eqK K hr.units) (pe_ix (ix_seqK K) (pv 8) pe_int (fun _ _ => rfl)) pe_str (nomark _)))) (fun _ _ _ _ _ => (pv 8))) rfl)
      (pss_cons (ps_set (i := 3) scPlaces_init.nd rfl (Or.inr rfl) (L2.pe_dc (own := [("place", 2), ("part", 8)]) (by rfl) scPlaces_init.nd (pi_enum (by rfl) T.enumerate (pa_cons (pe_fld (pv 0) rfl) pa_nil)) (blkOk_by (own := [("place", 2), ("part", 8)]) (N := ["self", "shape", "place", "places", "inner", "deeper", "left", "right", "part", "child", "_"]) (sc := defScope sPlaces_init) (by decide +kernel)) (fun _ _ _ _ _ => (pg_tupK K (n := 2) rfl (pgs_cons (pg_name (i := 2) scPlaces_init.nd rfl (Or.inl rfl)) (pgs_cons (pg_name (i := 8) scPlaces_init.nd rfl (Or.inl rfl)) pgs_nil)))) (fun _ _ _ _ _ => pts_nil) (fun _ _ _ _ _ => (pe_ix (ix_seqK K) (pv 8) pe_int (fun _ _ => rfl))) (fun _ _ _ _ _ => (pv 2))))
      (pss_cons (ps_fld (pv 0) (pe_lc (own := [("part", 8)]) (by rfl) scPlaces_init.nd (pi_seq (pe_fld (pv 0) rfl)) (blkOk_by (own := [("part", 8)]) (N := ["self", "shape", "place", "places", "inner", "deeper", "left", "right", "part", "child", "_"]) (sc := defScope sPlaces_init) (by decide +kernel)) (fun _ _ _ _ _ => (pg_name (i := 8) scPlaces_init.nd rfl (Or.inl rfl))) (fun _ _ _ _ _ => pts_nil) (fun _ _ _ _ _ => (pe_lc (scope := ({ kind := .function, names := [(".0", .local), ("child", .local), ("places", .free)], isGenerator := false, isCoroutine := false } : Scope)) (own := [("child", 9)]) (by rfl) scPlaces_init.nd (pi_seqK K (pe_ix (ix_seqK K) (pv 8) pe_int (fun _ _ => rfl))) (by exact blkOk_by (scope := ({ kind := .function, names := [(".0", .local), ("child", .local), ("places", .free)], isGenerator := false, isCoroutine := false } : Scope)) (own := [("child", 9)]) (N := ["self", "shape", "place", "places", "inner", "deeper", "left", "right", "part", "child", "_"]) (sc := ({ kind := .function, names := [(".0", .local), ("part", .local), ("places", .cell)], isGenerator := false, isCoroutine := false } : Scope)) (by decide +kernel)) (fun _ _ _ _ _ => (pg_name (i := 9) scPlaces_init.nd rfl (Or.inl rfl))) (fun _ _ _ _ _ => (pts_one (pt_cmpR (op_eqK K hr.units) (pe_ix (ix_seqK K) (pv 9) pe_int (fun _ _ => rfl)) pe_str (nomark _)))) (fun _ _ _ _ _ => (pe_dget (hu_of hr) (pv 3) (pe_ix (ix_seqK K) (pv 9) pe_int (fun _ _ => rfl)) (fun _ _ => rfl)))))) rfl)
      (pss_cons (ps_fld (pv 0) (pe_lc (own := [("_", 10)]) (by rfl) scPlaces_init.nd (pi_seq (pe_fld (pv 0) rfl)) (blkOk_by (own := [("_", 10)]) (N := ["self", "shape", "place", "places", "inner", "deeper", "left", "right", "part", "child", "_"]) (sc := defScope sPlaces_init) (by decide +kernel)) (fun _ _ _ _ _ => (pg_name (i := 10) scPlaces_init.nd rfl (Or.inl rfl))) (fun _ _ _ _ _ => pts_nil) (fun _ _ _ _ _ => pe_non)) rfl)
      (pss_cons (ps_fld (pv 0) (pe_lc (own := [("_", 10)]) (by rfl) scPlaces_init.nd (pi_seq (pe_fld (pv 0) rfl)) (blkOk_by (own := [("_", 10)]) (N := ["self", "shape", "place", "places", "inner", "deeper", "left", "right", "part", "child", "_"]) (sc := defScope sPlaces_init) (by decide +kernel)) (fun _ _ _ _ _ => (pg_name (i := 10) scPlaces_init.nd rfl (Or.inl rfl))) (fun _ _ _ _ _ => pts_nil) (fun _ _ _ _ _ => pe_non)) rfl)
      (pss_cons (ps_fld (pv 0) (pe_lc (own := [("_", 10)]) (by rfl) scPlaces_init.nd (pi_seq (pe_fld (pv 0) rfl)) (blkOk_by (own := [("_", 10)]) (N := ["self", "shape", "place", "places", "inner", "deeper", "left", "right", "part", "child", "_"]) (sc := defScope sPlaces_init) (by decide +kernel)) (fun _ _ _ _ _ => (pg_name (i := 10) scPlaces_init.nd rfl (Or.inl rfl))) (fun _ _ _ _ _ => pts_nil) (fun _ _ _ _ _ => pe_non)) rfl)
      (pss_one (ps_for PassesOwn.never rfl (pi_enum (by rfl) T.enumerate (pa_cons (pe_fld (pv 0) rfl) pa_nil)) (pg_tup rfl (pgs_cons (pg_name (i := 2) scPlaces_init.nd rfl (Or.inl rfl)) (pgs_cons (pg_name (i := 4) scPlaces_init.nd rfl (Or.inl rfl)) pgs_nil))) (pss_cons (ps_for PassesOwn.never rfl (pi_seq (pv 4)) (pg_name (i := 5) scPlaces_init.nd rfl (Or.inl rfl)) (pss_one (ps_asg (pv 2) (pg_sub (pe_fld (pv 0) rfl) (pv 5) set_list))))
      (pss_one (ps_for PassesOwn.never rfl (RZ.pi_zipA (by rfl) T.zip (pa_cons (pv 4) (pa_cons (pe_slice sl_D (pv 4) (po_some pe_int) po_none) pa_nil))) (pg_tup rfl (pgs_cons (pg_name (i := 6) scPlaces_init.nd rfl (Or.inl rfl)) (pgs_cons (pg_name (i := 7) scPlaces_init.nd rfl (Or.inl rfl)) pgs_nil))) (pss_cons (ps_asg (pv 6) (pg_sub (pe_fld (pv 0) rfl) (pv 7) set_list))
      (pss_one (ps_asg (pv 7) (pg_sub (pe_fld (pv 0) rfl) (pv 6) set_list))))))))))))))), ?_⟩
  have hsz := vw.sz
  have hpl : s.pre.length ≤ 1000 := vw.sz
  have hel : (esOf s).length ≤ 1000 := Nat.le_trans (List.length_filter_le _ _) hpl
  have okE : ∀ p ∈ esOf s, p ∈ s.pre ∧ p.isE = true := fun p hp => List.mem_filter.mp hp
  -- parts
  refine s_seqT ?_
  refine s_fldD (K := K) (j := 0) (d := .list ((esOf s).map Sh.toD)) w0 rfl C.c C.a.1 (by decide) ?_ fun vp G1 Hx1 P1 w1 dvp => ?_
  · exact gd_lcIf (K := K) (k := 8) (em := Sh.toD) (p := Sh.isE) (f := Sh.toD) (xs := s.pre) (gi_seqL (gd_callA (K := K) (ar := arH) (f := partsD) (n := 1) s (ga_cons (gd_var (i := 1) rfl dv) ga_nil) rfl (by show s.size ≤ 100000; omega))) (by omega) (fun i a ha v' G' H' p0 dv' => by
      obtain ⟨r, er⟩ := sh_tag (c := a)
      have dv2 : Dv K G' v' (.tuple (.str (if a.isE then "e" else "t") :: ofN a.num :: .str a.tx :: r)) := by rw [← er]; exact dv'
      have g := gt_test (gdo (K := K) (A := H') (gdo (gd_var (σ := (wipe (L2.start ["self", "shape", "place", "places", "inner", "deeper", "left", "right", "part", "child", "_"] [.ref x, v]) [8]).set 8 (some v')) (i := 8) rfl dv2) gd_int (go_ixT (atI_nat (j := 0) rfl))) (gd_str (i := "e")) go_eqS)
      have e : decide ((if a.isE then "e" else "t" : Str) = "e") = a.isE := by cases a.isE <;> decide +kernel
      rw [e] at g
      exact g) fun i a ha hp v' G' H' p0 dv' => gd_var rfl dv'
  have w1 : Own H0 H1 G1 _ x (.ins CP dx [("parts", vp)]) := w1
  have e1 : putF "parts" vp ([] : List (Str × V)) = ([("parts", vp)] : List (Str × V)) := rfl
  rw [e1]
  dsimp only
  -- the numbers
  have gpf : ∀ {fs : List (Str × V)} {G' H' : Hp} {σ : L2.St}, σ[0]? = some (some (.ref x)) → H' x = some (.ins CP dx (("parts", vp) :: fs)) → Same G1 G' → GD K (tFld K (tVar 0) "parts") σ G' H' (.list ((esOf s).map Sh.toD)) := fun h0 hx sg => gd_gv (gv_fldP (gv_var h0) hx C.c C.a.1 rfl) (dvp.to sg)
  refine s_numd (K := K) (i := 3) (k := 2) (j := 8) (ps := esOf s) (by decide) (by show 8 < 11; decide) (by show 2 < 11; decide) (en_nodup vw) hel (gpf rfl w1.at_ (.refl _)) w1.gh fun pd kvs G2 H2 wd hv => ?_
  have w2 := w1.step wd.pub
  have wd2 := Own.up w1.pub wd
  -- inner
  refine s_seqT ?_
  refine s_fldD (K := K) (j := 0) (d := placesD (innOf s)) w2 rfl C.c C.a.2.1 (by show 1 < 1000; decide) ?_ fun vi G3 Hx3 P3 w3 dvi => ?_
  · have e : placesD (innOf s) = .list ((esOf s).map fun p => natsD ((p.kids.filter Sh.isE).map fun c => (enOf s).idxOf c.num)) := by
      unfold placesD innOf
      rw [List.map_map]; rfl
    rw [e]
    refine gd_lc (K := K) (k := 8) (em := Sh.toD) (xs := esOf s) (gi_seqL (gpf rfl w2.at_ wd.pub.hg)) (by omega) fun i p hp v' G' H' p0 dv' => ?_
    have hpm := List.mem_of_getElem? hp
    obtain ⟨hpp, hpE⟩ := okE p hpm
    obtain ⟨_, hkl⟩ := vw.mms p hpp
    obtain ⟨n, nm, ms, ks, rfl⟩ : ∃ n nm ms ks, p = .e n nm ms ks := by
      cases p with
      | t n s => cases hpE
      | e n nm ms ks => exact ⟨n, nm, ms, ks, rfl⟩
    have dv2 : Dv K G' v' (.tuple [.str "e", ofN n, .str nm, pairsD ms, .tuple (ks.map Sh.toD)]) := by rw [← Sh.toD_e]; exact dv'
    have hks : ks.length ≤ 1000 := hkl
    have e2 : natsD (((Sh.e n nm ms ks).kids.filter Sh.isE).map fun c => (enOf s).idxOf c.num) = .list ((ks.filter Sh.isE).map fun c => ofN ((enOf s).idxOf c.num)) := by
      unfold natsD
      rw [List.map_map]; rfl
    rw [e2]
    refine gd_lcIf (K := K) (k := 9) (em := Sh.toD) (p := Sh.isE) (xs := ks) (gi_seqT (gdo (gd_var rfl dv2) gd_int (go_ixT (atI_nat (j := 4) rfl)))) (by omega) (fun i a ha v3 G4 H4 p4 dv4 => ?_) fun i a ha hE v3 G4 H4 p4 dv4 => ?_
    · obtain ⟨r, er⟩ := sh_tag (c := a)
      have dv5 : Dv K G4 v3 (.tuple (.str (if a.isE then "e" else "t") :: ofN a.num :: .str a.tx :: r)) := by rw [← er]; exact dv4
      have e : a.isE = decide ((if a.isE then "e" else "t" : Str) = "e") := by cases a.isE <;> decide +kernel
      rw [e]
      exact gt_test (gdo (K := K) (gdo (gd_var rfl dv5) gd_int (go_ixT (atI_nat (j := 0) rfl))) (gd_str (i := "e")) go_eqS)
    · obtain ⟨r, er⟩ := sh_tag (c := a)
      have dv5 : Dv K G4 v3 (.tuple (.str (if a.isE then "e" else "t") :: ofN a.num :: .str a.tx :: r)) := by rw [← er]; exact dv4
      have hm : a.num ∈ enOf s := List.mem_map_of_mem (es_kid hpm (List.mem_of_getElem? ha) hE)
      have hil := List.idxOf_lt_length_of_mem hm
      have hget : (enOf s)[(enOf s).idxOf a.num]? = some a.num := by rw [List.getElem?_eq_getElem hil, List.getElem_idxOf hil]
      generalize hq : (enOf s).idxOf a.num = qi at hget ⊢
      unfold enOf at hget
      rw [List.getElem?_map] at hget
      obtain ⟨c', hc', ec⟩ := Option.map_eq_some_iff.mp hget
      have hval := hv qi c' hc'
      rw [ec] at hval
      exact gd_dnum (gv_var rfl) (p4.hh _ _ (p0.hh _ _ wd2.at_)) (gdo (gd_var rfl dv5) gd_int (go_ixT (atI_nat (j := 1) rfl))) hval (.int _)
  rw [putF1] at w3 ⊢
  dsimp only
  have hdx : pd ≠ x := Own.ne_k wd2 w2 (fun z => nomatch z)
  -- the three rows
  have gn : ∀ {fs : List (Str × V)} {G' H' : Hp} {σ : L2.St}, σ[0]? = some (some (.ref x)) → H' x = some (.ins CP dx (("parts", vp) :: fs)) → Same G1 G' → OWn K (tLc (iSeq K (tFld K (tVar 0) "parts")) (gName 10) tYes (tC .non) [10]) σ G' H' ((esOf s).map fun _ => PyData.none) := fun h0 hx sg =>
    own_lc (K := K) (k := 10) (em := Sh.toD) (zs := esOf s) (gi_seqL (gpf h0 hx sg)) (by omega) fun i a ha v' G' H' p0 dv' => gd_non
  have s13 := wd.pub.hg.trans P3.hg
  refine s_seqT ?_
  refine s_fldO (K := K) (j := 0) w3 rfl C.c C.a.2.2.1 (by show 2 < 1000; decide) (gn rfl w3.at_ s13) fun pu yu G4 Hx4 wu w4 du => ?_
  rw [putF2] at w4 ⊢
  dsimp only
  have eu := dva_nones du
  subst eu
  have wu0 := Own.up w3.pub wu
  have hux : pu ≠ x := Own.ne_k wu0 (w3.step wu.pub) (fun z => nomatch z)
  have wu4 := LW.Own.stay wu0 w4 hux
  have s14 := s13.trans wu.pub.hg
  refine s_seqT ?_
  refine s_fldO (K := K) (j := 0) w4 rfl C.c C.a.2.2.2.1 (by show 3 < 1000; decide) (gn rfl w4.at_ s14) fun pa ya G5 Hx5 wa w5 da => ?_
  rw [putF3] at w5 ⊢
  dsimp only
  have ea := dva_nones da
  subst ea
  have wa0 := Own.up w4.pub wa
  have hax : pa ≠ x := Own.ne_k wa0 (w4.step wa.pub) (fun z => nomatch z)
  have wa5 := LW.Own.stay wa0 w5 hax
  have wu5 := LW.Own.stay (wu4.step wa.pub) w5 hux
  have hua : pu ≠ pa := fun z => by
    have := wa.p1
    rw [← z, wu4.at_] at this
    cases this
  have s15 := s14.trans wa.pub.hg
  refine s_seqT ?_
  refine s_fldO (K := K) (j := 0) w5 rfl C.c C.a.2.2.2.2 (by show 4 < 1000; decide) (gn rfl w5.at_ s15) fun pf yf G6 Hx6 wf w6 df => ?_
  rw [putF4] at w6 ⊢
  dsimp only
  have ef := dva_nones df
  subst ef
  have wf0 := Own.up w5.pub wf
  have hfx : pf ≠ x := Own.ne_k wf0 (w5.step wf.pub) (fun z => nomatch z)
  have wf6 := LW.Own.stay wf0 w6 hfx
  have wu6 := LW.Own.stay (wu5.step wf.pub) w6 hux
  have wa6 := LW.Own.stay (wa5.step wf.pub) w6 hax
  have huf : pu ≠ pf := fun z => by
    have := wf.p1
    rw [← z, wu5.at_] at this
    cases this
  have haf : pa ≠ pf := fun z => by
    have := wf.p1
    rw [← z, wa5.at_] at this
    cases this
  have s16 := s15.trans wf.pub.hg
  have z0 : Ini H0 H1 G6 _ CP dx x vp vi pu pa pf _ _ _ := ⟨w6, wu6, wa6, wf6, hua, huf, haf⟩
  have s36 : Same G3 G6 := wu.pub.hg.trans (wa.pub.hg.trans wf.pub.hg)
  have hil : (innOf s).length = (esOf s).length := by unfold innOf; rw [List.length_map]
  refine for_run (gi_enumT (K := K) (ga_cons (gd_gv (z0.fld (σ := [some (.ref x), some v, none, some (.ref pd), none, none, none, none, none, none, none]) (j := 0) C.c C.a.2.1 rfl rfl) (dvi.to s36)) ga_nil)) (.refl z0.wx.gh) fun B HB PB => ?_
  refine ⟨fun i σ' G' H' => ∃ y2 y4 y5 y6 y7, σ' = [some (.ref x), some v, y2, some (.ref pd), y4, y5, y6, y7, none, none, none] ∧ Ini H0 H1 G' H' CP dx x vp vi pu pa pf (upTo (innOf s) (esOf s).length i) (ahTo (innOf s) (esOf s).length i) (afTo (innOf s) (esOf s).length i) ∧ Same B G', ⟨none, none, none, none, none, rfl, z0.step PB, .refl _⟩, fun i σ' G' H' ⟨_, _, _, _, _, _, w, s⟩ => ⟨s, w.wx.gh⟩, ?_, ?_⟩
  · rintro i dd σ' G' H' hdd ⟨y2, y4, y5, y6, y7, rfl, z', sB⟩ vq G7 H7 P7 dv7
    have hi : i < (innOf s).length := by
      have zz := (List.getElem?_eq_some_iff.mp hdd).1
      rw [enumT_len, List.length_map] at zz
      exact zz
    have hrow : (innOf s).getD i [] ∈ innOf s := by
      rw [List.getD_eq_getElem?_getD, List.getElem?_eq_getElem hi]
      exact List.getElem_mem hi
    have hgr : (innOf s)[i]? = some ((innOf s).getD i []) := by rw [List.getD_eq_getElem?_getD, List.getElem?_eq_getElem hi]; rfl
    rw [enumT_get (i := i) (d := natsD ((innOf s).getD i [])) (by rw [List.getElem?_map, hgr]; rfl)] at hdd
    have hdd := (Option.some.inj hdd).symm
    subst hdd
    obtain ⟨c, ws, rfl, sq, dab⟩ := Dv.tup_inv dv7
    obtain ⟨a, r, rfl, dxa, dxr⟩ := DvA.inv2 dab
    have ea := Dv.int_inv dxa
    subst ea
    have z7 := z'.step P7
    refine ⟨c, _, rfl, seqT z7.wx.gh sq, rfl, _, _, rfl, r, _, rfl, rfl, ?_⟩
    have hlt := inn_lt hrow
    refine s_seqT ?_
    refine s_ups (K := K) (kp := i) C z7 dxr (fun c hc => by rw [upTo_len]; exact hlt c hc) (fun y => [some (.ref x), some v, some (.int (i : Int)), some (.ref pd), some r, y, y6, y7, none, none, none]) (fun _ => rfl) (fun _ => rfl) (fun _ => rfl) (fun _ => rfl) (fun _ _ => rfl) y5 fun y8 G8 H8 z8 s78 => ?_
    dsimp only
    refine s_ahs (K := K) C z8 (dxr.to s78) (fun c hc => by rw [ahTo_len]; exact hlt c hc) (fun c hc => by rw [afTo_len]; exact hlt c hc) (fun y w => [some (.ref x), some v, some (.int (i : Int)), some (.ref pd), some r, y8, y, w, none, none, none]) (fun _ _ => rfl) (fun _ _ => rfl) (fun _ _ => rfl) (fun _ _ => rfl) (fun _ _ _ _ => rfl) y6 y7 fun y9 w9 G9 H9 z9 s89 => ?_
    refine ⟨G9, _, _, _, _, _, rfl, ?_, sB.trans (P7.hg.trans (s78.trans s89))⟩
    rw [upTo_succ, ahTo_succ, afTo_succ]
    exact z9
  · rintro σ' G' H' ⟨y2, y4, y5, y6, y7, rfl, z', sB⟩
    rw [enumT_len, List.length_map, hil] at z'
    have sg : Same G1 G' := s16.trans (PB.hg.trans sB)
    obtain ⟨wx, wu, wa, wf, d1, d2, d3⟩ := z'
    have pa2 := same_new wu.pg (.lst ((upTo (innOf s) (esOf s).length (esOf s).length).map upV))
    have wa' : Own H0 H1 (upd G' pu (.lst ((upTo (innOf s) (esOf s).length (esOf s).length).map upV))) H' pa _ := ⟨wu.open_, wa.at_, by rw [upd_ne (Ne.symm d1)]; exact wa.pg, wa.p1⟩
    have pa3 := same_new wa'.pg (.lst ((ahTo (innOf s) (esOf s).length (esOf s).length).map upV))
    have wf' : Own H0 H1 (upd (upd G' pu (.lst ((upTo (innOf s) (esOf s).length (esOf s).length).map upV))) pa (.lst ((ahTo (innOf s) (esOf s).length (esOf s).length).map upV))) H' pf _ := ⟨wa'.open_, wf.at_, by rw [upd_ne (Ne.symm d3), upd_ne (Ne.symm d2)]; exact wf.pg, wf.p1⟩
    have pa4 := same_new wf'.pg (.lst ((afTo (innOf s) (esOf s).length (esOf s).length).map upV))
    have sall := pa2.trans (pa3.trans pa4)
    have sGG : Same G G' := P1.hg.trans sg
    refine q _ H' wf'.open_ (sGG.trans sall) ⟨dx, vp, vi, _, _, _, wx.at_, (dvp.to sg).to sall, ((dvi.to s36).to (PB.hg.trans sB)).to sall, ?_, ?_, ?_⟩
    · exact .lst (.inl (pa4 _ _ (pa3 _ _ upd_same))) DvA.upv
    · exact .lst (.inl (pa4 _ _ upd_same)) DvA.upv
    · exact .lst (.inl upd_same) DvA.upv
end
end LW
end
section
set_option Elab.async false
set_option linter.all false
set_option maxRecDepth 100000
set_option maxHeartbeats 4000000
namespace LM
open PySem DL
namespace Tst
theorem strs_inj : ∀ {a b : List Str}, a.map PyData.str = b.map PyData.str → a = b
  | [], [], _ => rfl
  | [], _ :: _, h => by cases h
  | _ :: _, [], h => by cases h
  | x :: a, y :: b, h => by
    rw [List.map_cons, List.map_cons] at h
    injection h with h1 h2
    injection h1 with h1
    rw [h1, strs_inj h2]
theorem toD_tup (t : Tst) : ∃ w r, t.toD = .tuple (.str w :: r) := by
  obtain ⟨r, e⟩ := toD_head t
  exact ⟨_, r, e⟩
mutual
theorem toD_inj : ∀ (a b : Tst), a.toD = b.toD → a = b
  | leaf w as, b, h => by
    cases b with
    | leaf w' bs =>
      rw [toD_leaf, toD_leaf] at h
      injection h with h
      injection h with h1 h2
      injection h1 with h1
      rw [h1, strs_inj h2]
    | un w' t =>
      rw [toD_leaf, toD_un] at h
      injection h with h
      injection h with h1 h2
      obtain ⟨v, r, e⟩ := toD_tup t
      rw [e] at h2
      cases as with
      | nil => cases h2
      | cons x as =>
        rw [List.map_cons] at h2
        injection h2 with h3 _
        cases h3
    | many w' ts =>
      rw [toD_leaf, toD_many] at h
      injection h with h
      injection h with h1 h2
      cases as with
      | nil => cases h2
      | cons x as =>
        rw [List.map_cons] at h2
        injection h2 with h3 _
        cases h3
  | un w t, b, h => by
    cases b with
    | leaf w' bs =>
      rw [toD_leaf, toD_un] at h
      injection h with h
      injection h with h1 h2
      obtain ⟨v, r, e⟩ := toD_tup t
      rw [e] at h2
      cases bs with
      | nil => cases h2
      | cons x as =>
        rw [List.map_cons] at h2
        injection h2 with h3 _
        cases h3
    | un w' s =>
      rw [toD_un, toD_un] at h
      injection h with h
      injection h with h1 h2
      injection h1 with h1
      injection h2 with h2 _
      rw [h1, toD_inj t s h2]
    | many w' ts =>
      rw [toD_un, toD_many] at h
      injection h with h
      injection h with h1 h2
      injection h2 with h2 _
      obtain ⟨v, r, e⟩ := toD_tup t
      rw [e] at h2
      injection h2 with h2
      cases ts with
      | nil => cases h2
      | cons s ts =>
        obtain ⟨v', r', e'⟩ := toD_tup s
        rw [List.map_cons, e'] at h2
        injection h2 with h3 _
        cases h3
  | many w ts, b, h => by
    cases b with
    | leaf w' bs =>
      rw [toD_leaf, toD_many] at h
      injection h with h
      injection h with h1 h2
      cases bs with
      | nil => cases h2
      | cons x as =>
        rw [List.map_cons] at h2
        injection h2 with h3 _
        cases h3
    | un w' t =>
      rw [toD_un, toD_many] at h
      injection h with h
      injection h with h1 h2
      injection h2 with h2 _
      obtain ⟨v, r, e⟩ := toD_tup t
      rw [e] at h2
      injection h2 with h2
      cases ts with
      | nil => cases h2
      | cons s ts =>
        obtain ⟨v', r', e'⟩ := toD_tup s
        rw [List.map_cons, e'] at h2
        injection h2 with h3 _
        cases h3
    | many w' us =>
      rw [toD_many, toD_many] at h
      injection h with h
      injection h with h1 h2
      injection h1 with h1
      injection h2 with h2 _
      injection h2 with h2
      rw [h1, toDs_inj ts us h2]
theorem toDs_inj : ∀ (a b : List Tst), a.map toD = b.map toD → a = b
  | [], [], _ => rfl
  | [], _ :: _, h => by cases h
  | _ :: _, [], h => by cases h
  | x :: a, y :: b, h => by
    rw [List.map_cons, List.map_cons] at h
    injection h with h1 h2
    rw [toD_inj x y h1, toDs_inj a b h2]
end
end Tst
end LM
end
section
set_option Elab.async false
set_option linter.all false
set_option maxRecDepth 100000
set_option maxHeartbeats 8000000
namespace LM
open PySem DL Tst Tb
mutual
def heldT (z : Plc) : Tst → List Bool
  | .leaf w as => heldL z w as []
  | .un w t => heldL z w [] [heldT z t]
  | .many w ts => heldL z w [] (heldTs z ts)
def heldTs (z : Plc) : List Tst → List (List Bool)
  | [] => []
  | t :: ts => heldT z t :: heldTs z ts
end
theorem heldTs_eq (z : Plc) : ∀ ts : List Tst, heldTs z ts = ts.map (heldT z)
  | [] => by unfold heldTs; rfl
  | t :: ts => by unfold heldTs; rw [heldTs_eq z ts]; rfl
theorem heldT_eq (z : Plc) (t : Tst) : heldT z t = heldL z (wD t.toD) t.args (t.kids.map (heldT z)) := by
  cases t with
  | leaf w as => unfold heldT; rw [toD_leaf]; rfl
  | un w t => conv => lhs; unfold heldT
              rw [toD_un]; rfl
  | many w ts => conv => lhs; unfold heldT
                 rw [toD_many, heldTs_eq]; rfl
/-- tests of tests have some -/
def NE (t : Tst) : Prop := ∀ s ∈ subT t, lawKind (wD s.toD) = 4 → s.kids ≠ []
theorem NE.kid {t s : Tst} (h : NE t) (hs : s ∈ subT t) : lawKind (wD s.toD) = 4 → s.kids ≠ [] := h s hs
theorem heldL_len {z : Plc} (ok : z.Ok) {w : Str} {as : List Str} {rows : List (List Bool)} (hr : ∀ r ∈ rows, r.length = z.ps.length) (hne : w ∈ JW → rows ≠ []) : (heldL z w as rows).length = z.ps.length := by
  unfold heldL
  split
  · rename_i h
    have hn := hne h
    unfold joinL
    split
    · rw [List.length_map, List.length_range]
    split
    · rw [List.length_map, List.length_range]
    · rw [List.length_map]
      cases rows with
      | nil => exact absurd rfl hn
      | cons r rows => exact hr r List.mem_cons_self
  split
  · unfold besideL; rw [List.length_map, ok.lu]
  split
  · rw [alongL_len, ok.lu]
  split
  · unfold besideL; rw [List.length_map, ok.la]
  split
  · rw [alongL_len, ok.la]
  split
  · rw [List.length_map, ok.li]
  split
  · unfold belowL
    have fold : ∀ (ks : List Nat) (fd : List Bool), (ks.foldl (belowS z.inner (rows.headD [])) fd).length = fd.length := by
      intro ks
      induction ks with
      | nil => intro fd; rfl
      | cons k ks ih => intro fd; rw [List.foldl_cons, ih]; unfold belowS; rw [List.length_set]
    rw [fold, List.length_map, ok.li]
  · rw [List.length_map, List.length_range]
theorem jw_rows {z : Plc} {t : Tst} (wf : WF t) (hk : lawKind (wD t.toD) = 4 → t.kids ≠ []) : wD t.toD ∈ JW → t.kids.map (heldT z) ≠ [] := by
  intro h e
  have e2 : t.kids = [] := List.map_eq_nil_iff.mp e
  rcases shape_of wf with ⟨h4, _⟩ | ⟨_, _, w, s, rfl⟩ | ⟨h4, h5, _⟩
  · exact hk (kind_4.mp h4) e2
  · cases e2
  · have : ∀ x ∈ JW, x ∈ lawL4 ∨ x ∈ lawL5 := by decide +kernel
    rcases this _ h with z | z
    · exact h4 z
    · exact h5 z
mutual
theorem heldT_len {z : Plc} (ok : z.Ok) : ∀ t : Tst, WF t → NE t → (heldT z t).length = z.ps.length
  | .leaf w as, wf, ne => by
    rw [heldT_eq]
    exact heldL_len ok (fun r hr => nomatch hr) (jw_rows wf (ne _ (by rw [subT_eq]; simp)))
  | .un w t, wf, ne => by
    have wf' := wf
    unfold WF at wf'
    rw [heldT_eq]
    refine heldL_len ok (fun r hr => ?_) (jw_rows wf (ne _ (by rw [subT_eq]; simp)))
    have : r = heldT z t := by
      have hr : r ∈ [heldT z t] := hr
      simpa using hr
    rw [this]
    exact heldT_len ok t wf'.2 fun s hs => ne s (by rw [subT_eq]; exact List.mem_cons_of_mem _ (mem_subTs.mpr ⟨t, by unfold Tst.kids; simp, hs⟩))
  | .many w ts, wf, ne => by
    have wf' := wf
    unfold WF at wf'
    rw [heldT_eq]
    refine heldL_len ok (fun r hr => ?_) (jw_rows wf (ne _ (by rw [subT_eq]; simp)))
    exact heldTs_len ok ts ((wfs_iff ts).mp wf'.2) (fun t ht s hs => ne s (by rw [subT_eq]; exact List.mem_cons_of_mem _ (mem_subTs.mpr ⟨t, ht, hs⟩))) r hr
theorem heldTs_len {z : Plc} (ok : z.Ok) : ∀ ts : List Tst, (∀ t ∈ ts, WF t) → (∀ t ∈ ts, NE t) → ∀ r ∈ ts.map (heldT z), r.length = z.ps.length
  | [], _, _, r, h => nomatch h
  | t :: ts, wf, ne, r, h => by
    rw [List.map_cons] at h
    rcases List.mem_cons.mp h with rfl | h
    · exact heldT_len ok t (wf t List.mem_cons_self) (ne t List.mem_cons_self)
    · exact heldTs_len ok ts (fun x hx => wf x (List.mem_cons_of_mem _ hx)) (fun x hx => ne x (List.mem_cons_of_mem _ hx)) r h
end
/-- the numbers of the elements that fulfil the test -/
def ansL (s : Sh) (t : Tst) : List Nat := (((esOf s).zip (heldT (plcOf s) t)).filter (·.2)).map (·.1.num)
end LM
namespace LW
open PySem PySem.Spec PyProof.Rows L2 DL LM
section
variable {P : Program} {W : World} {K : PySem.W.Frag} {mg : Str → Option Value} {base : Heap} {f : Addr} {fd : FuncData} {CP dx : Addr} {A A2 H H' H0 H1 H2 G G2 Hc : Hp} {σ : L2.St} {t te td tn tv ti to t1 t2 : TE} {tr : TS} {ts u : TS} {tt : TT} {D : Ends} {tA : TA} {n i j : Nat} {p b x q : Addr} {xs ys : List V} {v : V} {d : PyData} {ds es : List PyData}
open Tst Tb
structure Kl (P : Program) (W : World) (K : PySem.W.Frag) (mg : Str → Option Value) (base : Heap) (k : Nat) (x : Str) (C : Addr) (sp : Sp) : Prop where
  ex : ∃ f fd ps, Mk K C f ∧ FnOk P W K mg base CX0 k f fd ps sp ∧ Binds K fd ps [] ∧ mg x = some (.ref C)
theorem pe_mk {X : Cx} {k j : Nat} {x : Str} {C : Addr} {sp : Sp} {p pos : Pos} {e : Expr} {es : List Expr} {t : TA} (c : Kl X.prog X.w X.K X.mg X.base k x C sp) (hr : Room j X.A) (hk : k + 1 ≤ j) (ha : PA X (e :: es) t) (hg : Gl X x := by rfl)
    (hdb : (x == ("__debug__" : Str)) = false := by decide) (he : starEach (e :: es) X.env = (false, eval e X.env) :: starEach es X.env := by rfl) (hpl : (backTo pos (starEach es X.env)).any (·.1) = false := by rfl) :
    PE X (.Call (.Name x p) (e :: es) [] pos) (tMake C sp [] E0 t) := by
  obtain ⟨f, fd, ps, M, F, b, hm⟩ := c.ex
  exact pe_make M F (hr.mono hk) hg hm b .nil pass0 ha hdb he hpl
/-- places = Places(shape) -/
theorem s_places {i jd : Nat} {s : Sh} (hd : σ[jd]? = some (some v)) (dv : Dv K G v s.toD) (vw : Vw s) (sm : Same G H) (k : ∀ x G' H', Pub G H G' H' → PlcH K CP G' H' x (plcOf s) → tr D (σ.set i (some (.ref x))) H') : tSeq (tAsg (tMake CP (spPI K CP) [] E0 (tCons (tVar jd) tNil)) (gName i)) tr D σ H := by
  refine ⟨v, hd, fun x dx hx hdx hne => ?_⟩
  refine ⟨x, dx, v, G, H, G, s, rfl, Own.new ((Pub.refl sm).newP hdx _) ?_ _, dv, vw, fun G' H' P sg ph => ⟨rfl, k x G' H' P ph⟩⟩
  first
    | (rw [upd_ne hne]; exact hx)
    | (rw [upd_ne (Ne.symm hne)]; exact hx)
end
end LW
end
section
set_option Elab.async false
set_option linter.all false
set_option maxRecDepth 100000
set_option maxHeartbeats 8000000
namespace LW
open PySem PySem.Spec PyProof.Rows L2 DL LM
theorem mt_indexDK {X : Cx} (K : PySem.W.Frag) (hu : X.A.units + 65 < cLine) (hK : X.K = K := by rfl) : MtR X "list.index" (rIndexD K) := by subst hK; exact mt_indexD hu
section
variable {P : Program} {W : World} {K : PySem.W.Frag} {mg : Str → Option Value} {base : Heap} {f : Addr} {fd : FuncData} {CP dx : Addr} {A A2 H H' H0 H1 H2 G G2 Hc : Hp} {σ : L2.St} {t te td tn tv ti to t1 t2 : TE} {tr : TS} {ts u : TS} {tt : TT} {D : Ends} {tA : TA} {n i j : Nat} {p b x q : Addr} {xs ys : List V} {v : V} {d : PyData} {ds es : List PyData}
open Tst Tb
/-- an item of a private list of public data -/
theorem gd_ixOwn {i : Int} {k : Nat} (ho : σ[k]? = some (some (.ref p))) (e : A p = some (.lst xs)) (da : DvA K H xs ds) (g : GD K tn σ H A (.int i)) (hd : atI ds i = some d) : GD K (tOp (rIx K) (tVar k) tn) σ H A d := fun H0 H1 q Q kk => by
  refine ⟨.ref p, ho, g.to q fun v G2 H2 q2 dv => ?_⟩
  obtain ⟨u, e2, du⟩ := DvA.at_ da hd
  exact .inl ⟨p, xs, i, u, rfl, Dv.int_inv dv, SqL.of (q2.hh _ _ (q.hh _ _ e)), e2, kk u G2 H2 q2 (du.to (q.hg.trans q2.hg))⟩
/-- tests.index(test) -/
theorem gd_idxT {l : List Tst} {s : Tst} {k m c : Nat} {vl vs : V} (hk : σ[k]? = some (some vl)) (dl : Dv K H vl (.list (l.map toD))) (hm : σ[m]? = some (some vs)) (ds : Dv K H vs s.toD) (okl : ∀ a ∈ l, Okt 7 a) (oks : Okt 7 s) (hc : l[c]? = some s) (nd : (l.map toD).Nodup) :
    GD K (tBM K "list" (rIndexD K) (tVar k) (tCons (tVar m) tNil)) σ H A (ofN c) := fun H0 H1 e Q q => by
  have dl' := dl.to e.hg
  obtain ⟨a, xs, rfl, sq, da⟩ := Dv.lst_inv dl'
  have sq1 := rd_same e.gh sq
  refine ⟨.ref a, hk, .inl ⟨rfl, xs, .inl sq1⟩, vs, hm, a, vs, s.toD, l.map toD, c, s.toD, rfl, rfl, dv_dp _ _ (dl'.to e.gh), dv_dp _ _ ((ds.to e.hg).to e.gh), shp_L okl, shp_T oks, by rw [List.getElem?_map, hc]; rfl, (eqv_pl _ _ (pl_toD s)).mpr rfl, fun mm z' hmm hz' => ?_, q _ H0 H1 (.refl e.gh) (.int _)⟩
  cases hb : PyData.eqv z' s.toD with
  | false => rfl
  | true =>
    have e2 := (eqv_pl _ _ (pl_toD s)).mp hb
    rw [e2] at hz'
    obtain ⟨h1, e3⟩ := List.getElem?_eq_some_iff.mp hz'
    obtain ⟨h2, e4⟩ := List.getElem?_eq_some_iff.mp (show (l.map toD)[c]? = some s.toD by rw [List.getElem?_map, hc]; rfl)
    have := (List.getElem_inj (h₀ := h1) (h₁ := h2) nd).mp (e3.trans e4.symm)
    omega
theorem PlcH.put {z : Plc} {o : HO} (h : PlcH K CP G H x z) (hne : p ≠ x) : PlcH K CP G (upd H p o) x z := by
  obtain ⟨dx, vp, vi, vu, va, vf, h1, h2⟩ := h.ex
  exact ⟨dx, vp, vi, vu, va, vf, by rw [upd_ne (Ne.symm hne)]; exact h1, h2⟩
theorem gd_heldC {z : Plc} {t : Tst} {rows : List (List Bool)} {k1 k2 k3 : Nat} {v5 v6 : V} (h1 : σ[k1]? = some (some (.ref x))) (h2 : σ[k2]? = some (some v5)) (h3 : σ[k3]? = some (some v6)) (ph : PlcH K CP H A x z) (ok : z.Ok) (oki : z.OkI) (du : Dv K H v5 t.toD) (wf : WF t) (dr : Dv K H v6 (rowsD rows)) (hl : rows.length = t.kids.length) (hz : rows.length ≤ 1000)
    (hne : t.args = [] → lawKind (wD t.toD) = 4 → rows ≠ []) (hr : ∀ r ∈ rows, r.length = z.ps.length) : GD K (tCall (spHd K CP) [] E0 (tCons (tVar k1) (tCons (tVar k2) (tCons (tVar k3) tNil)))) σ H A (blsD (heldL z (wD t.toD) t.args rows)) := fun H0 H1 e Q q => by
  refine ⟨.ref x, h1, v5, h2, v6, h3, ?_⟩
  show spHd K CP ([.ref x, v5, v6] ++ []) H1 Q E0
  exact ⟨x, v5, v6, H0, z, t, rows, rfl, e.gh, ph.to e.hg e.hh, ok, oki, du.to e.hg, wf, dr.to e.hg, hl, hz, hne, hr, fun y G' H' P dy => q y G' H' P dy⟩
def arAn : Sh × Tst → List PyData := fun x => [x.1.toD, x.2.toD]
theorem sub_trans {t s : Tst} (h : s ∈ subT t) : ∀ a ∈ subT s, a ∈ subT t :=
  all_sub (p := fun s => ∀ a ∈ subT s, a ∈ subT t) (fun x hx k hk a ha => hx a (by rw [subT_eq]; exact List.mem_cons_of_mem _ (mem_subTs.mpr ⟨k, hk, ha⟩))) t (fun a ha => ha) s h
theorem kids_few {n : Nat} {s : Tst} (h : Okt n s) : s.kids.length ≤ 14 := by
  have h1 := h.len
  rw [subT_eq, List.length_cons] at h1
  have h2 : ∀ ts : List Tst, ts.length ≤ (subTs ts).length := by
    intro ts
    induction ts with
    | nil => exact Nat.zero_le _
    | cons x ts ih =>
      have e : subTs (x :: ts) = subT x ++ subTs ts := by conv => lhs; unfold subTs
      rw [e, List.length_append, List.length_cons, subT_eq, List.length_cons]; omega
  have := h2 s.kids
  omega
theorem gd_negQ : GD K (tUn (rU fun i => .int (-i)) (tC (.int 1))) σ H A (.int (-1)) := fun H0 H1 e Q q => ⟨1, rfl, q _ H0 H1 (.refl e.gh) (.int _)⟩
theorem atI_lastQ {α : Type} {l : List α} {x : α} : atI (l ++ [x]) (-1) = some x := by
  have e : ixN (l ++ [x]).length (-1) = some l.length := by
    unfold ixN
    rw [if_neg (by decide), if_pos (by rw [List.length_append, List.length_singleton]; omega), List.length_append, List.length_singleton]
    congr 1
    omega
  unfold atI
  rw [e]
  show (l ++ [x])[l.length]? = some x
  rw [List.getElem?_append_right (Nat.le_refl _), Nat.sub_self]; rfl
structure preAn (x : Sh × Tst) : Prop where
  vw : Vw x.1
  ok : (plcOf x.1).Ok
  oki : (plcOf x.1).OkI
  okt : Okt 7 x.2
  ne : NE x.2
abbrev sanswer : Stmt := topS 15
theorem scanswer : FnScope ["shape", "test", "places", "tests", "held", "each", "inner", "deeper", "part", "holds"] ["shape", "test"] (defScope sanswer) := ⟨rfl, rfl, rfl, by decide +kernel, rfl, by decide +kernel, by decide +kernel⟩
theorem ok_answer (T : Bx mg) (C : PC K CP) (kPlaces : Kl P W K mg base 3 "Places" CP (spPI K CP)) (F : Fun K "answer" "answer" sanswer f fd) (ctests_in : Cal P W K mg base 1 "tests_in" (spA K 1 arT WF fun t => .tuple (t.kids.map toD))) (csubtests : Cal P W K mg base 10 "subtests" (spA K 1 arT (Okt 7) toldD)) (c_held : Cal P W K mg base 3 "_held" (spHd K CP)) : FnOk P W K mg base CX0 11 f fd ["shape", "test"] (spA K 2 arAn preAn fun x => natsD (ansL x.1 x.2)) := by
  refine fn_A F scanswer rfl fun cdv A outer s H1 E hr => ⟨_, (pss_cons (ps_set (i := 2) scanswer.nd rfl (Or.inl rfl) (pe_mk kPlaces hr (by omega) (pa_cons (pv 0) pa_nil)))
      (pss_cons (ps_set (i := 3) scanswer.nd rfl (Or.inr rfl) (pe_k csubtests hr (by omega) (pa_cons (pv 1) pa_nil)))
      (pss_cons (ps_set (i := 4) scanswer.nd rfl (Or.inr rfl) (pe_lst pa_nil))
      (pss_cons (ps_for PassesOwn.never rfl (pi_seq (pv 3)) (pg_name (i := 5) scanswer.nd rfl (Or.inl rfl)) (pss_cons (ps_setLc (i := 6) (own := [("deeper", 7)]) (by rfl) scanswer.nd rfl rfl (sw_true rfl rfl rfl (by decide +kernel)) (pi_seq (pe_k ctests_in hr (by omega) (pa_cons (pv 5) pa_nil))) (blkOk_by (own := [("deeper", 7)]) (N := ["shape", "test", "places", "tests", "held", "each", "inner", "deeper", "part", "holds"]) (sc := defScope sanswer) (by decide +kernel)) (fun _ _ _ _ _ => (pg_name (i := 7) scanswer.nd rfl (Or.inl rfl))) (fun _ _ _ _ _ => pts_nil) (fun _ _ _ _ _ => (pe_ix (ix_seqK K) (pv 4) (show PE _ _ (tBM K "list" (rIndexD K) (tVar 3) (tCons (tVar 7) tNil)) from pe_bm PySem.F.plainAttrs_list PySem.F.slot_list_index PySem.F.type_list_index (mt_indexDK K (room65 hr)) (pv 3) (pa_cons (pv 7) pa_nil)) (fun _ _ => rfl))))
      (pss_one (ps_expr (pe_bm PySem.F.plainAttrs_list PySem.F.slot_list_append PySem.F.type_list_append mt_append (pv 4) (pa_cons (pe_k c_held hr (by omega) (pa_cons (pv 2) (pa_cons (pv 5) (pa_cons (pv 6) pa_nil)))) pa_nil))))))
      (pss_one (ps_ret (pe_lc (own := [("part", 8), ("holds", 9)]) (by rfl) scanswer.nd (RZ.pi_zipA (by rfl) T.zip (pa_cons (pe_fld (pv 2) rfl) (pa_cons (pe_ix ix_seq (pv 4) (pe_un un_neg pe_int) (fun _ _ => rfl)) pa_nil))) (blkOk_by (own := [("part", 8), ("holds", 9)]) (N := ["shape", "test", "places", "tests", "held", "each", "inner", "deeper", "part", "holds"]) (sc := defScope sanswer) (by decide +kernel)) (fun _ _ _ _ _ => (pg_tupK K (n := 2) rfl (pgs_cons (pg_name (i := 8) scanswer.nd rfl (Or.inl rfl)) (pgs_cons (pg_name (i := 9) scanswer.nd rfl (Or.inl rfl)) pgs_nil)))) (fun _ _ _ _ _ => (pts_one (pt_trK K (pv 9)))) (fun _ _ _ _ _ => (pe_ix (ix_seqK K) (pv 8) pe_int (fun _ _ => rfl)))))))))), fun vs y H A hl sm dv hp => ?_⟩
  obtain ⟨s, t⟩ := y
  obtain ⟨vw, ok, oki, okt, ne⟩ := hp
  have vw : Vw s := vw
  have ok : (plcOf s).Ok := ok
  have oki : (plcOf s).OkI := oki
  have okt : Okt 7 t := okt
  have ne : NE t := ne
  obtain ⟨v, u, rfl, d1, d2⟩ := DvA.inv2 dv
  intro H0 H1 e D q
  refine s_places (K := K) (CP := CP) (jd := 0) rfl (d1.to e.hg) vw e.gh fun x G1 H2 P1 ph1 => ?_
  refine s_set (K := K) (d := toldD t) (gd_callA (K := K) (ar := arT) (f := toldD) (n := 1) t (ga_cons (gd_var (i := 1) rfl ((d2.to e.hg).to P1.hg)) ga_nil) rfl okt) P1.gh fun v3 G3 H3 P3 dv3 => ?_
  have ph3 := ph1.to P3.hg P3.hh
  refine ⟨Nat.zero_le _, fun p hp => ?_⟩
  dsimp only [gName]
  have w0 := Own.new (P1.trans P3) hp (.lst [])
  have hpx : p ≠ x := fun z => by
    obtain ⟨_, _, _, _, _, _, h, _⟩ := ph3.ex
    rw [z, h] at hp
    cases hp
  have ph4 := ph3.put (o := .lst []) hpx
  have okT := okt_told okt
  have tgt := told_tgt t
  have hz := told_100 okt
  refine s_mid (fun σ' H' => ∃ (x5 x6 : Option V) (G' : Hp) (xs : List V), σ' = [some v, some u, some (.ref x), some v3, some (.ref p), x5, x6, none, none, none] ∧ Own H0 H1 G' H' p (.lst xs) ∧ Same G3 G' ∧ PlcH K CP G' H' x (plcOf s) ∧ DvA K G' xs ((told t).map fun s' => blsD (heldT (plcOf s) s'))) ?_ fun rest => ?_
  · rintro σ' H5 ⟨x5, x6, G5, xs, rfl, w5, s35, ph5, da5⟩
    have hel : (esOf s).length ≤ 1000 := ok.len
    obtain ⟨r, er⟩ := told_last t
    rw [er, List.map_append] at da5
    obtain ⟨hl, hhl⟩ : ∃ hl, hl = heldT (plcOf s) t := ⟨_, rfl⟩
    have gh : ∀ {G' H' : Hp}, Pub G5 H5 G' H' → GD K (tOp (rIx K) (tVar 4) (tUn (rU fun i => .int (-i)) (tC (.int 1)))) [some v, some u, some (.ref x), some v3, some (.ref p), x5, x6, none, none, none] G' H' (.list (hl.map .bool)) := fun pp => by
      rw [hhl]
      exact gd_ixOwn (k := 4) rfl (pp.hh _ _ w5.at_) (da5.to pp.hg) gd_negQ atI_lastQ
    have gz := gi_zipL (K := K) (H := G5) (A := H5) (ga_cons (ph5.gp C (σ := [some v, some u, some (.ref x), some v3, some (.ref p), x5, x6, none, none, none]) (j := 2) rfl) (ga_cons (gh (.refl w5.gh)) ga_nil)) fun a ha => by
      obtain ⟨c, _, rfl⟩ := List.mem_map.mp ha
      cases c with
      | t n s => rw [Sh.toD_t]; rfl
      | e n nm ms ks => rw [Sh.toD_e]; rfl
    have ez : zipD ((plcOf s).ps.map Sh.toD) (hl.map .bool) = ((esOf s).zip hl).map fun q => .tuple [q.1.toD, .bool q.2] := by
      unfold zipD
      rw [List.zip_map, List.map_map]; rfl
    rw [ez] at gz
    have g := lc_run (te := tOp (rIx K) (tVar 8) (tC (.int 1))) (tt := tTr K (tVar 9)) (g := gTup K 2 (gCons (gName 8) (gCons (gName 9) gNil))) (vs := [8, 9]) (fun q : Sh × Bool => .tuple [q.1.toD, .bool q.2]) (fun q => q.2) (fun q => ofN q.1.num) gz (by rw [List.length_zip]; omega) fun i q hq v' G' H' p0 dv' Q2 q2 => by
      obtain ⟨c, ws, rfl, sq, da⟩ := Dv.tup_inv dv'
      obtain ⟨a, b, rfl, dxa, dxb⟩ := DvA.inv2 da
      refine ⟨c, _, rfl, seqT p0.gh sq, rfl, a, _, rfl, b, _, rfl, rfl, q2 _ G' H' (.refl p0.gh) (wipe2 (by decide)) (gt_tr (gd_var rfl dxb)) fun _ => ?_⟩
      obtain ⟨rr, er2⟩ := sh_tag (c := q.1)
      have dv2 : Dv K G' a (.tuple (.str (if q.1.isE then "e" else "t") :: ofN q.1.num :: .str q.1.tx :: rr)) := by rw [← er2]; exact dxa
      exact gdo (K := K) (gd_var (i := 8) rfl dv2) gd_int (go_ixT (atI_nat (j := 1) rfl))
    have ea : natsD (ansL s t) = .list ((((esOf s).zip hl).filter fun q => q.2).map fun q => ofN q.1.num) := by
      unfold natsD ansL
      rw [List.map_map, hhl]; rfl
    rw [← ea] at g
    exact s_ret (K := K) g w5.gh fun y G6 H6 P6 dy => q (natsD (ansL s t)) y G6 H6 rfl (w5.pub.trans P6) dy
  · refine for_run (H := G3) (gi_seqL (gd_var (i := 3) rfl dv3)) (.refl w0.gh) fun B HB PB => ?_
    refine ⟨fun i σ' G' H' => ∃ (x5 x6 : Option V) (xs : List V), σ' = [some v, some u, some (.ref x), some v3, some (.ref p), x5, x6, none, none, none] ∧ Own H0 H1 G' H' p (.lst xs) ∧ Same B G' ∧ PlcH K CP G' H' x (plcOf s) ∧ DvA K G' xs (((told t).take i).map fun s' => blsD (heldT (plcOf s) s')), ⟨none, none, [], rfl, w0.step PB, .refl _, ph4.to PB.hg PB.hh, .nil⟩, fun i σ' G' H' ⟨_, _, _, _, w, s, _⟩ => ⟨s, w.gh⟩, ?_, ?_⟩
    · rintro i dd σ' G' H' hdd ⟨x5, x6, xs, rfl, w', sB, ph', da'⟩ v5 G5 H5 P5 dv5
      rw [List.getElem?_map] at hdd
      obtain ⟨s', hs', rfl⟩ := Option.map_eq_some_iff.mp hdd
      have hm := List.mem_of_getElem? hs'
      have oks := okT s' hm
      have w5 := w'.step P5
      have ph5 := ph'.to P5.hg P5.hh
      have da5 := da'.to P5.hg
      have dv3' := dv3.to (PB.hg.trans (sB.trans P5.hg))
      have hil := (List.getElem?_eq_some_iff.mp hs').1
      have spl : told t = (told t).take i ++ s' :: (told t).drop (i + 1) := by
        conv => lhs; rw [← List.take_append_drop i (told t), List.drop_eq_getElem_cons hil, (List.getElem?_eq_some_iff.mp hs').2]
      have kin : ∀ k ∈ s'.kids, k ∈ (told t).take i := fun k hk => by
        have := tgt.cl _ _ _ spl k (mem_subTs.mpr ⟨k, hk, by rw [subT_eq]; exact List.mem_cons_self⟩)
        obtain ⟨k', hk', ek⟩ := List.mem_map.mp this
        rw [← toD_inj k' k ek]; exact hk'
      refine s_set (K := K) (i := 6) (d := rowsD (s'.kids.map (heldT (plcOf s)))) ?_ w5.gh fun v6 G6 H6 P6 dv6 => ?_
      · have e0 : rowsD (s'.kids.map (heldT (plcOf s))) = .list (s'.kids.map fun k => blsD (heldT (plcOf s) k)) := by
          unfold rowsD; rw [List.map_map]; rfl
        rw [e0]
        refine gd_lc (K := K) (k := 7) (em := toD) (xs := s'.kids) (gi_seqT (gd_callA (K := K) (ar := arT) (f := fun t => .tuple (t.kids.map toD)) (n := 1) s' (ga_cons (gd_var (i := 5) rfl dv5) ga_nil) rfl oks.wf)) (by
          have h1 := oks.len
          rw [subT_eq, List.length_cons] at h1
          have h2 : ∀ ts : List Tst, ts.length ≤ (subTs ts).length := by
            intro ts
            induction ts with
            | nil => exact Nat.zero_le _
            | cons x ts ih =>
              have e : subTs (x :: ts) = subT x ++ subTs ts := by conv => lhs; unfold subTs
              rw [e, List.length_append, List.length_cons, subT_eq, List.length_cons]; omega
          have := h2 s'.kids
          omega) fun c k hk v7 G7 H7 p7 dv7 => ?_
        have hkm := kin k (List.mem_of_getElem? hk)
        obtain ⟨cc, hcc⟩ := List.getElem?_of_mem hkm
        have hcc2 : (told t)[cc]? = some k := by
          rw [spl]
          have := (List.getElem?_eq_some_iff.mp hcc).1
          rw [List.getElem?_append_left this]; exact hcc
        refine gd_ixOwn (k := 4) rfl (p7.hh _ _ w5.at_) (da5.to p7.hg) (gd_idxT (k := 3) (m := 7) (c := cc) rfl (dv3'.to p7.hg) rfl dv7 okT (oks.kids k (List.mem_of_getElem? hk)) hcc2 tgt.nd) ?_
        refine atI_nat (j := cc) ?_
        rw [List.getElem?_map, hcc]; rfl
      · have w6 := w5.step P6
        have ph6 := ph5.to P6.hg P6.hh
        refine s_appendX (K := K) w6 rfl (gd_heldC (k1 := 2) (k2 := 5) (k3 := 6) rfl rfl rfl ph6 ok oki (dv5.to P6.hg) oks.wf dv6 (by rw [List.length_map]) (by rw [List.length_map]; have := kids_few oks; omega) (fun _ h4 z => ne s' (told_sub hm) h4 (List.map_eq_nil_iff.mp z)) fun r hr => ?_) (by rw [DvA.len da5, List.length_map, List.length_take, sizeLine_eq]; omega) fun y G7 H7 Hx P7 eH w7 dy => ?_
        · exact heldTs_len ok s'.kids (fun k hk => (oks.kids k hk).wf) (fun k hk a ha => ne a (sub_trans (told_sub hm) a (by rw [subT_eq]; exact List.mem_cons_of_mem _ (mem_subTs.mpr ⟨k, hk, ha⟩)))) r hr
        · subst eH
          refine ⟨G7, some v5, some v6, _, rfl, w7, sB.trans (P5.hg.trans (P6.hg.trans P7.hg)), (ph6.to P7.hg P7.hh).put hpx, ?_⟩
          have ht : (told t).take (i + 1) = (told t).take i ++ [s'] := by rw [List.take_add_one, hs']; rfl
          rw [ht, List.map_append]
          refine DvA.app ((da5.to P6.hg).to P7.hg) (.cons ?_ .nil)
          show Dv K G7 y (blsD (heldT (plcOf s) s'))
          rw [heldT_eq]
          exact dy
    · rintro σ' G' H' ⟨x5, x6, xs, rfl, w', sB, ph', da'⟩
      rw [List.length_map, List.take_length] at da'
      exact rest _ _ ⟨x5, x6, G', xs, rfl, w', PB.hg.trans sB, ph', da'⟩
end
end LW
end
section
set_option Elab.async false
set_option linter.all false
set_option maxRecDepth 100000
set_option maxHeartbeats 4000000
namespace LM
open PySem DL Tst Tb
/-! ### what the loops of Places write -/
theorem set_at {acc : List (Option Nat)} {c j : Nat} {v : Option Nat} (hj : j < acc.length) : (acc.set c v)[j]? = if c = j then some v else acc[j]? := by
  by_cases e : c = j
  · subst e; rw [if_pos rfl, List.getElem?_set_self hj]
  · rw [if_neg e, List.getElem?_set_ne e]
theorem upS_at (p : Nat) : ∀ (row : List Nat) (acc : List (Option Nat)) (j : Nat), j < acc.length → (upS p acc row)[j]? = if j ∈ row then some (some p) else acc[j]?
  | [], acc, j, h => by rw [if_neg (by simp)]; rfl
  | c :: row, acc, j, h => by
    have ih := upS_at p row (acc.set c (some p)) j (by rw [List.length_set]; exact h)
    have e : upS p acc (c :: row) = upS p (acc.set c (some p)) row := rfl
    rw [e, ih, set_at h]
    by_cases h1 : j ∈ row
    · rw [if_pos h1, if_pos (List.mem_cons_of_mem _ h1)]
    · rw [if_neg h1]
      by_cases h2 : c = j
      · rw [if_pos h2, if_pos (by rw [h2]; exact List.mem_cons_self)]
      · rw [if_neg h2, if_neg (by
          intro z
          rcases List.mem_cons.mp z with z | z
          · exact h2 z.symm
          · exact h1 z)]
theorem upTo_at {rows : List (List Nat)} {n : Nat} {par : Nat → Option Nat} (hp : ∀ p j, p < rows.length → (j ∈ rows.getD p [] ↔ par j = some p)) : ∀ i, i ≤ rows.length → ∀ j, j < n → (upTo rows n i)[j]? = some ((par j).filter fun p => decide (p < i))
  | 0, _, j, hj => by
    have e : upTo rows n 0 = List.replicate n none := rfl
    rw [e, List.getElem?_replicate, if_pos hj]
    cases par j <;> rfl
  | i + 1, hi, j, hj => by
    have ih := upTo_at hp i (by omega) j hj
    rw [upTo_succ, upS_at i _ _ j (by rw [upTo_len]; exact hj), ih]
    by_cases h : j ∈ rows.getD i []
    · rw [if_pos h, (hp i j (by omega)).mp h]
      show _ = some (if decide (i < i + 1) = true then some i else none)
      rw [if_pos (decide_eq_true (Nat.lt_succ_self i))]
    · rw [if_neg h]
      cases e : par j with
      | none => rfl
      | some q =>
        have hne : q ≠ i := fun z => h ((hp i j (by omega)).mpr (by rw [e, z]))
        show some (if decide (q < i) = true then some q else none) = some (if decide (q < i + 1) = true then some q else none)
        by_cases hq : q < i
        · rw [if_pos (decide_eq_true hq), if_pos (decide_eq_true (by omega))]
        · rw [if_neg (by rw [decide_eq_false hq]; exact Bool.false_ne_true), if_neg (by rw [decide_eq_false (by omega)]; exact Bool.false_ne_true)]
/-- the one before, the one behind in a row -/
def prv : List Nat → Nat → Option Nat
  | a :: c :: r, j => if c = j then some a else prv (c :: r) j
  | _, _ => none
def nxt : List Nat → Nat → Option Nat
  | a :: c :: r, j => if a = j then some c else nxt (c :: r) j
  | _, _ => none
theorem prv_cc (a c : Nat) (r : List Nat) (j : Nat) : prv (a :: c :: r) j = if c = j then some a else prv (c :: r) j := by conv => lhs; unfold prv
theorem nxt_cc (a c : Nat) (r : List Nat) (j : Nat) : nxt (a :: c :: r) j = if a = j then some c else nxt (c :: r) j := by conv => lhs; unfold nxt
theorem prv_mem : ∀ (row : List Nat) (j : Nat), prv row j ≠ none → j ∈ row.tail
  | [], j, h => absurd rfl h
  | [_], j, h => absurd rfl h
  | a :: c :: r, j, h => by
    rw [prv_cc] at h
    by_cases e : c = j
    · rw [← e]; exact List.mem_cons_self
    · rw [if_neg e] at h
      exact List.mem_cons_of_mem _ (prv_mem (c :: r) j h)
theorem nxt_mem : ∀ (row : List Nat) (j : Nat), nxt row j ≠ none → j ∈ row
  | [], j, h => absurd rfl h
  | [_], j, h => absurd rfl h
  | a :: c :: r, j, h => by
    rw [nxt_cc] at h
    by_cases e : a = j
    · rw [← e]; exact List.mem_cons_self
    · rw [if_neg e] at h
      exact List.mem_cons_of_mem _ (nxt_mem (c :: r) j h)
theorem ahS_at : ∀ (row : List Nat) (acc : List (Option Nat)) (j : Nat), row.Nodup → j < acc.length → (ahS acc row)[j]? = match prv row j with
    | some q => some (some q)
    | none => acc[j]?
  | [], acc, j, _, h => rfl
  | [_], acc, j, _, h => rfl
  | a :: c :: r, acc, j, nd, h => by
    have nd2 := (List.nodup_cons.mp nd).2
    have ih := ahS_at (c :: r) (acc.set c (some a)) j nd2 (by rw [List.length_set]; exact h)
    have e : ahS acc (a :: c :: r) = ahS (acc.set c (some a)) (c :: r) := rfl
    rw [e, ih, prv_cc]
    by_cases hc : c = j
    · rw [if_pos hc]
      have hn : prv (c :: r) j = none := by
        cases hp : prv (c :: r) j with
        | none => rfl
        | some q =>
          have := prv_mem (c :: r) j (by rw [hp]; exact fun z => nomatch z)
          rw [← hc] at this
          exact absurd this (List.nodup_cons.mp nd2).1
      rw [hn]
      show (acc.set c (some a))[j]? = _
      rw [set_at h, if_pos hc]
    · rw [if_neg hc]
      cases hp : prv (c :: r) j with
      | some q => rfl
      | none =>
        show (acc.set c (some a))[j]? = _
        rw [set_at h, if_neg hc]
theorem afS_at : ∀ (row : List Nat) (acc : List (Option Nat)) (j : Nat), row.Nodup → j < acc.length → (afS acc row)[j]? = match nxt row j with
    | some q => some (some q)
    | none => acc[j]?
  | [], acc, j, _, h => rfl
  | [_], acc, j, _, h => rfl
  | a :: c :: r, acc, j, nd, h => by
    obtain ⟨nd1, nd2⟩ := List.nodup_cons.mp nd
    have ih := afS_at (c :: r) (acc.set a (some c)) j nd2 (by rw [List.length_set]; exact h)
    have e : afS acc (a :: c :: r) = afS (acc.set a (some c)) (c :: r) := rfl
    rw [e, ih, nxt_cc]
    by_cases hc : a = j
    · rw [if_pos hc]
      have hn : nxt (c :: r) j = none := by
        cases hp : nxt (c :: r) j with
        | none => rfl
        | some q =>
          have := nxt_mem (c :: r) j (by rw [hp]; exact fun z => nomatch z)
          rw [← hc] at this
          exact absurd this nd1
      rw [hn]
      show (acc.set a (some c))[j]? = _
      rw [set_at h, if_pos hc]
    · rw [if_neg hc]
      cases hp : nxt (c :: r) j with
      | some q => rfl
      | none =>
        show (acc.set a (some c))[j]? = _
        rw [set_at h, if_neg hc]
end LM
end
section
set_option Elab.async false
set_option linter.all false
set_option maxRecDepth 100000
set_option maxHeartbeats 4000000
namespace LM
open PySem DL Tst Tb
theorem idx_ne {a k : Nat} {l : List Nat} (h : a ≠ k) : (a :: l).idxOf k = l.idxOf k + 1 := by
  have hb : (a == k) = false := beq_eq_false_iff_ne.mpr h
  rw [List.idxOf_cons, hb]; rfl
def inRow (g : List Nat → Nat → Option Nat) (rows : List (List Nat)) (j : Nat) : Option Nat → Option Nat
  | none => none
  | some p => g (rows.getD p []) j
theorem ahTo_at {rows : List (List Nat)} {n : Nat} {par : Nat → Option Nat} (hp : ∀ p j, p < rows.length → (j ∈ rows.getD p [] ↔ par j = some p)) (hnd : ∀ p, p < rows.length → (rows.getD p []).Nodup) :
    ∀ i, i ≤ rows.length → ∀ j, j < n → (ahTo rows n i)[j]? = some (inRow prv rows j ((par j).filter fun p => decide (p < i)))
  | 0, _, j, hj => by
    have e : ahTo rows n 0 = List.replicate n none := rfl
    rw [e, List.getElem?_replicate, if_pos hj]
    cases par j <;> rfl
  | i + 1, hi, j, hj => by
    have ih := ahTo_at hp hnd i (by omega) j hj
    rw [ahTo_succ, ahS_at _ _ j (hnd i (by omega)) (by rw [ahTo_len]; exact hj), ih]
    by_cases h : j ∈ rows.getD i []
    · have e := (hp i j (by omega)).mp h
      rw [e]
      have e1 : (some i).filter (fun p => decide (p < i)) = none := by
        show (if decide (i < i) = true then some i else none) = none
        rw [if_neg (by rw [decide_eq_false (Nat.lt_irrefl i)]; exact Bool.false_ne_true)]
      have e2 : (some i).filter (fun p => decide (p < i + 1)) = some i := by
        show (if decide (i < i + 1) = true then some i else none) = some i
        rw [if_pos (decide_eq_true (Nat.lt_succ_self i))]
      rw [e1, e2]
      show _ = some (prv (rows.getD i []) j)
      cases prv (rows.getD i []) j <;> rfl
    · have hn : prv (rows.getD i []) j = none := by
        cases hq : prv (rows.getD i []) j with
        | none => rfl
        | some q => exact absurd (List.mem_of_mem_tail (prv_mem _ j (by rw [hq]; exact fun z => nomatch z))) h
      rw [hn]
      show some (inRow prv rows j _) = some (inRow prv rows j _)
      congr 2
      cases e : par j with
      | none => rfl
      | some q =>
        have hne : q ≠ i := fun z => h ((hp i j (by omega)).mpr (by rw [e, z]))
        show (if decide (q < i) = true then some q else none) = if decide (q < i + 1) = true then some q else none
        by_cases hq : q < i
        · rw [if_pos (decide_eq_true hq), if_pos (decide_eq_true (by omega))]
        · rw [if_neg (by rw [decide_eq_false hq]; exact Bool.false_ne_true), if_neg (by rw [decide_eq_false (by omega)]; exact Bool.false_ne_true)]
theorem afTo_at {rows : List (List Nat)} {n : Nat} {par : Nat → Option Nat} (hp : ∀ p j, p < rows.length → (j ∈ rows.getD p [] ↔ par j = some p)) (hnd : ∀ p, p < rows.length → (rows.getD p []).Nodup) :
    ∀ i, i ≤ rows.length → ∀ j, j < n → (afTo rows n i)[j]? = some (inRow nxt rows j ((par j).filter fun p => decide (p < i)))
  | 0, _, j, hj => by
    have e : afTo rows n 0 = List.replicate n none := rfl
    rw [e, List.getElem?_replicate, if_pos hj]
    cases par j <;> rfl
  | i + 1, hi, j, hj => by
    have ih := afTo_at hp hnd i (by omega) j hj
    rw [afTo_succ, afS_at _ _ j (hnd i (by omega)) (by rw [afTo_len]; exact hj), ih]
    by_cases h : j ∈ rows.getD i []
    · have e := (hp i j (by omega)).mp h
      rw [e]
      have e1 : (some i).filter (fun p => decide (p < i)) = none := by
        show (if decide (i < i) = true then some i else none) = none
        rw [if_neg (by rw [decide_eq_false (Nat.lt_irrefl i)]; exact Bool.false_ne_true)]
      have e2 : (some i).filter (fun p => decide (p < i + 1)) = some i := by
        show (if decide (i < i + 1) = true then some i else none) = some i
        rw [if_pos (decide_eq_true (Nat.lt_succ_self i))]
      rw [e1, e2]
      show _ = some (nxt (rows.getD i []) j)
      cases nxt (rows.getD i []) j <;> rfl
    · have hn : nxt (rows.getD i []) j = none := by
        cases hq : nxt (rows.getD i []) j with
        | none => rfl
        | some q => exact absurd (nxt_mem _ j (by rw [hq]; exact fun z => nomatch z)) h
      rw [hn]
      show some (inRow nxt rows j _) = some (inRow nxt rows j _)
      congr 2
      cases e : par j with
      | none => rfl
      | some q =>
        have hne : q ≠ i := fun z => h ((hp i j (by omega)).mpr (by rw [e, z]))
        show (if decide (q < i) = true then some q else none) = if decide (q < i + 1) = true then some q else none
        by_cases hq : q < i
        · rw [if_pos (decide_eq_true hq), if_pos (decide_eq_true (by omega))]
        · rw [if_neg (by rw [decide_eq_false hq]; exact Bool.false_ne_true), if_neg (by rw [decide_eq_false (by omega)]; exact Bool.false_ne_true)]
/-- the one before is the last of those in front -/
theorem prv_take : ∀ (l : List Nat) (k : Nat), l.Nodup → k ∈ l → prv l k = (l.take (l.idxOf k)).getLast?
  | [], k, _, h => nomatch h
  | [a], k, _, h => by
    rw [List.mem_singleton.mp h, List.idxOf_cons_self]; rfl
  | a :: c :: r, k, nd, h => by
    obtain ⟨nd1, nd2⟩ := List.nodup_cons.mp nd
    rw [prv_cc]
    by_cases ha : a = k
    · have hc : c ≠ k := fun z => nd1 (by rw [ha, ← z]; exact List.mem_cons_self)
      rw [if_neg hc, ← ha, List.idxOf_cons_self, List.take_zero]
      cases hp : prv (c :: r) a with
      | none => rfl
      | some q => exact absurd (List.mem_of_mem_tail (prv_mem _ a (by rw [hp]; exact fun z => nomatch z))) nd1
    · have hk : k ∈ c :: r := (List.mem_cons.mp h).resolve_left fun z => ha z.symm
      rw [idx_ne ha, List.take_succ_cons]
      by_cases hc : c = k
      · rw [if_pos hc, hc, List.idxOf_cons_self, List.take_zero]; rfl
      · rw [if_neg hc, prv_take (c :: r) k nd2 hk, idx_ne hc, List.take_succ_cons, List.getLast?_cons_cons]
theorem nxt_at : ∀ (l : List Nat) (k : Nat), l.Nodup → k ∈ l → nxt l k = l[l.idxOf k + 1]?
  | [], k, _, h => nomatch h
  | [a], k, _, h => by
    rw [List.mem_singleton.mp h, List.idxOf_cons_self]; rfl
  | a :: c :: r, k, nd, h => by
    obtain ⟨nd1, nd2⟩ := List.nodup_cons.mp nd
    rw [nxt_cc]
    by_cases ha : a = k
    · rw [if_pos ha, ← ha, List.idxOf_cons_self]; rfl
    · have hk : k ∈ c :: r := (List.mem_cons.mp h).resolve_left fun z => ha z.symm
      rw [if_neg ha, nxt_at (c :: r) k nd2 hk, idx_ne ha]; rfl
theorem prv_map {f : Nat → Nat} : ∀ (l : List Nat) (k : Nat), (∀ x ∈ l, f x = f k → x = k) → prv (l.map f) (f k) = (prv l k).map f
  | [], _, _ => rfl
  | [_], _, _ => rfl
  | a :: c :: r, k, h => by
    have ih := prv_map (c :: r) k fun x hx => h x (List.mem_cons_of_mem _ hx)
    show prv (f a :: f c :: r.map f) (f k) = _
    rw [prv_cc, prv_cc]
    by_cases hc : c = k
    · rw [if_pos (by rw [hc]), if_pos hc]; rfl
    · rw [if_neg (fun z => hc (h c (by simp) z)), if_neg hc]
      exact ih
theorem nxt_map {f : Nat → Nat} : ∀ (l : List Nat) (k : Nat), (∀ x ∈ l, f x = f k → x = k) → nxt (l.map f) (f k) = (nxt l k).map f
  | [], _, _ => rfl
  | [_], _, _ => rfl
  | a :: c :: r, k, h => by
    have ih := nxt_map (c :: r) k fun x hx => h x (List.mem_cons_of_mem _ hx)
    show nxt (f a :: f c :: r.map f) (f k) = _
    rw [nxt_cc, nxt_cc]
    by_cases hc : a = k
    · rw [if_pos (by rw [hc]), if_pos hc]; rfl
    · rw [if_neg (fun z => hc (h a (by simp) z)), if_neg hc]
      exact ih
end LM
end
section
set_option Elab.async false
set_option linter.all false
set_option maxRecDepth 100000
set_option maxHeartbeats 4000000
namespace LM
open PySem DL Tst Tb
/-- the tables say what the view is -/
structure Lk (b : Tb) (s : Sh) : Prop where
  seen : Seen b (enOf s)
  ek : ∀ p ∈ esOf s, (p.kids.filter Sh.isE).map Sh.num = b.ek p.num
  own : ∀ p ∈ esOf s, ∀ w as, lawKind w < 4 → as.length = kindLen (lawKind w) → b.own w as p.num = ownS w as p (b.bef p.num).getLast? (b.aft p.num)
variable {b : Tb} {s : Sh}
theorem en_len : (enOf s).length = (esOf s).length := by unfold enOf; rw [List.length_map]
theorem inn_eq (l : Lk b s) : innOf s = (enOf s).map fun k => (b.ek k).map (enOf s).idxOf := by
  have e : (enOf s).map (fun k => (b.ek k).map (enOf s).idxOf) = (esOf s).map fun p => (b.ek p.num).map (enOf s).idxOf := by
    conv => lhs; arg 2; unfold enOf
    rw [List.map_map]; rfl
  rw [e]
  unfold innOf
  refine List.map_congr_left fun p hp => ?_
  rw [← l.ek p hp, List.map_map]; rfl
theorem inn_at (l : Lk b s) {p : Nat} (hp : p < (enOf s).length) : (innOf s).getD p [] = (b.ek (enOf s)[p]).map (enOf s).idxOf := by
  rw [inn_eq l, List.getD_eq_getElem?_getD, List.getElem?_map, List.getElem?_eq_getElem hp]; rfl
def parI (b : Tb) (eo : List Nat) (j : Nat) : Option Nat := match eo[j]? with
  | none => none
  | some k => (b.up k).map eo.idxOf
theorem parI_at {eo : List Nat} {j : Nat} (hj : j < eo.length) : parI b eo j = (b.up eo[j]).map eo.idxOf := by
  unfold parI
  rw [List.getElem?_eq_getElem hj]
theorem row_par (l : Lk b s) (p j : Nat) (hp : p < (innOf s).length) : j ∈ (innOf s).getD p [] ↔ parI b (enOf s) j = some p := by
  have hpl : p < (enOf s).length := by rw [inn_eq l, List.length_map] at hp; exact hp
  have sn := l.seen
  have hpm : (enOf s)[p] ∈ enOf s := List.getElem_mem hpl
  rw [inn_at l hpl, List.mem_map]
  constructor
  · rintro ⟨c, hc, rfl⟩
    obtain ⟨h1, h2⟩ := (sn.ek_mem hpm).mp hc
    have hil := List.idxOf_lt_length_of_mem h1
    rw [parI_at hil, List.getElem_idxOf hil, h2]
    show some ((enOf s).idxOf (enOf s)[p]) = some p
    rw [List.Nodup.idxOf_getElem sn.nd]
  · intro h
    by_cases hj : j < (enOf s).length
    · rw [parI_at hj] at h
      obtain ⟨q, hq, e⟩ := Option.map_eq_some_iff.mp h
      have hjm : (enOf s)[j] ∈ enOf s := List.getElem_mem hj
      have hqm := (sn.par _ q ((sn.mem _).mp hjm).1 hq).1
      have hqp : (enOf s)[p] = q := by
        have hil := List.idxOf_lt_length_of_mem hqm
        have h1 : (enOf s)[(enOf s).idxOf q]? = some q := by rw [List.getElem?_eq_getElem hil, List.getElem_idxOf hil]
        rw [e, List.getElem?_eq_getElem hpl] at h1
        exact Option.some.inj h1
      refine ⟨(enOf s)[j], (sn.ek_mem hpm).mpr ⟨hjm, by rw [hqp]; exact hq⟩, List.Nodup.idxOf_getElem sn.nd j hj⟩
    · unfold parI at h
      rw [List.getElem?_eq_none (by omega)] at h
      cases h
theorem idx_inj {eo : List Nat} {x y : Nat} (hx : x ∈ eo) (hy : y ∈ eo) (h : eo.idxOf x = eo.idxOf y) : x = y := by
  have h1 := List.getElem_idxOf (List.idxOf_lt_length_of_mem hx)
  have h2 := List.getElem_idxOf (List.idxOf_lt_length_of_mem hy)
  rw [← h1, ← h2]
  congr 1
theorem row_nodup (l : Lk b s) (p : Nat) (hp : p < (innOf s).length) : ((innOf s).getD p []).Nodup := by
  have hpl : p < (enOf s).length := by rw [inn_eq l, List.length_map] at hp; exact hp
  rw [inn_at l hpl]
  have hpm : (enOf s)[p] ∈ enOf s := List.getElem_mem hpl
  have nd := (l.seen.sib _ hpm).nodup l.seen.nd
  refine List.pairwise_map.mpr (nd.imp_of_mem fun {x y} hx hy h e => h ?_)
  exact idx_inj ((l.seen.ek_mem hpm).mp hx).1 ((l.seen.ek_mem hpm).mp hy).1 e
theorem par_lt (l : Lk b s) (j : Nat) : (parI b (enOf s) j).filter (fun p => decide (p < (esOf s).length)) = parI b (enOf s) j := by
  by_cases hj : j < (enOf s).length
  · rw [parI_at hj]
    cases e : b.up (enOf s)[j] with
    | none => rfl
    | some q =>
      have hqm := (l.seen.par _ q ((l.seen.mem _).mp (List.getElem_mem hj)).1 e).1
      have := List.idxOf_lt_length_of_mem hqm
      rw [en_len] at this
      show (if decide ((enOf s).idxOf q < (esOf s).length) = true then some ((enOf s).idxOf q) else none) = some ((enOf s).idxOf q)
      rw [if_pos (decide_eq_true this)]
  · unfold parI
    rw [List.getElem?_eq_none (by omega)]; rfl
theorem up_eq (l : Lk b s) : (plcOf s).up = (enOf s).map fun k => (b.up k).map (enOf s).idxOf := by
  have hil : (innOf s).length = (esOf s).length := by unfold innOf; rw [List.length_map]
  refine List.ext_getElem? fun j => ?_
  show (upTo (innOf s) (esOf s).length (esOf s).length)[j]? = _
  by_cases hj : j < (esOf s).length
  · rw [upTo_at (row_par l) _ (Nat.le_of_eq hil.symm) j hj, par_lt l j, parI_at (by rw [en_len]; exact hj), List.getElem?_map, List.getElem?_eq_getElem (by rw [en_len]; exact hj)]; rfl
  · rw [List.getElem?_eq_none (by rw [upTo_len]; omega), List.getElem?_eq_none (by rw [List.length_map, en_len]; omega)]
theorem ahead_eq (l : Lk b s) : (plcOf s).ahead = (enOf s).map fun k => (b.bef k).getLast?.map (enOf s).idxOf := by
  have hil : (innOf s).length = (esOf s).length := by unfold innOf; rw [List.length_map]
  refine List.ext_getElem? fun j => ?_
  show (ahTo (innOf s) (esOf s).length (esOf s).length)[j]? = _
  by_cases hj : j < (esOf s).length
  · have hjl : j < (enOf s).length := by rw [en_len]; exact hj
    rw [ahTo_at (row_par l) (row_nodup l) _ (Nat.le_of_eq hil.symm) j hj, par_lt l j, parI_at hjl, List.getElem?_map, List.getElem?_eq_getElem hjl]
    have hm : (enOf s)[j] ∈ enOf s := List.getElem_mem hjl
    show some _ = some _
    congr 1
    cases e : b.up (enOf s)[j] with
    | none =>
      have : b.bef (enOf s)[j] = [] := by unfold bef; rw [e]
      show none = (b.bef (enOf s)[j]).getLast?.map (enOf s).idxOf
      rw [this]; rfl
    | some q =>
      have hqm := (l.seen.par _ q ((l.seen.mem _).mp hm).1 e).1
      have hqi := List.idxOf_lt_length_of_mem hqm
      have hkm := (l.seen.ek_mem hqm).mpr ⟨hm, e⟩
      have nd := (l.seen.sib q hqm).nodup l.seen.nd
      obtain ⟨_, _, hb⟩ := l.seen.bef_eq hm e
      show prv ((innOf s).getD ((enOf s).idxOf q) []) j = _
      rw [inn_at l hqi, List.getElem_idxOf hqi]
      have hjj : (enOf s).idxOf (enOf s)[j] = j := List.Nodup.idxOf_getElem l.seen.nd j hjl
      have := prv_map (f := (enOf s).idxOf) (b.ek q) (enOf s)[j] fun x hx h => idx_inj ((l.seen.ek_mem hqm).mp hx).1 hm h
      rw [hjj] at this
      rw [this, prv_take _ _ nd hkm, ← hb]
  · rw [List.getElem?_eq_none (by rw [ahTo_len]; omega), List.getElem?_eq_none (by rw [List.length_map, en_len]; omega)]
theorem after_eq (l : Lk b s) : (plcOf s).after = (enOf s).map fun k => (b.aft k).map (enOf s).idxOf := by
  have hil : (innOf s).length = (esOf s).length := by unfold innOf; rw [List.length_map]
  refine List.ext_getElem? fun j => ?_
  show (afTo (innOf s) (esOf s).length (esOf s).length)[j]? = _
  by_cases hj : j < (esOf s).length
  · have hjl : j < (enOf s).length := by rw [en_len]; exact hj
    rw [afTo_at (row_par l) (row_nodup l) _ (Nat.le_of_eq hil.symm) j hj, par_lt l j, parI_at hjl, List.getElem?_map, List.getElem?_eq_getElem hjl]
    have hm : (enOf s)[j] ∈ enOf s := List.getElem_mem hjl
    show some _ = some _
    congr 1
    cases e : b.up (enOf s)[j] with
    | none =>
      have : b.aft (enOf s)[j] = none := by unfold aft; rw [e]
      show none = (b.aft (enOf s)[j]).map (enOf s).idxOf
      rw [this]; rfl
    | some q =>
      have hqm := (l.seen.par _ q ((l.seen.mem _).mp hm).1 e).1
      have hqi := List.idxOf_lt_length_of_mem hqm
      have hkm := (l.seen.ek_mem hqm).mpr ⟨hm, e⟩
      have nd := (l.seen.sib q hqm).nodup l.seen.nd
      have hb : b.aft (enOf s)[j] = (b.ek q)[(b.ek q).idxOf (enOf s)[j] + 1]? := by unfold aft; rw [e]
      show nxt ((innOf s).getD ((enOf s).idxOf q) []) j = _
      rw [inn_at l hqi, List.getElem_idxOf hqi]
      have hjj : (enOf s).idxOf (enOf s)[j] = j := List.Nodup.idxOf_getElem l.seen.nd j hjl
      have := nxt_map (f := (enOf s).idxOf) (b.ek q) (enOf s)[j] fun x hx h => idx_inj ((l.seen.ek_mem hqm).mp hx).1 hm h
      rw [hjj] at this
      rw [this, nxt_at _ _ nd hkm, ← hb]
  · rw [List.getElem?_eq_none (by rw [afTo_len]; omega), List.getElem?_eq_none (by rw [List.length_map, en_len]; omega)]
theorem plc_ok (l : Lk b s) (vw : Vw s) : (plcOf s).Ok := by
  have hel : (esOf s).length ≤ 1000 := Nat.le_trans (List.length_filter_le _ _) vw.sz
  refine ⟨hel, by show (innOf s).length = _; unfold innOf; rw [List.length_map]; rfl, upTo_len _ _ _, ahTo_len _ _ _, afTo_len _ _ _, fun p hp => ?_⟩
  obtain ⟨h1, h2⟩ := List.mem_filter.mp hp
  exact ⟨h2, vw.mms p h1⟩
theorem plc_oki (l : Lk b s) (vw : Vw s) : (plcOf s).OkI := by
  have sn := l.seen
  refine ⟨fun i q h => ?_, fun i q h => ?_, fun r hr => ⟨?_, inn_lt hr⟩⟩
  · rw [up_eq l, List.getElem?_map] at h
    obtain ⟨k, hk, e⟩ := Option.map_eq_some_iff.mp h
    obtain ⟨p, hp, e2⟩ := Option.map_eq_some_iff.mp e
    have hm := List.mem_of_getElem? hk
    have hlt := (sn.par k p ((sn.mem k).mp hm).1 hp).2 hm
    obtain ⟨hi, e3⟩ := List.getElem?_eq_some_iff.mp hk
    rw [← e2]
    have : (enOf s).idxOf k = i := by rw [← e3]; exact List.Nodup.idxOf_getElem sn.nd i hi
    omega
  · rw [ahead_eq l, List.getElem?_map] at h
    obtain ⟨k, hk, e⟩ := Option.map_eq_some_iff.mp h
    obtain ⟨p, hp, e2⟩ := Option.map_eq_some_iff.mp e
    have hm := List.mem_of_getElem? hk
    have hlt := (sn.bef_last hm hp).2.1
    obtain ⟨hi, e3⟩ := List.getElem?_eq_some_iff.mp hk
    rw [← e2]
    have : (enOf s).idxOf k = i := by rw [← e3]; exact List.Nodup.idxOf_getElem sn.nd i hi
    omega
  · obtain ⟨p, hp, rfl⟩ := List.mem_map.mp hr
    rw [List.length_map]
    exact Nat.le_trans (List.length_filter_le _ _) (vw.mms p (List.mem_filter.mp hp).1).2
end LM
end
section
set_option Elab.async false
set_option linter.all false
set_option maxRecDepth 100000
set_option maxHeartbeats 4000000
namespace LM
open PySem DL Tst Tb
variable {b : Tb} {s : Sh}
theorem ownS_iso {w : Str} {as : List Str} {p : Sh} {o o' : Option Nat} {f g : Nat → Nat} : ownS w as p (o.map f) (o'.map g) = ownS w as p o o' := by
  unfold ownS
  cases o <;> cases o' <;> rfl
theorem leaf_words {w : Str} (h : lawKind w < 4) : w ∉ JW ∧ w ≠ "under" ∧ w ≠ "in" ∧ w ≠ "next" ∧ w ≠ "behind" ∧ w ≠ "over" ∧ w ≠ "has" := by
  have k : ∀ x : Str, ¬ lawKind x < 4 → w ≠ x := fun x hx e => hx (by rw [← e]; exact h)
  refine ⟨fun hj => ?_, k _ (by decide +kernel), k _ (by decide +kernel), k _ (by decide +kernel), k _ (by decide +kernel), k _ (by decide +kernel), k _ (by decide +kernel)⟩
  have : ∀ x ∈ JW, ¬ lawKind x < 4 := by decide +kernel
  exact this w hj h
theorem semA_all (b : Tb) : ∀ (ts : List Tst) (k : Nat), b.semA ts k = ts.all fun t => b.sem t k
  | [], k => by unfold semA; rfl
  | t :: ts, k => by
    conv => lhs; unfold semA
    rw [semA_all b ts k]; rfl
theorem semO_any (b : Tb) : ∀ (ts : List Tst) (k : Nat), b.semO ts k = ts.any fun t => b.sem t k
  | [], k => by unfold semO; rfl
  | t :: ts, k => by
    conv => lhs; unfold semO
    rw [semO_any b ts k]; rfl
theorem sem_un (b : Tb) (w : Str) (t : Tst) : b.sem (.un w t) = fun k =>
    if w = "not" then !b.sem t k else
    if w = "under" then (b.abv k).head?.any (b.sem t) else
    if w = "in" then (b.abv k).any (b.sem t) else
    if w = "next" then (b.bef k).getLast?.any (b.sem t) else
    if w = "behind" then (b.bef k).any (b.sem t) else
    if w = "over" then (b.ek k).any (b.sem t) else (b.has k).any (b.sem t) := by
  funext k
  conv => lhs; unfold sem
theorem sem_many (b : Tb) (w : Str) (ts : List Tst) : b.sem (.many w ts) = fun k => if w = "both" then ts.all (fun t => b.sem t k) else ts.any (fun t => b.sem t k) := by
  funext k
  conv => lhs; unfold sem
  rw [semA_all, semO_any]
theorem range_rows {eo : List Nat} {g : Nat → Bool} {h : Nat → Bool} (e : ∀ j (hj : j < eo.length), h j = g eo[j]) : (List.range eo.length).map h = eo.map g := by
  refine List.ext_getElem? fun j => ?_
  rw [List.getElem?_map, List.getElem?_map]
  by_cases hj : j < eo.length
  · rw [List.getElem?_range hj, List.getElem?_eq_getElem hj]
    show some (h j) = some (g eo[j])
    rw [e j hj]
  · rw [List.getElem?_eq_none (by rw [List.length_range]; omega), List.getElem?_eq_none (by omega)]; rfl
theorem row_getD {eo : List Nat} {g : Nat → Bool} {j : Nat} (hj : j < eo.length) : (eo.map g).getD j false = g eo[j] := by
  rw [List.getD_eq_getElem?_getD, List.getElem?_map, List.getElem?_eq_getElem hj]; rfl
mutual
theorem heldT_sem (l : Lk b s) (vw : Vw s) : ∀ t : Tst, WF t → heldT (plcOf s) t = (enOf s).map (b.sem t)
  | .leaf w as, wf => by
    unfold WF at wf
    obtain ⟨n0, n1, n2, n3, n4, n5, n6⟩ := leaf_words wf.1
    have e0 : heldT (plcOf s) (.leaf w as) = heldL (plcOf s) w as [] := by conv => lhs; unfold heldT
    rw [e0]
    unfold heldL
    rw [if_neg n0, if_neg n1, if_neg n2, if_neg n3, if_neg n4, if_neg n5, if_neg n6]
    have e1 : (plcOf s).ps.length = (enOf s).length := en_len.symm
    rw [e1]
    refine range_rows fun j hj => ?_
    have hjs : j < (esOf s).length := by rw [← en_len]; exact hj
    have hnum : (enOf s)[j] = (esOf s)[j].num := by
      have : (enOf s)[j]? = some (esOf s)[j].num := by unfold enOf; rw [List.getElem?_map, List.getElem?_eq_getElem hjs]; rfl
      rw [List.getElem?_eq_getElem hj] at this
      exact Option.some.inj this
    have ep : (plcOf s).ps.getD j (.t 0 "") = (esOf s)[j] := by
      show (esOf s).getD j _ = _
      rw [List.getD_eq_getElem?_getD, List.getElem?_eq_getElem hjs]; rfl
    have ea : (plcOf s).ahead.getD j none = (b.bef (enOf s)[j]).getLast?.map (enOf s).idxOf := by
      rw [ahead_eq l, List.getD_eq_getElem?_getD, List.getElem?_map, List.getElem?_eq_getElem hj]; rfl
    have ef : (plcOf s).after.getD j none = (b.aft (enOf s)[j]).map (enOf s).idxOf := by
      rw [after_eq l, List.getD_eq_getElem?_getD, List.getElem?_map, List.getElem?_eq_getElem hj]; rfl
    have es : b.sem (.leaf w as) (enOf s)[j] = b.own w as (enOf s)[j] := by conv => lhs; unfold sem
    rw [ep, ea, ef, ownS_iso, es, hnum, ← l.own _ (List.getElem_mem hjs) w as wf.1 wf.2]
  | .un w t, wf => by
    unfold WF at wf
    have ih := heldT_sem l vw t wf.2
    have e0 : heldT (plcOf s) (.un w t) = heldL (plcOf s) w [] [heldT (plcOf s) t] := by conv => lhs; unfold heldT
    rw [e0, sem_un, ih]
    have hw : w ∈ lawL5 := kind_5.mpr wf.1
    simp only [lawL5, List.mem_cons, List.not_mem_nil, or_false] at hw
    have sn := l.seen
    have ne : ∀ {x y : Str}, x ≠ y → ¬ x = y := fun h => h
    rcases hw with rfl | rfl | rfl | rfl | rfl | rfl | rfl
    · unfold heldL
      rw [if_pos (by decide +kernel)]
      unfold joinL
      rw [if_neg (by decide +kernel), if_neg (by decide +kernel)]
      show ((enOf s).map (b.sem t)).map (fun x => !x) = _
      rw [List.map_map]
      refine List.map_congr_left fun k _ => ?_
      show (!b.sem t k) = _
      rw [if_pos rfl]
    · unfold heldL
      rw [if_neg (by decide +kernel), if_pos rfl, up_eq l]
      show besideL _ ((enOf s).map (b.sem t)) = _
      rw [sn.p_under]
      refine List.map_congr_left fun k _ => ?_
      rw [if_neg (by decide +kernel), if_pos rfl]
    · unfold heldL
      rw [if_neg (by decide +kernel), if_neg (by decide +kernel), if_pos rfl, up_eq l]
      show alongL _ ((enOf s).map (b.sem t)) = _
      rw [sn.p_in]
      refine List.map_congr_left fun k _ => ?_
      rw [if_neg (by decide +kernel), if_neg (by decide +kernel), if_pos rfl]
    · unfold heldL
      rw [if_neg (by decide +kernel), if_neg (by decide +kernel), if_neg (by decide +kernel), if_pos rfl, ahead_eq l]
      show besideL _ ((enOf s).map (b.sem t)) = _
      rw [sn.p_next]
      refine List.map_congr_left fun k _ => ?_
      rw [if_neg (by decide +kernel), if_neg (by decide +kernel), if_neg (by decide +kernel), if_pos rfl]
    · unfold heldL
      rw [if_neg (by decide +kernel), if_neg (by decide +kernel), if_neg (by decide +kernel), if_neg (by decide +kernel), if_pos rfl, ahead_eq l]
      show alongL _ ((enOf s).map (b.sem t)) = _
      rw [sn.p_behind]
      refine List.map_congr_left fun k _ => ?_
      rw [if_neg (by decide +kernel), if_neg (by decide +kernel), if_neg (by decide +kernel), if_neg (by decide +kernel), if_pos rfl]
    · unfold heldL
      rw [if_neg (by decide +kernel), if_neg (by decide +kernel), if_neg (by decide +kernel), if_neg (by decide +kernel), if_neg (by decide +kernel), if_pos rfl]
      show ((innOf s).map fun r => r.any fun c => ((enOf s).map (b.sem t)).getD c false) = _
      rw [inn_eq l, sn.p_over]
      refine List.map_congr_left fun k _ => ?_
      rw [if_neg (by decide +kernel), if_neg (by decide +kernel), if_neg (by decide +kernel), if_neg (by decide +kernel), if_neg (by decide +kernel), if_pos rfl]
    · unfold heldL
      rw [if_neg (by decide +kernel), if_neg (by decide +kernel), if_neg (by decide +kernel), if_neg (by decide +kernel), if_neg (by decide +kernel), if_neg (by decide +kernel), if_pos rfl]
      show belowL (innOf s) ((enOf s).map (b.sem t)) = _
      rw [inn_eq l, sn.p_has]
      refine List.map_congr_left fun k _ => ?_
      rw [if_neg (by decide +kernel), if_neg (by decide +kernel), if_neg (by decide +kernel), if_neg (by decide +kernel), if_neg (by decide +kernel), if_neg (by decide +kernel)]
  | .many w ts, wf => by
    unfold WF at wf
    have ih := heldTs_sem l vw ts ((wfs_iff ts).mp wf.2)
    have e0 : heldT (plcOf s) (.many w ts) = heldL (plcOf s) w [] (heldTs (plcOf s) ts) := by conv => lhs; unfold heldT
    rw [e0, sem_many, heldTs_eq, ih]
    have hw : w ∈ lawL4 := kind_4.mpr wf.1
    simp only [lawL4, List.mem_cons, List.not_mem_nil, or_false] at hw
    have e1 : (plcOf s).ps.length = (enOf s).length := en_len.symm
    rcases hw with rfl | rfl
    · unfold heldL
      rw [if_pos (by decide +kernel)]
      unfold joinL
      rw [if_pos rfl, e1]
      refine range_rows fun j hj => ?_
      rw [List.all_map, if_pos rfl]
      congr 1
      funext t
      exact row_getD hj
    · unfold heldL
      rw [if_pos (by decide +kernel)]
      unfold joinL
      rw [if_neg (by decide +kernel), if_pos rfl, e1]
      refine range_rows fun j hj => ?_
      rw [List.any_map, if_neg (by decide +kernel)]
      congr 1
      funext t
      exact row_getD hj
theorem heldTs_sem (l : Lk b s) (vw : Vw s) : ∀ ts : List Tst, (∀ t ∈ ts, WF t) → ts.map (heldT (plcOf s)) = ts.map fun t => (enOf s).map (b.sem t)
  | [], _ => rfl
  | t :: ts, h => by
    rw [List.map_cons, List.map_cons, heldT_sem l vw t (h t List.mem_cons_self), heldTs_sem l vw ts fun x hx => h x (List.mem_cons_of_mem _ hx)]
end
/-- the answer: the numbers of those elements, in order, of which the tables' rows say that the test holds -/
theorem ans_eq (l : Lk b s) (vw : Vw s) {t : Tst} (wf : WF t) : ansL s t = (enOf s).filter (b.sem t) := by
  unfold ansL
  rw [heldT_sem l vw t wf]
  unfold enOf
  generalize esOf s = es
  induction es with
  | nil => rfl
  | cons p es ih =>
    rw [List.map_cons, List.map_cons, List.zip_cons_cons, List.filter_cons, List.filter_cons]
    by_cases h : b.sem t p.num = true
    · rw [if_pos h, if_pos h, List.map_cons, ih]
    · rw [if_neg h, if_neg h, ih]
end LM
end
section
set_option Elab.async false
set_option linter.all false
set_option maxRecDepth 100000
set_option maxHeartbeats 4000000
namespace LM
open PySem DL Tst Tb
/-- a row of the law's nodes -/
structure Nq where
  txt : Bool
  name : Str
  marks : List (Str × Str)
  kids : List Nat
def q0 : Nq := ⟨false, "", [], []⟩
def nq (ns : List Nq) (k : Nat) : Nq := ns.getD k q0
def nodeD (k : Nat) (q : Nq) : PyData := .list [.str (if q.txt then "t" else "e"), ofN k, .str q.name, pairsD q.marks, natsD q.kids]
def nodesD (ns : List Nq) : PyData := .list ((List.range ns.length).map fun k => nodeD k (nq ns k))
/-- the law's nodes and parents belong together -/
structure Tq (ns : List Nq) (ps : List (Option Nat)) : Prop where
  len : ns.length ≤ 60
  pl : ps.length = ns.length
  pos : 0 < ns.length
  pr : ∀ (k p : Nat), ps[k]? = some (some p) → p < ns.length
  kd : ∀ k, k < ns.length → (nq ns k).kids.length ≤ 60 ∧ ∀ c ∈ (nq ns k).kids, c < ns.length
/-- what the law reads -/
def tbQ (ns : List Nq) (ps : List (Option Nat)) (own : Str → List Str → Nat → Bool) : Tb := ⟨ns.length, fun k => !(nq ns k).txt, fun k => (nq ns k).kids, fun k => ps.getD k none, own⟩
def ordF (ns : List Nq) : Nat → Nat → List Nat
  | 0, _ => []
  | n + 1, k => k :: (nq ns k).kids.flatMap (ordF ns n)
end LM
namespace LW
open PySem PySem.Spec PyProof.Rows L2 DL LM
section
variable {P : Program} {W : World} {K : PySem.W.Frag} {mg : Str → Option Value} {base : Heap} {f : Addr} {fd : FuncData} {A A2 H H' H0 H1 H2 G G2 Hc : Hp} {σ : L2.St} {t te td tn tv t1 t2 to : TE} {tr : TS} {ts : TS} {tt : TT} {D : Ends} {tA : TA} {n i j : Nat} {p b : Addr} {xs ys : List V} {v : V} {d : PyData} {ds es : List PyData}
open Tst Tb
theorem gd_node {ns : List Nq} {k : Nat} (g : GD K te σ H A (nodesD ns)) (gn : GD K tn σ H A (ofN k)) (hk : k < ns.length) : GD K (tOp (rIx K) te tn) σ H A (nodeD k (nq ns k)) :=
  gdo g gn (go_ixL (atI_nat (j := k) (by rw [List.getElem?_map, List.getElem?_range hk]; rfl)))
theorem gd_parent {ps : List (Option Nat)} {k : Nat} (g : GD K te σ H A (upsD ps)) (gn : GD K tn σ H A (ofN k)) (hk : k < ps.length) : GD K (tOp (rIx K) te tn) σ H A (upD (ps.getD k none)) := gd_upAt g gn hk
def arAb : List (Option Nat) × Nat → List PyData := fun x => [upsD x.1, ofN x.2]
def abQ (ps : List (Option Nat)) : Nat → Nat → List Nat
  | 0, _ => []
  | n + 1, k => match ps.getD k none with
    | none => []
    | some p => p :: abQ ps n p
theorem abQ_eq {ns : List Nq} {ps : List (Option Nat)} {own : Str → List Str → Nat → Bool} : ∀ n k, (tbQ ns ps own).abvF n k = abQ ps n k
  | 0, k => by unfold abvF abQ; rfl
  | n + 1, k => by
    unfold abvF abQ
    show (match ps.getD k none with | none => [] | some p => p :: (tbQ ns ps own).abvF n p) = _
    cases ps.getD k none with
    | none => rfl
    | some p => show p :: _ = p :: _; rw [abQ_eq n p]
end
end LW
end
section
set_option Elab.async false
set_option linter.all false
set_option maxRecDepth 100000
set_option maxHeartbeats 4000000
namespace LM
open PySem DL Tst Tb
/-- the element children of a row of the law's -/
def ekQ (ns : List Nq) (p : Nat) : List Nat := (nq ns p).kids.filter fun c => !(nq ns c).txt
def befQ (ns : List Nq) (ps : List (Option Nat)) (k : Nat) : List Nat := match ps.getD k none with
  | none => []
  | some p => if k ∈ ekQ ns p then (ekQ ns p).take ((ekQ ns p).idxOf k) else []
theorem befQ_eq {ns : List Nq} {ps : List (Option Nat)} {own : Str → List Str → Nat → Bool} (k : Nat) : (tbQ ns ps own).bef k = befQ ns ps k := rfl
/-- the view that the rows say -/
def madeF (ns : List Nq) : Nat → Nat → Sh
  | 0, k => .t k ""
  | n + 1, k => if (nq ns k).txt then .t k (nq ns k).name else .e k (nq ns k).name (nq ns k).marks ((nq ns k).kids.map (madeF ns n))
/-- how high a row stands -/
def Hq (ns : List Nq) : Nat → Nat → Prop
  | 0, _ => False
  | n + 1, k => k < ns.length ∧ (nq ns k).kids.length ≤ 60 ∧ ∀ c ∈ (nq ns k).kids, Hq ns n c
theorem Hq.lt {ns : List Nq} : ∀ {n k : Nat}, Hq ns n k → k < ns.length
  | 0, _, h => h.elim
  | _ + 1, _, h => h.1
end LM
namespace LW
open PySem PySem.Spec PyProof.Rows L2 DL LM
section
variable {P : Program} {W : World} {K : PySem.W.Frag} {mg : Str → Option Value} {base : Heap} {f : Addr} {fd : FuncData} {A A2 H H' H0 H1 H2 G G2 Hc : Hp} {σ : L2.St} {t te td tn tv t1 t2 to : TE} {tr : TS} {ts : TS} {tt : TT} {D : Ends} {tA : TA} {n i j : Nat} {p b : Addr} {xs ys : List V} {v : V} {d : PyData} {ds es : List PyData}
open Tst Tb
theorem vals_natsQ {l : List Nat} {vs : List V} (h : DvA K H vs (l.map ofN)) : vs = l.map fun (k : Nat) => V.int (k : Int) := by
  have e : l.map ofN = (l.map fun (k : Nat) => (k : Int)).map PyData.int := by rw [List.map_map]; rfl
  rw [e] at h
  rw [DvA.ints_inv h, List.map_map]
  rfl
theorem idx_firstQ {n m : Nat} {l : List Nat} (h : m < l.idxOf n) : l[m]? ≠ some n := fun z => by
  have h2 := List.not_of_lt_findIdx (p := fun x => x == n) (xs := l) (i := m) (by exact h)
  obtain ⟨hm, e⟩ := List.getElem?_eq_some_iff.mp z
  rw [e] at h2
  simp at h2
theorem gd_idxQ {l : List Nat} {n : Nat} (g : GD K to σ H A (natsD l)) (gn : GD K tn σ H A (ofN n)) (hn : n ∈ l) : GD K (tBM K "list" (rIndex K) to (tCons tn tNil)) σ H A (ofN (l.idxOf n)) := fun H0 H1 p Q q => g.to p fun v G H2 p2 dv => by
  obtain ⟨a, xs, rfl, s, da⟩ := Dv.lst_inv dv
  refine ⟨.inl ⟨rfl, xs, .inl (rd_same p2.gh s)⟩, gn.to (p.trans p2) fun u G3 H3 p3 du => ?_⟩
  have eu := Dv.int_inv du
  subst eu
  have ex := vals_natsQ da
  subst ex
  have hil := List.idxOf_lt_length_of_mem hn
  refine ⟨a, _, .int (n : Int), l.idxOf n, .int (n : Int), rfl, rfl, .inl (rd_same p3.gh (rd_same p3.hg s)), rfl, ?_, ?_, ?_, fun m z hm hz => ?_, q _ G3 H3 (p2.trans p3) (.int _)⟩
  · rw [List.all_map, List.all_eq_true]; intro x _; rfl
  · rw [List.getElem?_map, List.getElem?_eq_getElem hil, List.getElem_idxOf hil]; rfl
  · show ((n : Int) == (n : Int)) = true
    exact beq_self_eq_true _
  · rw [List.getElem?_map] at hz
    obtain ⟨x, hx, rfl⟩ := Option.map_eq_some_iff.mp hz
    have hne : x ≠ n := fun y => idx_firstQ hm (by rw [hx, y])
    show ((x : Int) == (n : Int)) = false
    rw [beq_eq_false_iff_ne]
    exact fun y => hne (by omega)
/-- nodes[k][0] == "e" -/
theorem gt_elem {ns : List Nq} {k : Nat} (g : GD K te σ H A (nodesD ns)) (gn : GD K tn σ H A (ofN k)) (hk : k < ns.length) : GT (tTest (tOp (rEqA K) (tOp (rIx K) (tOp (rIx K) te tn) (tC (.int 0))) (tC (.str "e")))) σ H A (!(nq ns k).txt) := by
  have x := gt_test (gdo (K := K) (gdo (gd_node g gn hk) gd_int (go_ixL (atI_nat (j := 0) rfl))) (gd_str (i := "e")) go_eqS)
  have e : decide ((if (nq ns k).txt then "t" else "e" : Str) = "e") = !(nq ns k).txt := by cases (nq ns k).txt <;> decide +kernel
  rw [e] at x
  exact x
theorem gd_kidsQ {ns : List Nq} {k : Nat} (g : GD K te σ H A (nodesD ns)) (gn : GD K tn σ H A (ofN k)) (hk : k < ns.length) : GD K (tOp (rIx K) (tOp (rIx K) te tn) (tC (.int 4))) σ H A (natsD (nq ns k).kids) := gdo (gd_node g gn hk) gd_int (go_ixL (atI_nat (j := 4) rfl))
def arBf : List Nq × List (Option Nat) × Nat → List PyData := fun x => [nodesD x.1, upsD x.2.1, ofN x.2.2]
def arNk : List Nq × Nat → List PyData := fun x => [nodesD x.1, ofN x.2]
end
end LW
end
section
set_option Elab.async false
set_option linter.all false
set_option maxRecDepth 100000
set_option maxHeartbeats 400000
namespace LM
open PySem DL Tst Tb
/-- what the law reads of a row for a test without tests in it -/
def ownQ (ns : List Nq) (ps : List (Option Nat)) (w : Str) (as : List Str) (k : Nat) : Bool :=
  if w = "name" then decide ((nq ns k).name = as.getD 0 "")
  else if w = "mark" then decide (as.getD 0 "" ∈ (nq ns k).marks.map (·.1))
  else if w = "value" then decide ((as.getD 0 "", as.getD 1 "") ∈ (nq ns k).marks)
  else if w = "text" then (nq ns k).kids.any fun c => (nq ns c).txt && decide ((nq ns c).name = as.getD 0 "")
  else if w = "first" then (befQ ns ps k).isEmpty
  else if w = "last" then (match ps.getD k none with
    | none => true
    | some p => (ekQ ns p).isEmpty || decide ((ekQ ns p).getLast? = some k))
  else if w = "empty" then (nq ns k).kids.isEmpty
  else true
end LM
namespace LW
open PySem PySem.Spec PyProof.Rows L2 DL LM
section
variable {P : Program} {W : World} {K : PySem.W.Frag} {mg : Str → Option Value} {base : Heap} {f : Addr} {fd : FuncData} {A A2 H H' H0 H1 H2 G G2 Hc : Hp} {σ : L2.St} {t te td tn tv t1 t2 to : TE} {tr : TS} {ts : TS} {tt : TT} {D : Ends} {tA : TA} {n i j : Nat} {p b : Addr} {xs ys : List V} {v : V} {d : PyData} {ds es : List PyData}
open Tst Tb
abbrev s_law_made : Stmt := topS 33
theorem sc_law_made : FnScope ["nodes", "place", "kind", "number", "name", "marks", "children", "child"] ["nodes", "place"] (defScope s_law_made) := ⟨rfl, rfl, rfl, by decide +kernel, rfl, by decide +kernel, by decide +kernel⟩
theorem ok_lmade_step {j : Nat} (T : Bx mg) (F : Fun K "_law_made" "_law_made" s_law_made f fd) (c_law_made : Cal P W K mg base (j + 1) "_law_made" (spA K 2 arNk (fun x => Hq x.1 j x.2) fun x => (madeF x.1 j x.2).toD)) : FnOk P W K mg base CX0 (j + 2) f fd ["nodes", "place"] (spA K 2 arNk (fun x => Hq x.1 (j + 1) x.2) fun x => (madeF x.1 (j + 1) x.2).toD) := by
  refine fn_A F sc_law_made rfl fun cdv A outer s H1 E hr => ⟨_, (pss_cons (ps_asg (pe_ix ix_seq (pv 0) (pv 1) (fun _ _ => rfl)) (pg_lst rfl (pgs_cons (pg_name (i := 2) sc_law_made.nd rfl (Or.inl rfl)) (pgs_cons (pg_name (i := 3) sc_law_made.nd rfl (Or.inl rfl)) (pgs_cons (pg_name (i := 4) sc_law_made.nd rfl (Or.inl rfl)) (pgs_cons (pg_name (i := 5) sc_law_made.nd rfl (Or.inl rfl)) (pgs_cons (pg_name (i := 6) sc_law_made.nd rfl (Or.inl rfl)) pgs_nil)))))))
      (pss_cons (ps_if (pt_cmpR (op_eqA hr.units) (pv 2) pe_str (nomark _)) (pss_one (ps_ret (RR.pe_tupF (pa_cons pe_str (pa_cons (pv 3) (pa_cons (pv 4) pa_nil)))))) pss_nil)
      (pss_one (ps_ret (RR.pe_tupF (pa_cons pe_str (pa_cons (pv 3) (pa_cons (pv 4) (pa_cons (pv 5) (pa_cons (pe_callTy RR.cr_tupF (by rfl) T.tuple (by decide +kernel) (pa_cons (pe_lc (own := [("child", 7)]) (by rfl) sc_law_made.nd (pi_seq (pv 6)) (blkOk_by (own := [("child", 7)]) (N := ["nodes", "place", "kind", "number", "name", "marks", "children", "child"]) (sc := defScope s_law_made) (by decide +kernel)) (fun _ _ _ _ _ => (pg_name (i := 7) sc_law_made.nd rfl (Or.inl rfl))) (fun _ _ _ _ _ => pts_nil) (fun _ _ _ _ _ => (pe_k c_law_made hr (by omega) (pa_cons (pv 0) (pa_cons (pv 7) pa_nil))))) pa_nil)) pa_nil)))))))))), fun vs x H A hl sm dv hp => ?_⟩
  obtain ⟨ns, k⟩ := x
  obtain ⟨hk, hkl, hkd⟩ := hp
  have hk : k < ns.length := hk
  have hkl : (nq ns k).kids.length ≤ 60 := hkl
  have hkd : ∀ c ∈ (nq ns k).kids, Hq ns j c := hkd
  obtain ⟨v, u, rfl, d1, d2⟩ := DvA.inv2 dv
  have e2 := Dv.int_inv d2
  subst e2
  show GB K _ _ H A fun d => d = (madeF ns (j + 1) k).toD
  have em : madeF ns (j + 1) k = if (nq ns k).txt then .t k (nq ns k).name else .e k (nq ns k).name (nq ns k).marks ((nq ns k).kids.map (madeF ns j)) := by conv => lhs; unfold madeF
  have gn := gd_node (K := K) (A := A) (gd_var (σ := [some v, some (.int (k : Int)), none, none, none, none, none, none]) (i := 0) rfl d1) (gd_var (i := 1) rfl (.int (k : Int))) hk
  intro H0 H1 e D q
  refine gn.to e fun y G2 H2 P2 dy => ?_
  obtain ⟨a, xs, rfl, sq, da⟩ := Dv.lst_inv dy
  cases da with
  | cons a1 r1 =>
  cases r1 with
  | cons a2 r2 =>
  cases r2 with
  | cons a3 r3 =>
  cases r3 with
  | cons a4 r4 =>
  cases r4 with
  | cons a5 r5 =>
  cases r5
  rename_i x1 x2 x3 x4 x5
  refine ⟨a, _, rfl, .inl (rd_same P2.gh sq), rfl, _, _, rfl, _, _, rfl, _, _, rfl, _, _, rfl, _, _, rfl, rfl, ?_⟩
  have d1' := d1.to (e.hg.trans P2.hg)
  refine s_ifr (K := K) (σ := [some v, some (.int (k : Int)), some x1, some x2, some x3, some x4, some x5, none]) (gt_test (gdo (K := K) (gd_var (i := 2) rfl a1) (gd_str (i := "t")) go_eqS)) P2.gh (fun c H3 s3 => ?_) fun c H3 s3 => ?_
  · have ht : (nq ns k).txt = true := by
      cases h : (nq ns k).txt with
      | true => rfl
      | false => rw [h] at c; exact absurd (of_decide_eq_true c) (by decide +kernel)
    refine s_ret (K := K) (d := (madeF ns (j + 1) k).toD) ?_ (P2.gh.trans s3) fun y G4 H4 P4 dy4 => q _ y G4 H4 rfl ((P2.test s3).trans P4) dy4
    rw [em, if_pos ht, Sh.toD_t]
    exact gd_tup (ga_cons gd_str (ga_cons (gd_var (i := 3) rfl a2) (ga_cons (gd_var (i := 4) rfl a3) ga_nil)))
  · have ht : (nq ns k).txt = false := by
      cases h : (nq ns k).txt with
      | false => rfl
      | true => rw [h] at c; exact absurd rfl (of_decide_eq_false c)
    refine s_ret (K := K) (d := (madeF ns (j + 1) k).toD) ?_ (P2.gh.trans s3) fun y G4 H4 P4 dy4 => q _ y G4 H4 rfl ((P2.test s3).trans P4) dy4
    rw [em, if_neg (by rw [ht]; exact Bool.false_ne_true), Sh.toD_e, List.map_map]
    refine gd_tup (ga_cons gd_str (ga_cons (gd_var (i := 3) rfl a2) (ga_cons (gd_var (i := 4) rfl a3) (ga_cons (gd_var (i := 5) rfl a4) (ga_cons (gd_cb (ga_cons (gd_lc (K := K) (k := 7) (em := ofN) (xs := (nq ns k).kids) (gi_seqL (gd_var (i := 6) rfl a5)) (by omega) fun i c hc v' G5 H5 p5 dv' => ?_) ga_nil) gc_tupL) ga_nil)))))
    exact gd_callA (K := K) (ar := arNk) (Pre := fun x => Hq x.1 j x.2) (f := fun x => (madeF x.1 j x.2).toD) (n := 2) (ns, c) (ga_cons (gd_var (i := 0) rfl (d1'.to p5.hg)) (ga_cons (gd_var (i := 7) rfl dv') ga_nil)) rfl (hkd c (List.mem_of_getElem? hc))
theorem cal_lmade (T : Bx mg) (F : Fun K "_law_made" "_law_made" s_law_made f fd) (hm : mg "_law_made" = some (.ref f)) (b : Binds K fd ["nodes", "place"] []) : ∀ j, Cal P W K mg base (j + 1) "_law_made" (spA K 2 arNk (fun x => Hq x.1 j x.2) fun x => (madeF x.1 j x.2).toD)
  | 0 => cal_mk F (fn_none fun vs H Q E h => by
      obtain ⟨_, _, _, _, _, hp, _⟩ := h
      exact hp.elim) hm b
  | j + 1 => cal_mk F (ok_lmade_step T F (cal_lmade T F hm b j)) hm b
end
end LW
end
section
set_option Elab.async false
set_option linter.all false
set_option maxRecDepth 100000
set_option maxHeartbeats 1000000
namespace LM
open PySem DL Tst Tb
/-! the tables and the tree say the same -/
theorem es_mem {s p : Sh} : p ∈ esOf s ↔ p ∈ s.pre ∧ p.isE = true := List.mem_filter
theorem en_mem {s : Sh} {k : Nat} : k ∈ enOf s ↔ ∃ p ∈ esOf s, p.num = k := List.mem_map
theorem kids_flat : ∀ ks : List Sh, ks.Sublist (ks.flatMap Sh.pre)
  | [] => List.Sublist.refl _
  | k :: ks => by
    rw [List.flatMap_cons, Sh.pre_eq k, List.cons_append]
    exact List.Sublist.cons_cons _ ((kids_flat ks).trans (List.sublist_append_right _ _))
theorem kid_seq {s p : Sh} (hp : p ∈ s.pre) : (p :: p.kids).Sublist s.pre := by
  refine List.Sublist.trans ?_ (Sh.sub_pre s p hp)
  rw [Sh.pre_eq p]
  exact List.Sublist.cons_cons _ (kids_flat _)
theorem kid_in {s p c : Sh} (hp : p ∈ s.pre) (hc : c ∈ p.kids) : c ∈ s.pre := (kid_seq hp).subset (List.mem_cons_of_mem _ hc)
structure Tel (b : Tb) (s : Sh) : Prop where
  uni : s.Uni
  mem : ∀ k, k ∈ enOf s ↔ k < b.N ∧ b.E k = true
  kids : ∀ p ∈ esOf s, b.kids p.num = p.kids.map Sh.num
  up : ∀ k q, k < b.N → (b.up k = some q ↔ ∃ p ∈ esOf s, p.num = q ∧ k ∈ p.kids.map Sh.num)
  E : ∀ p ∈ s.pre, b.E p.num = p.isE
  lt : ∀ p ∈ s.pre, p.num < b.N
variable {b : Tb} {s : Sh}
theorem ek_tel (h : Tel b s) {p : Sh} (hp : p ∈ esOf s) : b.ek p.num = (p.kids.filter Sh.isE).map Sh.num := by
  unfold Tb.ek
  rw [h.kids p hp, List.filter_map]
  congr 1
  refine List.filter_congr fun c hc => ?_
  exact h.E c (kid_in (es_mem.mp hp).1 hc)
theorem en_nd (u : s.Uni) : (enOf s).Nodup := (List.Sublist.map Sh.num List.filter_sublist).nodup u
theorem kid_idx (u : s.Uni) {p c : Sh} (hp : p ∈ esOf s) (hc : c ∈ p.kids) (hE : c.isE = true) : (enOf s).idxOf p.num < (enOf s).idxOf c.num := by
  obtain ⟨hp1, hp2⟩ := es_mem.mp hp
  have h1 : [p, c].Sublist s.pre := (List.Sublist.cons_cons _ (List.singleton_sublist.mpr hc)).trans (kid_seq hp1)
  have h2 := h1.filter Sh.isE
  rw [List.filter_cons, if_pos hp2, List.filter_cons, if_pos hE, List.filter_nil] at h2
  have h3 := h2.map Sh.num
  exact idx_sub (en_nd u) h3 (i := 0) (j := 1) (Nat.lt_succ_self _) (Nat.lt_succ_self _)
theorem Tel.seen (h : Tel b s) : Seen b (enOf s) where
  nd := en_nd h.uni
  mem := h.mem
  kup := fun q hq c => by
    obtain ⟨p, hp, rfl⟩ := en_mem.mp hq
    rw [h.kids p hp]
    constructor
    · intro hc
      obtain ⟨c', hc', rfl⟩ := List.mem_map.mp hc
      have hlt := h.lt c' (kid_in (es_mem.mp hp).1 hc')
      exact ⟨hlt, (h.up _ _ hlt).mpr ⟨p, hp, rfl, hc⟩⟩
    · rintro ⟨hlt, hu⟩
      obtain ⟨p', hp', e, hc⟩ := (h.up _ _ hlt).mp hu
      rw [h.uni.eq (es_mem.mp hp').1 (es_mem.mp hp).1 e] at hc
      exact hc
  par := fun k q hk hu => by
    obtain ⟨p, hp, rfl, hc⟩ := (h.up _ _ hk).mp hu
    refine ⟨en_mem.mpr ⟨p, hp, rfl⟩, fun hke => ?_⟩
    obtain ⟨c, hcp, rfl⟩ := List.mem_map.mp hc
    refine kid_idx h.uni hp hcp ?_
    rw [← h.E c (kid_in (es_mem.mp hp).1 hcp)]
    exact ((h.mem _).mp hke).2
  sib := fun q hq => by
    obtain ⟨p, hp, rfl⟩ := en_mem.mp hq
    rw [ek_tel h hp]
    have h1 : p.kids.Sublist s.pre := (List.sublist_cons_self _ _).trans (kid_seq (es_mem.mp hp).1)
    exact (h1.filter Sh.isE).map Sh.num
theorem lk_of (h : Tel b s) (ho : ∀ p ∈ esOf s, ∀ w as, lawKind w < 4 → as.length = kindLen (lawKind w) → b.own w as p.num = ownS w as p (b.bef p.num).getLast? (b.aft p.num)) : Lk b s := ⟨h.seen, fun p hp => (ek_tel h hp).symm, ho⟩
/-! the law's rows as a document's nodes -/
def ndQ (ns : List Nq) (ps : List (Option Nat)) (k : Nat) : Nd := ⟨(nq ns k).txt, (nq ns k).name, fun _ => none, (nq ns k).kids, ps.getD k none⟩
def ndsQ (ns : List Nq) (ps : List (Option Nat)) : List Nd := (List.range ns.length).map (ndQ ns ps)
variable {ns : List Nq} {ps : List (Option Nat)} {own : Str → List Str → Nat → Bool}
theorem nds_len : (ndsQ ns ps).length = ns.length := by unfold ndsQ; rw [List.length_map, List.length_range]
theorem nds_at {k : Nat} (h : k < ns.length) : nd (ndsQ ns ps) k = ndQ ns ps k := by
  unfold nd ndsQ
  rw [List.getD_eq_getElem?_getD, List.getElem?_map, List.getElem?_range h]; rfl
/-- what the law's rows keep -/
structure Gr (ns : List Nq) (ps : List (Option Nat)) : Prop where
  ok : Ok (ndsQ ns ps)
  pl : ps.length = ns.length
  all : ∀ k, k < ns.length → 0 < k → ps.getD k none ≠ none
  mks : ∀ k, k < ns.length → ((nq ns k).marks.map (·.1)).Nodup ∧ (nq ns k).marks.length ≤ 60 ∧ ∀ p ∈ (nq ns k).marks, (PyData.str p.1).canLay0 = true ∧ (PyData.str p.2).canLay0 = true
  sh : ∀ k, k < ns.length → (nq ns k).name.length ≤ 1000 ∧ ∀ p ∈ (nq ns k).marks, p.1.length ≤ 1000 ∧ p.2.length ≤ 1000
namespace Gr
variable (g : Gr ns ps)
include g
theorem len : ns.length ≤ 60 := by have := g.ok.len; rw [nds_len] at this; exact this
theorem pos : 0 < ns.length := by have := g.ok.pos; rw [nds_len] at this; exact this
theorem kup {p k : Nat} (hp : p < ns.length) (hk : k ∈ (nq ns p).kids) : k < ns.length ∧ ps.getD k none = some p := by
  have h := g.ok.kup p k (by rw [nds_len]; exact hp) (by rw [nds_at hp]; exact hk)
  rw [nds_len] at h
  refine ⟨h.1, ?_⟩
  have h2 := h.2
  rw [nds_at h.1] at h2
  exact h2
theorem upk {n p : Nat} (hn : n < ns.length) (hu : ps.getD n none = some p) : p < ns.length ∧ n ∈ (nq ns p).kids := by
  have h := g.ok.upk n p (by rw [nds_len]; exact hn) (by rw [nds_at hn]; exact hu)
  rw [nds_len] at h
  refine ⟨h.1, ?_⟩
  have h2 := h.2
  rw [nds_at h.1] at h2
  exact h2
theorem tx {p : Nat} (hp : p < ns.length) (h : (nq ns p).txt = true) : (nq ns p).kids = [] := by
  have := g.ok.tx p (by rw [nds_len]; exact hp) (by rw [nds_at hp]; exact h)
  rw [nds_at hp] at this
  exact this
theorem kle {p : Nat} (hp : p < ns.length) : (nq ns p).kids.length ≤ 60 := by
  have := g.ok.kidLe (p := p) (by rw [nds_len]; exact hp)
  rw [nds_at hp, nds_len] at this
  exact Nat.le_trans this g.len
theorem knd {p : Nat} (hp : p < ns.length) : (nq ns p).kids.Nodup := by
  have := g.ok.nod p (by rw [nds_len]; exact hp)
  rw [nds_at hp] at this
  exact this
theorem tq : Tq ns ps := ⟨g.len, g.pl, g.pos, fun k p h => by
  have hk : k < ns.length := by rw [← g.pl]; exact (List.getElem?_eq_some_iff.mp h).1
  exact (g.upk hk (by rw [List.getD_eq_getElem?_getD, h]; rfl)).1, fun k hk => ⟨g.kle hk, fun c hc => (g.kup hk hc).1⟩⟩
theorem hq_ht : ∀ {j k : Nat}, Ht (ndsQ ns ps) j k → Hq ns j k
  | 0, _, h => h.elim
  | j + 1, k, h => by
    have hk : k < ns.length := by have := h.1; rw [nds_len] at this; exact this
    refine ⟨hk, g.kle hk, fun c hc => hq_ht (h.2 c ?_)⟩
    rw [nds_at hk]; exact hc
theorem ht_hq : ∀ {j k : Nat}, Hq ns j k → Ht (ndsQ ns ps) j k
  | 0, _, h => h.elim
  | j + 1, k, h => by
    refine ⟨by rw [nds_len]; exact h.1, fun c hc => ht_hq (h.2.2 c ?_)⟩
    rw [nds_at h.1] at hc; exact hc
theorem hq {k : Nat} (hk : k < ns.length) : Hq ns 60 k := g.hq_ht (g.ok.ht (by rw [nds_len]; exact hk))
end Gr
theorem made_num : ∀ (j k : Nat), (madeF ns j k).num = k
  | 0, k => rfl
  | j + 1, k => by unfold madeF; split <;> rfl
theorem made_kids {j k : Nat} : (madeF ns (j + 1) k).kids = if (nq ns k).txt then [] else (nq ns k).kids.map (madeF ns j) := by
  conv => lhs; unfold madeF
  split <;> rfl
theorem made_isE {j k : Nat} (h : Hq ns j k) : (madeF ns j k).isE = !(nq ns k).txt := by
  cases j with
  | zero => exact h.elim
  | succ j =>
    unfold madeF
    cases (nq ns k).txt <;> rfl
theorem made_tx {j k : Nat} (h : Hq ns j k) : (madeF ns j k).tx = (nq ns k).name := by
  cases j with
  | zero => exact h.elim
  | succ j =>
    unfold madeF
    cases (nq ns k).txt <;> rfl
theorem made_mks {j k : Nat} (h : Hq ns j k) (ht : (nq ns k).txt = false) : (madeF ns j k).mks = (nq ns k).marks := by
  cases j with
  | zero => exact h.elim
  | succ j =>
    unfold madeF
    rw [ht]; rfl
theorem made_pre : ∀ (j k : Nat), Hq ns j k → ∀ p ∈ (madeF ns j k).pre, ∃ i, Hq ns i p.num ∧ p = madeF ns i p.num
  | 0, _, h, _, _ => h.elim
  | j + 1, k, h, p, hp => by
    rw [Sh.pre_eq] at hp
    rcases List.mem_cons.mp hp with rfl | hp
    · rw [made_num]
      exact ⟨j + 1, h, rfl⟩
    · obtain ⟨c, hc, hp⟩ := List.mem_flatMap.mp hp
      rw [made_kids] at hc
      split at hc
      · cases hc
      · obtain ⟨m, hm, rfl⟩ := List.mem_map.mp hc
        exact made_pre j m (h.2.2 m hm) p hp
theorem made_nums (g : Gr ns ps) : ∀ (j k : Nat), Hq ns j k → (madeF ns j k).nums = (shF j (ndsQ ns ps) k).nums
  | 0, _, h => h.elim
  | j + 1, k, h => by
    have hks : (shF (j + 1) (ndsQ ns ps) k).kids = if (nd (ndsQ ns ps) k).txt then [] else (nd (ndsQ ns ps) k).kids.map (shF j (ndsQ ns ps)) := by unfold shF; split <;> rfl
    unfold Sh.nums
    rw [Sh.pre_eq, Sh.pre_eq (shF _ _ _), List.map_cons, List.map_cons, made_num, shF_num (g.ht_hq h), made_kids, hks, nds_at h.1]
    show k :: _ = k :: _
    congr 1
    show List.map Sh.num (List.flatMap Sh.pre (if (nq ns k).txt then [] else _)) = List.map Sh.num (List.flatMap Sh.pre (if (nq ns k).txt then [] else (nq ns k).kids.map _))
    split
    · rfl
    · rw [List.flatMap_map, List.flatMap_map, List.map_flatMap, List.map_flatMap]
      have : ∀ l : List Nat, (∀ c ∈ l, Hq ns j c) → (l.flatMap fun a => List.map Sh.num (madeF ns j a).pre) = l.flatMap fun a => List.map Sh.num (shF j (ndsQ ns ps) a).pre := fun l hl => by
        induction l with
        | nil => rfl
        | cons c l ih =>
          rw [List.flatMap_cons, List.flatMap_cons, ih fun x hx => hl x (List.mem_cons_of_mem _ hx)]
          congr 1
          exact made_nums g j c (hl c List.mem_cons_self)
      exact this _ h.2.2
def madeS (ns : List Nq) : Sh := madeF ns 60 0
section
variable (g : Gr ns ps)
include g
theorem made_uni : (madeS ns).Uni := by
  unfold Sh.Uni madeS
  rw [made_nums g 60 0 (g.hq g.pos)]
  exact nums_shF g.ok 60 0 (g.ht_hq (g.hq g.pos))
theorem made_part {p : Sh} (hp : p ∈ (madeS ns).pre) : ∃ i, Hq ns (i + 1) p.num ∧ p = madeF ns (i + 1) p.num ∧ p.num < ns.length := by
  obtain ⟨i, h1, h2⟩ := made_pre 60 0 (g.hq g.pos) p hp
  cases i with
  | zero => exact h1.elim
  | succ i => exact ⟨i, h1, h2, h1.1⟩
theorem made_all {k : Nat} (hk : k < ns.length) : ∃ p ∈ (madeS ns).pre, p.num = k := by
  obtain ⟨l, c⟩ := g.ok.ch k (by rw [nds_len]; exact hk)
  have key : ∀ {k : Nat} {l : List Nat}, Ch (ndsQ ns ps) k l → k < ns.length → ∃ p ∈ (madeS ns).pre, p.num = k := by
    intro k l c
    induction c with
    | @top n hu =>
      intro hn
      rw [nds_at hn] at hu
      have h0 : n = 0 := by
        cases n with
        | zero => rfl
        | succ n => exact absurd hu (g.all _ hn (Nat.succ_pos _))
      subst h0
      exact ⟨_, Sh.pre_self _, made_num 60 0⟩
    | @step n p l hu _ ih =>
      intro hn
      rw [nds_at hn] at hu
      have hu : ps.getD n none = some p := hu
      obtain ⟨hp, hnk⟩ := g.upk hn hu
      obtain ⟨p', hp', e⟩ := ih hp
      obtain ⟨i, h1, h2, h3⟩ := made_part g hp'
      have ht : (nq ns p).txt = false := by
        cases ht : (nq ns p).txt with
        | false => rfl
        | true => rw [g.tx hp ht] at hnk; cases hnk
      have hk : madeF ns i n ∈ p'.kids := by
        rw [h2, made_kids, e, ht]
        exact List.mem_map_of_mem hnk
      exact ⟨_, kid_in hp' hk, made_num i n⟩
  exact key c hk
theorem made_kn {p : Sh} (hp : p ∈ esOf (madeS ns)) : p.kids.map Sh.num = (nq ns p.num).kids ∧ (nq ns p.num).txt = false := by
  obtain ⟨h0, hE⟩ := es_mem.mp hp
  obtain ⟨i, h1, h2, h3⟩ := made_part g h0
  have ht : (nq ns p.num).txt = false := by
    rw [h2, made_isE h1] at hE
    rw [Bool.not_eq_true'] at hE
    exact hE
  refine ⟨?_, ht⟩
  conv => lhs; rw [h2, made_kids, ht]
  show List.map Sh.num (List.map (madeF ns i) (nq ns p.num).kids) = _
  rw [List.map_map]
  have : ∀ l : List Nat, l.map (Sh.num ∘ madeF ns i) = l := fun l => by
    induction l with
    | nil => rfl
    | cons c l ih => rw [List.map_cons, ih]; show (madeF ns i c).num :: l = _; rw [made_num]
  exact this _
theorem made_tel : Tel (tbQ ns ps own) (madeS ns) where
  uni := made_uni g
  mem := fun k => by
    rw [en_mem]
    constructor
    · rintro ⟨p, hp, rfl⟩
      obtain ⟨i, h1, h2, h3⟩ := made_part g (es_mem.mp hp).1
      refine ⟨h3, ?_⟩
      show (!(nq ns p.num).txt) = true
      rw [(made_kn g hp).2]; rfl
    · rintro ⟨hk, hE⟩
      obtain ⟨p, hp, rfl⟩ := made_all g hk
      obtain ⟨i, h1, h2, h3⟩ := made_part g hp
      refine ⟨p, es_mem.mpr ⟨hp, ?_⟩, rfl⟩
      rw [h2, made_isE h1]
      exact hE
  kids := fun p hp => (made_kn g hp).1.symm
  up := fun k q hk => by
    constructor
    · intro hu
      have hu : ps.getD k none = some q := hu
      obtain ⟨hq, hkq⟩ := g.upk hk hu
      obtain ⟨p, hp, rfl⟩ := made_all g hq
      obtain ⟨i, h1, h2, h3⟩ := made_part g hp
      have hE : p.isE = true := by
        rw [h2, made_isE h1]
        cases ht : (nq ns p.num).txt with
        | false => rfl
        | true => rw [g.tx hq ht] at hkq; cases hkq
      refine ⟨p, es_mem.mpr ⟨hp, hE⟩, rfl, ?_⟩
      rw [(made_kn g (es_mem.mpr ⟨hp, hE⟩)).1]
      exact hkq
    · rintro ⟨p, hp, rfl, hc⟩
      obtain ⟨i, h1, h2, h3⟩ := made_part g (es_mem.mp hp).1
      rw [(made_kn g hp).1] at hc
      exact (g.kup h3 hc).2
  E := fun p hp => by
    obtain ⟨i, h1, h2, h3⟩ := made_part g hp
    show (!(nq ns p.num).txt) = _
    conv => rhs; rw [h2, made_isE h1]
  lt := fun p hp => by
    obtain ⟨i, h1, h2, h3⟩ := made_part g hp
    exact h3
theorem made_vw : Vw (madeS ns) where
  sz := by
    have u := made_uni g
    have h := nodup_le ns.length _ u fun x hx => by
      obtain ⟨p, hp, rfl⟩ := List.mem_map.mp hx
      obtain ⟨i, h1, h2, h3⟩ := made_part g hp
      exact h3
    unfold Sh.nums at h
    rw [List.length_map] at h
    have := g.len
    unfold Sh.size
    omega
  uni := made_uni g
  mms := fun p hp => by
    obtain ⟨i, h1, h2, h3⟩ := made_part g hp
    cases ht : (nq ns p.num).txt with
    | true =>
      rw [h2]
      unfold madeF
      rw [if_pos ht]
      exact ⟨List.nodup_nil, Nat.zero_le _⟩
    | false =>
      refine ⟨?_, ?_⟩
      · rw [h2, made_mks h1 ht]
        exact (g.mks _ h3).1
      · rw [h2, made_kids, ht]
        show (List.map _ _).length ≤ _
        rw [List.length_map]
        exact Nat.le_trans (g.kle h3) (by decide)
end
/-! what the law reads of a row is what the tree has -/
theorem findM_some {ms : List (Str × Str)} {a : Str} : (findM ms a).isSome = decide (a ∈ ms.map (·.1)) := by
  unfold findM
  rw [Option.isSome_map, Bool.eq_iff_iff, List.find?_isSome, decide_eq_true_eq, List.mem_map]
  exact ⟨fun ⟨p, hp, e⟩ => ⟨p, hp, of_decide_eq_true e⟩, fun ⟨p, hp, e⟩ => ⟨p, hp, decide_eq_true e⟩⟩
theorem findM_eq {ms : List (Str × Str)} {a c : Str} (hn : (ms.map (·.1)).Nodup) : findM ms a = some c ↔ (a, c) ∈ ms := by
  induction ms with
  | nil => exact ⟨fun h => (nomatch h), fun h => (nomatch h)⟩
  | cons m ms ih =>
    rw [List.map_cons, List.nodup_cons] at hn
    unfold findM at ih ⊢
    rw [List.find?_cons, List.mem_cons]
    by_cases h : m.1 = a
    · rw [decide_eq_true h]
      show some m.2 = some c ↔ _
      constructor
      · intro e
        left
        rw [← h, ← Option.some.inj e]
      · rintro (e | e)
        · rw [← e]
        · exact absurd (List.mem_map.mpr ⟨_, e, h.symm⟩) hn.1
    · rw [decide_eq_false h, ih hn.2]
      constructor
      · exact .inr
      · rintro (e | e)
        · exact absurd (by rw [← e]) h
        · exact e
theorem own_ok (g : Gr ns ps) : ∀ p ∈ esOf (madeS ns), ∀ w as, lawKind w < 4 → as.length = kindLen (lawKind w) → ownQ ns ps w as p.num = ownS w as p (befQ ns ps p.num).getLast? ((tbQ ns ps own).aft p.num) := by
  intro p hp w as _ _
  obtain ⟨h0, hE⟩ := es_mem.mp hp
  obtain ⟨i, h1, h2, h3⟩ := made_part g h0
  obtain ⟨hkn, ht⟩ := made_kn g hp
  have e1 : p.tx = (nq ns p.num).name := by conv => lhs; rw [h2, made_tx h1]
  have e2 : p.mks = (nq ns p.num).marks := by conv => lhs; rw [h2, made_mks h1 ht]
  have e3 : p.kids = (nq ns p.num).kids.map (madeF ns i) := by
    conv => lhs; rw [h2, made_kids, ht]
    rfl
  unfold ownQ ownS
  by_cases c : w = "name"
  · rw [if_pos c, if_pos c, e1]
  rw [if_neg c, if_neg c]
  by_cases c : w = "mark"
  · rw [if_pos c, if_pos c, e2, findM_some]
  rw [if_neg c, if_neg c]
  by_cases c : w = "value"
  · rw [if_pos c, if_pos c, e2, decide_eq_decide, findM_eq (g.mks _ h3).1]
  rw [if_neg c, if_neg c]
  by_cases c : w = "text"
  · rw [if_pos c, if_pos c, e3, List.any_map, Bool.eq_iff_iff, List.any_eq_true, List.any_eq_true]
    have key : ∀ x ∈ (nq ns p.num).kids, ((nq ns x).txt && decide ((nq ns x).name = as.getD 0 "")) = (!(madeF ns i x).isE && decide ((madeF ns i x).tx = as.getD 0 "")) := fun x hx => by
      have hx := h1.2.2 x hx
      rw [made_isE hx, made_tx hx, Bool.not_not]
    exact ⟨fun ⟨x, hx, e⟩ => ⟨x, hx, by show (!(madeF ns i x).isE && _) = true; rw [← key x hx]; exact e⟩, fun ⟨x, hx, e⟩ => ⟨x, hx, by rw [key x hx]; exact e⟩⟩
  rw [if_neg c, if_neg c]
  by_cases c : w = "first"
  · rw [if_pos c, if_pos c]
    cases hb : befQ ns ps p.num with
    | nil => rfl
    | cons a l => rw [List.getLast?_cons]; rfl
  rw [if_neg c, if_neg c]
  by_cases c : w = "last"
  · rw [if_pos c, if_pos c]
    have t := made_tel (own := own) g
    have sn := t.seen
    have hpe : p.num ∈ enOf (madeS ns) := en_mem.mpr ⟨p, hp, rfl⟩
    unfold Tb.aft
    show (match ps.getD p.num none with | none => true | some q => (ekQ ns q).isEmpty || decide ((ekQ ns q).getLast? = some p.num)) = (match ps.getD p.num none with | none => none | some q => (ekQ ns q)[(ekQ ns q).idxOf p.num + 1]?).isNone
    cases hu : ps.getD p.num none with
    | none => rfl
    | some q =>
      have hqm := (sn.par p.num q h3 hu).1
      have hm := (sn.ek_mem hqm).mpr ⟨hpe, hu⟩
      have hm : p.num ∈ ekQ ns q := hm
      have hnd : (ekQ ns q).Nodup := (sn.sib q hqm).nodup sn.nd
      have hil := List.idxOf_lt_length_of_mem hm
      have hgi := List.getElem_idxOf hil
      show ((ekQ ns q).isEmpty || decide ((ekQ ns q).getLast? = some p.num)) = ((ekQ ns q)[(ekQ ns q).idxOf p.num + 1]?).isNone
      have hne : (ekQ ns q).isEmpty = false := by
        cases h : ekQ ns q with
        | nil => rw [h] at hm; cases hm
        | cons _ _ => rfl
      rw [hne, Bool.false_or, List.getLast?_eq_getElem?]
      by_cases hl : (ekQ ns q).idxOf p.num + 1 < (ekQ ns q).length
      · rw [List.getElem?_eq_getElem hl]
        refine decide_eq_false fun e => ?_
        rw [List.getElem?_eq_getElem (by omega)] at e
        have e := Option.some.inj e
        have := (List.getElem_inj (h₀ := by omega) (h₁ := hil) hnd).mp (e.trans hgi.symm)
        omega
      · have e0 : (ekQ ns q)[(ekQ ns q).idxOf p.num + 1]? = none := List.getElem?_eq_none (by omega)
        rw [e0]
        refine decide_eq_true ?_
        have e : (ekQ ns q).length - 1 = (ekQ ns q).idxOf p.num := by omega
        rw [e, List.getElem?_eq_getElem hil, hgi]
  rw [if_neg c, if_neg c]
  by_cases c : w = "empty"
  · rw [if_pos c, if_pos c, e3]
    cases (nq ns p.num).kids <;> rfl
  rw [if_neg c, if_neg c]
theorem made_lk (g : Gr ns ps) : Lk (tbQ ns ps (ownQ ns ps)) (madeS ns) := lk_of (made_tel g) fun p hp w as h1 h2 => own_ok g p hp w as h1 h2
end LM
end
section
set_option Elab.async false
set_option linter.all false
set_option maxRecDepth 100000
set_option maxHeartbeats 400000
/-! d in t, t a tuple of data nested any depth -/
namespace DL
open PySem PySem.Spec PyProof.Rows L2 LM
def rInTD (K : PySem.W.Frag) : R2 := fun x y H Q => ∃ d ds, Dp K H x d ∧ Dp K H y (.tuple ds) ∧ SeqAt.shaped d = true ∧ SeqAt.shaped (.tuple ds) = true ∧ Q (.bl (ds.any fun z => PyData.eqv z d)) H
theorem op_inTD {X : Cx} (hu : X.A.units + 65 < cLine) : OpR X (compareOp .In) (rInTD X.K) := by
  intro pins s σ H x y v u Q I rx ry h
  obtain ⟨d, ds, hd, he, sd, se, q⟩ := h
  obtain ⟨as, r1⟩ := Dp.reads I d x v hd rx
  obtain ⟨bs, r2⟩ := Dp.reads I (.tuple ds) y u he ry
  exact SeqAt.in_tuple_reads r2 r1 (SeqAt.canLay_of_shaped se) (SeqAt.canLay_of_shaped sd) (room_in_shaped sd hu) ⟨.bl _, H, I, rfl, q⟩
theorem go_inTD {K : PySem.W.Frag} {d : PyData} {ds : List PyData} (s1 : SeqAt.shaped d = true) (s2 : SeqAt.shaped (.tuple ds) = true) : GO K (rInTD K) d (.tuple ds) (.bool (ds.any fun z => PyData.eqv z d)) := fun H H1 G H2 v w Q p dx dy q =>
  ⟨d, ds, dv_dp _ _ (Dv.to dx p.gh), dv_dp _ _ (Dv.to dy p.gh), s1, s2, q _ G H2 p (.bl _)⟩
end DL
end
section
set_option Elab.async false
set_option linter.all false
set_option maxRecDepth 100000
set_option maxHeartbeats 1000000
namespace LM
open PySem DL Tst Tb
theorem eqv_nil (ds : List PyData) : PyData.eqv (.list ds) (.list []) = ds.isEmpty := by
  cases ds <;> simp [PyData.eqv, PyData.eqvAll]
theorem inD_pairs {a c : Str} {ms : List (Str × Str)} : inD (.tuple [.str a, .str c]) (ms.map mpairD) = decide ((a, c) ∈ ms) := by
  rw [Bool.eq_iff_iff, inD_iff, decide_eq_true_eq, List.mem_map]
  constructor
  · rintro ⟨⟨x, y⟩, h, e⟩
    unfold mpairD at e
    injection e with e
    injection e with e1 e2
    injection e1 with e1
    injection e2 with e2 _
    injection e2 with e2
    have e1 : x = a := e1
    have e2 : y = c := e2
    rw [← e1, ← e2]; exact h
  · exact fun h => ⟨_, h, rfl⟩
theorem lay_i {i : Int} : (PyData.int i).canLay0 = true := by unfold PyData.canLay0; rfl
theorem dep_i {i : Int} : (PyData.int i).depth = 0 := by unfold PyData.depth; rfl
theorem dep_s {i : Str} : (PyData.str i).depth = 0 := by unfold PyData.depth; rfl
end LM
namespace LW
open PySem PySem.Spec PyProof.Rows L2 DL LM
section
variable {P : Program} {W : World} {K : PySem.W.Frag} {mg : Str → Option Value} {base : Heap} {f : Addr} {fd : FuncData} {A A2 H H' H0 H1 H2 G G2 Hc : Hp} {σ : L2.St} {t te td tn tv t1 t2 to : TE} {tr : TS} {ts : TS} {tt : TT} {D : Ends} {tA : TA} {n i j : Nat} {p b : Addr} {xs ys : List V} {v : V} {d : PyData} {ds es : List PyData}
open Tst Tb
theorem shp_ints {ds : List PyData} (h : ∀ d ∈ ds, ∃ i : Int, d = .int i) : SeqAt.shaped (.list ds) = true := by
  show ((PyData.list ds).canLay0 && decide ((PyData.list ds).depth ≤ 64)) = true
  rw [Bool.and_eq_true]
  refine ⟨lay_lst fun d hd => ?_, decide_eq_true ?_⟩
  · obtain ⟨i, rfl⟩ := h d hd
    exact lay_i
  · have e : (PyData.list ds).depth = PyData.depthAll ds + 1 := by conv => lhs; unfold PyData.depth
    have := dA_le (ds := ds) (n := 0) fun d hd => by
      obtain ⟨i, rfl⟩ := h d hd
      rw [dep_i]; exact Nat.le_refl _
    omega
theorem go_eqNil {ds : List PyData} (h : ∀ d ∈ ds, ∃ i : Int, d = .int i) : GO K (rEqA K) (.list ds) (.list []) (.bool ds.isEmpty) := by
  have x := go_eqD (K := K) (shp_ints h) (shp_ints (ds := []) fun _ z => (nomatch z))
  rw [eqv_nil] at x
  exact x
theorem go_neNil {ds : List PyData} (h : ∀ d ∈ ds, ∃ i : Int, d = .int i) : GO K (rNeA K) (.list ds) (.list []) (.bool (!ds.isEmpty)) := by
  have x := go_neD (K := K) (shp_ints h) (shp_ints (ds := []) fun _ z => (nomatch z))
  rw [eqv_nil] at x
  exact x
theorem nats_ints {l : List Nat} : ∀ d ∈ l.map ofN, ∃ i : Int, d = .int i := fun d hd => by
  obtain ⟨k, _, rfl⟩ := List.mem_map.mp hd
  exact ⟨_, rfl⟩
theorem go_eqNat {l : List Nat} : GO K (rEqA K) (natsD l) (.list []) (.bool l.isEmpty) := by
  have x := go_eqNil (K := K) (ds := l.map ofN) nats_ints
  rw [List.isEmpty_map] at x
  exact x
theorem go_neNat {l : List Nat} : GO K (rNeA K) (natsD l) (.list []) (.bool (!l.isEmpty)) := by
  have x := go_neNil (K := K) (ds := l.map ofN) nats_ints
  rw [List.isEmpty_map] at x
  exact x
theorem go_in2 {a c : Str} {ms : List (Str × Str)} (h1 : (PyData.str a).canLay0 = true) (h2 : (PyData.str c).canLay0 = true) (h : ∀ p ∈ ms, (PyData.str p.1).canLay0 = true ∧ (PyData.str p.2).canLay0 = true) : GO K (rInTD K) (.tuple [.str a, .str c]) (pairsD ms) (.bool (decide ((a, c) ∈ ms))) := by
  have s1 : ∀ {a c : Str}, (PyData.str a).canLay0 = true → (PyData.str c).canLay0 = true → (PyData.tuple [.str a, .str c]).canLay0 = true := fun h1 h2 => lay_tup fun d hd => by
    simp only [List.mem_cons, List.not_mem_nil, or_false] at hd
    rcases hd with rfl | rfl
    · exact h1
    · exact h2
  have d1 : ∀ {a c : Str}, (PyData.tuple [.str a, .str c]).depth = 1 := by
    intro a c
    rw [dTu, dAc, dAc, dA0, dep_s, dep_s]; rfl
  have x := go_inTD (K := K) (d := .tuple [.str a, .str c]) (ds := ms.map mpairD) (by
    show ((PyData.tuple [.str a, .str c]).canLay0 && decide (_ ≤ 64)) = true
    rw [s1 h1 h2, d1]; rfl) (by
    show ((PyData.tuple (ms.map mpairD)).canLay0 && decide ((PyData.tuple (ms.map mpairD)).depth ≤ 64)) = true
    rw [Bool.and_eq_true]
    refine ⟨lay_tup fun d hd => ?_, decide_eq_true ?_⟩
    · obtain ⟨p, hp, rfl⟩ := List.mem_map.mp hd
      exact s1 (h p hp).1 (h p hp).2
    · rw [dTu]
      have := dA_le (ds := ms.map mpairD) (n := 1) fun d hd => by
        obtain ⟨p, hp, rfl⟩ := List.mem_map.mp hd
        unfold mpairD
        rw [d1]; exact Nat.le_refl _
      omega)
  rw [any_pl (by unfold PlD PlDs PlDs PlDs PlD; rfl), inD_pairs] at x
  exact x
def arOw : List Nq × List (Option Nat) × Nat × Tst → List PyData := fun x => [nodesD x.1, upsD x.2.1, ofN x.2.2.1, x.2.2.2.toD]
structure preOw (x : List Nq × List (Option Nat) × Nat × Tst) : Prop where
  g : Gr x.1 x.2.1
  k : x.2.2.1 < x.1.length
  ok : Okt 7 x.2.2.2
  lf : lawKind (wD x.2.2.2.toD) < 4
def fOw (x : List Nq × List (Option Nat) × Nat × Tst) : PyData := .bool (ownQ x.1 x.2.1 (wD x.2.2.2.toD) x.2.2.2.args x.2.2.1)
end
end LW
end
section
set_option Elab.async false
set_option linter.all false
set_option maxRecDepth 100000
set_option maxHeartbeats 1000000
namespace LM
open PySem DL Tst Tb
/-- the rows of the law's tables -/
def hasQ (ns : List Nq) (ps : List (Option Nat)) (k : Nat) : List Nat := (List.range ns.length).filter fun o => !(nq ns o).txt && decide (k ∈ LW.abQ ps ns.length o)
def tabR (ns : List Nq) (ps : List (Option Nat)) (w : Str) (k : Nat) : List Nat :=
  if w = "in" then LW.abQ ps ns.length k else if w = "behind" then befQ ns ps k else if w = "over" then ekQ ns k else if w = "has" then hasQ ns ps k
  else if w = "under" then (LW.abQ ps ns.length k).take 1 else (befQ ns ps k).drop ((befQ ns ps k).length - 1)
def TW : List Str := ["in", "behind", "over", "has", "under", "next"]
def rowsN (ns : List Nq) (ps : List (Option Nat)) (w : Str) : PyData := .list ((List.range ns.length).map fun k => natsD (tabR ns ps w k))
theorem abQ_len (ps : List (Option Nat)) : ∀ n k, (LW.abQ ps n k).length ≤ n
  | 0, k => by unfold LW.abQ; exact Nat.le_refl _
  | n + 1, k => by
    unfold LW.abQ
    cases ps.getD k none with
    | none => exact Nat.zero_le _
    | some p =>
      show (p :: LW.abQ ps n p).length ≤ _
      rw [List.length_cons]
      exact Nat.succ_le_succ (abQ_len ps n p)
end LM
namespace LW
open PySem PySem.Spec PyProof.Rows L2 DL LM
section
variable {P : Program} {W : World} {K : PySem.W.Frag} {mg : Str → Option Value} {base : Heap} {f : Addr} {fd : FuncData} {A A2 H H' H0 H1 H2 G G2 Hc : Hp} {σ : L2.St} {t te td tn tv t1 t2 : TE} {tr : TS} {ts : TS} {tt : TT} {D : Ends} {tA : TA} {n i j : Nat} {p b a : Addr} {xs ys : List V} {v : V} {d : PyData} {ds es : List PyData} {kvs : List (Key × V)}
open Tst Tb
/-- list(range(n)) -/
theorem gd_lstRg {m : Nat} (g : GD K te σ H A (ofN m)) (h : m ≤ 100000) : GD K (tLstRg (tRg1 te)) σ H A (natsD (List.range m)) := fun H0 H1 e Q q => g.to e fun v G H2 p dv => by
  have ev := Dv.int_inv dv
  subst ev
  refine ⟨(m : Int), rfl, RgOk.of_le (by decide) (by omega) (by decide) (by omega), fun a ha => q (.ref a) _ _ (p.new ha _) (.lst (.inl upd_same) ?_)⟩
  have er : rgV 0 (m : Int) = (List.range m).map fun (i : Nat) => V.int (i : Int) := by
    unfold rgV
    have e1 : ((m : Int) - 0).toNat = m := by omega
    rw [e1]
    refine List.map_congr_left fun i _ => ?_
    rw [Int.zero_add]
  rw [er]
  have : ∀ (l : List Nat) (Hx : Hp), DvA K Hx (l.map fun (i : Nat) => V.int (i : Int)) (l.map ofN) := fun l Hx => by
    induction l with
    | nil => exact .nil
    | cons x l ih => exact .cons (.int _) ih
  exact this _ _
theorem gt_inN {k : Nat} {l : List Nat} (g1 : GD K te σ H A (ofN k)) (g2 : GD K td σ H A (natsD l)) : GT (tTest (tOp (rIn K false) te td)) σ H A (decide (k ∈ l)) := by
  have gin := gt_test (gdo (K := K) g1 g2 (go_inL (x := .int (k : Int)) (xs := (l.map fun (c : Nat) => (c : Int)).map V.int) rfl (by
    have e : l.map ofN = (l.map fun (c : Nat) => (c : Int)).map PyData.int := by rw [List.map_map]; rfl
    rw [e]
    exact flat_ints _)))
  rw [inV_ints] at gin
  have em : decide ((k : Int) ∈ l.map fun (c : Nat) => (c : Int)) = decide (k ∈ l) := by
    rw [decide_eq_decide, List.mem_map]
    exact ⟨fun ⟨c, hc, e⟩ => by have : c = k := by omega
                                rw [← this]; exact hc, fun h => ⟨k, h, rfl⟩⟩
  rw [em] at gin
  exact gin
theorem cutLast (l : List PyData) : DL.cutD l (some (-1)) none = l.drop (l.length - 1) := by
  unfold DL.cutD
  rw [HT.sIx_none]
  have e : HT.sIx l.length 0 (some (-1)) = l.length - 1 := by
    show (if (-1 : Int) < 0 then ((-1 : Int) + (l.length : Int)).toNat else min (-1 : Int).toNat l.length) = _
    rw [if_pos (by decide)]; omega
  rw [e]
  exact List.take_of_length_le (by rw [List.length_drop]; exact Nat.le_refl _)
/-- a dict of rows of numbers by the words -/
def TbD (K : PySem.W.Frag) (G : Hp) (a : Addr) (ns : List Nq) (ps : List (Option Nat)) : Prop := ∃ kvs : List (Key × V), G a = some (.dK kvs) ∧ (∀ w ∈ TW, ∃ x, valV kvs (.inr w) = some x ∧ Dv K G x (rowsN ns ps w)) ∧ ∀ w, w ∉ TW → valV kvs (.inr w) = none
theorem TbD.to {ns : List Nq} {ps : List (Option Nat)} (h : TbD K G a ns ps) (s : Same G G2) : TbD K G2 a ns ps := by
  obtain ⟨kvs, h1, h2, h3⟩ := h
  exact ⟨kvs, s _ _ h1, fun w hw => by obtain ⟨x, h4, h5⟩ := h2 w hw; exact ⟨x, h4, h5.to s⟩, h3⟩
theorem gd_tab {ns : List Nq} {ps : List (Option Nat)} {w : Str} {i : Nat} (h : σ[i]? = some (some (.ref a))) (tb : TbD K H a ns ps) (hw : w ∈ TW) (g : GD K te σ H A (.str w)) : GD K (tDGet (tVar i) te) σ H A (rowsN ns ps w) := fun H0 H1 q Q k =>
  ⟨.ref a, h, g.to q fun u G2 H2 p2 du => by
    have eu := Dv.str_inv du
    subst eu
    obtain ⟨kvs, h1, h2, _⟩ := tb
    obtain ⟨x, h4, h5⟩ := h2 w hw
    have dg := DGet.k (k := .inr w) (p2.hh _ _ (q.gh _ _ (q.hg _ _ h1)))
    rw [h4] at dg
    exact ⟨a, x, rfl, dg, k x G2 H2 p2 (h5.to (q.hg.trans p2.hg))⟩⟩
theorem gd_inTab {ns : List Nq} {ps : List (Option Nat)} {w : Str} {i : Nat} (h : σ[i]? = some (some (.ref a))) (tb : TbD K H a ns ps) (g : GD K te σ H A (.str w)) : GD K (tDIn te (tVar i)) σ H A (.bool (decide (w ∈ TW))) := fun H0 H1 q Q k => g.to q fun u G2 H2 p2 du => by
  have eu := Dv.str_inv du
  subst eu
  obtain ⟨kvs, h1, h2, h3⟩ := tb
  have dg := DGet.k (k := .inr w) (p2.hh _ _ (q.gh _ _ (q.hg _ _ h1)))
  refine ⟨.ref a, h, a, _, rfl, dg, ?_⟩
  by_cases hw : w ∈ TW
  · obtain ⟨x, h4, _⟩ := h2 w hw
    rw [h4]
    rw [decide_eq_true hw] at k
    exact k _ G2 H2 p2 (.bl _)
  · rw [h3 w hw]
    rw [decide_eq_false hw] at k
    exact k _ G2 H2 p2 (.bl _)
theorem s_dstr {w : Str} (o : Own H0 H1 G H p (.dK kvs)) (ho : σ[j]? = some (some (.ref p))) (gv : GD K tv σ G H d) (z : kvs.length < sizeLine)
    (k : ∀ v G' H', Own H0 H1 G' H' p (.dK (putK kvs (.inr w) v)) → Same G G' → Dv K G' v d → D.nx σ H') : sDPut (tVar j) (tC (.str w)) tv D σ H := gv.to (.refl o.gh) fun v G2 H2 p2 dv => ⟨.ref p, ho, p, _, rfl, DPut.k (k := .inr w) (o.step p2).at_ z, k v G2 _ ((o.step p2).put _) p2.hg dv⟩
def spTb (K : PySem.W.Frag) : Sp := fun vs H1 Q _ => ∃ (G : Hp) (ns : List Nq) (ps : List (Option Nat)) (v u : V), vs = [v, u] ∧ Same G H1 ∧ Dv K G v (nodesD ns) ∧ Dv K G u (upsD ps) ∧ Gr ns ps ∧ ∀ a G' H', Pub G H1 G' H' → TbD K G' a ns ps → Q (.ref a) H'
end
end LW
end
section
set_option Elab.async false
set_option linter.all false
set_option maxRecDepth 100000
set_option maxHeartbeats 1000000
namespace LM
open PySem DL Tst Tb
variable {ns : List Nq} {ps : List (Option Nat)}
theorem tab_lt (g : Gr ns ps) {w : Str} {k : Nat} (hk : k < ns.length) : (∀ c ∈ tabR ns ps w k, c < ns.length) ∧ (tabR ns ps w k).length ≤ 60 := by
  have hN := g.len
  have ha : ∀ n k, k < ns.length → ∀ c ∈ LW.abQ ps n k, c < ns.length := fun n => by
    induction n with
    | zero => intro k _ c hc; unfold LW.abQ at hc; cases hc
    | succ n ih =>
      intro k hk c hc
      unfold LW.abQ at hc
      cases hu : ps.getD k none with
      | none => rw [hu] at hc; cases hc
      | some p =>
        rw [hu] at hc
        have hp := (g.upk hk hu).1
        rcases List.mem_cons.mp hc with rfl | hc
        · exact hp
        · exact ih p hp c hc
  have he : ∀ p, p < ns.length → (∀ c ∈ ekQ ns p, c < ns.length) ∧ (ekQ ns p).length ≤ 60 := fun p hp => ⟨fun c hc => (g.kup hp (List.mem_filter.mp hc).1).1, Nat.le_trans (List.length_filter_le _ _) (g.kle hp)⟩
  have hb : (∀ c ∈ befQ ns ps k, c < ns.length) ∧ (befQ ns ps k).length ≤ 60 := by
    unfold befQ
    cases hu : ps.getD k none with
    | none => exact ⟨fun _ h => (nomatch h), Nat.zero_le _⟩
    | some p =>
      obtain ⟨h1, h2⟩ := he p (g.upk hk hu).1
      show (∀ c ∈ (if k ∈ ekQ ns p then _ else _), _) ∧ List.length (if k ∈ ekQ ns p then _ else _) ≤ 60
      split
      · exact ⟨fun c hc => h1 c (List.mem_of_mem_take hc), by rw [List.length_take]; omega⟩
      · exact ⟨fun _ h => (nomatch h), Nat.zero_le _⟩
  have hl := abQ_len ps ns.length k
  unfold tabR
  by_cases c : w = "in"
  · rw [if_pos c]; exact ⟨ha _ _ hk, by omega⟩
  rw [if_neg c]
  by_cases c : w = "behind"
  · rw [if_pos c]; exact hb
  rw [if_neg c]
  by_cases c : w = "over"
  · rw [if_pos c]; exact he k hk
  rw [if_neg c]
  by_cases c : w = "has"
  · rw [if_pos c]
    refine ⟨fun c hc => List.mem_range.mp (List.mem_filter.mp hc).1, ?_⟩
    have := List.length_filter_le (fun o => !(nq ns o).txt && decide (k ∈ LW.abQ ps ns.length o)) (List.range ns.length)
    rw [List.length_range] at this
    unfold hasQ
    omega
  rw [if_neg c]
  by_cases c : w = "under"
  · rw [if_pos c]; exact ⟨fun c hc => ha _ _ hk c (List.mem_of_mem_take hc), by rw [List.length_take]; omega⟩
  rw [if_neg c]
  exact ⟨fun c hc => hb.1 c (List.mem_of_mem_drop hc), by rw [List.length_drop]; omega⟩
/-- the law's tables -/
def bQ (ns : List Nq) (ps : List (Option Nat)) : Tb := tbQ ns ps (ownQ ns ps)
theorem abv_bQ (k : Nat) : (bQ ns ps).abv k = LW.abQ ps ns.length k := LW.abQ_eq _ _
theorem has_bQ (k : Nat) : (bQ ns ps).has k = hasQ ns ps k := by
  unfold Tb.has hasQ
  refine List.filter_congr fun o _ => ?_
  rw [abv_bQ]; rfl
theorem head_take {f : Nat → Bool} (l : List Nat) : l.head?.any f = (l.take 1).any f := by
  cases l with
  | nil => rfl
  | cons a l => show f a = (f a || false); rw [Bool.or_false]
theorem last_drop {f : Nat → Bool} (l : List Nat) : l.getLast?.any f = (l.drop (l.length - 1)).any f := by
  rcases List.eq_nil_or_concat l with rfl | ⟨r, a, rfl⟩
  · rfl
  · rw [List.concat_eq_append, List.getLast?_concat, List.length_append, List.length_singleton, Nat.add_sub_cancel, List.drop_left]
    show f a = (f a || false)
    rw [Bool.or_false]
theorem sem_tab {w : Str} (hw : w ∈ TW) (t : Tst) (k : Nat) : (bQ ns ps).sem (.un w t) k = (tabR ns ps w k).any ((bQ ns ps).sem t) := by
  rw [sem_un]
  show (if w = "not" then _ else _) = _
  simp only [TW, List.mem_cons, List.not_mem_nil, or_false] at hw
  unfold tabR
  rcases hw with rfl | rfl | rfl | rfl | rfl | rfl
  · rw [if_neg (by decide +kernel), if_neg (by decide +kernel), if_pos rfl, if_pos rfl, abv_bQ]
  · rw [if_neg (by decide +kernel), if_neg (by decide +kernel), if_neg (by decide +kernel), if_neg (by decide +kernel), if_pos rfl, if_neg (by decide +kernel), if_pos rfl]; rfl
  · rw [if_neg (by decide +kernel), if_neg (by decide +kernel), if_neg (by decide +kernel), if_neg (by decide +kernel), if_neg (by decide +kernel), if_pos rfl, if_neg (by decide +kernel), if_neg (by decide +kernel), if_pos rfl]; rfl
  · rw [if_neg (by decide +kernel), if_neg (by decide +kernel), if_neg (by decide +kernel), if_neg (by decide +kernel), if_neg (by decide +kernel), if_neg (by decide +kernel), if_neg (by decide +kernel), if_neg (by decide +kernel), if_neg (by decide +kernel), if_pos rfl, has_bQ]
  · rw [if_neg (by decide +kernel), if_pos rfl, if_neg (by decide +kernel), if_neg (by decide +kernel), if_neg (by decide +kernel), if_neg (by decide +kernel), if_pos rfl, head_take, abv_bQ]
  · rw [if_neg (by decide +kernel), if_neg (by decide +kernel), if_neg (by decide +kernel), if_pos rfl, if_neg (by decide +kernel), if_neg (by decide +kernel), if_neg (by decide +kernel), if_neg (by decide +kernel), if_neg (by decide +kernel), last_drop]; rfl
theorem sem_not (t : Tst) (k : Nat) : (bQ ns ps).sem (.un "not" t) k = !(bQ ns ps).sem t k := by
  rw [sem_un]
  show (if ("not" : Str) = "not" then _ else _) = _
  rw [if_pos rfl]
theorem sem_lf (w : Str) (as : List Str) (k : Nat) : (bQ ns ps).sem (.leaf w as) k = ownQ ns ps w as k := by
  conv => lhs; unfold sem
  rfl
theorem cnt_all {α : Type} {l : List α} {p : α → Bool} : decide (((l.filter p).length : Int) = (l.length : Int)) = l.all p := by
  rw [Bool.eq_iff_iff, decide_eq_true_eq, List.all_eq_true]
  constructor
  · intro h x hx
    have e : (l.filter p).length = l.length := by omega
    exact (List.length_filter_eq_length_iff.mp e) x hx
  · intro h
    rw [List.filter_eq_self.mpr h]
theorem cnt_any {α : Type} {l : List α} {p : α → Bool} : decide ((0 : Int) < ((l.filter p).length : Int)) = l.any p := by
  rw [Bool.eq_iff_iff, decide_eq_true_eq, List.any_eq_true]
  constructor
  · intro h
    have : 0 < (l.filter p).length := by omega
    obtain ⟨x, hx⟩ := List.length_pos_iff_exists_mem.mp this
    exact ⟨x, List.mem_filter.mp hx⟩
  · rintro ⟨x, hx⟩
    have := List.length_pos_of_mem (List.mem_filter.mpr hx)
    omega
theorem filt_any {α : Type} {l : List α} {p : α → Bool} {d : PyData} : (!((l.filter p).map fun _ => d).isEmpty) = l.any p := by
  rw [List.isEmpty_map, Bool.eq_iff_iff, Bool.not_eq_true', List.isEmpty_eq_false_iff_exists_mem, List.any_eq_true]
  exact ⟨fun ⟨x, hx⟩ => ⟨x, (List.mem_filter.mp hx).1, (List.mem_filter.mp hx).2⟩, fun ⟨x, h1, h2⟩ => ⟨x, List.mem_filter.mpr ⟨h1, h2⟩⟩⟩
end LM
namespace LW
open PySem PySem.Spec PyProof.Rows L2 DL LM
theorem cr_lenK {X : Cx} (K : PySem.W.Frag) (hK : X.K = K := by rfl) : CallR X (.builtin "len") (DL.rLen K) := by subst hK; exact cr_len
section
variable {P : Program} {W : World} {K : PySem.W.Frag} {mg : Str → Option Value} {base : Heap} {f : Addr} {fd : FuncData} {A A2 H H' H0 H1 H2 G G2 Hc : Hp} {σ : L2.St} {t te td tn tv t1 t2 : TE} {tr : TS} {ts : TS} {tt : TT} {D : Ends} {tA : TA} {n i j : Nat} {p b a : Addr} {xs ys : List V} {v : V} {d : PyData} {ds es : List PyData} {kvs : List (Key × V)}
open Tst Tb
/-- the row of truths of a test, by the law's tables -/
def rowQ (ns : List Nq) (ps : List (Option Nat)) (t : Tst) : List Bool := (List.range ns.length).map ((bQ ns ps).sem t)
theorem gd_rowAt {ns : List Nq} {ps : List (Option Nat)} {t : Tst} {k : Nat} (g : GD K te σ H A (blsD (rowQ ns ps t))) (gn : GD K tn σ H A (ofN k)) (hk : k < ns.length) : GD K (tOp (rIx K) te tn) σ H A (.bool ((bQ ns ps).sem t k)) := by
  have x := gd_bAt g gn (q := k) (by unfold rowQ; rw [List.length_map, List.length_range]; exact hk)
  have e : (rowQ ns ps t).getD k false = (bQ ns ps).sem t k := by
    unfold rowQ
    rw [List.getD_eq_getElem?_getD, List.getElem?_map, List.getElem?_range hk]; rfl
  rw [e] at x
  exact x
def spRw (K : PySem.W.Frag) (j : Nat) : Sp := fun vs H Q _ => ∃ (G : Hp) (ns : List Nq) (ps : List (Option Nat)) (t : Tst) (v u y : V) (a : Addr), vs = [v, u, .ref a, y] ∧ Same G H ∧ Dv K G v (nodesD ns) ∧ Dv K G u (upsD ps) ∧ TbD K G a ns ps ∧ Dv K G y t.toD ∧ Gr ns ps ∧ Okt 7 t ∧ t.toD.depth < j ∧
  ∀ w G' H', Pub G H G' H' → Dv K G' w (blsD (rowQ ns ps t)) → Q w H'
theorem gd_rows {ns : List Nq} {ps : List (Option Nat)} {t : Tst} {i1 i2 i3 : Nat} {v u : V} (h1 : σ[i1]? = some (some v)) (h2 : σ[i2]? = some (some u)) (h3 : σ[i3]? = some (some (.ref a))) (d1 : Dv K H v (nodesD ns)) (d2 : Dv K H u (upsD ps)) (tb : TbD K H a ns ps) (g : Gr ns ps) (ok : Okt 7 t) (hd : t.toD.depth < j) (gt : GD K te σ H A t.toD) :
    GD K (tCall (spRw K j) [] E0 (tCons (tVar i1) (tCons (tVar i2) (tCons (tVar i3) (tCons te tNil))))) σ H A (blsD (rowQ ns ps t)) := fun H0 H1 e Q q =>
  ⟨v, h1, u, h2, .ref a, h3, gt.to e fun y G H2 p dy => by
    show spRw K j ([v, u, .ref a, y] ++ []) H2 Q E0
    have s := e.hg.trans p.hg
    exact ⟨G, ns, ps, t, v, u, y, a, rfl, p.gh, d1.to s, d2.to s, tb.to s, dy, g, ok, hd, fun w G' H' p' dw => q w G' H' (p.trans p') dw⟩⟩
end
end LW
end
section
set_option Elab.async false
set_option linter.all false
set_option maxRecDepth 100000
set_option maxHeartbeats 1000000
namespace LM
open PySem DL Tst Tb
variable {ns : List Nq} {ps : List (Option Nat)}
theorem made_ord (g : Gr ns ps) : ∀ (j k : Nat), Hq ns j k → (madeF ns j k).nums = ordF ns j k
  | 0, _, h => h.elim
  | j + 1, k, h => by
    unfold Sh.nums
    rw [Sh.pre_eq, List.map_cons, made_num, made_kids]
    conv => rhs; unfold ordF
    show k :: _ = k :: _
    congr 1
    have key : ∀ l : List Nat, (∀ c ∈ l, Hq ns j c) → List.map Sh.num (List.flatMap Sh.pre (l.map (madeF ns j))) = l.flatMap (ordF ns j) := fun l hl => by
      induction l with
      | nil => rfl
      | cons c l ih =>
        rw [List.map_cons, List.flatMap_cons, List.flatMap_cons, List.map_append, ih fun x hx => hl x (List.mem_cons_of_mem _ hx)]
        congr 1
        exact made_ord g j c (hl c List.mem_cons_self)
    cases ht : (nq ns k).txt with
    | true =>
      rw [g.tx h.1 ht]; rfl
    | false => exact key _ h.2.2
theorem ord_len (g : Gr ns ps) : (ordF ns 60 0).length ≤ 60 := by
  rw [← made_ord g 60 0 (g.hq g.pos)]
  have h := nodup_le ns.length _ (made_uni g) fun x hx => by
    obtain ⟨p, hp, rfl⟩ := List.mem_map.mp hx
    obtain ⟨i, h1, h2, h3⟩ := made_part g hp
    exact h3
  exact Nat.le_trans h g.len
theorem ord_lt (g : Gr ns ps) : ∀ k ∈ ordF ns 60 0, k < ns.length := fun k hk => by
  rw [← made_ord g 60 0 (g.hq g.pos)] at hk
  obtain ⟨p, hp, rfl⟩ := List.mem_map.mp hk
  obtain ⟨i, h1, h2, h3⟩ := made_part g hp
  exact h3
theorem made_en (g : Gr ns ps) : enOf (madeS ns) = (ordF ns 60 0).filter fun k => !(nq ns k).txt := by
  rw [← made_ord g 60 0 (g.hq g.pos)]
  unfold enOf esOf Sh.nums
  rw [List.filter_map]
  congr 1
  refine List.filter_congr fun p hp => ?_
  obtain ⟨i, h1, h2, h3⟩ := made_part g hp
  show p.isE = !(nq ns p.num).txt
  conv => lhs; rw [h2, made_isE h1]
/-- the law's answer -/
def ansQ (ns : List Nq) (ps : List (Option Nat)) (t : Tst) : List Nat := (ordF ns 60 0).filter fun k => !(nq ns k).txt && (bQ ns ps).sem t k
theorem ans_law (g : Gr ns ps) {t : Tst} (wf : WF t) : ansL (madeS ns) t = ansQ ns ps t := by
  rw [ans_eq (made_lk g) (made_vw g) wf, made_en g, List.filter_filter]
  unfold ansQ
  refine List.filter_congr fun k _ => ?_
  show ((bQ ns ps).sem t k && !(nq ns k).txt) = _
  rw [Bool.and_comm]
end LM
namespace LW
open PySem PySem.Spec PyProof.Rows L2 DL LM
section
variable {P : Program} {W : World} {K : PySem.W.Frag} {mg : Str → Option Value} {base : Heap} {f : Addr} {fd : FuncData} {A A2 H H' H0 H1 H2 G G2 Hc : Hp} {σ : L2.St} {t te td tn tv t1 t2 : TE} {tr : TS} {ts : TS} {tt : TT} {D : Ends} {tA : TA} {n i j : Nat} {p b a : Addr} {xs ys : List V} {v : V} {d : PyData} {ds es : List PyData} {kvs : List (Key × V)}
open Tst Tb
def arAq : List Nq × List (Option Nat) × Tst → List PyData := fun x => [nodesD x.1, upsD x.2.1, x.2.2.toD]
end
end LW
end
section
set_option Elab.async false
set_option linter.all false
set_option maxRecDepth 100000
set_option maxHeartbeats 1000000
namespace LM
open PySem DL Tst Tb
/-! the rows that the law draws -/
def VAL3 : List Str := ["", "1", "x"]
def lawMk (d : Int) : List (Str × Str) := (if 0 < d % 3 then [(("m" : Str), sAt VAL3 (d / 3 % 3))] else []) ++ (if d / 9 % 3 = 0 then [(("n" : Str), sAt VAL3 (d / 27 % 3))] else [])
def lawNq (ds : List Int) : Nq := if dAt ds 0 % 4 = 3 then ⟨true, sAt ["x", "y", "", "x y"] (dAt ds 1 % 4), [], []⟩ else ⟨false, sAt ["a", "b", "c"] (dAt ds 1 % 3), lawMk (dAt ds 2), []⟩
def putK1 (ns : List Nq) (p j : Nat) : List Nq := ns.set p { nq ns p with kids := insAt (nq ns p).kids j ns.length }
def putQ (ns : List Nq) (p j : Nat) (q : Nq) : List Nq := putK1 ns p j ++ [q]
def MkOk (ms : List (Str × Str)) : Prop := (ms.map (·.1)).Nodup ∧ ms.length ≤ 60 ∧ ∀ p ∈ ms, (PyData.str p.1).canLay0 = true ∧ (PyData.str p.2).canLay0 = true
theorem lawMk_ok (d : Int) : MkOk (lawMk d) := by
  have v : ∀ i, (PyData.str (sAt VAL3 i)).canLay0 = true := fun i => sAt_all (p := fun x => (PyData.str x).canLay0 = true) (fun x hx => lay_str (by
    have : ∀ x ∈ VAL3, clS x := by decide +kernel
    exact this x hx)) (lay_str (by decide +kernel)) i
  have k1 : (PyData.str "m").canLay0 = true := lay_str (by decide +kernel)
  have k2 : (PyData.str "n").canLay0 = true := lay_str (by decide +kernel)
  unfold lawMk MkOk
  by_cases c1 : 0 < d % 3
  · rw [if_pos c1]
    by_cases c2 : d / 9 % 3 = 0
    · rw [if_pos c2]
      refine ⟨by show List.Nodup [("m" : Str), "n"]; decide +kernel, by show 2 ≤ 60; decide, fun p hp => ?_⟩
      simp only [List.singleton_append, List.mem_cons, List.not_mem_nil, or_false] at hp
      rcases hp with rfl | rfl
      · exact ⟨k1, v _⟩
      · exact ⟨k2, v _⟩
    · rw [if_neg c2]
      refine ⟨by show List.Nodup [("m" : Str)]; decide +kernel, by show 1 ≤ 60; decide, fun p hp => ?_⟩
      simp only [List.append_nil, List.mem_singleton] at hp
      rw [hp]; exact ⟨k1, v _⟩
  · rw [if_neg c1]
    by_cases c2 : d / 9 % 3 = 0
    · rw [if_pos c2]
      refine ⟨by show List.Nodup [("n" : Str)]; decide +kernel, by show 1 ≤ 60; decide, fun p hp => ?_⟩
      simp only [List.nil_append, List.mem_singleton] at hp
      rw [hp]; exact ⟨k2, v _⟩
    · rw [if_neg c2]
      exact ⟨List.nodup_nil, Nat.zero_le _, fun _ h => (nomatch h)⟩
def ShOk (q : Nq) : Prop := q.name.length ≤ 1000 ∧ ∀ p ∈ q.marks, p.1.length ≤ 1000 ∧ p.2.length ≤ 1000
theorem lawMk_sh (d : Int) : ∀ p ∈ lawMk d, p.1.length ≤ 1000 ∧ p.2.length ≤ 1000 := by
  have v : ∀ i, (sAt VAL3 i).length ≤ 1000 := fun i => sAt_all (p := fun x => x.length ≤ 1000) (fun x hx => by
    have : ∀ x ∈ VAL3, x.length ≤ 1000 := by decide +kernel
    exact this x hx) (by decide +kernel) i
  have k1 : ("m" : Str).length ≤ 1000 := by decide +kernel
  have k2 : ("n" : Str).length ≤ 1000 := by decide +kernel
  intro p hp
  unfold lawMk at hp
  rcases List.mem_append.mp hp with h | h
  · split at h
    · rw [List.mem_singleton.mp h]; exact ⟨k1, v _⟩
    · cases h
  · split at h
    · rw [List.mem_singleton.mp h]; exact ⟨k2, v _⟩
    · cases h
theorem lawNq_sh (ds : List Int) : ShOk (lawNq ds) := by
  unfold lawNq ShOk
  split
  · exact ⟨sAt_all (p := fun x => x.length ≤ 1000) (by decide +kernel) (by decide +kernel) _, fun _ h => (nomatch h)⟩
  · exact ⟨sAt_all (p := fun x => x.length ≤ 1000) (by decide +kernel) (by decide +kernel) _, lawMk_sh _⟩
theorem lawNq_ok (ds : List Int) : (lawNq ds).kids = [] ∧ MkOk (lawNq ds).marks := by
  unfold lawNq
  split
  · exact ⟨rfl, List.nodup_nil, Nat.zero_le _, fun _ h => (nomatch h)⟩
  · exact ⟨rfl, lawMk_ok (dAt ds 2)⟩
variable {ns : List Nq} {ps : List (Option Nat)}
theorem nd_ext : ∀ {l l' : List Nd}, l.length = l'.length → (∀ k, k < l.length → nd l k = nd l' k) → l = l' := fun {l l'} hl h => by
  refine List.ext_getElem? fun k => ?_
  by_cases hk : k < l.length
  · rw [nd_get hk, nd_get (by omega), h k hk]
  · rw [List.getElem?_eq_none (by omega), List.getElem?_eq_none (by omega)]
theorem nd_eq {x y : Nd} (h1 : x.txt = y.txt) (h2 : x.name = y.name) (h3 : x.marks = y.marks) (h4 : x.kids = y.kids) (h5 : x.up = y.up) : x = y := by
  cases x; cases y
  simp only at h1 h2 h3 h4 h5
  rw [h1, h2, h3, h4, h5]
theorem len_k1 {p j : Nat} : (putK1 ns p j).length = ns.length := by unfold putK1; rw [List.length_set]
theorem nq_k1 {p j k : Nat} (hp : p < ns.length) : nq (putK1 ns p j) k = if k = p then { nq ns p with kids := insAt (nq ns p).kids j ns.length } else nq ns k := by
  unfold putK1 nq
  rw [List.getD_eq_getElem?_getD]
  by_cases h : k = p
  · subst h
    rw [List.getElem?_set_self hp, if_pos rfl]; rfl
  · rw [List.getElem?_set_ne (Ne.symm h), if_neg h, ← List.getD_eq_getElem?_getD]
theorem len_q {p j : Nat} {q : Nq} : (putQ ns p j q).length = ns.length + 1 := by unfold putQ; rw [List.length_append, len_k1]; rfl
theorem nq_app {l : List Nq} {q : Nq} {k : Nat} (h : k < l.length) : nq (l ++ [q]) k = nq l k := by
  unfold nq
  rw [List.getD_eq_getElem?_getD, List.getD_eq_getElem?_getD, List.getElem?_append_left h]
theorem nq_last {l : List Nq} {q : Nq} : nq (l ++ [q]) l.length = q := by
  unfold nq
  rw [List.getD_eq_getElem?_getD, List.getElem?_append_right (Nat.le_refl _), Nat.sub_self]; rfl
theorem Gr.put (g : Gr ns ps) {p j : Nat} {q : Nq} (hl : ns.length < 60) (hp : p < ns.length) (ht : (nq ns p).txt = false) (hq : q.kids = []) (hm : MkOk q.marks) (hsh : ShOk q) : Gr (putQ ns p j q) (ps ++ [some p]) := by
  have o1 := g.ok.make (by rw [nds_len]; exact hl) q.txt q.name
  have hlen : (ndsQ ns ps ++ [mkNd q.txt q.name]).length = ns.length + 1 := by rw [List.length_append, nds_len]; rfl
  have hA : ∀ {k}, k < ns.length → nd (ndsQ ns ps ++ [mkNd q.txt q.name]) k = ndQ ns ps k := fun {k} hk => by rw [nd_app (by rw [nds_len]; exact hk), nds_at hk]
  have hB : nd (ndsQ ns ps ++ [mkNd q.txt q.name]) ns.length = mkNd q.txt q.name := by
    have := nd_last (ns := ndsQ ns ps) (x := mkNd q.txt q.name)
    rw [nds_len] at this
    exact this
  have hab : ∀ {m l}, Ch (ndsQ ns ps ++ [mkNd q.txt q.name]) m l → m < ns.length → ∀ x ∈ l, x < ns.length := by
    intro m l c
    induction c with
    | top _ => intro hm x hx; rw [List.mem_singleton.mp hx]; exact hm
    | step hu _ ih =>
      intro hm x hx
      rw [hA hm] at hu
      rcases List.mem_cons.mp hx with rfl | hx
      · exact hm
      · exact ih (g.upk hm hu).1 x hx
  have o2 : Ok (insN (ndsQ ns ps ++ [mkNd q.txt q.name]) p ns.length j) := o1.ins (by omega) (by omega) (by rw [hB]; rfl) (by have := g.pos; omega) (by rw [hA hp]; exact ht) fun z => by
    have c := o1.above (n := p) (by omega)
    exact absurd (hab c hp _ z) (by omega)
  have hE : ndsQ (putQ ns p j q) (ps ++ [some p]) = insN (ndsQ ns ps ++ [mkNd q.txt q.name]) p ns.length j := by
    refine nd_ext (by rw [nds_len, len_insN, hlen, len_q]) fun k hk => ?_
    rw [nds_len, len_q] at hk
    rw [nds_at (by rw [len_q]; exact hk)]
    have hr := rest_at (ns := ndsQ ns ps ++ [mkNd q.txt q.name]) (p := p) (n := ns.length) (ks := insAt (nd (ndsQ ns ps ++ [mkNd q.txt q.name]) p).kids j ns.length) (u := some p) k
    have hks := kids_at (ns := ndsQ ns ps ++ [mkNd q.txt q.name]) (p := p) (n := ns.length) (ks := insAt (nd (ndsQ ns ps ++ [mkNd q.txt q.name]) p).kids j ns.length) (u := some p) (by omega) k
    have hus := up_at (ns := ndsQ ns ps ++ [mkNd q.txt q.name]) (p := p) (n := ns.length) (ks := insAt (nd (ndsQ ns ps ++ [mkNd q.txt q.name]) p).kids j ns.length) (u := some p) (by omega) k
    show ndQ _ _ k = nd (setUp (setKids _ p (insAt _ j ns.length)) ns.length (some p)) k
    by_cases hkn : k < ns.length
    · have e1 : nq (putQ ns p j q) k = if k = p then { nq ns p with kids := insAt (nq ns p).kids j ns.length } else nq ns k := by unfold putQ; rw [nq_app (by rw [len_k1]; exact hkn), nq_k1 hp]
      have e2 : (ps ++ [some p]).getD k none = ps.getD k none := by rw [List.getD_eq_getElem?_getD, List.getD_eq_getElem?_getD, List.getElem?_append_left (by rw [g.pl]; exact hkn)]
      rw [hA hkn] at hr hks hus
      rw [if_neg (by omega)] at hus
      refine nd_eq ?_ ?_ ?_ ?_ ?_
      · rw [hr.1]
        show (nq (putQ ns p j q) k).txt = (nq ns k).txt
        rw [e1]
        split
        · rename_i h; rw [h]
        · rfl
      · rw [hr.2.1]
        show (nq (putQ ns p j q) k).name = (nq ns k).name
        rw [e1]
        split
        · rename_i h; rw [h]
        · rfl
      · rw [hr.2.2]; rfl
      · rw [hks]
        show (nq (putQ ns p j q) k).kids = _
        rw [e1, hA hp]
        split <;> rfl
      · rw [hus]
        exact e2
    · have ek : k = ns.length := by omega
      subst ek
      have e1 : nq (putQ ns p j q) ns.length = q := by
        have := nq_last (l := putK1 ns p j) (q := q)
        rw [len_k1] at this
        exact this
      have e2 : (ps ++ [some p]).getD ns.length none = some p := by rw [← g.pl, List.getD_eq_getElem?_getD, List.getElem?_append_right (Nat.le_refl _), Nat.sub_self]; rfl
      rw [hB] at hr hks hus
      rw [if_pos rfl] at hus
      rw [if_neg (by omega)] at hks
      refine nd_eq ?_ ?_ ?_ ?_ ?_
      · rw [hr.1]
        show (nq (putQ ns p j q) ns.length).txt = q.txt
        rw [e1]
      · rw [hr.2.1]
        show (nq (putQ ns p j q) ns.length).name = q.name
        rw [e1]
      · rw [hr.2.2]; rfl
      · rw [hks]
        show (nq (putQ ns p j q) ns.length).kids = _
        rw [e1, hq]; rfl
      · rw [hus]
        exact e2
  refine ⟨by rw [hE]; exact o2, by rw [List.length_append, len_q, g.pl]; rfl, fun k hk h0 => ?_, fun k hk => ?_, fun k hk => ?_⟩
  · rw [len_q] at hk
    by_cases hkn : k < ns.length
    · have e2 : (ps ++ [some p]).getD k none = ps.getD k none := by rw [List.getD_eq_getElem?_getD, List.getD_eq_getElem?_getD, List.getElem?_append_left (by rw [g.pl]; exact hkn)]
      rw [e2]
      exact g.all k hkn h0
    · have ek : k = ns.length := by omega
      subst ek
      rw [← g.pl, List.getD_eq_getElem?_getD, List.getElem?_append_right (Nat.le_refl _), Nat.sub_self]
      exact fun z => (nomatch z)
  · rw [len_q] at hk
    by_cases hkn : k < ns.length
    · have e1 : (nq (putQ ns p j q) k).marks = (nq ns k).marks := by
        unfold putQ
        rw [nq_app (by rw [len_k1]; exact hkn), nq_k1 hp]
        split
        · rename_i h; rw [h]
        · rfl
      rw [e1]
      exact g.mks k hkn
    · have ek : k = ns.length := by omega
      subst ek
      have e1 : nq (putQ ns p j q) ns.length = q := by
        have := nq_last (l := putK1 ns p j) (q := q)
        rw [len_k1] at this
        exact this
      rw [e1]
      exact hm
  · rw [len_q] at hk
    by_cases hkn : k < ns.length
    · have e1 : (nq (putQ ns p j q) k).marks = (nq ns k).marks ∧ (nq (putQ ns p j q) k).name = (nq ns k).name := by
        unfold putQ
        rw [nq_app (by rw [len_k1]; exact hkn), nq_k1 hp]
        split
        · rename_i h; rw [h]; exact ⟨rfl, rfl⟩
        · exact ⟨rfl, rfl⟩
      rw [e1.1, e1.2]
      exact g.sh k hkn
    · have ek : k = ns.length := by omega
      subst ek
      have e1 : nq (putQ ns p j q) ns.length = q := by
        have := nq_last (l := putK1 ns p j) (q := q)
        rw [len_k1] at this
        exact this
      rw [e1]
      exact hsh
theorem gr_one {ms : List (Str × Str)} (hm : MkOk ms) (hsh : ∀ p ∈ ms, p.1.length ≤ 1000 ∧ p.2.length ≤ 1000) : Gr [⟨false, "a", ms, []⟩] [none] where
  ok := by
    have e : ndsQ [⟨false, "a", ms, []⟩] [none] = [⟨false, "a", fun _ => none, [], none⟩] := rfl
    rw [e]
    have h0 : ∀ {n : Nat}, n < [(⟨false, "a", fun _ => none, [], none⟩ : Nd)].length → n = 0 := fun {n} h => by
      have : n < 1 := h
      omega
    refine ⟨by decide, by decide, rfl, rfl, fun n p hn hu => ?_, fun p k hp hk => ?_, fun p hp => ?_, fun n hn => ?_, fun n hn k _ => ?_, fun n hn h => ?_⟩
    · rw [h0 hn] at hu; cases hu
    · rw [h0 hp] at hk; cases hk
    · rw [h0 hp]; exact List.nodup_nil
    · rw [h0 hn]; exact ⟨[0], .top rfl⟩
    · rw [h0 hn]; rfl
    · rw [h0 hn]; rfl
  pl := rfl
  all := fun k hk h0 => by
    have : k < 1 := hk
    omega
  mks := fun k hk => by
    have : k < 1 := hk
    have e : k = 0 := by omega
    subst e
    exact hm
  sh := fun k hk => by
    have : k < 1 := hk
    have e : k = 0 := by omega
    subst e
    exact ⟨by show ("a" : Str).length ≤ 1000; decide +kernel, hsh⟩
end LM
end
section
set_option Elab.async false
set_option linter.all false
set_option maxRecDepth 100000
set_option maxHeartbeats 1000000
namespace LW
open PySem PySem.Spec PyProof.Rows L2 DL LM
section
variable {P : Program} {W : World} {K : PySem.W.Frag} {mg : Str → Option Value} {base : Heap} {f : Addr} {fd : FuncData} {A A2 H H' H0 H1 H2 G G2 Hc : Hp} {σ : L2.St} {t te td tn tv t1 t2 : TE} {tr : TS} {ts : TS} {tt : TT} {D : Ends} {tA : TA} {n i j : Nat} {p b a : Addr} {xs ys : List V} {v : V} {d : PyData} {ds es : List PyData}
theorem go_ltN {a b : Nat} : GO K rLtA (ofN a) (ofN b) (.bool (decide (a < b))) := by
  have x := go_ltI (K := K) (i := (a : Int)) (j := (b : Int))
  have e : decide ((a : Int) < (b : Int)) = decide (a < b) := by rw [decide_eq_decide]; omega
  rw [e] at x
  exact x
/-! ### _law_cell -/
theorem gd_lenS {s : Addr} {xs : List V} (h : σ[j]? = some (some (.ref s))) (e : SqL K A s xs) : GD K (tCB (DL.rLen K) (tCons (tVar j) tNil)) σ H A (ofN xs.length) := fun H0 H1 q Q k => ⟨.ref s, h, .ref s, xs.length, rfl, .inl ⟨xs, q.hh.seq e, rfl⟩, k _ H0 H1 (.refl q.gh) (.int _)⟩
theorem gd_ixS {s : Addr} {ns : List Int} {i c : Int} (h : σ[j]? = some (some (.ref s))) (e : SqL K A s (ns.map V.int)) (g : GD K te σ H A (.int i)) (ei : atI (ns.map V.int) i = some (.int c)) : GD K (tOp (rIx K) (tVar j) te) σ H A (.int c) := fun H0 H1 q Q k => ⟨.ref s, h, g.to q fun v G2 H2 q2 dv => .inl ⟨s, _, i, _, rfl, Dv.int_inv dv, q2.hh.seq (q.hh.seq e), ei, k _ G2 H2 q2 (.int c)⟩⟩
def spLc (K : PySem.W.Frag) : Sp := fun vs H1 Q _ => ∃ (s : Addr) (ns : List Int) (k : Nat), vs = [.ref s, .int (k : Int)] ∧ SqL K H1 s (ns.map V.int) ∧ ∀ (c : Int) H2, Same H1 H2 → Q (.int c) H2
abbrev s_law_cell : Stmt := topS 28
theorem sc_law_cell : FnScope ["script", "k"] ["script", "k"] (defScope s_law_cell) := ⟨rfl, rfl, rfl, by decide +kernel, rfl, by decide +kernel, by decide +kernel⟩
theorem ok_cell (T : Bt mg) (F : Fun K "_law_cell" "_law_cell" s_law_cell f fd) : FnOk P W K mg base CX0 1 f fd ["script", "k"] (spLc K) := by
  refine F.ok sc_law_cell (fun vs H Q E h => ?_) (fun cdv A outer s H1 vs Q E hr h => ?_)
  · obtain ⟨_, _, _, rfl, _⟩ := h
    rfl
  obtain ⟨s0, ns, k, rfl, hs, q⟩ := h
  refine ⟨_, (pss_cons (ps_if (pt_cmpR op_ltA (pv 1) (pe_callB cr_len (by rfl) T.len PySem.boot_len (pa_cons (pv 0) pa_nil)) (nomark _)) (pss_one (ps_ret (pe_callTy cr_int (by rfl) T.int (by decide +kernel) (pa_cons (pe_ix ix_seq (pv 0) (pv 1) (fun _ _ => rfl)) pa_nil)))) pss_nil)
      (pss_one (ps_ret pe_int))), ?_⟩
  have sE : ∀ {H : Hp}, Same (fun _ => none) H := fun _ _ z => nomatch z
  refine s_if (G := fun _ => none) (gt_test (gdo (gd_var (i := 1) rfl (.int (k : Int))) (gd_lenS (K := K) (j := 0) rfl hs) go_ltN)) sE (fun c H2 s2 => ?_) fun c H2 s2 => ?_
  · have hk := of_decide_eq_true c
    rw [List.length_map] at hk
    refine s_ret (K := K) (gd_cb (ga_cons (gd_ixS (K := K) (j := 0) (c := ns[k]) rfl (s2.seq hs) (gd_var (i := 1) rfl (.int (k : Int))) (atI_nat (by rw [List.getElem?_map, List.getElem?_eq_getElem hk]; rfl))) ga_nil) gc_int) sE fun v G3 H3 p3 dv => ?_
    have e := Dv.int_inv dv
    subst e
    exact q _ H3 (s2.trans p3.hh)
  · unfold tNext
    dsimp only
    refine s_ret (K := K) (gd_int (i := 0)) sE fun v G3 H3 p3 dv => ?_
    have e := Dv.int_inv dv
    subst e
    exact q _ H3 (s2.trans p3.hh)
/-- _law_cell(script, k) -/
theorem e_cell {Q : VK} {s : Addr} {ns : List Int} {k : Nat} {G : Hp} (sG : Same G H) (h : σ[j]? = some (some (.ref s))) (e : SqL K H s (ns.map V.int)) (g : GD K te σ G H (ofN k)) (q : ∀ (c : Int) G2 H2, Pub G H G2 H2 → Q (.int c) H2) : tCall (spLc K) [] E0 (tCons (tVar j) (tCons te tNil)) σ H Q :=
  ⟨.ref s, h, g.to (.refl sG) fun v G2 H2 p2 dv => by
    have ev := Dv.int_inv dv
    subst ev
    exact ⟨s, ns, k, rfl, p2.hh.seq e, fun c H3 s3 => q c G2 H3 (p2.trans (.idle p2.gh s3))⟩⟩
end
end LW
end
section
set_option Elab.async false
set_option linter.all false
set_option maxRecDepth 100000
set_option maxHeartbeats 1000000
namespace LW
open PySem PySem.Spec PyProof.Rows L2 DL LM
section
variable {P : Program} {W : World} {K : PySem.W.Frag} {mg : Str → Option Value} {base : Heap} {f : Addr} {fd : FuncData} {A A2 H H' H0 H1 H2 G G2 Hc : Hp} {σ : L2.St} {t te td tn tv ti to t1 t2 : TE} {tr : TS} {ts : TS} {tt : TT} {D : Ends} {tA : TA} {n i j : Nat} {p b a : Addr} {xs ys : List V} {v w : V} {d : PyData} {ds es : List PyData}
open Tst Tb
theorem gd_div {c m : Int} (g : GD K te σ H A (.int c)) (h : 0 < m ∧ m < 1073741824) : GD K (tOp (rI CDiv fun i j => .int (i / j)) te (tC (.int m))) σ H A (.int (c / m)) := gdo g gd_int (go_ic h)
def arLm : Int → List PyData := fun d => [.int d]
def fLm (d : Int) : PyData := pairsD (lawMk d)
abbrev s_law_marks : Stmt := topS 30
theorem sc_law_marks : FnScope ["draw", "values", "marks"] ["draw"] (defScope s_law_marks) := ⟨rfl, rfl, rfl, by decide +kernel, rfl, by decide +kernel, by decide +kernel⟩
theorem ok_lmarks (T : Bx mg) (F : Fun K "_law_marks" "_law_marks" s_law_marks f fd) : FnOk P W K mg base CX0 1 f fd ["draw"] (spA K 1 arLm (fun _ => True) fLm) := by
  refine fn_A F sc_law_marks rfl fun cdv A outer s H1 E hr => ⟨_, (pss_cons (ps_set (i := 1) sc_law_marks.nd rfl (Or.inl rfl) (pe_lst (pa_cons pe_str (pa_cons pe_str (pa_cons pe_str pa_nil)))))
      (pss_cons (ps_set (i := 2) sc_law_marks.nd rfl (Or.inl rfl) (pe_lst pa_nil))
      (pss_cons (ps_if (pt_cmpR op_gt (pe_op op_mod (pe_callTy cr_int (by rfl) T.int (by decide +kernel) (pa_cons (pv 0) pa_nil)) pe_int) pe_int (nomark _)) (pss_one (ps_expr (pe_bm PySem.F.plainAttrs_list PySem.F.slot_list_append PySem.F.type_list_append mt_append (pv 2) (pa_cons (RR.pe_tupF (pa_cons pe_str (pa_cons (pe_ix ix_seq (pv 1) (pe_op op_mod (pe_op op_fdiv (pe_callTy cr_int (by rfl) T.int (by decide +kernel) (pa_cons (pv 0) pa_nil)) pe_int) pe_int) (fun _ _ => rfl)) pa_nil))) pa_nil)))) pss_nil)
      (pss_cons (ps_if (pt_cmpR (op_eqA hr.units) (pe_op op_mod (pe_op op_fdiv (pe_callTy cr_int (by rfl) T.int (by decide +kernel) (pa_cons (pv 0) pa_nil)) pe_int) pe_int) pe_int (nomark _)) (pss_one (ps_expr (pe_bm PySem.F.plainAttrs_list PySem.F.slot_list_append PySem.F.type_list_append mt_append (pv 2) (pa_cons (RR.pe_tupF (pa_cons pe_str (pa_cons (pe_ix ix_seq (pv 1) (pe_op op_mod (pe_op op_fdiv (pe_callTy cr_int (by rfl) T.int (by decide +kernel) (pa_cons (pv 0) pa_nil)) pe_int) pe_int) (fun _ _ => rfl)) pa_nil))) pa_nil)))) pss_nil)
      (pss_one (ps_ret (pe_callTy RR.cr_tupF (by rfl) T.tuple (by decide +kernel) (pa_cons (pv 2) pa_nil)))))))), fun vs c H A hl sm dv hp => ?_⟩
  obtain ⟨v, rfl, d1⟩ := DvA.inv1 dv
  intro H0 H1 e D q
  have ev := Dv.int_inv d1
  subst ev
  refine s_set (K := K) (d := .list (VAL3.map .str)) (gd_lst (ga_cons gd_str (ga_cons gd_str (ga_cons gd_str ga_nil)))) e.gh fun v1 G1 H2 P1 dv1 => ?_
  refine ⟨Nat.zero_le _, fun p hp => ?_⟩
  dsimp only [gName]
  have w0 := Own.new P1 hp (.lst [])
  have m3 : ∀ i : Int, 0 ≤ i % 3 ∧ i % 3 < 3 := fun i => by omega
  have gint : ∀ {H' : Hp} {G' : Hp}, GD K (tCB rInt (tCons (tVar 0) tNil)) [some (.int c), some v1, some (.ref p)] G' H' (.int c) := gd_cb (ga_cons (gd_var (i := 0) rfl (.int c)) ga_nil) gc_int
  refine s_mid (fun σ' H' => ∃ (xs : List V) (G' : Hp), σ' = [some (.int c), some v1, some (.ref p)] ∧ Own H0 H1 G' H' p (.lst xs) ∧ Same G1 G' ∧ DvA K G' xs ((if 0 < c % 3 then [(("m" : Str), sAt VAL3 (c / 3 % 3))] else []).map mpairD) ∧ xs.length ≤ 1) ?_ fun rest => ?_
  · rintro σ' H3 ⟨xs, G3, rfl, w3, s3, da3, hx⟩
    refine s_mid (fun σ' H' => ∃ (xs : List V) (G' : Hp), σ' = [some (.int c), some v1, some (.ref p)] ∧ Own H0 H1 G' H' p (.lst xs) ∧ DvA K G' xs ((lawMk c).map mpairD)) ?_ fun rest => ?_
    · rintro σ' H4 ⟨ys, G4, rfl, w4, da4⟩
      have g := gd_cb (K := K) (A := H4) (ga_cons (gd_var (σ := [some (.int c), some v1, some (.ref p)]) (i := 2) rfl (w4.dv da4)) ga_nil) gc_tupL
      exact g.to (.refl w4.open_.gh) fun y G5 H5 P5 dy => q (pairsD (lawMk c)) y _ _ rfl (w4.open_.trans P5) dy
    · refine s_if (gt_test (gdo (K := K) (gd_mod (gd_div gint (by decide)) (by decide)) gd_int go_eqI)) w3.gh (fun c2 H4 s4 => ?_) fun c2 H4 s4 => ?_
      · have w4 := w3.test s4
        refine s_append (K := K) (d := mpairD ("n", sAt VAL3 (c / 27 % 3))) w4 rfl (gd_tup (ga_cons gd_str (ga_cons (gd_pickS (l := VAL3) (gd_var (i := 1) rfl (dv1.to s3)) (gd_mod (gd_div gint (by decide)) (by decide)) (m3 _).1 (m3 _).2) ga_nil))) (by rw [sizeLine_eq]; omega) fun v8 G8 H8 w8 s8 dv8 => ?_
        refine rest _ _ ⟨_, G8, rfl, w8, ?_⟩
        unfold lawMk
        rw [if_pos (of_decide_eq_true c2), List.map_append]
        exact DvA.app (da3.to s8) (.cons dv8 .nil)
      · refine rest _ _ ⟨_, G3, rfl, w3.test s4, ?_⟩
        unfold lawMk
        rw [if_neg (of_decide_eq_false c2), List.append_nil]
        exact da3
  · refine s_if (gt_test (gdo (K := K) (gd_mod gint (by decide)) gd_int (go_b2 (f := fun i j => decide (j < i))))) w0.gh (fun c2 H4 s4 => ?_) fun c2 H4 s4 => ?_
    · have w4 := w0.test s4
      refine s_append (K := K) (d := mpairD ("m", sAt VAL3 (c / 3 % 3))) w4 rfl (gd_tup (ga_cons gd_str (ga_cons (gd_pickS (l := VAL3) (gd_var (i := 1) rfl dv1) (gd_mod (gd_div gint (by decide)) (by decide)) (m3 _).1 (m3 _).2) ga_nil))) (by rw [sizeLine_eq]; decide) fun v8 G8 H8 w8 s8 dv8 => ?_
      refine rest _ _ ⟨_, G8, rfl, w8, s8, ?_, Nat.le_refl _⟩
      rw [if_pos (of_decide_eq_true c2)]
      exact .cons dv8 .nil
    · refine rest _ _ ⟨_, G1, rfl, w0.test s4, .refl _, ?_, Nat.zero_le _⟩
      rw [if_neg (of_decide_eq_false c2)]
      exact .nil
def rowV (k : Nat) (q : Nq) (mt : V) (c : Addr) : List V := [.str (if q.txt then "t" else "e"), .int (k : Int), .str q.name, mt, .ref c]
def spNo (K : PySem.W.Frag) : Sp := fun vs H Q _ => ∃ (G : Hp) (n : Nat) (ds : List Int) (v : V), vs = [.int (n : Int), v] ∧ Same G H ∧ Dv K G v (intsD ds) ∧ 6 ≤ ds.length ∧
  ∀ p c mt G' H', Own G H G' H' p (.lst (rowV n (lawNq ds) mt c)) → Own G H G' H' c (.lst []) → p ≠ c → Dv K G' mt (pairsD (lawNq ds).marks) → Q (.ref p) H'
abbrev s_law_node : Stmt := topS 31
theorem sc_law_node : FnScope ["number", "draws"] ["number", "draws"] (defScope s_law_node) := ⟨rfl, rfl, rfl, by decide +kernel, rfl, by decide +kernel, by decide +kernel⟩
theorem ok_lnode (T : Bx mg) (F : Fun K "_law_node" "_law_node" s_law_node f fd) (c_law_marks : Cal P W K mg base 1 "_law_marks" (spA K 1 arLm (fun _ => True) fLm)) : FnOk P W K mg base CX0 2 f fd ["number", "draws"] (spNo K) := by
  refine F.ok sc_law_node (fun vs H Q E h => ?_) (fun cdv A outer s H vs Q E hr h => ?_)
  · obtain ⟨_, _, _, _, rfl, _⟩ := h
    rfl
  obtain ⟨G, n, ds, v, rfl, sG, d1, hl, q⟩ := h
  refine ⟨_, (pss_cons (ps_if (pt_cmpR (op_eqA hr.units) (pe_op op_mod (pe_callTy cr_int (by rfl) T.int (by decide +kernel) (pa_cons (pe_ix ix_seq (pv 1) pe_int (fun _ _ => rfl)) pa_nil)) pe_int) pe_int (nomark _)) (pss_one (ps_ret (pe_lst (pa_cons pe_str (pa_cons (pv 0) (pa_cons (pe_ix ix_seq (pe_lst (pa_cons pe_str (pa_cons pe_str (pa_cons pe_str (pa_cons pe_str pa_nil))))) (pe_op op_mod (pe_callTy cr_int (by rfl) T.int (by decide +kernel) (pa_cons (pe_ix ix_seq (pv 1) pe_int (fun _ _ => rfl)) pa_nil)) pe_int) (fun _ _ => rfl)) (pa_cons (RR.pe_tupF pa_nil) (pa_cons (pe_lst pa_nil) pa_nil)))))))) pss_nil)
      (pss_one (ps_ret (pe_lst (pa_cons pe_str (pa_cons (pv 0) (pa_cons (pe_ix ix_seq pe_str (pe_op op_mod (pe_callTy cr_int (by rfl) T.int (by decide +kernel) (pa_cons (pe_ix ix_seq (pv 1) pe_int (fun _ _ => rfl)) pa_nil)) pe_int) (fun _ _ => rfl)) (pa_cons (pe_k c_law_marks hr (by omega) (pa_cons (pe_ix ix_seq (pv 1) pe_int (fun _ _ => rfl)) pa_nil)) (pa_cons (pe_lst pa_nil) pa_nil))))))))), ?_⟩
  have m4 : ∀ i : Int, 0 ≤ i % 4 ∧ i % 4 < 4 := fun i => by omega
  have m3 : ∀ i : Int, 0 ≤ i % 3 ∧ i % 3 < 3 := fun i => by omega
  have fin : ∀ {vn vt : V} {nm : Str} {tg : Str} {G2 H2 : Hp}, vn = .str nm → Pub G H G2 H2 → Dv K G2 vt (pairsD (lawNq ds).marks) → (if (lawNq ds).txt then "t" else "e" : Str) = tg → nm = (lawNq ds).name → ∀ c, H2 c = none → ∀ p, upd H2 c (.lst []) p = none → Q (.ref p) (upd (upd H2 c (.lst [])) p (.lst [.str tg, .int (n : Int), vn, vt, .ref c])) := fun {vn vt nm tg G2 H2} e1 P2 dt e2 e3 c hc p hp => by
    have wc := Own.new P2 hc (.lst [])
    have wp := Own.new wc.pub hp (.lst [.str tg, .int (n : Int), vn, vt, .ref c])
    have hpc : p ≠ c := fun z => by rw [z, upd_same] at hp; cases hp
    refine q p c vt G2 _ ?_ (LW.Own.stay wc wp (Ne.symm hpc)) hpc dt
    unfold rowV
    rw [e2, ← e3, ← e1]
    exact wp
  refine s_ifr (K := K) (gt_test (gdo (gd_mod (gd_drawI 0 (j := 1) rfl d1 (by omega)) (by decide)) gd_int go_eqI)) sG (fun c H2 s2 => ?_) fun c H2 s2 => ?_
  · have en : lawNq ds = ⟨true, sAt ["x", "y", "", "x y"] (dAt ds 1 % 4), [], []⟩ := by unfold lawNq; rw [if_pos (of_decide_eq_true c)]
    have P2 : Pub G H G H2 := .idle sG s2
    refine ⟨.int (n : Int), rfl, (gd_pickS (K := K) (l := ["x", "y", "", "x y"]) (gd_lst (ga_cons gd_str (ga_cons gd_str (ga_cons gd_str (ga_cons gd_str ga_nil))))) (gd_mod (gd_drawI 1 (j := 1) rfl d1 (by omega)) (by decide)) (m4 _).1 (m4 _).2).to (.refl P2.gh) fun vn G3 H3 P3 dn => ?_⟩
    refine (gd_tup (K := K) (ds := []) ga_nil).to (.refl P3.gh) fun vt G4 H4 P4 dt => ?_
    refine ⟨Nat.zero_le _, fun c hc => ⟨by show 5 ≤ sizeLine; rw [sizeLine_eq]; decide, fun p hp => ?_⟩⟩
    exact fin (Dv.str_inv dn) (P2.trans (P3.trans P4)) (by rw [en]; exact dt) (by rw [en]; rfl) (by rw [en]) c hc p hp
  · have en : lawNq ds = ⟨false, sAt ["a", "b", "c"] (dAt ds 1 % 3), lawMk (dAt ds 2), []⟩ := by unfold lawNq; rw [if_neg (of_decide_eq_false c)]
    have P2 : Pub G H G H2 := .idle sG s2
    refine ⟨.int (n : Int), rfl, (gd_sgn (K := K) (l := ["a", "b", "c"]) (by decide +kernel) (by decide +kernel) (gd_mod (gd_drawI 1 (j := 1) rfl d1 (by omega)) (by decide)) (m3 _).1 (m3 _).2).to (.refl P2.gh) fun vn G3 H3 P3 dn => ?_⟩
    refine (gd_callA (K := K) (ar := arLm) (f := fLm) (Pre := fun _ => True) (n := 1) (dAt ds 2) (ga_cons (gd_draw 2 (j := 1) rfl (d1.to P3.hg) (by omega)) ga_nil) rfl trivial).to (.refl P3.gh) fun vt G4 H4 P4 dt => ?_
    refine ⟨Nat.zero_le _, fun c hc => ⟨by show 5 ≤ sizeLine; rw [sizeLine_eq]; decide, fun p hp => ?_⟩⟩
    exact fin (Dv.str_inv dn) (P2.trans (P3.trans P4)) (by rw [en]; exact dt) (by rw [en]; rfl) (by rw [en]) c hc p hp
end
end LW
end
section
set_option Elab.async false
set_option linter.all false
set_option maxRecDepth 100000
set_option maxHeartbeats 1000000
namespace LW
open PySem PySem.Spec PyProof.Rows L2 DL LM
def rIns : V → List V → Hp → VK → Prop := fun x vs H Q => ∃ (l : Addr) (xs : List V) (i : Int) (y : V), x = .ref l ∧ vs = [.int i, y] ∧ H l = some (.lst xs) ∧ xs.length < sizeLine ∧ 0 ≤ i ∧ i < 2 ^ 63 ∧ Q .non (upd H l (.lst (xs.take i.toNat ++ [y] ++ xs.drop i.toNat)))
theorem mt_insR {X : Cx} : MtR X "list.insert" rIns := mt_insert
def rMin2 : List V → Hp → VK → Prop := fun xs H Q => ∃ i j : Int, xs = [.int i, .int j] ∧ Q (.int (if j < i then j else i)) H
theorem cr_min2 {X : Cx} (hc : X.calm = true) : CallR X (.builtin "min") rMin2 := call_min2 hc
section
variable {P : Program} {W : World} {K : PySem.W.Frag} {mg : Str → Option Value} {base : Heap} {f : Addr} {fd : FuncData} {A A2 H H' H0 H1 H2 G G2 Hc : Hp} {σ : L2.St} {t te td tn tv ti to t1 t2 : TE} {tr : TS} {ts : TS} {tt : TT} {D : Ends} {tA : TA} {n i j : Nat} {p b a pn pp : Addr} {xs ys : List V} {v w : V} {d : PyData} {ds es : List PyData}
open Tst Tb
theorem gc_min2 {i j : Int} : GC K rMin2 [.int i, .int j] (.int (if j < i then j else i)) := fun H H1 G H2 vs Q p dv q => by
  obtain ⟨v, w, rfl, d1, d2⟩ := DvA.inv2 dv
  have e1 := Dv.int_inv d1
  have e2 := Dv.int_inv d2
  subst e1 e2
  exact ⟨i, j, rfl, q _ G H2 p (.int _)⟩
/-- an item of a list whose object is known -/
theorem gv_ixQ {i : Int} (g : GV te σ H A (.ref p)) (e : A p = some (.lst xs)) (gn : GD K tn σ H A (.int i)) (hi : atI xs i = some w) : GV (tOp (rIx K) te tn) σ H A w := fun H0 H1 q Q k => g.to q fun G2 H2 q2 => gn.to (q.trans q2) fun u G3 H3 q3 du => .inl ⟨p, xs, i, w, rfl, Dv.int_inv du, SqL.of (q3.hh _ _ (q2.hh _ _ (q.hh _ _ e))), hi, k G3 H3 (q2.trans q3)⟩
theorem gd_lenV (g : GV te σ H A (.ref p)) (e : A p = some (.lst xs)) : GD K (tCB (DL.rLen K) (tCons te tNil)) σ H A (ofN xs.length) := fun H0 H1 q Q k => g.to q fun G2 H2 q2 => ⟨.ref p, xs.length, rfl, .inl ⟨xs, SqL.of (q2.hh _ _ (q.hh _ _ e)), rfl⟩, k _ G2 H2 q2 (.int _)⟩
theorem s_insV {i : Nat} {y : Int} (w : Own H0 H1 G H p (.lst xs)) (g : GV to σ G H (.ref p)) (gi : GD K ti σ G H (ofN i)) (gv : GD K tn σ G H (.int y)) (z : xs.length < sizeLine) (hi : i < 1000000)
    (k : ∀ G' H', Pub G H G' H' → Own H0 H1 G' (upd H' p (.lst (xs.take i ++ [.int y] ++ xs.drop i))) p (.lst (xs.take i ++ [.int y] ++ xs.drop i)) → D.nx σ (upd H' p (.lst (xs.take i ++ [.int y] ++ xs.drop i)))) :
    tDrop (tBM K "list" rIns to (tCons ti (tCons tn tNil))) D σ H := g.to (.refl w.gh) fun G2 H2 P2 => ⟨.inl ⟨rfl, xs, SqL.of (P2.hh _ _ w.at_)⟩, gi.to P2 fun u G3 H3 P3 du => gv.to (P2.trans P3) fun v G4 H4 P4 dv => by
  have eu := Dv.int_inv du
  have ev := Dv.int_inv dv
  subst eu ev
  have P24 := P2.trans (P3.trans P4)
  have w4 := w.step P24
  refine ⟨p, xs, (i : Int), .int y, rfl, rfl, w4.at_, z, by omega, by omega, ?_⟩
  rw [Int.toNat_natCast]
  exact k G4 H4 P24 (w4.put _)⟩
/-- the law's nodes and parents while they are made -/
structure Nst (K : PySem.W.Frag) (H0 H1 G H : Hp) (pn pp : Addr) (na ka : Nat → Addr) (mv : Nat → V) (ns : List Nq) (ps : List (Option Nat)) : Prop where
  wn : Own H0 H1 G H pn (.lst ((List.range ns.length).map fun k => V.ref (na k)))
  wp : Own H0 H1 G H pp (.lst (ps.map upV))
  wd : ∀ k, k < ns.length → Own H0 H1 G H (na k) (.lst (rowV k (nq ns k) (mv k) (ka k)))
  wk : ∀ k, k < ns.length → Own H0 H1 G H (ka k) (.lst ((nq ns k).kids.map fun (c : Nat) => V.int (c : Int)))
  mk_ : ∀ k, k < ns.length → Dv K G (mv k) (pairsD (nq ns k).marks)
  d1 : pn ≠ pp
  d2 : ∀ k, k < ns.length → na k ≠ pn ∧ na k ≠ pp ∧ ka k ≠ pn ∧ ka k ≠ pp
  d3 : ∀ j k, j < ns.length → k < ns.length → ka j ≠ na k ∧ (j ≠ k → ka j ≠ ka k)
namespace Nst
variable {na ka : Nat → Addr} {mv : Nat → V} {ns : List Nq} {ps : List (Option Nat)}
theorem step (z : Nst K H0 H1 G H pn pp na ka mv ns ps) (P : Pub G H G2 H2) : Nst K H0 H1 G2 H2 pn pp na ka mv ns ps :=
  ⟨z.wn.step P, z.wp.step P, fun k h => (z.wd k h).step P, fun k h => (z.wk k h).step P, fun k h => (z.mk_ k h).to P.hg, z.d1, z.d2, z.d3⟩
theorem gh (z : Nst K H0 H1 G H pn pp na ka mv ns ps) : Same G H := z.wn.gh
theorem glen (z : Nst K H0 H1 G H pn pp na ka mv ns ps) (h : σ[j]? = some (some (.ref pn))) : GD K (tCB (DL.rLen K) (tCons (tVar j) tNil)) σ G H (ofN ns.length) := by
  have x := gd_lenV (K := K) (σ := σ) (H := G) (gv_var h) z.wn.at_
  rw [List.length_map, List.length_range] at x
  exact x
theorem row (z : Nst K H0 H1 G H pn pp na ka mv ns ps) {k : Nat} (hk : k < ns.length) (h : σ[j]? = some (some (.ref pn))) (gn : GD K tn σ G2 H2 (ofN k)) (s : Same H H2) : GV (tOp (rIx K) (tVar j) tn) σ G2 H2 (.ref (na k)) :=
  gv_ixQ (gv_var h) (s _ _ z.wn.at_) gn (atI_nat (j := k) (by rw [List.getElem?_map, List.getElem?_range hk]; rfl))
theorem isE (z : Nst K H0 H1 G H pn pp na ka mv ns ps) {k : Nat} (hk : k < ns.length) (h : σ[j]? = some (some (.ref pn))) (gn : GD K tn σ G2 H2 (ofN k)) (s : Same H H2) : GT (tTest (tOp (rEqA K) (tOp (rIx K) (tOp (rIx K) (tVar j) tn) (tC (.int 0))) (tC (.str "e")))) σ G2 H2 (!(nq ns k).txt) := by
  have x := gt_test (gdo (K := K) ((gv_ixQ (K := K) (z.row hk h gn s) (s _ _ (z.wd k hk).at_) gd_int (atI_nat (j := 0) rfl)).gd (.str _)) (gd_str (i := "e")) go_eqS)
  have e : decide ((if (nq ns k).txt then "t" else "e" : Str) = "e") = !(nq ns k).txt := by cases (nq ns k).txt <;> decide +kernel
  rw [e] at x
  exact x
theorem kidsV (z : Nst K H0 H1 G H pn pp na ka mv ns ps) {k : Nat} (hk : k < ns.length) (h : σ[j]? = some (some (.ref pn))) (gn : GD K tn σ G H (ofN k)) : GV (tOp (rIx K) (tOp (rIx K) (tVar j) tn) (tC (.int 4))) σ G H (.ref (ka k)) :=
  gv_ixQ (K := K) (z.row hk h gn (.refl _)) (z.wd k hk).at_ gd_int (atI_nat (j := 4) rfl)
/-- a child put in -/
theorem ins (z : Nst K H0 H1 G H pn pp na ka mv ns ps) {q m : Nat} (hq : q < ns.length) (w : Own H0 H1 G (upd H (ka q) (.lst ((insAt (nq ns q).kids m ns.length).map fun (c : Nat) => V.int (c : Int)))) (ka q) (.lst ((insAt (nq ns q).kids m ns.length).map fun (c : Nat) => V.int (c : Int)))) :
    Nst K H0 H1 G (upd H (ka q) (.lst ((insAt (nq ns q).kids m ns.length).map fun (c : Nat) => V.int (c : Int)))) pn pp na ka mv (putK1 ns q m) ps := by
  have hl : (putK1 ns q m).length = ns.length := len_k1
  have hr : ∀ k, (nq (putK1 ns q m) k).txt = (nq ns k).txt ∧ (nq (putK1 ns q m) k).name = (nq ns k).name ∧ (nq (putK1 ns q m) k).marks = (nq ns k).marks := fun k => by
    rw [nq_k1 hq]
    split
    · rename_i e; rw [e]; exact ⟨rfl, rfl, rfl⟩
    · exact ⟨rfl, rfl, rfl⟩
  have d := z.d2 q hq
  refine ⟨by rw [hl]; exact LW.Own.stay z.wn w (Ne.symm d.2.2.1), LW.Own.stay z.wp w (Ne.symm d.2.2.2), fun k h => ?_, fun k h => ?_, fun k h => ?_, z.d1, by rw [hl]; exact z.d2, by rw [hl]; exact z.d3⟩
  · rw [hl] at h
    have x := LW.Own.stay (z.wd k h) w (Ne.symm (z.d3 q k hq h).1)
    unfold rowV at x ⊢
    rw [(hr k).1, (hr k).2.1]
    exact x
  · rw [hl] at h
    rw [nq_k1 hq]
    by_cases e : k = q
    · subst e
      rw [if_pos rfl]
      exact w
    · rw [if_neg e]
      exact LW.Own.stay (z.wk k h) w (Ne.symm ((z.d3 q k hq h).2 (Ne.symm e)))
  · rw [hl] at h
    rw [(hr k).2.2]
    exact z.mk_ k h
/-- a row put behind -/
theorem app (z : Nst K H0 H1 G H pn pp na ka mv ns ps) {r c : Addr} {mt : V} {q : Nq} (wr : Own G H G2 H2 r (.lst (rowV ns.length q mt c))) (wc : Own G H G2 H2 c (.lst [])) (hrc : r ≠ c) (hq : q.kids = []) (dm : Dv K G2 mt (pairsD q.marks))
    (w : Own H0 H1 G2 (upd H2 pn (.lst (((List.range ns.length).map fun k => V.ref (na k)) ++ [.ref r]))) pn (.lst (((List.range ns.length).map fun k => V.ref (na k)) ++ [.ref r]))) :
    Nst K H0 H1 G2 (upd H2 pn (.lst (((List.range ns.length).map fun k => V.ref (na k)) ++ [.ref r]))) pn pp (fun k => if k = ns.length then r else na k) (fun k => if k = ns.length then c else ka k) (fun k => if k = ns.length then mt else mv k) (ns ++ [q]) ps := by
  have P := wr.pub
  have hl : (ns ++ [q]).length = ns.length + 1 := by rw [List.length_append]; rfl
  have new : ∀ {x y : Addr} {o : HO}, H x = none → H y = some o → x ≠ y := fun h1 h2 e => by rw [e, h2] at h1; cases h1
  have wr1 := Own.up (Pub.trans z.wn.pub (Pub.refl z.gh)) wr
  have wc1 := Own.up (Pub.trans z.wn.pub (Pub.refl z.gh)) wc
  have e1 : ∀ {α : Type} (g : Nat → α) (x : α) {k : Nat}, k < ns.length → (if k = ns.length then x else g k) = g k := fun g x k h => if_neg (by omega)
  refine ⟨?_, LW.Own.stay (z.wp.step P) w (Ne.symm z.d1), fun k h => ?_, fun k h => ?_, fun k h => ?_, z.d1, fun k h => ?_, fun j k hj hk => ?_⟩
  · have el : (List.range (ns ++ [q]).length).map (fun k => V.ref (if k = ns.length then r else na k)) = ((List.range ns.length).map fun k => V.ref (na k)) ++ [.ref r] := by
      rw [hl, List.range_succ, List.map_append]
      congr 1
      · refine List.map_congr_left fun k hk => ?_
        rw [if_neg (by have := List.mem_range.mp hk; omega)]
      · show [V.ref (if ns.length = ns.length then r else _)] = _
        rw [if_pos rfl]
    rw [el]
    exact w
  · rw [hl] at h
    by_cases hk : k < ns.length
    · rw [e1 _ _ hk, e1 _ _ hk, e1 _ _ hk, nq_app hk]
      exact LW.Own.stay ((z.wd k hk).step P) w (z.d2 k hk).1
    · have ek : k = ns.length := by omega
      subst ek
      rw [if_pos rfl, if_pos rfl, if_pos rfl, nq_last]
      exact LW.Own.stay wr1 w (new wr.p1 z.wn.at_)
  · rw [hl] at h
    by_cases hk : k < ns.length
    · rw [e1 _ _ hk, nq_app hk]
      exact LW.Own.stay ((z.wk k hk).step P) w (z.d2 k hk).2.2.1
    · have ek : k = ns.length := by omega
      subst ek
      rw [if_pos rfl, nq_last, hq]
      exact LW.Own.stay wc1 w (new wc.p1 z.wn.at_)
  · rw [hl] at h
    by_cases hk : k < ns.length
    · rw [e1 _ _ hk, nq_app hk]
      exact (z.mk_ k hk).to P.hg
    · have ek : k = ns.length := by omega
      subst ek
      rw [if_pos rfl, nq_last]
      exact dm
  · rw [hl] at h
    by_cases hk : k < ns.length
    · rw [e1 _ _ hk, e1 _ _ hk]
      exact z.d2 k hk
    · have ek : k = ns.length := by omega
      subst ek
      rw [if_pos rfl, if_pos rfl]
      exact ⟨new wr.p1 z.wn.at_, new wr.p1 z.wp.at_, new wc.p1 z.wn.at_, new wc.p1 z.wp.at_⟩
  · rw [hl] at hj hk
    by_cases hj1 : j < ns.length
    · by_cases hk1 : k < ns.length
      · rw [e1 _ _ hk1, e1 _ _ hk1, e1 _ _ hj1]
        exact z.d3 j k hj1 hk1
      · have ek : k = ns.length := by omega
        subst ek
        rw [if_pos rfl, if_pos rfl, e1 _ _ hj1]
        exact ⟨Ne.symm (new wr.p1 (z.wk j hj1).at_), fun _ => Ne.symm (new wc.p1 (z.wk j hj1).at_)⟩
    · have ej : j = ns.length := by omega
      subst ej
      by_cases hk1 : k < ns.length
      · rw [e1 _ _ hk1, e1 _ _ hk1, if_pos rfl]
        exact ⟨new wc.p1 (z.wd k hk1).at_, fun _ => new wc.p1 (z.wk k hk1).at_⟩
      · have ek : k = ns.length := by omega
        subst ek
        rw [if_pos rfl, if_pos rfl]
        exact ⟨Ne.symm hrc, fun h => absurd rfl h⟩
theorem par (z : Nst K H0 H1 G H pn pp na ka mv ns ps) {o : Option Nat} (w : Own H0 H1 G (upd H pp (.lst ((ps ++ [o]).map upV))) pp (.lst ((ps ++ [o]).map upV))) : Nst K H0 H1 G (upd H pp (.lst ((ps ++ [o]).map upV))) pn pp na ka mv ns (ps ++ [o]) :=
  ⟨LW.Own.stay z.wn w z.d1, w, fun k h => LW.Own.stay (z.wd k h) w (z.d2 k h).2.1, fun k h => LW.Own.stay (z.wk k h) w (z.d2 k h).2.2.2, z.mk_, z.d1, z.d2, z.d3⟩
/-- all of it made public -/
theorem open_ (z : Nst K H0 H1 G H pn pp na ka mv ns ps) : ∃ G', Pub H0 H1 G' H ∧ Same G G' ∧ Dv K G' (.ref pn) (nodesD ns) ∧ Dv K G' (.ref pp) (upsD ps) := by
  classical
  let L : Addr → Prop := fun b => b = pn ∨ b = pp ∨ ∃ k, k < ns.length ∧ (b = na k ∨ b = ka k)
  have hL : ∀ b, L b → H1 b = none ∧ G b = none := fun b h => by
    rcases h with rfl | rfl | ⟨k, hk, rfl | rfl⟩
    · exact ⟨z.wn.p1, z.wn.pg⟩
    · exact ⟨z.wp.p1, z.wp.pg⟩
    · exact ⟨(z.wd k hk).p1, (z.wd k hk).pg⟩
    · exact ⟨(z.wk k hk).p1, (z.wk k hk).pg⟩
  let G' : Hp := fun b => if L b then H b else G b
  have hin : ∀ {b : Addr} {o : HO}, L b → H b = some o → G' b = some o := fun {b o} h e => by
    show (if L b then H b else G b) = _
    rw [if_pos h]; exact e
  have sG : Same G G' := fun b o e => by
    show (if L b then H b else G b) = _
    by_cases h : L b
    · rw [(hL b h).2] at e; cases e
    · rw [if_neg h]; exact e
  have P := z.wn.pub
  refine ⟨G', ⟨P.hg.trans sG, fun b o e => ?_, P.hh, fun b h0 h1 => ?_⟩, sG, ?_, ?_⟩
  · have e : (if L b then H b else G b) = some o := e
    by_cases h : L b
    · rw [if_pos h] at e; exact e
    · rw [if_neg h] at e; exact P.gh b o e
  · show (if L b then H b else G b) = none
    by_cases h : L b
    · exact absurd (hL b h).1 h1
    · rw [if_neg h]; exact P.pr b h0 h1
  · refine .lst (.inl (hin (.inl rfl) z.wn.at_)) ?_
    have key : ∀ l : List Nat, (∀ k ∈ l, k < ns.length) → DvA K G' (l.map fun k => V.ref (na k)) (l.map fun k => nodeD k (nq ns k)) := fun l hl => by
      induction l with
      | nil => exact .nil
      | cons k l ih =>
        have hk := hl k List.mem_cons_self
        refine .cons (.lst (.inl (hin (.inr (.inr ⟨k, hk, .inl rfl⟩)) (z.wd k hk).at_)) ?_) (ih fun x hx => hl x (List.mem_cons_of_mem _ hx))
        refine .cons (.str _) (.cons (.int _) (.cons (.str _) (.cons ((z.mk_ k hk).to sG) (.cons (.lst (.inl (hin (.inr (.inr ⟨k, hk, .inr rfl⟩)) (z.wk k hk).at_)) ?_) .nil))))
        have : ∀ m : List Nat, DvA K G' (m.map fun (c : Nat) => V.int (c : Int)) (m.map ofN) := fun m => by
          induction m with
          | nil => exact .nil
          | cons c m ih => exact .cons (.int _) ih
        exact this _
    exact key _ fun k hk => List.mem_range.mp hk
  · exact .lst (.inl (hin (.inr (.inl rfl)) z.wp.at_)) DvA.upv
end Nst
end
end LW
end
section
set_option Elab.async false
set_option linter.all false
set_option maxRecDepth 100000
set_option maxHeartbeats 2000000
namespace LW
open PySem PySem.Spec PyProof.Rows L2 DL LM
section
variable {P : Program} {W : World} {K : PySem.W.Frag} {mg : Str → Option Value} {base : Heap} {f : Addr} {fd : FuncData} {A A2 H H' H0 H1 H2 G G2 Hc : Hp} {σ : L2.St} {t te td tn tv ti t1 t2 : TE} {tl th : TO} {tr : TS} {ts : TS} {tt : TT} {D : Ends} {tA : TA} {n i j : Nat} {p b a pn pp : Addr} {xs ys : List V} {v w : V} {d : PyData} {ds es : List PyData}
open Tst Tb
def cutI (ns : List Int) (lo hi : Option Int) : List Int := (ns.drop (HT.sIx ns.length 0 lo)).take (HT.sIx ns.length ns.length hi - HT.sIx ns.length 0 lo)
theorem cutI_len {ns : List Int} {a m : Nat} : (cutI ns (some (a : Int)) (some ((a : Int) + (m : Int)))).length ≤ m := by
  unfold cutI
  rw [List.length_take, HT.sIx_nat]
  have e : HT.sIx ns.length ns.length (some ((a : Int) + (m : Int))) = min (a + m) ns.length := by
    have := HT.sIx_nat ns.length ns.length (a + m)
    rw [← this]
    rfl
  rw [e]
  omega
theorem gd_slS2 {lo hi : Option Int} {s : Addr} {ns : List Int} {i : Nat} (h : σ[i]? = some (some (.ref s))) (e : SqL K A s (ns.map V.int)) (gl : GP tl σ H A lo) (gh : GP th σ H A hi) : GD K (tSl (rSlL K) (tVar i) tl th) σ H A (.list ((cutI ns lo hi).map .int)) := fun H0 H1 p Q q => ⟨.ref s, h, gl H0 H1 p _ fun H2 p2 => gh H0 H2 (p.trans p2) _ fun H3 p3 => by
  have pp := p2.trans p3
  refine ⟨s, ns.map V.int, rfl, pp.hh.seq (p.hh.seq e), fun c hc => ?_⟩
  have ec : cutV (ns.map V.int) lo hi = (cutI ns lo hi).map V.int := by
    unfold cutV cutI
    rw [List.length_map, List.map_take, List.map_drop]
  rw [ec]
  exact q (.ref c) _ _ (pp.new hc _) (.lst (.inl upd_same) DvA.ints)⟩
theorem atI_neg {α : Type} {l : List α} {r : Nat} (h : r < l.length) : atI l (-1 - (r : Int)) = some (l[l.length - 1 - r]'(by omega)) := by
  have e : ixN l.length (-1 - (r : Int)) = some (l.length - 1 - r) := by
    unfold ixN
    rw [if_neg (by omega), if_pos (by omega)]
    congr 1
    omega
  unfold atI
  rw [e]
  show l[l.length - 1 - r]? = _
  rw [List.getElem?_eq_getElem]
def spLn (K : PySem.W.Frag) : Sp := fun vs H Q _ => ∃ (G : Hp) (s : Addr) (zs : List Int) (start many : Nat), vs = [.ref s, .int (start : Int), .int (many : Int)] ∧ Same G H ∧ SqL K H s (zs.map V.int) ∧ many ≤ 40 ∧
  ∀ ns ps v G' H', Gr ns ps → ns.length ≤ many + 1 → Pub G H G' H' → Dv K G' v (.tuple [nodesD ns, upsD ps]) → Q v H'
structure Bm (mg : Str → Option Value) : Prop extends Bx mg where
  min : mg "min" = none
abbrev s_law_nodes : Stmt := topS 32
theorem sc_law_nodes : FnScope ["script", "start", "many", "nodes", "parents", "cell", "draws", "inner", "parent", "k"] ["script", "start", "many"] (defScope s_law_nodes) := ⟨rfl, rfl, rfl, by decide +kernel, rfl, by decide +kernel, by decide +kernel⟩
theorem ok_lnodes (T : Bm mg) (F : Fun K "_law_nodes" "_law_nodes" s_law_nodes f fd) (c_law_marks : Cal P W K mg base 1 "_law_marks" (spA K 1 arLm (fun _ => True) fLm)) (c_law_draws : Cal P W K mg base 1 "_law_draws" (spD K 2 preDraws resDraws)) (c_law_node : Cal P W K mg base 2 "_law_node" (spNo K)) : FnOk P W K mg base CX0 3 f fd ["script", "start", "many"] (spLn K) := by
  refine F.ok sc_law_nodes (fun vs H Q E h => ?_) (fun cdv A outer s0 H vs Q E hr h => ?_)
  · obtain ⟨_, _, _, _, _, rfl, _⟩ := h
    rfl
  obtain ⟨G, s, zs, start, many, rfl, sG, hs, hmany, q⟩ := h
  refine ⟨_, (pss_cons (ps_set (i := 3) sc_law_nodes.nd rfl (Or.inr rfl) (pe_lst (pa_cons (pe_lst (pa_cons pe_str (pa_cons pe_int (pa_cons pe_str (pa_cons (pe_k c_law_marks hr (by omega) (pa_cons (pe_callB cr_len (by rfl) T.len PySem.boot_len (pa_cons (pv 0) pa_nil)) pa_nil)) (pa_cons (pe_lst pa_nil) pa_nil)))))) pa_nil)))
      (pss_cons (ps_set (i := 4) sc_law_nodes.nd rfl (Or.inl rfl) (pe_lst (pa_cons pe_non pa_nil)))
      (pss_cons (ps_for PassesOwn.never rfl (pi_seq (pe_slice sl_list (pv 0) (po_some (pv 1)) (po_some (pe_op op_addA (pv 1) (pv 2))))) (pg_name (i := 5) sc_law_nodes.nd rfl (Or.inl rfl)) (pss_cons (ps_set (i := 6) sc_law_nodes.nd rfl (Or.inl rfl) (pe_k c_law_draws hr (by omega) (pa_cons (pv 5) (pa_cons pe_int pa_nil))))
      (pss_cons (ps_setLc (i := 7) (own := [("k", 9)]) (by rfl) sc_law_nodes.nd rfl rfl (sw_true rfl rfl rfl (by decide +kernel)) (pi_range1 (by rfl) T.range (pa_cons (pe_callB cr_len (by rfl) T.len PySem.boot_len (pa_cons (pv 3) pa_nil)) pa_nil)) (blkOk_by (own := [("k", 9)]) (N := ["script", "start", "many", "nodes", "parents", "cell", "draws", "inner", "parent", "k"]) (sc := defScope s_law_nodes) (by decide +kernel)) (fun _ _ _ _ _ => (pg_name (i := 9) sc_law_nodes.nd rfl (Or.inl rfl))) (fun _ _ _ _ _ => (pts_one (pt_cmpR (op_eqK K hr.units) (pe_ix (ix_seqK K) (pe_ix (ix_seqK K) (pv 3) (pv 9) (fun _ _ => rfl)) pe_int (fun _ _ => rfl)) pe_str (nomark _)))) (fun _ _ _ _ _ => (pv 9)))
      (pss_cons (ps_set (i := 8) sc_law_nodes.nd rfl (Or.inl rfl) (pe_ifExp (pt_cmpR op_gt (pe_op op_mod (pe_ix ix_seq (pv 6) pe_int (fun _ _ => rfl)) pe_int) pe_int (nomark _)) (pe_ix ix_seq (pv 7) (pe_op op_mod (pe_ix ix_seq (pv 6) pe_int (fun _ _ => rfl)) (pe_callB cr_len (by rfl) T.len PySem.boot_len (pa_cons (pv 7) pa_nil))) (fun _ _ => rfl)) (pe_ix ix_seq (pv 7) (pe_op op_sub (pe_un un_neg pe_int) (pe_op op_mod (pe_ix ix_seq (pv 6) pe_int (fun _ _ => rfl)) (pe_callB (cr_min2 rfl) (by rfl) T.min (by decide +kernel) (pa_cons pe_int (pa_cons (pe_callB cr_len (by rfl) T.len PySem.boot_len (pa_cons (pv 7) pa_nil)) pa_nil))))) (fun _ _ => rfl))))
      (pss_cons (ps_expr (pe_bm PySem.F.plainAttrs_list PySem.F.slot_list_insert PySem.F.type_list_insert mt_insR (pe_ix ix_seq (pe_ix ix_seq (pv 3) (pv 8) (fun _ _ => rfl)) pe_int (fun _ _ => rfl)) (pa_cons (pe_op op_mod (pe_ix ix_seq (pv 6) pe_int (fun _ _ => rfl)) (pe_op op_addA (pe_callB cr_len (by rfl) T.len PySem.boot_len (pa_cons (pe_ix ix_seq (pe_ix ix_seq (pv 3) (pv 8) (fun _ _ => rfl)) pe_int (fun _ _ => rfl)) pa_nil)) pe_int)) (pa_cons (pe_callB cr_len (by rfl) T.len PySem.boot_len (pa_cons (pv 3) pa_nil)) pa_nil))))
      (pss_cons (ps_expr (pe_bm PySem.F.plainAttrs_list PySem.F.slot_list_append PySem.F.type_list_append mt_append (pv 3) (pa_cons (pe_k c_law_node hr (by omega) (pa_cons (pe_callB cr_len (by rfl) T.len PySem.boot_len (pa_cons (pv 3) pa_nil)) (pa_cons (pv 6) pa_nil))) pa_nil)))
      (pss_one (ps_expr (pe_bm PySem.F.plainAttrs_list PySem.F.slot_list_append PySem.F.type_list_append mt_append (pv 4) (pa_cons (pv 8) pa_nil))))))))))
      (pss_one (ps_ret (RR.pe_tupF (pa_cons (pv 3) (pa_cons (pv 4) pa_nil)))))))), ?_⟩
  refine (gd_callA (K := K) (ar := arLm) (f := fLm) (Pre := fun _ => True) (n := 1) (((zs.map V.int).length : Nat) : Int) (ga_cons (gd_lenS (j := 0) rfl hs) ga_nil) rfl trivial).to (.refl sG) fun mt G2 H2 P2 dm => ⟨Nat.zero_le _, fun c hc => ⟨by show 5 ≤ sizeLine; rw [sizeLine_eq]; decide, fun r hr' => ⟨by show 1 ≤ sizeLine; rw [sizeLine_eq]; decide, fun pn hpn => ?_⟩⟩⟩
  refine ⟨by show 1 ≤ sizeLine; rw [sizeLine_eq]; decide, fun pp hpp => ?_⟩
  dsimp only [gName] at hpp ⊢
  have wc := Own.new P2 hc (.lst [])
  have wr := Own.new wc.pub hr' (.lst [.str "e", .int 0, .str "a", mt, .ref c])
  have hrc : r ≠ c := fun z => by rw [z, upd_same] at hr'; cases hr'
  have wc := LW.Own.stay wc wr (Ne.symm hrc)
  have new : ∀ {x y : Addr} {o : HO} {Hx : Hp}, Hx x = none → Hx y = some o → x ≠ y := fun h1 h2 e => by rw [e, h2] at h1; cases h1
  have wn := Own.new wr.pub hpn (.lst [.ref r])
  have n1 := new hpn wr.at_
  have n2 := new hpn wc.at_
  have wr := LW.Own.stay wr wn (Ne.symm n1)
  have wc := LW.Own.stay wc wn (Ne.symm n2)
  have wp := Own.new wn.pub hpp (.lst [.non])
  have n3 := new hpp wn.at_
  have n4 := new hpp wr.at_
  have n5 := new hpp wc.at_
  have hmk := lawMk_ok (((zs.map V.int).length : Nat) : Int)
  obtain ⟨ms, hms⟩ : ∃ ms, ms = lawMk (((zs.map V.int).length : Nat) : Int) := ⟨_, rfl⟩
  have dm : Dv K G2 mt (pairsD (lawMk (((zs.map V.int).length : Nat) : Int))) := dm
  rw [← hms] at hmk dm
  have N0 : Nst K G H G2 _ pn pp (fun _ => r) (fun _ => c) (fun _ => mt) [⟨false, "a", ms, []⟩] [none] := {
    wn := LW.Own.stay wn wp (Ne.symm n3)
    wp := wp
    wd := fun k hk => by
      have e : k = 0 := by have : k < 1 := hk; omega
      subst e
      exact LW.Own.stay wr wp (Ne.symm n4)
    wk := fun k hk => by
      have e : k = 0 := by have : k < 1 := hk; omega
      subst e
      exact LW.Own.stay wc wp (Ne.symm n5)
    mk_ := fun k hk => by
      have e : k = 0 := by have : k < 1 := hk; omega
      subst e
      exact dm
    d1 := Ne.symm n3
    d2 := fun k hk => ⟨Ne.symm n1, Ne.symm n4, Ne.symm n2, Ne.symm n5⟩
    d3 := fun j k hj hk => ⟨Ne.symm hrc, fun h => absurd (by have : j < 1 := hj; have : k < 1 := hk; omega) h⟩ }
  have g0 := gr_one hmk (by rw [hms]; exact lawMk_sh _)
  obtain ⟨zz, hzz⟩ : ∃ zz, zz = cutI zs (some (start : Int)) (some ((start : Int) + (many : Int))) := ⟨_, rfl⟩
  have hzl : zz.length ≤ many := by rw [hzz]; exact cutI_len
  have hsx := N0.wn.pub.hh.seq hs
  have gsl := gd_slS2 (K := K) (H := G2) (σ := [some (.ref s), some (.int (start : Int)), some (.int (many : Int)), some (.ref pn), some (.ref pp), none, none, none, none, none]) (i := 0) rfl hsx (gp_some (K := K) (gd_var (i := 1) rfl (.int (start : Int)))) (gp_some (K := K) (gdo (gd_var (i := 1) rfl (.int (start : Int))) (gd_var (i := 2) rfl (.int (many : Int))) go_addI))
  rw [← hzz] at gsl
  refine for_run (gi_seqL gsl) (.refl N0.gh) fun B HB PB => ?_
  refine ⟨fun i σ' G' H' => ∃ (x5 x6 x7 x8 : Option V) (na ka : Nat → Addr) (mv : Nat → V) (ns : List Nq) (ps : List (Option Nat)), σ' = [some (.ref s), some (.int (start : Int)), some (.int (many : Int)), some (.ref pn), some (.ref pp), x5, x6, x7, x8, none] ∧ Nst K G H G' H' pn pp na ka mv ns ps ∧ Gr ns ps ∧ ns.length = i + 1 ∧ i ≤ zz.length ∧ Same B G',
    ⟨none, none, none, none, _, _, _, _, _, rfl, N0.step PB, g0, rfl, Nat.zero_le _, .refl _⟩, fun i σ' G' H' ⟨_, _, _, _, _, _, _, _, _, _, N, _, _, _, s⟩ => ⟨s, N.gh⟩, ?_, ?_⟩
  · rintro i dd σ' G4 H4 hdd ⟨x5, x6, x7, x8, na, ka, mv, ns, ps, rfl, N4, g, hlen, hiz, sB4⟩ z G5 H5 P5 dv5
    rw [List.getElem?_map] at hdd
    obtain ⟨cell, hcell, rfl⟩ := Option.map_eq_some_iff.mp hdd
    have hi : i < zz.length := (List.getElem?_eq_some_iff.mp hcell).1
    have ev := Dv.int_inv dv5
    subst ev
    have N5 := N4.step P5
    refine s_draws (K := K) (i := 6) (m := 6) (gd_var (i := 5) rfl dv5) N5.gh (by decide) fun dr v6 G6 H6 hdl hdb P6 dv6 => ?_
    have N6 := N5.step P6
    have hN : ns.length ≤ 41 := by omega
    obtain ⟨inn, hinn⟩ : ∃ inn, inn = (List.range ns.length).filter fun k => !(nq ns k).txt := ⟨_, rfl⟩
    have h0 : (nq ns 0).txt = false := by
      have := g.ok.top2
      rw [nds_at g.pos] at this
      exact this
    have hi0 : 0 ∈ inn := by rw [hinn]; exact List.mem_filter.mpr ⟨List.mem_range.mpr g.pos, by rw [h0]; rfl⟩
    have hil : 0 < inn.length := List.length_pos_of_mem hi0
    have hil2 : inn.length ≤ 41 := by
      have := List.length_filter_le (fun k => !(nq ns k).txt) (List.range ns.length)
      rw [List.length_range, ← hinn] at this
      omega
    have him : ∀ k ∈ inn, k < ns.length ∧ (nq ns k).txt = false := fun k hk => by
      rw [hinn] at hk
      obtain ⟨h1, h2⟩ := List.mem_filter.mp hk
      exact ⟨List.mem_range.mp h1, by simpa using h2⟩
    refine s_set (K := K) (d := natsD inn) (by
      have gr := gi_rng1 (K := K) (ga_cons (N6.glen (σ := [some (.ref s), some (.int (start : Int)), some (.int (many : Int)), some (.ref pn), some (.ref pp), some (.int cell), some v6, x7, x8, none]) (j := 3) rfl) ga_nil) (by omega) (by omega)
      rw [Int.toNat_natCast, upto_ofN] at gr
      rw [hinn]
      refine gd_lcIf (K := K) (k := 9) (em := ofN) (f := ofN) (xs := List.range ns.length) gr (by rw [List.length_range]; omega) (fun i k hk v' G' H' p0 dv' => N6.isE (List.mem_range.mp (List.mem_of_getElem? hk)) (j := 3) rfl (gd_var (i := 9) rfl dv') p0.hh) fun i k hk hp v' G' H' p0 dv' => gd_var (i := 9) rfl dv') N6.gh fun v7 G7 H7 P7 dv7 => ?_
    have N7 := N6.step P7
    have dv67 := dv6.to P7.hg
    have glen : ∀ {x8 : Option V}, GD K (tCB (DL.rLen K) (tCons (tVar 7) tNil)) [some (.ref s), some (.int (start : Int)), some (.int (many : Int)), some (.ref pn), some (.ref pp), some (.int cell), some v6, some v7, x8, none] G7 H7 (ofN inn.length) := fun {x8} => by
      have x := gd_cb (K := K) (A := H7) (ga_cons (gd_var (σ := [some (.ref s), some (.int (start : Int)), some (.int (many : Int)), some (.ref pn), some (.ref pp), some (.int cell), some v6, some v7, x8, none]) (i := 7) rfl dv7) ga_nil) gc_lenL
      rw [List.length_map] at x
      exact x
    obtain ⟨qn, hqm, gq⟩ : ∃ qn ∈ inn, GD K (tIf (tTest (tOp rGtI (tOp (rI (fun _ j => 0 < j) fun i j => .int (i % j)) (tOp (rIx K) (tVar 6) (tC (.int 4))) (tC (.int 3))) (tC (.int 0)))) (tOp (rIx K) (tVar 7) (tOp (rI (fun _ j => 0 < j) fun i j => .int (i % j)) (tOp (rIx K) (tVar 6) (tC (.int 3))) (tCB (DL.rLen K) (tCons (tVar 7) tNil)))) (tOp (rIx K) (tVar 7) (tOp (rI0 fun i j => .int (i - j)) (tUn (rU fun i => .int (-i)) (tC (.int 1))) (tOp (rI (fun _ j => 0 < j) fun i j => .int (i % j)) (tOp (rIx K) (tVar 6) (tC (.int 3))) (tCB rMin2 (tCons (tC (.int 3)) (tCons (tCB (DL.rLen K) (tCons (tVar 7) tNil)) tNil)))))))
        [some (.ref s), some (.int (start : Int)), some (.int (many : Int)), some (.ref pn), some (.ref pp), some (.int cell), some v6, some v7, x8, none] G7 H7 (ofN qn) := by
      have gt := gt_test (gdo (K := K) (A := H7) (gd_mod (gd_draw 4 (σ := [some (.ref s), some (.int (start : Int)), some (.int (many : Int)), some (.ref pn), some (.ref pp), some (.int cell), some v6, some v7, x8, none]) (j := 6) rfl dv67 (by omega)) (b := 3) (by decide)) (gd_int (i := 0)) (go_b2 (f := fun i j => decide (j < i))))
      by_cases hb : decide ((0 : Int) < dAt dr 4 % 3) = true
      · have b0 : 0 ≤ dAt dr 3 % (inn.length : Int) := Int.emod_nonneg _ (by omega)
        have b1 : dAt dr 3 % (inn.length : Int) < (inn.length : Int) := Int.emod_lt_of_pos _ (by omega)
        have hlt : (dAt dr 3 % (inn.length : Int)).toNat < inn.length := by omega
        refine ⟨inn[(dAt dr 3 % (inn.length : Int)).toNat], List.getElem_mem hlt, gd_if gt (fun _ => ?_) fun c => absurd hb (by rw [c]; exact Bool.false_ne_true)⟩
        exact gdo (gd_var (i := 7) rfl dv7) (gdo (gd_draw 3 (j := 6) rfl dv67 (by omega)) glen (go_ic (C := fun _ j => 0 < j) (f := fun i j => i % j) (by omega))) (go_ixL (qatI b0 (by rw [List.getElem?_map, List.getElem?_eq_getElem hlt]; rfl)))
      · obtain ⟨m, hm⟩ : ∃ m : Int, m = if (inn.length : Int) < 3 then (inn.length : Int) else 3 := ⟨_, rfl⟩
        have hm0 : 0 < m := by rw [hm]; split <;> omega
        have hm1 : m ≤ (inn.length : Int) := by rw [hm]; split <;> omega
        have b0 : 0 ≤ dAt dr 3 % m := Int.emod_nonneg _ (by omega)
        have b1 : dAt dr 3 % m < m := Int.emod_lt_of_pos _ hm0
        have hlt : (dAt dr 3 % m).toNat < inn.length := by omega
        refine ⟨inn[inn.length - 1 - (dAt dr 3 % m).toNat]'(by omega), List.getElem_mem _, gd_if gt (fun c => absurd c hb) fun _ => ?_⟩
        have gm := gd_cb (K := K) (A := H7) (ga_cons (gd_int (i := 3)) (ga_cons (glen (x8 := x8)) ga_nil)) gc_min2
        rw [← hm] at gm
        have e : (-1 : Int) - dAt dr 3 % m = -1 - (((dAt dr 3 % m).toNat : Nat) : Int) := by omega
        refine gdo (gd_var (i := 7) rfl dv7) (gdo gd_negQ (gdo (gd_draw 3 (j := 6) rfl dv67 (by omega)) gm (go_ic (C := fun _ j => 0 < j) (f := fun i j => i % j) hm0)) (go_i2 (f := fun i j => i - j))) (go_ixL ?_)
        rw [e]
        have x := atI_neg (l := inn.map ofN) (r := (dAt dr 3 % m).toNat) (by rw [List.length_map]; exact hlt)
        rw [x, List.getElem_map]
        congr 3
        rw [List.length_map]
    obtain ⟨hq, hqt⟩ := him qn hqm
    refine s_set (K := K) (d := ofN qn) gq N7.gh fun v8 G8 H8 P8 dv8 => ?_
    have ev := Dv.int_inv dv8
    subst ev
    have N8 := N7.step P8
    have dv68 := dv67.to P8.hg
    have hkl : (nq ns qn).kids.length ≤ 60 := g.kle hq
    have gqn : ∀ {G' H' : Hp} {x9 : Option V}, GD K (tVar 8) [some (.ref s), some (.int (start : Int)), some (.int (many : Int)), some (.ref pn), some (.ref pp), some (.int cell), some v6, some v7, some (.int (qn : Int)), x9] G' H' (ofN qn) := fun {G' H' x9} => gd_var (i := 8) rfl (.int (qn : Int))
    have gkids := N8.kidsV (K := K) (tn := tVar 8) (σ := [some (.ref s), some (.int (start : Int)), some (.int (many : Int)), some (.ref pn), some (.ref pp), some (.int cell), some v6, some v7, some (.int (qn : Int)), none]) hq (j := 3) rfl gqn
    have wkq := N8.wk qn hq
    have gkl := gd_lenV (K := K) gkids wkq.at_
    rw [List.length_map] at gkl
    have b0 : 0 ≤ dAt dr 5 % ((nq ns qn).kids.length + 1 : Int) := Int.emod_nonneg _ (by omega)
    have b1 : dAt dr 5 % ((nq ns qn).kids.length + 1 : Int) < (nq ns qn).kids.length + 1 := Int.emod_lt_of_pos _ (by omega)
    obtain ⟨m, hm⟩ : ∃ m : Nat, dAt dr 5 % ((nq ns qn).kids.length + 1 : Int) = (m : Int) := ⟨_, (Int.toNat_of_nonneg b0).symm⟩
    have gpos := gdo (K := K) (gd_draw 5 (σ := [some (.ref s), some (.int (start : Int)), some (.int (many : Int)), some (.ref pn), some (.ref pp), some (.int cell), some v6, some v7, some (.int (qn : Int)), none]) (H := G8) (A := H8) (j := 6) rfl dv68 (by omega)) (gdo gkl (gd_int (i := 1)) go_addI) (go_ic (C := fun _ j => 0 < j) (f := fun i j => i % j) (by omega))
    rw [hm] at gpos
    refine s_insV (K := K) (i := m) (y := (ns.length : Int)) wkq gkids gpos (N8.glen (j := 3) rfl) (by rw [List.length_map, sizeLine_eq]; omega) (by omega) fun G9 H9 P9 w9 => ?_
    have ex : ((nq ns qn).kids.map fun (c : Nat) => V.int (c : Int)).take m ++ [V.int (ns.length : Int)] ++ ((nq ns qn).kids.map fun (c : Nat) => V.int (c : Int)).drop m = (insAt (nq ns qn).kids m ns.length).map fun (c : Nat) => V.int (c : Int) := by
      unfold insAt
      rw [List.map_append, List.map_append, List.map_take, List.map_drop]; rfl
    rw [ex] at w9 ⊢
    have N9 := (N8.step P9).ins (m := m) hq w9
    have hl1 : (putK1 ns qn m).length = ns.length := len_k1
    dsimp only
    refine s_mid (fun σ' H' => ∃ (na' ka' : Nat → Addr) (mv' : Nat → V) (G' : Hp), σ' = [some (.ref s), some (.int (start : Int)), some (.int (many : Int)), some (.ref pn), some (.ref pp), some (.int cell), some v6, some v7, some (.int (qn : Int)), none] ∧ Nst K G H G' H' pn pp na' ka' mv' (putQ ns qn m (lawNq dr)) ps ∧ Same G9 G') ?_ fun rest => ?_
    · rintro σ' H10 ⟨na', ka', mv', G10, rfl, N10, s10⟩
      obtain ⟨lw1, lw2⟩ := lawNq_ok dr
      refine s_appendX (K := K) (d := ofN qn) N10.wp rfl gqn (by rw [List.length_map, g.pl, sizeLine_eq]; omega) fun y11 G11 H11 Hx P11 eH w11 dy11 => ?_
      have ey := Dv.int_inv dy11
      subst ey
      have ep : ps.map upV ++ [V.int (qn : Int)] = (ps ++ [some qn]).map upV := by rw [List.map_append]; rfl
      rw [ep] at eH w11
      subst eH
      exact ⟨G11, some (.int cell), some v6, some v7, some (.int (qn : Int)), na', ka', mv', putQ ns qn m (lawNq dr), ps ++ [some qn], rfl, (N10.step P11).par w11, g.put (by omega) hq hqt lw1 lw2 (lawNq_sh dr), by rw [len_q, hlen], by omega, sB4.trans (P5.hg.trans (P6.hg.trans (P7.hg.trans (P8.hg.trans (P9.hg.trans (s10.trans P11.hg))))))⟩
    · obtain ⟨lw1, lw2⟩ := lawNq_ok dr
      refine ⟨.ref pn, rfl, .inl ⟨rfl, _, SqL.of N9.wn.at_⟩, (N9.glen (K := K) (σ := [some (.ref s), some (.int (start : Int)), some (.int (many : Int)), some (.ref pn), some (.ref pp), some (.int cell), some v6, some v7, some (.int (qn : Int)), none]) (j := 3) rfl).to (.refl N9.gh) fun nv G10 H10 P10 dn => ?_⟩
      have en := Dv.int_inv dn
      subst en
      have N10 := N9.step P10
      refine ⟨v6, rfl, G10, (putK1 ns qn m).length, dr, v6, rfl, P10.gh, (dv68.to P9.hg).to P10.hg, by omega, fun r2 c2 mt2 G11 H11 wr2 wc2 hrc2 dmt => ?_⟩
      have N11 := N10.step wr2.pub
      refine ⟨pn, _, .ref r2, rfl, rfl, N11.wn.at_, by rw [List.length_map, List.length_range, hl1, sizeLine_eq]; omega, ?_⟩
      exact rest _ _ ⟨_, _, _, G11, rfl, N10.app wr2 wc2 hrc2 lw1 dmt (N11.wn.put _), P10.hg.trans wr2.pub.hg⟩
  · rintro σ' G' H' ⟨x5, x6, x7, x8, na, ka, mv, ns, ps, rfl, N, g, hlen, _, _⟩
    rw [List.length_map] at hlen
    obtain ⟨Gx, P, s', dn, dp⟩ := N.open_
    exact (gd_tup (K := K) (σ := [some (.ref s), some (.int (start : Int)), some (.int (many : Int)), some (.ref pn), some (.ref pp), x5, x6, x7, x8, none]) (ga_cons (gd_var (i := 3) rfl dn) (ga_cons (gd_var (i := 4) rfl dp) ga_nil))).to (.refl P.gh) fun y G3 H3 P3 dy => q ns ps y _ _ g (by omega) (P.trans P3) dy
end
end LW
end
section
set_option Elab.async false
set_option linter.all false
set_option maxRecDepth 100000
set_option maxHeartbeats 1000000
namespace LM
open PySem DL Tst Tb
/-! tests of the law's: each that has tests in it has some -/
mutual
def MnT : Tst → Prop
  | .leaf _ _ => True
  | .un _ t => MnT t
  | .many _ ts => ts ≠ [] ∧ MnTs ts
def MnTs : List Tst → Prop
  | [] => True
  | t :: ts => MnT t ∧ MnTs ts
end
theorem mnTs_iff : ∀ ts : List Tst, MnTs ts ↔ ∀ t ∈ ts, MnT t
  | [] => ⟨fun _ t h => (nomatch h), fun _ => (by unfold MnTs; trivial)⟩
  | t :: ts => by
    unfold MnTs
    rw [mnTs_iff ts]
    exact ⟨fun h x hx => (List.mem_cons.mp hx).elim (fun e => e ▸ h.1) (h.2 x), fun h => ⟨h t List.mem_cons_self, fun x hx => h x (List.mem_cons_of_mem _ hx)⟩⟩
theorem mn_kids {t : Tst} (h : MnT t) : ∀ s ∈ t.kids, MnT s := by
  cases t with
  | leaf w as => intro s hs; cases hs
  | un w t =>
    intro s hs
    rw [List.mem_singleton.mp hs]
    unfold MnT at h; exact h
  | many w ts =>
    unfold MnT at h
    exact (mnTs_iff ts).mp h.2
theorem ne_of {t : Tst} (wf : WF t) (m : MnT t) : NE t := fun s hs hk => by
  have h := all_sub (p := fun s => WF s ∧ MnT s) (fun t ht s hs => ⟨wf_kids ht.1 s hs, mn_kids ht.2 s hs⟩) t ⟨wf, m⟩ s hs
  obtain ⟨h1, h2⟩ := h
  cases s with
  | leaf w as =>
    unfold WF at h1
    rw [toD_leaf] at hk
    have hk : lawKind w = 4 := hk
    omega
  | un w t =>
    unfold WF at h1
    rw [toD_un] at hk
    have hk : lawKind w = 4 := hk
    omega
  | many w ts =>
    unfold MnT at h2
    exact h2.1
theorem mn_own (ds : List Int) : MnT (ownT ds) := by
  obtain ⟨w, as, e⟩ := own_leaf ds
  rw [e]
  unfold MnT
  trivial
theorem mn_lawT : ∀ (n : Nat) (ds : List Int) (b : Bool), MnT (lawT n ds b)
  | 0, ds, _ => mn_own ds
  | n + 1, ds, b => by
    have ih := mn_lawT n
    unfold lawT
    dsimp only
    split
    · exact mn_own ds
    split
    · unfold MnT; exact ih _ _
    split
    · unfold MnT; exact ih _ _
    split
    · unfold MnT MnTs MnTs MnTs
      exact ⟨fun z => (nomatch z), ih _ _, ih _ _, trivial⟩
    split
    · exact mn_own ds
    split
    · unfold MnT; exact ih _ _
    · unfold MnT; trivial
theorem ne_lawT (n : Nat) (ds : List Int) (b : Bool) : NE (lawT n ds b) := ne_of (wf_lawT n ds b) (mn_lawT n ds b)
theorem pre_an {ns : List Nq} {ps : List (Option Nat)} (g : Gr ns ps) {t : Tst} (ok : Okt 7 t) (ne : NE t) : LW.preAn (madeS ns, t) := ⟨made_vw g, plc_ok (made_lk g) (made_vw g), plc_oki (made_lk g) (made_vw g), ok, ne⟩
theorem eqv_nats (l : List Nat) : PyData.eqv (natsD l) (natsD l) = true := by
  show PyData.eqv (.list (l.map ofN)) (.list (l.map ofN)) = true
  rw [PyData.eqv]
  induction l with
  | nil => simp [PyData.eqvAll]
  | cons a l ih =>
    rw [List.map_cons, PyData.eqvAll, ih]
    simp [PyData.eqv, ofN]
end LM
namespace LW
open PySem PySem.Spec PyProof.Rows L2 DL LM
section
variable {P : Program} {W : World} {K : PySem.W.Frag} {mg : Str → Option Value} {base : Heap} {f : Addr} {fd : FuncData} {A A2 H H' H0 H1 H2 G G2 Hc : Hp} {σ : L2.St} {t te td tn tv ti t1 t2 : TE} {tr : TS} {ts : TS} {tt : TT} {D : Ends} {tA : TA} {n i j : Nat} {p b a : Addr} {xs ys : List V} {v w : V} {d : PyData} {ds es : List PyData}
open Tst Tb
theorem go_neNats {l : List Nat} : GO K (rNeA K) (natsD l) (natsD l) (.bool false) := by
  have x := go_neD (K := K) (shp_ints (ds := l.map ofN) nats_ints) (shp_ints (ds := l.map ofN) nats_ints)
  have e : PyData.eqv (.list (l.map ofN)) (.list (l.map ofN)) = true := eqv_nats l
  rw [e] at x
  exact x
def IntRQ (d : PyData) : Prop := ∃ c : Int, d = .int c
/-- _law_test(_law_draws(c, 24), m, back) -/
theorem e_ltest {Q : VK} {m q : Nat} {back : Bool} (g : GR K te σ H A IntRQ) (hm : m < q) (e : Pub H A G H1) (k : ∀ ds v G' H', Pub G H1 G' H' → Dv K G' v (lawT m ds back).toD → Q v H') :
    tCall (spA K 3 arLt (preLt q) fun x => (lawT x.2.1 x.1 x.2.2).toD) [] E0 (tCons (tCall (spD K 2 preDraws resDraws) [] E0 (tCons te (tCons (tC (.int 24)) tNil))) (tCons (tC (.int (m : Int))) (tCons (tC (.bl back)) tNil))) σ H1 Q := by
  refine g G H1 e _ fun d u G1 H2 rd p1 du => ?_
  obtain ⟨c, rfl⟩ := rd
  have ev := Dv.int_inv du
  subst ev
  refine ⟨rfl, G1, [.int c, .int 24], p1.gh, .cons (.int _) (.cons (.int _) .nil), ⟨c, 24, rfl, by decide, by decide⟩, ?_⟩
  rintro d2 ⟨c', m', e2, ds, rfl, hl, hb⟩ v2 G2 H3 p2 dv2
  have e3 : m' = 24 := by
    simp at e2
    exact e2.2.symm
  subst e3
  exact ⟨(ds, m, back), G2, rfl, p2.gh, .cons dv2 (.cons (.int _) (.cons (.bl _) .nil)), ⟨⟨by show 9 ≤ ds.length; omega, by show ds.length ≤ 100; omega⟩, hm⟩, fun w G3 H4 p3 dw => k ds w G3 H4 (p1.trans (p2.trans p3)) dw⟩
theorem gr_cellQ {s : Addr} {ns : List Int} {k : Nat} (h : σ[j]? = some (some (.ref s))) (e : SqL K A s (ns.map V.int)) (g : GD K te σ H A (ofN k)) : GR K (tCall (spLc K) [] E0 (tCons (tVar j) (tCons te tNil))) σ H A IntRQ := fun H0 H1 p Q q =>
  e_cell p.gh h (p.hh.seq e) (g.mono p) fun c G2 H2 p2 => q (.int c) (.int c) G2 H2 ⟨c, rfl⟩ p2 (.int c)
theorem gr_addQ {c : Int} (g : GR K te σ H A IntRQ) (g2 : GD K tn σ H A (.int c)) : GR K (tOp (rAddA K) te tn) σ H A IntRQ := fun H0 H1 e Q q => g H0 H1 e _ fun d x G1 H2 rd p dx => g2.to (e.trans p) fun y G2 H3 p2 dy => by
  obtain ⟨i, rfl⟩ := rd
  have ex := Dv.int_inv dx
  have ey := Dv.int_inv dy
  subst ex ey
  exact .inl ⟨i, c, rfl, rfl, q (.int (i + c)) _ G2 H3 ⟨_, rfl⟩ (p.trans p2) (.int _)⟩
/-- k % m of a small number -/
theorem gd_modN {k m : Nat} (g : GD K te σ H A (ofN k)) (hm : 0 < m) : GD K (tOp (rI (fun _ j => 0 < j) fun i j => .int (i % j)) te (tC (.int (m : Int)))) σ H A (ofN (k % m)) := by
  have x := gdo (K := K) g (gd_int (i := (m : Int))) (go_ic (C := fun _ j => 0 < j) (f := fun i j => i % j) (by omega))
  have e : ofN (k % m) = .int ((k : Int) % (m : Int)) := rfl
  rw [e]
  exact x
/-- nodes, parents = _law_nodes(script, a, m) -/
theorem s_lnodes {s : Addr} {zs : List Int} {i j k a m : Nat} (h : σ[k]? = some (some (.ref s))) (sG : Same G H) (e : SqL K H s (zs.map V.int)) (hm : m ≤ 40)
    (q : ∀ ns ps v u G' H', Gr ns ps → ns.length ≤ m + 1 → Pub G H G' H' → Dv K G' v (nodesD ns) → Dv K G' u (upsD ps) → tr D ((σ.set i (some v)).set j (some u)) H') :
    tSeq (tAsg (tCall (spLn K) [] E0 (tCons (tVar k) (tCons (tC (.int (a : Int))) (tCons (tC (.int (m : Int))) tNil)))) (gTup K 2 (gCons (gName i) (gCons (gName j) gNil)))) tr D σ H :=
  ⟨.ref s, h, G, s, zs, a, m, rfl, sG, e, hm, fun ns ps y G2 H2 g hl P dy => by
    obtain ⟨b, xs, rfl, sq, da⟩ := Dv.tup_inv dy
    obtain ⟨x1, x2, rfl, d1, d2⟩ := DvA.inv2 da
    exact ⟨b, _, rfl, seqT P.gh sq, rfl, x1, _, rfl, x2, _, rfl, rfl, q ns ps x1 x2 G2 H2 g hl P d1 d2⟩⟩
end
end LW
end
section
set_option Elab.async false
set_option linter.all false
set_option maxRecDepth 100000
set_option maxHeartbeats 1000000
namespace LM
open PySem DL Tst Tb
/-! answers of tests put together -/
theorem okt_un {w : Str} {t : Tst} (hw : lawKind w = 5) (lw : clS w) (ok : Okt 6 t) (hl : (subT t).length ≤ 14) : Okt 7 (.un w t) := by
  refine ⟨by unfold WF; exact ⟨hw, ok.wf⟩, ?_, ?_, ?_⟩
  · rw [toD_un]
    refine lay_tup fun d hd => ?_
    simp only [List.mem_cons, List.not_mem_nil, or_false] at hd
    rcases hd with rfl | rfl
    · exact lay_str lw
    · exact ok.lay
  · have := dep_un (w := w) (t := t)
    have := ok.dep
    omega
  · have e : subT (.un w t) = .un w t :: subT t := by conv => lhs; unfold subT
    rw [e, List.length_cons]; omega
theorem okt_two {w : Str} {s t : Tst} (hw : lawKind w = 4) (lw : clS w) (ok : Okt 5 s) (ok2 : Okt 5 t) (hl : (subT s).length + (subT t).length ≤ 14) : Okt 7 (.many w [s, t]) := by
  refine ⟨by unfold WF WFs WFs WFs; exact ⟨hw, ok.wf, ok2.wf, trivial⟩, ?_, ?_, ?_⟩
  · rw [toD_many]
    refine lay_tup fun d hd => ?_
    simp only [List.mem_cons, List.not_mem_nil, or_false] at hd
    rcases hd with rfl | rfl
    · exact lay_str lw
    · refine lay_tup fun d hd => ?_
      simp only [List.map_cons, List.map_nil, List.mem_cons, List.not_mem_nil, or_false] at hd
      rcases hd with rfl | rfl
      · exact ok.lay
      · exact ok2.lay
  · have := dep_two (w := w) (s := s) (t := t)
    have := ok.dep
    have := ok2.dep
    omega
  · have e : subT (.many w [s, t]) = .many w [s, t] :: (subT s ++ (subT t ++ [])) := by conv => lhs; unfold subT subTs subTs subTs
    rw [e, List.length_cons, List.length_append, List.length_append]
    show _ + (_ + 0) + 1 ≤ _
    omega
theorem okt_any : Okt 7 (.leaf "any" []) := by
  refine ⟨by unfold WF; decide +kernel, ?_, ?_, ?_⟩
  · rw [toD_leaf]
    refine lay_tup fun d hd => ?_
    simp only [List.map_nil, List.mem_cons, List.not_mem_nil, or_false] at hd
    rw [hd]
    exact lay_str (by decide +kernel)
  · have := dep_leaf (w := "any") (as := [])
    omega
  · unfold subT; decide
theorem ne_any : NE (.leaf "any" []) := ne_of okt_any.wf (by unfold MnT; trivial)
theorem Tst.Okt.up {m n : Nat} {t : Tst} (ok : Okt m t) (h : m ≤ n) : Okt n t := ⟨ok.wf, ok.lay, Nat.le_trans ok.dep h, ok.len⟩
theorem okt_2 (ds : List Int) (b : Bool) : Okt 5 (lawT 2 ds b) ∧ (subT (lawT 2 ds b)).length ≤ 7 := by
  have s := size_lawT 2 ds b
  have hb : big 2 ≤ 7 := by decide
  exact ⟨⟨wf_lawT 2 ds b, (clean_lawT 2 ds b).2, s.1, by omega⟩, by omega⟩
theorem ne_un {w : Str} {t : Tst} (hw : lawKind w = 5) (wf : WF t) (m : MnT t) : NE (.un w t) := ne_of (by unfold WF; exact ⟨hw, wf⟩) (by unfold MnT; exact m)
theorem ne_two {w : Str} {s t : Tst} (hw : lawKind w = 4) (wf : WF s) (wf2 : WF t) (m : MnT s) (m2 : MnT t) : NE (.many w [s, t]) := ne_of (by unfold WF WFs WFs WFs; exact ⟨hw, wf, wf2, trivial⟩) (by unfold MnT MnTs MnTs MnTs; exact ⟨fun z => (nomatch z), m, m2, trivial⟩)
variable {ns : List Nq} {ps : List (Option Nat)} {s t : Tst}
/-- the answer -/
def enL (ns : List Nq) (ps : List (Option Nat)) (t : Tst) : List Nat := (enOf (madeS ns)).filter ((bQ ns ps).sem t)
theorem mem_L {n : Nat} : n ∈ enL ns ps t ↔ n ∈ enOf (madeS ns) ∧ (bQ ns ps).sem t n = true := List.mem_filter
theorem in_L {n : Nat} (h : n ∈ enOf (madeS ns)) : decide (n ∈ enL ns ps t) = (bQ ns ps).sem t n := by
  rw [Bool.eq_iff_iff, decide_eq_true_eq, mem_L]
  exact ⟨fun z => z.2, fun z => ⟨h, z⟩⟩
theorem enL_any : enL ns ps (.leaf "any" []) = enOf (madeS ns) := List.filter_eq_self.mpr fun k _ => by
  rw [sem_lf]
  unfold ownQ
  rw [if_neg (by decide +kernel), if_neg (by decide +kernel), if_neg (by decide +kernel), if_neg (by decide +kernel), if_neg (by decide +kernel), if_neg (by decide +kernel), if_neg (by decide +kernel)]
theorem enL_not : enL ns ps (.un "not" t) = (enOf (madeS ns)).filter fun n => !decide (n ∈ enL ns ps t) := List.filter_congr fun n hn => by rw [in_L hn, sem_not]
theorem enL_both : enL ns ps (.many "both" [s, t]) = (enOf (madeS ns)).filter fun n => decide (n ∈ enL ns ps s) && decide (n ∈ enL ns ps t) := List.filter_congr fun n hn => by
  rw [in_L hn, in_L hn, sem_many]
  dsimp only
  rw [if_pos rfl, List.all_cons, List.all_cons, List.all_nil, Bool.and_true]
theorem enL_one : enL ns ps (.many "one" [s, t]) = (enOf (madeS ns)).filter fun n => decide (n ∈ enL ns ps s) || decide (n ∈ enL ns ps t) := List.filter_congr fun n hn => by
  rw [in_L hn, in_L hn, sem_many]
  dsimp only
  rw [if_neg (by decide +kernel), List.any_cons, List.any_cons, List.any_nil, Bool.or_false]
section
variable {b : Tb} {eo : List Nat}
theorem abv_mem (sn : Seen b eo) : ∀ (n k : Nat), k ∈ eo → eo.idxOf k < n → ∀ m ∈ b.abv k, m ∈ eo
  | 0, _, _, h, _, _ => absurd h (Nat.not_lt_zero _)
  | n + 1, k, hk, h, m, hm => by
    rw [sn.abv_eq hk] at hm
    cases e : b.up k with
    | none => rw [e] at hm; cases hm
    | some p =>
      rw [e] at hm
      obtain ⟨hp, hlt⟩ := sn.par k p ((sn.mem k).mp hk).1 e
      have hlt := hlt hk
      rcases List.mem_cons.mp hm with rfl | hm
      · exact hp
      · exact abv_mem sn n p hp (by omega) m hm
theorem has_mem (sn : Seen b eo) {k o : Nat} : o ∈ b.has k ↔ o ∈ eo ∧ k ∈ b.abv o := by
  unfold Tb.has
  rw [List.mem_filter, List.mem_range, Bool.and_eq_true, decide_eq_true_eq, sn.mem]
  exact ⟨fun h => ⟨⟨h.1, h.2.1⟩, h.2.2⟩, fun h => ⟨h.1.1, h.1.2, h.2⟩⟩
end
theorem filt_mem_empty {l l2 : List Nat} : (l.filter fun n => decide (n ∈ l2)).isEmpty = !decide (∃ n ∈ l, n ∈ l2) := by
  rw [Bool.eq_iff_iff, List.isEmpty_iff, List.filter_eq_nil_iff, Bool.not_eq_true', decide_eq_false_iff_not]
  exact ⟨fun h ⟨n, h1, h2⟩ => h n h1 (decide_eq_true h2), fun h n h1 h2 => h ⟨n, h1, of_decide_eq_true h2⟩⟩
def DU : List (Str × Str) := [("under", "over"), ("in", "has")]
theorem down_up (g : Gr ns ps) {w v : Str} (h : (w, v) ∈ DU) : ((enL ns ps (.un w s)).filter fun n => decide (n ∈ enL ns ps t)).isEmpty = ((enL ns ps (.un v t)).filter fun n => decide (n ∈ enL ns ps s)).isEmpty := by
  have sn := (made_lk g).seen
  rw [filt_mem_empty, filt_mem_empty]
  congr 1
  rw [decide_eq_decide]
  simp only [DU, List.mem_cons, List.not_mem_nil, or_false, Prod.mk.injEq] at h
  have su : ∀ {x : Tst} {k : Nat}, k ∈ enOf (madeS ns) → ((bQ ns ps).sem (.un "under" x) k = true ↔ ∃ p, (bQ ns ps).up k = some p ∧ (bQ ns ps).sem x p = true) := fun {x k} hk => by
    rw [sem_un]
    show (if ("under" : Str) = "not" then _ else if ("under" : Str) = "under" then ((bQ ns ps).abv k).head?.any _ else _) = true ↔ _
    rw [if_neg (by decide +kernel), if_pos rfl]
    have := sn.abv_head hk
    have : ((bQ ns ps).abv k).head? = (bQ ns ps).up k := this
    rw [this, Option.any_eq_true]
  have si : ∀ {x : Tst} {k : Nat}, (bQ ns ps).sem (.un "in" x) k = true ↔ ∃ p ∈ (bQ ns ps).abv k, (bQ ns ps).sem x p = true := fun {x k} => by
    rw [sem_un]
    show (if ("in" : Str) = "not" then _ else if ("in" : Str) = "under" then _ else if ("in" : Str) = "in" then ((bQ ns ps).abv k).any _ else _) = true ↔ _
    rw [if_neg (by decide +kernel), if_neg (by decide +kernel), if_pos rfl, List.any_eq_true]
  have so : ∀ {x : Tst} {k : Nat}, (bQ ns ps).sem (.un "over" x) k = true ↔ ∃ c ∈ (bQ ns ps).ek k, (bQ ns ps).sem x c = true := fun {x k} => by
    rw [sem_un]
    show (if ("over" : Str) = "not" then _ else if ("over" : Str) = "under" then _ else if ("over" : Str) = "in" then _ else if ("over" : Str) = "next" then _ else if ("over" : Str) = "behind" then _ else if ("over" : Str) = "over" then ((bQ ns ps).ek k).any _ else _) = true ↔ _
    rw [if_neg (by decide +kernel), if_neg (by decide +kernel), if_neg (by decide +kernel), if_neg (by decide +kernel), if_neg (by decide +kernel), if_pos rfl, List.any_eq_true]
  have sh : ∀ {x : Tst} {k : Nat}, (bQ ns ps).sem (.un "has" x) k = true ↔ ∃ c ∈ (bQ ns ps).has k, (bQ ns ps).sem x c = true := fun {x k} => by
    rw [sem_un]
    show (if ("has" : Str) = "not" then _ else if ("has" : Str) = "under" then _ else if ("has" : Str) = "in" then _ else if ("has" : Str) = "next" then _ else if ("has" : Str) = "behind" then _ else if ("has" : Str) = "over" then _ else ((bQ ns ps).has k).any _) = true ↔ _
    rw [if_neg (by decide +kernel), if_neg (by decide +kernel), if_neg (by decide +kernel), if_neg (by decide +kernel), if_neg (by decide +kernel), if_neg (by decide +kernel), List.any_eq_true]
  rcases h with ⟨rfl, rfl⟩ | ⟨rfl, rfl⟩
  · constructor
    · rintro ⟨n, h1, h2⟩
      obtain ⟨hn, h1⟩ := mem_L.mp h1
      obtain ⟨p, hp, h3⟩ := (su hn).mp h1
      have hpe := (sn.par n p ((sn.mem n).mp hn).1 hp).1
      exact ⟨p, mem_L.mpr ⟨hpe, so.mpr ⟨n, (sn.ek_mem hpe).mpr ⟨hn, hp⟩, (mem_L.mp h2).2⟩⟩, mem_L.mpr ⟨hpe, h3⟩⟩
    · rintro ⟨m, h1, h2⟩
      obtain ⟨hm, h1⟩ := mem_L.mp h1
      obtain ⟨c, hc, h3⟩ := so.mp h1
      obtain ⟨hce, hcu⟩ := (sn.ek_mem hm).mp hc
      exact ⟨c, mem_L.mpr ⟨hce, (su hce).mpr ⟨m, hcu, (mem_L.mp h2).2⟩⟩, mem_L.mpr ⟨hce, h3⟩⟩
  · constructor
    · rintro ⟨n, h1, h2⟩
      obtain ⟨hn, h1⟩ := mem_L.mp h1
      obtain ⟨p, hp, h3⟩ := si.mp h1
      have hpe := abv_mem sn _ n hn (Nat.lt_succ_self _) p hp
      exact ⟨p, mem_L.mpr ⟨hpe, sh.mpr ⟨n, (has_mem sn).mpr ⟨hn, hp⟩, (mem_L.mp h2).2⟩⟩, mem_L.mpr ⟨hpe, h3⟩⟩
    · rintro ⟨m, h1, h2⟩
      obtain ⟨hm, h1⟩ := mem_L.mp h1
      obtain ⟨c, hc, h3⟩ := sh.mp h1
      obtain ⟨hce, hcu⟩ := (has_mem sn).mp hc
      exact ⟨c, mem_L.mpr ⟨hce, si.mpr ⟨m, hcu, (mem_L.mp h2).2⟩⟩, mem_L.mpr ⟨hce, h3⟩⟩
/-- the one right before -/
def lastQ (ns : List Nq) (ps : List (Option Nat)) (n : Nat) : Nat := (befQ ns ps n).getLast?.getD 0
theorem sem_behind {x : Tst} {k : Nat} : (bQ ns ps).sem (.un "behind" x) k = (befQ ns ps k).any ((bQ ns ps).sem x) := by
  rw [sem_un]
  show (if ("behind" : Str) = "not" then _ else if ("behind" : Str) = "under" then _ else if ("behind" : Str) = "in" then _ else if ("behind" : Str) = "next" then _ else if ("behind" : Str) = "behind" then (befQ ns ps k).any _ else _) = _
  rw [if_neg (by decide +kernel), if_neg (by decide +kernel), if_neg (by decide +kernel), if_neg (by decide +kernel), if_pos rfl]
theorem sem_next {x : Tst} {k : Nat} : (bQ ns ps).sem (.un "next" x) k = (befQ ns ps k).getLast?.any ((bQ ns ps).sem x) := by
  rw [sem_un]
  show (if ("next" : Str) = "not" then _ else if ("next" : Str) = "under" then _ else if ("next" : Str) = "in" then _ else if ("next" : Str) = "next" then (befQ ns ps k).getLast?.any _ else _) = _
  rw [if_neg (by decide +kernel), if_neg (by decide +kernel), if_neg (by decide +kernel), if_pos rfl]
theorem behind_ne {n : Nat} (h : n ∈ enL ns ps (.un "behind" t)) : ∃ l, befQ ns ps n = l ++ [lastQ ns ps n] := by
  have h := (mem_L.mp h).2
  rw [sem_behind] at h
  unfold lastQ
  rcases List.eq_nil_or_concat (befQ ns ps n) with e | ⟨l, a, e⟩
  · rw [e] at h; cases h
  · rw [e, List.concat_eq_append, List.getLast?_concat]
    exact ⟨l, rfl⟩
theorem enL_next (g : Gr ns ps) : enL ns ps (.un "next" t) = (enL ns ps (.un "behind" t)).filter fun n => decide (lastQ ns ps n ∈ enL ns ps t) := by
  have sn := (made_lk g).seen
  unfold enL
  rw [List.filter_filter]
  refine List.filter_congr fun n hn => ?_
  rw [sem_next, sem_behind]
  unfold lastQ
  cases e : (befQ ns ps n).getLast? with
  | none =>
    rw [List.getLast?_eq_none_iff.mp e]
    show false = (_ && false)
    rw [Bool.and_false]
  | some q =>
    obtain ⟨hq, _, e2⟩ := sn.bef_last hn e
    have e2 : befQ ns ps n = befQ ns ps q ++ [q] := e2
    rw [e2, List.any_append]
    have e3 := in_L (ps := ps) (t := t) hq
    unfold enL at e3
    show (bQ ns ps).sem t q = (decide (q ∈ _) && (_ || ((bQ ns ps).sem t q || false)))
    rw [e3]
    cases (bQ ns ps).sem t q
    · rfl
    · simp
theorem enL_len (g : Gr ns ps) : (enOf (madeS ns)).length ≤ 60 := by
  rw [made_en g]
  exact Nat.le_trans (List.length_filter_le _ _) (ord_len g)
end LM
namespace LW
open PySem PySem.Spec PyProof.Rows L2 DL LM
section
variable {P : Program} {W : World} {K : PySem.W.Frag} {mg : Str → Option Value} {base : Heap} {f : Addr} {fd : FuncData} {A A2 H H' H0 H1 H2 G G2 Hc : Hp} {σ : L2.St} {t te td tn tv ti t1 t2 : TE} {tr : TS} {ts : TS} {tt : TT} {D : Ends} {tA : TA} {n i j : Nat} {p b a : Addr} {xs ys : List V} {v w : V} {d : PyData} {ds es : List PyData}
open Tst Tb
theorem gd_ans {ns : List Nq} {ps : List (Option Nat)} {t : Tst} {i : Nat} (h : σ[i]? = some (some v)) (dv : Dv K H v (madeS ns).toD) (g : Gr ns ps) (ok : Okt 7 t) (ne : NE t) (gt : GD K te σ H A t.toD) : GD K (tCall (spA K 2 arAn preAn fun x => natsD (ansL x.1 x.2)) [] E0 (tCons (tVar i) (tCons te tNil))) σ H A (natsD (enL ns ps t)) := by
  have e : enL ns ps t = ansL (madeS ns) t := (ans_eq (made_lk g) (made_vw g) ok.wf).symm
  rw [e]
  exact gd_callA (K := K) (ar := arAn) (n := 2) (Pre := preAn) (f := fun x => natsD (ansL x.1 x.2)) (madeS ns, t) (ga_cons (gd_var h dv) (ga_cons gt ga_nil)) rfl (pre_an g ok ne)
theorem gt_ninN {k : Nat} {l : List Nat} (g1 : GD K te σ H A (ofN k)) (g2 : GD K td σ H A (natsD l)) : GT (tTest (tOp (rIn K true) te td)) σ H A (!decide (k ∈ l)) := by
  have gin := gt_test (gdo (K := K) g1 g2 (go_ninL (x := .int (k : Int)) (xs := (l.map fun (c : Nat) => (c : Int)).map V.int) rfl (by
    have e : l.map ofN = (l.map fun (c : Nat) => (c : Int)).map PyData.int := by rw [List.map_map]; rfl
    rw [e]
    exact flat_ints _)))
  rw [inV_ints] at gin
  have em : decide ((k : Int) ∈ l.map fun (c : Nat) => (c : Int)) = decide (k ∈ l) := by
    rw [decide_eq_decide, List.mem_map]
    exact ⟨fun ⟨c, hc, e⟩ => by have : c = k := by omega
                                rw [← this]; exact hc, fun h => ⟨k, h, rfl⟩⟩
  rw [em] at gin
  exact gin
theorem gd_last {L l : List Nat} {x : Nat} (g : GD K te σ H A (natsD L)) (e : L = l ++ [x]) : GD K (tOp (rIx K) te (tUn (rU fun i => .int (-i)) (tC (.int 1)))) σ H A (ofN x) := by
  subst e
  have g : GD K te σ H A (.list ((l ++ [x]).map ofN)) := g
  rw [List.map_append] at g
  exact gdo g gd_negQ (go_ixL atI_lastQ)
theorem go_neB {b c : Bool} : GO K (rNeA K) (.bool b) (.bool c) (.bool (!decide (b = c))) := fun H H1 G H2 v w Q p dx dy q => by
  have e1 := Dv.bl_inv dx
  have e2 := Dv.bl_inv dy
  subst e1 e2
  refine .inl ⟨rfl, ?_⟩
  have z : decide (V.bl b = V.bl c) = decide (b = c) := by simp
  rw [z]
  exact q _ G H2 p (.bl _)
theorem go_neL {l l2 : List Nat} (h : l = l2) : GO K (rNeA K) (natsD l) (natsD l2) (.bool false) := by
  subst h
  exact go_neNats
end
end LW
end
section
set_option Elab.async false
set_option linter.all false
set_option maxRecDepth 100000
set_option maxHeartbeats 1000000
namespace LM
open PySem DL Tst Tb
/-! tables whose own is the tree's -/
def ownTr (b : Tb) (s : Sh) (w : Str) (as : List Str) (k : Nat) : Bool := match s.findS k with
  | some p => ownS w as p (b.bef k).getLast? (b.aft k)
  | none => false
def withS (b : Tb) (s : Sh) : Tb := { b with own := ownTr b s }
section
variable {b : Tb} {s : Sh}
theorem Tel.withS (h : Tel b s) : Tel (LM.withS b s) s := ⟨h.uni, h.mem, h.kids, h.up, h.E, h.lt⟩
theorem lk_self (h : Tel b s) : Lk (LM.withS b s) s := lk_of h.withS fun p hp w as _ _ => by
  show ownTr b s w as p.num = _
  unfold ownTr
  rw [h.uni.find (es_mem.mp hp).1]; rfl
end
/-! ways up, rows before -/
section
variable {b : Tb} {eo : List Nat}
theorem abv_idx (sn : Seen b eo) : ∀ (n k : Nat), k ∈ eo → eo.idxOf k < n → ∀ m ∈ b.abv k, eo.idxOf m < eo.idxOf k
  | 0, _, _, h, _, _ => absurd h (Nat.not_lt_zero _)
  | n + 1, k, hk, h, m, hm => by
    rw [sn.abv_eq hk] at hm
    cases e : b.up k with
    | none => rw [e] at hm; cases hm
    | some p =>
      rw [e] at hm
      obtain ⟨hp, hlt⟩ := sn.par k p ((sn.mem k).mp hk).1 e
      have hlt := hlt hk
      rcases List.mem_cons.mp hm with rfl | hm
      · exact hlt
      · have := abv_idx sn n p hp (by omega) m hm
        omega
theorem abv_up (sn : Seen b eo) : ∀ (n k : Nat), k ∈ eo → eo.idxOf k < n → ∀ m ∈ b.abv k, ∀ q, b.up m = some q → q ∈ b.abv k
  | 0, _, _, h, _, _, _, _ => absurd h (Nat.not_lt_zero _)
  | n + 1, k, hk, h, m, hm, q, hq => by
    rw [sn.abv_eq hk] at hm ⊢
    cases e : b.up k with
    | none => rw [e] at hm; cases hm
    | some p =>
      rw [e] at hm
      obtain ⟨hp, hlt⟩ := sn.par k p ((sn.mem k).mp hk).1 e
      have hlt := hlt hk
      show q ∈ p :: b.abv p
      rcases List.mem_cons.mp hm with rfl | hm
      · rw [sn.abv_eq hp, hq]
        exact List.mem_cons_of_mem _ List.mem_cons_self
      · exact List.mem_cons_of_mem _ (abv_up sn n p hp (by omega) m hm q hq)
theorem idx_take {l : List Nat} {k i : Nat} (nd : l.Nodup) (h : k ∈ l.take i) : l.idxOf k < i := by
  obtain ⟨j, hj, e⟩ := List.getElem_of_mem h
  rw [List.length_take] at hj
  rw [List.getElem_take] at e
  rw [← e, List.Nodup.idxOf_getElem nd]
  omega
theorem take_sub {l : List Nat} {a c m : Nat} (h : a ≤ c) (hm : m ∈ l.take a) : m ∈ l.take c := by
  have e : l.take a = (l.take c).take a := by rw [List.take_take, Nat.min_eq_left h]
  rw [e] at hm
  exact List.mem_of_mem_take hm
theorem bef_sub (sn : Seen b eo) {k m : Nat} (hk : k ∈ eo) (hm : m ∈ b.bef k) : m ∈ eo ∧ b.up m = b.up k ∧ ∀ x ∈ b.bef m, x ∈ b.bef k := by
  cases hp : b.up k with
  | none =>
    unfold bef at hm
    rw [hp] at hm
    cases hm
  | some p =>
    have hpe := (sn.par k p ((sn.mem k).mp hk).1 hp).1
    have nd := (sn.sib p hpe).nodup sn.nd
    obtain ⟨_, _, hb⟩ := sn.bef_eq hk hp
    rw [hb] at hm ⊢
    obtain ⟨hme, hmu⟩ := (sn.ek_mem hpe).mp (List.mem_of_mem_take hm)
    refine ⟨hme, hmu, fun x hx => ?_⟩
    obtain ⟨_, _, hb2⟩ := sn.bef_eq hme hmu
    rw [hb2] at hx
    exact take_sub (Nat.le_of_lt (idx_take nd hm)) hx
theorem filt_take {l : List Nat} {P : Nat → Bool} {m : Nat} (hm : m ∈ l) (hP : P m = true) (hb : ∀ x ∈ l.take (l.idxOf m), P x = true) : (l.filter P).take ((l.filter P).idxOf m) = l.take (l.idxOf m) := by
  induction l with
  | nil => cases hm
  | cons a l ih =>
    by_cases h : a = m
    · subst h
      rw [List.filter_cons, if_pos hP, List.idxOf_cons_self, List.idxOf_cons_self]; rfl
    · have e1 : (a :: l).idxOf m = l.idxOf m + 1 := idx_ne h
      rw [e1] at hb ⊢
      have ha : P a = true := hb a (by rw [List.take_succ_cons]; exact List.mem_cons_self)
      have hm' : m ∈ l := (List.mem_cons.mp hm).resolve_left fun z => h z.symm
      rw [List.filter_cons, if_pos ha, idx_ne h, List.take_succ_cons, List.take_succ_cons]
      congr 1
      exact ih hm' fun x hx => hb x (by rw [List.take_succ_cons]; exact List.mem_cons_of_mem _ hx)
end
/-! the view cut off -/
def wayQ (ns : List Nq) (ps : List (Option Nat)) (x : Nat) : List Nat := x :: LW.abQ ps ns.length x
def keptQ (ns : List Nq) (ps : List (Option Nat)) (x : Nat) : List Nat := wayQ ns ps x ++ (wayQ ns ps x).flatMap (befQ ns ps)
def cutK (ns : List Nq) (ps : List (Option Nat)) (x k : Nat) : List Nat :=
  if k = x then ((nq ns k).kids.filter fun c => decide (c ∈ keptQ ns ps x) || (nq ns c).txt).filter fun c => (nq ns c).txt
  else (nq ns k).kids.filter fun c => decide (c ∈ keptQ ns ps x) || (nq ns c).txt
def cutQ (ns : List Nq) (ps : List (Option Nat)) (x : Nat) : List Nq := (List.range ns.length).map fun k => { nq ns k with kids := cutK ns ps x k }
variable {ns : List Nq} {ps : List (Option Nat)} {x : Nat}
theorem cut_len : (cutQ ns ps x).length = ns.length := by unfold cutQ; rw [List.length_map, List.length_range]
theorem nq_cut {k : Nat} (h : k < ns.length) : nq (cutQ ns ps x) k = { nq ns k with kids := cutK ns ps x k } := by
  show (cutQ ns ps x).getD k q0 = _
  unfold cutQ
  rw [List.getD_eq_getElem?_getD, List.getElem?_map, List.getElem?_range h]; rfl
theorem cutK_sub {k : Nat} : (cutK ns ps x k).Sublist (nq ns k).kids := by
  unfold cutK
  split
  · exact List.filter_sublist.trans List.filter_sublist
  · exact List.filter_sublist
theorem cutK_mem {k c : Nat} (h : c ∈ cutK ns ps x k) : c ∈ (nq ns k).kids ∧ (c ∈ keptQ ns ps x ∨ (nq ns c).txt = true) := by
  unfold cutK at h
  split at h
  · obtain ⟨h1, h2⟩ := List.mem_filter.mp h
    exact ⟨(List.mem_filter.mp h1).1, .inr h2⟩
  · obtain ⟨h1, h2⟩ := List.mem_filter.mp h
    rw [Bool.or_eq_true, decide_eq_true_eq] at h2
    exact ⟨h1, h2⟩
theorem hq_cut : ∀ {j k : Nat}, Hq ns j k → Hq (cutQ ns ps x) j k
  | 0, _, h => h.elim
  | j + 1, k, h => by
    refine ⟨by rw [cut_len]; exact h.1, ?_, fun c hc => ?_⟩
    · rw [nq_cut h.1]
      exact Nat.le_trans cutK_sub.length_le h.2.1
    · rw [nq_cut h.1] at hc
      exact hq_cut (h.2.2 c (cutK_sub.subset hc))
section
variable (g : Gr ns ps) (hx : x ∈ enOf (madeS ns))
include g hx
theorem way_mem {k : Nat} (h : k ∈ wayQ ns ps x) : k ∈ enOf (madeS ns) ∧ (enOf (madeS ns)).idxOf k ≤ (enOf (madeS ns)).idxOf x := by
  have sn := (made_lk g).seen
  rcases List.mem_cons.mp h with rfl | h
  · exact ⟨hx, Nat.le_refl _⟩
  · rw [← abv_bQ] at h
    exact ⟨abv_mem sn _ x hx (Nat.lt_succ_self _) k h, Nat.le_of_lt (abv_idx sn _ x hx (Nat.lt_succ_self _) k h)⟩
theorem way_up {k p : Nat} (h : k ∈ wayQ ns ps x) (hp : (bQ ns ps).up k = some p) : p ∈ wayQ ns ps x ∧ p ≠ x := by
  have sn := (made_lk g).seen
  obtain ⟨hk, hle⟩ := way_mem g hx h
  have hlt := (sn.par k p ((sn.mem k).mp hk).1 hp).2 hk
  refine ⟨?_, fun e => by rw [e] at hlt; omega⟩
  refine List.mem_cons_of_mem _ ?_
  rw [← abv_bQ]
  rcases List.mem_cons.mp h with rfl | h
  · have e := sn.abv_eq hx
    have e : (bQ ns ps).abv k = match (bQ ns ps).up k with | none => [] | some p => p :: (bQ ns ps).abv p := e
    rw [e, hp]
    exact List.mem_cons_self
  · rw [← abv_bQ] at h
    exact abv_up sn _ x hx (Nat.lt_succ_self _) k h p hp
theorem kept_cases {k : Nat} (h : k ∈ keptQ ns ps x) : ∃ w ∈ wayQ ns ps x, k = w ∨ k ∈ (bQ ns ps).bef w := by
  rcases List.mem_append.mp h with h | h
  · exact ⟨k, h, .inl rfl⟩
  · obtain ⟨w, hw, h⟩ := List.mem_flatMap.mp h
    exact ⟨w, hw, .inr h⟩
theorem kept_mem {k : Nat} (h : k ∈ keptQ ns ps x) : k ∈ enOf (madeS ns) := by
  obtain ⟨w, hw, rfl | h⟩ := kept_cases g hx h
  · exact (way_mem g hx hw).1
  · exact (bef_sub (made_lk g).seen (way_mem g hx hw).1 h).1
theorem kept_up {k p : Nat} (h : k ∈ keptQ ns ps x) (hp : (bQ ns ps).up k = some p) : p ∈ keptQ ns ps x ∧ p ≠ x := by
  obtain ⟨w, hw, rfl | h⟩ := kept_cases g hx h
  · obtain ⟨h1, h2⟩ := way_up g hx hw hp
    exact ⟨List.mem_append_left _ h1, h2⟩
  · have e := (bef_sub (made_lk g).seen (way_mem g hx hw).1 h).2.1
    have e : (bQ ns ps).up k = (bQ ns ps).up w := e
    rw [hp] at e
    obtain ⟨h1, h2⟩ := way_up g hx hw e.symm
    exact ⟨List.mem_append_left _ h1, h2⟩
theorem kept_bef {k : Nat} (h : k ∈ keptQ ns ps x) : ∀ m ∈ (bQ ns ps).bef k, m ∈ keptQ ns ps x := fun m hm => by
  obtain ⟨w, hw, rfl | h⟩ := kept_cases g hx h
  · exact List.mem_append_right _ (List.mem_flatMap.mpr ⟨k, hw, hm⟩)
  · exact List.mem_append_right _ (List.mem_flatMap.mpr ⟨w, hw, (bef_sub (made_lk g).seen (way_mem g hx hw).1 h).2.2 m hm⟩)
theorem way_root : 0 ∈ wayQ ns ps x := by
  have sn := (made_lk g).seen
  have key : ∀ n k, k ∈ enOf (madeS ns) → (enOf (madeS ns)).idxOf k < n → k ∈ wayQ ns ps x → 0 ∈ wayQ ns ps x := fun n => by
    induction n with
    | zero => intro k _ h _; exact absurd h (Nat.not_lt_zero _)
    | succ n ih =>
      intro k hk h hw
      cases e : (bQ ns ps).up k with
      | none =>
        cases k with
        | zero => exact hw
        | succ k => exact absurd e (g.all _ ((sn.mem _).mp hk).1 (Nat.succ_pos _))
      | some p =>
        obtain ⟨hp, hlt⟩ := sn.par k p ((sn.mem k).mp hk).1 e
        exact ih p hp (by have := hlt hk; omega) (way_up g hx hw e).1
  exact key _ x hx (Nat.lt_succ_self _) List.mem_cons_self
theorem cut_kid {k p : Nat} (h : k ∈ keptQ ns ps x) (hp : (bQ ns ps).up k = some p) : k ∈ cutK ns ps x p := by
  have sn := (made_lk g).seen
  obtain ⟨h1, h2⟩ := kept_up g hx h hp
  have hk := ((sn.mem k).mp (kept_mem g hx h)).1
  unfold cutK
  rw [if_neg h2]
  exact List.mem_filter.mpr ⟨(g.upk hk hp).2, by rw [decide_eq_true h]; rfl⟩
end
/-- the tables of what is left -/
def bC (ns : List Nq) (ps : List (Option Nat)) (x : Nat) : Tb := ⟨ns.length, fun k => !(nq ns k).txt && decide (k ∈ keptQ ns ps x), cutK ns ps x, fun k => match ps.getD k none with
  | none => none
  | some p => if p ∈ keptQ ns ps x ∧ k ∈ cutK ns ps x p then some p else none, fun _ _ _ => false⟩
def cutS (ns : List Nq) (ps : List (Option Nat)) (x : Nat) : Sh := madeS (cutQ ns ps x)
theorem cut_nums : ∀ j k, Hq ns j k → ((madeF (cutQ ns ps x) j k).nums).Sublist ((madeF ns j k).nums)
  | 0, _, h => h.elim
  | j + 1, k, h => by
    unfold Sh.nums
    rw [Sh.pre_eq, Sh.pre_eq (madeF ns _ _), List.map_cons, List.map_cons, made_num, made_num, made_kids, made_kids, nq_cut h.1]
    refine List.Sublist.cons_cons _ ?_
    show (List.map Sh.num (List.flatMap Sh.pre (if (nq ns k).txt = true then [] else (cutK ns ps x k).map (madeF (cutQ ns ps x) j)))).Sublist (List.map Sh.num (List.flatMap Sh.pre (if (nq ns k).txt = true then [] else (nq ns k).kids.map (madeF ns j))))
    split
    · exact List.Sublist.refl _
    · rw [List.flatMap_map, List.flatMap_map, List.map_flatMap, List.map_flatMap]
      have key : ∀ {l l' : List Nat}, l'.Sublist l → (∀ c ∈ l, Hq ns j c) → (l'.flatMap fun a => List.map Sh.num (madeF (cutQ ns ps x) j a).pre).Sublist (l.flatMap fun a => List.map Sh.num (madeF ns j a).pre) := fun {l l'} hs => by
        induction hs with
        | slnil => intro _; exact List.Sublist.refl _
        | cons a _ ih =>
          intro hl
          rw [List.flatMap_cons]
          exact (ih fun c hc => hl c (List.mem_cons_of_mem _ hc)).trans (List.sublist_append_right _ _)
        | cons_cons a _ ih =>
          intro hl
          rw [List.flatMap_cons, List.flatMap_cons]
          exact (cut_nums j a (hl a List.mem_cons_self)).append (ih fun c hc => hl c (List.mem_cons_of_mem _ hc))
      exact key cutK_sub h.2.2
section
variable (g : Gr ns ps) (hx : x ∈ enOf (madeS ns))
include g hx
theorem cut_hq : Hq (cutQ ns ps x) 60 0 := hq_cut (g.hq g.pos)
theorem cut_part {p : Sh} (hp : p ∈ (cutS ns ps x).pre) : ∃ i, Hq (cutQ ns ps x) (i + 1) p.num ∧ p = madeF (cutQ ns ps x) (i + 1) p.num ∧ p.num < ns.length ∧ p.isE = !(nq ns p.num).txt := by
  obtain ⟨i, h1, h2⟩ := made_pre 60 0 (cut_hq g hx) p hp
  cases i with
  | zero => exact h1.elim
  | succ i =>
    have hl := h1.1
    rw [cut_len] at hl
    refine ⟨i, h1, h2, hl, ?_⟩
    conv => lhs; rw [h2, made_isE h1]
    rw [nq_cut hl]
theorem cut_E : ∀ (j k : Nat), Hq (cutQ ns ps x) j k → (k ∈ keptQ ns ps x ∨ (nq ns k).txt = true) → ∀ p ∈ (madeF (cutQ ns ps x) j k).pre, p.num ∈ keptQ ns ps x ∨ (nq ns p.num).txt = true
  | 0, _, h, _, _, _ => h.elim
  | j + 1, k, h, hk, p, hp => by
    rw [Sh.pre_eq] at hp
    rcases List.mem_cons.mp hp with rfl | hp
    · rw [made_num]; exact hk
    · obtain ⟨c, hc, hp⟩ := List.mem_flatMap.mp hp
      rw [made_kids] at hc
      split at hc
      · cases hc
      · obtain ⟨m, hm, rfl⟩ := List.mem_map.mp hc
        have hl := h.1
        rw [cut_len] at hl
        have hm2 := hm
        rw [nq_cut hl] at hm2
        exact cut_E j m (h.2.2 m hm) (cutK_mem hm2).2 p hp
theorem cut_kept {p : Sh} (hp : p ∈ (cutS ns ps x).pre) (hE : p.isE = true) : p.num ∈ keptQ ns ps x := by
  obtain ⟨i, h1, h2, h3, h4⟩ := cut_part g hx hp
  rcases cut_E g hx 60 0 (cut_hq g hx) (.inl (List.mem_append_left _ (way_root g hx))) p hp with h | h
  · exact h
  · rw [hE, h] at h4; cases h4
theorem cut_kn {p : Sh} (hp : p ∈ esOf (cutS ns ps x)) : p.kids.map Sh.num = cutK ns ps x p.num := by
  obtain ⟨h0, hE⟩ := es_mem.mp hp
  obtain ⟨i, h1, h2, h3, h4⟩ := cut_part g hx h0
  have ht : (nq (cutQ ns ps x) p.num).txt = false := by
    rw [nq_cut h3]
    rw [hE] at h4
    cases h : (nq ns p.num).txt with
    | false => rfl
    | true => rw [h] at h4; cases h4
  conv => lhs; rw [h2, made_kids, ht]
  rw [nq_cut h3]
  show List.map Sh.num (List.map (madeF _ i) (cutK ns ps x p.num)) = _
  rw [List.map_map]
  have : ∀ l : List Nat, l.map (Sh.num ∘ madeF (cutQ ns ps x) i) = l := fun l => by
    induction l with
    | nil => rfl
    | cons c l ih => rw [List.map_cons, ih]; show (madeF _ i c).num :: l = _; rw [made_num]
  exact this _
theorem kept_txt {k : Nat} (h : k ∈ keptQ ns ps x) : k < ns.length ∧ (nq ns k).txt = false := by
  have sn := (made_lk g).seen
  obtain ⟨h1, h2⟩ := (sn.mem k).mp (kept_mem g hx h)
  refine ⟨h1, ?_⟩
  have h2 : (!(nq ns k).txt) = true := h2
  rw [Bool.not_eq_true'] at h2
  exact h2
theorem cut_reach : ∀ (n k : Nat), k ∈ keptQ ns ps x → (enOf (madeS ns)).idxOf k < n → ∃ p ∈ esOf (cutS ns ps x), p.num = k
  | 0, _, _, h => absurd h (Nat.not_lt_zero _)
  | n + 1, k, hk, h => by
    have sn := (made_lk g).seen
    have hke := kept_mem g hx hk
    obtain ⟨hkl, hkt⟩ := kept_txt g hx hk
    have fin : ∀ p ∈ (cutS ns ps x).pre, p.num = k → ∃ p ∈ esOf (cutS ns ps x), p.num = k := fun p hp e => by
      obtain ⟨i, h1, h2, h3, h4⟩ := cut_part g hx hp
      refine ⟨p, es_mem.mpr ⟨hp, ?_⟩, e⟩
      rw [h4, e, hkt]; rfl
    cases e : (bQ ns ps).up k with
    | none =>
      cases k with
      | zero => exact fin _ (Sh.pre_self _) (made_num 60 0)
      | succ k => exact absurd e (g.all _ hkl (Nat.succ_pos _))
    | some p =>
      obtain ⟨hpe, hlt⟩ := sn.par k p hkl e
      obtain ⟨p', hp', ep⟩ := cut_reach n p (kept_up g hx hk e).1 (by have := hlt hke; omega)
      have hm : k ∈ p'.kids.map Sh.num := by rw [cut_kn g hx hp', ep]; exact cut_kid g hx hk e
      obtain ⟨c, hc, rfl⟩ := List.mem_map.mp hm
      exact fin c (kid_in (es_mem.mp hp').1 hc) rfl
theorem cut_tel : Tel (bC ns ps x) (cutS ns ps x) where
  uni := (cut_nums 60 0 (g.hq g.pos)).nodup (made_uni g)
  mem := fun k => by
    rw [en_mem]
    constructor
    · rintro ⟨p, hp, rfl⟩
      obtain ⟨h0, hE⟩ := es_mem.mp hp
      obtain ⟨i, h1, h2, h3, h4⟩ := cut_part g hx h0
      refine ⟨h3, ?_⟩
      show (!(nq ns p.num).txt && decide (p.num ∈ keptQ ns ps x)) = true
      rw [← h4, hE, decide_eq_true (cut_kept g hx h0 hE)]; rfl
    · rintro ⟨hk, hE⟩
      have hE : (!(nq ns k).txt && decide (k ∈ keptQ ns ps x)) = true := hE
      rw [Bool.and_eq_true, decide_eq_true_eq] at hE
      exact cut_reach g hx _ k hE.2 (Nat.lt_succ_self _)
  kids := fun p hp => (cut_kn g hx hp).symm
  up := fun k q hk => by
    constructor
    · intro hu
      have hu : (match ps.getD k none with | none => none | some p => if p ∈ keptQ ns ps x ∧ k ∈ cutK ns ps x p then some p else none) = some q := hu
      cases e : ps.getD k none with
      | none => rw [e] at hu; cases hu
      | some p =>
        rw [e] at hu
        have hu : (if p ∈ keptQ ns ps x ∧ k ∈ cutK ns ps x p then some p else none) = some q := hu
        split at hu
        · rename_i hc
          have epq := Option.some.inj hu
          subst epq
          obtain ⟨p', hp', ep⟩ := cut_reach g hx _ p hc.1 (Nat.lt_succ_self _)
          refine ⟨p', hp', ep, ?_⟩
          rw [cut_kn g hx hp', ep]
          exact hc.2
        · cases hu
    · rintro ⟨p, hp, rfl, hc⟩
      rw [cut_kn g hx hp] at hc
      obtain ⟨h0, hE⟩ := es_mem.mp hp
      obtain ⟨i, h1, h2, h3, h4⟩ := cut_part g hx h0
      have hu := (g.kup h3 (cutK_mem hc).1).2
      show (match ps.getD k none with | none => none | some p => if p ∈ keptQ ns ps x ∧ k ∈ cutK ns ps x p then some p else none) = some p.num
      rw [hu]
      show (if p.num ∈ keptQ ns ps x ∧ k ∈ cutK ns ps x p.num then some p.num else none) = some p.num
      rw [if_pos ⟨cut_kept g hx h0 hE, hc⟩]
  E := fun p hp => by
    obtain ⟨i, h1, h2, h3, h4⟩ := cut_part g hx hp
    show (!(nq ns p.num).txt && decide (p.num ∈ keptQ ns ps x)) = p.isE
    cases hE : p.isE with
    | true => rw [← h4, hE, decide_eq_true (cut_kept g hx hp hE)]; rfl
    | false => rw [← h4, hE]; rfl
  lt := fun p hp => by
    obtain ⟨i, h1, h2, h3, h4⟩ := cut_part g hx hp
    exact h3
theorem cut_vw : Vw (cutS ns ps x) where
  sz := by
    have h := (cut_nums (x := x) (ps := ps) 60 0 (g.hq g.pos)).length_le
    unfold Sh.nums at h
    rw [List.length_map, List.length_map] at h
    have h2 := (made_vw g).sz
    unfold Sh.size at h2 ⊢
    exact Nat.le_trans h h2
  uni := (cut_tel g hx).uni
  mms := fun p hp => by
    obtain ⟨i, h1, h2, h3, h4⟩ := cut_part g hx hp
    cases ht : (nq (cutQ ns ps x) p.num).txt with
    | true =>
      rw [h2]
      unfold madeF
      rw [if_pos ht]
      exact ⟨List.nodup_nil, Nat.zero_le _⟩
    | false =>
      refine ⟨?_, ?_⟩
      · rw [h2, made_mks h1 ht, nq_cut h3]
        exact (g.mks _ h3).1
      · rw [h2, made_kids, ht]
        show (List.map _ _).length ≤ _
        rw [List.length_map]
        exact Nat.le_trans h1.2.1 (by decide)
end
end LM
end
section
set_option Elab.async false
set_option linter.all false
set_option maxRecDepth 100000
set_option maxHeartbeats 1000000
namespace LM
open PySem DL Tst Tb
/-! tests that look back -/
mutual
def BkT : Tst → Prop
  | .leaf w _ => w ≠ "last" ∧ w ≠ "empty"
  | .un w t => w ≠ "over" ∧ w ≠ "has" ∧ BkT t
  | .many _ ts => BkTs ts
def BkTs : List Tst → Prop
  | [] => True
  | t :: ts => BkT t ∧ BkTs ts
end
theorem bkTs_iff : ∀ ts : List Tst, BkTs ts ↔ ∀ t ∈ ts, BkT t
  | [] => ⟨fun _ t h => (nomatch h), fun _ => (by unfold BkTs; trivial)⟩
  | t :: ts => by
    unfold BkTs
    rw [bkTs_iff ts]
    exact ⟨fun h x hx => (List.mem_cons.mp hx).elim (fun e => e ▸ h.1) (h.2 x), fun h => ⟨h t List.mem_cons_self, fun x hx => h x (List.mem_cons_of_mem _ hx)⟩⟩
theorem bk_own (ds : List Int) : BkT (ownT ds) := by
  unfold ownT
  dsimp only
  split
  · unfold BkT; decide +kernel
  split
  · unfold BkT; decide +kernel
  split
  · unfold BkT; decide +kernel
  split
  · unfold BkT; decide +kernel
  split
  · unfold BkT; decide +kernel
  · unfold BkT; decide +kernel
theorem bk_lawT : ∀ (n : Nat) (ds : List Int), BkT (lawT n ds true)
  | 0, ds => bk_own ds
  | n + 1, ds => by
    have ih := bk_lawT n
    unfold lawT
    dsimp only
    split
    · exact bk_own ds
    rename_i h3
    split
    · unfold BkT; exact ⟨by decide +kernel, by decide +kernel, ih _⟩
    rename_i h5
    split
    · rename_i h9
      unfold BkT
      exact ⟨sAt_in (l := ["under", "in", "next", "behind"]) (p := fun x => x ≠ "over") (by omega) (by show dAt ds 3 % 14 - 5 < 4; omega) (by decide +kernel), sAt_in (l := ["under", "in", "next", "behind"]) (p := fun x => x ≠ "has") (by omega) (by show dAt ds 3 % 14 - 5 < 4; omega) (by decide +kernel), ih _⟩
    split
    · unfold BkT BkTs BkTs BkTs
      exact ⟨ih _, ih _, trivial⟩
    · rw [if_pos rfl]
      exact bk_own ds
theorem ownS_same {w : Str} {as : List Str} {p p' : Sh} {ah af af' : Option Nat} (h1 : w ≠ "last") (h2 : w ≠ "empty") (e1 : p.tx = p'.tx) (e2 : p.mks = p'.mks) (e3 : ∀ a : Str, (p.kids.any fun c => !c.isE && decide (c.tx = a)) = p'.kids.any fun c => !c.isE && decide (c.tx = a)) : ownS w as p ah af = ownS w as p' ah af' := by
  unfold ownS
  rw [e1, e2, e3, if_neg h1, if_neg h1, if_neg h2, if_neg h2]
variable {ns : List Nq} {ps : List (Option Nat)} {x : Nat}
def bX (ns : List Nq) (ps : List (Option Nat)) (x : Nat) : Tb := withS (bC ns ps x) (cutS ns ps x)
section
variable (g : Gr ns ps) (hx : x ∈ enOf (madeS ns))
include g hx
theorem cut_in {m : Nat} (hm : m ∈ keptQ ns ps x) : m ∈ enOf (cutS ns ps x) := en_mem.mpr (cut_reach g hx _ m hm (Nat.lt_succ_self _))
theorem cut_up {m : Nat} (hm : m ∈ keptQ ns ps x) : (bX ns ps x).up m = (bQ ns ps).up m := by
  show (match ps.getD m none with | none => none | some p => if p ∈ keptQ ns ps x ∧ m ∈ cutK ns ps x p then some p else none) = ps.getD m none
  cases e : ps.getD m none with
  | none => rfl
  | some p =>
    show (if p ∈ keptQ ns ps x ∧ m ∈ cutK ns ps x p then some p else none) = some p
    rw [if_pos ⟨(kept_up g hx hm e).1, cut_kid g hx hm e⟩]
theorem cut_abv : ∀ (n m : Nat), m ∈ keptQ ns ps x → (enOf (madeS ns)).idxOf m < n → (bX ns ps x).abv m = (bQ ns ps).abv m
  | 0, _, _, h => absurd h (Nat.not_lt_zero _)
  | n + 1, m, hm, h => by
    have sn := (made_lk g).seen
    have sn' := (cut_tel g hx).withS.seen
    have hme := kept_mem g hx hm
    have e1 : (bX ns ps x).abv m = match (bX ns ps x).up m with | none => [] | some p => p :: (bX ns ps x).abv p := sn'.abv_eq (cut_in g hx hm)
    have e2 : (bQ ns ps).abv m = match (bQ ns ps).up m with | none => [] | some p => p :: (bQ ns ps).abv p := sn.abv_eq hme
    rw [e1, e2, cut_up g hx hm]
    cases e : (bQ ns ps).up m with
    | none => rfl
    | some p =>
      have hlt := (sn.par m p ((sn.mem m).mp hme).1 e).2 hme
      show p :: _ = p :: _
      rw [cut_abv n p (kept_up g hx hm e).1 (by omega)]
theorem cut_bef {m : Nat} (hm : m ∈ keptQ ns ps x) : (bX ns ps x).bef m = (bQ ns ps).bef m := by
  have sn := (made_lk g).seen
  have sn' := (cut_tel g hx).withS.seen
  have hme := kept_mem g hx hm
  cases e : (bQ ns ps).up m with
  | none =>
    unfold bef
    rw [cut_up g hx hm, e]
  | some p =>
    obtain ⟨hp, hpx⟩ := kept_up g hx hm e
    obtain ⟨_, _, e1⟩ := sn'.bef_eq (cut_in g hx hm) ((cut_up g hx hm).trans e)
    obtain ⟨_, _, e2⟩ := sn.bef_eq hme e
    have e1 : (bX ns ps x).bef m = ((bX ns ps x).ek p).take (((bX ns ps x).ek p).idxOf m) := e1
    have e2 : (bQ ns ps).bef m = ((bQ ns ps).ek p).take (((bQ ns ps).ek p).idxOf m) := e2
    have ek : (bX ns ps x).ek p = ((bQ ns ps).ek p).filter fun c => decide (c ∈ keptQ ns ps x) := by
      show (cutK ns ps x p).filter (fun k => !(nq ns k).txt && decide (k ∈ keptQ ns ps x)) = ((nq ns p).kids.filter fun k => !(nq ns k).txt).filter _
      unfold cutK
      rw [if_neg hpx, List.filter_filter, List.filter_filter]
      refine List.filter_congr fun c _ => ?_
      cases decide (c ∈ keptQ ns ps x) <;> cases (nq ns c).txt <;> rfl
    have hpe := (sn.par m p ((sn.mem m).mp hme).1 e).1
    rw [e1, e2, ek]
    refine filt_take ((sn.ek_mem hpe).mpr ⟨hme, e⟩) (decide_eq_true hm) fun y hy => decide_eq_true (kept_bef g hx hm y ?_)
    rw [e2]
    exact hy
theorem cut_own {m : Nat} (hm : m ∈ keptQ ns ps x) {w : Str} {as : List Str} (hw : lawKind w < 4) (hl : as.length = kindLen (lawKind w)) (h1 : w ≠ "last") (h2 : w ≠ "empty") : (bX ns ps x).own w as m = (bQ ns ps).own w as m := by
  obtain ⟨p', hp', rfl⟩ := en_mem.mp (cut_in g hx hm)
  obtain ⟨p, hp, ep⟩ := en_mem.mp (kept_mem g hx hm)
  have e1 : (bX ns ps x).own w as p'.num = ownS w as p' ((bX ns ps x).bef p'.num).getLast? ((bC ns ps x).aft p'.num) := by
    show ownTr (bC ns ps x) (cutS ns ps x) w as p'.num = _
    unfold ownTr
    rw [(cut_tel g hx).uni.find (es_mem.mp hp').1]; rfl
  have e2 : (bQ ns ps).own w as p'.num = ownS w as p ((bQ ns ps).bef p'.num).getLast? ((bQ ns ps).aft p'.num) := by
    rw [← ep]
    exact (made_lk g).own p hp w as hw hl
  rw [e1, e2, cut_bef g hx hm]
  obtain ⟨i, a1, a2, a3⟩ := made_part g (es_mem.mp hp).1
  obtain ⟨i', b1, b2, b3, b4⟩ := cut_part g hx (es_mem.mp hp').1
  obtain ⟨_, ht⟩ := made_kn g hp
  have ht' : (nq (cutQ ns ps x) p'.num).txt = false := by rw [nq_cut b3, ← ep]; exact ht
  refine ownS_same h1 h2 ?_ ?_ fun a => ?_
  · conv => lhs; rw [b2, made_tx b1, nq_cut b3]
    conv => rhs; rw [a2, made_tx a1, ep]
  · conv => lhs; rw [b2, made_mks b1 ht', nq_cut b3]
    conv => rhs; rw [a2, made_mks a1 ht, ep]
  · have k1 : p'.kids = (cutK ns ps x p'.num).map (madeF (cutQ ns ps x) i') := by
      conv => lhs; rw [b2, made_kids, ht']
      rw [nq_cut b3]; rfl
    have k2 : p.kids = (nq ns p'.num).kids.map (madeF ns i) := by
      conv => lhs; rw [a2, made_kids, ht, ep]
      rfl
    rw [k1, k2, List.any_map, List.any_map, Bool.eq_iff_iff, List.any_eq_true, List.any_eq_true]
    have hk1 : ∀ c ∈ cutK ns ps x p'.num, (!(madeF (cutQ ns ps x) i' c).isE && decide ((madeF (cutQ ns ps x) i' c).tx = a)) = ((nq ns c).txt && decide ((nq ns c).name = a)) := fun c hc => by
      have hq := b1.2.2 c (by rw [nq_cut b3]; exact hc)
      have hcl := hq.lt
      rw [cut_len] at hcl
      rw [made_isE hq, made_tx hq, Bool.not_not, nq_cut hcl]
    have hk2 : ∀ c ∈ (nq ns p'.num).kids, (!(madeF ns i c).isE && decide ((madeF ns i c).tx = a)) = ((nq ns c).txt && decide ((nq ns c).name = a)) := fun c hc => by
      have hq := a1.2.2 c (by rw [ep]; exact hc)
      rw [made_isE hq, made_tx hq, Bool.not_not]
    constructor
    · rintro ⟨c, hc, z⟩
      refine ⟨c, (cutK_mem hc).1, ?_⟩
      show (!(madeF ns i c).isE && decide ((madeF ns i c).tx = a)) = true
      rw [hk2 c (cutK_mem hc).1, ← hk1 c hc]
      exact z
    · rintro ⟨c, hc, z⟩
      have z : (!(madeF ns i c).isE && decide ((madeF ns i c).tx = a)) = true := z
      rw [hk2 c hc] at z
      have hct : (nq ns c).txt = true := (Bool.and_eq_true _ _ ▸ z).1
      have hcc : c ∈ cutK ns ps x p'.num := by
        unfold cutK
        have hf : c ∈ (nq ns p'.num).kids.filter fun c => decide (c ∈ keptQ ns ps x) || (nq ns c).txt := List.mem_filter.mpr ⟨hc, by rw [hct, Bool.or_true]⟩
        split
        · exact List.mem_filter.mpr ⟨hf, hct⟩
        · exact hf
      refine ⟨c, hcc, ?_⟩
      show (!(madeF (cutQ ns ps x) i' c).isE && decide ((madeF (cutQ ns ps x) i' c).tx = a)) = true
      rw [hk1 c hcc]
      exact z
end
theorem any_same {l : List Nat} {f h : Nat → Bool} (e : ∀ m ∈ l, f m = h m) : l.any f = l.any h := by
  rw [Bool.eq_iff_iff, List.any_eq_true, List.any_eq_true]
  exact ⟨fun ⟨m, hm, z⟩ => ⟨m, hm, by rw [← e m hm]; exact z⟩, fun ⟨m, hm, z⟩ => ⟨m, hm, by rw [e m hm]; exact z⟩⟩
theorem oany_same {o : Option Nat} {f h : Nat → Bool} (e : ∀ m, o = some m → f m = h m) : o.any f = o.any h := by
  cases o with
  | none => rfl
  | some m => exact e m rfl
mutual
theorem cut_sem (g : Gr ns ps) (hx : x ∈ enOf (madeS ns)) : ∀ t : Tst, WF t → BkT t → ∀ m ∈ keptQ ns ps x, (bX ns ps x).sem t m = (bQ ns ps).sem t m
  | .leaf w as, wf, bk, m, hm => by
    unfold WF at wf
    unfold BkT at bk
    have e1 : (bX ns ps x).sem (.leaf w as) m = (bX ns ps x).own w as m := by conv => lhs; unfold sem
    have e2 : (bQ ns ps).sem (.leaf w as) m = (bQ ns ps).own w as m := by conv => lhs; unfold sem
    rw [e1, e2, cut_own g hx hm wf.1 wf.2 bk.1 bk.2]
  | .un w t, wf, bk, m, hm => by
    unfold WF at wf
    unfold BkT at bk
    have ih := cut_sem g hx t wf.2 bk.2.2
    have sn := (made_lk g).seen
    have hw : w ∈ lawL5 := kind_5.mpr wf.1
    simp only [lawL5, List.mem_cons, List.not_mem_nil, or_false] at hw
    rw [sem_un, sem_un]
    have ha : (bX ns ps x).abv m = (bQ ns ps).abv m := cut_abv g hx _ m hm (Nat.lt_succ_self _)
    have hb : (bX ns ps x).bef m = (bQ ns ps).bef m := cut_bef g hx hm
    have hak : ∀ (n k : Nat), k ∈ keptQ ns ps x → (enOf (madeS ns)).idxOf k < n → ∀ q ∈ (bQ ns ps).abv k, q ∈ keptQ ns ps x := fun n => by
      induction n with
      | zero => intro k _ h; exact absurd h (Nat.not_lt_zero _)
      | succ n ihn =>
        intro k hk h q hq
        have hke := kept_mem g hx hk
        have e2 : (bQ ns ps).abv k = match (bQ ns ps).up k with | none => [] | some p => p :: (bQ ns ps).abv p := sn.abv_eq hke
        rw [e2] at hq
        cases e : (bQ ns ps).up k with
        | none => rw [e] at hq; cases hq
        | some p =>
          rw [e] at hq
          have hlt := (sn.par k p ((sn.mem k).mp hke).1 e).2 hke
          rcases List.mem_cons.mp hq with rfl | hq
          · exact (kept_up g hx hk e).1
          · exact ihn p (kept_up g hx hk e).1 (by omega) q hq
    have ham := hak _ m hm (Nat.lt_succ_self _)
    have hbm := kept_bef g hx hm
    rcases hw with rfl | rfl | rfl | rfl | rfl | rfl | rfl
    · dsimp only
      rw [if_pos rfl, if_pos rfl, ih m hm]
    · dsimp only
      rw [if_neg (by decide +kernel), if_pos rfl, if_neg (by decide +kernel), if_pos rfl, ha]
      exact oany_same fun q hq => ih q (ham q (List.mem_of_mem_head? hq))
    · dsimp only
      rw [if_neg (by decide +kernel), if_neg (by decide +kernel), if_pos rfl, if_neg (by decide +kernel), if_neg (by decide +kernel), if_pos rfl, ha]
      exact any_same fun q hq => ih q (ham q hq)
    · dsimp only
      rw [if_neg (by decide +kernel), if_neg (by decide +kernel), if_neg (by decide +kernel), if_pos rfl, if_neg (by decide +kernel), if_neg (by decide +kernel), if_neg (by decide +kernel), if_pos rfl, hb]
      exact oany_same fun q hq => ih q (hbm q (List.mem_of_getLast? hq))
    · dsimp only
      rw [if_neg (by decide +kernel), if_neg (by decide +kernel), if_neg (by decide +kernel), if_neg (by decide +kernel), if_pos rfl, if_neg (by decide +kernel), if_neg (by decide +kernel), if_neg (by decide +kernel), if_neg (by decide +kernel), if_pos rfl, hb]
      exact any_same fun q hq => ih q (hbm q hq)
    · exact absurd rfl bk.1
    · exact absurd rfl bk.2.1
  | .many w ts, wf, bk, m, hm => by
    unfold WF at wf
    unfold BkT at bk
    have ih := cut_sems g hx ts ((wfs_iff ts).mp wf.2) ((bkTs_iff ts).mp bk) m hm
    rw [sem_many, sem_many]
    dsimp only
    have e1 : (ts.all fun t => (bX ns ps x).sem t m) = ts.all fun t => (bQ ns ps).sem t m := by
      rw [Bool.eq_iff_iff, List.all_eq_true, List.all_eq_true]
      exact ⟨fun h t ht => by rw [← ih t ht]; exact h t ht, fun h t ht => by rw [ih t ht]; exact h t ht⟩
    have e2 : (ts.any fun t => (bX ns ps x).sem t m) = ts.any fun t => (bQ ns ps).sem t m := by
      rw [Bool.eq_iff_iff, List.any_eq_true, List.any_eq_true]
      exact ⟨fun ⟨t, ht, z⟩ => ⟨t, ht, by rw [← ih t ht]; exact z⟩, fun ⟨t, ht, z⟩ => ⟨t, ht, by rw [ih t ht]; exact z⟩⟩
    rw [e1, e2]
theorem cut_sems (g : Gr ns ps) (hx : x ∈ enOf (madeS ns)) : ∀ ts : List Tst, (∀ t ∈ ts, WF t) → (∀ t ∈ ts, BkT t) → ∀ m ∈ keptQ ns ps x, ∀ t ∈ ts, (bX ns ps x).sem t m = (bQ ns ps).sem t m
  | [], _, _, _, _, _, h => nomatch h
  | t :: ts, wf, bk, m, hm, t', h => by
    rcases List.mem_cons.mp h with e | h
    · rw [e]
      exact cut_sem g hx t (wf t List.mem_cons_self) (bk t List.mem_cons_self) m hm
    · exact cut_sems g hx ts (fun y hy => wf y (List.mem_cons_of_mem _ hy)) (fun y hy => bk y (List.mem_cons_of_mem _ hy)) m hm t' h
end
/-- the answer in what is left -/
def cutL (ns : List Nq) (ps : List (Option Nat)) (x : Nat) (t : Tst) : List Nat := (enOf (cutS ns ps x)).filter ((bX ns ps x).sem t)
theorem ans_cut (g : Gr ns ps) (hx : x ∈ enOf (madeS ns)) {t : Tst} (wf : WF t) : ansL (cutS ns ps x) t = cutL ns ps x t := ans_eq (lk_self (cut_tel g hx)) (cut_vw g hx) wf
theorem cut_same (g : Gr ns ps) (hx : x ∈ enOf (madeS ns)) {t : Tst} (wf : WF t) (bk : BkT t) : decide (x ∈ cutL ns ps x t) = decide (x ∈ enL ns ps t) := by
  have hk : x ∈ keptQ ns ps x := List.mem_append_left _ List.mem_cons_self
  rw [decide_eq_decide, mem_L]
  unfold cutL
  rw [List.mem_filter, cut_sem g hx t wf bk x hk]
  exact ⟨fun h => ⟨hx, h.2⟩, fun h => ⟨cut_in g hx hk, h.2⟩⟩
theorem pre_cut (g : Gr ns ps) (hx : x ∈ enOf (madeS ns)) {t : Tst} (ok : Okt 7 t) (ne : NE t) : LW.preAn (cutS ns ps x, t) := ⟨cut_vw g hx, plc_ok (lk_self (cut_tel g hx)) (cut_vw g hx), plc_oki (lk_self (cut_tel g hx)) (cut_vw g hx), ok, ne⟩
theorem way_len {n : Nat} (h : ns.length ≤ n) : (wayQ ns ps x).length ≤ n + 1 := by
  have := abQ_len ps ns.length x
  unfold wayQ
  rw [List.length_cons]; omega
theorem bef_len (g : Gr ns ps) {k : Nat} (hk : k < ns.length) : (befQ ns ps k).length ≤ 60 := by
  have h := (tab_lt g (w := "behind") hk).2
  have e : tabR ns ps "behind" k = befQ ns ps k := by unfold tabR; rw [if_neg (by decide +kernel), if_pos rfl]
  rw [e] at h
  exact h
end LM
end
section
set_option Elab.async false
set_option linter.all false
namespace LM
open PySem DL
namespace Sh
theorem pre_bare (s : Sh) : (bare s).pre = [bare s] := by
  rw [pre_eq]
  cases s <;> rfl
theorem flat_bare (ks : List Sh) : (ks.map bare).flatMap pre = ks.map bare := by
  induction ks with
  | nil => rfl
  | cons k ks ih => rw [List.map_cons, List.flatMap_cons, pre_bare, ih]; rfl
theorem msB_seen {o : Op} {s : Sh} {ks : List Sh} (h : s.msB = true) : (seen o s ks).msB = true := by
  cases s with
  | t n x =>
    have h : decide (x.length ≤ 1000) = true := h
    show decide ((if o.texts then x else "").length ≤ 1000) = true
    split
    · exact h
    · decide
  | e n nm ms _ =>
    have h : (decide (nm.length ≤ 1000) && decide (ms.length ≤ 1000) && ms.all fun p => decide (p.1.length ≤ 1000) && decide (p.2.length ≤ 1000)) = true := h
    simp only [Bool.and_eq_true] at h
    obtain ⟨⟨h1, h2⟩, h3⟩ := h
    show (decide (nm.length ≤ 1000) && decide ((ms.filter fun p => o.wants p.1).length ≤ 1000) && (ms.filter fun p => o.wants p.1).all fun p => decide (p.1.length ≤ 1000) && decide (p.2.length ≤ 1000)) = true
    have h4 : ((ms.filter fun p => o.wants p.1).all fun p => decide (p.1.length ≤ 1000) && decide (p.2.length ≤ 1000)) = true := List.all_eq_true.mpr fun p hp => List.all_eq_true.mp h3 p (List.mem_filter.mp hp).1
    rw [h1, decide_eq_true (Nat.le_trans (List.length_filter_le _ _) (of_decide_eq_true h2)), h4]; rfl
theorem msB_bare {s : Sh} (h : s.msB = true) : (bare s).msB = true := by
  cases s with
  | t n x => show decide (("" : Str).length ≤ 1000) = true; decide
  | e n nm ms _ =>
    have h : (decide (nm.length ≤ 1000) && decide (ms.length ≤ 1000) && ms.all fun p => decide (p.1.length ≤ 1000) && decide (p.2.length ≤ 1000)) = true := h
    simp only [Bool.and_eq_true] at h
    show (decide (nm.length ≤ 1000) && true && true) = true
    rw [h.1.1]; rfl
theorem dep_viewA {o : Op} : ∀ s : Sh, (viewA o s).dep ≤ s.dep := indk fun s ih => by
  cases s with
  | t n x => rw [viewA]; show (t n _).dep ≤ _; rw [dep, dep]; exact Nat.le_refl _
  | e n nm ms ks =>
    have hk : (viewA o (e n nm ms ks)) = e n nm (ms.filter fun p => o.wants p.1) (ks.map (viewA o)) := by rw [viewA_eq]; rfl
    rw [hk, dep, dep]
    refine Nat.succ_le_succ (deps_le fun k hk => ?_)
    obtain ⟨c, hc, rfl⟩ := List.mem_map.mp hk
    exact Nat.le_trans (ih c hc) (deps_kid hc)
theorem Fit.viewA {o : Op} {s : Sh} (f : Fit s) : Fit (viewA o s) := by
  refine ⟨?_, ?_, Nat.le_trans (dep_viewA s) f.dep, fun p hp => ?_⟩
  · unfold Uni nums
    rw [pre_viewA, List.map_map]
    have e : num ∘ Sh.viewA o = num := by funext p; exact viewA_num
    rw [e]
    exact f.uni
  · unfold Sh.size
    rw [pre_viewA, List.length_map]
    exact f.size
  · rw [pre_viewA] at hp
    obtain ⟨q, hq, rfl⟩ := List.mem_map.mp hp
    rw [viewA_eq]
    exact msB_seen (f.ms q hq)
theorem pre_seen {o : Op} {s : Sh} {ks : List Sh} : (seen o s ks).pre = seen o s ks :: (if s.isE then ks.flatMap pre else []) := by
  rw [pre_eq, seen_kids]
  cases s <;> rfl
theorem Fit.seen0 {o : Op} {s : Sh} (f : Fit s) : Fit (seen o s []) := by
  have e : (seen o s []).pre = [seen o s []] := by rw [pre_seen]; cases s <;> rfl
  refine ⟨?_, ?_, ?_, fun p hp => ?_⟩
  · unfold Uni nums
    rw [e]
    exact List.nodup_cons.mpr ⟨(fun z => nomatch z), List.nodup_nil⟩
  · unfold Sh.size; rw [e]; show 1 ≤ 1000; decide
  · have h : (seen o s []).dep ≤ 1 := by
      cases s with
      | t n x => show (Sh.t n _).dep ≤ 1; rw [Sh.dep]; exact Nat.le_refl _
      | e n nm ms ks => show (Sh.e n nm _ []).dep ≤ 1; rw [Sh.dep, Sh.deps]; exact Nat.le_refl _
    exact Nat.le_trans h (by decide)
  · rw [e, List.mem_singleton] at hp
    subst hp
    exact msB_seen (f.ms s (pre_self s))
theorem Fit.seenL {o : Op} {s : Sh} (f : Fit s) : Fit (seen o s (s.kids.map bare)) := by
  have e : (seen o s (s.kids.map bare)).pre = seen o s (s.kids.map bare) :: s.kids.map bare := by
    rw [pre_seen, flat_bare]
    cases s <;> rfl
  refine ⟨?_, ?_, ?_, fun p hp => ?_⟩
  · unfold Uni nums
    rw [e, List.map_cons, List.map_map, seen_num]
    have e2 : num ∘ bare = num := by funext p; exact bare_num
    rw [e2]
    have u := f.uni
    unfold Uni nums at u
    rw [pre_eq, List.map_cons] at u
    refine List.nodup_cons.mpr ⟨fun z => (List.nodup_cons.mp u).1 ?_, kids_nums_nodup f.uni⟩
    obtain ⟨k, hk, e3⟩ := List.mem_map.mp z
    exact List.mem_map.mpr ⟨k, List.mem_flatMap.mpr ⟨k, hk, pre_self k⟩, e3⟩
  · have h := kids_le s
    have h2 := f.size
    unfold Sh.size
    rw [e, List.length_cons, List.length_map]
    have h3 : s.kids.length + 1 ≤ s.size := by
      have hf : ∀ ks : List Sh, ks.length ≤ (ks.flatMap pre).length := fun ks => by
        induction ks with
        | nil => exact Nat.le_refl _
        | cons k ks ih =>
          rw [List.flatMap_cons, List.length_append, List.length_cons]
          have := size_pos k
          unfold Sh.size at this
          omega
      unfold Sh.size
      rw [pre_eq, List.length_cons]
      exact Nat.succ_le_succ (hf _)
    omega
  · have h : (seen o s (s.kids.map bare)).dep ≤ 2 := by
      cases s with
      | t n x => show (Sh.t n _).dep ≤ 2; rw [Sh.dep]; decide
      | e n nm ms ks =>
        show (Sh.e n nm _ (ks.map bare)).dep ≤ 2
        rw [Sh.dep]
        refine Nat.succ_le_succ (deps_le fun k hk => ?_)
        obtain ⟨c, _, rfl⟩ := List.mem_map.mp hk
        cases c with
        | t n x => show (Sh.t n _).dep ≤ 1; rw [Sh.dep]; exact Nat.le_refl _
        | e n nm ms ks => show (Sh.e n nm _ []).dep ≤ 1; rw [Sh.dep, Sh.deps]; exact Nat.le_refl _
    exact Nat.le_trans h (by decide)
  · rw [e] at hp
    rcases List.mem_cons.mp hp with rfl | hp
    · exact msB_seen (f.ms s (pre_self s))
    · obtain ⟨c, hc, rfl⟩ := List.mem_map.mp hp
      exact msB_bare (f.ms c (kid_pre hc))
theorem Fit.view {o : Op} {s : Sh} (f : Fit s) : Fit (view o s) := by
  unfold Sh.view
  split
  · exact f.seen0
  split
  · exact f.seenL
  · exact f.viewA
/-- how deep its data are -/
theorem dlt_pairs {n : Nat} {ms : List (Str × Str)} (h : ms.length ≤ 1000) : DLt (n + 3) (pairsD ms) := by
  refine ⟨by rw [List.length_map]; omega, fun x hx => ?_⟩
  obtain ⟨p, _, rfl⟩ := List.mem_map.mp hx
  exact ⟨by show 2 ≤ 1000000; decide, fun y hy => by
    simp at hy
    rcases hy with rfl | rfl <;> trivial⟩
theorem dlt_toD : ∀ s : Sh, Fit s → DLt (2 * s.dep + 3) s.toD := indk fun s ih f => by
  cases s with
  | t n x =>
    rw [toD_t]
    refine DLt.mono (n := 2) ⟨by show 3 ≤ 1000000; decide, fun y hy => ?_⟩ (by omega)
    simp only [List.mem_cons, List.mem_nil_iff, or_false] at hy
    rcases hy with rfl | rfl | rfl <;> trivial
  | e n nm ms ks =>
    rw [toD_e, dep]
    have hms : ms.length ≤ 1000 := by
      have h := f.ms _ (pre_self _)
      have h : (decide (nm.length ≤ 1000) && decide (ms.length ≤ 1000) && _) = true := h
      simp only [Bool.and_eq_true] at h
      exact of_decide_eq_true h.1.2
    have e : 2 * (deps ks + 1) + 3 = (2 * deps ks + 4) + 1 := by omega
    rw [e]
    refine ⟨by show 5 ≤ 1000000; decide, fun y hy => ?_⟩
    simp only [List.mem_cons, List.mem_nil_iff, or_false] at hy
    rcases hy with rfl | rfl | rfl | rfl | rfl
    · trivial
    · trivial
    · trivial
    · exact DLt.mono (dlt_pairs (n := 0) hms) (by omega)
    · refine ⟨by rw [List.length_map]; exact Nat.le_trans f.kl (by decide), fun z hz => ?_⟩
      obtain ⟨c, hc, rfl⟩ := List.mem_map.mp hz
      have hd := deps_kid hc
      exact DLt.mono (ih c hc (f.kid hc)) (by omega)
theorem Fit.dlt {s : Sh} (f : Fit s) : DLt 123 s.toD := DLt.mono (dlt_toD s f) (by have := f.dep; omega)
end Sh
end LM
end
section
set_option Elab.async false
set_option linter.all false
set_option maxRecDepth 100000
set_option maxHeartbeats 1000000
namespace LM
open PySem DL Tst Tb
/-! texts in order, each once: there is such a row -/
theorem leS_total (a b : Str) : leS a b ∨ leS b a := List.le_total (α := Nat) a.cps.toList b.cps.toList
open Classical in
noncomputable def insS (x : Str) : List Str → List Str
  | [] => [x]
  | y :: ys => if leS x y then x :: y :: ys else y :: insS x ys
theorem insS_mem (x : Str) : ∀ (l : List Str) (k : Str), k ∈ insS x l ↔ k = x ∨ k ∈ l
  | [], k => by unfold insS; simp
  | y :: ys, k => by
    unfold insS
    split
    · simp
    · rw [List.mem_cons, insS_mem x ys k, List.mem_cons]
      constructor
      · rintro (h | h | h)
        · exact .inr (.inl h)
        · exact .inl h
        · exact .inr (.inr h)
      · rintro (h | h | h)
        · exact .inr (.inl h)
        · exact .inl h
        · exact .inr (.inr h)
theorem insS_pw (x : Str) : ∀ l : List Str, l.Pairwise leS → (insS x l).Pairwise leS
  | [], _ => by unfold insS; simp
  | y :: ys, h => by
    obtain ⟨h1, h2⟩ := List.pairwise_cons.mp h
    unfold insS
    split
    · rename_i hxy
      refine List.pairwise_cons.mpr ⟨fun k hk => ?_, h⟩
      rcases List.mem_cons.mp hk with rfl | hk
      · exact hxy
      · exact leS_trans hxy (h1 k hk)
    · rename_i hxy
      refine List.pairwise_cons.mpr ⟨fun k hk => ?_, insS_pw x ys h2⟩
      rcases (insS_mem x ys k).mp hk with rfl | hk
      · exact (leS_total k y).resolve_left hxy
      · exact h1 k hk
theorem insS_nd (x : Str) : ∀ l : List Str, l.Nodup → x ∉ l → (insS x l).Nodup
  | [], _, _ => by unfold insS; simp
  | y :: ys, h, hx => by
    obtain ⟨h1, h2⟩ := List.nodup_cons.mp h
    unfold insS
    split
    · exact List.nodup_cons.mpr ⟨hx, h⟩
    · refine List.nodup_cons.mpr ⟨fun z => ?_, insS_nd x ys h2 fun z => hx (List.mem_cons_of_mem _ z)⟩
      rcases (insS_mem x ys y).mp z with e | z
      · exact hx (by rw [e]; exact List.mem_cons_self)
      · exact h1 z
theorem asc_ex : ∀ l : List Str, ∃ ys, Asc l ys
  | [] => ⟨[], List.Pairwise.nil, List.nodup_nil, fun _ => Iff.rfl⟩
  | x :: l => by
    obtain ⟨ys, h⟩ := asc_ex l
    by_cases hx : x ∈ l
    · exact ⟨ys, h.pw, h.nd, fun k => (h.mem k).trans ⟨List.mem_cons_of_mem _, fun z => (List.mem_cons.mp z).elim (fun e => e ▸ hx) id⟩⟩
    · refine ⟨insS x ys, insS_pw x ys h.pw, insS_nd x ys h.nd fun z => hx ((h.mem x).mp z), fun k => ?_⟩
      rw [insS_mem, h.mem, List.mem_cons]
theorem srtS_mem {l : List Str} {k : Str} : k ∈ srtS l ↔ k ∈ l := by
  obtain ⟨ys, h⟩ := asc_ex l
  rw [← h.eq]
  exact h.mem k
theorem srtS_len {l : List Str} : (srtS l).length ≤ l.length := by
  obtain ⟨ys, h⟩ := asc_ex l
  rw [← h.eq]
  have : ∀ (a b : List Str), a.Nodup → (∀ k ∈ a, k ∈ b) → a.length ≤ b.length := fun a => by
    induction a with
    | nil => intro b _ _; exact Nat.zero_le _
    | cons x a ih =>
      intro b hn hs
      obtain ⟨h1, h2⟩ := List.nodup_cons.mp hn
      have hb := hs x List.mem_cons_self
      obtain ⟨p, q, e⟩ := List.append_of_mem hb
      have := ih (p ++ q) h2 fun k hk => by
        have hk2 := hs k (List.mem_cons_of_mem _ hk)
        rw [e] at hk2
        rcases List.mem_append.mp hk2 with z | z
        · exact List.mem_append_left _ z
        · rcases List.mem_cons.mp z with rfl | z
          · exact absurd hk h1
          · exact List.mem_append_right _ z
      rw [e, List.length_append, List.length_cons]
      rw [List.length_append] at this
      rw [List.length_cons]; omega
  exact this _ _ h.nd fun k hk => (h.mem k).mp hk
/-! what a test mentions -/
theorem told_iff {t s : Tst} : s ∈ told t ↔ s ∈ subT t := by
  refine ⟨told_sub, fun h => ?_⟩
  obtain ⟨s', h1, h2⟩ := List.mem_map.mp (told_has h)
  rw [← toD_inj _ _ h2]
  exact h1
noncomputable def mkL (t : Tst) : List Str := srtS (((told t).filter LW.pM).map fun s => a1D s.toD)
noncomputable def txL (t : Tst) : List Str := srtS (((told t).filter (LW.pW "text")).map fun s => a1D s.toD)
theorem mkL_mem {t : Tst} {a : Str} : a ∈ mkL t ↔ ∃ s ∈ subT t, wD s.toD ∈ LW.MV ∧ a1D s.toD = a := by
  unfold mkL
  rw [srtS_mem, List.mem_map]
  constructor
  · rintro ⟨s, hs, e⟩
    obtain ⟨h1, h2⟩ := List.mem_filter.mp hs
    exact ⟨s, told_sub h1, of_decide_eq_true h2, e⟩
  · rintro ⟨s, hs, h, e⟩
    exact ⟨s, List.mem_filter.mpr ⟨told_iff.mpr hs, decide_eq_true h⟩, e⟩
theorem txL_mem {t : Tst} {a : Str} : a ∈ txL t ↔ ∃ s ∈ subT t, wD s.toD = "text" ∧ a1D s.toD = a := by
  unfold txL
  rw [srtS_mem, List.mem_map]
  constructor
  · rintro ⟨s, hs, e⟩
    obtain ⟨h1, h2⟩ := List.mem_filter.mp hs
    exact ⟨s, told_sub h1, of_decide_eq_true h2, e⟩
  · rintro ⟨s, hs, h, e⟩
    exact ⟨s, List.mem_filter.mpr ⟨told_iff.mpr hs, decide_eq_true h⟩, e⟩
/-- options that show all that a test mentions -/
def Shows (o : Op) (t : Tst) : Prop := ∀ s ∈ subT t, (wD s.toD ∈ LW.MV → o.wants (a1D s.toD) = true) ∧ (wD s.toD = "text" → o.texts = true)
theorem Shows.kid {o : Op} {t s : Tst} (h : Shows o t) (hs : s ∈ t.kids) : Shows o s := fun r hr => h r (by rw [subT_eq]; exact List.mem_cons_of_mem _ (mem_subTs.mpr ⟨s, hs, hr⟩))
theorem self_sub (t : Tst) : t ∈ subT t := by rw [subT_eq]; exact List.mem_cons_self
/-! answers do not hang on what is not mentioned: the same tables, another tree with the same numbers -/
section
variable {b : Tb} {s s' : Sh}
/-- the same tree but for marks, names of texts, texts -/
structure Like (o : Op) (s s' : Sh) : Prop where
  en : enOf s' = enOf s
  at_ : ∀ p ∈ esOf s, ∃ p' ∈ esOf s', p'.num = p.num ∧ p'.tx = p.tx ∧ (∀ a, o.wants a = true → findM p'.mks a = findM p.mks a) ∧ p'.kids.map Sh.num = p.kids.map Sh.num ∧ p'.kids.isEmpty = p.kids.isEmpty ∧ (o.texts = true → ∀ a : Str, (p'.kids.any fun c => !c.isE && decide (c.tx = a)) = p.kids.any fun c => !c.isE && decide (c.tx = a))
variable {o : Op}
theorem like_own (l : Lk b s) (h' : Tel b s') (k : Like o s s') {m : Nat} (hm : m ∈ enOf s) {w : Str} {as : List Str} (hw : lawKind w < 4) (hl : as.length = kindLen (lawKind w)) (hs : Shows o (.leaf w as)) : (withS b s').own w as m = b.own w as m := by
  obtain ⟨p, hp, rfl⟩ := en_mem.mp hm
  obtain ⟨p', hp', e0, e1, e2, _, e4, e3⟩ := k.at_ p hp
  have a1 : (withS b s').own w as p.num = ownS w as p' (b.bef p.num).getLast? (b.aft p.num) := by
    show ownTr b s' w as p.num = _
    unfold ownTr
    rw [← e0, h'.uni.find (es_mem.mp hp').1]
  rw [a1, l.own p hp w as hw hl]
  have sh := hs _ (self_sub _)
  have ew : wD (leaf w as).toD = w := by rw [toD_leaf]; rfl
  rw [ew] at sh
  unfold ownS
  by_cases c : w = "name"
  · rw [if_pos c, if_pos c, e1]
  rw [if_neg c, if_neg c]
  by_cases c : w = "mark"
  · rw [if_pos c, if_pos c]
    subst c
    have hz : as.length = 1 := hl
    obtain ⟨a, rfl⟩ := List.length_eq_one_iff.mp hz
    have hx := sh.1 (by decide +kernel)
    have ea : a1D (leaf "mark" [a]).toD = a := by rw [toD_leaf]; rfl
    rw [ea] at hx
    show (findM p'.mks a).isSome = (findM p.mks a).isSome
    rw [e2 a hx]
  rw [if_neg c, if_neg c]
  by_cases c : w = "value"
  · rw [if_pos c, if_pos c]
    subst c
    have hz : as.length = 2 := hl
    obtain ⟨a, a', rfl⟩ : ∃ a a', as = [a, a'] := match as, hz with | [a, a'], _ => ⟨a, a', rfl⟩
    have hx := sh.1 (by decide +kernel)
    have ea : a1D (leaf "value" [a, a']).toD = a := by rw [toD_leaf]; rfl
    rw [ea] at hx
    show decide (findM p'.mks a = some a') = decide (findM p.mks a = some a')
    rw [e2 a hx]
  rw [if_neg c, if_neg c]
  by_cases c : w = "text"
  · rw [if_pos c, if_pos c, e3 (sh.2 c)]
  rw [if_neg c, if_neg c]
  by_cases c : w = "first"
  · rw [if_pos c, if_pos c]
  rw [if_neg c, if_neg c]
  by_cases c : w = "last"
  · rw [if_pos c, if_pos c]
  rw [if_neg c, if_neg c]
  by_cases c : w = "empty"
  · rw [if_pos c, if_pos c, e4]
  rw [if_neg c, if_neg c]
theorem withS_abvF : ∀ n k, (withS b s).abvF n k = b.abvF n k
  | 0, k => by unfold abvF; rfl
  | n + 1, k => by
    unfold abvF
    show (match b.up k with | none => [] | some p => p :: (withS b s).abvF n p) = _
    cases b.up k with
    | none => rfl
    | some p => show p :: _ = p :: _; rw [withS_abvF n p]
theorem withS_abv (k : Nat) : (withS b s).abv k = b.abv k := withS_abvF _ _
theorem withS_has (k : Nat) : (withS b s).has k = b.has k := by
  unfold Tb.has
  refine List.filter_congr fun o _ => ?_
  rw [withS_abv]; rfl
mutual
theorem like_sem (l : Lk b s) (h' : Tel b s') (k : Like o s s') : ∀ t : Tst, WF t → Shows o t → ∀ m ∈ enOf s, (withS b s').sem t m = b.sem t m
  | .leaf w as, wf, sh, m, hm => by
    unfold WF at wf
    have e1 : (withS b s').sem (.leaf w as) m = (withS b s').own w as m := by conv => lhs; unfold sem
    have e2 : b.sem (.leaf w as) m = b.own w as m := by conv => lhs; unfold sem
    rw [e1, e2, like_own l h' k hm wf.1 wf.2 sh]
  | .un w t, wf, sh, m, hm => by
    unfold WF at wf
    have ih := like_sem l h' k t wf.2 (sh.kid List.mem_cons_self)
    have sn := l.seen
    have hw : w ∈ lawL5 := kind_5.mpr wf.1
    simp only [lawL5, List.mem_cons, List.not_mem_nil, or_false] at hw
    rw [sem_un, sem_un]
    have ham := abv_mem sn _ m hm (Nat.lt_succ_self _)
    have hbm := fun q hq => (bef_sub sn hm (m := q) hq).1
    rcases hw with rfl | rfl | rfl | rfl | rfl | rfl | rfl
    · dsimp only
      rw [if_pos rfl, if_pos rfl, ih m hm]
    · dsimp only
      rw [if_neg (by decide +kernel), if_pos rfl, if_neg (by decide +kernel), if_pos rfl, withS_abv]
      exact oany_same fun q hq => ih q (ham q (List.mem_of_mem_head? hq))
    · dsimp only
      rw [if_neg (by decide +kernel), if_neg (by decide +kernel), if_pos rfl, if_neg (by decide +kernel), if_neg (by decide +kernel), if_pos rfl, withS_abv]
      exact any_same fun q hq => ih q (ham q hq)
    · dsimp only
      rw [if_neg (by decide +kernel), if_neg (by decide +kernel), if_neg (by decide +kernel), if_pos rfl, if_neg (by decide +kernel), if_neg (by decide +kernel), if_neg (by decide +kernel), if_pos rfl]
      exact oany_same fun q hq => ih q (hbm q (List.mem_of_getLast? hq))
    · dsimp only
      rw [if_neg (by decide +kernel), if_neg (by decide +kernel), if_neg (by decide +kernel), if_neg (by decide +kernel), if_pos rfl, if_neg (by decide +kernel), if_neg (by decide +kernel), if_neg (by decide +kernel), if_neg (by decide +kernel), if_pos rfl]
      exact any_same fun q hq => ih q (hbm q hq)
    · dsimp only
      rw [if_neg (by decide +kernel), if_neg (by decide +kernel), if_neg (by decide +kernel), if_neg (by decide +kernel), if_neg (by decide +kernel), if_pos rfl, if_neg (by decide +kernel), if_neg (by decide +kernel), if_neg (by decide +kernel), if_neg (by decide +kernel), if_neg (by decide +kernel), if_pos rfl]
      exact any_same fun q hq => ih q ((sn.ek_mem hm).mp hq).1
    · dsimp only
      rw [if_neg (by decide +kernel), if_neg (by decide +kernel), if_neg (by decide +kernel), if_neg (by decide +kernel), if_neg (by decide +kernel), if_neg (by decide +kernel), if_neg (by decide +kernel), if_neg (by decide +kernel), if_neg (by decide +kernel), if_neg (by decide +kernel), if_neg (by decide +kernel), if_neg (by decide +kernel), withS_has]
      exact any_same fun q hq => ih q ((has_mem sn).mp hq).1
  | .many w ts, wf, sh, m, hm => by
    unfold WF at wf
    have ih := like_sems l h' k ts ((wfs_iff ts).mp wf.2) (fun t ht => sh.kid ht) m hm
    rw [sem_many, sem_many]
    dsimp only
    have e1 : (ts.all fun t => (withS b s').sem t m) = ts.all fun t => b.sem t m := by
      rw [Bool.eq_iff_iff, List.all_eq_true, List.all_eq_true]
      exact ⟨fun h t ht => by rw [← ih t ht]; exact h t ht, fun h t ht => by rw [ih t ht]; exact h t ht⟩
    have e2 : (ts.any fun t => (withS b s').sem t m) = ts.any fun t => b.sem t m := by
      rw [Bool.eq_iff_iff, List.any_eq_true, List.any_eq_true]
      exact ⟨fun ⟨t, ht, z⟩ => ⟨t, ht, by rw [← ih t ht]; exact z⟩, fun ⟨t, ht, z⟩ => ⟨t, ht, by rw [ih t ht]; exact z⟩⟩
    rw [e1, e2]
theorem like_sems (l : Lk b s) (h' : Tel b s') (k : Like o s s') : ∀ ts : List Tst, (∀ t ∈ ts, WF t) → (∀ t ∈ ts, Shows o t) → ∀ m ∈ enOf s, ∀ t ∈ ts, (withS b s').sem t m = b.sem t m
  | [], _, _, _, _, _, h => nomatch h
  | t :: ts, wf, sh, m, hm, t', h => by
    rcases List.mem_cons.mp h with e | h
    · rw [e]
      exact like_sem l h' k t (wf t List.mem_cons_self) (sh t List.mem_cons_self) m hm
    · exact like_sems l h' k ts (fun y hy => wf y (List.mem_cons_of_mem _ hy)) (fun y hy => sh y (List.mem_cons_of_mem _ hy)) m hm t' h
end
theorem like_ans (l : Lk b s) (vw : Vw s) (h' : Tel b s') (vw' : Vw s') (k : Like o s s') {t : Tst} (wf : WF t) (sh : Shows o t) : ansL s' t = ansL s t := by
  rw [ans_eq l vw wf, ans_eq (lk_self h') vw' wf, k.en]
  exact List.filter_congr fun m hm => like_sem l h' k t wf sh m hm
/-! views -/
theorem viewA_tx {p : Sh} (h : p.isE = true) : (Sh.viewA o p).tx = p.tx := by
  rw [Sh.viewA_eq]
  cases p with
  | t n x => cases h
  | e n nm ms ks => rfl
theorem viewA_mks {p : Sh} (h : p.isE = true) : (Sh.viewA o p).mks = p.mks.filter fun q => o.wants q.1 := by
  rw [Sh.viewA_eq]
  cases p with
  | t n x => cases h
  | e n nm ms ks => rfl
theorem viewA_txt {p : Sh} (h : p.isE = false) (ht : o.texts = true) : (Sh.viewA o p).tx = p.tx := by
  rw [Sh.viewA_eq]
  cases p with
  | t n x => show (if o.texts then x else "") = x; rw [if_pos ht]
  | e n nm ms ks => cases h
theorem findM_filter {ms : List (Str × Str)} {a : Str} (h : o.wants a = true) : findM (ms.filter fun q => o.wants q.1) a = findM ms a := by
  unfold findM
  congr 1
  induction ms with
  | nil => rfl
  | cons m ms ih =>
    rw [List.filter_cons]
    by_cases c : m.1 = a
    · rw [c, if_pos h, List.find?_cons, List.find?_cons, decide_eq_true c]
    · by_cases hw : o.wants m.1 = true
      · rw [if_pos hw, List.find?_cons, List.find?_cons, decide_eq_false c]
        exact ih
      · rw [if_neg hw, List.find?_cons (as := ms), decide_eq_false c]
        exact ih
theorem viewA_es : esOf (Sh.viewA o s) = (esOf s).map (Sh.viewA o) := by
  unfold esOf
  rw [Sh.pre_viewA, List.filter_map]
  congr 1
  refine List.filter_congr fun p _ => ?_
  show (Sh.viewA o p).isE = p.isE
  exact Sh.viewA_isE
theorem viewA_en : enOf (Sh.viewA o s) = enOf s := by
  unfold enOf
  rw [viewA_es, List.map_map]
  exact List.map_congr_left fun p _ => Sh.viewA_num
theorem viewA_kn (p : Sh) : (Sh.viewA o p).kids.map Sh.num = p.kids.map Sh.num := by
  rw [Sh.viewA_kids, List.map_map]
  exact List.map_congr_left fun p _ => Sh.viewA_num
theorem viewA_nums : (Sh.viewA o s).nums = s.nums := by
  unfold Sh.nums
  rw [Sh.pre_viewA, List.map_map]
  exact List.map_congr_left fun p _ => Sh.viewA_num
theorem viewA_tel (h : Tel b s) : Tel b (Sh.viewA o s) where
  uni := by unfold Sh.Uni; rw [viewA_nums]; exact h.uni
  mem := fun k => by rw [viewA_en]; exact h.mem k
  kids := fun p hp => by
    rw [viewA_es] at hp
    obtain ⟨q, hq, rfl⟩ := List.mem_map.mp hp
    rw [Sh.viewA_num, viewA_kn]
    exact h.kids q hq
  up := fun k q hk => by
    rw [h.up k q hk, viewA_es]
    constructor
    · rintro ⟨p, hp, e, hc⟩
      exact ⟨Sh.viewA o p, List.mem_map_of_mem hp, by rw [Sh.viewA_num]; exact e, by rw [viewA_kn]; exact hc⟩
    · rintro ⟨p, hp, e, hc⟩
      obtain ⟨q, hq, rfl⟩ := List.mem_map.mp hp
      rw [Sh.viewA_num] at e
      rw [viewA_kn] at hc
      exact ⟨q, hq, e, hc⟩
  E := fun p hp => by
    rw [Sh.pre_viewA] at hp
    obtain ⟨q, hq, rfl⟩ := List.mem_map.mp hp
    rw [Sh.viewA_num, Sh.viewA_isE]
    exact h.E q hq
  lt := fun p hp => by
    rw [Sh.pre_viewA] at hp
    obtain ⟨q, hq, rfl⟩ := List.mem_map.mp hp
    rw [Sh.viewA_num]
    exact h.lt q hq
theorem viewA_vw (v : Vw s) : Vw (Sh.viewA o s) where
  sz := by
    have := v.sz
    unfold Sh.size at this ⊢
    rw [Sh.pre_viewA, List.length_map]; exact this
  uni := by unfold Sh.Uni; rw [viewA_nums]; exact v.uni
  mms := fun p hp => by
    rw [Sh.pre_viewA] at hp
    obtain ⟨q, hq, rfl⟩ := List.mem_map.mp hp
    obtain ⟨h1, h2⟩ := v.mms q hq
    refine ⟨?_, by rw [Sh.viewA_kids, List.length_map]; exact h2⟩
    cases hE : q.isE with
    | true =>
      rw [viewA_mks hE]
      exact (List.Sublist.map _ List.filter_sublist).nodup h1
    | false =>
      rw [Sh.viewA_eq]
      cases q with
      | t n x => exact List.nodup_nil
      | e n nm ms ks => cases hE
theorem viewA_like : Like o s (Sh.viewA o s) where
  en := viewA_en
  at_ := fun p hp => by
    have hE := (es_mem.mp hp).2
    refine ⟨Sh.viewA o p, by rw [viewA_es]; exact List.mem_map_of_mem hp, Sh.viewA_num, viewA_tx hE, fun a ha => by rw [viewA_mks hE, findM_filter ha], viewA_kn p, by rw [Sh.viewA_kids, List.isEmpty_map], fun ht a => ?_⟩
    rw [Sh.viewA_kids, List.any_map]
    have : ∀ l : List Sh, (l.any ((fun c => !c.isE && decide (c.tx = a)) ∘ Sh.viewA o)) = l.any fun c => !c.isE && decide (c.tx = a) := fun l => by
      induction l with
      | nil => rfl
      | cons c l ih =>
        rw [List.any_cons, List.any_cons, ih]
        congr 1
        show (!(Sh.viewA o c).isE && decide ((Sh.viewA o c).tx = a)) = _
        rw [Sh.viewA_isE]
        cases hc : c.isE with
        | true => rfl
        | false => rw [viewA_txt hc ht]
    exact this _
end
theorem made_dep {ns : List Nq} : ∀ (j k : Nat), (madeF ns j k).dep ≤ j + 1
  | 0, k => by unfold madeF; rw [Sh.dep]; omega
  | j + 1, k => by
    unfold madeF
    split
    · rw [Sh.dep]; omega
    · rw [Sh.dep]
      have z := Sh.deps_le (ks := (nq ns k).kids.map (madeF ns j)) (m := j + 1) fun c hc => by
        obtain ⟨m, _, rfl⟩ := List.mem_map.mp hc
        exact made_dep j m
      omega
theorem made_depH {ns : List Nq} : ∀ (j k : Nat), Hq ns j k → (madeF ns j k).dep ≤ j
  | 0, _, h => h.elim
  | j + 1, k, h => by
    unfold madeF
    split
    · rw [Sh.dep]; omega
    · rw [Sh.dep]
      have z := Sh.deps_le (ks := (nq ns k).kids.map (madeF ns j)) (m := j) fun c hc => by
        obtain ⟨m, hm, rfl⟩ := List.mem_map.mp hc
        exact made_depH j m (h.2.2 m hm)
      omega
theorem made_fit {ns : List Nq} {ps : List (Option Nat)} (g : Gr ns ps) : (madeS ns).Fit := by
  refine ⟨made_uni g, (made_vw g).sz, made_depH 60 0 (g.hq g.pos), fun p hp => ?_⟩
  obtain ⟨i, h1, h2, h3⟩ := made_part g hp
  obtain ⟨s1, s2⟩ := g.sh _ h3
  have hml : (nq ns p.num).marks.length ≤ 60 := (g.mks _ h3).2.1
  rw [h2]
  unfold madeF
  split
  · show decide _ = true
    exact decide_eq_true s1
  · show (decide _ && decide _ && List.all _ _) = true
    rw [Bool.and_eq_true, Bool.and_eq_true]
    exact ⟨⟨decide_eq_true s1, decide_eq_true (by omega)⟩, List.all_eq_true.mpr fun q hq => by rw [Bool.and_eq_true]; exact ⟨decide_eq_true (s2 q hq).1, decide_eq_true (s2 q hq).2⟩⟩
end LM
end
section
set_option Elab.async false
set_option linter.all false
set_option maxRecDepth 100000
set_option maxHeartbeats 4000000
namespace LM
open PySem DL
/-- each child stands behind its parent -/
def After (l : List Sh) : Prop := ∀ (a : Nat) (t : Sh), l[a]? = some t → ∀ k ∈ t.kids, ∃ b, a < b ∧ l[b]? = some k
theorem After.app {l m : List Sh} (h : After l) (h2 : After m) : After (l ++ m) := fun a t ha k hk => by
  by_cases z : a < l.length
  · rw [List.getElem?_append_left z] at ha
    obtain ⟨b, hb, e⟩ := h a t ha k hk
    have := (List.getElem?_eq_some_iff.mp e).1
    exact ⟨b, hb, by rw [List.getElem?_append_left this]; exact e⟩
  · rw [List.getElem?_append_right (by omega)] at ha
    obtain ⟨b, hb, e⟩ := h2 _ t ha k hk
    exact ⟨b + l.length, by omega, by rw [List.getElem?_append_right (by omega), Nat.add_sub_cancel]; exact e⟩
theorem after_pre : ∀ s : Sh, After s.pre := Sh.indk fun s ih => by
  have hf : ∀ ks : List Sh, (∀ k ∈ ks, After k.pre) → After (ks.flatMap Sh.pre) := fun ks => by
    induction ks with
    | nil => intro _ a t ha; cases ha
    | cons k ks ih2 =>
      intro h
      rw [List.flatMap_cons]
      exact (h k List.mem_cons_self).app (ih2 fun x hx => h x (List.mem_cons_of_mem _ hx))
  have hk := hf s.kids ih
  intro a t ha k hkk
  rw [Sh.pre_eq] at ha ⊢
  cases a with
  | zero =>
    cases ha
    obtain ⟨b, hb, e⟩ := List.getElem_of_mem (List.mem_flatMap.mpr ⟨k, hkk, Sh.pre_self k⟩ : k ∈ s.kids.flatMap Sh.pre)
    exact ⟨b + 1, Nat.succ_pos _, by rw [List.getElem?_cons_succ, List.getElem?_eq_getElem hb, e]⟩
  | succ a =>
    rw [List.getElem?_cons_succ] at ha
    obtain ⟨b, hb, e⟩ := hk a t ha k hkk
    exact ⟨b + 1, by omega, by rw [List.getElem?_cons_succ]; exact e⟩
theorem after_rev {l : List Sh} (h : After l) {i : Nat} {t k : Sh} (hi : l.reverse[i]? = some t) (hk : k ∈ t.kids) : ∃ j, j < i ∧ l.reverse[j]? = some k := by
  have hil : i < l.length := by
    have := (List.getElem?_eq_some_iff.mp hi).1
    rwa [List.length_reverse] at this
  rw [List.getElem?_reverse hil] at hi
  obtain ⟨b, hb, e⟩ := h _ t hi k hk
  have hbl := (List.getElem?_eq_some_iff.mp e).1
  exact ⟨l.length - 1 - b, by omega, by rw [List.getElem?_reverse (by omega), show l.length - 1 - (l.length - 1 - b) = b by omega]; exact e⟩
end LM
namespace LW
open PySem PySem.Spec PyProof.Rows L2 DL LM
section
variable {P : Program} {W : World} {K : PySem.W.Frag} {mg : Str → Option Value} {base : Heap} {f : Addr} {fd : FuncData} {A A2 H H' H0 H1 H2 G G2 Hc : Hp} {σ : L2.St} {t te td tn tv t1 t2 : TE} {tr : TS} {ts : TS} {D : Ends} {tA : TA} {n i j : Nat} {p b : Addr} {xs ys : List V} {v : V} {d : PyData} {ds es : List PyData} {kvs : List (Key × V)}
def preVw (x : Sh × Op) : Prop := x.1.Fit ∧ x.2.Good
theorem fitM {s : Sh} (f : Sh.Fit s) : s.msB = true := f.ms s (Sh.pre_self s)
theorem fitZ {s : Sh} (f : Sh.Fit s) : preSz s := Nat.le_trans f.size (by decide)
abbrev sview : Stmt := topS 23
theorem scview : FnScope ["shape", "options", "scope", "seen", "part", "children", "child"] ["shape", "options"] (defScope sview) := ⟨rfl, rfl, rfl, by decide +kernel, rfl, by decide +kernel, by decide +kernel⟩
theorem ok_view (T : Bx mg) (F : Fun K "view" "view" sview f fd) (cchildren_of : Cal P W K mg base 1 "children_of" (spA K 1 arH (fun _ => True) kidsT)) (cparts_of : Cal P W K mg base 2 "parts_of" (spA K 1 arH preSz partsD)) (cbare : Cal P W K mg base 1 "bare" (spA K 1 arH (fun _ => True) fun s => (Sh.bare s).toD))
    (c_seen : Cal P W K mg base 2 "_seen" (spA K 3 arSn preSn fun x => (Sh.seen x.2.1 x.1 x.2.2).toD)) : FnOk P W K mg base CX0 3 f fd ["shape", "options"] (spA K 2 arV preVw fun x => (Sh.view x.2 x.1).toD) := by
  refine fn_A F scview rfl fun cdv A outer s H1 E hr => ⟨_, (pss_cons (ps_set (i := 2) scview.nd rfl (Or.inl rfl) (pe_ix ix_seq (pv 1) pe_int (fun _ _ => rfl)))
      (pss_cons (ps_if (pt_cmpR (op_eqA hr.units) (pv 2) pe_str (nomark _)) (pss_one (ps_ret (pe_k c_seen hr (by omega) (pa_cons (pv 0) (pa_cons (pv 1) (pa_cons (pe_lst pa_nil) pa_nil)))))) pss_nil)
      (pss_cons (ps_if (pt_cmpR (op_eqA hr.units) (pv 2) pe_str (nomark _)) (pss_one (ps_ret (pe_k c_seen hr (by omega) (pa_cons (pv 0) (pa_cons (pv 1) (pa_cons (pe_lc (own := [("child", 6)]) (by rfl) scview.nd (pi_seq (pe_k cchildren_of hr (by omega) (pa_cons (pv 0) pa_nil))) (blkOk_by (own := [("child", 6)]) (N := ["shape", "options", "scope", "seen", "part", "children", "child"]) (sc := defScope sview) (by decide +kernel)) (fun _ _ _ _ _ => (pg_name (i := 6) scview.nd rfl (Or.inl rfl))) (fun _ _ _ _ _ => pts_nil) (fun _ _ _ _ _ => (pe_k cbare hr (by omega) (pa_cons (pv 6) pa_nil)))) pa_nil)))))) pss_nil)
      (pss_cons (ps_set (i := 3) scview.nd rfl (Or.inr rfl) pe_dnewK)
      (pss_cons (ps_for PassesOwn.never rfl (pi_reversed (by rfl) T.reversed (pa_cons (pe_k cparts_of hr (by omega) (pa_cons (pv 0) pa_nil)) pa_nil)) (pg_name (i := 4) scview.nd rfl (Or.inl rfl)) (pss_cons (ps_setLc (i := 5) (own := [("child", 6)]) (by rfl) scview.nd rfl rfl (sw_true rfl rfl rfl (by decide +kernel)) (pi_seq (pe_k cchildren_of hr (by omega) (pa_cons (pv 4) pa_nil))) (blkOk_by (own := [("child", 6)]) (N := ["shape", "options", "scope", "seen", "part", "children", "child"]) (sc := defScope sview) (by decide +kernel)) (fun _ _ _ _ _ => (pg_name (i := 6) scview.nd rfl (Or.inl rfl))) (fun _ _ _ _ _ => pts_nil) (fun _ _ _ _ _ => (pe_dget (hu_of hr) (pv 3) (pe_ix (ix_seqK K) (pv 6) pe_int (fun _ _ => rfl)) (fun _ _ => rfl))))
      (pss_one (ps_dput (hu_of hr) (pv 3) (pe_ix ix_seq (pv 4) pe_int (fun _ _ => rfl)) (pe_k c_seen hr (by omega) (pa_cons (pv 4) (pa_cons (pv 1) (pa_cons (pv 5) pa_nil)))) rfl))))
      (pss_one (ps_ret (pe_dget (hu_of hr) (pv 3) (pe_ix ix_seq (pv 0) pe_int (fun _ _ => rfl)) (fun _ _ => rfl))))))))), fun vs x H A hl sm dv hp => ?_⟩
  obtain ⟨x, o⟩ := x
  obtain ⟨fit, good⟩ := hp
  have fit : x.Fit := fit
  have good : o.Good := good
  obtain ⟨v, u, rfl, d1, d2⟩ := DvA.inv2 dv
  refine gb_set (d := .str o.scope) (gd_osc (gd_var rfl d2)) fun v2 G2 H2 p2 dv2 => ?_
  have ev := Dv.str_inv dv2
  subst ev
  have d1' := d1.to p2.hg
  have d2' := d2.to p2.hg
  have gS : ∀ {te : TE} {ks : List Sh} {G' H' : Hp} {x3 x4 x5 x6 : Option V}, Same G2 G' → GD K te [some v, some u, some (.str o.scope), x3, x4, x5, x6] G' H' (.list (ks.map Sh.toD)) → GD K (tCall (spA K 3 arSn preSn fun x => (Sh.seen x.2.1 x.1 x.2.2).toD) [] E0 (tCons (tVar 0) (tCons (tVar 1) (tCons te tNil)))) [some v, some u, some (.str o.scope), x3, x4, x5, x6] G' H' (Sh.seen o x ks).toD := fun {te ks G' H' x3 x4 x5 x6} sg g =>
    gd_callA (K := K) (ar := arSn) (f := fun x => (Sh.seen x.2.1 x.1 x.2.2).toD) (x, o, ks) (ga_cons (gd_var (i := 0) rfl (d1'.to sg)) (ga_cons (gd_var (i := 1) rfl (d2'.to sg)) (ga_cons g ga_nil))) rfl (fitM fit)
  by_cases h1 : o.scope = "own"
  · have e : (Sh.view o x).toD = (Sh.seen o x []).toD := by unfold Sh.view; rw [if_pos h1]
    refine gb_if (b := true) ?_ (fun _ => gb_ret (d := (Sh.seen o x []).toD) (gS (ks := []) (.refl _) (gd_lst ga_nil)) e.symm) fun z => nomatch z
    have g := gt_test (gdo (K := K) (A := H2) (H := G2) (σ := [some v, some u, some (.str o.scope), none, none, none, none]) (gd_var (i := 2) rfl (.str o.scope)) (gd_str (i := "own")) go_eqS)
    rw [decide_eq_true h1] at g
    exact g
  refine gb_if (b := false) ?_ (fun z => nomatch z) fun _ => ?_
  · have g := gt_test (gdo (K := K) (A := H2) (H := G2) (σ := [some v, some u, some (.str o.scope), none, none, none, none]) (gd_var (i := 2) rfl (.str o.scope)) (gd_str (i := "own")) go_eqS)
    rw [decide_eq_false h1] at g
    exact g
  by_cases h2 : o.scope = "list"
  · have e : (Sh.view o x).toD = (Sh.seen o x (x.kids.map Sh.bare)).toD := by unfold Sh.view; rw [if_neg h1, if_pos h2]
    refine gb_if (b := true) ?_ (fun _ => gb_ret (d := (Sh.seen o x (x.kids.map Sh.bare)).toD) (gS (ks := x.kids.map Sh.bare) (.refl _) ?_) e.symm) fun z => nomatch z
    · have g := gt_test (gdo (K := K) (A := H2) (H := G2) (σ := [some v, some u, some (.str o.scope), none, none, none, none]) (gd_var (i := 2) rfl (.str o.scope)) (gd_str (i := "list")) go_eqS)
      rw [decide_eq_true h2] at g
      exact g
    · rw [List.map_map]
      exact gd_lc (k := 6) (xs := x.kids) (em := Sh.toD) (f := Sh.toD ∘ Sh.bare) (gi_seqT (gd_callA (K := K) (ar := arH) (f := kidsT) x (ga_cons (gd_var (i := 0) rfl d1') ga_nil) rfl trivial)) (Nat.le_trans fit.kl (by decide)) fun i a ha v' G H1 p0 dv' => gd_callA (K := K) (ar := arH) (f := fun s => (Sh.bare s).toD) a (ga_cons (gd_var (i := 6) rfl dv') ga_nil) rfl trivial
  refine gb_if (b := false) ?_ (fun z => nomatch z) fun _ => ?_
  · have g := gt_test (gdo (K := K) (A := H2) (H := G2) (σ := [some v, some u, some (.str o.scope), none, none, none, none]) (gd_var (i := 2) rfl (.str o.scope)) (gd_str (i := "list")) go_eqS)
    rw [decide_eq_false h2] at g
    exact g
  have e : (Sh.view o x).toD = (Sh.viewA o x).toD := by unfold Sh.view; rw [if_neg h1, if_neg h2]
  intro H0 H1' e0 D q
  intro dd hdd
  have w0 := Own.new (Pub.refl e0.gh) hdd (.dK [])
  have d1'' := d1'.to e0.hg
  have d2'' := d2'.to e0.hg
  refine for_run (H := H0) (A := upd H1' dd (.dK [])) (gi_rev (ga_cons (gd_callA (K := K) (ar := arH) (f := partsD) x (ga_cons (gd_var (i := 0) rfl d1'') ga_nil) rfl (fitZ fit)) ga_nil)) (.refl w0.gh) fun B HB PB => ?_
  rw [← List.map_reverse]
  refine ⟨fun i σ' G' H' => ∃ (kvs : List (Key × V)) (x4 x5 : Option V), σ' = [some v, some u, some (.str o.scope), some (.ref dd), x4, x5, none] ∧ Own H0 H1' G' H' dd (.dK kvs) ∧ Same B G' ∧ kvs.length ≤ i ∧ ∀ j, j < i → ∀ p, x.pre.reverse[j]? = some p → ∃ w, valV kvs (.inl (p.num : Int)) = some w ∧ Dv K G' w (Sh.viewA o p).toD,
    ⟨[], none, none, rfl, w0.step PB, .refl _, Nat.le_refl _, fun j hj => absurd hj (Nat.not_lt_zero _)⟩, fun i σ' G' H' ⟨_, _, _, _, w, sB, _⟩ => ⟨sB, w.gh⟩, ?_, ?_⟩
  · rintro i d σ' G' H' hd ⟨kvs, x4, x5, rfl, w, sB, hkl, hkv⟩ v4 G4 H4 P4 dv4
    rw [List.getElem?_map] at hd
    obtain ⟨t, ht, rfl⟩ := Option.map_eq_some_iff.mp hd
    have hmem : t ∈ x.pre := List.mem_reverse.mp (List.mem_of_getElem? ht)
    have ft := fit.part hmem
    have w4 := w.step P4
    have hil : i < 100000 := by
      have := (List.getElem?_eq_some_iff.mp ht).1
      rw [List.length_reverse] at this
      have := fit.size
      unfold Sh.size at this
      omega
    refine s_set (K := K) (d := .list ((t.kids.map (Sh.viewA o)).map Sh.toD)) (by
      rw [List.map_map]
      refine gd_lc (K := K) (k := 6) (xs := t.kids) (em := Sh.toD) (f := Sh.toD ∘ Sh.viewA o) (gi_seqT (gd_callA (K := K) (ar := arH) (f := kidsT) t (ga_cons (gd_var (i := 4) rfl dv4) ga_nil) rfl trivial)) (Nat.le_trans ft.kl (by decide)) fun a k hk v' G5 H5 p5 dv' => ?_
      obtain ⟨j, hj, hje⟩ := after_rev (after_pre x) ht (List.mem_of_getElem? hk)
      obtain ⟨y, hy, dy⟩ := hkv j hj k hje
      exact gd_dnum (b := dd) (gv_var (i := 3) rfl) (p5.hh _ _ w4.at_) (gd_num (gd_var (i := 6) rfl dv')) hy ((dy.to P4.hg).to p5.hg)) w4.gh fun v6 G6 H6 P6 dv6 => ?_
    have w6 := w4.step P6
    have s6 : Same B G6 := sB.trans (P4.hg.trans P6.hg)
    refine s_dnum (K := K) (j := 3) (n := t.num) (d := (Sh.viewA o t).toD) w6 rfl ?_ (fun G' H' p => gd_num (gd_var (i := 4) rfl ((dv4.to P6.hg).to p.hg))) (by rw [sizeLine_eq]; omega) fun y G7 H7 w7 s7 dy => ?_
    · have ev : Sh.viewA o t = Sh.seen o t (t.kids.map (Sh.viewA o)) := Sh.viewA_eq t
      rw [ev]
      exact gd_callA (K := K) (ar := arSn) (f := fun x => (Sh.seen x.2.1 x.1 x.2.2).toD) (t, o, t.kids.map (Sh.viewA o)) (ga_cons (gd_var (i := 4) rfl (dv4.to P6.hg)) (ga_cons (gd_var (i := 1) rfl (d2''.to ((PB.hg.trans sB).trans (P4.hg.trans P6.hg)))) (ga_cons (gd_var (i := 5) rfl dv6) ga_nil))) rfl (fitM ft)
    · refine ⟨G7, _, some v4, some v6, rfl, w7, s6.trans s7, Nat.le_trans (length_putK _ _ _) (Nat.succ_le_succ hkl), fun j hj p hpj => ?_⟩
      rw [valV_put]
      by_cases z : (Sum.inl (p.num : Int) : Key) = Sum.inl (t.num : Int)
      · have z2 : p.num = t.num := by
          have := Sum.inl.inj z
          omega
        have e2 : p = t := fit.uni.eq (List.mem_reverse.mp (List.mem_of_getElem? hpj)) hmem z2
        rw [if_pos z, e2]
        exact ⟨y, rfl, dy⟩
      · rw [if_neg z]
        have hji : j < i := by
          by_cases zz : j = i
          · subst zz
            rw [ht] at hpj
            cases hpj
            exact absurd rfl z
          · omega
        obtain ⟨y', h1, h2⟩ := hkv j hji p hpj
        exact ⟨y', h1, ((h2.to P4.hg).to P6.hg).to s7⟩
  · rintro σ' G' H' ⟨kvs, x4, x5, rfl, w, sB, hkl, hkv⟩
    rw [List.length_map, List.length_reverse] at hkv
    have hpos := Sh.size_pos x
    unfold Sh.size at hpos
    obtain ⟨y, hy, dy⟩ := hkv (x.pre.length - 1) (by omega) x (by
      rw [List.getElem?_reverse (by omega), show x.pre.length - 1 - (x.pre.length - 1) = 0 by omega, Sh.pre_eq]; rfl)
    refine s_ret (K := K) (d := (Sh.viewA o x).toD) (gd_dnum (b := dd) (gv_var (i := 3) rfl) w.at_ (gd_num (gd_var (i := 0) rfl (d1''.to (PB.hg.trans sB)))) hy dy) w.gh fun v8 G8 H8 P8 dv8 => ?_
    exact q _ v8 G8 H8 e.symm (w.pub.trans P8) dv8
end
end LW
end
section
set_option Elab.async false
set_option linter.all false
set_option maxRecDepth 100000
set_option maxHeartbeats 1000000
namespace LM
open PySem DL Tst Tb
noncomputable def opT (t : Tst) : Op := ⟨"all", some (mkL t), !(txL t).isEmpty⟩
theorem opT_shows (t : Tst) : Shows (opT t) t := fun s hs => ⟨fun h => by
  show decide (a1D s.toD ∈ mkL t) = true
  exact decide_eq_true (mkL_mem.mpr ⟨s, hs, h, rfl⟩), fun h => by
  show (!(txL t).isEmpty) = true
  rw [Bool.not_eq_true']
  have : a1D s.toD ∈ txL t := txL_mem.mpr ⟨s, hs, h, rfl⟩
  cases e : txL t with
  | nil => rw [e] at this; cases this
  | cons _ _ => rfl⟩
theorem lay_at {d : PyData} (h : d.canLay0 = true) : (PyData.str (a1D d)).canLay0 = true ∧ (PyData.str (a2D d)).canLay0 = true := by
  refine ⟨?_, ?_⟩
  · unfold a1D
    split
    · exact lay_tup_inv h _ (by simp)
    · exact lay_str (by decide +kernel)
  · unfold a2D
    split
    · exact lay_tup_inv h _ (by simp)
    · exact lay_str (by decide +kernel)
theorem mkL_lay {n : Nat} {t : Tst} (ok : Okt n t) : ∀ a ∈ mkL t, (PyData.str a).canLay0 = true := fun a ha => by
  obtain ⟨s, hs, _, e⟩ := mkL_mem.mp ha
  rw [← e]
  exact (lay_at (ok.sub s hs).lay).1
theorem txL_lay {n : Nat} {t : Tst} (ok : Okt n t) : ∀ a ∈ txL t, (PyData.str a).canLay0 = true := fun a ha => by
  obtain ⟨s, hs, _, e⟩ := txL_mem.mp ha
  rw [← e]
  exact (lay_at (ok.sub s hs).lay).1
theorem mkL_len {n : Nat} {t : Tst} (ok : Okt n t) : (mkL t).length ≤ 15 := by
  refine Nat.le_trans srtS_len ?_
  rw [List.length_map]
  exact Nat.le_trans (List.length_filter_le _ _) (Nat.le_trans (told_len t) ok.len)
theorem txL_len {n : Nat} {t : Tst} (ok : Okt n t) : (txL t).length ≤ 15 := by
  refine Nat.le_trans srtS_len ?_
  rw [List.length_map]
  exact Nat.le_trans (List.length_filter_le _ _) (Nat.le_trans (told_len t) ok.len)
/-! the marks that the law's tests mention -/
def MNs : List Str := ["m", "n"]
mutual
def MnW : Tst → Prop
  | .leaf w as => w ∈ LW.MV → as.getD 0 "" ∈ MNs
  | .un _ t => MnW t
  | .many _ ts => MnWs ts
def MnWs : List Tst → Prop
  | [] => True
  | t :: ts => MnW t ∧ MnWs ts
end
theorem mnWs_iff : ∀ ts : List Tst, MnWs ts ↔ ∀ t ∈ ts, MnW t
  | [] => ⟨fun _ t h => (nomatch h), fun _ => (by unfold MnWs; trivial)⟩
  | t :: ts => by
    unfold MnWs
    rw [mnWs_iff ts]
    exact ⟨fun h x hx => (List.mem_cons.mp hx).elim (fun e => e ▸ h.1) (h.2 x), fun h => ⟨h t List.mem_cons_self, fun x hx => h x (List.mem_cons_of_mem _ hx)⟩⟩
theorem mnW_kids {t : Tst} (h : MnW t) : ∀ s ∈ t.kids, MnW s := by
  cases t with
  | leaf w as => intro s hs; cases hs
  | un w t =>
    intro s hs
    rw [List.mem_singleton.mp hs]
    unfold MnW at h; exact h
  | many w ts =>
    unfold MnW at h
    exact (mnWs_iff ts).mp h
theorem mnW_own (ds : List Int) : MnW (ownT ds) := by
  have m2 : ∀ i : Int, 0 ≤ i % 2 ∧ i % 2 < 2 := fun i => by omega
  have v : ∀ i : Int, sAt ["m", "n"] (i % 2) ∈ MNs := fun i => sAt_in (l := ["m", "n"]) (p := fun x => x ∈ MNs) (m2 i).1 (m2 i).2 (by decide +kernel)
  unfold ownT
  dsimp only
  split
  · unfold MnW; intro h; exact absurd h (by decide +kernel)
  split
  · unfold MnW; intro _; exact v _
  split
  · unfold MnW; intro _; exact v _
  split
  · unfold MnW; intro h; exact absurd h (by decide +kernel)
  split
  · unfold MnW; intro h; exact absurd h (by decide +kernel)
  · unfold MnW; intro h; exact absurd h (by decide +kernel)
theorem mnW_lawT : ∀ (n : Nat) (ds : List Int) (b : Bool), MnW (lawT n ds b)
  | 0, ds, _ => mnW_own ds
  | n + 1, ds, b => by
    have ih := mnW_lawT n
    have m2 : ∀ i : Int, 0 ≤ i % 2 ∧ i % 2 < 2 := fun i => by omega
    unfold lawT
    dsimp only
    split
    · exact mnW_own ds
    split
    · unfold MnW; exact ih _ _
    split
    · unfold MnW; exact ih _ _
    split
    · unfold MnW MnWs MnWs MnWs
      exact ⟨ih _ _, ih _ _, trivial⟩
    split
    · exact mnW_own ds
    split
    · unfold MnW; exact ih _ _
    · unfold MnW
      intro h
      exact absurd h (sAt_in (l := ["last", "empty"]) (p := fun x => x ∉ LW.MV) (m2 _).1 (m2 _).2 (by decide +kernel))
theorem mnW_mk {t : Tst} (wf : WF t) (h : MnW t) : ∀ a ∈ mkL t, a ∈ MNs := fun a ha => by
  obtain ⟨s, hs, hw, e⟩ := mkL_mem.mp ha
  have hp := all_sub (p := fun s => WF s ∧ MnW s) (fun t ht s hs => ⟨wf_kids ht.1 s hs, mnW_kids ht.2 s hs⟩) t ⟨wf, h⟩ s hs
  obtain ⟨h1, h2⟩ := hp
  have hk : lawKind (wD s.toD) < 4 := by
    have : ∀ w ∈ LW.MV, lawKind w < 4 := by decide +kernel
    exact this _ hw
  have hk2 : 1 ≤ kindLen (lawKind (wD s.toD)) := by
    have : ∀ w ∈ LW.MV, 1 ≤ kindLen (lawKind w) := by decide +kernel
    exact this _ hw
  obtain ⟨as, es, hl⟩ := leaf_of h1 hk
  generalize wD s.toD = w at es hl hw hk2
  subst es
  unfold MnW at h2
  have := h2 hw
  cases as with
  | nil =>
    rw [← hl] at hk2
    exact absurd hk2 (by decide)
  | cons x as =>
    have ea : a1D (leaf w (x :: as)).toD = x := by rw [toD_leaf]; rfl
    rw [ea] at e
    rw [← e]
    exact this
noncomputable def opW (t : Tst) (k : Nat) : Op := ⟨"all", some (srtS ((["k", "m", "n"] : List Str).filter fun a => decide (a ∈ mkL t) || decide ((k % 2 : Int) = 0))), true⟩
theorem opW_shows {t : Tst} (wf : WF t) (h : MnW t) (k : Nat) : Shows (opW t k) t := fun s hs => ⟨fun hw => by
  show decide (a1D s.toD ∈ srtS _) = true
  have hm : a1D s.toD ∈ mkL t := mkL_mem.mpr ⟨s, hs, hw, rfl⟩
  refine decide_eq_true (srtS_mem.mpr (List.mem_filter.mpr ⟨?_, by rw [decide_eq_true hm]; rfl⟩))
  have := mnW_mk wf h _ hm
  have sub : ∀ a ∈ MNs, a ∈ (["k", "m", "n"] : List Str) := by decide +kernel
  exact sub _ this, fun _ => rfl⟩
noncomputable def opN (t : Tst) : Op := ⟨"all", none, !(txL t).isEmpty⟩
theorem opN_shows (t : Tst) : Shows (opN t) t := fun s hs => ⟨fun _ => rfl, (opT_shows t s hs).2⟩
theorem good_all {ms : Option (List Str)} {b : Bool} (h : ∀ l, ms = some l → l.length ≤ 1000) : Op.Good ⟨"all", ms, b⟩ := ⟨by show ("all" : Str) ∈ SC; decide +kernel, h⟩
theorem view_all {o : Op} (h : o.scope = "all") (s : Sh) : Sh.view o s = Sh.viewA o s := by
  unfold Sh.view
  rw [h, if_neg (by decide +kernel), if_neg (by decide +kernel)]
theorem eqv_opD {x : Str} {l : List Str} {b : Bool} : PyData.eqv (.tuple [.str x, .tuple (l.map .str), .bool b]) (.tuple [.str x, .tuple (l.map .str), .bool b]) = true := by
  have e : PyData.eqv (.tuple (l.map .str)) (.tuple (l.map .str)) = true := (eqv_pl (.tuple (l.map .str)) (.tuple (l.map .str)) (by
    unfold PlD
    refine (plDs_iff _).mpr fun d hd => ?_
    obtain ⟨a, _, rfl⟩ := List.mem_map.mp hd
    unfold PlD; rfl)).mpr rfl
  simp [PyData.eqv, PyData.eqvAll] at e ⊢
  exact e
end LM
namespace LW
open PySem PySem.Spec PyProof.Rows L2 DL LM
def rBoolL (K : PySem.W.Frag) : List V → Hp → VK → Prop := fun xs H Q => ∃ (a : Addr) (zs : List V), xs = [.ref a] ∧ SqL K H a zs ∧ Q (.bl (!zs.isEmpty)) H
theorem cr_boolL {X : Cx} : CallR X (.type "bool") (rBoolL X.K) := call_boolL
section
variable {P : Program} {W : World} {K : PySem.W.Frag} {mg : Str → Option Value} {base : Heap} {f : Addr} {fd : FuncData} {A A2 H H' H0 H1 H2 G G2 Hc : Hp} {σ : L2.St} {t te td tn tv ti t1 t2 : TE} {tr : TS} {ts : TS} {tt : TT} {D : Ends} {tA : TA} {n i j : Nat} {p b a : Addr} {xs ys : List V} {v w : V} {d : PyData} {ds es : List PyData}
open Tst Tb
theorem gc_boolL : GC K (rBoolL K) [.list ds] (.bool (!ds.isEmpty)) := fun H H1 G H2 vs Q p dv q => by
  obtain ⟨v, rfl, d1⟩ := DvA.inv1 dv
  obtain ⟨a, xs, rfl, s, da⟩ := Dv.lst_inv d1
  exact ⟨a, xs, rfl, .inl (rd_same p.gh s), by rw [dva_empty da]; exact q _ G H2 p (.bl _)⟩
theorem shp_strs {l : List Str} (h : ∀ x ∈ l, (PyData.str x).canLay0 = true) : SeqAt.shaped (.list (l.map .str)) = true := by
  show ((PyData.list (l.map .str)).canLay0 && decide ((PyData.list (l.map .str)).depth ≤ 64)) = true
  rw [Bool.and_eq_true]
  refine ⟨lay_lst fun d hd => ?_, decide_eq_true ?_⟩
  · obtain ⟨x, hx, rfl⟩ := List.mem_map.mp hd
    exact h x hx
  · have e : (PyData.list (l.map .str)).depth = PyData.depthAll (l.map .str) + 1 := by conv => lhs; unfold PyData.depth
    rw [e, dep_strs]; decide
theorem go_neNilS {l : List Str} (h : ∀ x ∈ l, (PyData.str x).canLay0 = true) : GO K (rNeA K) (.list (l.map .str)) (.list []) (.bool (!l.isEmpty)) := by
  have x := go_neD (K := K) (shp_strs h) (shp_ints (ds := []) fun _ z => (nomatch z))
  rw [eqv_nil, List.isEmpty_map] at x
  exact x
theorem shp_opD {x : Str} {l : List Str} {b : Bool} (hx : (PyData.str x).canLay0 = true) (h : ∀ x ∈ l, (PyData.str x).canLay0 = true) : SeqAt.shaped (.tuple [.str x, .tuple (l.map .str), .bool b]) = true := by
  show ((PyData.tuple _).canLay0 && decide (_ ≤ 64)) = true
  rw [Bool.and_eq_true]
  refine ⟨lay_tup fun d hd => ?_, decide_eq_true ?_⟩
  · simp only [List.mem_cons, List.not_mem_nil, or_false] at hd
    rcases hd with rfl | rfl | rfl
    · exact hx
    · refine lay_tup fun d hd => ?_
      obtain ⟨y, hy, rfl⟩ := List.mem_map.mp hd
      exact h y hy
    · unfold PyData.canLay0; rfl
  · have db : (PyData.bool b).depth = 0 := by unfold PyData.depth; rfl
    rw [dTu, dAc, dAc, dAc, dA0, dep_s, dTu, dep_strs, db]; decide
theorem go_neOp {x : Str} {l : List Str} {b : Bool} (hx : (PyData.str x).canLay0 = true) (h : ∀ x ∈ l, (PyData.str x).canLay0 = true) : GO K (rNeA K) (.tuple [.str x, .tuple (l.map .str), .bool b]) (.tuple [.str x, .tuple (l.map .str), .bool b]) (.bool false) := by
  have z := go_neD (K := K) (shp_opD (b := b) hx h) (shp_opD (b := b) hx h)
  rw [eqv_opD] at z
  exact z
noncomputable def fOpt (t : Tst) : PyData := (opT t).toD
abbrev soptions_of : Stmt := topS 12
theorem scoptions_of : FnScope ["test"] ["test"] (defScope soptions_of) := ⟨rfl, rfl, rfl, by decide +kernel, rfl, by decide +kernel, by decide +kernel⟩
theorem ok_options_of (T : Bx mg) (F : Fun K "options_of" "options_of" soptions_of f fd) (cmarks_of : Cal P W K mg base 11 "marks_of" (spA K 1 arT (Okt 7) fMk)) (ctexts_of : Cal P W K mg base 11 "texts_of" (spA K 1 arT (Okt 7) fTx)) : FnOk P W K mg base CX0 12 f fd ["test"] (spA K 1 arT (Okt 7) fOpt) := by
  refine fn_A F scoptions_of rfl fun cdv A outer s H1 E hr => ⟨_, (pss_one (ps_ret (RR.pe_tupF (pa_cons pe_str (pa_cons (pe_callTy RR.cr_tupF (by rfl) T.tuple (by decide +kernel) (pa_cons (pe_k cmarks_of hr (by omega) (pa_cons (pv 0) pa_nil)) pa_nil)) (pa_cons (pe_callTy cr_boolL (by rfl) T.bool (by decide +kernel) (pa_cons (pe_k ctexts_of hr (by omega) (pa_cons (pv 0) pa_nil)) pa_nil)) pa_nil)))))), fun vs t H A hl sm dv ok => ?_⟩
  obtain ⟨v, rfl, d1⟩ := DvA.inv1 dv
  have d1 : Dv K H v t.toD := d1
  have gm := gd_cb (K := K) (A := A) (ga_cons (gd_callA (K := K) (ar := arT) (f := fMk) (n := 1) t (ga_cons (gd_var (σ := [some v]) (i := 0) rfl d1) ga_nil) rfl ok) ga_nil) gc_tupL
  have gx := gd_cb (K := K) (A := A) (ga_cons (gd_callA (K := K) (ar := arT) (f := fTx) (n := 1) t (ga_cons (gd_var (σ := [some v]) (i := 0) rfl d1) ga_nil) rfl ok) ga_nil) gc_boolL
  rw [List.isEmpty_map] at gx
  exact gb_ret (gd_tup (ga_cons gd_str (ga_cons gm (ga_cons gx ga_nil)))) rfl
def spLs (K : PySem.W.Frag) : Sp := fun vs H Q _ => ∃ (G : Hp) (s : Addr) (zs : List Int) (start many : Nat), vs = [.ref s, .int (start : Int), .int (many : Int)] ∧ Same G H ∧ SqL K H s (zs.map V.int) ∧ many ≤ 40 ∧
  ∀ ns ps v G' H', Gr ns ps → ns.length ≤ many + 1 → Pub G H G' H' → Dv K G' v (madeS ns).toD → Q v H'
abbrev s_law_shape : Stmt := topS 34
theorem sc_law_shape : FnScope ["script", "start", "many"] ["script", "start", "many"] (defScope s_law_shape) := ⟨rfl, rfl, rfl, by decide +kernel, rfl, by decide +kernel, by decide +kernel⟩
theorem ok_lshape (F : Fun K "_law_shape" "_law_shape" s_law_shape f fd) (c_law_nodes : Cal P W K mg base 3 "_law_nodes" (spLn K)) (c_law_made : Cal P W K mg base 61 "_law_made" (spA K 2 arNk (fun x => Hq x.1 60 x.2) fun x => (madeF x.1 60 x.2).toD)) : FnOk P W K mg base CX0 62 f fd ["script", "start", "many"] (spLs K) := by
  refine F.ok sc_law_shape (fun vs H Q E h => ?_) (fun cdv A outer s0 H vs Q E hr h => ?_)
  · obtain ⟨_, _, _, _, _, rfl, _⟩ := h
    rfl
  obtain ⟨G, s, zs, start, many, rfl, sG, hs, hmany, q⟩ := h
  refine ⟨_, (pss_one (ps_ret (pe_k c_law_made hr (by omega) (pa_cons (pe_ix ix_seq (pe_k c_law_nodes hr (by omega) (pa_cons (pv 0) (pa_cons (pv 1) (pa_cons (pv 2) pa_nil)))) pe_int (fun _ _ => rfl)) (pa_cons pe_int pa_nil))))), ?_⟩
  refine ⟨.ref s, rfl, .int (start : Int), rfl, .int (many : Int), rfl, G, s, zs, start, many, rfl, sG, hs, hmany, fun ns ps y G2 H2 g hl P dy => ?_⟩
  obtain ⟨b, xs, rfl, sq, da⟩ := Dv.tup_inv dy
  obtain ⟨x1, x2, rfl, d1, d2⟩ := DvA.inv2 da
  refine .inr (.inl ⟨b, _, 0, x1, rfl, rfl, seqT P.gh sq, rfl, ?_⟩)
  exact ⟨(ns, 0), G2, rfl, P.gh, .cons d1 (.cons (.int _) .nil), g.hq g.pos, fun w G3 H3 P3 dw => q ns ps w G3 H3 g hl (P.trans P3) dw⟩
end
end LW
end
section
set_option Elab.async false
set_option linter.all false
set_option maxRecDepth 100000
set_option maxHeartbeats 4000000
namespace LW
open PySem PySem.Spec PyProof.Rows L2 DL LM
section
variable {P : Program} {W : World} {K : PySem.W.Frag} {mg : Str → Option Value} {base : Heap} {f : Addr} {fd : FuncData} {A H G H' G' H0 H1 : Hp} {σ : L2.St} {te : TE}
open Tst Tb
abbrev slaw : Stmt := topS 37
theorem sclaw : FnScope ["script", "shape", "k", "test", "told", "due", "wider", "options", "mark"] ["script"] (defScope slaw) := ⟨rfl, rfl, rfl, by decide +kernel, rfl, by decide +kernel, by decide +kernel⟩
theorem ok_law (T : Bx mg) (F : Fun K "law" "law" slaw f fd) (c_law_draws : Cal P W K mg base 1 "_law_draws" (spD K 2 preDraws resDraws)) (c_law_test : Cal P W K mg base 5 "_law_test" (spA K 3 arLt (preLt 4) fun x => (lawT x.2.1 x.1 x.2.2).toD)) (c_law_cell : Cal P W K mg base 1 "_law_cell" (spLc K)) (c_law_shape : Cal P W K mg base 62 "_law_shape" (spLs K))
    (canswer : Cal P W K mg base 11 "answer" (spA K 2 arAn preAn fun x => natsD (ansL x.1 x.2))) (coptions_of : Cal P W K mg base 12 "options_of" (spA K 1 arT (Okt 7) fOpt)) (cmarks_of : Cal P W K mg base 11 "marks_of" (spA K 1 arT (Okt 7) fMk)) (ctexts_of : Cal P W K mg base 11 "texts_of" (spA K 1 arT (Okt 7) fTx)) (cview : Cal P W K mg base 3 "view" (spA K 2 arV preVw fun x => (Sh.view x.2 x.1).toD)) :
    FnOk P W K mg base CX0 131 f fd ["script"] (spLw K) := by
  refine F.ok sclaw (fun vs H Q E h => ?_) (fun cdv A outer s H vs Q E hr h => ?_)
  · obtain ⟨_, _, rfl, _⟩ := h
    rfl
  obtain ⟨s, zs, rfl, hs, hzs, q⟩ := h
  refine ⟨_, (pss_cons (ps_set (i := 1) sclaw.nd rfl (Or.inl rfl) (pe_k c_law_shape hr (by omega) (pa_cons (pv 0) (pa_cons pe_int (pa_cons pe_int pa_nil)))))
      (pss_cons (ps_for PassesOwn.never rfl (pi_range1 (by rfl) T.range (pa_cons pe_int pa_nil)) (pg_name (i := 2) sclaw.nd rfl (Or.inr rfl)) (pss_cons (ps_set (i := 3) sclaw.nd rfl (Or.inl rfl) (pe_k c_law_test hr (by omega) (pa_cons (pe_k c_law_draws hr (by omega) (pa_cons (pe_op op_addA (pe_k c_law_cell hr (by omega) (pa_cons (pv 0) (pa_cons (pe_op op_mod (pv 2) pe_int) pa_nil))) (pe_op op_mul pe_int (pv 2))) (pa_cons pe_int pa_nil))) (pa_cons pe_int (pa_cons pe_bl pa_nil)))))
      (pss_cons (ps_set (i := 4) sclaw.nd rfl (Or.inr rfl) (pe_k coptions_of hr (by omega) (pa_cons (pv 3) pa_nil)))
      (pss_cons (ps_if (pt_cmpR (op_neA hr.units) (pv 4) (RR.pe_tupF (pa_cons pe_str (pa_cons (pe_callTy RR.cr_tupF (by rfl) T.tuple (by decide +kernel) (pa_cons (pe_k cmarks_of hr (by omega) (pa_cons (pv 3) pa_nil)) pa_nil)) (pa_cons (pe_cmpR (op_neA hr.units) (pe_k ctexts_of hr (by omega) (pa_cons (pv 3) pa_nil)) (pe_lst pa_nil) (nomark _)) pa_nil)))) (nomark _)) (pss_one (ps_ret pe_bl)) pss_nil)
      (pss_cons (ps_set (i := 5) sclaw.nd rfl (Or.inl rfl) (pe_k canswer hr (by omega) (pa_cons (pv 1) (pa_cons (pv 3) pa_nil))))
      (pss_cons (ps_set (i := 6) sclaw.nd rfl (Or.inl rfl) (RR.pe_tupF (pa_cons pe_str (pa_cons (pe_callTy RR.cr_tupF (by rfl) T.tuple (by decide +kernel) (pa_cons (pe_callB cr_sortedS (by rfl) T.sorted (by decide +kernel) (pa_cons (pe_lc (own := [("mark", 8)]) (by rfl) sclaw.nd (pi_seq (RR.pe_tupF (pa_cons pe_str (pa_cons pe_str (pa_cons pe_str pa_nil))))) (blkOk_by (own := [("mark", 8)]) (N := ["script", "shape", "k", "test", "told", "due", "wider", "options", "mark"]) (sc := defScope slaw) (by decide +kernel)) (fun _ _ _ _ _ => (pg_name (i := 8) sclaw.nd rfl (Or.inl rfl))) (fun _ _ _ _ _ => (pts_one (PW.pt (pw_or (pt_cmpR (op_inK K) (pv 8) (pe_ix (ix_seqK K) (pv 4) pe_int (fun _ _ => rfl)) (by rfl)) (pw_or1 (pt_cmpR (op_eqK K hr.units) (pe_op op_mod (pv 2) pe_int) pe_int (nomark _))))))) (fun _ _ _ _ _ => (pv 8))) pa_nil)) pa_nil)) (pa_cons pe_bl pa_nil)))))
      (pss_one (ps_for PassesOwn.never rfl (pi_seq (RR.pe_tupF (pa_cons (pv 4) (pa_cons (pv 6) (pa_cons (RR.pe_tupF (pa_cons pe_str (pa_cons pe_non (pa_cons (pe_ix ix_seq (pv 4) pe_int (fun _ _ => rfl)) pa_nil)))) pa_nil))))) (pg_name (i := 7) sclaw.nd rfl (Or.inl rfl)) (pss_one (ps_if (pt_cmpR (op_neA hr.units) (pe_k canswer hr (by omega) (pa_cons (pe_k cview hr (by omega) (pa_cons (pv 1) (pa_cons (pv 7) pa_nil))) (pa_cons (pv 3) pa_nil))) (pv 5) (nomark _)) (pss_one (ps_ret pe_bl)) pss_nil))))))))))
      (pss_one (ps_ret pe_bl)))), ?_⟩
  have sE : Same (fun _ => none) H := fun _ _ z => nomatch z
  refine ⟨.ref s, rfl, (fun _ => none), s, zs, 2, 24, rfl, sE, hs, by decide, fun ns ps v1 G1 H1 g hl P1 d1 => ?_⟩
  dsimp only [gName]
  have hs1 := P1.hh.seq hs
  have fit := made_fit g
  refine for_run (gi_rng1 (K := K) (H := G1) (A := H1) (ga_cons (gd_int (i := 4)) ga_nil) (by decide) (by decide)) (.refl P1.gh) fun B HB PB => ?_
  refine ⟨fun i σ' G' H' => ∃ (x2 x3 x4 x5 x6 x7 : Option V), σ' = [some (.ref s), some v1, x2, x3, x4, x5, x6, x7, none] ∧ Same B G' ∧ Same G' H' ∧ Same HB H', ⟨none, none, none, none, none, none, rfl, .refl _, PB.gh, .refl _⟩, fun i σ' G' H' ⟨_, _, _, _, _, _, _, h1, h2, _⟩ => ⟨h1, h2⟩, ?_, ?_⟩
  · rintro i dd σ' G4 H4 hdd ⟨x2, x3, x4, x5, x6, x7, rfl, sB, sG, sH⟩ z G5 H5 P5 dv5
    have hi : i < 4 := by
      have z := (List.getElem?_eq_some_iff.mp hdd).1
      rw [List.length_map, upto_len] at z
      exact z
    rw [List.getElem?_map, upto_get (by exact hi)] at hdd
    have ed : dd = ofN i := by
      rw [← Option.some.inj hdd]
      show PyData.int (0 + (i : Int)) = .int (i : Int)
      rw [Int.zero_add]
    subst ed
    have ev := Dv.int_inv dv5
    subst ev
    have hs5 : SqL K H5 s (zs.map V.int) := (PB.hh.trans (sH.trans P5.hh)).seq hs1
    have s15 : Same G1 G5 := PB.hg.trans (sB.trans P5.hg)
    have gk : ∀ {x3 : Option V} {G' H' : Hp}, GD K (tVar 2) [some (.ref s), some v1, some (.int (i : Int)), x3, x4, x5, x6, x7, none] G' H' (ofN i) := gd_var (i := 2) rfl (.int (i : Int))
    refine e_ltest (K := K) (m := 3) (q := 4) (gr_addQ (c := 1000 * (i : Int)) (gr_cellQ (H := G5) rfl hs5 (gd_modN (m := 2) gk (by decide))) (gdo gd_int gk (go_ic (C := CMul) (f := fun i j => i * j) (.inl (by decide))))) (by decide) (.refl P5.gh) fun ds v3 G6 H6 P6 dv6 => ?_
    have ok := okt_lawT ds false
    have ne := ne_lawT 3 ds false
    have mw := mnW_lawT 3 ds false
    dsimp only [gName]
    obtain ⟨t, ht⟩ : ∃ t, t = lawT 3 ds false := ⟨_, rfl⟩
    rw [← ht] at ok ne dv6 mw
    have s16 := s15.trans P6.hg
    refine s_set (K := K) (d := (opT t).toD) (gd_callA (K := K) (ar := arT) (f := fOpt) (n := 1) t (ga_cons (gd_var (i := 3) rfl dv6) ga_nil) rfl ok) P6.gh fun v4 G7 H7 P7 dv7 => ?_
    have dt7 := dv6.to P7.hg
    -- told
    have g1 : GD K (tCB (RR.rTupF K) (tCons (tCall (spA K 1 arT (Okt 7) fMk) [] E0 (tCons (tVar 3) tNil)) tNil)) [some (.ref s), some v1, some (.int (i : Int)), some v3, some v4, x5, x6, x7, none] G7 H7 (.tuple ((mkL t).map .str)) := gd_cb (ga_cons (gd_callA (K := K) (ar := arT) (f := fMk) (n := 1) t (ga_cons (gd_var (i := 3) rfl dt7) ga_nil) rfl ok) ga_nil) gc_tupL
    have g2 := gdo (K := K) (A := H7) (gd_callA (K := K) (ar := arT) (f := fTx) (n := 1) t (ga_cons (gd_var (σ := [some (.ref s), some v1, some (.int (i : Int)), some v3, some v4, x5, x6, x7, none]) (i := 3) rfl dt7) ga_nil) rfl ok) (gd_lst ga_nil) (go_neNilS (txL_lay ok))
    refine s_ifr (K := K) (b := false) (gt_test (gdo (gd_var (i := 4) rfl (show Dv K G7 v4 (.tuple [.str "all", .tuple ((mkL t).map .str), .bool (!(txL t).isEmpty)]) from dv7)) (gd_tup (ga_cons (gd_str (i := "all")) (ga_cons g1 (ga_cons g2 ga_nil)))) (go_neOp (lay_str (by decide +kernel)) (mkL_lay ok)))) P7.gh (fun z => nomatch z) fun _ H8 s8 => ?_
    have sG8 := P7.gh.trans s8
    refine s_set (K := K) (d := natsD (enL ns ps t)) (gd_ans (ps := ps) (i := 1) rfl (d1.to (s16.trans P7.hg)) g ok ne (gd_var (i := 3) rfl dt7)) sG8 fun v5 G9 H9 P9 dv9 => ?_
    have s19 := s16.trans (P7.hg.trans P9.hg)
    have dt9 := dt7.to P9.hg
    have do9 : Dv K G9 v4 (.tuple [.str "all", .tuple ((mkL t).map .str), .bool (!(txL t).isEmpty)]) := dv7.to P9.hg
    have hml := mkL_len ok
    -- wider
    have gf := gd_lcIf (K := K) (σ := [some (.ref s), some v1, some (.int (i : Int)), some v3, some v4, some v5, x6, x7, none]) (H := G9) (A := H9) (k := 8) (em := PyData.str) (f := PyData.str) (te := tVar 8) (xs := (["k", "m", "n"] : List Str)) (p := fun a => decide (a ∈ mkL t) || decide ((i % 2 : Int) = 0)) (gi_seqT (gd_tup (ga_cons gd_str (ga_cons gd_str (ga_cons gd_str ga_nil))))) (by decide) (fun i2 a ha v' G' H' p0 dv' => gt_or (by
      have x := gt_test (gdo (K := K) (A := H') (gd_var (σ := ((wipe [some (.ref s), some v1, some (.int (i : Int)), some v3, some v4, some v5, x6, x7, none] [8]).set 8 (some v'))) (i := 8) rfl dv') (gdo (gd_var (i := 4) rfl (do9.to p0.hg)) (gd_int (i := 1)) (go_ixT (atI_nat (j := 1) rfl))) (go_inT (x := .str a) (xs := (mkL t).map V.str) rfl (flat_strs _)))
      rw [inV_strs] at x
      exact x) fun _ => gt_test (gdo (K := K) (gd_mod (gd_var (i := 2) rfl (.int (i : Int))) (by decide)) gd_int go_eqI)) fun i2 a ha hp v' G' H' p0 dv' => gd_var (i := 8) rfl dv'
    have hfn : ((["k", "m", "n"] : List Str).filter fun a => decide (a ∈ mkL t) || decide ((i % 2 : Int) = 0)).Nodup := List.filter_sublist.nodup (by decide +kernel)
    have hfl : ((["k", "m", "n"] : List Str).filter fun a => decide (a ∈ mkL t) || decide ((i % 2 : Int) = 0)).length ≤ 3 := List.length_filter_le _ _
    have gw := gd_cb (K := K) (ga_cons (gd_cb (K := K) (ga_cons gf ga_nil) (gc_srtS hfn (by omega))) ga_nil) gc_tupL
    refine s_set (K := K) (d := (opW t i).toD) (gd_tup (ga_cons (gd_str (i := "all")) (ga_cons gw (ga_cons (gd_bl (i := true)) ga_nil)))) P9.gh fun v6 Ga Ha Pa dva => ?_
    have s1a := s19.trans Pa.hg
    have dta := dt9.to Pa.hg
    have doa := do9.to Pa.hg
    have dea := dv9.to Pa.hg
    have hops : ∀ o ∈ [opT t, opW t i, opN t], o.scope = "all" ∧ Shows o t ∧ o.Good := fun o ho => by
      simp only [List.mem_cons, List.not_mem_nil, or_false] at ho
      rcases ho with rfl | rfl | rfl
      · exact ⟨rfl, opT_shows t, good_all fun l e => by rw [← Option.some.inj e]; omega⟩
      · refine ⟨rfl, opW_shows ok.wf mw i, good_all fun l e => ?_⟩
        rw [← Option.some.inj e]
        exact Nat.le_trans srtS_len (Nat.le_trans hfl (by decide))
      · exact ⟨rfl, opN_shows t, good_all fun l e => nomatch e⟩
    refine for_run (gi_seqT (K := K) (H := Ga) (A := Ha) (ds := [opT t, opW t i, opN t].map Op.toD) (gd_tup (ga_cons (gd_var (i := 4) rfl doa) (ga_cons (gd_var (i := 6) rfl dva) (ga_cons (gd_tup (ga_cons (gd_str (i := "all")) (ga_cons gd_non (ga_cons (gdo (gd_var (i := 4) rfl doa) (gd_int (i := 2)) (go_ixT (atI_nat (j := 2) rfl))) ga_nil)))) ga_nil))))) (.refl Pa.gh) fun B2 HB2 PB2 => ?_
    refine ⟨fun i2 σ' G' H' => ∃ (x7 : Option V), σ' = [some (.ref s), some v1, some (.int (i : Int)), some v3, some v4, some v5, some v6, x7, none] ∧ Same B2 G' ∧ Same G' H' ∧ Same HB2 H', ⟨x7, rfl, .refl _, PB2.gh, .refl _⟩, fun i σ' G' H' ⟨_, _, h1, h2, _⟩ => ⟨h1, h2⟩, ?_, ?_⟩
    · rintro i2 dd σ' Gb Hb hdd ⟨y7, rfl, sB2, sGb, sHb⟩ vz Gc Hc Pc dvz
      rw [List.getElem?_map] at hdd
      obtain ⟨o, ho, rfl⟩ := Option.map_eq_some_iff.mp hdd
      obtain ⟨osc, osh, og⟩ := hops o (List.mem_of_getElem? ho)
      have s1c := s1a.trans (PB2.hg.trans (sB2.trans Pc.hg))
      have sac := PB2.hg.trans (sB2.trans Pc.hg)
      have gv : GD K (tCall (spA K 2 arV preVw fun x => (Sh.view x.2 x.1).toD) [] E0 (tCons (tVar 1) (tCons (tVar 7) tNil))) [some (.ref s), some v1, some (.int (i : Int)), some v3, some v4, some v5, some v6, some vz, none] Gc Hc (Sh.viewA o (madeS ns)).toD := by
        rw [← view_all osc]
        exact gd_callA (K := K) (A := Hc) (ar := arV) (n := 2) (Pre := preVw) (f := fun x => (Sh.view x.2 x.1).toD) (madeS ns, o) (ga_cons (gd_var (i := 1) rfl (d1.to s1c)) (ga_cons (gd_var (i := 7) rfl dvz) ga_nil)) rfl ⟨fit, og⟩
      have tel := viewA_tel (o := o) (made_tel (own := ownQ ns ps) g)
      have vw' := viewA_vw (o := o) (made_vw g)
      have lk' := lk_self tel
      have ga := gd_callA (K := K) (ar := arAn) (n := 2) (Pre := preAn) (f := fun x => natsD (ansL x.1 x.2)) (Sh.viewA o (madeS ns), t) (ga_cons gv (ga_cons (gd_var (i := 3) rfl (dta.to sac)) ga_nil)) rfl ⟨vw', plc_ok lk' vw', plc_oki lk' vw', ok, ne⟩
      have ea : ansL (Sh.viewA o (madeS ns)) t = enL ns ps t := (like_ans (made_lk g) (made_vw g) tel vw' viewA_like ok.wf osh).trans (ans_eq (made_lk g) (made_vw g) ok.wf)
      refine s_if (b := false) (gt_test (gdo ga (gd_var (i := 5) rfl (dea.to sac)) (go_neL ea))) Pc.gh (fun z => nomatch z) fun _ Hd sd => ?_
      exact ⟨Gc, _, rfl, sB2.trans Pc.hg, Pc.gh.trans sd, sHb.trans (Pc.hh.trans sd)⟩
    · rintro σ' G' H' ⟨y7, rfl, sB2, sGb, sHb⟩
      exact ⟨G', _, _, _, _, _, _, rfl, sB.trans (P5.hg.trans (P6.hg.trans (P7.hg.trans (P9.hg.trans (Pa.hg.trans (PB2.hg.trans sB2)))))), sGb, sH.trans (P5.hh.trans (P6.hh.trans (P7.hh.trans (s8.trans (P9.hh.trans (Pa.hh.trans (PB2.hh.trans sHb)))))))⟩
  · rintro σ' G' H' ⟨x2, x3, x4, x5, x6, x7, rfl, sB, sG, sH⟩
    dsimp only
    refine s_ret (K := K) (d := .bool true) gd_bl sG fun v4 G4 H4 P4 dv4 => ?_
    have e4 := Dv.bl_inv dv4
    subst e4
    exact q _
end
end LW
end
section
set_option Elab.async false
set_option linter.all false
set_option maxRecDepth 100000
set_option maxHeartbeats 4000000
namespace LW
open PySem PySem.Spec PyProof.Rows L2 DL LM
/-! ### what the top leaves, read by one Hook -/
section
variable {K : PySem.W.Frag} {C f : Addr}
theorem fun_ofD {x q : Str} {st : Stmt} {fd : FuncData} (F : FunD K x q (defArgs st) (defBody st) (defScope st) [] [] f fd) : Fun K x q st f fd := by
  obtain ⟨⟨oc, od, dV, kV, doc, pm, an, cdv, ct, osl, rfl, lk, hcd, hd, _⟩, kp⟩ := F
  have e : dV = .none := by
    rcases hd with ⟨_, z⟩ | ⟨z, _⟩
    · exact z
    · exact absurd rfl z
  subst e
  exact ⟨⟨oc, od, kV, doc, pm, an, cdv, ct, osl, rfl, lk, hcd⟩, kp⟩
def tyB (K : PySem.W.Frag) (f : Addr) : Bool := decide (PySem.W.typeIn K (.ref f) = some (.type "function"))
def pairS : List DictEntry → List (Str × Str) → Bool
  | [], [] => true
  | e :: es, p :: ps => (match e.key, e.val with
    | .str k _, .str i _ => decide (k = p.1) && decide (i = p.2)
    | _, _ => false) && pairS es ps
  | _, _ => false
theorem pairS_ok : ∀ {es : List DictEntry} {l : List (Str × Str)}, pairS es l = true → Paired (fun (e : DictEntry) (p : Str × Str) => (∃ t, e.key = .str p.1 t) ∧ ∃ t, e.val = .str p.2 t) es l
  | [], [], _ => .nil
  | [], _ :: _, h => by cases h
  | _ :: _, [], h => by cases h
  | e :: es, p :: ps, h => by
    obtain ⟨h1, h2⟩ := He.ba (show ((match e.key, e.val with
      | .str k _, .str i _ => decide (k = p.1) && decide (i = p.2)
      | _, _ => false) && pairS es ps) = true from h)
    refine .cons ?_ (pairS_ok h2)
    split at h1
    · rename_i k t i u ek ev
      obtain ⟨a, b⟩ := He.ba h1
      rw [ek, ev, of_decide_eq_true a, of_decide_eq_true b]
      exact ⟨⟨_, rfl⟩, _, rfl⟩
    · cases h1
def tabS (K : PySem.W.Frag) (a : Addr) (l : List (Str × Str)) : Bool := match K.lookup a with
  | some ⟨_, _, .dict es _, _⟩ => pairS es.toList l
  | _ => false
theorem tabS_ok {w : World} {a : Addr} {l : List (Str × Str)} {es : Array DictEntry} {n : Nat} (h : KDict K w a es n) (q : tabS K a l = true) : IsTab K w a l := by
  unfold tabS at q
  rw [h.at_] at q
  exact ⟨es, n, h.at_, h.lit, h.low, pairS_ok q⟩
def tupB0 (K : PySem.W.Frag) (a : Addr) (vs : List V) : Bool := match K.lookup a with
  | some ⟨.type c, none, .seq its _, _⟩ => decide (c = "tuple") && (decide (its.size ≤ sizeLine) && He.relAll vs its.toList)
  | _ => false
theorem tupB0_ok {a : Addr} {vs : List V} (h : tupB0 K a vs = true) : ∃ o its n, K.lookup a = some o ∧ o.cls = .type "tuple" ∧ o.dict = none ∧ o.data = .seq its n ∧ its.size ≤ sizeLine ∧ Vals vs its.toList := by
  unfold tupB0 at h
  split at h
  · rename_i c its n sl e
    obtain ⟨h1, h⟩ := He.ba h
    obtain ⟨h2, h3⟩ := He.ba h
    exact ⟨_, its, n, e, congrArg Value.type (of_decide_eq_true h1), rfl, rfl, of_decide_eq_true h2, He.relAll_ok h3⟩
  · cases h
end
def vvB (K : PySem.W.Frag) (x y : Str) : Bool := decide (He.ga K x = He.ga K y)
theorem vv_eq {K : PySem.W.Frag} {x y : Str} (h : vvB K x y = true) : He.ga K x = He.ga K y := of_decide_eq_true h
/-! the Hook: facts, defs, tables, and tests of one's own -/
abbrev AlM : Type := He.AlT × Bool
def obsM (fa : List He.Fa) (fn : List He.DefD) (ts : List He.Tab) (cb : List (PySem.W.Frag → Bool)) (K : PySem.W.Frag) : AlM := (He.obsT fa fn ts K, cb.all fun f => f K)
/-- where the objects stand: the latest first -/
def downL : Nat → List Addr
  | 0 => [0]
  | n + 1 => (n + 1) :: downL n
def asR (n : Nat) : List Addr := mainGlobals :: cStatics :: downL n
def obsMG (n : Nat) (fa : List He.Fa) (fn : List He.DefD) (ts : List He.Tab) (cb : List (PySem.W.Frag → Bool)) (g : Addr → Option Obj) : AlM := obsM fa fn ts cb (He.frG g (asR n))
def SaysM (fa : List He.Fa) (fn : List He.DefD) (ts : List He.Tab) (cb : List (PySem.W.Frag → Bool)) (w : World) (K : PySem.W.Frag) : Prop := obsM fa fn ts cb K = (He.valT fn ts w, true)
def hookM (n : Nat) (fa : List He.Fa) (fn : List He.DefD) (ts : List He.Tab) (cb : List (PySem.W.Frag → Bool)) : PySem.W.Hook where
  α := AlM
  obs := fun s => obsMG n fa fn ts cb s.heap.get?
  val := fun w => (He.valT fn ts w, true)
  says := fun w h => ∃ K : PySem.W.Frag, K.In h ∧ SaysM fa fn ts cb w K
  of := fun _ _ e => ⟨_, He.frG_in, e⟩
  keeps := fun _ _ _ ⟨K, hK, c⟩ k => ⟨K, PySem.W.Frag.In.keeps hK k, c⟩
theorem obsMG_eq {n : Nat} {fa : List He.Fa} {fn : List He.DefD} {ts : List He.Tab} {cb : List (PySem.W.Frag → Bool)} {g : Addr → Option Obj} {s : Shared} (h : ∀ a, g a = s.heap.get? a) : obsMG n fa fn ts cb g = (hookM n fa fn ts cb).obs s := by
  have e : g = s.heap.get? := funext h
  rw [e] <;> rfl
section
variable {fa : List He.Fa} {fn : List He.DefD} {ts : List He.Tab} {cb : List (PySem.W.Frag → Bool)} {w : World} {K : PySem.W.Frag}
theorem SaysM.t (c : SaysM fa fn ts cb w K) : He.SaysT fa fn ts w K := congrArg (fun z : AlM => z.1) c
theorem SaysM.b (c : SaysM fa fn ts cb w K) (i : Nat) {f : PySem.W.Frag → Bool} (h : cb[i]? = some f := by rfl) : f K = true :=
  List.all_eq_true.mp (show (cb.all fun f => f K) = true from congrArg (fun z : AlM => z.2) c) f (List.mem_of_getElem? h)
end
/-! in parts: one run each -/
abbrev Part : Type := List He.Fa × List He.DefD × List He.Tab × List (PySem.W.Frag → Bool)
def obP (n : Nat) (p : Part) (g : Addr → Option Obj) : AlM := obsMG n p.1 p.2.1 p.2.2.1 p.2.2.2 g
abbrev hookQ (n : Nat) (p : Part) : PySem.W.Hook := hookM n p.1 p.2.1 p.2.2.1 p.2.2.2
abbrev obQ (n : Nat) (p : Part) (s : PySem.W.SharedT) : AlM := obP n p (HandSHeadRun.getT s)
abbrev hookP (n : Nat) (ps : List Part) : PySem.W.Hook where
  α := List AlM
  obs := fun s => ps.map fun p => obP n p s.heap.get?
  val := fun w => ps.map fun p => (He.valT p.2.1 p.2.2.1 w, true)
  says := fun w h => ∃ K : PySem.W.Frag, K.In h ∧ ∀ p ∈ ps, SaysM p.1 p.2.1 p.2.2.1 p.2.2.2 w K
  of := fun w s e => by
    have e : (ps.map fun p => obP n p s.heap.get?) = ps.map fun p => (He.valT p.2.1 p.2.2.1 w, true) := e
    exact ⟨He.frG s.heap.get? (asR n), He.frG_in, fun p hp => List.map_inj_left.mp e p hp⟩
  keeps := fun _ _ _ ⟨K, hK, c⟩ k => ⟨K, PySem.W.Frag.In.keeps hK k, c⟩
theorem obP_eq {n : Nat} {ps : List Part} (s : PySem.W.SharedT) : (show (hookP n ps).α from ps.map fun p => obQ n p s) = (hookP n ps).obs s.abs := by
  have e : HandSHeadRun.getT s = s.abs.heap.get? := funext (HandSHeadRun.getT_eq s)
  show (ps.map fun p => obP n p (HandSHeadRun.getT s)) = ps.map fun p => obP n p s.abs.heap.get?
  rw [e]
theorem run_parts {r : PySem.W.OpenRow} {q : Program} {M n : Nat} {loose : List Str} {w : World} {ps : List Part} (hne : ps ≠ []) (h : ∀ p ∈ ps, HandSHeadRun.RunEq r q (hookQ n p) (obQ n p) M loose w) : HandSHeadRun.RunEq r q (hookP n ps) (fun s => ps.map fun p => obQ n p s) M loose w := fun os => by
  obtain ⟨p0, hp0⟩ := List.exists_mem_of_ne_nil _ hne
  obtain ⟨s, hs, e⟩ := Option.map_eq_some_iff.mp (h p0 hp0 os)
  refine Option.map_eq_some_iff.mpr ⟨s, hs, ?_⟩
  have all : ∀ p ∈ ps, obQ n p s = (He.valT p.2.1 p.2.2.1 w, true) := fun p hp => by
    obtain ⟨s', hs', e'⟩ := Option.map_eq_some_iff.mp (h p hp os)
    have es : s' = s := Option.some.inj (hs'.symm.trans hs)
    subst es
    exact (Prod.mk.inj (Prod.mk.inj e').2).2
  obtain ⟨e1, e2⟩ := Prod.mk.inj e
  obtain ⟨e3, _⟩ := Prod.mk.inj e2
  show (_, _, ps.map fun p => obQ n p s) = (true, _, ps.map fun p => (He.valT p.2.1 p.2.2.1 w, true))
  rw [List.map_congr_left all, e1, e3]
end LW
end
section
set_option Elab.async false
set_option linter.all false
set_option maxRecDepth 100000
set_option maxHeartbeats 0
namespace LW
open PySem PySem.Spec PyProof.Rows L2 DL LM
theorem all_core {P : Program} {w : World} {K : PySem.W.Frag} {mg : Str → Option Value}
    {CP f_tests_in f_subtests f__collect f_marks_of f_texts_of f_children_of f_parts_of f_mark_of f_options_of f_answer f__held f__joined f__beside f__along f__below f__holds f_view f__seen f_bare f_wants_mark f__law_cell f__law_draws f__law_marks f__law_node f__law_nodes f__law_made f__law_shape f__law_own_test f__law_test f_law f_Places_init aA : Addr}
    {fd_tests_in fd_subtests fd__collect fd_marks_of fd_texts_of fd_children_of fd_parts_of fd_mark_of fd_options_of fd_answer fd__held fd__joined fd__beside fd__along fd__below fd__holds fd_view fd__seen fd_bare fd_wants_mark fd__law_cell fd__law_draws fd__law_marks fd__law_node fd__law_nodes fd__law_made fd__law_shape fd__law_own_test fd__law_test fd_law fd_Places_init : FuncData}
    (F_tests_in : Fun K "tests_in" "tests_in" stests_in f_tests_in fd_tests_in)
    (H_tests_in : mg "tests_in" = some (.ref f_tests_in))
    (F_subtests : Fun K "subtests" "subtests" ssubtests f_subtests fd_subtests)
    (H_subtests : mg "subtests" = some (.ref f_subtests))
    (F__collect : Fun K "_collect" "_collect" s_collect f__collect fd__collect)
    (H__collect : mg "_collect" = some (.ref f__collect))
    (F_marks_of : Fun K "marks_of" "marks_of" smarks_of f_marks_of fd_marks_of)
    (H_marks_of : mg "marks_of" = some (.ref f_marks_of))
    (F_texts_of : Fun K "texts_of" "texts_of" stexts_of f_texts_of fd_texts_of)
    (H_texts_of : mg "texts_of" = some (.ref f_texts_of))
    (F_children_of : Fun K "children_of" "children_of" schildren_of f_children_of fd_children_of)
    (H_children_of : mg "children_of" = some (.ref f_children_of))
    (F_parts_of : Fun K "parts_of" "parts_of" sparts_of f_parts_of fd_parts_of)
    (H_parts_of : mg "parts_of" = some (.ref f_parts_of))
    (F_mark_of : Fun K "mark_of" "mark_of" smark_of f_mark_of fd_mark_of)
    (H_mark_of : mg "mark_of" = some (.ref f_mark_of))
    (F_options_of : Fun K "options_of" "options_of" soptions_of f_options_of fd_options_of)
    (H_options_of : mg "options_of" = some (.ref f_options_of))
    (F_answer : Fun K "answer" "answer" sanswer f_answer fd_answer)
    (H_answer : mg "answer" = some (.ref f_answer))
    (F__held : Fun K "_held" "_held" s_held f__held fd__held)
    (H__held : mg "_held" = some (.ref f__held))
    (F__joined : Fun K "_joined" "_joined" s_joined f__joined fd__joined)
    (H__joined : mg "_joined" = some (.ref f__joined))
    (F__beside : Fun K "_beside" "_beside" s_beside f__beside fd__beside)
    (H__beside : mg "_beside" = some (.ref f__beside))
    (F__along : Fun K "_along" "_along" s_along f__along fd__along)
    (H__along : mg "_along" = some (.ref f__along))
    (F__below : Fun K "_below" "_below" s_below f__below fd__below)
    (H__below : mg "_below" = some (.ref f__below))
    (F__holds : Fun K "_holds" "_holds" s_holds f__holds fd__holds)
    (H__holds : mg "_holds" = some (.ref f__holds))
    (F_view : Fun K "view" "view" sview f_view fd_view)
    (H_view : mg "view" = some (.ref f_view))
    (F__seen : Fun K "_seen" "_seen" s_seen f__seen fd__seen)
    (H__seen : mg "_seen" = some (.ref f__seen))
    (F_bare : Fun K "bare" "bare" sbare f_bare fd_bare)
    (H_bare : mg "bare" = some (.ref f_bare))
    (F_wants_mark : Fun K "wants_mark" "wants_mark" swants_mark f_wants_mark fd_wants_mark)
    (H_wants_mark : mg "wants_mark" = some (.ref f_wants_mark))
    (F__law_cell : Fun K "_law_cell" "_law_cell" s_law_cell f__law_cell fd__law_cell)
    (H__law_cell : mg "_law_cell" = some (.ref f__law_cell))
    (F__law_draws : Fun K "_law_draws" "_law_draws" s_law_draws f__law_draws fd__law_draws)
    (H__law_draws : mg "_law_draws" = some (.ref f__law_draws))
    (F__law_marks : Fun K "_law_marks" "_law_marks" s_law_marks f__law_marks fd__law_marks)
    (H__law_marks : mg "_law_marks" = some (.ref f__law_marks))
    (F__law_node : Fun K "_law_node" "_law_node" s_law_node f__law_node fd__law_node)
    (H__law_node : mg "_law_node" = some (.ref f__law_node))
    (F__law_nodes : Fun K "_law_nodes" "_law_nodes" s_law_nodes f__law_nodes fd__law_nodes)
    (H__law_nodes : mg "_law_nodes" = some (.ref f__law_nodes))
    (F__law_made : Fun K "_law_made" "_law_made" s_law_made f__law_made fd__law_made)
    (H__law_made : mg "_law_made" = some (.ref f__law_made))
    (F__law_shape : Fun K "_law_shape" "_law_shape" s_law_shape f__law_shape fd__law_shape)
    (H__law_shape : mg "_law_shape" = some (.ref f__law_shape))
    (F__law_own_test : Fun K "_law_own_test" "_law_own_test" s_law_own_test f__law_own_test fd__law_own_test)
    (H__law_own_test : mg "_law_own_test" = some (.ref f__law_own_test))
    (F__law_test : Fun K "_law_test" "_law_test" s_law_test f__law_test fd__law_test)
    (H__law_test : mg "_law_test" = some (.ref f__law_test))
    (F_law : Fun K "law" "law" slaw f_law fd_law)
    (H_law : mg "law" = some (.ref f_law))
    (H_CP : mg "Places" = some (.ref CP))
    (F_Places_init : Fun K "__init__" "Places.__init__" sPlaces_init f_Places_init fd_Places_init)
    (Mk_CP : Mk K CP f_Places_init)
    (cl_CP : Cls K CP)
    (n_CP_parts : NoAttr K CP "parts")
    (n_CP_inner : NoAttr K CP "inner")
    (n_CP_up : NoAttr K CP "up")
    (n_CP_ahead : NoAttr K CP "ahead")
    (n_CP_after : NoAttr K CP "after")
    (z_len : mg "len" = none)
    (z_isinstance : mg "isinstance" = none)
    (z_all : mg "all" = none)
    (z_ord : mg "ord" = none)
    (z_range : mg "range" = none)
    (z_sorted : mg "sorted" = none)
    (z_str : mg "str" = none)
    (z_int : mg "int" = none)
    (z_bool : mg "bool" = none)
    (z_tuple : mg "tuple" = none)
    (z_list : mg "list" = none)
    (z_zip : mg "zip" = none)
    (z_reversed : mg "reversed" = none)
    (z_set : mg "set" = none)
    (z_any : mg "any" = none)
    (z_enumerate : mg "enumerate" = none)
    (z_dict : mg "dict" = none)
    (z_min : mg "min" = none)
    (v_ARGUMENTS : mg "ARGUMENTS" = some (.ref aA))
    (t_ARGUMENTS : IsTab K w aA ARGS) :
    ∀ base : Heap, FnOk P w K mg base CX0 131 f_law fd_law ["script"] (spLw K) := by
  intro base
  have T : Bt mg := { len := z_len, isinstance := z_isinstance, all := z_all, ord := z_ord, range := z_range, sorted := z_sorted, str := z_str, int := z_int, bool := z_bool, tuple := z_tuple, list := z_list }
  have TX : Bx mg := { toBt := T, zip := z_zip, reversed := z_reversed, set := z_set, any := z_any }
  have BAR : Bar mg K w := ⟨⟨aA, v_ARGUMENTS, t_ARGUMENTS⟩⟩
  have B_tests_in := F_tests_in.binds (ps := ["test"]) fun _ _ _ _ _ _ us hl => match us, hl with | [_], _ => rfl
  have k_tests_in := F_tests_in.kp
  have B_subtests := F_subtests.binds (ps := ["test"]) fun _ _ _ _ _ _ us hl => match us, hl with | [_], _ => rfl
  have k_subtests := F_subtests.kp
  have B__collect := F__collect.binds (ps := ["test", "found"]) fun _ _ _ _ _ _ us hl => match us, hl with | [_, _], _ => rfl
  have k__collect := F__collect.kp
  have B_marks_of := F_marks_of.binds (ps := ["test"]) fun _ _ _ _ _ _ us hl => match us, hl with | [_], _ => rfl
  have k_marks_of := F_marks_of.kp
  have B_texts_of := F_texts_of.binds (ps := ["test"]) fun _ _ _ _ _ _ us hl => match us, hl with | [_], _ => rfl
  have k_texts_of := F_texts_of.kp
  have B_children_of := F_children_of.binds (ps := ["shape"]) fun _ _ _ _ _ _ us hl => match us, hl with | [_], _ => rfl
  have k_children_of := F_children_of.kp
  have B_parts_of := F_parts_of.binds (ps := ["shape"]) fun _ _ _ _ _ _ us hl => match us, hl with | [_], _ => rfl
  have k_parts_of := F_parts_of.kp
  have B_mark_of := F_mark_of.binds (ps := ["shape", "name"]) fun _ _ _ _ _ _ us hl => match us, hl with | [_, _], _ => rfl
  have k_mark_of := F_mark_of.kp
  have B_options_of := F_options_of.binds (ps := ["test"]) fun _ _ _ _ _ _ us hl => match us, hl with | [_], _ => rfl
  have k_options_of := F_options_of.kp
  have B_answer := F_answer.binds (ps := ["shape", "test"]) fun _ _ _ _ _ _ us hl => match us, hl with | [_, _], _ => rfl
  have k_answer := F_answer.kp
  have B__held := F__held.binds (ps := ["places", "test", "inner"]) fun _ _ _ _ _ _ us hl => match us, hl with | [_, _, _], _ => rfl
  have k__held := F__held.kp
  have B__joined := F__joined.binds (ps := ["word", "inner"]) fun _ _ _ _ _ _ us hl => match us, hl with | [_, _], _ => rfl
  have k__joined := F__joined.kp
  have B__beside := F__beside.binds (ps := ["neighbours", "held"]) fun _ _ _ _ _ _ us hl => match us, hl with | [_, _], _ => rfl
  have k__beside := F__beside.kp
  have B__along := F__along.binds (ps := ["neighbours", "held"]) fun _ _ _ _ _ _ us hl => match us, hl with | [_, _], _ => rfl
  have k__along := F__along.kp
  have B__below := F__below.binds (ps := ["inner", "held"]) fun _ _ _ _ _ _ us hl => match us, hl with | [_, _], _ => rfl
  have k__below := F__below.kp
  have B__holds := F__holds.binds (ps := ["places", "place", "test"]) fun _ _ _ _ _ _ us hl => match us, hl with | [_, _, _], _ => rfl
  have k__holds := F__holds.kp
  have B_view := F_view.binds (ps := ["shape", "options"]) fun _ _ _ _ _ _ us hl => match us, hl with | [_, _], _ => rfl
  have k_view := F_view.kp
  have B__seen := F__seen.binds (ps := ["shape", "options", "children"]) fun _ _ _ _ _ _ us hl => match us, hl with | [_, _, _], _ => rfl
  have k__seen := F__seen.kp
  have B_bare := F_bare.binds (ps := ["shape"]) fun _ _ _ _ _ _ us hl => match us, hl with | [_], _ => rfl
  have k_bare := F_bare.kp
  have B_wants_mark := F_wants_mark.binds (ps := ["options", "name"]) fun _ _ _ _ _ _ us hl => match us, hl with | [_, _], _ => rfl
  have k_wants_mark := F_wants_mark.kp
  have B__law_cell := F__law_cell.binds (ps := ["script", "k"]) fun _ _ _ _ _ _ us hl => match us, hl with | [_, _], _ => rfl
  have k__law_cell := F__law_cell.kp
  have B__law_draws := F__law_draws.binds (ps := ["cell", "many"]) fun _ _ _ _ _ _ us hl => match us, hl with | [_, _], _ => rfl
  have k__law_draws := F__law_draws.kp
  have B__law_marks := F__law_marks.binds (ps := ["draw"]) fun _ _ _ _ _ _ us hl => match us, hl with | [_], _ => rfl
  have k__law_marks := F__law_marks.kp
  have B__law_node := F__law_node.binds (ps := ["number", "draws"]) fun _ _ _ _ _ _ us hl => match us, hl with | [_, _], _ => rfl
  have k__law_node := F__law_node.kp
  have B__law_nodes := F__law_nodes.binds (ps := ["script", "start", "many"]) fun _ _ _ _ _ _ us hl => match us, hl with | [_, _, _], _ => rfl
  have k__law_nodes := F__law_nodes.kp
  have B__law_made := F__law_made.binds (ps := ["nodes", "place"]) fun _ _ _ _ _ _ us hl => match us, hl with | [_, _], _ => rfl
  have k__law_made := F__law_made.kp
  have B__law_shape := F__law_shape.binds (ps := ["script", "start", "many"]) fun _ _ _ _ _ _ us hl => match us, hl with | [_, _, _], _ => rfl
  have k__law_shape := F__law_shape.kp
  have B__law_own_test := F__law_own_test.binds (ps := ["draws"]) fun _ _ _ _ _ _ us hl => match us, hl with | [_], _ => rfl
  have k__law_own_test := F__law_own_test.kp
  have B__law_test := F__law_test.binds (ps := ["draws", "deep", "back"]) fun _ _ _ _ _ _ us hl => match us, hl with | [_, _, _], _ => rfl
  have k__law_test := F__law_test.kp
  have k_law := F_law.kp
  have B_Places_init := F_Places_init.binds (ps := ["self", "shape"]) fun _ _ _ _ _ _ us hl => match us, hl with | [_, _], _ => rfl
  have q_draws := cal_mk (P := P) (w := w) (base := base) F__law_draws (ok_draws T F__law_draws) H__law_draws B__law_draws
  have q_own := cal_mk (P := P) (w := w) (base := base) F__law_own_test (ok_own_test T F__law_own_test) H__law_own_test B__law_own_test
  have q_ltest := cal_law_test (P := P) (W := w) (base := base) T F__law_test H__law_test B__law_test q_own 4
  have q_tests := cal_mk (P := P) (w := w) (base := base) F_tests_in (ok_tests_in BAR F_tests_in) H_tests_in B_tests_in
  have q_col := cal_collect (P := P) (W := w) (base := base) F__collect H__collect B__collect q_tests 8
  have q_subs := cal_mk (P := P) (w := w) (base := base) F_subtests (ok_subtests F_subtests q_col) H_subtests B_subtests
  have q_kidsof := cal_mk (P := P) (w := w) (base := base) F_children_of (ok_children_of F_children_of) H_children_of B_children_of
  have q_parts := cal_mk (P := P) (w := w) (base := base) F_parts_of (ok_parts_of F_parts_of q_kidsof) H_parts_of B_parts_of
  have TD : Bd mg := { toBt := T, dict := z_dict }
  have TQ : Bq mg := { toBx := TX, enumerate := z_enumerate }
  have q_markof := cal_mk (P := P) (w := w) (base := base) F_mark_of (ok_mark_of TD F_mark_of) H_mark_of B_mark_of
  have CPC : PC K CP := ⟨cl_CP, ⟨n_CP_parts, n_CP_inner, n_CP_up, n_CP_ahead, n_CP_after⟩⟩
  have kPl : Kl P w K mg base 3 "Places" CP (spPI K CP) := ⟨_, _, _, Mk_CP, ok_places TQ CPC F_Places_init q_parts, B_Places_init, H_CP⟩
  have q_beside := cal_mk (P := P) (w := w) (base := base) F__beside (ok_beside F__beside) H__beside B__beside
  have q_along := cal_mk (P := P) (w := w) (base := base) F__along (ok_along F__along) H__along B__along
  have q_joined := cal_mk (P := P) (w := w) (base := base) F__joined (ok_joined TX F__joined) H__joined B__joined
  have q_below := cal_mk (P := P) (w := w) (base := base) F__below (ok_below TX F__below) H__below B__below
  have q_holds := cal_mk (P := P) (w := w) (base := base) F__holds (ok_holds TX CPC F__holds q_markof) H__holds B__holds
  have q_held := cal_mk (P := P) (w := w) (base := base) F__held (ok_held TX CPC F__held q_joined q_beside q_along q_below q_holds) H__held B__held
  have q_answer := cal_mk (P := P) (w := w) (base := base) F_answer (ok_answer TX CPC kPl F_answer q_tests q_subs q_held) H_answer B_answer
  have q_wants := cal_mk (P := P) (w := w) (base := base) F_wants_mark (ok_wants F_wants_mark) H_wants_mark B_wants_mark
  have q_bare := cal_mk (P := P) (w := w) (base := base) F_bare (ok_bare F_bare) H_bare B_bare
  have q_seen := cal_mk (P := P) (w := w) (base := base) F__seen (ok_seen T F__seen q_wants) H__seen B__seen
  have q_view := cal_mk (P := P) (w := w) (base := base) F_view (ok_view TX F_view q_kidsof q_parts q_bare q_seen) H_view B_view
  have q_mk := cal_mk (P := P) (w := w) (base := base) F_marks_of (ok_marks_of TX F_marks_of q_subs) H_marks_of B_marks_of
  have q_tx := cal_mk (P := P) (w := w) (base := base) F_texts_of (ok_texts_of TX F_texts_of q_subs) H_texts_of B_texts_of
  have q_cell := cal_mk (P := P) (w := w) (base := base) F__law_cell (ok_cell T F__law_cell) H__law_cell B__law_cell
  have TM : Bm mg := { toBx := TX, min := z_min }
  have q_lmarks := cal_mk (P := P) (w := w) (base := base) F__law_marks (ok_lmarks TX F__law_marks) H__law_marks B__law_marks
  have q_lnode := cal_mk (P := P) (w := w) (base := base) F__law_node (ok_lnode TX F__law_node q_lmarks) H__law_node B__law_node
  have q_lnodes := cal_mk (P := P) (w := w) (base := base) F__law_nodes (ok_lnodes TM F__law_nodes q_lmarks q_draws q_lnode) H__law_nodes B__law_nodes
  have q_lmade := cal_lmade (P := P) (W := w) (base := base) TX F__law_made H__law_made B__law_made 60
  have q_opts := cal_mk (P := P) (w := w) (base := base) F_options_of (ok_options_of TX F_options_of q_mk q_tx) H_options_of B_options_of
  have q_lshape := cal_mk (P := P) (w := w) (base := base) F__law_shape (ok_lshape F__law_shape q_lnodes q_lmade) H__law_shape B__law_shape
  exact ok_law TX F_law q_draws q_ltest q_cell q_lshape q_answer q_opts q_mk q_tx q_view
/-! the head -/
def dd_tests_in : He.DefD := ⟨("tests_in", none), "tests_in", "tests_in", defArgs stests_in, defBody stests_in, defScope stests_in, [], []⟩
def dd_subtests : He.DefD := ⟨("subtests", none), "subtests", "subtests", defArgs ssubtests, defBody ssubtests, defScope ssubtests, [], []⟩
def dd__collect : He.DefD := ⟨("_collect", none), "_collect", "_collect", defArgs s_collect, defBody s_collect, defScope s_collect, [], []⟩
def dd_marks_of : He.DefD := ⟨("marks_of", none), "marks_of", "marks_of", defArgs smarks_of, defBody smarks_of, defScope smarks_of, [], []⟩
def dd_texts_of : He.DefD := ⟨("texts_of", none), "texts_of", "texts_of", defArgs stexts_of, defBody stexts_of, defScope stexts_of, [], []⟩
def dd_children_of : He.DefD := ⟨("children_of", none), "children_of", "children_of", defArgs schildren_of, defBody schildren_of, defScope schildren_of, [], []⟩
def dd_parts_of : He.DefD := ⟨("parts_of", none), "parts_of", "parts_of", defArgs sparts_of, defBody sparts_of, defScope sparts_of, [], []⟩
def dd_mark_of : He.DefD := ⟨("mark_of", none), "mark_of", "mark_of", defArgs smark_of, defBody smark_of, defScope smark_of, [], []⟩
def dd_options_of : He.DefD := ⟨("options_of", none), "options_of", "options_of", defArgs soptions_of, defBody soptions_of, defScope soptions_of, [], []⟩
def dd_answer : He.DefD := ⟨("answer", none), "answer", "answer", defArgs sanswer, defBody sanswer, defScope sanswer, [], []⟩
def dd__held : He.DefD := ⟨("_held", none), "_held", "_held", defArgs s_held, defBody s_held, defScope s_held, [], []⟩
def dd__joined : He.DefD := ⟨("_joined", none), "_joined", "_joined", defArgs s_joined, defBody s_joined, defScope s_joined, [], []⟩
def dd__beside : He.DefD := ⟨("_beside", none), "_beside", "_beside", defArgs s_beside, defBody s_beside, defScope s_beside, [], []⟩
def dd__along : He.DefD := ⟨("_along", none), "_along", "_along", defArgs s_along, defBody s_along, defScope s_along, [], []⟩
def dd__below : He.DefD := ⟨("_below", none), "_below", "_below", defArgs s_below, defBody s_below, defScope s_below, [], []⟩
def dd__holds : He.DefD := ⟨("_holds", none), "_holds", "_holds", defArgs s_holds, defBody s_holds, defScope s_holds, [], []⟩
def dd_view : He.DefD := ⟨("view", none), "view", "view", defArgs sview, defBody sview, defScope sview, [], []⟩
def dd__seen : He.DefD := ⟨("_seen", none), "_seen", "_seen", defArgs s_seen, defBody s_seen, defScope s_seen, [], []⟩
def dd_bare : He.DefD := ⟨("bare", none), "bare", "bare", defArgs sbare, defBody sbare, defScope sbare, [], []⟩
def dd_wants_mark : He.DefD := ⟨("wants_mark", none), "wants_mark", "wants_mark", defArgs swants_mark, defBody swants_mark, defScope swants_mark, [], []⟩
def dd__law_cell : He.DefD := ⟨("_law_cell", none), "_law_cell", "_law_cell", defArgs s_law_cell, defBody s_law_cell, defScope s_law_cell, [], []⟩
def dd__law_draws : He.DefD := ⟨("_law_draws", none), "_law_draws", "_law_draws", defArgs s_law_draws, defBody s_law_draws, defScope s_law_draws, [], []⟩
def dd__law_marks : He.DefD := ⟨("_law_marks", none), "_law_marks", "_law_marks", defArgs s_law_marks, defBody s_law_marks, defScope s_law_marks, [], []⟩
def dd__law_node : He.DefD := ⟨("_law_node", none), "_law_node", "_law_node", defArgs s_law_node, defBody s_law_node, defScope s_law_node, [], []⟩
def dd__law_nodes : He.DefD := ⟨("_law_nodes", none), "_law_nodes", "_law_nodes", defArgs s_law_nodes, defBody s_law_nodes, defScope s_law_nodes, [], []⟩
def dd__law_made : He.DefD := ⟨("_law_made", none), "_law_made", "_law_made", defArgs s_law_made, defBody s_law_made, defScope s_law_made, [], []⟩
def dd__law_shape : He.DefD := ⟨("_law_shape", none), "_law_shape", "_law_shape", defArgs s_law_shape, defBody s_law_shape, defScope s_law_shape, [], []⟩
def dd__law_own_test : He.DefD := ⟨("_law_own_test", none), "_law_own_test", "_law_own_test", defArgs s_law_own_test, defBody s_law_own_test, defScope s_law_own_test, [], []⟩
def dd__law_test : He.DefD := ⟨("_law_test", none), "_law_test", "_law_test", defArgs s_law_test, defBody s_law_test, defScope s_law_test, [], []⟩
def dd_law : He.DefD := ⟨("law", none), "law", "law", defArgs slaw, defBody slaw, defScope slaw, [], []⟩
def dd_Places_init : He.DefD := ⟨("Places", some "__init__"), "__init__", "Places.__init__", defArgs sPlaces_init, defBody sPlaces_init, defScope sPlaces_init, [], []⟩
def fnP1_0 : List He.DefD := [dd_tests_in, dd_subtests, dd__collect, dd_marks_of, dd_texts_of, dd_children_of, dd_parts_of, dd_mark_of, dd_options_of, dd_answer, dd__held, dd__joined, dd__beside, dd__along, dd__below, dd__holds, dd_view, dd__seen, dd_bare, dd_wants_mark, dd__law_cell, dd__law_draws, dd__law_marks, dd__law_node, dd__law_nodes, dd__law_made, dd__law_shape, dd__law_own_test, dd__law_test, dd_law]
def fnP1_1 : List He.DefD := [dd_Places_init]
def fnP1_ : List He.DefD := fnP1_0 ++ fnP1_1
def faL0 : List He.Fa := [.glo "tests_in", .glo "subtests", .glo "_collect", .glo "marks_of", .glo "texts_of", .glo "children_of", .glo "parts_of", .glo "mark_of", .glo "options_of", .glo "answer", .glo "_held", .glo "_joined", .glo "_beside", .glo "_along", .glo "_below", .glo "_holds", .glo "view", .glo "_seen", .glo "bare", .glo "wants_mark", .glo "_law_cell", .glo "_law_draws", .glo "_law_marks", .glo "_law_node", .glo "_law_nodes", .glo "_law_made", .glo "_law_shape", .glo "_law_own_test", .glo "_law_test", .glo "law"]
def faL1 : List He.Fa := [.glo "Places", .mkr "Places", .cls "Places", .noat "Places" "parts", .noat "Places" "inner", .noat "Places" "up", .noat "Places" "ahead", .noat "Places" "after", .free "len", .free "isinstance", .free "all", .free "ord", .free "range", .free "sorted", .free "str", .free "int", .free "bool", .free "tuple", .free "list", .free "zip", .free "reversed", .free "set", .free "any", .free "enumerate", .free "dict", .free "min", .glo "ARGUMENTS"]
def faL : List He.Fa := faL0 ++ faL1
def cbL0 : List (PySem.W.Frag → Bool) := [fun K => tabS K (He.ga K "ARGUMENTS") ARGS]
def cbL : List (PySem.W.Frag → Bool) := cbL0
def tsL0 : List He.Tab := [(fun K => He.ga K "ARGUMENTS", ["any", "name", "mark", "value", "text", "first", "last", "empty", "not", "both", "one", "under", "in", "next", "behind", "over", "has"])]
def tsL : List He.Tab := tsL0
def nsL0 : List PySem.Str := ["ARGUMENTS", "tests_in", "subtests", "_collect", "marks_of", "texts_of", "children_of", "parts_of", "mark_of", "options_of", "Places", "answer", "_held", "_joined", "_beside", "_along", "_below", "_holds", "view", "_seen", "bare", "wants_mark", "_law_cell", "_law_draws", "_law_marks", "_law_node", "_law_nodes", "_law_made", "_law_shape", "_law_own_test"]
def nsL1 : List PySem.Str := ["_law_test"]
def nsL : List PySem.Str := nsL0 ++ nsL1
abbrev RR_ : PySem.W.OpenRow := PySem.W.OpenLaw.row PySem.Challenge.rw_lookon_k07_needs_view_of_a_test
abbrev qv : Program := PySem.W.view RR_.prog [37]
abbrev P0 : Part := (faL, [], tsL, cbL)
abbrev P1 : Part := ([], fnP1_, [], [])
abbrev psL : List Part := [P0, P1]
abbrev hk : PySem.W.Hook := hookP 900 psL
def ob (s : PySem.W.SharedT) : hk.α := psL.map fun p => obQ 900 p s
theorem ob_eq (s : PySem.W.SharedT) : ob s = hk.obs s.abs := obP_eq s
theorem run_0_0 (w : World) : HandSHeadRun.RunEq RR_ qv (hookQ 900 P0) (obQ 900 P0) 12000 nsL (w.withFollow "special-get-raises" false) := by
  intro os
  kernel_rfl
theorem run_0_1 (w : World) : HandSHeadRun.RunEq RR_ qv (hookQ 900 P0) (obQ 900 P0) 12000 nsL (w.withFollow "special-get-raises" true) := by
  intro os
  kernel_rfl
theorem run_0 (w : World) : HandSHeadRun.RunEq RR_ qv (hookQ 900 P0) (obQ 900 P0) 12000 nsL w := PySem.W.byRow2 "special-get-raises" (P := fun w => HandSHeadRun.RunEq RR_ qv (hookQ 900 P0) (obQ 900 P0) 12000 nsL w) run_0_0 run_0_1 w
theorem run_1_0 (w : World) : HandSHeadRun.RunEq RR_ qv (hookQ 900 P1) (obQ 900 P1) 12000 nsL (w.withFollow "special-get-raises" false) := by
  intro os
  kernel_rfl
theorem run_1_1 (w : World) : HandSHeadRun.RunEq RR_ qv (hookQ 900 P1) (obQ 900 P1) 12000 nsL (w.withFollow "special-get-raises" true) := by
  intro os
  kernel_rfl
theorem run_1 (w : World) : HandSHeadRun.RunEq RR_ qv (hookQ 900 P1) (obQ 900 P1) 12000 nsL w := PySem.W.byRow2 "special-get-raises" (P := fun w => HandSHeadRun.RunEq RR_ qv (hookQ 900 P1) (obQ 900 P1) 12000 nsL w) run_1_0 run_1_1 w
theorem head_run (w : World) : HandSHeadRun.RunEq RR_ qv hk ob 12000 nsL w := run_parts (fun z => nomatch z) fun p hp => by
  simp only [List.mem_cons, List.mem_nil_iff, or_false] at hp
  rcases hp with rfl | rfl
  · exact run_0 w
  · exact run_1 w
theorem facts {P : Program} {w : World} {K : PySem.W.Frag} {h : Heap} {mg : Str → Option Value} {f : Addr} (X : K.In h) (G : h.Ns mainGlobals mg) (hfa : mg ("law" : Str) = some (.ref f)) (c : ∀ p ∈ psL, SaysM p.1 p.2.1 p.2.2.1 p.2.2.2 w K) :
    ∃ fd : FuncData, (∀ (s : Shared) (v : Value), BindsTo s fd ⟨[v], []⟩ [("script", v)]) ∧ ∀ base : Heap, FnOk P w K mg base CX0 131 f fd ["script"] (spLw K) := by
  have c0 : SaysM P0.1 P0.2.1 P0.2.2.1 P0.2.2.2 w K := c P0 (by simp)
  have c1 : SaysM P1.1 P1.2.1 P1.2.2.1 P1.2.2.2 w K := c P1 (by simp)
  obtain ⟨fd_tests_in, D_tests_in⟩ := c1.t.d.def_ 0 (d := dd_tests_in) rfl
  obtain ⟨fd_subtests, D_subtests⟩ := c1.t.d.def_ 1 (d := dd_subtests) rfl
  obtain ⟨fd__collect, D__collect⟩ := c1.t.d.def_ 2 (d := dd__collect) rfl
  obtain ⟨fd_marks_of, D_marks_of⟩ := c1.t.d.def_ 3 (d := dd_marks_of) rfl
  obtain ⟨fd_texts_of, D_texts_of⟩ := c1.t.d.def_ 4 (d := dd_texts_of) rfl
  obtain ⟨fd_children_of, D_children_of⟩ := c1.t.d.def_ 5 (d := dd_children_of) rfl
  obtain ⟨fd_parts_of, D_parts_of⟩ := c1.t.d.def_ 6 (d := dd_parts_of) rfl
  obtain ⟨fd_mark_of, D_mark_of⟩ := c1.t.d.def_ 7 (d := dd_mark_of) rfl
  obtain ⟨fd_options_of, D_options_of⟩ := c1.t.d.def_ 8 (d := dd_options_of) rfl
  obtain ⟨fd_answer, D_answer⟩ := c1.t.d.def_ 9 (d := dd_answer) rfl
  obtain ⟨fd__held, D__held⟩ := c1.t.d.def_ 10 (d := dd__held) rfl
  obtain ⟨fd__joined, D__joined⟩ := c1.t.d.def_ 11 (d := dd__joined) rfl
  obtain ⟨fd__beside, D__beside⟩ := c1.t.d.def_ 12 (d := dd__beside) rfl
  obtain ⟨fd__along, D__along⟩ := c1.t.d.def_ 13 (d := dd__along) rfl
  obtain ⟨fd__below, D__below⟩ := c1.t.d.def_ 14 (d := dd__below) rfl
  obtain ⟨fd__holds, D__holds⟩ := c1.t.d.def_ 15 (d := dd__holds) rfl
  obtain ⟨fd_view, D_view⟩ := c1.t.d.def_ 16 (d := dd_view) rfl
  obtain ⟨fd__seen, D__seen⟩ := c1.t.d.def_ 17 (d := dd__seen) rfl
  obtain ⟨fd_bare, D_bare⟩ := c1.t.d.def_ 18 (d := dd_bare) rfl
  obtain ⟨fd_wants_mark, D_wants_mark⟩ := c1.t.d.def_ 19 (d := dd_wants_mark) rfl
  obtain ⟨fd__law_cell, D__law_cell⟩ := c1.t.d.def_ 20 (d := dd__law_cell) rfl
  obtain ⟨fd__law_draws, D__law_draws⟩ := c1.t.d.def_ 21 (d := dd__law_draws) rfl
  obtain ⟨fd__law_marks, D__law_marks⟩ := c1.t.d.def_ 22 (d := dd__law_marks) rfl
  obtain ⟨fd__law_node, D__law_node⟩ := c1.t.d.def_ 23 (d := dd__law_node) rfl
  obtain ⟨fd__law_nodes, D__law_nodes⟩ := c1.t.d.def_ 24 (d := dd__law_nodes) rfl
  obtain ⟨fd__law_made, D__law_made⟩ := c1.t.d.def_ 25 (d := dd__law_made) rfl
  obtain ⟨fd__law_shape, D__law_shape⟩ := c1.t.d.def_ 26 (d := dd__law_shape) rfl
  obtain ⟨fd__law_own_test, D__law_own_test⟩ := c1.t.d.def_ 27 (d := dd__law_own_test) rfl
  obtain ⟨fd__law_test, D__law_test⟩ := c1.t.d.def_ 28 (d := dd__law_test) rfl
  obtain ⟨fd_law, D_law⟩ := c1.t.d.def_ 29 (d := dd_law) rfl
  obtain ⟨fd_Places_init, D_Places_init⟩ := c1.t.d.def_ 30 (d := dd_Places_init) rfl
  obtain ⟨es_A, n_A, kd_A⟩ := c0.t.tab 0 rfl
  have e := hfa.symm.trans (He.glo_ok X G (c0.t.d.fact 29 (f := .glo "law") rfl))
  cases e
  have b := FunD.bindsA (ps := ["script"]) D_law fun _ _ _ _ _ _ us hl => match us, hl with | [_], _ => rfl
  exact ⟨fd_law, fun s v => b s [v] rfl, all_core (F_tests_in := fun_ofD D_tests_in)
    (H_tests_in := He.glo_ok X G (c0.t.d.fact 0 (f := .glo "tests_in") rfl))
    (F_subtests := fun_ofD D_subtests)
    (H_subtests := He.glo_ok X G (c0.t.d.fact 1 (f := .glo "subtests") rfl))
    (F__collect := fun_ofD D__collect)
    (H__collect := He.glo_ok X G (c0.t.d.fact 2 (f := .glo "_collect") rfl))
    (F_marks_of := fun_ofD D_marks_of)
    (H_marks_of := He.glo_ok X G (c0.t.d.fact 3 (f := .glo "marks_of") rfl))
    (F_texts_of := fun_ofD D_texts_of)
    (H_texts_of := He.glo_ok X G (c0.t.d.fact 4 (f := .glo "texts_of") rfl))
    (F_children_of := fun_ofD D_children_of)
    (H_children_of := He.glo_ok X G (c0.t.d.fact 5 (f := .glo "children_of") rfl))
    (F_parts_of := fun_ofD D_parts_of)
    (H_parts_of := He.glo_ok X G (c0.t.d.fact 6 (f := .glo "parts_of") rfl))
    (F_mark_of := fun_ofD D_mark_of)
    (H_mark_of := He.glo_ok X G (c0.t.d.fact 7 (f := .glo "mark_of") rfl))
    (F_options_of := fun_ofD D_options_of)
    (H_options_of := He.glo_ok X G (c0.t.d.fact 8 (f := .glo "options_of") rfl))
    (F_answer := fun_ofD D_answer)
    (H_answer := He.glo_ok X G (c0.t.d.fact 9 (f := .glo "answer") rfl))
    (F__held := fun_ofD D__held)
    (H__held := He.glo_ok X G (c0.t.d.fact 10 (f := .glo "_held") rfl))
    (F__joined := fun_ofD D__joined)
    (H__joined := He.glo_ok X G (c0.t.d.fact 11 (f := .glo "_joined") rfl))
    (F__beside := fun_ofD D__beside)
    (H__beside := He.glo_ok X G (c0.t.d.fact 12 (f := .glo "_beside") rfl))
    (F__along := fun_ofD D__along)
    (H__along := He.glo_ok X G (c0.t.d.fact 13 (f := .glo "_along") rfl))
    (F__below := fun_ofD D__below)
    (H__below := He.glo_ok X G (c0.t.d.fact 14 (f := .glo "_below") rfl))
    (F__holds := fun_ofD D__holds)
    (H__holds := He.glo_ok X G (c0.t.d.fact 15 (f := .glo "_holds") rfl))
    (F_view := fun_ofD D_view)
    (H_view := He.glo_ok X G (c0.t.d.fact 16 (f := .glo "view") rfl))
    (F__seen := fun_ofD D__seen)
    (H__seen := He.glo_ok X G (c0.t.d.fact 17 (f := .glo "_seen") rfl))
    (F_bare := fun_ofD D_bare)
    (H_bare := He.glo_ok X G (c0.t.d.fact 18 (f := .glo "bare") rfl))
    (F_wants_mark := fun_ofD D_wants_mark)
    (H_wants_mark := He.glo_ok X G (c0.t.d.fact 19 (f := .glo "wants_mark") rfl))
    (F__law_cell := fun_ofD D__law_cell)
    (H__law_cell := He.glo_ok X G (c0.t.d.fact 20 (f := .glo "_law_cell") rfl))
    (F__law_draws := fun_ofD D__law_draws)
    (H__law_draws := He.glo_ok X G (c0.t.d.fact 21 (f := .glo "_law_draws") rfl))
    (F__law_marks := fun_ofD D__law_marks)
    (H__law_marks := He.glo_ok X G (c0.t.d.fact 22 (f := .glo "_law_marks") rfl))
    (F__law_node := fun_ofD D__law_node)
    (H__law_node := He.glo_ok X G (c0.t.d.fact 23 (f := .glo "_law_node") rfl))
    (F__law_nodes := fun_ofD D__law_nodes)
    (H__law_nodes := He.glo_ok X G (c0.t.d.fact 24 (f := .glo "_law_nodes") rfl))
    (F__law_made := fun_ofD D__law_made)
    (H__law_made := He.glo_ok X G (c0.t.d.fact 25 (f := .glo "_law_made") rfl))
    (F__law_shape := fun_ofD D__law_shape)
    (H__law_shape := He.glo_ok X G (c0.t.d.fact 26 (f := .glo "_law_shape") rfl))
    (F__law_own_test := fun_ofD D__law_own_test)
    (H__law_own_test := He.glo_ok X G (c0.t.d.fact 27 (f := .glo "_law_own_test") rfl))
    (F__law_test := fun_ofD D__law_test)
    (H__law_test := He.glo_ok X G (c0.t.d.fact 28 (f := .glo "_law_test") rfl))
    (F_law := fun_ofD D_law)
    (H_law := He.glo_ok X G (c0.t.d.fact 29 (f := .glo "law") rfl))
    (H_CP := He.glo_ok X G (c0.t.d.fact 30 (f := .glo "Places") rfl))
    (F_Places_init := fun_ofD D_Places_init)
    (Mk_CP := He.mkr_ok (c0.t.d.fact 31 (f := .mkr "Places") rfl))
    (cl_CP := He.cls_ok (c0.t.d.fact 32 (f := .cls "Places") rfl))
    (n_CP_parts := He.noat_ok (c0.t.d.fact 33 (f := .noat "Places" "parts") rfl))
    (n_CP_inner := He.noat_ok (c0.t.d.fact 34 (f := .noat "Places" "inner") rfl))
    (n_CP_up := He.noat_ok (c0.t.d.fact 35 (f := .noat "Places" "up") rfl))
    (n_CP_ahead := He.noat_ok (c0.t.d.fact 36 (f := .noat "Places" "ahead") rfl))
    (n_CP_after := He.noat_ok (c0.t.d.fact 37 (f := .noat "Places" "after") rfl))
    (z_len := He.free_ok X G (c0.t.d.fact 38 (f := .free "len") rfl))
    (z_isinstance := He.free_ok X G (c0.t.d.fact 39 (f := .free "isinstance") rfl))
    (z_all := He.free_ok X G (c0.t.d.fact 40 (f := .free "all") rfl))
    (z_ord := He.free_ok X G (c0.t.d.fact 41 (f := .free "ord") rfl))
    (z_range := He.free_ok X G (c0.t.d.fact 42 (f := .free "range") rfl))
    (z_sorted := He.free_ok X G (c0.t.d.fact 43 (f := .free "sorted") rfl))
    (z_str := He.free_ok X G (c0.t.d.fact 44 (f := .free "str") rfl))
    (z_int := He.free_ok X G (c0.t.d.fact 45 (f := .free "int") rfl))
    (z_bool := He.free_ok X G (c0.t.d.fact 46 (f := .free "bool") rfl))
    (z_tuple := He.free_ok X G (c0.t.d.fact 47 (f := .free "tuple") rfl))
    (z_list := He.free_ok X G (c0.t.d.fact 48 (f := .free "list") rfl))
    (z_zip := He.free_ok X G (c0.t.d.fact 49 (f := .free "zip") rfl))
    (z_reversed := He.free_ok X G (c0.t.d.fact 50 (f := .free "reversed") rfl))
    (z_set := He.free_ok X G (c0.t.d.fact 51 (f := .free "set") rfl))
    (z_any := He.free_ok X G (c0.t.d.fact 52 (f := .free "any") rfl))
    (z_enumerate := He.free_ok X G (c0.t.d.fact 53 (f := .free "enumerate") rfl))
    (z_dict := He.free_ok X G (c0.t.d.fact 54 (f := .free "dict") rfl))
    (z_min := He.free_ok X G (c0.t.d.fact 55 (f := .free "min") rfl))
    (v_ARGUMENTS := He.glo_ok X G (c0.t.d.fact 56 (f := .glo "ARGUMENTS") rfl))
    (t_ARGUMENTS := tabS_ok kd_A (c0.b 0 (f := fun K => tabS K (He.ga K "ARGUMENTS") ARGS) rfl))⟩
end LW
end
section
set_option Elab.async false
open PySem PySem.W PySem.Calls PyProof.Rows
set_option maxRecDepth 100000 in
set_option maxHeartbeats 0 in
theorem PySem.Challenge.cw_lookon_k07_needs_view_of_a_test_holds : PySem.Challenge.rw_lookon_k07_needs_view_of_a_test.Holds := by
  w_on; o_law
  refine HandSHeadRun.head_any (r := OpenLaw.row PySem.Challenge.rw_lookon_k07_needs_view_of_a_test) (q := LW.qv) (H := LW.hk) (ob := LW.ob) (M := 12000) (loose := LW.nsL) (d := HandSHeadRun.topDef (OpenLaw.row PySem.Challenge.rw_lookon_k07_needs_view_of_a_test).prog 37) (kwd := []) LW.ob_eq
    (by kernel_rfl) (fun s => by kernel_rfl) LW.head_run (by kernel_rfl) (by kernel_rfl) (by kernel_rfl) (by rfl) (by first | assumption | decide +kernel) (by decide +kernel) ⟨rfl, rfl, rfl, rfl, rfl, by decide +kernel⟩ ?hw ?hc
  case hw => w_witness2
  case hc =>
    refine L2.walk_ofE (l := PySem.Challenge.rw_lookon_k07_needs_view_of_a_test) (n := 63) (k := 131) (x := "script") (CX := L2.CX0) rfl (by decide) (by kernel_rfl) ⟨rfl, by decide, by decide⟩ ?F (fun _ _ _ _ z => z)
    intro w mg fa h Y G hmg0
    obtain ⟨K, KX, c⟩ := Y
    have hmg : mg ("law" : PySem.Str) = some (.ref fa) := by
      have e : (HandSHeadRun.topDef (OpenLaw.row PySem.Challenge.rw_lookon_k07_needs_view_of_a_test).prog 37).name = ("law" : PySem.Str) := by kernel_rfl
      rw [← e]
      exact hmg0
    obtain ⟨fd, hb, hF⟩ := LW.facts (P := (PySem.Challenge.rw_lookon_k07_needs_view_of_a_test).prog) (w := w) KX G hmg c
    exact ⟨K, fd, LW.spLw K, KX, hb, fun H a ns hl _ hS => ⟨a, ns, rfl, hS, hl, fun _ => rfl⟩, fun base _ _ => hF base⟩
end
