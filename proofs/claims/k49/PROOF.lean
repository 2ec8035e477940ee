import PyProof.Rows.All
import HandS.ForMost
import HandS.ForExc
import HandS.IsInst
import HandS.TupAny
import HandS.Flow
import HandS.Codes
import HandS.Style
import HandS.RevTup
import HandS.TupMul
import HandS.Steps
import HandS.Zip
import HandS.ExcInit
import HandS.ExcField
import HandS.FStr
import HandS.More
import HandS.Iter
import HandS.DictTup
import HandS.SetFor
import HandS.TryMany
import HandS.ExcIs
import HandS.WordsExc
import HandS.Defaults
import KE.KSortTupAny
import HandS.TryOnly
import PyProof.AutoSeq1
import KE.GoesNew
import HandS.WrittenGet
import PyProof.StrBlock2
import HandS.HeadEnd
import HandS.Head2
import HandS.HeadHook3
import HandS.ForSpec
import PySem.Challenge.RW_lookon_k49_documents_refuse
set_option Elab.async false
section
set_option Elab.async false
set_option linter.all false
set_option maxRecDepth 100000
set_option maxHeartbeats 2000000
/-! tuples whose object is known to have no dict -/
namespace RR
open PySem PySem.Spec PyProof.Rows L2 HT
section
variable {X : Cx} {es : List Expr} {pos : Pos} {t : TA}
/-- a tuple's object is known to have no dict -/
def ND (H : Hp) (a : Addr) (xs : List V) : Prop := ∃ ob : Obj, H a = some (.frz ob (.tup xs)) ∧ ob.dict = none
theorem ND.same {H H' : Hp} {a : Addr} {xs : List V} (h : ND H a xs) (e : Same H H') : ND H' a xs := by
  obtain ⟨ob, h1, h2⟩ := h
  exact ⟨ob, e _ _ h1, h2⟩
theorem frz_new {X : Cx} {pins : List (Addr × Obj)} {σ : L2.St} {H : Hp} {s : Shared} {xs : List V} {us : List Value} (I : L2.Inv X pins σ H s) (r : Vals xs us) (z : xs.length ≤ sizeLine) {n : Nat} :
    ∃ ob : Obj, ob = { cls := .type "tuple", data := .seq us.toArray n } ∧ ob.dict = none ∧ H s.heap.objs.size = none ∧ L2.Inv X pins σ (upd H s.heap.objs.size (.frz ob (.tup xs))) { s with heap := s.heap.push ob } := by
  refine ⟨_, rfl, rfl, I.hok.fresh (Nat.le_refl _), I.laid (t' := s.toks) (fun b o e => Heap.get?_push_of_some _ e) (Nat.le_refl _) ?_⟩
  have hg : (s.heap.push { cls := .type "tuple", data := .seq us.toArray n }).get? s.heap.objs.size = some { cls := .type "tuple", data := .seq us.toArray n } := Heap.get?_push_size _ rfl
  exact ⟨hg, z, us, r, ⟨_, hg, rfl, _, rfl⟩⟩
def tTupF (t : TA) : TE := fun σ H Q => t σ H fun xs H1 => xs.length ≤ sizeLine ∧ ∀ p ob, H1 p = none → ob.dict = none → Q (.ref p) (upd H1 p (.frz ob (.tup xs)))
theorem pe_tupF {x1} (h : PA X es t) : PE X (.Tuple es x1 pos) (tTupF t) := by
  refine ⟨fun pins s σ H Q I hq => ?_⟩
  refine wpAny_Tuple_spliced (thn (h.run pos pins s σ H _ I hq) fun us s1 ⟨xs, H1, I1, r, z, q⟩ => ⟨by rw [← r.length]; exact z, ?_⟩)
  obtain ⟨ob, e, hd, hf, J⟩ := frz_new I1 r z
  rw [e] at J hd
  exact ⟨.ref s1.heap.objs.size, _, J, rfl, q _ _ hf hd⟩
def rCatF (K : PySem.W.Frag) : R2 := fun x y H Q => ∃ a b xs ys, x = .ref a ∧ y = .ref b ∧ SqT K H a xs ∧ SqT K H b ys ∧ xs.length + ys.length ≤ sizeLine ∧
  (xs = [] → Q (.ref b) H) ∧ (xs ≠ [] → ys = [] → Q (.ref a) H) ∧ (xs ≠ [] → ys ≠ [] → ∀ p ob, H p = none → ob.dict = none → Q (.ref p) (upd H p (.frz ob (.tup (xs ++ ys)))))
theorem op_catF : OpR X (binaryOp .Add) (rCatF X.K) := by
  intro pins s σ H x y v u Q I rx ry h
  obtain ⟨a, b, xs, ys, rfl, rfl, ha, hb, hz, q0, q1, q2⟩ := h
  cases rx
  cases ry
  obtain ⟨its, r1, p1, _⟩ := I.tuple ha
  obtain ⟨its2, r2, p2, _⟩ := I.tuple hb
  by_cases hx : xs = []
  · subst hx
    cases r1
    exact cat_tup0 p1 p2 ⟨.ref b, H, I, rfl, q0 rfl⟩
  · refine HT.cat_tup p1 p2 (fun z => hx (r1.nil_iff.mp z)) (fun z => ⟨.ref a, H, I, rfl, q1 hx (r2.nil_iff.mp z)⟩) (fun z => ?_) (by rw [← r1.length, ← r2.length]; exact hz)
    obtain ⟨ob, e, hd, hf, J⟩ := frz_new (n := 0) I (r1.append r2) (by rw [List.length_append]; exact hz)
    rw [e] at J hd
    exact ⟨.ref s.heap.objs.size, _, J, rfl, q2 hx (fun w => z (r2.nil_iff.mpr w)) _ _ hf hd⟩
def rSlF (K : PySem.W.Frag) : V → Option Int → Option Int → Hp → VK → Prop := fun x lo hi H Q => ∃ a xs, x = .ref a ∧ SqT K H a xs ∧
  (HT.sIx xs.length 0 lo = 0 ∧ HT.sIx xs.length xs.length hi = xs.length → Q (.ref a) H) ∧ (¬ (HT.sIx xs.length 0 lo = 0 ∧ HT.sIx xs.length xs.length hi = xs.length) → ∀ p ob, H p = none → ob.dict = none → Q (.ref p) (upd H p (.frz ob (.tup (cutV xs lo hi)))))
theorem sl_tupF : SlR X (rSlF X.K) := by
  intro pins s σ H x v vl vu lo hi sl Q I rx hs pl pu h
  obtain ⟨a, xs, rfl, hx, q1, q2⟩ := h
  cases rx
  obtain ⟨its, r, ht, hz⟩ := I.tuple hx
  have hlen : its.toArray.size = xs.length := by rw [List.size_toArray]; exact r.length.symm
  refine ⟨"tuple", _, PyProof.Rows.slot_tuple_getitem.lookup, ht.typeIs, ?_⟩
  by_cases hw : HT.sIx xs.length 0 lo = 0 ∧ HT.sIx xs.length xs.length hi = xs.length
  · exact getItem_tuple_whole ht hs pl pu (by rw [hlen]; exact hw) ⟨.ref a, H, I, rfl, q1 hw⟩
  · refine HT.getItem_tuple_cut ht hs pl pu (by rw [hlen]; exact hw) ?_ (by rw [hlen]; exact hz)
    rw [hlen]
    obtain ⟨ob, e, hd, hf, J⟩ := frz_new (n := 0) I ((r.drop (HT.sIx xs.length 0 lo)).take (HT.sIx xs.length xs.length hi - HT.sIx xs.length 0 lo)) (Nat.le_trans (cutV_length xs lo hi) hz)
    rw [e] at J hd
    exact ⟨.ref s.heap.objs.size, _, J, rfl, q2 hw _ _ hf hd⟩
/-- tuple(l) of a list -/
def rTupF (K : PySem.W.Frag) : List V → Hp → VK → Prop := fun xs H Q => ∃ p ys, xs = [.ref p] ∧ SqL K H p ys ∧ ∀ l ob, H l = none → ob.dict = none → Q (.ref l) (upd H l (.frz ob (.tup ys)))
theorem cr_tupF {X : Cx} : CallR X (.type "tuple") (rTupF X.K) := by
  intro pins s σ H xs us Q I r h
  obtain ⟨p, ys, rfl, hq, q⟩ := h
  obtain ⟨u, rfl, rx⟩ := vals1 r
  cases rx
  obtain ⟨its, rv, pl, hz⟩ := I.list hq
  have hlen := rv.length
  refine call_tuple_list pl.isList (fun h2 kp => ?_) (by simp only [List.size_toArray] <;> omega)
  have J : L2.Inv X pins σ H { s with heap := h2 } := I.kept (t' := s.toks) kp
  obtain ⟨ob, e, hd, hf, J2⟩ := frz_new (n := 0) J rv hz
  rw [e] at J2 hd
  exact ⟨.ref h2.objs.size, _, J2, rfl, q _ _ hf hd⟩
end
end RR
end
section
set_option Elab.async false
set_option linter.all false
set_option maxRecDepth 100000
set_option maxHeartbeats 2000000
/-! Data behind the hand layer: what a reading gives, as PyData; the heap has a public part, in which the data lie, and private objects beside it. -/
namespace DL
open PySem PySem.Spec PyProof.Rows L2

theorem seqT {K : PySem.W.Frag} {H H' : Hp} {a : Addr} {xs : List V} (e : Same H H') (h : SqT K H a xs) : SqT K H' a xs := by
  rcases h with (h | ⟨o, h⟩) | h
  · exact .inl (.inl (e _ _ h))
  · exact .inl (.inr ⟨o, e _ _ h⟩)
  · exact .inr h
/-- data at a value: the lists are tracked or locked -/
theorem rd_same {H H' : Hp} {a : Addr} {u : HO} (e : Same H H') (h : Rd H a u) : Rd H' a u := by
  rcases h with h | ⟨o, h⟩
  · exact .inl (e _ _ h)
  · exact .inr ⟨o, e _ _ h⟩
/-- rows of two texts: what dict(t) is asked of -/
def pairB : PyData → Bool
  | .tuple [.str _, .str _] => true
  | _ => false
def pairsB (ds : List PyData) : Bool := ds.all pairB
mutual
inductive Dv (K : PySem.W.Frag) (H : Hp) : V → PyData → Prop
  | non : Dv K H .non .none
  | bl (b : Bool) : Dv K H (.bl b) (.bool b)
  | int (i : Int) : Dv K H (.int i) (.int i)
  | str (x : Str) : Dv K H (.str x) (.str x)
  | lst {a : Addr} {xs : List V} {ds : List PyData} : Rd H a (.lst xs) → DvA K H xs ds → Dv K H (.ref a) (.list ds)
  | tup' {a : Addr} {xs : List V} {ds : List PyData} : SqT K H a xs → (pairsB ds = true → RR.ND H a xs) → DvA K H xs ds → Dv K H (.ref a) (.tuple ds)
inductive DvA (K : PySem.W.Frag) (H : Hp) : List V → List PyData → Prop
  | nil : DvA K H [] []
  | cons {v : V} {vs : List V} {d : PyData} {ds : List PyData} : Dv K H v d → DvA K H vs ds → DvA K H (v :: vs) (d :: ds)
end
mutual
theorem dv_dp {K : PySem.W.Frag} {H : Hp} : ∀ (d : PyData) (v : V), Dv K H v d → Dp K H v d
  | .none, _, h => by cases h; exact .non
  | .bool _, _, h => by cases h; exact .bl _
  | .int _, _, h => by cases h; exact .int _
  | .str _, _, h => by cases h; exact .str _
  | .list ds, _, h => by
    cases h with
    | lst s a => exact .lst (.inl s) (dv_dpA ds _ a)
  | .tuple ds, _, h => by
    cases h with
    | tup' s n a => exact .tup s (dv_dpA ds _ a)
  | .dict _, _, h => by cases h
theorem dv_dpA {K : PySem.W.Frag} {H : Hp} : ∀ (ds : List PyData) (vs : List V), DvA K H vs ds → DpAll K H vs ds
  | [], _, h => by cases h; exact .nil
  | d :: ds, _, h => by
    cases h with
    | cons a r => exact .cons (dv_dp d _ a) (dv_dpA ds _ r)
end
mutual
theorem dp_same {K : PySem.W.Frag} {H H' : Hp} (e : Same H H') : ∀ (d : PyData) (v : V), Dv K H v d → Dv K H' v d
  | .none, _, h => by cases h; exact .non
  | .bool _, _, h => by cases h; exact .bl _
  | .int _, _, h => by cases h; exact .int _
  | .str _, _, h => by cases h; exact .str _
  | .list ds, _, h => by
    cases h with
    | lst s a => exact .lst (rd_same e s) (dp_sameA e ds _ a)
  | .tuple ds, _, h => by
    cases h with
    | tup' s n a => exact .tup' (seqT e s) (fun z => (n z).same e) (dp_sameA e ds _ a)
  | .dict _, _, h => by cases h
theorem dp_sameA {K : PySem.W.Frag} {H H' : Hp} (e : Same H H') : ∀ (ds : List PyData) (vs : List V), DvA K H vs ds → DvA K H' vs ds
  | [], _, h => by cases h; exact .nil
  | d :: ds, _, h => by
    cases h with
    | cons a r => exact .cons (dp_same e d _ a) (dp_sameA e ds _ r)
end
section
variable {K : PySem.W.Frag} {H H' H1 H2 H3 G G1 G2 : Hp}
theorem Dv.to {v : V} {d : PyData} (h : Dv K H v d) (e : Same H H') : Dv K H' v d := dp_same e d v h
theorem DvA.to {v : List V} {d : List PyData} (h : DvA K H v d) (e : Same H H') : DvA K H' v d := dp_sameA e d v h
theorem DvA.len : ∀ {vs : List V} {ds : List PyData}, DvA K H vs ds → vs.length = ds.length
  | _, _, .nil => rfl
  | _, _, .cons _ r => congrArg (· + 1) (DvA.len r)
theorem DvA.get : ∀ {vs : List V} {ds : List PyData} {i : Nat} {d : PyData}, DvA K H vs ds → ds[i]? = some d → ∃ v, vs[i]? = some v ∧ Dv K H v d
  | _, _, _, _, .nil, e => by simp at e
  | _, _, 0, _, .cons a _, e => by simp at e; subst e; exact ⟨_, rfl, a⟩
  | _, _, i + 1, d, .cons _ r, e => by
    obtain ⟨v, h1, h2⟩ := DvA.get (i := i) (d := d) r (by simpa using e)
    exact ⟨v, by simpa using h1, h2⟩
theorem DvA.getv : ∀ {vs : List V} {ds : List PyData} {i : Nat} {v : V}, DvA K H vs ds → vs[i]? = some v → ∃ d, ds[i]? = some d ∧ Dv K H v d
  | _, _, _, _, .nil, e => by simp at e
  | _, _, 0, _, .cons a _, e => by simp at e; subst e; exact ⟨_, rfl, a⟩
  | _, _, i + 1, v, .cons _ r, e => by
    obtain ⟨d, h1, h2⟩ := DvA.getv (i := i) (v := v) r (by simpa using e)
    exact ⟨d, by simpa using h1, h2⟩
theorem DvA.app : ∀ {vs ws : List V} {ds es : List PyData}, DvA K H vs ds → DvA K H ws es → DvA K H (vs ++ ws) (ds ++ es)
  | _, _, _, _, .nil, s => s
  | _, _, _, _, .cons a r, s => .cons a (DvA.app r s)
theorem DvA.take : ∀ {vs : List V} {ds : List PyData} (n : Nat), DvA K H vs ds → DvA K H (vs.take n) (ds.take n)
  | _, _, 0, _ => .nil
  | _, _, _ + 1, .nil => .nil
  | _, _, n + 1, .cons a r => .cons a (DvA.take n r)
theorem DvA.drop : ∀ {vs : List V} {ds : List PyData} (n : Nat), DvA K H vs ds → DvA K H (vs.drop n) (ds.drop n)
  | _, _, 0, r => r
  | _, _, _ + 1, .nil => .nil
  | _, _, n + 1, .cons _ r => DvA.drop n r
theorem DvA.one {v : V} {d : PyData} (h : Dv K H v d) : DvA K H [v] [d] := .cons h .nil
theorem Dv.int_inv {v : V} {i : Int} (h : Dv K H v (.int i)) : v = .int i := by cases h; rfl
theorem Dv.str_inv {v : V} {i : Str} (h : Dv K H v (.str i)) : v = .str i := by cases h; rfl
theorem Dv.bl_inv {v : V} {i : Bool} (h : Dv K H v (.bool i)) : v = .bl i := by cases h; rfl
theorem Dv.non_inv {v : V} (h : Dv K H v .none) : v = .non := by cases h; rfl
theorem Dv.lst_inv {v : V} {ds : List PyData} (h : Dv K H v (.list ds)) : ∃ a xs, v = .ref a ∧ Rd H a (.lst xs) ∧ DvA K H xs ds := by
  cases h with
  | lst s a => exact ⟨_, _, rfl, s, a⟩
theorem Dv.tup_inv {v : V} {ds : List PyData} (h : Dv K H v (.tuple ds)) : ∃ a xs, v = .ref a ∧ SqT K H a xs ∧ DvA K H xs ds := by
  cases h with
  | tup' s n a => exact ⟨_, _, rfl, s, a⟩
theorem Dv.tup_invN {v : V} {ds : List PyData} (h : Dv K H v (.tuple ds)) : ∃ a xs, v = .ref a ∧ SqT K H a xs ∧ (pairsB ds = true → RR.ND H a xs) ∧ DvA K H xs ds := by
  cases h with
  | tup' s n a => exact ⟨_, _, rfl, s, n, a⟩
theorem SqT.frz {a : Addr} {ob : Obj} {xs : List V} (h : H a = some (.frz ob (.tup xs))) : SqT K H a xs := .inl (.inr ⟨ob, h⟩)
/-- a tuple that is new -/
theorem Dv.tupF {a : Addr} {ob : Obj} {xs : List V} {ds : List PyData} (h : H a = some (.frz ob (.tup xs))) (hd : ob.dict = none) (r : DvA K H xs ds) : Dv K H (.ref a) (.tuple ds) := .tup' (SqT.frz h) (fun _ => ⟨ob, h, hd⟩) r
/-- a tuple that is no row of rows of two texts -/
theorem Dv.tup {a : Addr} {xs : List V} {ds : List PyData} (s : SqT K H a xs) (r : DvA K H xs ds) (hp : pairsB ds = false := by rfl) : Dv K H (.ref a) (.tuple ds) := .tup' s (fun z => by rw [hp] at z; cases z) r
theorem DvA.inv1 {vs : List V} {d : PyData} (h : DvA K H vs [d]) : ∃ v, vs = [v] ∧ Dv K H v d := by
  cases h with
  | cons a r => cases r; exact ⟨_, rfl, a⟩
theorem DvA.inv2 {vs : List V} {d e : PyData} (h : DvA K H vs [d, e]) : ∃ v w, vs = [v, w] ∧ Dv K H v d ∧ Dv K H w e := by
  cases h with
  | cons a r =>
    obtain ⟨w, rfl, b⟩ := DvA.inv1 r
    exact ⟨_, _, rfl, a, b⟩
theorem DvA.inv3 {vs : List V} {d e f : PyData} (h : DvA K H vs [d, e, f]) : ∃ v w x, vs = [v, w, x] ∧ Dv K H v d ∧ Dv K H w e ∧ Dv K H x f := by
  cases h with
  | cons a r =>
    obtain ⟨w, x, rfl, b, c⟩ := DvA.inv2 r
    exact ⟨_, _, _, rfl, a, b, c⟩
theorem DvA.inv4 {vs : List V} {d e f g : PyData} (h : DvA K H vs [d, e, f, g]) : ∃ v w x y, vs = [v, w, x, y] ∧ Dv K H v d ∧ Dv K H w e ∧ Dv K H x f ∧ Dv K H y g := by
  cases h with
  | cons a r =>
    obtain ⟨w, x, y, rfl, b, c, d⟩ := DvA.inv3 r
    exact ⟨_, _, _, _, rfl, a, b, c, d⟩
theorem DvA.ints : ∀ {ns : List Int}, DvA K H (ns.map V.int) (ns.map PyData.int)
  | [] => .nil
  | _ :: _ => .cons (.int _) DvA.ints
theorem DvA.ints_inv : ∀ {ns : List Int} {vs : List V}, DvA K H vs (ns.map PyData.int) → vs = ns.map V.int
  | [], _, .nil => rfl
  | _ :: _, _, .cons a r => by rw [Dv.int_inv a, DvA.ints_inv r]; rfl
theorem DvA.strs : ∀ {ns : List Str}, DvA K H (ns.map V.str) (ns.map PyData.str)
  | [] => .nil
  | _ :: _ => .cons (.str _) DvA.strs
theorem DvA.strs_inv : ∀ {ns : List Str} {vs : List V}, DvA K H vs (ns.map PyData.str) → vs = ns.map V.str
  | [], _, .nil => rfl
  | _ :: _, _, .cons a r => by rw [Dv.str_inv a, DvA.strs_inv r]; rfl
theorem DvA.bls_inv : ∀ {ns : List Bool} {vs : List V}, DvA K H vs (ns.map PyData.bool) → vs = ns.map V.bl
  | [], _, .nil => rfl
  | _ :: _, _, .cons a r => by rw [Dv.bl_inv a, DvA.bls_inv r]; rfl

/-! ### the public heap -/
/-- from the public H within H1 to the public G within H2: what was private in H1 is so still -/
structure Pub (H H1 G H2 : Hp) : Prop where
  hg : Same H G
  gh : Same G H2
  hh : Same H1 H2
  pr : ∀ b, H b = none → H1 b ≠ none → G b = none
theorem some_ne {H : Hp} {a : Addr} {o : HO} (h : H a = some o) : H a ≠ none := by rw [h]; exact fun z => nomatch z
theorem Pub.refl (e : Same H H1) : Pub H H1 H H1 := ⟨.refl _, e, .refl _, fun _ h _ => h⟩
theorem there_of (e : Same H1 H2) {b : Addr} (h : H1 b ≠ none) : H2 b ≠ none := by
  cases q : H1 b with
  | none => exact absurd q h
  | some o => exact some_ne (e b o q)
theorem Pub.trans (p : Pub H H1 G H2) (q : Pub G H2 G2 H3) : Pub H H1 G2 H3 :=
  ⟨p.hg.trans q.hg, q.gh, p.hh.trans q.hh, fun b h h1 => q.pr b (p.pr b h h1) (there_of p.hh h1)⟩
theorem same_new {H : Hp} {p : Addr} (h : H p = none) (o : HO) : Same H (upd H p o) := fun b u q => by rw [upd_ne (ne_of_none q h)]; exact q
theorem same_upd2 (e : Same H H1) (p : Addr) (h : H p = none) (o : HO) : Same H (upd H1 p o) := fun b u q => by rw [upd_ne (ne_of_none q h)]; exact e b u q
theorem same_both (e : Same H H1) (p : Addr) (o : HO) : Same (upd H p o) (upd H1 p o) := fun b u q => by
  by_cases hb : b = p
  · subst hb; rw [upd_same] at q ⊢; exact q
  · rw [upd_ne hb] at q ⊢; exact e b u q
/-- a new public object -/
theorem Pub.new (p : Pub H H1 G H2) {a : Addr} (h : H2 a = none) (o : HO) : Pub H H1 (upd G a o) (upd H2 a o) := by
  have hG := p.gh.free h
  refine ⟨p.hg.trans (same_new hG o), same_both p.gh a o, p.hh.trans (same_new h o), fun b h0 h1 => ?_⟩
  have hb : b ≠ a := fun z => by subst z; exact there_of p.hh h1 h
  rw [upd_ne hb]
  exact p.pr b h0 h1
/-- a new private object -/
theorem Pub.newP (p : Pub H H1 G H2) {a : Addr} (h : H2 a = none) (o : HO) : Pub H H1 G (upd H2 a o) :=
  ⟨p.hg, p.gh.trans (same_new h o), p.hh.trans (same_new h o), p.pr⟩
/-- a private object of one's own is written -/
theorem Pub.put (p : Pub H H1 G H2) {a : Addr} (h1 : H1 a = none) (hg : G a = none) (o : HO) : Pub H H1 G (upd H2 a o) :=
  ⟨p.hg, same_upd2 p.gh a hg o, same_upd2 p.hh a h1 o, p.pr⟩
/-- a private object of one's own is made public -/
theorem Pub.open_ (p : Pub H H1 G H2) {a : Addr} {o : HO} (h1 : H1 a = none) (hg : G a = none) (h : H2 a = some o) : Pub H H1 (upd G a o) H2 := by
  refine ⟨p.hg.trans (same_new hg o), fun b u q => ?_, p.hh, fun b h0 hb1 => ?_⟩
  · by_cases hb : b = a
    · subst hb; rw [upd_same] at q; rw [h]; exact q
    · rw [upd_ne hb] at q; exact p.gh b u q
  · have hb : b ≠ a := fun z => by subst z; exact hb1 h1
    rw [upd_ne hb]; exact p.pr b h0 hb1
/-- a private object stays what it is, and private -/
theorem Pub.keepP (p : Pub H H1 G H2) {a : Addr} {o : HO} (hH : H a = none) (h : H1 a = some o) : H2 a = some o ∧ G a = none := ⟨p.hh a o h, p.pr a hH (some_ne h)⟩
theorem Pub.same (p : Pub H H1 G H2) : Same H H2 := p.hg.trans p.gh
/-! ### what a reading gives: H the public heap, A the actual one, at which it is known -/
def GD (K : PySem.W.Frag) (t : TE) (σ : L2.St) (H A : Hp) (d : PyData) : Prop := ∀ H0 H1, Pub H A H0 H1 → ∀ Q : VK, (∀ v G H2, Pub H0 H1 G H2 → Dv K G v d → Q v H2) → t σ H1 Q
/-- one of several -/
def GR (K : PySem.W.Frag) (t : TE) (σ : L2.St) (H A : Hp) (R : PyData → Prop) : Prop := ∀ H0 H1, Pub H A H0 H1 → ∀ Q : VK, (∀ d v G H2, R d → Pub H0 H1 G H2 → Dv K G v d → Q v H2) → t σ H1 Q
/-- a known value -/
def GV (t : TE) (σ : L2.St) (H A : Hp) (v : V) : Prop := ∀ H0 H1, Pub H A H0 H1 → ∀ Q : VK, (∀ G H2, Pub H0 H1 G H2 → Q v H2) → t σ H1 Q
def GA (K : PySem.W.Frag) (t : TA) (σ : L2.St) (H A : Hp) (ds : List PyData) : Prop := ∀ H0 H1, Pub H A H0 H1 → ∀ Q, (∀ vs G H2, Pub H0 H1 G H2 → DvA K G vs ds → Q vs H2) → t σ H1 Q
def GT (t : TT) (σ : L2.St) (H A : Hp) (b : Bool) : Prop := ∀ H0 H1, Pub H A H0 H1 → ∀ Q : Bool → Hp → Prop, (∀ H2, Pub H0 H1 H0 H2 → Q b H2) → t σ H1 Q
theorem Pub.test (p : Pub H H1 G H2) (e : Same H2 H3) : Pub H H1 G H3 := ⟨p.hg, p.gh.trans e, p.hh.trans e, p.pr⟩
theorem Pub.idle {A : Hp} (s : Same H A) (e : Same A H2) : Pub H A H H2 := ⟨.refl _, s.trans e, e, fun _ h _ => h⟩
variable {A : Hp} {σ : L2.St} {t ta tb tc te : TE} {tA : TA} {tt tu : TT} {d d1 d2 d3 : PyData} {ds es : List PyData}
theorem GD.mono (g : GD K t σ H A d) (p : Pub H A G G1) : GD K t σ G G1 d := fun H0 H1 e Q q => g H0 H1 (p.trans e) Q q
theorem GA.mono (g : GA K tA σ H A ds) (p : Pub H A G G1) : GA K tA σ G G1 ds := fun H0 H1 e Q q => g H0 H1 (p.trans e) Q q
theorem GV.mono {v : V} (g : GV t σ H A v) (p : Pub H A G G1) : GV t σ G G1 v := fun H0 H1 e Q q => g H0 H1 (p.trans e) Q q
theorem GT.mono {b : Bool} (g : GT tt σ H A b) (p : Pub H A G G1) : GT tt σ G G1 b := fun H0 H1 e Q q => g H0 H1 (p.trans e) Q q
theorem GD.to {H0 : Hp} {Q : VK} (g : GD K t σ H A d) (e : Pub H A H0 H1) (k : ∀ v G H2, Pub H0 H1 G H2 → Dv K G v d → Q v H2) : t σ H1 Q := g H0 H1 e Q k
theorem GA.to {H0 : Hp} {Q : List V → Hp → Prop} (g : GA K tA σ H A ds) (e : Pub H A H0 H1) (k : ∀ vs G H2, Pub H0 H1 G H2 → DvA K G vs ds → Q vs H2) : tA σ H1 Q := g H0 H1 e Q k
theorem GV.to {H0 : Hp} {v : V} {Q : VK} (g : GV t σ H A v) (e : Pub H A H0 H1) (k : ∀ G H2, Pub H0 H1 G H2 → Q v H2) : t σ H1 Q := g H0 H1 e Q k
theorem GT.to {H0 : Hp} {Q : Bool → Hp → Prop} {b : Bool} (g : GT tt σ H A b) (e : Pub H A H0 H1) (k : ∀ H2, Pub H0 H1 H0 H2 → Q b H2) : tt σ H1 Q := g H0 H1 e Q k
theorem GD.gr (g : GD K t σ H A d) : GR K t σ H A (· = d) := fun H0 H1 e Q q => g H0 H1 e Q fun v G H2 p dv => q d v G H2 rfl p dv
/-- data by a value that is known to bear them -/
theorem GV.gd {v : V} (g : GV t σ H A v) (h : Dv K H v d) : GD K t σ H A d := fun H0 H1 e Q q => g.to e fun G H2 p => q v G H2 p (h.to (e.hg.trans p.hg))
/-! ### names, constants -/
theorem gd_var {i : Nat} {v : V} (e : σ[i]? = some (some v)) (h : Dv K H v d) : GD K (tVar i) σ H A d := fun H0 H1 s Q q => ⟨v, e, q v H0 H1 (.refl s.gh) (h.to s.hg)⟩
theorem gv_var {i : Nat} {v : V} (e : σ[i]? = some (some v)) : GV (tVar i) σ H A v := fun H0 H1 s Q q => ⟨v, e, q H0 H1 (.refl s.gh)⟩
theorem gv_c {v : V} : GV (tC v) σ H A v := fun H0 H1 s Q q => q H0 H1 (.refl s.gh)
theorem gd_c {v : V} (h : ∀ H, Dv K H v d) : GD K (tC v) σ H A d := fun H0 H1 s Q q => q v H0 H1 (.refl s.gh) (h _)
theorem gd_int {i : Int} : GD K (tC (.int i)) σ H A (.int i) := gd_c fun _ => .int i
theorem gd_str {i : Str} : GD K (tC (.str i)) σ H A (.str i) := gd_c fun _ => .str i
theorem gd_bl {i : Bool} : GD K (tC (.bl i)) σ H A (.bool i) := gd_c fun _ => .bl i
theorem gd_non : GD K (tC .non) σ H A .none := gd_c fun _ => .non
/-! ### displays -/
theorem ga_nil : GA K tNil σ H A [] := fun H0 H1 s Q q => q [] H0 H1 (.refl s.gh) .nil
theorem ga_cons (h : GD K ta σ H A d) (r : GA K tA σ H A ds) : GA K (tCons ta tA) σ H A (d :: ds) := fun H0 H1 s Q q => h.to s fun v G H2 p dv =>
  r.to (s.trans p) fun vs G2 H3 p2 dvs => q (v :: vs) G2 H3 (p.trans p2) (.cons (Dv.to dv p2.hg) dvs)
theorem gd_tup (h : GA K tA σ H A ds) (z : ds.length ≤ 1000 := by first | decide | simp) : GD K (RR.tTupF tA) σ H A (.tuple ds) := fun H0 H1 s Q q => h.to s fun vs G H2 p dv =>
  ⟨by rw [DvA.len dv]; exact Nat.le_of_lt (small1000 z), fun a ob ha hd => q (.ref a) _ _ (p.new ha _) (.tupF upd_same hd (DvA.to dv (same_new (p.gh.free ha) _)))⟩
theorem gd_lst (h : GA K tA σ H A ds) (z : ds.length ≤ 1000 := by first | decide | simp) : GD K (tLst tA) σ H A (.list ds) := fun H0 H1 s Q q => h.to s fun vs G H2 p dv =>
  ⟨by rw [DvA.len dv]; exact Nat.le_of_lt (small1000 z), fun a ha => q (.ref a) _ _ (p.new ha _) (.lst (.inl upd_same) (DvA.to dv (same_new (p.gh.free ha) _)))⟩
/-! ### operators -/
/-- by values -/
def GO (K : PySem.W.Frag) (r : R2) (d1 d2 d : PyData) : Prop := ∀ (H H1 G H2 : Hp) (x y : V) (Q : VK), Pub H H1 G H2 → Dv K G x d1 → Dv K G y d2 → (∀ v G' H3, Pub H H1 G' H3 → Dv K G' v d → Q v H3) → r x y H2 Q
theorem gdo {r : R2} (ga : GD K ta σ H A d1) (gb : GD K tb σ H A d2) (o : GO K r d1 d2 d) : GD K (tOp r ta tb) σ H A d := fun H0 H1 s Q q =>
  ga.to s fun x G1 H2 p dx => gb.to (s.trans p) fun y G2 H3 p2 dy => o _ _ G2 H3 x y Q (p.trans p2) (Dv.to dx p2.hg) dy q
def rOr (r r' : R2) : R2 := fun x y H Q => r x y H Q ∨ r' x y H Q
theorem op_or' {X : Cx} {f : Value → Value → Sem Value} {r r' : R2} (h : OpR X f r) (h' : OpR X f r') : OpR X f (rOr r r') := by
  intro pins s σ H x y v u Q I rx ry q
  rcases q with q | q
  · exact h pins s σ H x y v u Q I rx ry q
  · exact h' pins s σ H x y v u Q I rx ry q
end
end DL
end
section
set_option Elab.async false
set_option linter.all false
set_option maxRecDepth 100000
set_option maxHeartbeats 2000000
namespace DL
open PySem PySem.Spec PyProof.Rows L2
section
variable {K : PySem.W.Frag} {H H' H1 H2 H3 G G1 G2 : Hp} {σ : L2.St} {t ta tb tc te : TE} {tA : TA} {tt tu : TT} {d d1 d2 d3 : PyData} {ds es : List PyData}
/-! ### operators by values -/
theorem go_l {r r' : R2} (o : GO K r d1 d2 d) : GO K (rOr r r') d1 d2 d := fun H H1 G H2 x y Q p dx dy q => .inl (o H H1 G H2 x y Q p dx dy q)
theorem go_r {r r' : R2} (o : GO K r' d1 d2 d) : GO K (rOr r r') d1 d2 d := fun H H1 G H2 x y Q p dx dy q => .inr (o H H1 G H2 x y Q p dx dy q)
theorem go_i2 {f : Int → Int → Int} {i j : Int} : GO K (rI0 fun i j => .int (f i j)) (.int i) (.int j) (.int (f i j)) := fun H H1 G H2 x y Q p dx dy q => ⟨i, j, Dv.int_inv dx, Dv.int_inv dy, q _ G H2 p (.int _)⟩
theorem go_b2 {f : Int → Int → Bool} {i j : Int} : GO K (rI0 fun i j => .bl (f i j)) (.int i) (.int j) (.bool (f i j)) := fun H H1 G H2 x y Q p dx dy q => ⟨i, j, Dv.int_inv dx, Dv.int_inv dy, q _ G H2 p (.bl _)⟩
theorem go_ic {C : Int → Int → Prop} {f : Int → Int → Int} {i j : Int} (c : C i j) : GO K (rI C fun i j => .int (f i j)) (.int i) (.int j) (.int (f i j)) := fun H H1 G H2 x y Q p dx dy q => ⟨i, j, Dv.int_inv dx, Dv.int_inv dy, c, q _ G H2 p (.int _)⟩
/-- flat data -/
def flatD : PyData → Option V
  | .none => some .non
  | .bool b => some (.bl b)
  | .int i => some (.int i)
  | .str x => some (.str x)
  | _ => none
theorem flatD_v {v x : V} (h : Dv K H v d) (e : flatD d = some x) : v = x := by
  cases d <;> first | (cases e; cases h; rfl) | cases e
def rEqA (K : PySem.W.Frag) : R2 := rOr rEq (rEqD K)
theorem op_eqA {X : Cx} (hu : X.A.units + 64 < cLine) : OpR X (compareOp .Eq) (rEqA X.K) := op_or' op_eq (op_eqD hu)
def rNeA (K : PySem.W.Frag) : R2 := rOr rNe (rNeD K)
theorem op_neA {X : Cx} (hu : X.A.units + 64 < cLine) : OpR X (compareOp .NotEq) (rNeA X.K) := op_or' op_ne (op_neD hu)
theorem go_eqF {x y : V} (e1 : flatD d1 = some x) (e2 : flatD d2 = some y) (s : scal x y = true) : GO K (rEqA K) d1 d2 (.bool (decide (x = y))) := fun H H1 G H2 v w Q p dx dy q => by
  have e1 := flatD_v dx e1
  have e2 := flatD_v dy e2
  subst e1 e2
  exact .inl ⟨s, q _ G H2 p (.bl _)⟩
theorem go_eqS {x y : Str} : GO K (rEqA K) (.str x) (.str y) (.bool (decide (x = y))) := fun H H1 G H2 v w Q p dx dy q => by
  have e1 := Dv.str_inv dx
  have e2 := Dv.str_inv dy
  subst e1 e2
  refine .inl ⟨rfl, ?_⟩
  have z : decide (V.str x = V.str y) = decide (x = y) := by simp
  rw [z]
  exact q _ G H2 p (.bl _)
theorem go_eqI {x y : Int} : GO K (rEqA K) (.int x) (.int y) (.bool (decide (x = y))) := fun H H1 G H2 v w Q p dx dy q => by
  have e1 := Dv.int_inv dx
  have e2 := Dv.int_inv dy
  subst e1 e2
  refine .inl ⟨rfl, ?_⟩
  have z : decide (V.int x = V.int y) = decide (x = y) := by simp
  rw [z]
  exact q _ G H2 p (.bl _)
theorem go_eqD (s1 : SeqAt.shaped d1 = true) (s2 : SeqAt.shaped d2 = true) : GO K (rEqA K) d1 d2 (.bool (PyData.eqv d1 d2)) := fun H H1 G H2 v w Q p dx dy q =>
  .inr ⟨d1, d2, dv_dp _ _ (Dv.to dx p.gh), dv_dp _ _ (Dv.to dy p.gh), s1, s2, q _ G H2 p (.bl _)⟩
theorem go_neS {x y : Str} : GO K (rNeA K) (.str x) (.str y) (.bool (!decide (x = y))) := fun H H1 G H2 v w Q p dx dy q => by
  have e1 := Dv.str_inv dx
  have e2 := Dv.str_inv dy
  subst e1 e2
  refine .inl ⟨rfl, ?_⟩
  have z : decide (V.str x = V.str y) = decide (x = y) := by simp
  rw [z]
  exact q _ G H2 p (.bl _)
theorem go_neI {x y : Int} : GO K (rNeA K) (.int x) (.int y) (.bool (!decide (x = y))) := fun H H1 G H2 v w Q p dx dy q => by
  have e1 := Dv.int_inv dx
  have e2 := Dv.int_inv dy
  subst e1 e2
  refine .inl ⟨rfl, ?_⟩
  have z : decide (V.int x = V.int y) = decide (x = y) := by simp
  rw [z]
  exact q _ G H2 p (.bl _)
theorem go_neD (s1 : SeqAt.shaped d1 = true) (s2 : SeqAt.shaped d2 = true) : GO K (rNeA K) d1 d2 (.bool (!PyData.eqv d1 d2)) := fun H H1 G H2 v w Q p dx dy q =>
  .inr ⟨d1, d2, dv_dp _ _ (Dv.to dx p.gh), dv_dp _ _ (Dv.to dy p.gh), s1, s2, q _ G H2 p (.bl _)⟩
/-! is, of None and of the truth values -/
def sing : V → Bool
  | .non => true
  | .bl _ => true
  | _ => false
def rIs1 : R2 := fun x y H Q => sing y = true ∧ Q (.bl (decide (x = y))) H
def rIsNot1 : R2 := fun x y H Q => sing y = true ∧ Q (.bl (!decide (x = y))) H
theorem rel_sing {x y : V} {v u : Value} (rx : RelV x v) (ry : RelV y u) (s : sing y = true) : plainIs v u = true ∧ (v == u) = decide (x = y) := by
  cases y with
  | non =>
    cases ry
    refine ⟨?_, rx.none_iff⟩
    cases x <;> first | (cases rx; rfl) | (obtain ⟨t, rfl⟩ := rx; rfl)
  | bl b =>
    cases ry
    cases x with
    | bl c =>
      cases rx
      refine ⟨rfl, ?_⟩
      cases b <;> cases c <;> rfl
    | non => cases rx; exact ⟨rfl, rfl⟩
    | ref _ => cases rx; exact ⟨rfl, rfl⟩
    | ty _ => cases rx; exact ⟨rfl, rfl⟩
    | int _ => obtain ⟨t, rfl⟩ := rx; exact ⟨rfl, rfl⟩
    | str _ => obtain ⟨t, rfl⟩ := rx; exact ⟨rfl, rfl⟩
    | byt _ => obtain ⟨t, rfl⟩ := rx; exact ⟨rfl, rfl⟩
    | flt _ => obtain ⟨t, rfl⟩ := rx; exact ⟨rfl, rfl⟩
  | _ => cases s
theorem op_is1 {X : Cx} : OpR X (compareOp .Is) rIs1 := by
  intro pins s σ H x y v u Q I rx ry h
  obtain ⟨sy, q⟩ := h
  obtain ⟨e1, e2⟩ := rel_sing rx ry sy
  exact wpAny_is_plain e1 (by rw [e2]; exact ⟨.bl _, H, I, rfl, q⟩)
theorem op_isnot1 {X : Cx} : OpR X (compareOp .IsNot) rIsNot1 := by
  intro pins s σ H x y v u Q I rx ry h
  obtain ⟨sy, q⟩ := h
  obtain ⟨e1, e2⟩ := rel_sing rx ry sy
  exact wpAny_isNot_plain e1 (by rw [e2]; exact ⟨.bl _, H, I, rfl, q⟩)
def isNoneD : PyData → Bool
  | .none => true
  | _ => false
def isBoolD (b : Bool) : PyData → Bool
  | .bool c => c == b
  | _ => false
theorem go_isN : GO K rIs1 d .none (.bool (isNoneD d)) := fun H H1 G H2 v w Q p dx dy q => by
  have e := Dv.non_inv dy
  subst e
  refine ⟨rfl, ?_⟩
  have z : decide (v = .non) = isNoneD d := by cases dx <;> rfl
  rw [z]
  exact q _ G H2 p (.bl _)
theorem go_isB {b : Bool} : GO K rIs1 d (.bool b) (.bool (isBoolD b d)) := fun H H1 G H2 v w Q p dx dy q => by
  have e := Dv.bl_inv dy
  subst e
  refine ⟨rfl, ?_⟩
  have z : decide (v = .bl b) = isBoolD b d := by
    cases dx with
    | bl c => cases b <;> cases c <;> rfl
    | _ => rfl
  rw [z]
  exact q _ G H2 p (.bl _)
theorem go_notN : GO K rIsNot1 d .none (.bool (!isNoneD d)) := fun H H1 G H2 v w Q p dx dy q => by
  have e := Dv.non_inv dy
  subst e
  refine ⟨rfl, ?_⟩
  have z : decide (v = .non) = isNoneD d := by cases dx <;> rfl
  rw [z]
  exact q _ G H2 p (.bl _)
theorem go_notB {b : Bool} : GO K rIsNot1 d (.bool b) (.bool (!isBoolD b d)) := fun H H1 G H2 v w Q p dx dy q => by
  have e := Dv.bl_inv dy
  subst e
  refine ⟨rfl, ?_⟩
  have z : decide (v = .bl b) = isBoolD b d := by
    cases dx with
    | bl c => cases b <;> cases c <;> rfl
    | _ => rfl
  rw [z]
  exact q _ G H2 p (.bl _)
/-! less, greater: ints and texts -/
def rLeA : R2 := rOr (rI0 fun i j => .bl (decide (i ≤ j))) (fun x y H Q => ∃ i j, x = .str i ∧ y = .str j ∧ Q (.bl (!decide (j.cps.toList < i.cps.toList))) H)
theorem op_leA {X : Cx} : OpR X (compareOp .LtE) rLeA := op_or' op_le op_le_str
def rLtA : R2 := rOr (rI0 fun i j => .bl (decide (i < j))) (fun x y H Q => ∃ i j, x = .str i ∧ y = .str j ∧ Q (.bl (decide (i.cps.toList < j.cps.toList))) H)
theorem op_ltA {X : Cx} : OpR X (compareOp .Lt) rLtA := op_or' op_lt op_lt_str
theorem go_leI {i j : Int} : GO K rLeA (.int i) (.int j) (.bool (decide (i ≤ j))) := go_l go_b2
theorem go_ltI {i j : Int} : GO K rLtA (.int i) (.int j) (.bool (decide (i < j))) := go_l go_b2
def sLe (i j : Str) : Bool := !decide (j.cps.toList < i.cps.toList)
def sLt (i j : Str) : Bool := decide (i.cps.toList < j.cps.toList)
theorem go_leS {i j : Str} : GO K rLeA (.str i) (.str j) (.bool (sLe i j)) := go_r fun H H1 G H2 v w Q p dx dy q => ⟨i, j, Dv.str_inv dx, Dv.str_inv dy, q _ G H2 p (.bl _)⟩
theorem go_ltS {i j : Str} : GO K rLtA (.str i) (.str j) (.bool (sLt i j)) := go_r fun H H1 G H2 v w Q p dx dy q => ⟨i, j, Dv.str_inv dx, Dv.str_inv dy, q _ G H2 p (.bl _)⟩
abbrev rGtI : R2 := rI0 fun i j => .bl (decide (j < i))
abbrev rGeI : R2 := rI0 fun i j => .bl (decide (j ≤ i))
/-! in, not in: flat items in lists and tuples -/
theorem flat_all : ∀ {ds : List PyData} {xs vs : List V}, ds.map flatD = xs.map some → DvA K G vs ds → vs = xs
  | [], [], _, _, h => by cases h; rfl
  | d :: ds, x :: xs, _, e, h => by
    cases h with
    | cons a r =>
      rw [List.map_cons, List.map_cons, List.cons.injEq] at e
      rw [flatD_v a e.1, flat_all e.2 r]
  | [], _ :: _, _, e, _ => by simp at e
  | _ :: _, [], _, e, _ => by simp at e
theorem flatD_flat {x : V} (e : flatD d = some x) : flatV x = true := by cases d <;> first | (cases e; rfl) | cases e
theorem flatD_flats : ∀ {ds : List PyData} {xs : List V}, ds.map flatD = xs.map some → xs.all flatV = true
  | [], [], _ => rfl
  | d :: ds, x :: xs, e => by
    rw [List.map_cons, List.map_cons, List.cons.injEq] at e
    rw [List.all_cons, flatD_flat e.1, flatD_flats e.2]; rfl
  | [], _ :: _, e => by simp at e
  | _ :: _, [], e => by simp at e
theorem go_inT {x : V} {xs : List V} (e : flatD d = some x) (es : ds.map flatD = xs.map some) : GO K (rIn K false) d (.tuple ds) (.bool (inV x xs)) := fun H H1 G H2 v w Q p dx dy q => by
  have e1 := flatD_v dx e
  subst e1
  obtain ⟨a, ws, rfl, s, da⟩ := Dv.tup_inv dy
  have e2 := flat_all es da
  subst e2
  exact ⟨a, ws, rfl, .inr (seqT p.gh s), flatD_flat e, flatD_flats es, q _ G H2 p (.bl _)⟩
theorem go_inL {x : V} {xs : List V} (e : flatD d = some x) (es : ds.map flatD = xs.map some) : GO K (rIn K false) d (.list ds) (.bool (inV x xs)) := fun H H1 G H2 v w Q p dx dy q => by
  have e1 := flatD_v dx e
  subst e1
  obtain ⟨a, ws, rfl, s, da⟩ := Dv.lst_inv dy
  have e2 := flat_all es da
  subst e2
  exact ⟨a, ws, rfl, .inl (.inl (rd_same p.gh s)), flatD_flat e, flatD_flats es, q _ G H2 p (.bl _)⟩
theorem go_ninT {x : V} {xs : List V} (e : flatD d = some x) (es : ds.map flatD = xs.map some) : GO K (rIn K true) d (.tuple ds) (.bool (!inV x xs)) := fun H H1 G H2 v w Q p dx dy q => by
  have e1 := flatD_v dx e
  subst e1
  obtain ⟨a, ws, rfl, s, da⟩ := Dv.tup_inv dy
  have e2 := flat_all es da
  subst e2
  exact ⟨a, ws, rfl, .inr (seqT p.gh s), flatD_flat e, flatD_flats es, q _ G H2 p (.bl _)⟩
theorem go_ninL {x : V} {xs : List V} (e : flatD d = some x) (es : ds.map flatD = xs.map some) : GO K (rIn K true) d (.list ds) (.bool (!inV x xs)) := fun H H1 G H2 v w Q p dx dy q => by
  have e1 := flatD_v dx e
  subst e1
  obtain ⟨a, ws, rfl, s, da⟩ := Dv.lst_inv dy
  have e2 := flat_all es da
  subst e2
  exact ⟨a, ws, rfl, .inl (.inl (rd_same p.gh s)), flatD_flat e, flatD_flats es, q _ G H2 p (.bl _)⟩
theorem inV_strs (x : Str) : ∀ xs : List Str, inV (.str x) (xs.map V.str) = decide (x ∈ xs)
  | [] => rfl
  | y :: xs => by
    have ih := inV_strs x xs
    unfold inV at ih ⊢
    rw [List.map_cons, List.any_cons, ih]
    show ((y == x) || decide (x ∈ xs)) = decide (x ∈ y :: xs)
    rw [Bool.eq_iff_iff]
    simp only [Bool.or_eq_true, beq_iff_eq, decide_eq_true_eq, List.mem_cons]
    constructor
    · rintro (h | h)
      · exact .inl h.symm
      · exact .inr h
    · rintro (h | h)
      · exact .inl h.symm
      · exact .inr h
theorem inV_ints (x : Int) : ∀ xs : List Int, inV (.int x) (xs.map V.int) = decide (x ∈ xs)
  | [] => rfl
  | y :: xs => by
    have ih := inV_ints x xs
    unfold inV at ih ⊢
    rw [List.map_cons, List.any_cons, ih]
    show ((y == x) || decide (x ∈ xs)) = decide (x ∈ y :: xs)
    rw [Bool.eq_iff_iff]
    simp only [Bool.or_eq_true, beq_iff_eq, decide_eq_true_eq, List.mem_cons]
    constructor
    · rintro (h | h)
      · exact .inl h.symm
      · exact .inr h
    · rintro (h | h)
      · exact .inl h.symm
      · exact .inr h
theorem flat_strs (xs : List Str) : (xs.map PyData.str).map flatD = (xs.map V.str).map some := by
  induction xs with
  | nil => rfl
  | cons x xs ih => rw [List.map_cons, List.map_cons, List.map_cons, List.map_cons, ih]; rfl
theorem flat_ints (xs : List Int) : (xs.map PyData.int).map flatD = (xs.map V.int).map some := by
  induction xs with
  | nil => rfl
  | cons x xs ih => rw [List.map_cons, List.map_cons, List.map_cons, List.map_cons, ih]; rfl
/-! items -/
theorem atI_get' {α : Type} {xs : List α} {i : Int} {v : α} (h : atI xs i = some v) : ∃ j, ixN xs.length i = some j ∧ xs[j]? = some v := by
  unfold atI at h
  exact Option.bind_eq_some_iff.mp h
theorem DvA.at_ {vs : List V} {i : Int} (h : DvA K G vs ds) (e : atI ds i = some d) : ∃ v, atI vs i = some v ∧ Dv K G v d := by
  obtain ⟨j, e1, e2⟩ := atI_get' e
  obtain ⟨v, e3, dv⟩ := DvA.get h e2
  refine ⟨v, ?_, dv⟩
  unfold atI
  rw [DvA.len h, e1]
  exact e3
theorem go_ixT {i : Int} (e : atI ds i = some d) : GO K (rIx K) (.tuple ds) (.int i) d := fun H H1 G H2 v w Q p dx dy q => by
  obtain ⟨a, ws, rfl, s, da⟩ := Dv.tup_inv dx
  obtain ⟨v, e2, dv⟩ := DvA.at_ da e
  exact .inr (.inl ⟨a, ws, i, v, rfl, Dv.int_inv dy, seqT p.gh s, e2, q _ G H2 p dv⟩)
theorem go_ixL {i : Int} (e : atI ds i = some d) : GO K (rIx K) (.list ds) (.int i) d := fun H H1 G H2 v w Q p dx dy q => by
  obtain ⟨a, ws, rfl, s, da⟩ := Dv.lst_inv dx
  obtain ⟨v, e2, dv⟩ := DvA.at_ da e
  exact .inl ⟨a, ws, i, v, rfl, Dv.int_inv dy, .inl (rd_same p.gh s), e2, q _ G H2 p dv⟩
/-! + -/
def rCatR : R2 := fun x y H Q => ∃ l b xs zs, x = .ref l ∧ y = .ref b ∧ Rd H l (.lst xs) ∧ Rd H b (.lst zs) ∧ xs.length + zs.length ≤ sizeLine ∧ ∀ p, H p = none → Q (.ref p) (upd H p (.lst (xs ++ zs)))
theorem op_catR {X : Cx} : OpR X (binaryOp .Add) rCatR := by
  intro pins s σ H x y v u Q I rx ry h
  obtain ⟨l, b, xs, zs, rfl, rfl, hH, hB, hz, q⟩ := h
  cases rx
  cases ry
  obtain ⟨z, its, n, r, e⟩ := (show ObjOk X.prog X.w H s.heap l (.lst xs) from hH.ok I.hok)
  obtain ⟨z2, its2, n2, r2, e2⟩ := (show ObjOk X.prog X.w H s.heap b (.lst zs) from hB.ok I.hok)
  have hl := r.length
  have hl2 := r2.length
  refine PySem.P.add_list e e2 ?_ (by rw [List.size_toArray, List.size_toArray]; omega)
  have ea : its.toArray ++ its2.toArray = (its ++ its2).toArray := by simp
  rw [ea]
  exact ⟨.ref _, _, I.lnew (t' := s.toks) (r.append r2) (by rw [List.length_append]; omega), rfl, q _ I.fresh⟩
def rAddS : R2 := fun x y H Q => ∃ i j, x = .str i ∧ y = .str j ∧ i.length + j.length ≤ sizeLine ∧ Q (.str (i ++ j)) H
def rAddA (K : PySem.W.Frag) : R2 := rOr (rI0 fun i j => .int (i + j)) (rOr rAddS (rOr rCatR (RR.rCatF K)))
theorem op_addA {X : Cx} : OpR X (binaryOp .Add) (rAddA X.K) := op_or' op_add (op_or' op_add_str (op_or' op_catR RR.op_catF))
theorem go_addI {i j : Int} : GO K (rAddA K) (.int i) (.int j) (.int (i + j)) := go_l go_i2
theorem go_addS {i j : Str} (z : i.length + j.length ≤ sizeLine) : GO K (rAddA K) (.str i) (.str j) (.str (i ++ j)) := go_r (go_l fun H H1 G H2 v w Q p dx dy q => ⟨i, j, Dv.str_inv dx, Dv.str_inv dy, z, q _ G H2 p (.str _)⟩)
theorem go_addL (z : ds.length + es.length ≤ sizeLine) : GO K (rAddA K) (.list ds) (.list es) (.list (ds ++ es)) := go_r (go_r (go_l fun H H1 G H2 v w Q p dx dy q => by
  obtain ⟨a, xs, rfl, s1, da⟩ := Dv.lst_inv dx
  obtain ⟨b, ys, rfl, s2, db⟩ := Dv.lst_inv dy
  exact ⟨a, b, xs, ys, rfl, rfl, rd_same p.gh s1, rd_same p.gh s2, by rw [DvA.len da, DvA.len db]; exact z, fun c hc => q (.ref c) _ _ (p.new hc _) (.lst (.inl upd_same) ((DvA.app da db).to (same_new (p.gh.free hc) _)))⟩))
end
end DL
end
section
set_option Elab.async false
set_option linter.all false
set_option maxRecDepth 100000
set_option maxHeartbeats 2000000
namespace DL
open PySem PySem.Spec PyProof.Rows L2
section
variable {K : PySem.W.Frag} {A H H' H1 H2 H3 G G1 G2 : Hp} {σ : L2.St} {t ta tb tc te : TE} {tA : TA} {tt tu : TT} {d d1 d2 d3 : PyData} {ds es : List PyData}
theorem go_addT (z : ds.length + es.length ≤ sizeLine) : GO K (rAddA K) (.tuple ds) (.tuple es) (.tuple (ds ++ es)) := go_r (go_r (go_r fun H H1 G H2 v w Q p dx dy q => by
  obtain ⟨a, xs, rfl, s1, n1, da⟩ := Dv.tup_invN dx
  obtain ⟨b, ys, rfl, s2, n2, db⟩ := Dv.tup_invN dy
  have l1 := DvA.len da
  have l2 := DvA.len db
  refine ⟨a, b, xs, ys, rfl, rfl, seqT p.gh s1, seqT p.gh s2, by omega, fun e => ?_, fun e1 e => ?_, fun _ _ c ob hc hd => q (.ref c) _ _ (p.new hc _) (.tupF upd_same hd ((DvA.app da db).to (same_new (p.gh.free hc) _)))⟩
  · subst e
    cases da
    exact q _ G H2 p (.tup' s2 n2 db)
  · subst e
    cases db
    rw [List.append_nil] at q
    exact q _ G H2 p (.tup' s1 n1 da)))
/-! ### slices -/
def GP (t : TO) (σ : L2.St) (H A : Hp) (o : Option Int) : Prop := ∀ H0 H1, Pub H A H0 H1 → ∀ Q : Option Int → Hp → Prop, (∀ H2, Pub H0 H1 H0 H2 → Q o H2) → t σ H1 Q
theorem gp_none : GP tNoPart σ H A none := fun H0 H1 e Q q => q H1 (.refl e.gh)
theorem gp_some {i : Int} (g : GD K t σ H A (.int i)) : GP (tPart t) σ H A (some i) := fun H0 H1 e Q q => g.to e fun v G H2 p dv => ⟨i, Dv.int_inv dv, q H2 (.idle e.gh p.hh)⟩
def cutD (ds : List PyData) (lo hi : Option Int) : List PyData := (ds.drop (HT.sIx ds.length 0 lo)).take (HT.sIx ds.length ds.length hi - HT.sIx ds.length 0 lo)
theorem DvA.cut {vs : List V} (h : DvA K G vs ds) (lo hi : Option Int) : DvA K G (cutV vs lo hi) (cutD ds lo hi) := by
  unfold cutV cutD
  rw [DvA.len h]
  exact (h.drop _).take _
def rSlR : V → Option Int → Option Int → Hp → VK → Prop := fun x lo hi H Q => ∃ a xs, x = .ref a ∧ Rd H a (.lst xs) ∧ ∀ p, H p = none → Q (.ref p) (upd H p (.lst (cutV xs lo hi)))
theorem sl_listR {X : Cx} : SlR X rSlR := fun pins s σ H x v vl vu lo hi sl Q I rx hs pl pu h => by
  obtain ⟨a, xs, e, r, q⟩ := h
  exact sl_list pins s σ H x v vl vu lo hi sl Q I rx hs pl pu ⟨a, xs, e, .inl r, q⟩
def sOr (r r' : V → Option Int → Option Int → Hp → VK → Prop) : V → Option Int → Option Int → Hp → VK → Prop := fun x lo hi H Q => r x lo hi H Q ∨ r' x lo hi H Q
theorem sl_or' {X : Cx} {r r' : V → Option Int → Option Int → Hp → VK → Prop} (h : SlR X r) (h' : SlR X r') : SlR X (sOr r r') := h.or h'
def rSlD (K : PySem.W.Frag) := sOr rSlR (sOr (RR.rSlF K) C8.rSlX)
theorem sl_D {X : Cx} : SlR X (rSlD X.K) := sl_or' sl_listR (sl_or' RR.sl_tupF C8.sl_txt)
theorem gd_sl {r : V → Option Int → Option Int → Hp → VK → Prop} {tl th : TO} {lo hi : Option Int} (g : GD K te σ H A d1) (gl : GP tl σ H A lo) (gh : GP th σ H A hi)
    (h : ∀ (H H1 G H2 : Hp) (x : V) (Q : VK), Pub H H1 G H2 → Dv K G x d1 → (∀ v G' H3, Pub H H1 G' H3 → Dv K G' v d → Q v H3) → r x lo hi H2 Q) : GD K (tSl r te tl th) σ H A d := fun H0 H1 e Q q =>
  g.to e fun x G H2 p dx => gl G H2 (e.trans p) _ fun H3 e3 => gh G H3 (e.trans (p.trans e3)) _ fun H4 e4 => h H0 H1 G H4 x Q (p.trans (e3.trans e4)) dx q
theorem gd_slL {tl th : TO} {lo hi : Option Int} (g : GD K te σ H A (.list ds)) (gl : GP tl σ H A lo) (gh : GP th σ H A hi) : GD K (tSl (rSlD K) te tl th) σ H A (.list (cutD ds lo hi)) :=
  gd_sl g gl gh fun H H1 G H2 x Q p dx q => by
    obtain ⟨a, xs, rfl, s, da⟩ := Dv.lst_inv dx
    exact .inl ⟨a, xs, rfl, rd_same p.gh s, fun b hb => q (.ref b) _ _ (p.new hb _) (.lst (.inl upd_same) ((DvA.cut da lo hi).to (same_new (p.gh.free hb) _)))⟩
theorem cutV_all {α : Type} (xs : List α) (a b : Nat) (h : a = 0 ∧ b = xs.length) : (xs.drop a).take (b - a) = xs := by
  obtain ⟨rfl, rfl⟩ := h
  simp
theorem gd_slT {tl th : TO} {lo hi : Option Int} (g : GD K te σ H A (.tuple ds)) (gl : GP tl σ H A lo) (gh : GP th σ H A hi) : GD K (tSl (rSlD K) te tl th) σ H A (.tuple (cutD ds lo hi)) :=
  gd_sl g gl gh fun H H1 G H2 x Q p dx q => by
    obtain ⟨a, xs, rfl, s, n, da⟩ := Dv.tup_invN dx
    refine .inr (.inl ⟨a, xs, rfl, seqT p.gh s, fun hz => ?_, fun _ b ob hb hd => q (.ref b) _ _ (p.new hb _) (.tupF upd_same hd ((DvA.cut da lo hi).to (same_new (p.gh.free hb) _)))⟩)
    refine q _ G H2 p ?_
    have l := DvA.len da
    rw [l] at hz
    have e : cutD ds lo hi = ds := cutV_all ds _ _ hz
    rw [e]
    exact .tup' s n da
theorem gd_slS {tl th : TO} {lo hi : Option Int} {x : Str} (g : GD K te σ H A (.str x)) (gl : GP tl σ H A lo) (gh : GP th σ H A hi) (z : x.length ≤ sizeLine) : GD K (tSl (rSlD K) te tl th) σ H A (.str (Txt.slice x lo hi)) :=
  gd_sl g gl gh fun H H1 G H2 v Q p dx q => .inr (.inr ⟨x, Dv.str_inv dx, z, q _ G H2 p (.str _)⟩)
/-! ### tests -/
theorem gt_test {b : Bool} (g : GD K t σ H A (.bool b)) : GT (tTest t) σ H A b := fun H0 H1 e Q q => g.to e fun v G H2 p dv => ⟨b, Dv.bl_inv dv, q H2 (.idle e.gh p.hh)⟩
theorem gt_tB {b : Bool} (g : GD K t σ H A (.bool b)) : GT (tB t) σ H A b := fun H0 H1 e Q q => g.to e fun v G H2 p dv => ⟨b, Dv.bl_inv dv, q H2 (.idle e.gh p.hh)⟩
theorem gt_not {b : Bool} (g : GT tt σ H A b) : GT (tNot tt) σ H A (!b) := fun H0 H1 e Q q => g.to e fun H2 e2 => q H2 e2
theorem gt_and {b c : Bool} (g : GT tt σ H A b) (h : b = true → GT tu σ H A c) : GT (tAnd tt tu) σ H A (b && c) := fun H0 H1 e Q q => g.to e fun H2 e2 => by
  cases b with
  | false => exact iteF (q H2 e2)
  | true => exact iteT ((h rfl).to (e.trans e2) fun H3 e3 => q H3 (e2.trans e3))
theorem gt_or {b c : Bool} (g : GT tt σ H A b) (h : b = false → GT tu σ H A c) : GT (tOr tt tu) σ H A (b || c) := fun H0 H1 e Q q => g.to e fun H2 e2 => by
  cases b with
  | true => exact iteT (q H2 e2)
  | false => exact iteF ((h rfl).to (e.trans e2) fun H3 e3 => q H3 (e2.trans e3))
/-- truth -/
def truD : PyData → Bool
  | .none => false
  | .bool b => b
  | .int i => i != 0
  | .str x => (x.length : Int) != 0
  | .list ds => !ds.isEmpty
  | .tuple ds => !ds.isEmpty
  | .dict _ => false
def truOk : PyData → Bool
  | .str x => decide (x.length ≤ sizeLine)
  | _ => true
theorem dva_empty {vs : List V} (h : DvA K G vs ds) : vs.isEmpty = ds.isEmpty := by cases h <;> rfl
theorem truV_of {v : V} (h : Dv K H v d) (z : truOk d = true) : TruV K v H (truD d) := by
  cases h with
  | non => exact (rfl : truD .none = false)
  | bl b => exact (rfl : truD (.bool b) = b)
  | int i => exact (rfl : truD (.int i) = (i != 0))
  | str x => exact ⟨of_decide_eq_true z, rfl⟩
  | lst s a => exact .inl ⟨_, .inl s, by rw [dva_empty a]; rfl⟩
  | tup' s _ a => exact .inr (.inl ⟨_, s, by rw [dva_empty a]; rfl⟩)
def tTr (K : PySem.W.Frag) (ta : TE) : TT := fun σ H Q => ta σ H fun x H' => ∃ k, TruV K x H' k ∧ Q k H'
theorem pt_tr {X : Cx} {a : Expr} {ta : TE} (ha : PE X a ta) (he : ∀ whole, isTrue a X.env whole = (do let v ← whole; standAt a.pos; holding [v] (truthy v)) := by intro _; rfl) : PT X a (tTr X.K ta) := pt_truth ha he
theorem gt_tr (g : GD K t σ H A d) (z : truOk d = true := by rfl) : GT (tTr K t) σ H A (truD d) := fun H0 H1 e Q q => g.to e fun v G H2 p dv => ⟨_, truV_of (Dv.to dv p.gh) z, q H2 (.idle e.gh p.hh)⟩
theorem gd_and {b : Bool} (g : GD K ta σ H A (.bool b)) (h : b = true → GD K tb σ H A d) (h0 : b = false → d = .bool false) : GD K (tAndV ta tb) σ H A d := fun H0 H1 e Q q => g.to e fun v G H2 p dv => ⟨b, Dv.bl_inv dv, by
  cases b with
  | false =>
    rw [h0 rfl] at q
    exact iteF (q _ G H2 p (.bl _))
  | true => exact iteT ((h rfl).to (e.trans p) fun w G2 H3 p2 dw => q w G2 H3 (p.trans p2) dw)⟩
theorem gd_andB {b c : Bool} (g : GD K ta σ H A (.bool b)) (h : b = true → GD K tb σ H A (.bool c)) : GD K (tAndV ta tb) σ H A (.bool (b && c)) := by
  cases b with
  | false => exact gd_and g (fun z => nomatch z) fun _ => rfl
  | true => exact gd_and g (fun _ => h rfl) fun z => nomatch z
theorem gd_orB {b c : Bool} (g : GD K ta σ H A (.bool b)) (h : b = false → GD K tb σ H A (.bool c)) : GD K (tOrV ta tb) σ H A (.bool (b || c)) := fun H0 H1 e Q q => g.to e fun v G H2 p dv => ⟨b, Dv.bl_inv dv, by
  cases b with
  | true => exact iteT (q _ G H2 p (.bl _))
  | false => exact iteF ((h rfl).to (e.trans p) fun w G2 H3 p2 dw => q w G2 H3 (p.trans p2) dw)⟩
theorem gd_notB {b : Bool} (g : GD K ta σ H A (.bool b)) : GD K (tNotV ta) σ H A (.bool (!b)) := fun H0 H1 e Q q => g.to e fun v G H2 p dv => ⟨b, Dv.bl_inv dv, q _ G H2 p (.bl _)⟩
theorem gd_notT (g : GD K ta σ H A d) (z : truOk d = true := by rfl) : GD K (tNotT K ta) σ H A (.bool (!truD d)) := fun H0 H1 e Q q => g.to e fun v G H2 p dv => ⟨_, truV_of (Dv.to dv p.gh) z, q _ G H2 p (.bl _)⟩
theorem gd_andT (g : GD K ta σ H A d1) (h : truD d1 = true → GD K tb σ H A d) (h0 : truD d1 = false → d = d1) (z : truOk d1 = true := by rfl) : GD K (tAndT K ta tb) σ H A d := fun H0 H1 e Q q => g.to e fun v G H2 p dv => ⟨_, truV_of (Dv.to dv p.gh) z, by
  cases c : truD d1 with
  | false =>
    rw [h0 c] at q
    exact iteF (q _ G H2 p dv)
  | true => exact iteT ((h c).to (e.trans p) fun w G2 H3 p2 dw => q w G2 H3 (p.trans p2) dw)⟩
theorem gd_orT (g : GD K ta σ H A d1) (h : truD d1 = false → GD K tb σ H A d) (h0 : truD d1 = true → d = d1) (z : truOk d1 = true := by rfl) : GD K (tOrT K ta tb) σ H A d := fun H0 H1 e Q q => g.to e fun v G H2 p dv => ⟨_, truV_of (Dv.to dv p.gh) z, by
  cases c : truD d1 with
  | true =>
    rw [h0 c] at q
    exact iteT (q _ G H2 p dv)
  | false => exact iteF ((h c).to (e.trans p) fun w G2 H3 p2 dw => q w G2 H3 (p.trans p2) dw)⟩
theorem gd_if {b : Bool} (g : GT tt σ H A b) (h1 : b = true → GD K ta σ H A d) (h2 : b = false → GD K tb σ H A d) : GD K (tIf tt ta tb) σ H A d := fun H0 H1 e Q q => g.to e fun H2 e2 => by
  have fin : ∀ {t : TE}, GD K t σ H A d → t σ H2 Q := fun {t} g => g.to (e.trans e2) fun w G2 H3 p2 dw => q w G2 H3 (e2.trans p2) dw
  cases b with
  | true => exact iteT (fin (h1 rfl))
  | false => exact iteF (fin (h2 rfl))
/-- a op1 b op2 c, the first true or not -/
theorem gd_chain {r r' : R2} {b c : Bool} (ga : GD K ta σ H A d1) (gb : GD K tb σ H A d2) (o : GO K r d1 d2 (.bool b)) (gc : GD K tc σ H A d3) (o2 : GO K r' d2 d3 (.bool c)) : GD K (tChain r r' ta tb tc) σ H A (.bool (b && c)) := fun H0 H1 e Q q =>
  ga.to e fun x G1 H2 p dx => gb.to (e.trans p) fun y G2 H3 p2 dy => o G2 H3 G2 H3 x y _ (.refl p2.gh) (Dv.to dx p2.hg) dy fun v G3 H4 p3 dv => ⟨b, Dv.bl_inv dv, by
    have p123 := (p.trans p2).trans p3
    cases b with
    | false => exact iteF (q _ G3 H4 p123 (.bl _))
    | true => exact iteT (gc.to (e.trans p123) fun z G4 H5 p4 dz => o2 H0 H1 G4 H5 y z Q (p123.trans p4) ((Dv.to dy p3.hg).to p4.hg) dz q)⟩
/-! ### calls of what is built in -/
def GC (K : PySem.W.Frag) (r : List V → Hp → VK → Prop) (ds : List PyData) (d : PyData) : Prop := ∀ (H H1 G H2 : Hp) (vs : List V) (Q : VK), Pub H H1 G H2 → DvA K G vs ds → (∀ v G' H3, Pub H H1 G' H3 → Dv K G' v d → Q v H3) → r vs H2 Q
theorem gd_cb {r : List V → Hp → VK → Prop} (ga : GA K tA σ H A ds) (o : GC K r ds d) : GD K (tCB r tA) σ H A d := fun H0 H1 e Q q => ga.to e fun vs G H2 p dv => o H0 H1 G H2 vs Q p dv q
def cOr (r r' : List V → Hp → VK → Prop) : List V → Hp → VK → Prop := fun xs H Q => r xs H Q ∨ r' xs H Q
theorem cr_or' {X : Cx} {f : Value} {r r' : List V → Hp → VK → Prop} (h : CallR X f r) (h' : CallR X f r') : CallR X f (cOr r r') := h.or h'
def rLen (K : PySem.W.Frag) : List V → Hp → VK → Prop := fun xs H Q => ∃ x n, xs = [x] ∧ LenV K x H n ∧ Q (.int n) H
theorem cr_len {X : Cx} : CallR X (.builtin "len") (rLen X.K) := call_len
theorem gc_lenL : GC K (rLen K) [.list ds] (.int ds.length) := fun H H1 G H2 vs Q p dv q => by
  obtain ⟨v, rfl, d1⟩ := DvA.inv1 dv
  obtain ⟨a, xs, rfl, s, da⟩ := Dv.lst_inv d1
  exact ⟨_, xs.length, rfl, .inl ⟨xs, .inl (rd_same p.gh s), rfl⟩, by rw [DvA.len da]; exact q _ G H2 p (.int _)⟩
theorem gc_lenT : GC K (rLen K) [.tuple ds] (.int ds.length) := fun H H1 G H2 vs Q p dv q => by
  obtain ⟨v, rfl, d1⟩ := DvA.inv1 dv
  obtain ⟨a, xs, rfl, s, da⟩ := Dv.tup_inv d1
  exact ⟨_, xs.length, rfl, .inr ⟨xs, seqT p.gh s, rfl⟩, by rw [DvA.len da]; exact q _ G H2 p (.int _)⟩
theorem gc_lenS {x : Str} (z : x.length ≤ sizeLine) : GC K (rLen K) [.str x] (.int x.length) := fun H H1 G H2 vs Q p dv q => by
  obtain ⟨v, rfl, d1⟩ := DvA.inv1 dv
  have e := Dv.str_inv d1
  subst e
  exact ⟨_, x.length, rfl, ⟨z, rfl⟩, q _ G H2 p (.int _)⟩
def rInt : List V → Hp → VK → Prop := fun xs H Q => (∃ i, xs = [.int i] ∧ Q (.int i) H) ∨ ∃ k, xs = [.bl k] ∧ Q (.int (if k then 1 else 0)) H
theorem cr_int {X : Cx} : CallR X (.type "int") rInt := call_int1
theorem gc_int {i : Int} : GC K rInt [.int i] (.int i) := fun H H1 G H2 vs Q p dv q => by
  obtain ⟨v, rfl, d1⟩ := DvA.inv1 dv
  have e := Dv.int_inv d1
  subst e
  exact .inl ⟨i, rfl, q _ G H2 p (.int _)⟩
def rAllB (K : PySem.W.Frag) : List V → Hp → VK → Prop := rAll K
theorem gc_all {bs : List Bool} : GC K (rAll K) [.list (bs.map .bool)] (.bool (bs.all id)) := fun H H1 G H2 vs Q p dv q => by
  obtain ⟨v, rfl, d1⟩ := DvA.inv1 dv
  obtain ⟨a, xs, rfl, s, da⟩ := Dv.lst_inv d1
  have e := DvA.bls_inv da
  subst e
  exact ⟨a, bs, rfl, .inl (rd_same p.gh s), q _ G H2 p (.bl _)⟩
theorem gc_any {bs : List Bool} : GC K (rAny K) [.list (bs.map .bool)] (.bool (bs.any id)) := fun H H1 G H2 vs Q p dv q => by
  obtain ⟨v, rfl, d1⟩ := DvA.inv1 dv
  obtain ⟨a, xs, rfl, s, da⟩ := Dv.lst_inv d1
  have e := DvA.bls_inv da
  subst e
  exact ⟨a, bs, rfl, .inl (rd_same p.gh s), q _ G H2 p (.bl _)⟩
theorem gc_sum {ns : List Int} : GC K (rSum K) [.list (ns.map .int)] (.int ns.sum) := fun H H1 G H2 vs Q p dv q => by
  obtain ⟨v, rfl, d1⟩ := DvA.inv1 dv
  obtain ⟨a, xs, rfl, s, da⟩ := Dv.lst_inv d1
  have e := DvA.ints_inv da
  subst e
  exact ⟨a, ns, rfl, .inl (rd_same p.gh s), q _ G H2 p (.int _)⟩
def rListOf (K : PySem.W.Frag) : List V → Hp → VK → Prop := fun xs H Q => ∃ p ys, xs = [.ref p] ∧ (SqL K H p ys ∨ SqT K H p ys) ∧ ∀ l, H l = none → Q (.ref l) (upd H l (.lst ys))
theorem cr_listOf {X : Cx} : CallR X (.type "list") (rListOf X.K) := call_list_of
theorem gc_listL : GC K (rListOf K) [.list ds] (.list ds) := fun H H1 G H2 vs Q p dv q => by
  obtain ⟨v, rfl, d1⟩ := DvA.inv1 dv
  obtain ⟨a, xs, rfl, s, da⟩ := Dv.lst_inv d1
  exact ⟨a, xs, rfl, .inl (.inl (rd_same p.gh s)), fun b hb => q (.ref b) _ _ (p.new hb _) (.lst (.inl upd_same) (da.to (same_new (p.gh.free hb) _)))⟩
theorem gc_listT : GC K (rListOf K) [.tuple ds] (.list ds) := fun H H1 G H2 vs Q p dv q => by
  obtain ⟨v, rfl, d1⟩ := DvA.inv1 dv
  obtain ⟨a, xs, rfl, s, da⟩ := Dv.tup_inv d1
  exact ⟨a, xs, rfl, .inr (seqT p.gh s), fun b hb => q (.ref b) _ _ (p.new hb _) (.lst (.inl upd_same) (da.to (same_new (p.gh.free hb) _)))⟩
theorem gc_tupL : GC K (RR.rTupF K) [.list ds] (.tuple ds) := fun H H1 G H2 vs Q p dv q => by
  obtain ⟨v, rfl, d1⟩ := DvA.inv1 dv
  obtain ⟨a, xs, rfl, s, da⟩ := Dv.lst_inv d1
  exact ⟨a, xs, rfl, .inl (rd_same p.gh s), fun b ob hb hd => q (.ref b) _ _ (p.new hb _) (.tupF upd_same hd (da.to (same_new (p.gh.free hb) _)))⟩
/-! isinstance, of a built-in class -/
def tyN : PyData → String
  | .none => "NoneType"
  | .bool _ => "bool"
  | .int _ => "int"
  | .str _ => "str"
  | .list _ => "list"
  | .tuple _ => "tuple"
  | .dict _ => "dict"
theorem tyX_of {v : V} (h : Dv K H v d) : TyX K H v (.type (tyN d)) := by
  cases h with
  | non => exact .base .non
  | bl b => exact .base (.bl b)
  | int i => exact .base (.int i)
  | str x => exact .base (.str x)
  | lst s a =>
    rcases s with s | ⟨o, s⟩
    · exact .base (.lst s)
    · exact .base (.frz s)
  | tup' s _ a =>
    rcases s with (s | ⟨o, s⟩) | ⟨o, its, n, hk, hc, _⟩
    · exact .base (.tup s)
    · exact .fTuple s
    · exact .kTuple hk hc
/-- isinstance(x, T): the second argument is the type itself -/
def tIsi (K : PySem.W.Frag) (T : String) (te : TE) : TE := tCB (rIsi K) (tCons te (tCons (tC (.ty T)) tNil))
theorem gd_isi {T : String} {b : Bool} (g : GD K te σ H A d) (h : kitB (tyN d) T = some b := by decide +kernel) : GD K (tCB (rIsi K) (tCons te (tCons (tC (.ty T)) tNil))) σ H A (.bool b) := fun H0 H1 e Q q =>
  g.to e fun v G H2 p dv => ⟨v, .ty T, .type (tyN d), .type T, b, rfl, .ty T, tyX_of (Dv.to dv p.gh), kit_ty h, q _ G H2 p (.bl _)⟩
/-! ### a written tuple of the top -/
end
end DL
end
section
set_option Elab.async false
set_option linter.all false
set_option maxRecDepth 100000
set_option maxHeartbeats 2000000
namespace DL
open PySem PySem.Spec PyProof.Rows L2
section
variable {K : PySem.W.Frag} {A H H' H1 H2 H3 G G1 G2 : Hp} {σ : L2.St} {t ta tb tc te : TE} {tA : TA} {tt tu : TT} {d d1 d2 d3 : PyData} {ds es : List PyData}
/-! ### what is walked -/
structure Runs (K : PySem.W.Frag) (J : It) (B : Hp) (ds : List PyData) : Prop where
  go : ∀ i H, Same B H → i < ds.length → J.go i H
  stop : ∀ i H, Same B H → ds.length ≤ i → J.stop i H
  yld : ∀ i H x H' G, Same B G → Same G H → i < ds.length → J.yld i H x H' → ∃ d G', ds[i]? = some d ∧ Pub G H G' H' ∧ Dv K G' x d
def GI (K : PySem.W.Frag) (wi : TI) (σ : L2.St) (H A : Hp) (ds : List PyData) : Prop := ∀ H0 H1, Pub H A H0 H1 → ∀ R : It → Hp → Prop, (∀ J G H2, Pub H0 H1 G H2 → Runs K J G ds → R J H2) → wi σ H1 R
theorem runs_list {a : Addr} {xs : List V} (s : SqL K G a xs) (h : DvA K G xs ds) : Runs K (Itl K a) G ds where
  go := fun i H e hi => ⟨xs, xs[i]'(by rw [DvA.len h]; exact hi), e.seq s, List.getElem?_eq_getElem _⟩
  stop := fun i H e hi => ⟨xs, e.seq s, by rw [DvA.len h]; exact hi⟩
  yld := fun i H x H' G' e e2 hi hy => by
    obtain ⟨rfl, hx⟩ := hy
    obtain ⟨d, hd, dx⟩ := DvA.getv h (hx xs ((e.trans e2).seq s))
    exact ⟨d, G', hd, .refl e2, dx.to e⟩
theorem runs_tup {a : Addr} {xs : List V} (s : SqT K G a xs) (h : DvA K G xs ds) : Runs K (Itt K a) G ds where
  go := fun i H e hi => ⟨xs, xs[i]'(by rw [DvA.len h]; exact hi), seqT e s, List.getElem?_eq_getElem _⟩
  stop := fun i H e hi => ⟨xs, seqT e s, by rw [DvA.len h]; exact hi⟩
  yld := fun i H x H' G' e e2 hi hy => by
    obtain ⟨rfl, hx⟩ := hy
    obtain ⟨d, hd, dx⟩ := DvA.getv h (hx xs (seqT (e.trans e2) s))
    exact ⟨d, G', hd, .refl e2, dx.to e⟩
theorem gi_list (g : GD K te σ H A (.list ds)) : GI K (iList K te) σ H A ds := fun H0 H1 e R q => g.to e fun v G H2 p dv => by
  obtain ⟨a, xs, rfl, s, da⟩ := Dv.lst_inv dv
  exact ⟨a, rfl, ⟨xs, .inl (rd_same p.gh s)⟩, q _ G H2 p (runs_list (.inl s) da)⟩
theorem gi_tup (g : GD K te σ H A (.tuple ds)) : GI K (iTup K te) σ H A ds := fun H0 H1 e R q => g.to e fun v G H2 p dv => by
  obtain ⟨a, xs, rfl, s, da⟩ := Dv.tup_inv dv
  exact ⟨a, rfl, ⟨xs, seqT p.gh s⟩, q _ G H2 p (runs_tup s da)⟩
/-- list or tuple -/
def iOr (w w' : TI) : TI := fun σ H R => w σ H R ∨ w' σ H R
theorem pi_or {X : Cx} {tg e : Expr} {w w' : TI} (h : PI X tg e w) (h' : PI X tg e w') : PI X tg e (iOr w w') := ⟨fun pins s σ H R I q => by
  rcases q with q | q
  · exact h.run pins s σ H R I q
  · exact h'.run pins s σ H R I q⟩
def iSeq (K : PySem.W.Frag) (te : TE) : TI := iOr (iList K te) (iOr (iTup K te) (iStr te))
theorem pi_seq {X : Cx} {tg e : Expr} {te : TE} (h : PE X e te) : PI X tg e (iSeq X.K te) := pi_or (pi_list h) (pi_or (pi_tup h) (pi_str h))
theorem gi_l {w w' : TI} (g : GI K w σ H A ds) : GI K (iOr w w') σ H A ds := fun H0 H1 e R q => .inl (g H0 H1 e R q)
theorem gi_r {w w' : TI} (g : GI K w' σ H A ds) : GI K (iOr w w') σ H A ds := fun H0 H1 e R q => .inr (g H0 H1 e R q)
theorem gi_seqL (g : GD K te σ H A (.list ds)) : GI K (iSeq K te) σ H A ds := gi_l (gi_list g)
theorem gi_seqT (g : GD K te σ H A (.tuple ds)) : GI K (iSeq K te) σ H A ds := gi_r (gi_l (gi_tup g))
/-- the sgs of a text -/
def sgs (x : Str) : List Str := x.cps.toList.map fun c => ⟨#[c]⟩
theorem runs_str {x : Str} : Runs K (Its x) G ((sgs x).map .str) where
  go := fun i H e hi => by
    have z : i < x.cps.size := by simpa [sgs] using hi
    exact z
  stop := fun i H e hi => by
    have z : x.cps.size ≤ i := by simpa [sgs] using hi
    exact z
  yld := fun i H v H' G' e e2 hi hy => by
    obtain ⟨rfl, c, hc, rfl⟩ := hy
    refine ⟨.str ⟨#[c]⟩, G', ?_, .refl e2, .str _⟩
    have hc' : x.cps.toList[i]? = some c := by rw [Array.getElem?_toList]; exact hc
    unfold sgs
    rw [List.getElem?_map, List.getElem?_map, hc']
    rfl
theorem gi_str {x : Str} (g : GD K te σ H A (.str x)) : GI K (iStr te) σ H A ((sgs x).map .str) := fun H0 H1 e R q => g.to e fun v G H2 p dv => ⟨x, Dv.str_inv dv, q _ G H2 p runs_str⟩
theorem gi_seqS {x : Str} (g : GD K te σ H A (.str x)) : GI K (iSeq K te) σ H A ((sgs x).map .str) := gi_r (gi_r (gi_str g))
/-- range -/
def upto (lo : Int) (n : Nat) : List Int := (List.range n).map fun (i : Nat) => lo + (i : Int)
theorem upto_len (lo : Int) (n : Nat) : (upto lo n).length = n := by simp [upto]
theorem upto_get {lo : Int} {n i : Nat} (h : i < n) : (upto lo n)[i]? = some (lo + (i : Int)) := by simp [upto, h]
theorem runs_rng {lo : Int} {n : Nat} : Runs K (Itr lo n) G ((upto lo n).map .int) where
  go := fun i H e hi => by
    rw [List.length_map, upto_len] at hi
    exact hi
  stop := fun i H e hi => by
    rw [List.length_map, upto_len] at hi
    exact hi
  yld := fun i H v H' G' e e2 hi hy => by
    obtain ⟨rfl, rfl⟩ := hy
    rw [List.length_map, upto_len] at hi
    exact ⟨.int (lo + i), G', by rw [List.getElem?_map, upto_get hi]; rfl, .refl e2, .int _⟩
/-- zip of two lists, of two tuples -/
def zipD (as bs : List PyData) : List PyData := (as.zip bs).map fun p => .tuple [p.1, p.2]
theorem zipD_get {as bs : List PyData} {i : Nat} {a b : PyData} (h1 : as[i]? = some a) (h2 : bs[i]? = some b) : (zipD as bs)[i]? = some (.tuple [a, b]) := by
  unfold zipD
  rw [List.getElem?_map, (List.getElem?_zip_eq_some (z := (a, b))).mpr ⟨h1, h2⟩]
  rfl
theorem pairs_no {a b : PyData} (h : pairB a = false) : pairsB [a, b] = false := by
  unfold pairsB
  rw [List.all_cons, h]; rfl
theorem pairs_no2 {a b : PyData} (h : pairB b = false) : pairsB [a, b] = false := by
  unfold pairsB
  rw [List.all_cons, List.all_cons, h]
  cases pairB a <;> rfl
theorem zip_yld {T : Addr} {x y : V} {a b : PyData} {H G : Hp} (e : Same G H) (hn : H T = none) (dx : Dv K G x a) (dy : Dv K G y b) (hp : pairsB [a, b] = false := by rfl) : Pub G H (upd G T (.tup [x, y])) (upd H T (.tup [x, y])) ∧ Dv K (upd G T (.tup [x, y])) (.ref T) (.tuple [a, b]) := by
  have s := same_new (e.free hn) (.tup [x, y])
  exact ⟨(Pub.refl e).new hn _, .tup (SqT.of upd_same) (.cons (dx.to s) (.cons (dy.to s) .nil)) hp⟩
theorem runs_zipT {a b : Addr} {xs ys : List V} {as bs : List PyData} (s1 : SqT K G a xs) (s2 : SqT K G b ys) (h1 : DvA K G xs as) (h2 : DvA K G ys bs) (hz : ∀ a ∈ as, pairB a = false) : Runs K (RZ.ItzT K a b) G (zipD as bs) where
  go := fun i H e hi => by
    have z : i < as.length ∧ i < bs.length := by simp [zipD] at hi; omega
    exact ⟨xs, ys, xs[i]'(by rw [DvA.len h1]; exact z.1), ys[i]'(by rw [DvA.len h2]; exact z.2), seqT e s1, seqT e s2, List.getElem?_eq_getElem _, List.getElem?_eq_getElem _⟩
  stop := fun i H e hi => by
    have z : as.length ≤ i ∨ bs.length ≤ i := by simp [zipD] at hi; omega
    exact ⟨xs, ys, seqT e s1, seqT e s2, by rw [DvA.len h1, DvA.len h2]; exact z⟩
  yld := fun i H v H' G' e e2 hi hy => by
    obtain ⟨T, x, y, rfl, hn, rfl, hx, hy⟩ := hy
    obtain ⟨da, e3, dx⟩ := DvA.getv h1 (hx xs (seqT (e.trans e2) s1))
    obtain ⟨db, e4, dy⟩ := DvA.getv h2 (hy ys (seqT (e.trans e2) s2))
    obtain ⟨p, dz⟩ := zip_yld e2 hn (dx.to e) (dy.to e) (pairs_no (hz _ (List.mem_of_getElem? e3)))
    exact ⟨_, _, zipD_get e3 e4, p, dz⟩
theorem runs_zipL {a b : Addr} {xs ys : List V} {as bs : List PyData} (s1 : SqL K G a xs) (s2 : SqL K G b ys) (h1 : DvA K G xs as) (h2 : DvA K G ys bs) (hz : ∀ a ∈ as, pairB a = false) : Runs K (Itz K a b) G (zipD as bs) where
  go := fun i H e hi => by
    have z : i < as.length ∧ i < bs.length := by simp [zipD] at hi; omega
    exact ⟨xs, ys, xs[i]'(by rw [DvA.len h1]; exact z.1), ys[i]'(by rw [DvA.len h2]; exact z.2), e.seq s1, e.seq s2, List.getElem?_eq_getElem _, List.getElem?_eq_getElem _⟩
  stop := fun i H e hi => by
    have z : as.length ≤ i ∨ bs.length ≤ i := by simp [zipD] at hi; omega
    exact ⟨xs, ys, e.seq s1, e.seq s2, by rw [DvA.len h1, DvA.len h2]; exact z⟩
  yld := fun i H v H' G' e e2 hi hy => by
    obtain ⟨T, x, y, rfl, hn, rfl, hx, hy⟩ := hy
    obtain ⟨da, e3, dx⟩ := DvA.getv h1 (hx xs ((e.trans e2).seq s1))
    obtain ⟨db, e4, dy⟩ := DvA.getv h2 (hy ys ((e.trans e2).seq s2))
    obtain ⟨p, dz⟩ := zip_yld e2 hn (dx.to e) (dy.to e) (pairs_no (hz _ (List.mem_of_getElem? e3)))
    exact ⟨_, _, zipD_get e3 e4, p, dz⟩
theorem gi_zipT {as bs : List PyData} (ga : GA K tA σ H A [.tuple as, .tuple bs]) (hz : ∀ a ∈ as, pairB a = false) : GI K (RZ.iZipA K tA) σ H A (zipD as bs) := fun H0 H1 e R q => ga.to e fun vs G H2 p dv => by
  obtain ⟨v, w, rfl, d1, d2⟩ := DvA.inv2 dv
  obtain ⟨a, xs, rfl, s1, da⟩ := Dv.tup_inv d1
  obtain ⟨b, ys, rfl, s2, db⟩ := Dv.tup_inv d2
  exact ⟨a, b, xs, ys, rfl, .inr ⟨seqT p.gh s1, seqT p.gh s2, q _ G H2 p (runs_zipT s1 s2 da db hz)⟩⟩
theorem gi_zipL {as bs : List PyData} (ga : GA K tA σ H A [.list as, .list bs]) (hz : ∀ a ∈ as, pairB a = false) : GI K (RZ.iZipA K tA) σ H A (zipD as bs) := fun H0 H1 e R q => ga.to e fun vs G H2 p dv => by
  obtain ⟨v, w, rfl, d1, d2⟩ := DvA.inv2 dv
  obtain ⟨a, xs, rfl, s1, da⟩ := Dv.lst_inv d1
  obtain ⟨b, ys, rfl, s2, db⟩ := Dv.lst_inv d2
  exact ⟨a, b, xs, ys, rfl, .inl ⟨.inl (rd_same p.gh s1), .inl (rd_same p.gh s2), q _ G H2 p (runs_zipL (.inl s1) (.inl s2) da db hz)⟩⟩
/-! ### a list comprehension -/
theorem wipe1 {k : Nat} {v : Option V} : wipe ((wipe σ [k]).set k v) [k] = wipe σ [k] := by
  show ((σ.set k none).set k v).set k none = σ.set k none
  rw [List.set_set, List.set_set]
theorem wipe2 {k j : Nat} {v w : Option V} (h : k ≠ j) : wipe (((wipe σ [k, j]).set k v).set j w) [k, j] = wipe σ [k, j] := by
  show (((((σ.set j none).set k none).set k v).set j w).set j none).set k none = (σ.set j none).set k none
  rw [List.set_set, List.set_set, List.set_comm (i := k) (j := j) _ _ h, List.set_set, List.set_set]
/-- the general one, over a list of anything: each turn keeps or not, and gives a datum -/
theorem lc_run {α : Type} {wi : TI} {g : TG} {tt : TT} {te : TE} {vs : List Nat} {xs : List α} (em : α → PyData) (p : α → Bool) (f : α → PyData) (gi : GI K wi σ H A (xs.map em)) (z : xs.length ≤ 1000000)
    (turn : ∀ (i : Nat) (a : α), xs[i]? = some a → ∀ v G H1, Pub H A G H1 → Dv K G v (em a) → ∀ Q : L2.St → Hp → Prop,
      (∀ σ2 G2 H2, Pub G H1 G2 H2 → wipe σ2 vs = wipe σ vs → GT tt σ2 G2 H2 (p a) → (p a = true → GD K te σ2 G2 H2 (f a)) → Q σ2 H2) → g v (wipe σ vs) H1 Q) :
    GD K (tLc wi g tt te vs) σ H A (.list ((xs.filter p).map f)) := fun H0 H1 e Q q => gi H0 H1 e _ fun J B H2 pb r D hD => by
  refine ⟨fun i m Hx => m = xs.length - i ∧ i ≤ xs.length ∧ ∃ G acc, Pub B H2 G Hx ∧ Hx D = some (.lst acc) ∧ G D = none ∧ DvA K G acc (((xs.take i).filter p).map f),
    ⟨xs.length, by simp, Nat.zero_le _, B, [], (Pub.refl pb.gh).newP hD _, upd_same, pb.gh.free hD, by rw [List.take_zero]; exact .nil⟩, ?_⟩
  rintro i m Hx ⟨rfl, hi, G, acc, pg, hacc, hGD, dacc⟩
  by_cases hlt : i < xs.length
  · have hlt' : i < (xs.map em).length := by rw [List.length_map]; exact hlt
    refine .inr ⟨r.go i Hx pg.same hlt', fun H' => ∃ G acc, Pub B H2 G H' ∧ H' D = some (.lst acc) ∧ G D = none ∧ DvA K G acc (((xs.take (i + 1)).filter p).map f), fun H' ⟨G', acc', h⟩ => ⟨xs.length - (i + 1), by omega, rfl, hlt, G', acc', h⟩, fun x H' hy => ?_⟩
    obtain ⟨d, G', hd, p1, dx⟩ := r.yld i Hx x H' G pg.hg pg.gh hlt' hy
    rw [List.getElem?_map] at hd
    obtain ⟨a, ha, rfl⟩ := Option.map_eq_some_iff.mp hd
    refine turn i a ha x G' H' (e.trans (pb.trans (pg.trans p1))) dx _ fun σ2 G2 H3 p2 hw gt gd => ⟨hw, ?_⟩
    have ht : xs.take (i + 1) = xs.take i ++ [a] := by rw [List.take_add_one, ha]; rfl
    have q12 := (pg.trans p1).trans p2
    have hD3 : H3 D = some (.lst acc) := p2.hh D _ (p1.hh D _ hacc)
    have hG2D : G2 D = none := (p1.trans p2).pr D hGD (some_ne hacc)
    refine gt.to (.refl p2.gh) fun H4 e4 => ?_
    have q4 : Pub B H2 G2 H4 := q12.trans e4
    cases hp : p a with
    | false =>
      refine iteF ⟨G2, acc, q4, e4.hh D _ hD3, hG2D, ?_⟩
      rw [ht, List.filter_append, List.filter_cons, hp, if_neg Bool.false_ne_true, List.filter_nil, List.append_nil]
      exact dacc.to (p1.hg.trans p2.hg)
    | true =>
      refine iteT ((gd hp).to e4 fun y G5 H5 p5 dy => ?_)
      have hD5 : H5 D = some (.lst acc) := p5.hh D _ (e4.hh D _ hD3)
      have hG5D : G5 D = none := p5.pr D hG2D (some_ne (e4.hh D _ hD3))
      have hl : acc.length ≤ xs.length := by
        rw [DvA.len dacc, List.length_map]
        exact Nat.le_trans (List.length_filter_le _ _) (by rw [List.length_take]; omega)
      have hs : acc.length < sizeLine := Nat.lt_of_le_of_lt (Nat.le_trans hl z) (by rw [sizeLine_eq]; decide)
      refine ⟨acc, hD5, hs, G5, acc ++ [y], (q4.trans p5).put hD hG5D _, upd_same, hG5D, ?_⟩
      rw [ht, List.filter_append, List.filter_cons, hp, if_pos rfl, List.filter_nil, List.map_append]
      exact DvA.app ((dacc.to (p1.hg.trans p2.hg)).to p5.hg) (.cons dy .nil)
  · have hn : i = xs.length := by omega
    subst hn
    rw [List.take_length] at dacc
    exact .inl ⟨r.stop _ Hx pg.same (by rw [List.length_map]; exact Nat.le_refl _), q _ _ Hx (pb.trans (pg.open_ hD hGD hacc)) (.lst (.inl upd_same) (dacc.to (same_new hGD _)))⟩
/-- one name, no test -/
theorem gd_lc {α : Type} {wi : TI} {k : Nat} {xs : List α} {em : α → PyData} {f : α → PyData} (gi : GI K wi σ H A (xs.map em)) (z : xs.length ≤ 1000000)
    (he : ∀ (i : Nat) (a : α), xs[i]? = some a → ∀ v G H1, Pub H A G H1 → Dv K G v (em a) → GD K te ((wipe σ [k]).set k (some v)) G H1 (f a)) : GD K (tLc wi (gName k) tYes te [k]) σ H A (.list (xs.map f)) := by
  have e := lc_run (te := te) (tt := tYes) (g := gName k) (vs := [k]) em (fun _ => true) f gi z fun i d hd v G H1 s dv Q q => q _ G H1 (.refl s.gh) wipe1 (fun H0 H1 e Q q => q H1 (.refl e.gh)) fun _ => he i d hd v G H1 s dv
  rw [List.filter_eq_self.mpr fun _ _ => rfl] at e
  exact e
/-- one name, a test -/
theorem gd_lcIf {α : Type} {wi : TI} {k : Nat} {xs : List α} {em : α → PyData} {p : α → Bool} {f : α → PyData} (gi : GI K wi σ H A (xs.map em)) (z : xs.length ≤ 1000000) (ht : ∀ (i : Nat) (a : α), xs[i]? = some a → ∀ v G H1, Pub H A G H1 → Dv K G v (em a) → GT tt ((wipe σ [k]).set k (some v)) G H1 (p a))
    (he : ∀ (i : Nat) (a : α), xs[i]? = some a → p a = true → ∀ v G H1, Pub H A G H1 → Dv K G v (em a) → GD K te ((wipe σ [k]).set k (some v)) G H1 (f a)) : GD K (tLc wi (gName k) tt te [k]) σ H A (.list ((xs.filter p).map f)) :=
  lc_run (te := te) (tt := tt) (g := gName k) (vs := [k]) em p f gi z fun i d hd v G H1 s dv Q q => q _ G H1 (.refl s.gh) wipe1 (ht i d hd v G H1 s dv) fun hp => he i d hd hp v G H1 s dv
/-- two names, the items tuples of two; no test -/
theorem gd_lc2 {α : Type} {wi : TI} {k j : Nat} {xs : List α} {ea eb : α → PyData} {f : α → PyData} (hkj : k ≠ j) (gi : GI K wi σ H A (xs.map fun x => .tuple [ea x, eb x])) (z : xs.length ≤ 1000000)
    (he : ∀ (i : Nat) (a : α), xs[i]? = some a → ∀ v w G H1, Pub H A G H1 → Dv K G v (ea a) → Dv K G w (eb a) → GD K te (((wipe σ [k, j]).set k (some v)).set j (some w)) G H1 (f a)) :
    GD K (tLc wi (gTup K 2 (gCons (gName k) (gCons (gName j) gNil))) tYes te [k, j]) σ H A (.list (xs.map f)) := by
  have e := lc_run (te := te) (tt := tYes) (g := gTup K 2 (gCons (gName k) (gCons (gName j) gNil))) (vs := [k, j]) (fun x => .tuple [ea x, eb x]) (fun _ => true) f gi z fun i d hd v G H1 s dv Q q => by
    obtain ⟨c, ws, rfl, sq, da⟩ := Dv.tup_inv dv
    obtain ⟨x, y, rfl, dx, dy⟩ := DvA.inv2 da
    exact ⟨c, _, rfl, seqT s.gh sq, rfl, x, _, rfl, y, _, rfl, rfl, q _ G H1 (.refl s.gh) (wipe2 hkj) (fun H0 H1 e Q q => q H1 (.refl e.gh)) fun _ => he i d hd x y G H1 s dx dy⟩
  rw [List.filter_eq_self.mpr fun _ _ => rfl] at e
  exact e
theorem gc_allM {α : Type} {xs : List α} {g : α → Bool} : GC K (rAll K) [.list (xs.map fun x => .bool (g x))] (.bool (xs.all g)) := by
  have e := gc_all (K := K) (bs := xs.map g)
  rw [List.map_map, List.all_map] at e
  exact e
theorem gc_anyM {α : Type} {xs : List α} {g : α → Bool} : GC K (rAny K) [.list (xs.map fun x => .bool (g x))] (.bool (xs.any g)) := by
  have e := gc_any (K := K) (bs := xs.map g)
  rw [List.map_map, List.any_map] at e
  exact e
end
end DL
end
section
set_option Elab.async false
set_option linter.all false
set_option maxRecDepth 100000
set_option maxHeartbeats 2000000
namespace DL
open PySem PySem.Spec PyProof.Rows L2
section
variable {K : PySem.W.Frag} {A H H' H1 H2 H3 G G1 G2 : Hp} {σ : L2.St} {t ta tb tc te : TE} {tA : TA} {tt tu : TT} {d d1 d2 d3 : PyData} {ds es : List PyData}
theorem gi_rng1 {n : Int} (ga : GA K tA σ H A [.int n]) (h : n < 2 ^ 62) (h0 : -(2 ^ 62) ≤ n) : GI K (iRng1 tA) σ H A ((upto 0 n.toNat).map .int) := fun H0 H1 e R q => ga.to e fun vs G H2 p dv => by
  obtain ⟨v, rfl, d1⟩ := DvA.inv1 dv
  have e1 := Dv.int_inv d1
  subst e1
  exact ⟨n, rfl, h0, h, q _ G H2 p runs_rng⟩
theorem gi_rng2 {i n : Int} (ga : GA K tA σ H A [.int i, .int n]) (h : -(2 ^ 62) ≤ i ∧ i < 2 ^ 62 ∧ -(2 ^ 62) ≤ n ∧ n < 2 ^ 62) : GI K (iRng2 tA) σ H A ((upto i (n - i).toNat).map .int) := fun H0 H1 e R q => ga.to e fun vs G H2 p dv => by
  obtain ⟨v, w, rfl, d1, d2⟩ := DvA.inv2 dv
  have e1 := Dv.int_inv d1
  have e2 := Dv.int_inv d2
  subst e1 e2
  exact ⟨i, n, rfl, h, q _ G H2 p runs_rng⟩
/-! ### a for loop: an invariant over the turn, the slots, the public and the actual heap -/
theorem for_run {wi : TI} {g : TG} {tb : TS} {D : Ends} (gi : GI K wi σ H A ds) {H0 : Hp} (e : Pub H A H0 H1)
    (h : ∀ B H2, Pub H0 H1 B H2 → ∃ Pv : Nat → L2.St → Hp → Hp → Prop, Pv 0 σ B H2 ∧ (∀ i σ' G H', Pv i σ' G H' → Same B G ∧ Same G H') ∧
      (∀ (i : Nat) (d : PyData) σ' G H', ds[i]? = some d → Pv i σ' G H' → ∀ v G2 H3, Pub G H' G2 H3 → Dv K G2 v d →
        g v σ' H3 fun σ2 H4 => tb { D with nx := fun σ' H' => ∃ G, Pv (i + 1) σ' G H', ct := fun σ' H' => ∃ G, Pv (i + 1) σ' G H', bk := D.nx } σ2 H4) ∧
      (∀ σ' G H', Pv ds.length σ' G H' → D.nx σ' H')) : tFor wi g tb D σ H1 := gi H0 H1 e _ fun J B H2 pb r => by
  obtain ⟨Pv, h0, hs, ht, hd⟩ := h B H2 pb
  refine ⟨fun i m σ' H' => m = ds.length - i ∧ i ≤ ds.length ∧ ∃ G, Pv i σ' G H', ⟨ds.length, by simp, Nat.zero_le _, B, h0⟩, ?_⟩
  rintro i m σ' H' ⟨rfl, hi, G, pv⟩
  obtain ⟨s1, s2⟩ := hs i σ' G H' pv
  by_cases hlt : i < ds.length
  · refine .inr ⟨r.go i H' (s1.trans s2) hlt, fun σ' H' => ∃ G, Pv (i + 1) σ' G H', fun σ2 H2 ⟨G', p'⟩ => ⟨ds.length - (i + 1), by omega, rfl, hlt, G', p'⟩, fun x H'' hy => ?_⟩
    obtain ⟨d, G', hdd, p1, dx⟩ := r.yld i H' x H'' G s1 s2 hlt hy
    exact ht i d σ' G H' hdd pv x G' H'' p1 dx
  · have hn : i = ds.length := by omega
    subst hn
    exact .inl ⟨r.stop _ H' (s1.trans s2) (Nat.le_refl _), hd σ' G H' pv⟩
/-! ### a def over data: what it asks of its arguments, what it may give -/
def spD (K : PySem.W.Frag) (n : Nat) (Pre : List PyData → Prop) (R : List PyData → PyData → Prop) : Sp := fun vs H1 Q _ => vs.length = n ∧ ∃ H ds, Same H H1 ∧ DvA K H vs ds ∧ Pre ds ∧ ∀ d, R ds d → ∀ v G H2, Pub H H1 G H2 → Dv K G v d → Q v H2
def spF (K : PySem.W.Frag) (n : Nat) (Pre : List PyData → Prop) (f : List PyData → PyData) : Sp := spD K n Pre fun ds d => d = f ds
theorem gr_call {n : Nat} {Pre : List PyData → Prop} {R : List PyData → PyData → Prop} (ga : GA K tA σ H A ds) (hn : ds.length = n) (hp : Pre ds) : GR K (tCall (spD K n Pre R) [] E0 tA) σ H A (R ds) := fun H0 H1 e Q q => ga.to e fun vs G H2 p dv => by
  show spD K n Pre R (vs ++ []) H2 Q E0
  rw [List.append_nil]
  exact ⟨(DvA.len dv).trans hn, G, ds, p.gh, dv, hp, fun d r v G' H3 p2 dw => q d v G' H3 r (p.trans p2) dw⟩
theorem gd_call {n : Nat} {Pre : List PyData → Prop} {f : List PyData → PyData} (ga : GA K tA σ H A ds) (hn : ds.length = n) (hp : Pre ds) : GD K (tCall (spF K n Pre f) [] E0 tA) σ H A (f ds) := fun H0 H1 e Q q =>
  gr_call (R := fun ds d => d = f ds) ga hn hp H0 H1 e Q fun d v G H2 r p dv => by
    subst r
    exact q v G H2 p dv
/-- a def that is called by its name -/
structure Cal (P : Program) (w : World) (K : PySem.W.Frag) (mg : Str → Option Value) (base : Heap) (k : Nat) (x : Str) (sp : Sp) : Prop where
  ex : ∃ f fd ps, FnOk P w K mg base CX0 k f fd ps sp ∧ mg x = some (.ref f) ∧ PySem.W.keepIn K (.ref f) = true ∧ Binds K fd ps []
theorem Cal.mono {P : Program} {w : World} {K : PySem.W.Frag} {mg : Str → Option Value} {base : Heap} {j k : Nat} {x : Str} {sp : Sp} (c : Cal P w K mg base j x sp) (h : j ≤ k) : Cal P w K mg base k x sp := by
  obtain ⟨f, fd, ps, F, h1, h2, h3⟩ := c.ex
  exact ⟨f, fd, ps, F.mono h, h1, h2, h3⟩
theorem Cal.imp {P : Program} {w : World} {K : PySem.W.Frag} {mg : Str → Option Value} {base : Heap} {k : Nat} {x : Str} {sp sp' : Sp} (c : Cal P w K mg base k x sp) (h : ∀ vs H Q E, sp' vs H Q E → sp vs H Q E) : Cal P w K mg base k x sp' := by
  obtain ⟨f, fd, ps, F, h1, h2, h3⟩ := c.ex
  exact ⟨f, fd, ps, F.imp h, h1, h2, h3⟩
theorem pe_k {X : Cx} {k j : Nat} {x : Str} {sp : Sp} {p pos : Pos} {e : Expr} {es : List Expr} {t : TA} (c : Cal X.prog X.w X.K X.mg X.base k x sp) (hr : Room j X.A) (hk : k ≤ j) (ha : PA X (e :: es) t) (hg : Gl X x := by rfl)
    (hdb : (x == ("__debug__" : Str)) = false := by decide) (he : starEach (e :: es) X.env = (false, eval e X.env) :: starEach es X.env := by rfl) (hpl : (backTo pos (starEach es X.env)).any (·.1) = false := by rfl) :
    PE X (.Call (.Name x p) (e :: es) [] pos) (tCall sp [] E0 t) := by
  obtain ⟨f, fd, ps, F, hm, kp, b⟩ := c.ex
  exact pe_call F (hr.mono hk) hg hm kp b .nil pass0 ha hdb he hpl
theorem pe_k0 {X : Cx} {k j : Nat} {x : Str} {sp : Sp} {p pos : Pos} (c : Cal X.prog X.w X.K X.mg X.base k x sp) (hr : Room j X.A) (hk : k ≤ j) (hg : Gl X x := by rfl)
    (hdb : (x == ("__debug__" : Str)) = false := by decide) : PE X (.Call (.Name x p) [] [] pos) (tCall sp [] E0 tNil) := by
  obtain ⟨f, fd, ps, F, hm, kp, b⟩ := c.ex
  exact pe_call0 F (hr.mono hk) hg hm kp b .nil pass0 hdb
/-- from a def's promise to its name -/
theorem cal_mk {P : Program} {w : World} {K : PySem.W.Frag} {mg : Str → Option Value} {base : Heap} {k : Nat} {x y qual : Str} {st : Stmt} {f : Addr} {fd : FuncData} {ps : List Str} {sp : Sp} (F : Fun K y qual st f fd) (ok : FnOk P w K mg base CX0 k f fd ps sp) (hm : mg x = some (.ref f)) (b : Binds K fd ps []) : Cal P w K mg base k x sp := ⟨f, fd, ps, ok, hm, F.kp, b⟩
/-! ### blocks that end in a return -/
def GB (K : PySem.W.Frag) (ts : TS) (σ : L2.St) (H A : Hp) (R : PyData → Prop) : Prop := ∀ H0 H1, Pub H A H0 H1 → ∀ D : Ends, (∀ d v G H2, R d → Pub H0 H1 G H2 → Dv K G v d → D.rt v H2) → ts D σ H1
variable {R : PyData → Prop} {ts tr tx : TS}
theorem gb_ret (g : GD K t σ H A d) (r : R d) : GB K (tRet t) σ H A R := fun H0 H1 e D q => g.to e fun v G H2 p dv => q d v G H2 r p dv
theorem gb_retN (r : R .none) : GB K tRetN σ H A R := fun H0 H1 e D q => q .none .non H0 H1 r (.refl e.gh) .non
theorem GB.pub {G1 H0 : Hp} (g : GB K ts σ G G1 R) (e : Pub G G1 G2 H2) {D : Ends} (p : Pub H0 H1 G2 H2) (q : ∀ d v G H2, R d → Pub H0 H1 G H2 → Dv K G v d → D.rt v H2) : ts D σ H2 := g G2 H2 e D fun d v G' H3 r p2 dv => q d v G' H3 r (p.trans p2) dv
/-- if t: (a block that returns); rest -/
theorem gb_if {b : Bool} (g : GT tt σ H A b) (h1 : b = true → GB K ts σ H A R) (h2 : b = false → GB K tr σ H A R) : GB K (tSeq (tIfS tt ts tNext) tr) σ H A R := fun H0 H1 e D q => g.to e fun H2 e2 => by
  cases b with
  | true => exact iteT (h1 rfl H0 H2 (e.trans e2) _ fun d v G H3 r p2 dv => q d v G H3 r (e2.trans p2) dv)
  | false => exact iteF (h2 rfl H0 H2 (e.trans e2) _ fun d v G H3 r p2 dv => q d v G H3 r (e2.trans p2) dv)
theorem gb_ifE {b : Bool} (g : GT tt σ H A b) (h1 : b = true → GB K ts σ H A R) (h2 : b = false → GB K tr σ H A R) : GB K (tIfS tt ts tr) σ H A R := fun H0 H1 e D q => g.to e fun H2 e2 => by
  cases b with
  | true => exact iteT (h1 rfl H0 H2 (e.trans e2) _ fun d v G H3 r p2 dv => q d v G H3 r (e2.trans p2) dv)
  | false => exact iteF (h2 rfl H0 H2 (e.trans e2) _ fun d v G H3 r p2 dv => q d v G H3 r (e2.trans p2) dv)
theorem gb_set {i : Nat} (g : GD K t σ H A d) (h : ∀ v G H2, Pub H A G H2 → Dv K G v d → GB K tr (σ.set i (some v)) G H2 R) : GB K (tSeq (tAsg t (gName i)) tr) σ H A R := fun H0 H1 e D q => g.to e fun v G H2 p dv => h v G H2 (e.trans p) dv G H2 (.refl p.gh) D fun d v G' H3 r p2 dv => q d v G' H3 r (p.trans p2) dv
theorem gb_setR {i : Nat} {S : PyData → Prop} (g : GR K t σ H A S) (h : ∀ d v G H2, S d → Pub H A G H2 → Dv K G v d → GB K tr (σ.set i (some v)) G H2 R) : GB K (tSeq (tAsg t (gName i)) tr) σ H A R := fun H0 H1 e D q => g H0 H1 e _ fun d v G H2 s p dv => h d v G H2 s (e.trans p) dv G H2 (.refl p.gh) D fun d v G' H3 r p2 dv => q d v G' H3 r (p.trans p2) dv
theorem gb_setV {i : Nat} {v : V} (g : GV t σ H A v) (h : ∀ G H2, Pub H A G H2 → GB K tr (σ.set i (some v)) G H2 R) : GB K (tSeq (tAsg t (gName i)) tr) σ H A R := fun H0 H1 e D q => g.to e fun G H2 p => h G H2 (e.trans p) G H2 (.refl p.gh) D fun d v G' H3 r p2 dv => q d v G' H3 r (p.trans p2) dv
theorem gb_imp {S : PyData → Prop} (g : GB K ts σ H A R) (h : ∀ d, R d → S d) : GB K ts σ H A S := fun H0 H1 e D q => g H0 H1 e D fun d v G H2 r p dv => q d v G H2 (h d r) p dv
/-- a, b, c = e -/
theorem gb_tup2 {i j : Nat} (g : GD K t σ H A (.tuple [d1, d2])) (h : ∀ u v G H2, Pub H A G H2 → Dv K G u d1 → Dv K G v d2 → GB K tr ((σ.set i (some u)).set j (some v)) G H2 R) :
    GB K (tSeq (tAsg t (gTup K 2 (gCons (gName i) (gCons (gName j) gNil)))) tr) σ H A R := fun H0 H1 e D q => g.to e fun v G H2 p dv => by
  obtain ⟨a, xs, rfl, s, da⟩ := Dv.tup_inv dv
  obtain ⟨x, y, rfl, dx, dy⟩ := DvA.inv2 da
  exact ⟨a, _, rfl, seqT p.gh s, rfl, x, _, rfl, y, _, rfl, rfl, h x y G H2 (e.trans p) dx dy G H2 (.refl p.gh) D fun d v G' H3 r p2 dv => q d v G' H3 r (p.trans p2) dv⟩
theorem gb_tup3 {i j k : Nat} (g : GD K t σ H A (.tuple [d1, d2, d3])) (h : ∀ u v w G H2, Pub H A G H2 → Dv K G u d1 → Dv K G v d2 → Dv K G w d3 → GB K tr (((σ.set i (some u)).set j (some v)).set k (some w)) G H2 R) :
    GB K (tSeq (tAsg t (gTup K 3 (gCons (gName i) (gCons (gName j) (gCons (gName k) gNil))))) tr) σ H A R := fun H0 H1 e D q => g.to e fun v G H2 p dv => by
  obtain ⟨a, xs, rfl, s, da⟩ := Dv.tup_inv dv
  obtain ⟨x, y, z, rfl, dx, dy, dz⟩ := DvA.inv3 da
  exact ⟨a, _, rfl, seqT p.gh s, rfl, x, _, rfl, y, _, rfl, z, _, rfl, rfl, h x y z G H2 (e.trans p) dx dy dz G H2 (.refl p.gh) D fun d v G' H3 r p2 dv => q d v G' H3 r (p.trans p2) dv⟩
/-- a def's body that ends in a return always: its promise -/
theorem fn_gb {P : Program} {w : World} {K : PySem.W.Frag} {mg : Str → Option Value} {base : Heap} {x qual : Str} {st : Stmt} {f : Addr} {fd : FuncData} {N ps : List Str} {k n : Nat} {Pre : List PyData → Prop} {R : List PyData → PyData → Prop} (F : Fun K x qual st f fd) (S : FnScope N ps (defScope st)) (hn : n = ps.length)
    (hbody : ∀ (cdv : Value) (A : Around) (outer : List Env) (s : Shared) (H1 : Hp) (E : XK), Room k (A.deeper (envOfC qual (defScope st) s.heap.objs.size f cdv)) →
      ∃ t, PSs (cxOf CX0 P w K mg base N qual (defScope st) f cdv A outer s H1 E).nox (defBody st) t ∧ ∀ vs ds H A, Same H A → vs.length = n → DvA K H vs ds → Pre ds → GB K t (start N vs) H A (R ds)) : FnOk P w K mg base CX0 (k + 1) f fd ps (spD K n Pre R) := by
  refine F.ok S (fun vs H Q E h => by rw [h.1, hn]) (fun cdv A outer s H vs Q E hr h => ?_)
  obtain ⟨hl, H0, ds, e, dv, hp, q⟩ := h
  obtain ⟨t, h1, h2⟩ := hbody cdv A outer s H E hr
  exact ⟨t, h1, h2 vs ds H0 H e hl dv hp H0 H (.refl e) _ fun d v G H2 r p dv => q d r v G H2 p dv⟩
end
end DL
end
section
set_option Elab.async false
set_option linter.all false
set_option maxRecDepth 100000
set_option maxHeartbeats 2000000
namespace DL
open PySem PySem.Spec PyProof.Rows L2
section
variable {K : PySem.W.Frag} {A H H' H1 H2 H3 G G1 G2 : Hp} {σ : L2.St} {t ta tb tc te : TE} {tA : TA} {tt tu : TT} {d d1 d2 d3 : PyData} {ds es : List PyData}
/-- a name of the top that holds a known thing -/
theorem pe_gl {X : Cx} {x : Str} {v : V} {pos : Pos} (h : ∃ u, X.mg x = some u ∧ RelV v u) (hg : Gl X x := by rfl) (hd : (x == ("__debug__" : Str)) = false := by decide) : PE X (.Name x pos) (tC v) := by
  obtain ⟨u, h1, h2⟩ := h
  exact pe_glob hg h1 h2 hd
def rOrd : List V → Hp → VK → Prop := fun xs H Q => ∃ x, xs = [.str x] ∧ x.length = 1 ∧ Q (.int (x.cps.getD 0 0 : Nat)) H
theorem cr_ord {X : Cx} : CallR X (.builtin "ord") rOrd := call_ord
theorem gc_ord {x : Str} (h : x.length = 1) : GC K rOrd [.str x] (.int (x.cps.getD 0 0 : Nat)) := fun H H1 G H2 vs Q p dv q => by
  obtain ⟨v, rfl, d1⟩ := DvA.inv1 dv
  have e := Dv.str_inv d1
  subst e
  exact ⟨x, rfl, h, q _ G H2 p (.int _)⟩
/-! ### methods of one's own -/
structure Met (P : Program) (w : World) (K : PySem.W.Frag) (mg : Str → Option Value) (base : Heap) (CX : CXT) (k : Nat) (C : Addr) (m : Str) (sp : Sp) : Prop where
  ex : ∃ f fd ps, Cls K C ∧ Meth K C m f ∧ FnOk P w K mg base CX k f fd ps sp ∧ Binds K fd ps []
theorem pe_m {X : Cx} {k j : Nat} {C : Addr} {m : Str} {sp : Sp} {apos pos : Pos} {o e : Expr} {es : List Expr} {ta : TE} {t : TA} {pl : Sem Bool} (M : Met X.prog X.w X.K X.mg X.base CX0 k C m sp) (hr : Room j X.A) (hk : k ≤ j) (ho : PE X o ta) (ha : PA X (e :: es) t)
    (hst : starEach (e :: es) X.env = (false, eval e X.env) :: starEach es X.env := by rfl) (hpl : (backTo pos (starEach es X.env)).any (·.1) = false := by rfl)
    (ht : eval (.Call (.Attribute o m apos) (e :: es) [] pos) X.env = (do
      let ov ← eval o X.env
      standAt apos.atName
      let (f, first) ← holding [ov] (getMethod ov m pl)
      callWith pos f first (backTo pos (starEach (e :: es) X.env)) (backToKw pos (keywordEach [] X.env))) := by rfl) : PE X (.Call (.Attribute o m apos) (e :: es) [] pos) (tMeth C m sp [] E0 ta t) := by
  obtain ⟨f, fd, ps, hc, hm, F, b⟩ := M.ex
  exact pe_meth (pl := pl) ho hc hm F (hr.mono hk) b .nil pass0 ha hst hpl ht
theorem pe_mX {X : Cx} {k j : Nat} {C : Addr} {m : Str} {sp : Sp} {apos pos : Pos} {o e : Expr} {es : List Expr} {ta : TE} {t : TA} {pl : Sem Bool} {E : XK} (M : Met X.prog X.w X.K X.mg X.base (L2.CX X.prog X.w) k C m sp) (hr : Room j X.A) (hk : k ≤ j) (hx : Passes (L2.CX X.prog X.w) X E) (ho : PE X o ta) (ha : PA X (e :: es) t)
    (hst : starEach (e :: es) X.env = (false, eval e X.env) :: starEach es X.env := by rfl) (hpl : (backTo pos (starEach es X.env)).any (·.1) = false := by rfl)
    (ht : eval (.Call (.Attribute o m apos) (e :: es) [] pos) X.env = (do
      let ov ← eval o X.env
      standAt apos.atName
      let (f, first) ← holding [ov] (getMethod ov m pl)
      callWith pos f first (backTo pos (starEach (e :: es) X.env)) (backToKw pos (keywordEach [] X.env))) := by rfl) : PE X (.Call (.Attribute o m apos) (e :: es) [] pos) (tMeth C m sp [] E ta t) := by
  obtain ⟨f, fd, ps, hc, hm, F, b⟩ := M.ex
  exact pe_meth (pl := pl) ho hc hm F (hr.mono hk) b .nil hx ha hst hpl ht
theorem pe_m0 {X : Cx} {k j : Nat} {C : Addr} {m : Str} {sp : Sp} {apos pos : Pos} {o : Expr} {ta : TE} {pl : Sem Bool} (M : Met X.prog X.w X.K X.mg X.base CX0 k C m sp) (hr : Room j X.A) (hk : k ≤ j) (ho : PE X o ta)
    (ht : eval (.Call (.Attribute o m apos) [] [] pos) X.env = (do
      let ov ← eval o X.env
      standAt apos.atName
      let (f, first) ← holding [ov] (getMethod ov m pl)
      callWith pos f first (backTo pos (starEach [] X.env)) (backToKw pos (keywordEach [] X.env))) := by rfl) : PE X (.Call (.Attribute o m apos) [] [] pos) (tMeth C m sp [] E0 ta tNil) := by
  obtain ⟨f, fd, ps, hc, hm, F, b⟩ := M.ex
  exact pe_meth0 (pl := pl) ho hc hm F (hr.mono hk) b .nil pass0 ht
/-! ### own errors over own errors: LookError.__init__(self, ..) -/
theorem pe_clsinit {X : Cx} {B : Addr} {x : Str} {e : Expr} {es : List Expr} {ta : TA} {p1 p2 pos : Pos} {pl : Sem Bool} (hm : X.mg x = some (.ref B)) (ga : PySem.W.specialIn X.K (.ref B) "__getattribute__" = some (some (.builtin "type.__getattribute__"))) (rd : PySem.W.readsIn X.K B (.type "type") = true)
    (vV : PySem.W.findCls X.K (.ref B) (.type "type") "__init__" = some (.val (.builtin "ValueError.__init__"))) (ha : PA X (e :: es) ta) (hg : Gl X x := by rfl) (hd : (x == ("__debug__" : Str)) = false := by decide)
    (hc : eval (.Call (.Attribute (.Name x p1) "__init__" p2) (e :: es) [] pos) X.env = (do
      let ov ← eval (.Name x p1) X.env
      standAt p2.atName
      let (f, first) ← holding [ov] (getMethod ov "__init__" pl)
      callWith pos f first (backTo pos (starEach (e :: es) X.env)) (backToKw pos (keywordEach [] X.env))) := by rfl)
    (he : starEach (e :: es) X.env = (false, eval e X.env) :: starEach es X.env := by rfl) (hpl : (backTo pos (starEach es X.env)).any (·.1) = false := by rfl) :
    PE X (.Call (.Attribute (.Name x p1) "__init__" p2) (e :: es) [] pos) (tVeI X.K ta) := by
  refine ⟨fun pins s σ H Q I h => ?_⟩
  refine PySem.W.methodCall_KW (ld_glob I hg hm ?_ hd) hc
  refine PySem.W.method_cls I.kIn ga (PySem.W.cls_value I.kIn rd vV (by decide +kernel) ?_)
  refine PyProof.Rows.callWith_method1 (thn (ha.run pos pins _ σ H _ (I.tok _) h) fun us s1 ⟨vs, H1, I1, r1, a, C, ws, ev, hl, T, ea, q⟩ => ?_) he hpl
  subst ev
  cases r1 with
  | @cons _ u0 _ ur ra rr =>
    obtain rfl : u0 = Value.ref a := ra
    have hlen : ur.length ≤ sizeLine := by
      rw [← Paired.length rr, sizeLine_eq]
      omega
    exact oinit_ok T I1 ea hlen fun s' J => ⟨.non, H1, J, rfl, q⟩
end
end DL
namespace DL
open PySem PySem.Spec PyProof.Rows L2
section
variable {K : PySem.W.Frag} {A H : Hp} {σ : L2.St} {te : TE} {d : PyData}
def isS : PyData → Bool
  | .str _ => true
  | _ => false
def isI : PyData → Bool
  | .int _ => true
  | .bool _ => true
  | _ => false
def isB : PyData → Bool
  | .bool _ => true
  | _ => false
def isT : PyData → Bool
  | .tuple _ => true
  | _ => false
def isL : PyData → Bool
  | .list _ => true
  | _ => false
theorem kit_S : ∀ d, kitB (tyN d) "str" = some (isS d)
  | .none => (by decide +kernel : kitB "NoneType" "str" = some false)
  | .bool _ => (by decide +kernel : kitB "bool" "str" = some false)
  | .int _ => (by decide +kernel : kitB "int" "str" = some false)
  | .str _ => (by decide +kernel : kitB "str" "str" = some true)
  | .list _ => (by decide +kernel : kitB "list" "str" = some false)
  | .tuple _ => (by decide +kernel : kitB "tuple" "str" = some false)
  | .dict _ => (by decide +kernel : kitB "dict" "str" = some false)
theorem kit_I : ∀ d, kitB (tyN d) "int" = some (isI d)
  | .none => (by decide +kernel : kitB "NoneType" "int" = some false)
  | .bool _ => (by decide +kernel : kitB "bool" "int" = some true)
  | .int _ => (by decide +kernel : kitB "int" "int" = some true)
  | .str _ => (by decide +kernel : kitB "str" "int" = some false)
  | .list _ => (by decide +kernel : kitB "list" "int" = some false)
  | .tuple _ => (by decide +kernel : kitB "tuple" "int" = some false)
  | .dict _ => (by decide +kernel : kitB "dict" "int" = some false)
theorem kit_B : ∀ d, kitB (tyN d) "bool" = some (isB d)
  | .none => (by decide +kernel : kitB "NoneType" "bool" = some false)
  | .bool _ => (by decide +kernel : kitB "bool" "bool" = some true)
  | .int _ => (by decide +kernel : kitB "int" "bool" = some false)
  | .str _ => (by decide +kernel : kitB "str" "bool" = some false)
  | .list _ => (by decide +kernel : kitB "list" "bool" = some false)
  | .tuple _ => (by decide +kernel : kitB "tuple" "bool" = some false)
  | .dict _ => (by decide +kernel : kitB "dict" "bool" = some false)
theorem kit_T : ∀ d, kitB (tyN d) "tuple" = some (isT d)
  | .none => (by decide +kernel : kitB "NoneType" "tuple" = some false)
  | .bool _ => (by decide +kernel : kitB "bool" "tuple" = some false)
  | .int _ => (by decide +kernel : kitB "int" "tuple" = some false)
  | .str _ => (by decide +kernel : kitB "str" "tuple" = some false)
  | .list _ => (by decide +kernel : kitB "list" "tuple" = some false)
  | .tuple _ => (by decide +kernel : kitB "tuple" "tuple" = some true)
  | .dict _ => (by decide +kernel : kitB "dict" "tuple" = some false)
theorem kit_L : ∀ d, kitB (tyN d) "list" = some (isL d)
  | .none => (by decide +kernel : kitB "NoneType" "list" = some false)
  | .bool _ => (by decide +kernel : kitB "bool" "list" = some false)
  | .int _ => (by decide +kernel : kitB "int" "list" = some false)
  | .str _ => (by decide +kernel : kitB "str" "list" = some false)
  | .list _ => (by decide +kernel : kitB "list" "list" = some true)
  | .tuple _ => (by decide +kernel : kitB "tuple" "list" = some false)
  | .dict _ => (by decide +kernel : kitB "dict" "list" = some false)
theorem gd_isS (g : GD K te σ H A d) : GD K (tCB (rIsi K) (tCons te (tCons (tC (.ty "str")) tNil))) σ H A (.bool (isS d)) := gd_isi g (kit_S d)
theorem gd_isI (g : GD K te σ H A d) : GD K (tCB (rIsi K) (tCons te (tCons (tC (.ty "int")) tNil))) σ H A (.bool (isI d)) := gd_isi g (kit_I d)
theorem gd_isB (g : GD K te σ H A d) : GD K (tCB (rIsi K) (tCons te (tCons (tC (.ty "bool")) tNil))) σ H A (.bool (isB d)) := gd_isi g (kit_B d)
theorem gd_isT (g : GD K te σ H A d) : GD K (tCB (rIsi K) (tCons te (tCons (tC (.ty "tuple")) tNil))) σ H A (.bool (isT d)) := gd_isi g (kit_T d)
theorem gd_isL (g : GD K te σ H A d) : GD K (tCB (rIsi K) (tCons te (tCons (tC (.ty "list")) tNil))) σ H A (.bool (isL d)) := gd_isi g (kit_L d)
end
end DL
namespace DL
open PySem PySem.Spec PyProof.Rows L2
section
variable {K : PySem.W.Frag} {A H H' H1 H2 H3 G G1 G2 : Hp} {σ : L2.St} {t ta tb tc te : TE} {tA : TA} {tt tu : TT} {d d1 d2 d3 : PyData} {ds es : List PyData}
/-! ### an object of one's own, private -/
structure Own (H H1 G Hc : Hp) (p : Addr) (o : HO) : Prop where
  pub : Pub H H1 G Hc
  at_ : Hc p = some o
  pg : G p = none
  p1 : H1 p = none
theorem Own.new {Hc : Hp} {p : Addr} (P : Pub H H1 G Hc) (h : Hc p = none) (o : HO) : Own H H1 G (upd Hc p o) p o := ⟨P.newP h o, upd_same, P.gh.free h, P.hh.free h⟩
theorem Own.step {Hc H' G' : Hp} {p : Addr} {o : HO} (w : Own H H1 G Hc p o) (P : Pub G Hc G' H') : Own H H1 G' H' p o := ⟨w.pub.trans P, P.hh _ _ w.at_, P.pr _ w.pg (some_ne w.at_), w.p1⟩
theorem Own.test {Hc H' : Hp} {p : Addr} {o : HO} (w : Own H H1 G Hc p o) (e : Same Hc H') : Own H H1 G H' p o := ⟨⟨w.pub.hg, w.pub.gh.trans e, w.pub.hh.trans e, w.pub.pr⟩, e _ _ w.at_, w.pg, w.p1⟩
theorem Own.put {Hc : Hp} {p : Addr} {o : HO} (w : Own H H1 G Hc p o) (u : HO) : Own H H1 G (upd Hc p u) p u := ⟨w.pub.put w.p1 w.pg u, upd_same, w.pg, w.p1⟩
theorem Own.open_ {Hc : Hp} {p : Addr} {o : HO} (w : Own H H1 G Hc p o) : Pub H H1 (upd G p o) Hc := w.pub.open_ w.p1 w.pg w.at_
theorem Own.gh {Hc : Hp} {p : Addr} {o : HO} (w : Own H H1 G Hc p o) : Same G Hc := w.pub.gh
/-! ### statements, one after another -/
theorem s_set {i : Nat} {tr : TS} {D : Ends} (g : GD K t σ G H d) (s : Same G H) (k : ∀ v G' H', Pub G H G' H' → Dv K G' v d → tr D (σ.set i (some v)) H') : tSeq (tAsg t (gName i)) tr D σ H := g G H (.refl s) _ k
theorem s_setE {i : Nat} {D : Ends} (g : GD K t σ G H d) (s : Same G H) (k : ∀ v G' H', Pub G H G' H' → Dv K G' v d → D.nx (σ.set i (some v)) H') : tAsg t (gName i) D σ H := g G H (.refl s) _ k
theorem s_if {b : Bool} {ts tr : TS} {D : Ends} (g : GT tt σ G H b) (s : Same G H) (h1 : b = true → ∀ H', Same H H' → ts D σ H') (h2 : b = false → ∀ H', Same H H' → tr D σ H') : tIfS tt ts tr D σ H := g.to (.refl s) fun H' e => by
  cases b with
  | true => exact iteT (h1 rfl H' e.hh)
  | false => exact iteF (h2 rfl H' e.hh)
/-- o.append(e), the list o one's own -/
theorem s_append {i : Nat} {p : Addr} {xs : List V} {D : Ends} {H0 H1 : Hp} (w : Own H0 H1 G H p (.lst xs)) (ho : σ[i]? = some (some (.ref p))) (g : GD K te σ G H d) (z : xs.length < sizeLine) (k : ∀ v G' H', Own H0 H1 G' H' p (.lst (xs ++ [v])) → Same G G' → Dv K G' v d → D.nx σ H') :
    tDrop (tBM K "list" rAppend (tVar i) (tCons te tNil)) D σ H := ⟨.ref p, ho, .inl ⟨rfl, xs, SqL.of w.at_⟩, g.to (.refl w.gh) fun v G' H' P dv => ⟨p, xs, v, rfl, rfl, (w.step P).at_, z, k v G' _ ((w.step P).put _) P.hg dv⟩⟩
end
end DL
namespace DL
open PySem PySem.Spec PyProof.Rows L2
theorem s_mid {t u : TS} {D : Ends} {σ : L2.St} {H : Hp} (Mid : L2.St → Hp → Prop) (rest : ∀ σ' H', Mid σ' H' → u D σ' H') (h : (∀ σ' H', Mid σ' H' → u D σ' H') → t { D with nx := u D } σ H) : tSeq t u D σ H := h rest
end DL
namespace DL
open PySem PySem.Spec PyProof.Rows L2
section
variable {K : PySem.W.Frag} {H H1 G Hc : Hp} {p : Addr}
/-- while nothing is written, one's own list may be read as public -/
theorem Own.see {xs : List V} (w : Own H H1 G Hc p (.lst xs)) : Same (upd G p (.lst xs)) Hc := w.open_.gh
theorem Own.dv {xs : List V} {ds : List PyData} (w : Own H H1 G Hc p (.lst xs)) (h : DvA K G xs ds) : Dv K (upd G p (.lst xs)) (.ref p) (.list ds) := .lst (.inl upd_same) (h.to (same_new w.pg _))
theorem Own.dvi {ns : List Int} (w : Own H H1 G Hc p (.lst (ns.map V.int))) : Dv K (upd G p (.lst (ns.map V.int))) (.ref p) (.list (ns.map .int)) := w.dv DvA.ints
end
end DL
namespace DL
open PySem PySem.Spec PyProof.Rows L2
/-! ### data that are the same -/
noncomputable def sameD (a b : PyData) : Bool := @decide (a = b) (Classical.propDecidable _)
theorem sameD_iff {a b : PyData} : sameD a b = true ↔ a = b := by unfold sameD; exact @decide_eq_true_iff _ (Classical.propDecidable _)
theorem sameD_ne {a b : PyData} (h : a ≠ b) : sameD a b = false := by
  cases q : sameD a b with
  | false => rfl
  | true => exact absurd (sameD_iff.mp q) h
theorem sameD_eq {a b : PyData} (h : a = b) : sameD a b = true := sameD_iff.mpr h
theorem sameD_nb {a b : PyData} {c : Bool} (h : a ≠ b) (hc : c = false) : PyData.bool c = PyData.bool (sameD a b) := by rw [sameD_ne h, hc]
theorem sameD_yb {a b : PyData} {c : Bool} (h : a = b) (hc : c = true) : PyData.bool c = PyData.bool (sameD a b) := by rw [sameD_eq h, hc]
def DLt : Nat → PyData → Prop
  | 0, _ => False
  | n + 1, .list ds => ds.length ≤ 1000000 ∧ ∀ x ∈ ds, DLt n x
  | n + 1, .tuple ds => ds.length ≤ 1000000 ∧ ∀ x ∈ ds, DLt n x
  | _ + 1, .dict _ => False
  | _ + 1, _ => True
theorem DLt.mono {m : Nat} : ∀ {n : Nat} {d : PyData}, DLt n d → n ≤ m → DLt m d := by
  induction m with
  | zero =>
    intro n d h hn
    have : n = 0 := by omega
    subst this
    exact h
  | succ m ih =>
    intro n d h hn
    cases n with
    | zero => exact h.elim
    | succ n =>
      cases d with
      | list ds => exact ⟨h.1, fun x hx => ih (h.2 x hx) (by omega)⟩
      | tuple ds => exact ⟨h.1, fun x hx => ih (h.2 x hx) (by omega)⟩
      | dict _ => exact h
      | _ => trivial
theorem fn_none {P : Program} {w : World} {K : PySem.W.Frag} {mg : Str → Option Value} {base : Heap} {CX : CXT} {k : Nat} {f : Addr} {fd : FuncData} {ps : List Str} {sp : Sp} (no : ∀ vs H Q E, ¬ sp vs H Q E) : FnOk P w K mg base CX k f fd ps sp :=
  ⟨fun vs H Q E h => absurd h (no vs H Q E), fun A outer s H args us vs Q E _ _ _ _ h => absurd h (no vs H Q E)⟩
end DL
end
section
set_option Elab.async false
set_option linter.all false
namespace LM
open PySem DL
/-! The trees of the law and of the program, plainly: nodes by their numbers. -/
structure Nd where
  txt : Bool
  name : Str
  marks : Str → Option Str
  kids : List Nat
  up : Option Nat
def d0 : Nd := ⟨false, "", fun _ => none, [], none⟩
def nd (ns : List Nd) (n : Nat) : Nd := ns.getD n d0
theorem nd_get {ns : List Nd} {n : Nat} (h : n < ns.length) : ns[n]? = some (nd ns n) := by
  unfold nd
  rw [List.getD_eq_getElem?_getD, List.getElem?_eq_getElem h]
  rfl
theorem nd_same {ns : List Nd} {n : Nat} {x : Nd} (h : n < ns.length) : nd (ns.set n x) n = x := by
  unfold nd
  rw [List.getD_eq_getElem?_getD, List.getElem?_set_self h]
  rfl
theorem nd_ne {ns : List Nd} {n m : Nat} {x : Nd} (h : m ≠ n) : nd (ns.set n x) m = nd ns m := by
  unfold nd
  rw [List.getD_eq_getElem?_getD, List.getElem?_set_ne (Ne.symm h), ← List.getD_eq_getElem?_getD]
theorem nd_app {ns : List Nd} {m : Nat} {x : Nd} (h : m < ns.length) : nd (ns ++ [x]) m = nd ns m := by
  unfold nd
  rw [List.getD_eq_getElem?_getD, List.getD_eq_getElem?_getD, List.getElem?_append_left h]
theorem nd_last {ns : List Nd} {x : Nd} : nd (ns ++ [x]) ns.length = x := by
  unfold nd
  rw [List.getD_eq_getElem?_getD, List.getElem?_append_right (Nat.le_refl _)]
  simp
def upD : Option Nat → PyData
  | none => .none
  | some p => .int (p : Int)
def ofN (n : Nat) : PyData := .int (n : Int)
def natsD (l : List Nat) : PyData := .list (l.map ofN)
def KS : List Str := ["k", "m", "z"]
def marksD (f : Str → Option Str) : PyData := .tuple ((KS.filterMap fun k => (f k).map fun v => (k, v)).map fun p => .tuple [.str p.1, .str p.2])
def shapeF : Nat → List Nd → Nat → PyData
  | 0, _, _ => .none
  | j + 1, ns, n => if (nd ns n).txt then .tuple [.str "t", ofN n, .str (nd ns n).name]
    else .tuple [.str "e", ofN n, .str (nd ns n).name, marksD (nd ns n).marks, .tuple ((nd ns n).kids.map (shapeF j ns))]
/-- the way from a node to its root -/
inductive Ch (ns : List Nd) : Nat → List Nat → Prop
  | top {n : Nat} : (nd ns n).up = none → Ch ns n [n]
  | step {n p : Nat} {l : List Nat} : (nd ns n).up = some p → Ch ns p l → Ch ns n (n :: l)
section
variable {ns ns' : List Nd} {n m p : Nat} {l l' : List Nat}
theorem Ch.uniq (h : Ch ns n l) : ∀ {l'}, Ch ns n l' → l = l' := by
  induction h with
  | top h =>
    intro l' h'
    cases h' with
    | top _ => rfl
    | step h2 _ => rw [h] at h2; cases h2
  | step h _ ih =>
    intro l' h'
    cases h' with
    | top h2 => rw [h] at h2; cases h2
    | step h2 c =>
      rw [h] at h2
      cases h2
      rw [ih c]
theorem Ch.self (h : Ch ns n l) : n ∈ l := by cases h <;> exact List.mem_cons_self
theorem Ch.pos (h : Ch ns n l) : 0 < l.length := by cases h <;> exact Nat.succ_pos _
theorem Ch.sub (h : Ch ns n l) : m ∈ l → ∃ l', Ch ns m l' ∧ l'.length ≤ l.length ∧ ∀ x, x ∈ l' → x ∈ l := by
  induction h with
  | top h =>
    intro hm
    rw [List.mem_singleton] at hm
    subst hm
    exact ⟨_, .top h, Nat.le_refl _, fun _ h => h⟩
  | step h c ih =>
    intro hm
    rcases List.mem_cons.mp hm with e | hm
    · subst e
      exact ⟨_, .step h c, Nat.le_refl _, fun _ h => h⟩
    · obtain ⟨l', a, b, d⟩ := ih hm
      exact ⟨l', a, Nat.le_succ_of_le b, fun x hx => List.mem_cons_of_mem _ (d x hx)⟩
theorem Ch.nodup (h : Ch ns n l) : l.Nodup := by
  induction h with
  | top h => simp
  | @step n p l h c ih =>
    refine List.nodup_cons.mpr ⟨fun hn => ?_, ih⟩
    obtain ⟨l', a, b, _⟩ := c.sub hn
    have e := a.uniq (.step h c)
    rw [e] at b
    simp at b
    omega
theorem Ch.congr (h : Ch ns n l) : (∀ m, m ∈ l → (nd ns' m).up = (nd ns m).up) → Ch ns' n l := by
  induction h with
  | top h => intro e; exact .top ((e _ List.mem_cons_self).trans h)
  | step h c ih => intro e; exact .step ((e _ List.mem_cons_self).trans h) (ih fun m hm => e m (List.mem_cons_of_mem _ hm))
end
theorem nodup_le : ∀ (N : Nat) (l : List Nat), l.Nodup → (∀ x, x ∈ l → x < N) → l.length ≤ N
  | 0, l, _, h => by
    cases l with
    | nil => exact Nat.le_refl _
    | cons x l => exact absurd (h x List.mem_cons_self) (Nat.not_lt_zero _)
  | N + 1, l, d, h => by
    by_cases hN : N ∈ l
    · have e := nodup_le N (l.erase N) (d.erase N) fun x hx => by
        have := (List.Nodup.mem_erase_iff d).mp hx
        have := h x this.2
        omega
      rw [List.length_erase_of_mem hN] at e
      omega
    · have e := nodup_le N l d fun x hx => by
        have := h x hx
        have : x ≠ N := fun z => hN (z ▸ hx)
        omega
      omega
structure Ok (ns : List Nd) : Prop where
  len : ns.length ≤ 60
  pos : 0 < ns.length
  top : (nd ns 0).up = none
  top2 : (nd ns 0).txt = false
  upk : ∀ n p, n < ns.length → (nd ns n).up = some p → p < ns.length ∧ n ∈ (nd ns p).kids
  kup : ∀ p k, p < ns.length → k ∈ (nd ns p).kids → k < ns.length ∧ (nd ns k).up = some p
  nod : ∀ p, p < ns.length → (nd ns p).kids.Nodup
  ch : ∀ n, n < ns.length → ∃ l, Ch ns n l
  mks : ∀ n, n < ns.length → ∀ k, k ∉ KS → (nd ns n).marks k = none
  tx : ∀ n, n < ns.length → (nd ns n).txt = true → (nd ns n).kids = []
section
variable {ns ns' : List Nd} {n m p : Nat} {l l' : List Nat}
theorem Ch.lt (o : Ok ns) (h : Ch ns n l) : n < ns.length → ∀ x, x ∈ l → x < ns.length := by
  induction h with
  | top h =>
    intro hn x hx
    rw [List.mem_singleton] at hx
    exact hx ▸ hn
  | step h c ih =>
    intro hn x hx
    rcases List.mem_cons.mp hx with e | hx
    · exact e ▸ hn
    · exact ih (o.upk _ _ hn h).1 x hx
theorem Ch.len (o : Ok ns) (h : Ch ns n l) (hn : n < ns.length) : l.length ≤ ns.length := nodup_le _ _ h.nodup (h.lt o hn)
theorem Ok.kidLe (o : Ok ns) (hp : p < ns.length) : (nd ns p).kids.length ≤ ns.length := nodup_le _ _ (o.nod p hp) fun x hx => (o.kup p x hp hx).1
/-- heights -/
def Ht (ns : List Nd) : Nat → Nat → Prop
  | 0, _ => False
  | j + 1, n => n < ns.length ∧ ∀ c, c ∈ (nd ns n).kids → Ht ns j c
theorem Ht.mono : ∀ {i j n : Nat}, Ht ns i n → i ≤ j → Ht ns j n
  | 0, _, _, h, _ => h.elim
  | i + 1, 0, _, _, e => by omega
  | i + 1, j + 1, n, h, e => ⟨h.1, fun c hc => Ht.mono (h.2 c hc) (by omega)⟩
theorem Ht.lt : ∀ {j n : Nat}, Ht ns j n → n < ns.length
  | 0, _, h => h.elim
  | _ + 1, _, h => h.1
theorem Ok.ht_at (o : Ok ns) : ∀ (j n : Nat) (l : List Nat), n < ns.length → Ch ns n l → l.length + j = 61 → Ht ns j n
  | 0, n, l, hn, c, e => by
    have := c.len o hn
    have := o.len
    omega
  | j + 1, n, l, hn, c, e => ⟨hn, fun k hk => by
    obtain ⟨a, b⟩ := o.kup n k hn hk
    exact Ok.ht_at o j k (k :: l) a (.step b c) (by rw [List.length_cons]; omega)⟩
theorem Ok.ht (o : Ok ns) (hn : n < ns.length) : Ht ns 60 n := by
  obtain ⟨l, c⟩ := o.ch n hn
  have h1 := c.pos
  have h2 := c.len o hn
  have h3 := o.len
  exact (o.ht_at (61 - l.length) n l hn c (by omega)).mono (by omega)
theorem shapeF_mono : ∀ {i j n : Nat}, Ht ns i n → i ≤ j → shapeF j ns n = shapeF i ns n
  | 0, _, _, h, _ => h.elim
  | i + 1, 0, _, _, e => by omega
  | i + 1, j + 1, n, h, e => by
    unfold shapeF
    have z : (nd ns n).kids.map (shapeF j ns) = (nd ns n).kids.map (shapeF i ns) := List.map_congr_left fun c hc => shapeF_mono (h.2 c hc) (by omega)
    rw [z]
def shape (ns : List Nd) (n : Nat) : PyData := shapeF 60 ns n
theorem Ok.shape (o : Ok ns) {j : Nat} (h : Ht ns j n) (hj : j ≤ 60) : shapeF j ns n = shape ns n := (shapeF_mono h hj).symm
theorem shape_congr (o : Ok ns) (same : ∀ m l, m < ns.length → Ch ns m l → n ∈ l → (nd ns' m).txt = (nd ns m).txt ∧ (nd ns' m).name = (nd ns m).name ∧ (nd ns' m).marks = (nd ns m).marks ∧ (nd ns' m).kids = (nd ns m).kids) :
    ∀ (j m : Nat) (l : List Nat), m < ns.length → Ch ns m l → n ∈ l → shapeF j ns' m = shapeF j ns m
  | 0, _, _, _, _, _ => rfl
  | j + 1, m, l, hm, c, hn => by
    obtain ⟨a, b, d, e⟩ := same m l hm c hn
    unfold shapeF
    rw [a, b, d, e]
    have z : (nd ns m).kids.map (shapeF j ns') = (nd ns m).kids.map (shapeF j ns) := List.map_congr_left fun k hk => by
      obtain ⟨h1, h2⟩ := o.kup m k hm hk
      exact shape_congr o same j k (k :: l) h1 (.step h2 c) (List.mem_cons_of_mem _ hn)
    rw [z]
/-- the way up, as numbers -/
def chainF : Nat → List Nd → Nat → List Nat
  | 0, _, n => [n]
  | j + 1, ns, n => n :: match (nd ns n).up with
    | none => []
    | some p => chainF j ns p
theorem Ch.chainF (h : Ch ns n l) : ∀ j, l.length ≤ j + 1 → chainF j ns n = l := by
  induction h with
  | top h =>
    intro j _
    cases j with
    | zero => rfl
    | succ j => unfold LM.chainF; rw [h]
  | step h c ih =>
    intro j hj
    cases j with
    | zero =>
      have := c.pos
      rw [List.length_cons] at hj
      omega
    | succ j =>
      unfold LM.chainF
      rw [h]
      show _ :: LM.chainF j ns _ = _
      rw [ih j (by rw [List.length_cons] at hj; omega)]
def above (ns : List Nd) (n : Nat) : List Nat := chainF 60 ns n
theorem Ok.above (o : Ok ns) (hn : n < ns.length) : Ch ns n (above ns n) := by
  obtain ⟨l, c⟩ := o.ch n hn
  have h := c.len o hn
  have := o.len
  have e := c.chainF 60 (by omega)
  unfold LM.above
  rw [e]
  exact c
end
end LM
end
section
set_option Elab.async false
set_option linter.all false
namespace LM
open PySem DL
/-! ### what the edits do -/
def setKids (ns : List Nd) (p : Nat) (ks : List Nat) : List Nd := ns.set p { nd ns p with kids := ks }
def setUp (ns : List Nd) (n : Nat) (u : Option Nat) : List Nd := ns.set n { nd ns n with up := u }
def setMarks (ns : List Nd) (n : Nat) (f : Str → Option Str) : List Nd := ns.set n { nd ns n with marks := f }
def setName (ns : List Nd) (n : Nat) (s : Str) : List Nd := ns.set n { nd ns n with name := s }
def mkNd (t : Bool) (s : Str) : Nd := ⟨t, s, fun _ => none, [], none⟩
def outN (ns : List Nd) (p n : Nat) : List Nd := setUp (setKids ns p ((nd ns p).kids.filter fun k => !decide (k = n))) n none
def insAt (ks : List Nat) (at_ n : Nat) : List Nat := ks.take at_ ++ [n] ++ ks.drop at_
def insN (ns : List Nd) (p n at_ : Nat) : List Nd := setUp (setKids ns p (insAt (nd ns p).kids at_ n)) n (some p)
def setM (f : Str → Option Str) (k : Str) (v : Option Str) : Str → Option Str := fun x => if x = k then v else f x
section
variable {ns : List Nd} {n m p a : Nat} {ks : List Nat} {u : Option Nat}
theorem len_setKids : (setKids ns p ks).length = ns.length := by simp [setKids]
theorem len_setUp : (setUp ns p u).length = ns.length := by simp [setUp]
theorem len_outN : (outN ns p n).length = ns.length := by simp [outN, len_setUp, len_setKids]
theorem len_insN : (insN ns p n a).length = ns.length := by simp [insN, len_setUp, len_setKids]
theorem kids_at (hp : p < ns.length) (m : Nat) : (nd (setUp (setKids ns p ks) n u) m).kids = if m = p then ks else (nd ns m).kids := by
  have h2 : p < (setKids ns p ks).length := by rw [len_setKids]; exact hp
  have h1 : (nd (setKids ns p ks) m).kids = if m = p then ks else (nd ns m).kids := by
    by_cases h : m = p
    · subst h
      rw [if_pos rfl]
      unfold setKids
      rw [nd_same hp]
    · rw [if_neg h]
      unfold setKids
      rw [nd_ne h]
  rw [← h1]
  unfold setUp
  by_cases h : m = n
  · subst h
    by_cases hm : m < (setKids ns p ks).length
    · rw [nd_same hm]
    · rw [List.set_eq_of_length_le (by omega)]
  · rw [nd_ne h]
theorem up_at (hn : n < ns.length) (m : Nat) : (nd (setUp (setKids ns p ks) n u) m).up = if m = n then u else (nd ns m).up := by
  have h2 : n < (setKids ns p ks).length := by rw [len_setKids]; exact hn
  unfold setUp
  by_cases h : m = n
  · subst h
    rw [nd_same h2, if_pos rfl]
  · rw [nd_ne h, if_neg h]
    unfold setKids
    by_cases hp : m = p
    · subst hp
      by_cases hm : m < ns.length
      · rw [nd_same hm]
      · rw [List.set_eq_of_length_le (by omega)]
    · rw [nd_ne hp]
theorem rest_at (m : Nat) : (nd (setUp (setKids ns p ks) n u) m).txt = (nd ns m).txt ∧ (nd (setUp (setKids ns p ks) n u) m).name = (nd ns m).name ∧ (nd (setUp (setKids ns p ks) n u) m).marks = (nd ns m).marks := by
  have h1 : (nd (setKids ns p ks) m).txt = (nd ns m).txt ∧ (nd (setKids ns p ks) m).name = (nd ns m).name ∧ (nd (setKids ns p ks) m).marks = (nd ns m).marks := by
    unfold setKids
    by_cases hp : m = p
    · subst hp
      by_cases hm : m < ns.length
      · rw [nd_same hm]; exact ⟨rfl, rfl, rfl⟩
      · rw [List.set_eq_of_length_le (by omega)]; exact ⟨rfl, rfl, rfl⟩
    · rw [nd_ne hp]; exact ⟨rfl, rfl, rfl⟩
  unfold setUp
  by_cases hp : m = n
  · subst hp
    by_cases hm : m < (setKids ns p ks).length
    · rw [nd_same hm]; exact h1
    · rw [List.set_eq_of_length_le (by omega)]; exact h1
  · rw [nd_ne hp]; exact h1
end
section
variable {ns : List Nd} {n m p a : Nat}
theorem Ok.ne_up (o : Ok ns) (hn : n < ns.length) (h : (nd ns n).up = some p) : p ≠ n := by
  rintro rfl
  obtain ⟨l, c⟩ := o.ch p hn
  cases c with
  | top z => rw [h] at z; cases z
  | step z c =>
    rw [h] at z
    cases z
    have e := c.uniq (.step h c)
    have e2 := congrArg List.length e
    simp at e2
theorem Ch.cut {l : List Nat} (hn : n < ns.length) (hp : p < ns.length) (ks : List Nat) (h : Ch ns m l) : ∃ l', Ch (setUp (setKids ns p ks) n none) m l' ∧ (n ∉ l → l' = l) := by
  induction h with
  | @top m h =>
    refine ⟨[m], .top ?_, fun _ => rfl⟩
    rw [up_at hn, h]
    split <;> rfl
  | @step m q l h c ih =>
    by_cases e : m = n
    · subst e
      exact ⟨[m], .top (by rw [up_at hn, if_pos rfl]), fun z => absurd List.mem_cons_self z⟩
    · obtain ⟨l', c', k⟩ := ih
      exact ⟨m :: l', .step (by rw [up_at hn, if_neg e]; exact h) c', fun z => by rw [k fun y => z (List.mem_cons_of_mem _ y)]⟩
theorem Ok.out (o : Ok ns) (hn : n < ns.length) (h : (nd ns n).up = some p) : Ok (outN ns p n) := by
  obtain ⟨hp, hk⟩ := o.upk n p hn h
  have hl : (outN ns p n).length = ns.length := len_outN
  have hK : ∀ m, (nd (outN ns p n) m).kids = if m = p then (nd ns p).kids.filter (fun k => !decide (k = n)) else (nd ns m).kids := fun m => kids_at hp m
  have hU : ∀ m, (nd (outN ns p n) m).up = if m = n then none else (nd ns m).up := fun m => up_at hn m
  have hR : ∀ m, (nd (outN ns p n) m).txt = (nd ns m).txt ∧ (nd (outN ns p n) m).name = (nd ns m).name ∧ (nd (outN ns p n) m).marks = (nd ns m).marks := fun m => rest_at m
  refine ⟨by rw [hl]; exact o.len, by rw [hl]; exact o.pos, ?_, by rw [(hR 0).1]; exact o.top2, ?_, ?_, ?_, ?_, ?_, ?_⟩
  · rw [hU]
    split
    · rfl
    · exact o.top
  · intro m q hm e
    rw [hl] at hm ⊢
    rw [hU] at e
    by_cases z : m = n
    · rw [if_pos z] at e; cases e
    · rw [if_neg z] at e
      obtain ⟨h1, h2⟩ := o.upk m q hm e
      refine ⟨h1, ?_⟩
      rw [hK]
      by_cases y : q = p
      · rw [if_pos y]
        subst y
        exact List.mem_filter.mpr ⟨h2, by simp [z]⟩
      · rw [if_neg y]; exact h2
  · intro q k hq hk'
    rw [hl] at hq ⊢
    rw [hK] at hk'
    rw [hU]
    by_cases y : q = p
    · rw [if_pos y] at hk'
      obtain ⟨h1, h2⟩ := List.mem_filter.mp hk'
      have h3 : k ≠ n := by simpa using h2
      rw [if_neg h3]
      subst y
      exact o.kup q k hp h1
    · rw [if_neg y] at hk'
      obtain ⟨h1, h2⟩ := o.kup q k hq hk'
      have h3 : k ≠ n := fun z => by
        subst z
        rw [h] at h2
        exact y (Option.some.inj h2).symm
      rw [if_neg h3]
      exact ⟨h1, h2⟩
  · intro q hq
    rw [hl] at hq
    rw [hK]
    split
    · exact (o.nod p hp).filter _
    · exact o.nod q hq
  · intro m hm
    rw [hl] at hm
    obtain ⟨l, c⟩ := o.ch m hm
    obtain ⟨l', c', _⟩ := c.cut hn hp ((nd ns p).kids.filter fun k => !decide (k = n))
    exact ⟨l', c'⟩
  · intro m hm k hk
    rw [hl] at hm
    rw [(hR m).2.2]
    exact o.mks m hm k hk
  · intro m hm ht
    rw [hl] at hm
    rw [(hR m).1] at ht
    have z := o.tx m hm ht
    rw [hK]
    by_cases y : m = p
    · rw [if_pos y]
      subst y
      rw [z]; rfl
    · rw [if_neg y]; exact z
theorem insAt_mem {ks : List Nat} {a n x : Nat} : x ∈ insAt ks a n ↔ x = n ∨ x ∈ ks := by
  unfold insAt
  have e : x ∈ ks ↔ x ∈ ks.take a ∨ x ∈ ks.drop a := by
    conv => lhs; rw [← List.take_append_drop a ks]
    exact List.mem_append
  rw [List.mem_append, List.mem_append, List.mem_singleton, e]
  constructor
  · rintro ((h | h) | h)
    · exact .inr (.inl h)
    · exact .inl h
    · exact .inr (.inr h)
  · rintro (h | h | h)
    · exact .inl (.inr h)
    · exact .inl (.inl h)
    · exact .inr h
theorem insAt_nodup {ks : List Nat} {a n : Nat} (h : ks.Nodup) (hn : n ∉ ks) : (insAt ks a n).Nodup := by
  have e : (insAt ks a n).Perm (n :: ks) := by
    unfold insAt
    rw [List.append_assoc]
    refine (List.perm_middle (l₁ := ks.take a) (l₂ := ks.drop a) (a := n)).trans ?_
    rw [List.take_append_drop]
  exact e.nodup_iff.mpr (List.nodup_cons.mpr ⟨hn, h⟩)
theorem Ch.ins {l lp : List Nat} (hn : n < ns.length) (hr : (nd ns n).up = none) (ks : List Nat) (cp : Ch ns p lp) (hnp : n ∉ lp) (h : Ch ns m l) : ∃ l', Ch (setUp (setKids ns p ks) n (some p)) m l' ∧ (n ∉ l → l' = l) := by
  have cp' : Ch (setUp (setKids ns p ks) n (some p)) p lp := cp.congr fun x hx => by
    rw [up_at hn, if_neg (fun (z : x = n) => hnp (z ▸ hx))]
  induction h with
  | @top m h =>
    by_cases e : m = n
    · subst e
      exact ⟨m :: lp, .step (by rw [up_at hn, if_pos rfl]) cp', fun z => absurd List.mem_cons_self z⟩
    · exact ⟨[m], .top (by rw [up_at hn, if_neg e]; exact h), fun _ => rfl⟩
  | @step m q l h c ih =>
    by_cases e : m = n
    · subst e
      rw [hr] at h
      cases h
    · obtain ⟨l', c', k⟩ := ih
      exact ⟨m :: l', .step (by rw [up_at hn, if_neg e]; exact h) c', fun z => by rw [k fun y => z (List.mem_cons_of_mem _ y)]⟩
theorem Ok.ins (o : Ok ns) (hn : n < ns.length) (hp : p < ns.length) (hr : (nd ns n).up = none) (h0 : n ≠ 0) (ht : (nd ns p).txt = false) (hna : n ∉ LM.above ns p) : Ok (insN ns p n a) := by
  have cp := o.above hp
  have hnp : p ≠ n := fun z => hna (z ▸ cp.self)
  have hnk : n ∉ (nd ns p).kids := fun z => by
    have := (o.kup p n hp z).2
    rw [hr] at this
    cases this
  have hl : (insN ns p n a).length = ns.length := len_insN
  have hK : ∀ m, (nd (insN ns p n a) m).kids = if m = p then insAt (nd ns p).kids a n else (nd ns m).kids := fun m => kids_at hp m
  have hU : ∀ m, (nd (insN ns p n a) m).up = if m = n then some p else (nd ns m).up := fun m => up_at hn m
  have hR : ∀ m, (nd (insN ns p n a) m).txt = (nd ns m).txt ∧ (nd (insN ns p n a) m).name = (nd ns m).name ∧ (nd (insN ns p n a) m).marks = (nd ns m).marks := fun m => rest_at m
  refine ⟨by rw [hl]; exact o.len, by rw [hl]; exact o.pos, ?_, by rw [(hR 0).1]; exact o.top2, ?_, ?_, ?_, ?_, ?_, ?_⟩
  · rw [hU, if_neg (Ne.symm h0)]
    exact o.top
  · intro m q hm e
    rw [hl] at hm ⊢
    rw [hU] at e
    by_cases z : m = n
    · rw [if_pos z] at e
      cases e
      refine ⟨hp, ?_⟩
      rw [hK, if_pos rfl]
      exact insAt_mem.mpr (.inl z)
    · rw [if_neg z] at e
      obtain ⟨h1, h2⟩ := o.upk m q hm e
      refine ⟨h1, ?_⟩
      rw [hK]
      by_cases y : q = p
      · rw [if_pos y]
        subst y
        exact insAt_mem.mpr (.inr h2)
      · rw [if_neg y]; exact h2
  · intro q k hq hk'
    rw [hl] at hq ⊢
    rw [hK] at hk'
    rw [hU]
    by_cases y : q = p
    · rw [if_pos y] at hk'
      subst y
      rcases insAt_mem.mp hk' with h1 | h1
      · rw [if_pos h1]
        exact ⟨h1 ▸ hn, rfl⟩
      · rw [if_neg (fun (z : k = n) => hnk (z ▸ h1))]
        exact o.kup q k hp h1
    · rw [if_neg y] at hk'
      obtain ⟨h1, h2⟩ := o.kup q k hq hk'
      have h3 : k ≠ n := fun z => by
        subst z
        rw [hr] at h2
        cases h2
      rw [if_neg h3]
      exact ⟨h1, h2⟩
  · intro q hq
    rw [hl] at hq
    rw [hK]
    split
    · exact insAt_nodup (o.nod p hp) hnk
    · exact o.nod q hq
  · intro m hm
    rw [hl] at hm
    obtain ⟨l, c⟩ := o.ch m hm
    obtain ⟨l', c', _⟩ := Ch.ins hn hr (insAt (nd ns p).kids a n) cp hna c
    exact ⟨l', c'⟩
  · intro m hm k hk
    rw [hl] at hm
    rw [(hR m).2.2]
    exact o.mks m hm k hk
  · intro m hm ht'
    rw [hl] at hm
    rw [(hR m).1] at ht'
    have z := o.tx m hm ht'
    have y : m ≠ p := fun y => by subst y; rw [ht] at ht'; cases ht'
    rw [hK, if_neg y]
    exact z
theorem Ok.make (o : Ok ns) (h : ns.length < 60) (t : Bool) (s : Str) : Ok (ns ++ [mkNd t s]) := by
  have hl : (ns ++ [mkNd t s]).length = ns.length + 1 := by simp
  have hc : ∀ {m}, m < (ns ++ [mkNd t s]).length → m < ns.length ∨ m = ns.length := fun hm => by rw [hl] at hm; omega
  have hA : ∀ {m}, m < ns.length → nd (ns ++ [mkNd t s]) m = nd ns m := fun hm => nd_app hm
  have hB : nd (ns ++ [mkNd t s]) ns.length = mkNd t s := nd_last
  refine ⟨by rw [hl]; omega, by rw [hl]; omega, by rw [hA o.pos]; exact o.top, by rw [hA o.pos]; exact o.top2, ?_, ?_, ?_, ?_, ?_, ?_⟩
  · intro m q hm e
    rcases hc hm with z | z
    · rw [hA z] at e
      obtain ⟨h1, h2⟩ := o.upk m q z e
      rw [hl, hA h1]
      exact ⟨by omega, h2⟩
    · subst z
      rw [hB] at e
      cases e
  · intro q k hq hk
    rcases hc hq with z | z
    · rw [hA z] at hk
      obtain ⟨h1, h2⟩ := o.kup q k z hk
      rw [hl, hA h1]
      exact ⟨by omega, h2⟩
    · subst z
      rw [hB] at hk
      cases hk
  · intro q hq
    rcases hc hq with z | z
    · rw [hA z]; exact o.nod q z
    · subst z; rw [hB]; exact List.nodup_nil
  · intro m hm
    rcases hc hm with z | z
    · obtain ⟨l, c⟩ := o.ch m z
      exact ⟨l, c.congr fun x hx => by rw [hA (c.lt o z x hx)]⟩
    · subst z
      exact ⟨_, .top (by rw [hB]; rfl)⟩
  · intro m hm k hk
    rcases hc hm with z | z
    · rw [hA z]; exact o.mks m z k hk
    · subst z; rw [hB]; rfl
  · intro m hm ht
    rcases hc hm with z | z
    · rw [hA z] at ht ⊢; exact o.tx m z ht
    · subst z; rw [hB]; rfl
/-- what leaves the tree alone -/
theorem Ok.same {ns' : List Nd} (o : Ok ns) (hl : ns'.length = ns.length) (h : ∀ m, (nd ns' m).txt = (nd ns m).txt ∧ (nd ns' m).kids = (nd ns m).kids ∧ (nd ns' m).up = (nd ns m).up) (hm : ∀ n, n < ns.length → ∀ k, k ∉ KS → (nd ns' n).marks k = none) : Ok ns' := by
  refine ⟨by rw [hl]; exact o.len, by rw [hl]; exact o.pos, by rw [(h 0).2.2]; exact o.top, by rw [(h 0).1]; exact o.top2, fun m q hq e => ?_, fun q k hq hk => ?_, fun q hq => ?_, fun m hm => ?_, fun m hm' k hk => ?_, fun m hm ht => ?_⟩
  · rw [hl] at hq ⊢
    rw [(h m).2.2] at e
    rw [(h q).2.1]
    exact o.upk m q hq e
  · rw [hl] at hq ⊢
    rw [(h q).2.1] at hk
    rw [(h k).2.2]
    exact o.kup q k hq hk
  · rw [hl] at hq
    rw [(h q).2.1]
    exact o.nod q hq
  · rw [hl] at hm
    obtain ⟨l, c⟩ := o.ch m hm
    exact ⟨l, c.congr fun x _ => (h x).2.2⟩
  · rw [hl] at hm'
    exact hm m hm' k hk
  · rw [hl] at hm
    rw [(h m).1] at ht
    rw [(h m).2.1]
    exact o.tx m hm ht
theorem Ok.mark (o : Ok ns) (f : Str → Option Str) (hf : ∀ k, k ∉ KS → f k = none) : Ok (setMarks ns n f) := by
  refine o.same (by simp [setMarks]) (fun m => ?_) fun m hm k hk => ?_
  · unfold setMarks
    by_cases e : m = n
    · subst e
      by_cases hm : m < ns.length
      · rw [nd_same hm]; exact ⟨rfl, rfl, rfl⟩
      · rw [List.set_eq_of_length_le (by omega)]; exact ⟨rfl, rfl, rfl⟩
    · rw [nd_ne e]; exact ⟨rfl, rfl, rfl⟩
  · unfold setMarks
    by_cases e : m = n
    · subst e
      rw [nd_same hm]; exact hf k hk
    · rw [nd_ne e]; exact o.mks m hm k hk
theorem Ok.write (o : Ok ns) (s : Str) : Ok (setName ns n s) := by
  refine o.same (by simp [setName]) (fun m => ?_) fun m hm k hk => ?_
  · unfold setName
    by_cases e : m = n
    · subst e
      by_cases hm : m < ns.length
      · rw [nd_same hm]; exact ⟨rfl, rfl, rfl⟩
      · rw [List.set_eq_of_length_le (by omega)]; exact ⟨rfl, rfl, rfl⟩
    · rw [nd_ne e]; exact ⟨rfl, rfl, rfl⟩
  · unfold setName
    by_cases e : m = n
    · subst e
      rw [nd_same hm]; exact o.mks m hm k hk
    · rw [nd_ne e]; exact o.mks m hm k hk
end
end LM
end
section
set_option Elab.async false
set_option linter.all false
namespace LM
open PySem DL
structure Wm where
  ns : List Nd
  told : List PyData
  downs : List PyData
inductive Deed
  | element (s : Str)
  | text (s : Str)
  | insert (p n : Nat) (b : Option Nat)
  | remove (n : Nat)
  | mark (n : Nat) (k v : Str)
  | unmark (n : Nat) (k : Str)
  | write (n : Nat) (t : Str)
def strO : Option Str → PyData
  | none => .none
  | some s => .str s
def deedD : Deed → PyData
  | .element s => .tuple [.str "element", .str s]
  | .text s => .tuple [.str "text", .str s]
  | .insert p n b => .tuple [.str "insert", ofN p, ofN n, upD b]
  | .remove n => .tuple [.str "remove", ofN n]
  | .mark n k v => .tuple [.str "mark", ofN n, .str k, .str v]
  | .unmark n k => .tuple [.str "unmark", ofN n, .str k]
  | .write n t => .tuple [.str "write", ofN n, .str t]
def belowF : Nat → List Nd → Nat → List Nat
  | 0, _, _ => []
  | j + 1, ns, n => n :: (nd ns n).kids.flatMap (belowF j ns)
def below (ns : List Nd) (n : Nat) : List Nat := belowF 60 ns n
def aboveD (ns : List Nd) (n : Nat) : PyData := .tuple ((above ns n).map ofN)
def belowO (ns : List Nd) : Option Nat → PyData
  | none => .list []
  | some b => natsD (below ns b)
def tell (w : Wm) (r : PyData) (n : Nat) (b : Option Nat) : Wm := { w with told := w.told ++ [.tuple [r, aboveD w.ns n]], downs := w.downs ++ [belowO w.ns b] }
def recOut (p n : Nat) : PyData := .tuple [.str "out", ofN p, ofN n]
def recPut (p : Nat) (s : PyData) (b : Option Nat) : PyData := .tuple [.str "put", ofN p, s, upD b]
def recMark (n : Nat) (k : Str) (v : Option Str) : PyData := .tuple [.str "mark", ofN n, .str k, strO v]
def recText (n : Nat) (t : Str) : PyData := .tuple [.str "text", ofN n, .str t]
def makeA (w : Wm) (t : Bool) (s : Str) : Wm × PyData := if 60 ≤ w.ns.length then (w, .str "full") else ({ w with ns := w.ns ++ [mkNd t s] }, ofN w.ns.length)
def outA (w : Wm) (n : Nat) : Wm := match (nd w.ns n).up with
  | none => w
  | some p => { tell w (recOut p n) p (some n) with ns := outN w.ns p n }
def nextA (ns : List Nd) (p n : Nat) : Option Nat := (nd ns p).kids[(nd ns p).kids.idxOf n + 1]?
def atA (ns : List Nd) (p : Nat) : Option Nat → Nat
  | none => (nd ns p).kids.length
  | some b => (nd ns p).kids.idxOf b
def badB (ns : List Nd) (p n : Nat) : Option Nat → Bool
  | none => false
  | some b => decide (b = n) || !decide ((nd ns b).up = some p)
def isAt (ns : List Nd) (p n : Nat) (b : Option Nat) : Bool := decide ((nd ns n).up = some p) && decide (nextA ns p n = b)
def insA (w : Wm) (p n : Nat) (b : Option Nat) : Wm :=
  let w1 := outA w n
  { tell w1 (recPut p (shape w1.ns n) b) p none with ns := insN w1.ns p n (atA w1.ns p b) }
def putA (w : Wm) (p n : Nat) (b : Option Nat) : Wm × PyData :=
  if (nd w.ns p).txt then (w, .str "not an element")
  else if n = 0 then (w, .str "top")
  else if n ∈ above w.ns p then (w, .str "inside itself")
  else if badB w.ns p n b then (w, .str "not a child")
  else if isAt w.ns p n b then (w, .none)
  else (insA w p n b, .none)
def markA (w : Wm) (n : Nat) (k : Str) (v : Option Str) : Wm × PyData :=
  if (nd w.ns n).txt then (w, .str "not an element")
  else if (nd w.ns n).marks k = v then (w, .none)
  else ({ tell w (recMark n k v) n none with ns := setMarks w.ns n (setM (nd w.ns n).marks k v) }, .none)
def writeA (w : Wm) (n : Nat) (t : Str) : Wm × PyData :=
  if (nd w.ns n).txt = false then (w, .str "not a text")
  else if (nd w.ns n).name = t then (w, .none)
  else ({ tell w (recText n t) n none with ns := setName w.ns n t }, .none)
def removeA (w : Wm) (n : Nat) : Wm × PyData := if (nd w.ns n).up = none then (w, .str "no parent") else (outA w n, .none)
def miss (N : Nat) : List (Option Nat) → Option Nat
  | [] => none
  | none :: r => miss N r
  | some n :: r => if n < N then miss N r else some n
def orMiss (w : Wm) (l : List (Option Nat)) (r : Wm × PyData) : Wm × PyData := match miss w.ns.length l with
  | some m => (w, .tuple [.str "no", ofN m])
  | none => r
def doA (w : Wm) : Deed → Wm × PyData
  | .element s => makeA w false s
  | .text s => makeA w true s
  | .insert p n b => orMiss w [some p, some n, b] (putA w p n b)
  | .remove n => orMiss w [some n] (removeA w n)
  | .mark n k v => orMiss w [some n] (markA w n k (some v))
  | .unmark n k => orMiss w [some n] (markA w n k none)
  | .write n t => orMiss w [some n] (writeA w n t)
def deedOk : Deed → Prop
  | .mark _ k _ => k ∈ KS
  | .unmark _ k => k ∈ KS
  | _ => True
section
variable {w : Wm} {ns : List Nd} {n m p a : Nat}
theorem Ok.upNot (o : Ok ns) (hn : n < ns.length) (h : (nd ns n).up = some p) : n ∉ LM.above ns p := by
  obtain ⟨hp, _⟩ := o.upk n p hn h
  have c := o.above hp
  have d := (Ch.step h c).nodup
  exact (List.nodup_cons.mp d).1
theorem out_above (o : Ok ns) (hn : n < ns.length) (h : (nd ns n).up = some p) : above (outN ns p n) p = above ns p := by
  obtain ⟨hp, _⟩ := o.upk n p hn h
  have o2 := o.out hn h
  have c2 := o2.above (n := p) (by rw [len_outN]; exact hp)
  have c := o.above hp
  obtain ⟨l', c', e⟩ := c.cut hn hp ((nd ns p).kids.filter fun k => !decide (k = n))
  rw [e (o.upNot hn h)] at c'
  exact c2.uniq c'
theorem out_up (hn : n < ns.length) : (nd (outN ns p n) n).up = none := by
  unfold outN
  rw [up_at hn, if_pos rfl]
theorem ins_above (o : Ok ns) (hn : n < ns.length) (hp : p < ns.length) (hr : (nd ns n).up = none) (h0 : n ≠ 0) (ht : (nd ns p).txt = false) (hna : n ∉ above ns p) : above (insN ns p n a) p = above ns p := by
  have o2 := o.ins (a := a) hn hp hr h0 ht hna
  have c2 := o2.above (n := p) (by rw [len_insN]; exact hp)
  have c := o.above hp
  obtain ⟨l', c', e⟩ := Ch.ins hn hr (insAt (nd ns p).kids a n) c hna c
  rw [e hna] at c'
  exact c2.uniq c'
theorem ins_shape (o : Ok ns) (hn : n < ns.length) (hp : p < ns.length) (hr : (nd ns n).up = none) (h0 : n ≠ 0) (hna : n ∉ above ns p) : shape (insN ns p n a) n = shape ns n := by
  refine shape_congr (n := n) o (fun m l hm c hn' => ?_) 60 n _ hn (.top hr) List.mem_cons_self
  unfold insN
  obtain ⟨h1, h2, h3⟩ := rest_at (ns := ns) (p := p) (ks := insAt (nd ns p).kids a n) (n := n) (u := some p) m
  refine ⟨h1, h2, h3, ?_⟩
  rw [kids_at hp, if_neg]
  rintro rfl
  have e := c.uniq (o.above hp)
  rw [e] at hn'
  exact hna hn'
theorem mem_above_out (o : Ok ns) (hn : n < ns.length) {q : Nat} (h : (nd ns n).up = some q) (hp : p < ns.length) (hna : n ∉ above ns p) : n ∉ above (outN ns q n) p := by
  obtain ⟨hq, _⟩ := o.upk n q hn h
  have o2 := o.out hn h
  have c2 := o2.above (n := p) (by rw [len_outN]; exact hp)
  have c := o.above hp
  obtain ⟨l', c', e⟩ := c.cut hn hq ((nd ns q).kids.filter fun k => !decide (k = n))
  rw [e hna] at c'
  rw [c2.uniq c']
  exact hna
theorem outA_len : (outA w n).ns.length = w.ns.length := by
  unfold outA
  split
  · rfl
  · exact len_outN
theorem outA_up (hn : n < w.ns.length) : (nd (outA w n).ns n).up = none := by
  unfold outA
  split
  · assumption
  · exact out_up hn
theorem outA_txt : (nd (outA w n).ns m).txt = (nd w.ns m).txt := by
  unfold outA
  split
  · rfl
  · exact (rest_at m).1
theorem outA_ok (o : Ok w.ns) (hn : n < w.ns.length) : Ok (outA w n).ns := by
  unfold outA
  split
  · exact o
  · rename_i h
    exact o.out hn h
theorem outA_not (o : Ok w.ns) (hn : n < w.ns.length) (hp : p < w.ns.length) (hna : n ∉ above w.ns p) : n ∉ above (outA w n).ns p := by
  unfold outA
  split
  · exact hna
  · rename_i h
    exact mem_above_out o hn h hp hna
theorem insA_ok {b : Option Nat} (o : Ok w.ns) (hn : n < w.ns.length) (hp : p < w.ns.length) (h0 : n ≠ 0) (ht : (nd w.ns p).txt = false) (hna : n ∉ above w.ns p) : Ok (insA w p n b).ns := by
  unfold insA
  exact (outA_ok o hn).ins (by rw [outA_len]; exact hn) (by rw [outA_len]; exact hp) (outA_up hn) h0 (by rw [outA_txt]; exact ht) (outA_not o hn hp hna)
theorem putA_ok {b : Option Nat} (o : Ok w.ns) (hn : n < w.ns.length) (hp : p < w.ns.length) : Ok (putA w p n b).1.ns := by
  unfold putA
  split
  · exact o
  split
  · exact o
  split
  · exact o
  split
  · exact o
  split
  · exact o
  · rename_i h1 h2 h3 h4 h5
    exact insA_ok o hn hp h2 (by simpa using h1) h3
theorem markA_ok {k : Str} {v : Option Str} (o : Ok w.ns) (hn : n < w.ns.length) (hk : k ∈ KS) : Ok (markA w n k v).1.ns := by
  unfold markA
  split
  · exact o
  split
  · exact o
  · refine o.mark _ fun x hx => ?_
    unfold setM
    rw [if_neg fun (z : x = k) => hx (z ▸ hk)]
    exact o.mks n hn x hx
theorem writeA_ok {t : Str} (o : Ok w.ns) : Ok (writeA w n t).1.ns := by
  unfold writeA
  split
  · exact o
  split
  · exact o
  · exact o.write t
theorem miss1 {N : Nat} (h : miss N [some n] = none) : n < N := by
  unfold miss at h
  split at h
  · assumption
  · cases h
theorem miss3 {N : Nat} {b : Option Nat} (h : miss N [some p, some n, b] = none) : p < N ∧ n < N ∧ ∀ x, b = some x → x < N := by
  unfold miss at h
  split at h
  · rename_i h1
    unfold miss at h
    split at h
    · rename_i h2
      refine ⟨h1, h2, fun x hx => ?_⟩
      subst hx
      exact miss1 h
    · cases h
  · cases h
theorem orMiss_ok {l : List (Option Nat)} {r : Wm × PyData} (o : Ok w.ns) (h : miss w.ns.length l = none → Ok r.1.ns) : Ok (orMiss w l r).1.ns := by
  unfold orMiss
  split
  · exact o
  · exact h (by assumption)
theorem doA_ok (o : Ok w.ns) {d : Deed} (hd : deedOk d) : Ok (doA w d).1.ns := by
  have mk : ∀ t s, Ok (makeA w t s).1.ns := fun t s => by
    unfold makeA
    split
    · exact o
    · exact o.make (by omega) t s
  cases d with
  | element s => exact mk _ _
  | text s => exact mk _ _
  | insert p n b => exact orMiss_ok o fun h => putA_ok o (miss3 h).2.1 (miss3 h).1
  | remove n =>
    refine orMiss_ok o fun h => ?_
    unfold removeA
    split
    · exact o
    · exact outA_ok o (miss1 h)
  | mark n k v => exact orMiss_ok o fun h => markA_ok o (miss1 h) hd
  | unmark n k => exact orMiss_ok o fun h => markA_ok o (miss1 h) hd
  | write n t => exact orMiss_ok o fun h => writeA_ok o
/-! what is told grows by two at most -/
theorem outA_told : (outA w n).told.length ≤ w.told.length + 1 ∧ (outA w n).downs.length ≤ w.downs.length + 1 := by
  unfold outA
  split
  · exact ⟨by omega, by omega⟩
  · unfold tell
    simp
theorem doA_told {d : Deed} : (doA w d).1.told.length ≤ w.told.length + 2 ∧ (doA w d).1.downs.length ≤ w.downs.length + 2 := by
  have base : w.told.length ≤ w.told.length + 2 ∧ w.downs.length ≤ w.downs.length + 2 := ⟨by omega, by omega⟩
  have mk : ∀ t s, (makeA w t s).1.told.length ≤ w.told.length + 2 ∧ (makeA w t s).1.downs.length ≤ w.downs.length + 2 := fun t s => by
    unfold makeA
    split <;> exact base
  have om : ∀ l (r : Wm × PyData), (r.1.told.length ≤ w.told.length + 2 ∧ r.1.downs.length ≤ w.downs.length + 2) → ((orMiss w l r).1.told.length ≤ w.told.length + 2 ∧ (orMiss w l r).1.downs.length ≤ w.downs.length + 2) := fun l r h => by
    unfold orMiss
    split
    · exact base
    · exact h
  have mkk : ∀ n k v, (markA w n k v).1.told.length ≤ w.told.length + 2 ∧ (markA w n k v).1.downs.length ≤ w.downs.length + 2 := fun n k v => by
    unfold markA tell
    split
    · exact base
    split
    · exact base
    · simp
  cases d with
  | element s => exact mk _ _
  | text s => exact mk _ _
  | insert p n b =>
    refine om _ _ ?_
    have h := outA_told (w := w) (n := n)
    unfold putA
    split
    · exact base
    split
    · exact base
    split
    · exact base
    split
    · exact base
    split
    · exact base
    · unfold insA tell
      simp
      omega
  | remove n =>
    refine om _ _ ?_
    have h := outA_told (w := w) (n := n)
    unfold removeA
    split
    · exact base
    · exact ⟨Nat.le_succ_of_le h.1, Nat.le_succ_of_le h.2⟩
  | mark n k v => exact om _ _ (mkk _ _ _)
  | unmark n k => exact om _ _ (mkk _ _ _)
  | write n t =>
    refine om _ _ ?_
    unfold writeA tell
    split
    · exact base
    split
    · exact base
    · simp
end
end LM
end
section
set_option Elab.async false
set_option linter.all false
set_option maxRecDepth 100000
set_option maxHeartbeats 2000000
namespace LM
open PySem PySem.Spec PyProof.Rows L2 DL
theorem op_eqK {X : Cx} (K : PySem.W.Frag) (hu : X.A.units + 64 < cLine) (hK : X.K = K := by rfl) : OpR X (compareOp .Eq) (rEqA K) := by subst hK; exact op_eqA hu
theorem op_neK {X : Cx} (K : PySem.W.Frag) (hu : X.A.units + 64 < cLine) (hK : X.K = K := by rfl) : OpR X (compareOp .NotEq) (rNeA K) := by subst hK; exact op_neA hu
theorem op_addK {X : Cx} (K : PySem.W.Frag) (hK : X.K = K := by rfl) : OpR X (binaryOp .Add) (rAddA K) := by subst hK; exact op_addA
theorem ix_seqK {X : Cx} (K : PySem.W.Frag) (hK : X.K = K := by rfl) : IxR X (rIx K) := by subst hK; exact ix_seq
theorem s_ret {K : PySem.W.Frag} {H G : Hp} {σ : L2.St} {t : TE} {d : PyData} {D : Ends} (g : GD K t σ G H d) (s : Same G H) (k : ∀ v G' H', Pub G H G' H' → Dv K G' v d → D.rt v H') : tRet t D σ H := g G H (.refl s) _ k
theorem s_ifr {K : PySem.W.Frag} {H G : Hp} {σ : L2.St} {tt : TT} {b : Bool} {ts tr : TS} {D : Ends} (g : GT tt σ G H b) (s : Same G H) (h1 : b = true → ∀ H', Same H H' → ts { D with nx := tr D } σ H') (h2 : b = false → ∀ H', Same H H' → tr D σ H') : tSeq (tIfS tt ts tNext) tr D σ H := s_if g s h1 h2
/-! ### the step of one thing: S its own addresses -/
structure Step (S : Addr → Prop) (H H1 : Hp) (S' : Addr → Prop) (G H2 : Hp) : Prop where
  hg : Same H G
  gh : Same G H2
  hh : ∀ b o, ¬ S b → H1 b = some o → H2 b = some o
  pr : ∀ b, H b = none → H1 b ≠ none → G b = none
  th : ∀ b, H1 b ≠ none → H2 b ≠ none
  nw : ∀ b, S' b → S b ∨ H1 b = none
  sb : ∀ b, S b → S' b
section
variable {K : PySem.W.Frag} {S S' S'' T T' : Addr → Prop} {A A2 H H1 H2 H3 G G2 : Hp}
theorem Step.of_pub (p : Pub H H1 G H2) : Step S H H1 S G H2 := ⟨p.hg, p.gh, fun b o _ h => p.hh b o h, p.pr, fun b h => there_of p.hh h, fun b h => .inl h, fun b h => h⟩
theorem Step.trans (p : Step S H H1 S' G H2) (q : Step S' G H2 S'' G2 H3) : Step S H H1 S'' G2 H3 :=
  ⟨p.hg.trans q.hg, q.gh, fun b o hS h => q.hh b o (fun z => (p.nw b z).elim hS fun e => by rw [e] at h; cases h) (p.hh b o hS h), fun b h h1 => q.pr b (p.pr b h h1) (p.th b h1), fun b h => q.th b (p.th b h),
    fun b h => (q.nw b h).elim (p.nw b) fun e => .inr (Classical.byContradiction fun z => p.th b z e), fun b h => q.sb b (p.sb b h)⟩
theorem Step.pub (p : Step S H H1 S' G H2) (q : Pub G H2 G2 H3) : Step S H H1 S' G2 H3 := p.trans (.of_pub q)
/-- a write to one's own -/
theorem Step.write {a : Addr} (e : Same H H1) (hS : S a) (h : H a = none) (o : HO) : Step S H H1 S H (upd H1 a o) :=
  ⟨.refl _, same_upd2 e a h o, fun b u hb q => by rw [upd_ne (fun (z : b = a) => hb (z ▸ hS))]; exact q, fun b h _ => h, fun b hb => by
    by_cases z : b = a
    · subst z; rw [upd_same]; exact fun y => nomatch y
    · rw [upd_ne z]; exact hb, fun b h => .inl h, fun b h => h⟩
theorem Step.refl (e : Same H H1) : Step S H H1 S H H1 := .of_pub (.refl e)
/-! ### rows -/
def LR {α : Type} (R : V → α → Prop) (xs : List V) (as : List α) : Prop := xs.length = as.length ∧ ∀ (i : Nat) (x : α), as[i]? = some x → ∃ v, xs[i]? = some v ∧ R v x
theorem LR.imp {α : Type} {R R' : V → α → Prop} {xs : List V} {as : List α} (h : LR R xs as) (e : ∀ v x, R v x → R' v x) : LR R' xs as := ⟨h.1, fun i x hx => let ⟨v, a, b⟩ := h.2 i x hx; ⟨v, a, e v x b⟩⟩
theorem LR.set {α : Type} {R : V → α → Prop} {xs : List V} {as : List α} {n : Nat} {v : V} {x : α} (h : LR R xs as) (r : R v x) : LR R (xs.set n v) (as.set n x) := by
  refine ⟨by rw [List.length_set, List.length_set]; exact h.1, fun i y hy => ?_⟩
  by_cases e : n = i
  · subst e
    have hn : n < as.length := by
      have := (List.getElem?_eq_some_iff.mp hy).1
      rwa [List.length_set] at this
    rw [List.getElem?_set_self hn] at hy
    cases hy
    exact ⟨v, List.getElem?_set_self (by rw [h.1]; exact hn), r⟩
  · rw [List.getElem?_set_ne e] at hy
    rw [List.getElem?_set_ne e]
    exact h.2 i y hy
theorem LR.keep {α : Type} {R : V → α → Prop} {xs : List V} {as : List α} {n : Nat} {x y : α} (h : LR R xs as) (hx : as[n]? = some x) (r : ∀ v, R v x → R v y) : LR R xs (as.set n y) := by
  refine ⟨by rw [List.length_set]; exact h.1, fun i z hz => ?_⟩
  by_cases e : n = i
  · subst e
    have hn : n < as.length := (List.getElem?_eq_some_iff.mp hx).1
    rw [List.getElem?_set_self hn] at hz
    cases hz
    obtain ⟨v, a, b⟩ := h.2 n x hx
    exact ⟨v, a, r v b⟩
  · rw [List.getElem?_set_ne e] at hz
    exact h.2 i z hz
theorem LR.app {α : Type} {R : V → α → Prop} {xs : List V} {as : List α} {v : V} {x : α} (h : LR R xs as) (r : R v x) : LR R (xs ++ [v]) (as ++ [x]) := by
  refine ⟨by rw [List.length_append, List.length_append, h.1]; rfl, fun i y hy => ?_⟩
  by_cases e : i < as.length
  · rw [List.getElem?_append_left e] at hy
    rw [List.getElem?_append_left (by rw [h.1]; exact e)]
    exact h.2 i y hy
  · rw [List.getElem?_append_right (by omega)] at hy
    rw [List.getElem?_append_right (by rw [h.1]; omega), h.1]
    have z : i - as.length = 0 := by
      have := (List.getElem?_eq_some_iff.mp hy).1
      simp at this
      omega
    rw [z] at hy ⊢
    cases hy
    exact ⟨v, rfl, r⟩
/-! ### dicts of marks -/
def MkK (kvs : List (Key × V)) (f : Str → Option Str) : Prop := (kvs.map (·.1)).Nodup ∧ (∀ k : Str, valV kvs (.inr k) = (f k).map V.str) ∧ ∀ e, e ∈ kvs → ∃ k, k ∈ KS ∧ e.1 = .inr k
def MkD (H : Hp) (a : Addr) (f : Str → Option Str) : Prop := ∃ kvs, H a = some (.dK kvs) ∧ MkK kvs f
theorem MkD.to {a : Addr} {f : Str → Option Str} (h : MkD H a f) (e : Same H G) : MkD G a f := let ⟨kvs, a, b⟩ := h; ⟨kvs, e _ _ a, b⟩
/-! ### the law's tables -/
def kindS (t : Bool) : Str := if t then "t" else "e"
def colR (K : PySem.W.Frag) (H : Hp) : Nat → V → Nd → Prop
  | 0, v, x => Dv K H v (.str (kindS x.txt))
  | 1, v, x => Dv K H v (.str x.name)
  | 2, v, x => ∃ a, v = .ref a ∧ MkD H a x.marks
  | 3, v, x => Dv K H v (natsD x.kids)
  | _, v, x => Dv K H v (upD x.up)
def colD : Nat → Nd → PyData
  | 0, x => .str (kindS x.txt)
  | 1, x => .str x.name
  | 3, x => natsD x.kids
  | _, x => upD x.up
theorem colR_D {i : Nat} {v : V} {x : Nd} (h : colR K H i v x) (hi : i ≠ 2) : Dv K H v (colD i x) := by
  match i, hi, h with
  | 0, _, h => exact h
  | 1, _, h => exact h
  | 3, _, h => exact h
  | _ + 4, _, h => exact h
theorem colR.to {i : Nat} {v : V} {x : Nd} (h : colR K H i v x) (e : Same H G) : colR K G i v x := by
  match i, h with
  | 0, h => exact Dv.to h e
  | 1, h => exact Dv.to h e
  | 2, ⟨a, z, h⟩ => exact ⟨a, z, h.to e⟩
  | 3, h => exact Dv.to h e
  | _ + 4, h => exact Dv.to h e
abbrev wdk (fl : Nat → Addr) : List (Key × V) := [(.inr "kind", .ref (fl 0)), (.inr "name", .ref (fl 1)), (.inr "marks", .ref (fl 2)), (.inr "kids", .ref (fl 3)), (.inr "up", .ref (fl 4)), (.inr "told", .ref (fl 5)), (.inr "downs", .ref (fl 6))]
structure WH (K : PySem.W.Frag) (wd : Addr) (fl : Nat → Addr) (H A : Hp) (w : Wm) : Prop where
  gh : Same H A
  d : A wd = some (.dK (wdk fl))
  c : ∀ i, i < 5 → ∃ xs, A (fl i) = some (.lst xs) ∧ LR (colR K H i) xs w.ns
  t : ∃ xs, A (fl 5) = some (.lst xs) ∧ DvA K H xs w.told
  b : ∃ xs, A (fl 6) = some (.lst xs) ∧ DvA K H xs w.downs
  inj : ∀ i j, i < 7 → j < 7 → fl i = fl j → i = j
  pf : ∀ i, i < 7 → H (fl i) = none
  pd : H wd = none
def wS (wd : Addr) (fl : Nat → Addr) : Addr → Prop := fun a => a = wd ∨ ∃ i, i < 7 ∧ a = fl i
variable {wd : Addr} {fl : Nat → Addr} {w : Wm}
theorem WH.other (h : WH K wd fl H A w) (st : Step T H A T' G A2) (dis : ∀ b, T b → ¬ wS wd fl b) : WH K wd fl G A2 w := by
  have nt : ∀ b, wS wd fl b → ¬ T b := fun b h1 h2 => dis b h2 h1
  refine ⟨st.gh, st.hh _ _ (nt _ (.inl rfl)) h.d, fun i hi => ?_, ?_, ?_, h.inj, fun i hi => ?_, st.pr _ h.pd (some_ne h.d)⟩
  · obtain ⟨xs, h1, h2⟩ := h.c i hi
    exact ⟨xs, st.hh _ _ (nt _ (.inr ⟨i, by omega, rfl⟩)) h1, h2.imp fun v x r => r.to st.hg⟩
  · obtain ⟨xs, h1, h2⟩ := h.t
    exact ⟨xs, st.hh _ _ (nt _ (.inr ⟨5, by omega, rfl⟩)) h1, h2.to st.hg⟩
  · obtain ⟨xs, h1, h2⟩ := h.b
    exact ⟨xs, st.hh _ _ (nt _ (.inr ⟨6, by omega, rfl⟩)) h1, h2.to st.hg⟩
  · have hn : A (fl i) ≠ none := by
      by_cases z : i < 5
      · obtain ⟨xs, h1, _⟩ := h.c i z
        exact some_ne h1
      · by_cases y : i = 5
        · subst y; obtain ⟨xs, h1, _⟩ := h.t; exact some_ne h1
        · have : i = 6 := by omega
          subst this; obtain ⟨xs, h1, _⟩ := h.b; exact some_ne h1
    exact st.pr _ (h.pf i hi) hn
theorem WH.pub (h : WH K wd fl H A w) (p : Pub H A G A2) : WH K wd fl G A2 w := h.other (T := fun _ => False) (T' := fun _ => False) (.of_pub p) fun _ z => z.elim
variable {σ : L2.St} {tn : TE} {n : Nat}
theorem WH.key (h : WH K wd fl H A w) {nm : Str} {a : Addr} (h0 : σ[0]? = some (some (.ref wd))) (e : valV (wdk fl) (.inr nm) = some (.ref a)) : GV (tDGet (tVar 0) (tC (.str nm))) σ H A (.ref a) := fun H0 H1 p Q q =>
  ⟨.ref wd, h0, wd, .ref a, rfl, by rw [← e]; exact DGet.k (k := .inr nm) (h.pub p).d, q H0 H1 (.refl p.gh)⟩
theorem nat_at {xs : List V} {v : V} (h : xs[n]? = some v) : atI xs (n : Int) = some v := atI_nat h
/-- an item of a private list -/
theorem gv_ixP {to : TE} {a : Addr} {xs : List V} {v : V} (g : GV to σ H A (.ref a)) (ha : A a = some (.lst xs)) (gn : GD K tn σ H A (ofN n)) (e : xs[n]? = some v) : GV (tOp (rIx K) to tn) σ H A v := fun H0 H1 p Q q =>
  g.to p fun G1 H2 p1 => gn.to (p.trans p1) fun x G2 H3 p2 dx => .inl ⟨a, xs, (n : Int), v, rfl, Dv.int_inv dx, SqL.of (p2.hh _ _ (p1.hh _ _ (p.hh _ _ ha))), nat_at e, q G2 H3 (p1.trans p2)⟩
theorem WH.col (h : WH K wd fl H A w) {i : Nat} {nm : Str} (hi : i < 5) (h2 : i ≠ 2) (h0 : σ[0]? = some (some (.ref wd))) (e : valV (wdk fl) (.inr nm) = some (.ref (fl i))) (hn : n < w.ns.length) (gn : GD K tn σ H A (ofN n)) :
    GD K (tOp (rIx K) (tDGet (tVar 0) (tC (.str nm))) tn) σ H A (colD i (nd w.ns n)) := by
  obtain ⟨xs, h1, r⟩ := h.c i hi
  obtain ⟨v, e2, rv⟩ := r.2 n _ (nd_get hn)
  exact (gv_ixP (h.key h0 e) h1 gn e2).gd (colR_D rv h2)
theorem WH.kindG (h : WH K wd fl H A w) (h0 : σ[0]? = some (some (.ref wd))) (hn : n < w.ns.length) (gn : GD K tn σ H A (ofN n)) : GD K (tOp (rIx K) (tDGet (tVar 0) (tC (.str "kind"))) tn) σ H A (.str (kindS (nd w.ns n).txt)) := h.col (i := 0) (by omega) (by omega) h0 rfl hn gn
theorem WH.nameG (h : WH K wd fl H A w) (h0 : σ[0]? = some (some (.ref wd))) (hn : n < w.ns.length) (gn : GD K tn σ H A (ofN n)) : GD K (tOp (rIx K) (tDGet (tVar 0) (tC (.str "name"))) tn) σ H A (.str (nd w.ns n).name) := h.col (i := 1) (by omega) (by omega) h0 rfl hn gn
theorem WH.kidsG (h : WH K wd fl H A w) (h0 : σ[0]? = some (some (.ref wd))) (hn : n < w.ns.length) (gn : GD K tn σ H A (ofN n)) : GD K (tOp (rIx K) (tDGet (tVar 0) (tC (.str "kids"))) tn) σ H A (natsD (nd w.ns n).kids) := h.col (i := 3) (by omega) (by omega) h0 rfl hn gn
theorem WH.upG (h : WH K wd fl H A w) (h0 : σ[0]? = some (some (.ref wd))) (hn : n < w.ns.length) (gn : GD K tn σ H A (ofN n)) : GD K (tOp (rIx K) (tDGet (tVar 0) (tC (.str "up"))) tn) σ H A (upD (nd w.ns n).up) := h.col (i := 4) (by omega) (by omega) h0 rfl hn gn
theorem WH.mark (h : WH K wd fl H A w) (hn : n < w.ns.length) : ∃ a, MkD H a (nd w.ns n).marks ∧ ∀ {σ : L2.St} {tn : TE}, σ[0]? = some (some (.ref wd)) → GD K tn σ H A (ofN n) → GV (tOp (rIx K) (tDGet (tVar 0) (tC (.str "marks"))) tn) σ H A (.ref a) := by
  obtain ⟨xs, h1, r⟩ := h.c 2 (by omega)
  obtain ⟨v, e2, a, rfl, m⟩ := r.2 n _ (nd_get hn)
  exact ⟨a, m, fun h0 gn => gv_ixP (h.key h0 rfl) h1 gn e2⟩
/-- how many nodes -/
theorem WH.len (h : WH K wd fl H A w) (h0 : σ[0]? = some (some (.ref wd))) : GD K (tCB (DL.rLen K) (tCons (tDGet (tVar 0) (tC (.str "kind"))) tNil)) σ H A (ofN w.ns.length) := fun H0 H1 p Q q => by
  obtain ⟨xs, h1, r⟩ := h.c 0 (by omega)
  refine (h.key (nm := "kind") h0 rfl).to p fun G H2 p2 => ⟨.ref (fl 0), xs.length, rfl, .inl ⟨xs, SqL.of (p2.hh _ _ (p.hh _ _ h1)), rfl⟩, ?_⟩
  rw [r.1]
  exact q _ G H2 p2 (.int _)
end
end LM
end
section
set_option Elab.async false
set_option linter.all false
set_option maxRecDepth 100000
set_option maxHeartbeats 2000000
namespace LM
open PySem PySem.Spec PyProof.Rows L2 DL
section
variable {K : PySem.W.Frag} {A A2 H H1 H2 H3 Hc G G2 : Hp} {wd : Addr} {fl : Nat → Addr} {w : Wm} {σ : L2.St} {t te tn : TE} {tA : TA} {n : Nat} {ds : List PyData} {d : PyData}
/-- a def over the tables that leaves them -/
def spR (K : PySem.W.Frag) (n : Nat) {α : Type} (ar : α → List PyData) (Pre : Wm → α → Prop) (f : Wm → α → PyData) : Sp := fun vs H1 Q _ => ∃ (wd : Addr) (fl : Nat → Addr) (us : List V) (x : α) (H : Hp) (w : Wm),
  vs = .ref wd :: us ∧ us.length = n ∧ WH K wd fl H H1 w ∧ Ok w.ns ∧ DvA K H us (ar x) ∧ Pre w x ∧ ∀ v G H2, Pub H H1 G H2 → Dv K G v (f w x) → Q v H2
/-- a def that changes them -/
def spM (K : PySem.W.Frag) (n : Nat) {α : Type} (ar : α → List PyData) (Pre : Wm → α → Prop) (f : Wm → α → Wm × PyData) : Sp := fun vs H1 Q _ => ∃ (wd : Addr) (fl : Nat → Addr) (us : List V) (x : α) (H : Hp) (w : Wm),
  vs = .ref wd :: us ∧ us.length = n ∧ WH K wd fl H H1 w ∧ Ok w.ns ∧ DvA K H us (ar x) ∧ Pre w x ∧ ∀ v G H2, Step (wS wd fl) H H1 (wS wd fl) G H2 → WH K wd fl G H2 (f w x).1 → Dv K G v (f w x).2 → Q v H2
theorem gd_callR {α : Type} {ar : α → List PyData} {Pre : Wm → α → Prop} {f : Wm → α → PyData} (x : α) (wh : WH K wd fl H A w) (o : Ok w.ns) (h0 : σ[0]? = some (some (.ref wd))) (ga : GA K tA σ H A (ar x)) (hn : (ar x).length = n) (hp : Pre w x) :
    GD K (tCall (spR K n ar Pre f) [] E0 (tCons (tVar 0) tA)) σ H A (f w x) := fun H0 H1 p Q q => ⟨.ref wd, h0, ga.to p fun vs G H2 p2 dv => by
  show spR K n ar Pre f ((.ref wd :: vs) ++ []) H2 Q E0
  rw [List.append_nil]
  exact ⟨wd, fl, vs, x, G, w, rfl, (DvA.len dv).trans hn, wh.pub (p.trans p2), o, dv, hp, fun v G' H3 p3 dw => q v G' H3 (p2.trans p3) dw⟩⟩
structure WA (K : PySem.W.Frag) (wd : Addr) (fl : Nat → Addr) (H H1 G Hc : Hp) (w : Wm) : Prop where
  st : Step (wS wd fl) H H1 (wS wd fl) G Hc
  wh : WH K wd fl G Hc w
theorem WA.refl (h : WH K wd fl H H1 w) : WA K wd fl H H1 H H1 w := ⟨.refl h.gh, h⟩
theorem WA.pub (a : WA K wd fl H H1 G Hc w) (p : Pub G Hc G2 H2) : WA K wd fl H H1 G2 H2 w := ⟨a.st.pub p, a.wh.pub p⟩
theorem WA.test (a : WA K wd fl H H1 G Hc w) (e : Same Hc H2) : WA K wd fl H H1 G H2 w := a.pub (.idle a.wh.gh e)
theorem WA.gh (a : WA K wd fl H H1 G Hc w) : Same G Hc := a.wh.gh
theorem WA.trans {w' : Wm} (a : WA K wd fl H H1 G Hc w) (st : Step (wS wd fl) G Hc (wS wd fl) G2 H2) (h : WH K wd fl G2 H2 w') : WA K wd fl H H1 G2 H2 w' := ⟨a.st.trans st, h⟩
theorem e_call {α : Type} {ar : α → List PyData} {Pre : Wm → α → Prop} {f : Wm → α → Wm × PyData} {Q : VK} (x : α) (a : WA K wd fl H H1 G Hc w) (o : Ok w.ns) (h0 : σ[0]? = some (some (.ref wd))) (ga : GA K tA σ G Hc (ar x)) (hn : (ar x).length = n) (hp : Pre w x)
    (k : ∀ v G' H', WA K wd fl H H1 G' H' (f w x).1 → Same G G' → Dv K G' v (f w x).2 → Q v H') : tCall (spM K n ar Pre f) [] E0 (tCons (tVar 0) tA) σ Hc Q := ⟨.ref wd, h0, ga.to (.refl a.gh) fun vs G2 H2 p2 dv => by
  show spM K n ar Pre f ((.ref wd :: vs) ++ []) H2 Q E0
  rw [List.append_nil]
  exact ⟨wd, fl, vs, x, G2, w, rfl, (DvA.len dv).trans hn, a.wh.pub p2, o, dv, hp, fun v G' H3 st h dw => k v G' H3 ((a.pub p2).trans st h) (p2.hg.trans st.hg) dw⟩⟩
theorem WH.fl_ne (h : WH K wd fl H A w) {i j : Nat} (hi : i < 7) (hj : j < 7) (e : i ≠ j) : fl i ≠ fl j := fun z => e (h.inj i j hi hj z)
theorem WH.wd_ne (h : WH K wd fl H A w) {i : Nat} (hi : i < 7) : fl i ≠ wd := by
  intro z
  have hd := h.d
  rw [← z] at hd
  by_cases y : i < 5
  · obtain ⟨xs, h1, _⟩ := h.c i y
    rw [hd] at h1; cases h1
  · by_cases y5 : i = 5
    · subst y5; obtain ⟨xs, h1, _⟩ := h.t; rw [hd] at h1; cases h1
    · have : i = 6 := by omega
      subst this; obtain ⟨xs, h1, _⟩ := h.b; rw [hd] at h1; cases h1
theorem WH.setcol (h : WH K wd fl H A w) {i : Nat} {xs : List V} {v : V} {x : Nd} (hi : i < 5) (h1 : A (fl i) = some (.lst xs)) (r : LR (colR K H i) xs w.ns) (hn : n < w.ns.length) (hv : colR K H i v x)
    (hk : ∀ j, j < 5 → j ≠ i → ∀ u, colR K H j u (nd w.ns n) → colR K H j u x) : WH K wd fl H (upd A (fl i) (.lst (xs.set n v))) { w with ns := w.ns.set n x } := by
  refine ⟨same_upd2 h.gh _ (h.pf i (by omega)) _, ?_, fun j hj => ?_, ?_, ?_, h.inj, h.pf, h.pd⟩
  · rw [upd_ne (Ne.symm (h.wd_ne (by omega)))]; exact h.d
  · by_cases e : j = i
    · subst e
      exact ⟨_, upd_same, r.set hv⟩
    · obtain ⟨ys, h2, r2⟩ := h.c j hj
      rw [upd_ne (h.fl_ne (by omega) (by omega) e)]
      exact ⟨ys, h2, r2.keep (nd_get hn) (hk j hj e)⟩
  · rw [upd_ne (h.fl_ne (by omega) (by omega) (by omega))]; exact h.t
  · rw [upd_ne (h.fl_ne (by omega) (by omega) (by omega))]; exact h.b
/-- what a reading gives, to be an item of a row -/
def GQ (K : PySem.W.Frag) (te : TE) (σ : L2.St) (G Hc : Hp) (i : Nat) (x : Nd) : Prop := ∀ Q : VK, (∀ v G' H2, Pub G Hc G' H2 → colR K G' i v x → Q v H2) → te σ Hc Q
theorem GD.gq {i : Nat} {x : Nd} (g : GD K te σ G Hc d) (e : Same G Hc) (h : ∀ G' v, Dv K G' v d → colR K G' i v x) : GQ K te σ G Hc i x := fun Q q => g.to (.refl e) fun v G' H2 p dv => q v G' H2 p (h G' v dv)
theorem e_store {i : Nat} {nm : Str} {x : Nd} {D : Ends} (a : WA K wd fl H H1 G Hc w) (hi : i < 5) (h0 : σ[0]? = some (some (.ref wd))) (e : valV (wdk fl) (.inr nm) = some (.ref (fl i))) (hn : n < w.ns.length) (gv : GQ K te σ G Hc i x) (gn : ∀ G' H', Pub G Hc G' H' → GD K tn σ G' H' (ofN n))
    (hk : ∀ j, j < 5 → j ≠ i → ∀ G' u, colR K G' j u (nd w.ns n) → colR K G' j u x) (k : ∀ G' H', WA K wd fl H H1 G' H' { w with ns := w.ns.set n x } → Same G G' → D.nx σ H') :
    tAsg te (gSub (tDGet (tVar 0) (tC (.str nm))) tn rSetL) D σ Hc := gv _ fun v G2 H2 p2 cv => by
  have a2 := a.pub p2
  refine (a2.wh.key (nm := nm) h0 e).to (.refl a2.gh) fun G3 H3 p3 => ?_
  have a3 := a2.pub p3
  refine (gn G3 H3 (p2.trans p3)).to (.refl a3.gh) fun iv G4 H4 p4 di => ?_
  have a4 := a3.pub p4
  have ei := Dv.int_inv di
  subst ei
  obtain ⟨xs, h1, r⟩ := a4.wh.c i hi
  have hix : ixN xs.length (n : Int) = some n := by
    have hl := r.1
    unfold ixN
    simp [hl, hn]
  refine ⟨fl i, xs, (n : Int), n, rfl, rfl, h1, hix, k G4 _ (a4.trans (.write a4.gh (.inr ⟨i, by omega, rfl⟩) (a4.wh.pf i (by omega)) _) ?_) (p2.hg.trans (p3.hg.trans p4.hg))⟩
  exact a4.wh.setcol hi h1 r hn ((cv.to p3.hg).to p4.hg) fun j hj hji u hu => hk j hj hji G4 u hu
theorem e_told {D : Ends} (a : WA K wd fl H H1 G Hc w) (h0 : σ[0]? = some (some (.ref wd))) (g : GD K te σ G Hc d) (z : w.told.length < sizeLine) (k : ∀ G' H', WA K wd fl H H1 G' H' { w with told := w.told ++ [d] } → Same G G' → D.nx σ H') :
    tDrop (tBM K "list" rAppend (tDGet (tVar 0) (tC (.str "told"))) (tCons te tNil)) D σ Hc := (a.wh.key (nm := "told") h0 rfl).to (.refl a.gh) fun G2 H2 p2 => by
  have a2 := a.pub p2
  obtain ⟨ys, e1, _⟩ := a2.wh.t
  refine ⟨.inl ⟨rfl, ys, SqL.of e1⟩, (g.mono p2).to (.refl a2.gh) fun v G3 H3 p3 dv => ?_⟩
  have a3 := a2.pub p3
  obtain ⟨xs, h1, r⟩ := a3.wh.t
  have h := a3.wh
  refine ⟨fl 5, xs, v, rfl, rfl, h1, by rw [DvA.len r]; exact z, k G3 _ (a3.trans (.write a3.gh (.inr ⟨5, by omega, rfl⟩) (h.pf 5 (by omega)) _) ?_) (p2.hg.trans p3.hg)⟩
  refine ⟨same_upd2 h.gh _ (h.pf 5 (by omega)) _, ?_, fun j hj => ?_, ⟨_, upd_same, DvA.app r (.cons dv .nil)⟩, ?_, h.inj, h.pf, h.pd⟩
  · rw [upd_ne (Ne.symm (h.wd_ne (by omega)))]; exact h.d
  · rw [upd_ne (h.fl_ne (by omega) (by omega) (by omega))]; exact h.c j hj
  · rw [upd_ne (h.fl_ne (by omega) (by omega) (by omega))]; exact h.b
theorem e_downs {D : Ends} (a : WA K wd fl H H1 G Hc w) (h0 : σ[0]? = some (some (.ref wd))) (g : GD K te σ G Hc d) (z : w.downs.length < sizeLine) (k : ∀ G' H', WA K wd fl H H1 G' H' { w with downs := w.downs ++ [d] } → Same G G' → D.nx σ H') :
    tDrop (tBM K "list" rAppend (tDGet (tVar 0) (tC (.str "downs"))) (tCons te tNil)) D σ Hc := (a.wh.key (nm := "downs") h0 rfl).to (.refl a.gh) fun G2 H2 p2 => by
  have a2 := a.pub p2
  obtain ⟨ys, e1, _⟩ := a2.wh.b
  refine ⟨.inl ⟨rfl, ys, SqL.of e1⟩, (g.mono p2).to (.refl a2.gh) fun v G3 H3 p3 dv => ?_⟩
  have a3 := a2.pub p3
  obtain ⟨xs, h1, r⟩ := a3.wh.b
  have h := a3.wh
  refine ⟨fl 6, xs, v, rfl, rfl, h1, by rw [DvA.len r]; exact z, k G3 _ (a3.trans (.write a3.gh (.inr ⟨6, by omega, rfl⟩) (h.pf 6 (by omega)) _) ?_) (p2.hg.trans p3.hg)⟩
  refine ⟨same_upd2 h.gh _ (h.pf 6 (by omega)) _, ?_, fun j hj => ?_, ?_, ⟨_, upd_same, DvA.app r (.cons dv .nil)⟩, h.inj, h.pf, h.pd⟩
  · rw [upd_ne (Ne.symm (h.wd_ne (by omega)))]; exact h.d
  · rw [upd_ne (h.fl_ne (by omega) (by omega) (by omega))]; exact h.c j hj
  · rw [upd_ne (h.fl_ne (by omega) (by omega) (by omega))]; exact h.t
/-! ### the defs -/
theorem fn_R {P : Program} {W : World} {mg : Str → Option Value} {base : Heap} {x qual : Str} {st : Stmt} {f : Addr} {fd : FuncData} {N ps : List Str} {k n : Nat} {α : Type} {ar : α → List PyData} {Pre : Wm → α → Prop} {g : Wm → α → PyData} (F : Fun K x qual st f fd) (S : FnScope N ps (defScope st)) (hn : n + 1 = ps.length)
    (hbody : ∀ (cdv : Value) (A : Around) (outer : List Env) (s : Shared) (H1 : Hp) (E : XK), Room k (A.deeper (envOfC qual (defScope st) s.heap.objs.size f cdv)) →
      ∃ t, PSs (cxOf CX0 P W K mg base N qual (defScope st) f cdv A outer s H1 E).nox (defBody st) t ∧ ∀ wd fl us x H A w, us.length = n → WH K wd fl H A w → Ok w.ns → DvA K H us (ar x) → Pre w x → GB K t (start N (.ref wd :: us)) H A (fun d => d = g w x)) : FnOk P W K mg base CX0 (k + 1) f fd ps (spR K n ar Pre g) := by
  refine F.ok S (fun vs H Q E h => ?_) (fun cdv A outer s H vs Q E hr h => ?_)
  · obtain ⟨_, _, us, _, _, _, rfl, hl, _⟩ := h
    rw [List.length_cons, hl, hn]
  obtain ⟨wd, fl, us, x, H0, w, rfl, hl, wh, o, dv, hp, q⟩ := h
  obtain ⟨t, h1, h2⟩ := hbody cdv A outer s H E hr
  exact ⟨t, h1, h2 wd fl us x H0 H w hl wh o dv hp H0 H (.refl wh.gh) _ fun d v G H2 r p dv => by subst r; exact q v G H2 p dv⟩
theorem fn_M {P : Program} {W : World} {mg : Str → Option Value} {base : Heap} {x qual : Str} {st : Stmt} {f : Addr} {fd : FuncData} {N ps : List Str} {k n : Nat} {α : Type} {ar : α → List PyData} {Pre : Wm → α → Prop} {g : Wm → α → Wm × PyData} (F : Fun K x qual st f fd) (S : FnScope N ps (defScope st)) (hn : n + 1 = ps.length)
    (hbody : ∀ (cdv : Value) (A : Around) (outer : List Env) (s : Shared) (H1 : Hp) (E : XK), Room k (A.deeper (envOfC qual (defScope st) s.heap.objs.size f cdv)) →
      ∃ t, PSs (cxOf CX0 P W K mg base N qual (defScope st) f cdv A outer s H1 E).nox (defBody st) t ∧ ∀ wd fl us x H H1 w (Q : VK), us.length = n → WH K wd fl H H1 w → Ok w.ns → DvA K H us (ar x) → Pre w x →
        (∀ v G H2, WA K wd fl H H1 G H2 (g w x).1 → Dv K G v (g w x).2 → Q v H2) → t { nx := fun _ H' => Q .non H', rt := Q } (start N (.ref wd :: us)) H1) : FnOk P W K mg base CX0 (k + 1) f fd ps (spM K n ar Pre g) := by
  refine F.ok S (fun vs H Q E h => ?_) (fun cdv A outer s H vs Q E hr h => ?_)
  · obtain ⟨_, _, us, _, _, _, rfl, hl, _⟩ := h
    rw [List.length_cons, hl, hn]
  obtain ⟨wd, fl, us, x, H0, w, rfl, hl, wh, o, dv, hp, q⟩ := h
  obtain ⟨t, h1, h2⟩ := hbody cdv A outer s H E hr
  exact ⟨t, h1, h2 wd fl us x H0 H w Q hl wh o dv hp fun v G H2 a dv => q v G H2 a.st a.wh dv⟩
end
end LM
end
section
set_option Elab.async false
set_option linter.all false
set_option maxRecDepth 100000
set_option maxHeartbeats 4000000
namespace LW
open PySem PySem.Spec PyProof.Rows L2 DL
def topS (i : Nat) : Stmt := PySem.Challenge.pw_lookon_k49_documents_refuse.main.body.getD i (.Pass ⟨0, 0, 0, 0⟩)
/-- what is built in, and the numbers of the top -/
structure Bt (mg : Str → Option Value) : Prop where
  len : mg "len" = none
  isinstance : mg "isinstance" = none
  all : mg "all" = none
  ord : mg "ord" = none
  range : mg "range" = none
  sorted : mg "sorted" = none
  str : mg "str" = none
  int : mg "int" = none
  bool : mg "bool" = none
  tuple : mg "tuple" = none
  list : mg "list" = none
  MOST_NODES : ∃ u, mg "MOST_NODES" = some u ∧ RelV (.int 60) u
  MOST_LETTERS : ∃ u, mg "MOST_LETTERS" = some u ∧ RelV (.int 8) u
  MOST_SIGNS : ∃ u, mg "MOST_SIGNS" = some u ∧ RelV (.int 20) u
  PERCENT : ∃ u, mg "PERCENT" = some u ∧ RelV (.int 37) u
section
variable {P : Program} {w : World} {K : PySem.W.Frag} {mg : Str → Option Value} {base : Heap} {f : Addr} {fd : FuncData}
/-! ### names -/
def letB (s : Str) : Bool := sLe "a" s && sLe s "z"
def plainB (s : Str) : Bool := (sLe " " s && sLe s "~") && !decide (((s.cps.getD 0 0 : Nat) : Int) = 37)
def nameB (s : Str) : Bool := (decide (1 ≤ (s.length : Int)) && decide ((s.length : Int) ≤ 8)) && (sgs s).all letB
def plainT (s : Str) : Bool := decide ((s.length : Int) ≤ 20) && (sgs s).all plainB
def nameD : PyData → Bool
  | .str s => nameB s
  | _ => false
def plainD : PyData → Bool
  | .str s => plainT s
  | _ => false
def numD : PyData → Bool
  | .int i => decide (0 ≤ i)
  | _ => false
def strF (g : Str → Bool) : List PyData → PyData
  | [.str s] => .bool (g s)
  | _ => .none
def preS : List PyData → Prop := fun ds => ∃ s : Str, ds = [.str s]
def preC : List PyData → Prop := fun ds => ∃ s : Str, ds = [.str s] ∧ s.length = 1
abbrev sis_letter : Stmt := topS 11
theorem scis_letter : FnScope ["sign"] ["sign"] (defScope sis_letter) := ⟨rfl, rfl, rfl, by decide +kernel, rfl, by decide +kernel, by decide +kernel⟩
theorem ok_is_letter (F : Fun K "is_letter" "is_letter" sis_letter f fd) : FnOk P w K mg base CX0 1 f fd ["sign"] (spF K 1 preS (strF letB)) := by
  refine fn_gb F scis_letter rfl fun cdv A outer s H1 E hr => ⟨_, (pss_one (ps_ret (pe_chain op_leA op_leA pe_str (pv 0) pe_str))), fun vs ds H A0 hs hl dv hp => ?_⟩
  obtain ⟨x, rfl⟩ := hp
  obtain ⟨v, rfl, d1⟩ := DvA.inv1 dv
  exact gb_ret (gd_chain gd_str (gd_var rfl d1) go_leS gd_str go_leS) rfl
abbrev sis_plain_sign : Stmt := topS 12
theorem scis_plain_sign : FnScope ["sign"] ["sign"] (defScope sis_plain_sign) := ⟨rfl, rfl, rfl, by decide +kernel, rfl, by decide +kernel, by decide +kernel⟩
theorem ok_is_plain_sign (T : Bt mg) (F : Fun K "is_plain_sign" "is_plain_sign" sis_plain_sign f fd) : FnOk P w K mg base CX0 1 f fd ["sign"] (spF K 1 preC (strF plainB)) := by
  refine fn_gb F scis_plain_sign rfl fun cdv A outer s H1 E hr => ⟨_, (pss_one (ps_ret (pe_and (pe_chain op_leA op_leA pe_str (pv 0) pe_str) (pe_one (pe_cmpR (op_neA hr.units) (pe_callB cr_ord (by rfl) T.ord (by decide +kernel) (pa_cons (pv 0) pa_nil)) (pe_gl T.PERCENT) (nomark _)))))), fun vs ds H A0 hs hl dv hp => ?_⟩
  obtain ⟨x, rfl, hx⟩ := hp
  obtain ⟨v, rfl, d1⟩ := DvA.inv1 dv
  exact gb_ret (gd_andB (gd_chain gd_str (gd_var rfl d1) go_leS gd_str go_leS) fun _ => gdo (gd_cb (ga_cons (gd_var rfl d1) ga_nil) (gc_ord hx)) gd_int go_neI) rfl
def preV : List PyData → Prop := fun ds => ∃ d, ds = [d] ∧ ∀ s, d = .str s → s.length ≤ 1000000
def oneF (g : PyData → Bool) : List PyData → PyData
  | [d] => .bool (g d)
  | _ => .none
theorem sgs_one {x y : Str} (h : y ∈ sgs x) : y.length = 1 := by
  unfold sgs at h
  obtain ⟨c, _, rfl⟩ := List.mem_map.mp h
  rfl
theorem sgs_len (x : Str) : (sgs x).length = x.length := by simp [sgs, Str.length]
abbrev sis_name : Stmt := topS 13
theorem scis_name : FnScope ["value", "sign"] ["value"] (defScope sis_name) := ⟨rfl, rfl, rfl, by decide +kernel, rfl, by decide +kernel, by decide +kernel⟩
theorem ok_is_name (T : Bt mg) (F : Fun K "is_name" "is_name" sis_name f fd) (cis_letter : Cal P w K mg base 1 "is_letter" (spF K 1 preS (strF letB))) : FnOk P w K mg base CX0 2 f fd ["value"] (spF K 1 preV (oneF nameD)) := by
  refine fn_gb F scis_name rfl fun cdv A outer s H1 E hr => ⟨_, (pss_cons (ps_if (pt_not (pt_tr (pe_callB call_isi (by rfl) T.isinstance (by decide +kernel) (pa_cons (pv 0) (pa_cons (pe_bltn (v := .ty "str") rfl T.str (by decide +kernel) rfl) pa_nil))))) (pss_one (ps_ret pe_bl)) pss_nil)
      (pss_one (ps_ret (pe_and (pe_chain op_leA op_leA pe_int (pe_callB cr_len (by rfl) T.len PySem.boot_len (pa_cons (pv 0) pa_nil)) (pe_gl T.MOST_LETTERS)) (pe_one (pe_callB (cr_all rfl) (by rfl) T.all (by decide +kernel) (pa_cons (pe_lc (own := [("sign", 1)]) (by rfl) scis_name.nd (pi_seq (pv 0)) (blkOk_by (own := [("sign", 1)]) (N := ["value", "sign"]) (sc := defScope sis_name) (by decide +kernel)) (fun _ _ _ _ _ => (pg_name (i := 1) scis_name.nd rfl (Or.inl rfl))) (fun _ _ _ _ _ => pts_nil) (fun _ _ _ _ _ => (pe_k cis_letter hr (by omega) (pa_cons (pv 1) pa_nil)))) pa_nil))))))), fun vs ds H A0 hs hl dv hp => ?_⟩
  obtain ⟨d, rfl, hd⟩ := hp
  obtain ⟨v, rfl, d1⟩ := DvA.inv1 dv
  cases d with
  | str x =>
    have hx := hd x rfl
    have hz : x.length ≤ sizeLine := Nat.le_trans hx (by rw [sizeLine_eq]; decide)
    refine gb_if (gt_not (gt_tr (gd_isS (gd_var rfl d1)))) (fun z => nomatch z) fun _ => ?_
    refine gb_ret (gd_andB (gd_chain gd_int (gd_cb (ga_cons (gd_var rfl d1) ga_nil) (gc_lenS hz)) go_leI (gd_c fun _ => .int 8) go_leI) fun _ => gd_cb (ga_cons (gd_lc (f := fun s => .bool (letB s)) (gi_seqS (gd_var rfl d1)) (by rw [sgs_len]; exact hx) fun i y hy v G H1' e dw => gd_call (f := strF letB) (ga_cons (gd_var rfl dw) ga_nil) rfl ⟨y, rfl⟩) ga_nil) gc_allM) rfl
  | _ => exact gb_if (gt_not (gt_tr (gd_isS (gd_var rfl d1)))) (fun _ => gb_ret gd_bl rfl) fun z => nomatch z
abbrev sis_plain : Stmt := topS 14
theorem scis_plain : FnScope ["value", "sign"] ["value"] (defScope sis_plain) := ⟨rfl, rfl, rfl, by decide +kernel, rfl, by decide +kernel, by decide +kernel⟩
theorem ok_is_plain (T : Bt mg) (F : Fun K "is_plain" "is_plain" sis_plain f fd) (cis_plain_sign : Cal P w K mg base 1 "is_plain_sign" (spF K 1 preC (strF plainB))) : FnOk P w K mg base CX0 2 f fd ["value"] (spF K 1 preV (oneF plainD)) := by
  refine fn_gb F scis_plain rfl fun cdv A outer s H1 E hr => ⟨_, (pss_cons (ps_if (pt_not (pt_tr (pe_callB call_isi (by rfl) T.isinstance (by decide +kernel) (pa_cons (pv 0) (pa_cons (pe_bltn (v := .ty "str") rfl T.str (by decide +kernel) rfl) pa_nil))))) (pss_one (ps_ret pe_bl)) pss_nil)
      (pss_one (ps_ret (pe_and (pe_cmpR op_leA (pe_callB cr_len (by rfl) T.len PySem.boot_len (pa_cons (pv 0) pa_nil)) (pe_gl T.MOST_SIGNS) (nomark _)) (pe_one (pe_callB (cr_all rfl) (by rfl) T.all (by decide +kernel) (pa_cons (pe_lc (own := [("sign", 1)]) (by rfl) scis_plain.nd (pi_seq (pv 0)) (blkOk_by (own := [("sign", 1)]) (N := ["value", "sign"]) (sc := defScope sis_plain) (by decide +kernel)) (fun _ _ _ _ _ => (pg_name (i := 1) scis_plain.nd rfl (Or.inl rfl))) (fun _ _ _ _ _ => pts_nil) (fun _ _ _ _ _ => (pe_k cis_plain_sign hr (by omega) (pa_cons (pv 1) pa_nil)))) pa_nil))))))), fun vs ds H A0 hs hl dv hp => ?_⟩
  obtain ⟨d, rfl, hd⟩ := hp
  obtain ⟨v, rfl, d1⟩ := DvA.inv1 dv
  cases d with
  | str x =>
    have hx := hd x rfl
    have hz : x.length ≤ sizeLine := Nat.le_trans hx (by rw [sizeLine_eq]; decide)
    refine gb_if (gt_not (gt_tr (gd_isS (gd_var rfl d1)))) (fun z => nomatch z) fun _ => ?_
    refine gb_ret (gd_andB (gdo (gd_cb (ga_cons (gd_var rfl d1) ga_nil) (gc_lenS hz)) (gd_c fun _ => .int 20) go_leI) fun _ => gd_cb (ga_cons (gd_lc (f := fun s => .bool (plainB s)) (gi_seqS (gd_var rfl d1)) (by rw [sgs_len]; exact hx) fun i y hy v G H1' e dw => gd_call (f := strF plainB) (ga_cons (gd_var rfl dw) ga_nil) rfl ⟨y, rfl, sgs_one (List.mem_of_getElem? hy)⟩) ga_nil) gc_allM) rfl
  | _ => exact gb_if (gt_not (gt_tr (gd_isS (gd_var rfl d1)))) (fun _ => gb_ret gd_bl rfl) fun z => nomatch z
abbrev sis_number : Stmt := topS 15
theorem scis_number : FnScope ["value"] ["value"] (defScope sis_number) := ⟨rfl, rfl, rfl, by decide +kernel, rfl, by decide +kernel, by decide +kernel⟩
theorem ok_is_number (T : Bt mg) (F : Fun K "is_number" "is_number" sis_number f fd) : FnOk P w K mg base CX0 1 f fd ["value"] (spF K 1 preV (oneF numD)) := by
  refine fn_gb F scis_number rfl fun cdv A outer s H1 E hr => ⟨_, (pss_one (ps_ret (pe_and (pe_callB call_isi (by rfl) T.isinstance (by decide +kernel) (pa_cons (pv 0) (pa_cons (pe_bltn (v := .ty "int") rfl T.int (by decide +kernel) rfl) pa_nil))) (pe_and (pe_not (pe_callB call_isi (by rfl) T.isinstance (by decide +kernel) (pa_cons (pv 0) (pa_cons (pe_bltn (v := .ty "bool") rfl T.bool (by decide +kernel) rfl) pa_nil)))) (pe_one (pe_cmpR op_ge (pv 0) pe_int (nomark _))))))), fun vs ds H A0 hs hl dv hp => ?_⟩
  obtain ⟨d, rfl, hd⟩ := hp
  obtain ⟨v, rfl, d1⟩ := DvA.inv1 dv
  cases d with
  | int i => exact gb_ret (gd_andB (gd_isI (gd_var rfl d1)) fun _ => gd_andB (gd_notB (gd_isB (gd_var rfl d1))) fun _ => gdo (gd_var rfl d1) gd_int go_b2) rfl
  | bool b => exact gb_ret (gd_andB (gd_isI (gd_var rfl d1)) fun _ => gd_andB (c := true) (gd_notB (gd_isB (gd_var rfl d1))) fun z => nomatch z) rfl
  | _ => exact gb_ret (gd_andB (c := true) (gd_isI (gd_var rfl d1)) fun z => nomatch z) rfl
/-! ### draws -/
abbrev s_law_draws : Stmt := topS 20
theorem sc_law_draws : FnScope ["cell", "many", "rows", "rest", "k", "state"] ["cell", "many"] (defScope s_law_draws) := ⟨rfl, rfl, rfl, by decide +kernel, rfl, by decide +kernel, by decide +kernel⟩
def preDraws : List PyData → Prop := fun ds => ∃ c m : Int, ds = [.int c, .int m] ∧ 0 ≤ m ∧ m ≤ 100
def resDraws : List PyData → PyData → Prop := fun ds d => ∃ c m : Int, ds = [.int c, .int m] ∧ ∃ ns : List Int, d = .list (ns.map .int) ∧ (ns.length : Int) = m ∧ ∀ n ∈ ns, 0 ≤ n ∧ n < 1000
theorem ok_draws (T : Bt mg) (F : Fun K "_law_draws" "_law_draws" s_law_draws f fd) : FnOk P w K mg base CX0 1 f fd ["cell", "many"] (spD K 2 preDraws resDraws) := by
  refine F.ok sc_law_draws (fun vs H Q E h => h.1) (fun cdv A outer s H1 vs Q E hr h => ?_)
  obtain ⟨hl, H, ds, e, dv, ⟨c, m, rfl, hm0, hm⟩, q⟩ := h
  obtain ⟨v, u, rfl, d1, d2⟩ := DvA.inv2 dv
  have e1 := Dv.int_inv d1
  have e2 := Dv.int_inv d2
  subst e1 e2
  refine ⟨_, (pss_cons (ps_set (i := 2) sc_law_draws.nd rfl (Or.inl rfl) (pe_lst pa_nil))
      (pss_cons (ps_set (i := 3) sc_law_draws.nd rfl (Or.inl rfl) (pe_callTy cr_int (by rfl) T.int (by decide +kernel) (pa_cons (pv 0) pa_nil)))
      (pss_cons (ps_if (pt_cmpR op_ge (pv 3) (pe_op op_pow pe_int pe_int) (nomark _)) (pss_one (ps_for PassesOwn.never rfl (pi_range1 (by rfl) T.range (pa_cons (pv 1) pa_nil)) (pg_name (i := 4) sc_law_draws.nd rfl (Or.inl rfl)) (pss_one (ps_if (pt_cmpR op_gt (pv 3) pe_int (nomark _)) (pss_cons (ps_expr (pe_bm PySem.F.plainAttrs_list PySem.F.slot_list_append PySem.F.type_list_append mt_append (pv 2) (pa_cons (pe_op op_mod (pe_callTy cr_int (by rfl) T.int (by decide +kernel) (pa_cons (pv 3) pa_nil)) pe_int) pa_nil)))
      (pss_one (ps_set (i := 3) sc_law_draws.nd rfl (Or.inl rfl) (pe_op op_fdiv (pv 3) pe_int)))) pss_nil)))) pss_nil)
      (pss_cons (ps_set (i := 5) sc_law_draws.nd rfl (Or.inl rfl) (pe_op op_mod (pe_callTy cr_int (by rfl) T.int (by decide +kernel) (pa_cons (pe_op op_addA (pe_op op_mul (pe_callTy cr_int (by rfl) T.int (by decide +kernel) (pa_cons (pv 0) pa_nil)) pe_int) pe_int) pa_nil)) pe_int))
      (pss_cons (ps_for PassesOwn.never rfl (pi_range1 (by rfl) T.range (pa_cons (pv 1) pa_nil)) (pg_name (i := 4) sc_law_draws.nd rfl (Or.inl rfl)) (pss_cons (ps_set (i := 5) sc_law_draws.nd rfl (Or.inl rfl) (pe_op op_mod (pe_callTy cr_int (by rfl) T.int (by decide +kernel) (pa_cons (pe_op op_addA (pe_op op_addA (pe_op op_mul (pv 5) pe_int) (pe_op op_mul (pv 4) pe_int)) pe_int) pa_nil)) pe_int))
      (pss_one (ps_if (pt_cmpR op_ltA (pe_callB cr_len (by rfl) T.len PySem.boot_len (pa_cons (pv 2) pa_nil)) (pv 1) (nomark _)) (pss_one (ps_expr (pe_bm PySem.F.plainAttrs_list PySem.F.slot_list_append PySem.F.type_list_append mt_append (pv 2) (pa_cons (pe_op op_mod (pe_callTy cr_int (by rfl) T.int (by decide +kernel) (pa_cons (pe_op op_mod (pe_callTy cr_int (by rfl) T.int (by decide +kernel) (pa_cons (pe_op op_addA (pe_op op_mul (pv 5) pe_int) pe_int) pa_nil)) pe_int) pa_nil)) pe_int) pa_nil)))) pss_nil))))
      (pss_one (ps_ret (pv 2)))))))), ?_⟩
  refine ⟨Nat.zero_le _, fun p hp => ?_⟩
  have w0 := Own.new (Pub.refl e) hp (.lst [])
  refine s_set (K := K) (gd_cb (ga_cons (gd_var rfl (.int c)) ga_nil) gc_int) w0.gh fun v2 G2 H2 P2 dv2 => ?_
  have e2 := Dv.int_inv dv2
  subst e2
  have w1 := w0.step P2
  refine s_mid (fun σ' H' => ∃ (rest : Int) (ns : List Int) (x4 : Option V) (G3 : Hp), σ' = [some (.int c), some (.int m), some (.ref p), some (.int rest), x4, none] ∧ Own H H1 G3 H' p (.lst (ns.map V.int)) ∧ (ns.length : Int) ≤ m ∧ ∀ n ∈ ns, 0 ≤ n ∧ n < 1000) ?_ fun rest => ?_
  · rintro σ' H3 ⟨rest, ns, x4, G3, rfl, w3, hl3, hb3⟩
    refine s_set (K := K) (d := .int ((c * 48271 + 11) % 2147483647)) (gdo (gd_cb (ga_cons (gdo (gdo (gd_cb (ga_cons (gd_var rfl (.int c)) ga_nil) gc_int) gd_int (go_ic (.inr (by decide)))) gd_int go_addI) ga_nil) gc_int) gd_int (go_ic (by decide))) w3.gh fun v4 G4 H4 P4 dv4 => ?_
    have e4 := Dv.int_inv dv4
    subst e4
    have w4 := w3.step P4
    refine for_run (gi_rng1 (K := K) (ga_cons (gd_var rfl (.int m)) ga_nil) (by omega) (by omega)) (.refl w4.gh) fun B HB PB => ?_
    refine ⟨fun i σ' G H' => ∃ (st : Int) (ns : List Int) (x4 : Option V), σ' = [some (.int c), some (.int m), some (.ref p), some (.int rest), x4, some (.int st)] ∧ Own H H1 G H' p (.lst (ns.map V.int)) ∧ Same B G ∧ 0 ≤ st ∧ st < 2147483647 ∧ (ns.length : Int) ≤ m ∧ (i : Int) ≤ (ns.length : Int) ∧ ∀ n ∈ ns, 0 ≤ n ∧ n < 1000,
      ⟨_, ns, x4, rfl, w4.step PB, .refl _, Int.emod_nonneg _ (by decide), Int.emod_lt_of_pos _ (by decide), hl3, by omega, hb3⟩, fun i σ' G H' ⟨_, _, _, _, w, s, _⟩ => ⟨s, w.gh⟩, ?_, ?_⟩
    · rintro i d σ' G H' hd ⟨st, ns, x4, rfl, w, sB, hs0, hs1, hlm, hli, hb⟩ v G5 H5 P5 dv5
      have hi : i < m.toNat := by
        have z := (List.getElem?_eq_some_iff.mp hd).1
        rw [List.length_map, upto_len] at z
        exact z
      rw [List.getElem?_map, upto_get hi] at hd
      have hd' : d = .int (0 + (i : Int)) := (Option.some.inj hd).symm
      subst hd'
      have ev := Dv.int_inv dv5
      subst ev
      have w5 := w.step P5
      refine s_set (K := K) (d := .int ((st * 48271 + (0 + (i : Int)) * 69621 + 7) % 2147483647)) (gdo (gd_cb (ga_cons (gdo (gdo (gdo (gd_var rfl (.int st)) gd_int (go_ic (.inr (by decide)))) (gdo (gd_var rfl (.int (0 + (i : Int)))) gd_int (go_ic (.inr (by decide)))) go_addI) gd_int go_addI) ga_nil) gc_int) gd_int (go_ic (by decide))) w5.gh fun v6 G6 H6 P6 dv6 => ?_
      have e6 := Dv.int_inv dv6
      subst e6
      have w6 := w5.step P6
      have sB6 : Same B G6 := sB.trans (P5.hg.trans P6.hg)
      have b0 : 0 ≤ (st * 48271 + (0 + (i : Int)) * 69621 + 7) % 2147483647 := Int.emod_nonneg _ (by decide)
      have b1 : (st * 48271 + (0 + (i : Int)) * 69621 + 7) % 2147483647 < 2147483647 := Int.emod_lt_of_pos _ (by decide)
      refine s_if (gt_test (gdo (K := K) (gd_cb (ga_cons (gd_var rfl w6.dvi) ga_nil) gc_lenL) (gd_var rfl (.int m)) go_ltI)) w6.see (fun c7 H7 s7 => ?_) (fun c7 H7 s7 => ?_)
      · have w7 := w6.test s7
        have c8 := of_decide_eq_true c7
        rw [List.length_map] at c8
        refine s_append (K := K) (d := .int (((st * 48271 + (0 + (i : Int)) * 69621 + 7) % 2147483647 * 69621 + 5) % 2147483629 % 1000)) w7 rfl (gdo (gd_cb (ga_cons (gdo (gd_cb (ga_cons (gdo (gdo (gd_var rfl (.int _)) gd_int (go_ic (.inr (by decide)))) gd_int go_addI) ga_nil) gc_int) gd_int (go_ic (by decide))) ga_nil) gc_int) gd_int (go_ic (by decide))) (by rw [List.length_map, sizeLine_eq]; omega) fun v8 G8 H8 w8 s8 dv8 => ?_
        have e8 := Dv.int_inv dv8
        subst e8
        refine ⟨G8, _, ns ++ [_], some (.int _), rfl, by rw [List.map_append]; exact w8, sB6.trans s8, b0, b1, by rw [List.length_append, List.length_singleton]; omega, by rw [List.length_append, List.length_singleton]; omega, fun n hn => ?_⟩
        rcases List.mem_append.mp hn with h | h
        · exact hb n h
        · rw [List.mem_singleton.mp h]
          exact ⟨Int.emod_nonneg _ (by decide), Int.emod_lt_of_pos _ (by decide)⟩
      · have w7 := w6.test s7
        have c8 := of_decide_eq_false c7
        rw [List.length_map] at c8
        exact ⟨G6, _, ns, some (.int _), rfl, w7, sB6, b0, b1, hlm, by omega, hb⟩
    · rintro σ' G H' ⟨st, ns, x4, rfl, w, sB, hs0, hs1, hlm, hli, hb⟩
      rw [List.length_map, upto_len] at hli
      refine ⟨.ref p, rfl, q (.list (ns.map .int)) ⟨c, m, rfl, ns, rfl, by omega, hb⟩ _ _ _ w.open_ w.dvi⟩
  · refine s_if (b := decide ((10 : Int) ^ 18 ≤ c)) (gt_test (gdo (K := K) (gd_var rfl (.int c)) (gdo gd_int gd_int (go_ic ⟨by decide, by decide, by decide⟩)) go_b2)) w1.gh (fun c7 H7 s7 => ?_) (fun c7 H7 s7 => ?_)
    · have w7 := w1.test s7
      refine for_run (gi_rng1 (K := K) (ga_cons (gd_var rfl (.int m)) ga_nil) (by omega) (by omega)) (.refl w7.gh) fun B HB PB => ?_
      refine ⟨fun i σ' G H' => ∃ (r : Int) (ns : List Int) (x4 : Option V), σ' = [some (.int c), some (.int m), some (.ref p), some (.int r), x4, none] ∧ Own H H1 G H' p (.lst (ns.map V.int)) ∧ Same B G ∧ (ns.length : Int) ≤ (i : Int) ∧ ∀ n ∈ ns, 0 ≤ n ∧ n < 1000,
        ⟨c, [], none, rfl, w7.step PB, .refl _, Int.le_refl _, List.forall_mem_nil _⟩, fun i σ' G H' ⟨_, _, _, _, w, s, _⟩ => ⟨s, w.gh⟩, ?_, ?_⟩
      · rintro i d σ' G H' hd ⟨r, ns, x4, rfl, w, sB, hl, hb⟩ v G5 H5 P5 dv5
        have hi : i < m.toNat := by
          have z := (List.getElem?_eq_some_iff.mp hd).1
          rw [List.length_map, upto_len] at z
          exact z
        have w5 := w.step P5
        refine s_if (gt_test (gdo (K := K) (gd_var rfl (.int r)) gd_int go_b2)) w5.gh (fun c8 H8 s8 => ?_) (fun c8 H8 s8 => ?_)
        · have w8 := w5.test s8
          refine s_append (K := K) (d := .int (r % 1000)) w8 rfl (gdo (gd_cb (ga_cons (gd_var rfl (.int r)) ga_nil) gc_int) gd_int (go_ic (by decide))) (by rw [List.length_map, sizeLine_eq]; omega) fun v9 G9 H9 w9 s9 dv9 => ?_
          have e9 := Dv.int_inv dv9
          subst e9
          refine s_setE (K := K) (d := .int (r / 1000)) (gdo (gd_var rfl (.int r)) gd_int (go_ic ⟨by decide, by decide⟩)) w9.gh fun va Ga Ha Pa dva => ?_
          have ea := Dv.int_inv dva
          subst ea
          refine ⟨Ga, _, ns ++ [_], some v, rfl, by rw [List.map_append]; exact w9.step Pa, sB.trans (P5.hg.trans (s9.trans Pa.hg)), by rw [List.length_append, List.length_singleton]; omega, fun n hn => ?_⟩
          rcases List.mem_append.mp hn with h | h
          · exact hb n h
          · rw [List.mem_singleton.mp h]
            exact ⟨Int.emod_nonneg _ (by decide), Int.emod_lt_of_pos _ (by decide)⟩
        · exact ⟨G5, r, ns, some v, rfl, w5.test s8, sB.trans P5.hg, by omega, hb⟩
      · rintro σ' G H' ⟨r, ns, x4, rfl, w, sB, hl, hb⟩
        rw [List.length_map, upto_len] at hl
        exact rest _ _ ⟨r, ns, x4, G, rfl, w, by omega, hb⟩
    · exact rest _ _ ⟨c, [], none, G2, rfl, w1.test s7, by omega, List.forall_mem_nil _⟩
end
end LW
end
section
set_option Elab.async false
set_option linter.all false
set_option maxRecDepth 100000
set_option maxHeartbeats 4000000
namespace LW
open PySem PySem.Spec PyProof.Rows L2 DL
section
variable {P : Program} {w : World} {K : PySem.W.Frag} {mg : Str → Option Value} {base : Heap} {f : Addr} {fd : FuncData}
/-! ### data compared -/
abbrev s_law_same : Stmt := topS 21
theorem sc_law_same : FnScope ["told", "due", "k"] ["told", "due"] (defScope s_law_same) := ⟨rfl, rfl, rfl, by decide +kernel, rfl, by decide +kernel, by decide +kernel⟩
def preSame (n : Nat) : List PyData → Prop := fun ds => ∃ a b, ds = [a, b] ∧ DLt n b
noncomputable def fSame : List PyData → PyData
  | [a, b] => .bool (sameD a b)
  | _ => .none
theorem seq_same {xs ys : List PyData} (hl : xs.length = ys.length) (h : ∀ j, j < ys.length → xs[j]? = ys[j]?) : xs = ys := by
  apply List.ext_getElem? 
  intro j
  by_cases hj : j < ys.length
  · exact h j hj
  · rw [List.getElem?_eq_none (by omega), List.getElem?_eq_none (by omega)]
theorem same_loop {n : Nat} {D : Ends} {H H1 Hc G : Hp} {u v : V} {xs ys : List PyData} {wi : TI} (e : Same H H1) (P0 : Pub H H1 G Hc) (hl : xs.length = ys.length) (hd : ∀ y ∈ ys, DLt n y)
    {ta tb : TE} {r : TS} (ga : ∀ (i : Nat) (x : PyData) (w : V) (G' H' : Hp), xs[i]? = some x → Same G G' → w = .int (i : Int) → GD K ta [some u, some v, some w] G' H' x) (gb : ∀ (i : Nat) (y : PyData) (w : V) (G' H' : Hp), ys[i]? = some y → Same G G' → w = .int (i : Int) → GD K tb [some u, some v, some w] G' H' y)
    (gi : GI K wi [some u, some v, none] G Hc ((upto 0 ys.length).map .int))
    (qf : xs ≠ ys → ∀ G' H', Pub H H1 G' H' → D.rt (.bl false) H') (qt : xs = ys → ∀ x2 G' H', Pub H H1 G' H' → r D [some u, some v, x2] H') :
    tSeq (tFor wi (gName 2) (tIfS (tNot (tTr K (tCall (spF K 2 (preSame n) fSame) [] E0 (tCons ta (tCons tb tNil))))) (tRet (tC (.bl false))) tNext)) r D [some u, some v, none] Hc := by
  refine for_run gi (.refl P0.gh) fun B HB PB => ?_
  refine ⟨fun i σ' G' H' => ∃ x2, σ' = [some u, some v, x2] ∧ Pub H H1 G' H' ∧ Same G G' ∧ Same B G' ∧ ∀ j, j < i → xs[j]? = ys[j]?, ⟨none, rfl, P0.trans PB, PB.hg, .refl _, fun j hj => absurd hj (Nat.not_lt_zero _)⟩, fun i σ' G' H' ⟨_, _, p, _, s, _⟩ => ⟨s, p.gh⟩, ?_, ?_⟩
  · rintro i d σ' G' H' hdd ⟨x2, rfl, p, s1, s2, hj⟩ w G2 H3 P2 dw
    have hi : i < ys.length := by
      have z := (List.getElem?_eq_some_iff.mp hdd).1
      rw [List.length_map, upto_len] at z
      exact z
    rw [List.getElem?_map, upto_get hi] at hdd
    have hw := (Option.some.inj hdd).symm
    subst hw
    have ew := Dv.int_inv dw
    rw [Int.zero_add] at ew
    have hx : xs[i]? = some xs[i] := List.getElem?_eq_getElem (by omega)
    have hy : ys[i]? = some ys[i] := List.getElem?_eq_getElem hi
    refine s_if (gt_not (gt_tr (gd_call (f := fSame) (ga_cons (ga i _ w G2 _ hx (s1.trans P2.hg) ew) (ga_cons (gb i _ w G2 _ hy (s1.trans P2.hg) ew) ga_nil)) rfl ⟨_, _, rfl, hd _ (List.getElem_mem hi)⟩))) P2.gh (fun c H4 e4 => ?_) (fun c H4 e4 => ?_)
    · refine qf (fun z => ?_) G2 H4 ⟨(p.trans P2).hg, (p.trans P2).gh.trans e4, (p.trans P2).hh.trans e4, (p.trans P2).pr⟩
      subst z
      have z2 : sameD xs[i] xs[i] = true := sameD_eq rfl
      have c' : (!sameD xs[i] xs[i]) = true := c
      rw [z2] at c'
      cases c'
    · have c' : (!sameD xs[i] ys[i]) = false := c
      have z2 : xs[i] = ys[i] := sameD_iff.mp (by simpa using c')
      refine ⟨G2, some w, rfl, ⟨(p.trans P2).hg, (p.trans P2).gh.trans e4, (p.trans P2).hh.trans e4, (p.trans P2).pr⟩, s1.trans P2.hg, s2.trans P2.hg, fun j hj' => ?_⟩
      by_cases hji : j = i
      · subst hji
        rw [hx, hy, z2]
      · exact hj j (by omega)
  · rintro σ' G' H' ⟨x2, rfl, p, s1, s2, hj⟩
    rw [List.length_map, upto_len] at hj
    exact qt (seq_same hl hj) x2 G' H' p
theorem ok_same_step {n : Nat} (T : Bt mg) (F : Fun K "_law_same" "_law_same" s_law_same f fd) (c_law_same : Cal P w K mg base n "_law_same" (spF K 2 (preSame n) fSame)) : FnOk P w K mg base CX0 (n + 1) f fd ["told", "due"] (spF K 2 (preSame (n + 1)) fSame) := by
  refine F.ok sc_law_same (fun vs H Q E h => h.1) (fun cdv A outer s H1 vs Q E hr h => ?_)
  obtain ⟨hl, H, ds, e, dv, ⟨a, b, rfl, hb⟩, q⟩ := h
  obtain ⟨u, v, rfl, du, dw⟩ := DvA.inv2 dv
  have q' : ∀ c, sameD a b = c → ∀ G H2, Pub H H1 G H2 → Q (.bl c) H2 := fun c hc G H2 p => q (.bool c) (by rw [← hc]; rfl) _ G H2 p (.bl c)
  have gu : ∀ {x2 : Option V} {A' : Hp}, GD K (tVar 0) [some u, some v, x2] H A' a := fun {x2 A'} => gd_var rfl du
  have gu' : ∀ {x2 : Option V} {G' A' : Hp}, Same H G' → GD K (tVar 0) [some u, some v, x2] G' A' a := fun {x2 G' A'} s => gd_var rfl (du.to s)
  have gv : ∀ {x2 : Option V} {A' : Hp}, GD K (tVar 1) [some u, some v, x2] H A' b := fun {x2 A'} => gd_var rfl dw
  have gv' : ∀ {x2 : Option V} {G' A' : Hp}, Same H G' → GD K (tVar 1) [some u, some v, x2] G' A' b := fun {x2 G' A'} s => gd_var rfl (dw.to s)
  refine ⟨_, (pss_cons (ps_if (pt_cmpR op_is1 (pv 1) pe_non (nomark _)) (pss_one (ps_ret (pe_cmpR op_is1 (pv 0) pe_non (nomark _)))) pss_nil)
      (pss_cons (ps_if (pt_cmpR op_is1 (pv 1) pe_bl (nomark _)) (pss_one (ps_ret (pe_cmpR op_is1 (pv 0) pe_bl (nomark _)))) pss_nil)
      (pss_cons (ps_if (pt_cmpR op_is1 (pv 1) pe_bl (nomark _)) (pss_one (ps_ret (pe_cmpR op_is1 (pv 0) pe_bl (nomark _)))) pss_nil)
      (pss_cons (ps_if (pt_tr (pe_callB call_isi (by rfl) T.isinstance (by decide +kernel) (pa_cons (pv 1) (pa_cons (pe_bltn (v := .ty "int") rfl T.int (by decide +kernel) rfl) pa_nil)))) (pss_one (ps_ret (pe_and (pe_callB call_isi (by rfl) T.isinstance (by decide +kernel) (pa_cons (pv 0) (pa_cons (pe_bltn (v := .ty "int") rfl T.int (by decide +kernel) rfl) pa_nil))) (pe_and (pe_not (pe_callB call_isi (by rfl) T.isinstance (by decide +kernel) (pa_cons (pv 0) (pa_cons (pe_bltn (v := .ty "bool") rfl T.bool (by decide +kernel) rfl) pa_nil)))) (pe_one (pe_cmpR (op_eqA hr.units) (pv 0) (pv 1) (nomark _))))))) pss_nil)
      (pss_cons (ps_if (pt_tr (pe_callB call_isi (by rfl) T.isinstance (by decide +kernel) (pa_cons (pv 1) (pa_cons (pe_bltn (v := .ty "str") rfl T.str (by decide +kernel) rfl) pa_nil)))) (pss_one (ps_ret (pe_and (pe_callB call_isi (by rfl) T.isinstance (by decide +kernel) (pa_cons (pv 0) (pa_cons (pe_bltn (v := .ty "str") rfl T.str (by decide +kernel) rfl) pa_nil))) (pe_one (pe_cmpR (op_eqA hr.units) (pv 0) (pv 1) (nomark _)))))) pss_nil)
      (pss_cons (ps_if (PW.pt (pw_and (pt_tr (pe_callB call_isi (by rfl) T.isinstance (by decide +kernel) (pa_cons (pv 1) (pa_cons (pe_bltn (v := .ty "tuple") rfl T.tuple (by decide +kernel) rfl) pa_nil)))) (pw_and1 (pt_not (pt_tr (pe_callB call_isi (by rfl) T.isinstance (by decide +kernel) (pa_cons (pv 0) (pa_cons (pe_bltn (v := .ty "tuple") rfl T.tuple (by decide +kernel) rfl) pa_nil)))))))) (pss_one (ps_ret pe_bl)) pss_nil)
      (pss_cons (ps_if (PW.pt (pw_and (pt_tr (pe_callB call_isi (by rfl) T.isinstance (by decide +kernel) (pa_cons (pv 1) (pa_cons (pe_bltn (v := .ty "list") rfl T.list (by decide +kernel) rfl) pa_nil)))) (pw_and1 (pt_not (pt_tr (pe_callB call_isi (by rfl) T.isinstance (by decide +kernel) (pa_cons (pv 0) (pa_cons (pe_bltn (v := .ty "list") rfl T.list (by decide +kernel) rfl) pa_nil)))))))) (pss_one (ps_ret pe_bl)) pss_nil)
      (pss_cons (ps_if (pt_cmpR (op_neA hr.units) (pe_callB cr_len (by rfl) T.len PySem.boot_len (pa_cons (pv 0) pa_nil)) (pe_callB cr_len (by rfl) T.len PySem.boot_len (pa_cons (pv 1) pa_nil)) (nomark _)) (pss_one (ps_ret pe_bl)) pss_nil)
      (pss_cons (ps_for PassesOwn.never rfl (pi_range1 (by rfl) T.range (pa_cons (pe_callB cr_len (by rfl) T.len PySem.boot_len (pa_cons (pv 1) pa_nil)) pa_nil)) (pg_name (i := 2) sc_law_same.nd rfl (Or.inl rfl)) (pss_one (ps_if (pt_not (pt_tr (pe_k c_law_same hr (by omega) (pa_cons (pe_ix ix_seq (pv 0) (pv 2) (fun _ _ => rfl)) (pa_cons (pe_ix ix_seq (pv 1) (pv 2) (fun _ _ => rfl)) pa_nil))))) (pss_one (ps_ret pe_bl)) pss_nil)))
      (pss_one (ps_ret pe_bl))))))))))), ?_⟩
  have go : ∀ {ts : TS}, GB K ts [some u, some v, none] H H1 (fun d => d = .bool (sameD a b)) → ts { nx := fun _ H' => Q .non H', rt := Q } [some u, some v, none] H1 := fun {ts} g => g H H1 (.refl e) _ fun d v G H2 r p dv => by
    subst r
    have ev := Dv.bl_inv dv
    subst ev
    exact q' _ rfl G H2 p
  cases b with
  | none =>
    refine go (gb_if (gt_test (gdo gv gd_non go_isN)) (fun _ => gb_ret (gdo gu gd_non go_isN) ?_) fun z => nomatch z)
    cases a <;> first | exact sameD_yb rfl rfl | exact sameD_nb (fun z => nomatch z) rfl
  | bool c =>
    refine go (gb_if (gt_test (gdo gv gd_non go_isN)) (fun z => nomatch z) fun _ => ?_)
    cases c with
    | true =>
      refine gb_if (gt_test (gdo gv gd_bl go_isB)) (fun _ => gb_ret (gdo gu gd_bl go_isB) ?_) fun z => nomatch z
      cases a with
      | bool x => cases x <;> first | exact sameD_yb rfl rfl | exact sameD_nb (fun z => nomatch z) rfl
      | _ => exact sameD_nb (fun z => nomatch z) rfl
    | false =>
      refine gb_if (gt_test (gdo gv gd_bl go_isB)) (fun z => nomatch z) fun _ => gb_if (gt_test (gdo gv gd_bl go_isB)) (fun _ => gb_ret (gdo gu gd_bl go_isB) ?_) fun z => nomatch z
      cases a with
      | bool x => cases x <;> first | exact sameD_yb rfl rfl | exact sameD_nb (fun z => nomatch z) rfl
      | _ => exact sameD_nb (fun z => nomatch z) rfl
  | int j =>
    refine go (gb_if (gt_test (gdo gv gd_non go_isN)) (fun z => nomatch z) fun _ => gb_if (gt_test (gdo gv gd_bl go_isB)) (fun z => nomatch z) fun _ => gb_if (gt_test (gdo gv gd_bl go_isB)) (fun z => nomatch z) fun _ => gb_if (gt_tr (gd_isI gv)) (fun _ => ?_) fun z => nomatch z)
    cases a with
    | int i =>
      refine gb_ret (gd_andB (gd_isI gu) fun _ => gd_andB (gd_notB (gd_isB gu)) fun _ => gdo gu gv go_eqI) ?_
      by_cases h : i = j
      · subst h
        rw [sameD_eq rfl, decide_eq_true rfl]; rfl
      · rw [sameD_ne (fun z => h (PyData.int.inj z)), decide_eq_false h]; rfl
    | bool x => exact gb_ret (gd_andB (gd_isI gu) fun _ => gd_andB (c := true) (gd_notB (gd_isB gu)) fun z => nomatch z) (sameD_nb (fun z => nomatch z) rfl)
    | _ => exact gb_ret (gd_andB (c := true) (gd_isI gu) fun z => nomatch z) (sameD_nb (fun z => nomatch z) rfl)
  | str y =>
    refine go (gb_if (gt_test (gdo gv gd_non go_isN)) (fun z => nomatch z) fun _ => gb_if (gt_test (gdo gv gd_bl go_isB)) (fun z => nomatch z) fun _ => gb_if (gt_test (gdo gv gd_bl go_isB)) (fun z => nomatch z) fun _ => gb_if (gt_tr (gd_isI gv)) (fun z => nomatch z) fun _ => gb_if (gt_tr (gd_isS gv)) (fun _ => ?_) fun z => nomatch z)
    cases a with
    | str x =>
      refine gb_ret (gd_andB (gd_isS gu) fun _ => gdo gu gv go_eqS) ?_
      by_cases h : x = y
      · subst h
        rw [sameD_eq rfl, decide_eq_true rfl]; rfl
      · rw [sameD_ne (fun z => h (PyData.str.inj z)), decide_eq_false h]; rfl
    | _ => exact gb_ret (gd_andB (c := true) (gd_isS gu) fun z => nomatch z) (sameD_nb (fun z => nomatch z) rfl)
  | dict _ => exact hb.elim
  | tuple ys =>
    obtain ⟨hyl, hys⟩ := hb
    refine s_if (gt_test (gdo gv gd_non go_isN)) e (fun z => nomatch z) fun _ Ha ea => s_if (gt_test (gdo gv gd_bl go_isB)) (e.trans ea) (fun z => nomatch z) fun _ Hb eb => s_if (gt_test (gdo gv gd_bl go_isB)) ((e.trans ea).trans eb) (fun z => nomatch z) fun _ Hc ec => s_if (gt_tr (gd_isI gv)) (((e.trans ea).trans eb).trans ec) (fun z => nomatch z) fun _ Hd ed => s_if (gt_tr (gd_isS gv)) ((((e.trans ea).trans eb).trans ec).trans ed) (fun z => nomatch z) fun _ He ee => ?_
    have s1 := ((((ea.trans eb).trans ec).trans ed).trans ee)
    have se : Same H He := e.trans s1
    have pe : Pub H H1 H He := ⟨.refl _, se, s1, fun b h _ => h⟩
    cases a with
    | tuple xs =>
      refine s_if (gt_and (gt_tr (gd_isT gv)) fun _ => gt_not (gt_tr (gd_isT gu))) se (fun z => nomatch z) fun _ Hf ef => s_if (gt_and (c := true) (gt_tr (gd_isL gv)) fun z => nomatch z) (se.trans ef) (fun z => nomatch z) fun _ Hg eg => ?_
      have pg : Pub H H1 H Hg := ⟨.refl _, (se.trans ef).trans eg, (s1.trans ef).trans eg, fun b h _ => h⟩
      refine s_if (gt_test (gdo (gd_cb (ga_cons gu ga_nil) gc_lenT) (gd_cb (ga_cons gv ga_nil) gc_lenT) go_neI)) pg.gh (fun c Hh eh => ?_) fun c Hh eh => ?_
      · have hne : ¬ ((xs.length : Int) = (ys.length : Int)) := of_decide_eq_false (by simpa using c)
        exact q' false (sameD_ne fun z => hne (by cases z; rfl)) H Hh ⟨.refl _, pg.gh.trans eh, pg.hh.trans eh, fun b h _ => h⟩
      · have hle : (xs.length : Int) = (ys.length : Int) := of_decide_eq_true (by simpa using c)
        refine same_loop e (G := H) ⟨.refl _, pg.gh.trans eh, pg.hh.trans eh, fun b h _ => h⟩ (by omega) hys (fun i x w G' H' hx s hw => gdo (gu' s) (gd_var rfl (by rw [hw]; exact .int _)) (go_ixT (atI_nat hx))) (fun i x w G' H' hx s hw => gdo (gv' s) (gd_var rfl (by rw [hw]; exact .int _)) (go_ixT (atI_nat hx))) (gi_rng1 (ga_cons (gd_cb (ga_cons gv ga_nil) gc_lenT) ga_nil) (by omega) (by omega)) (fun h G' H' p => q' false (sameD_ne fun z => h (PyData.tuple.inj z)) G' H' p) fun h x2 G' H' p => q' true (sameD_eq (by rw [h])) G' H' p
    | _ =>
      refine s_if (gt_and (gt_tr (gd_isT gv)) fun _ => gt_not (gt_tr (gd_isT gu))) se (fun _ Hf ef => ?_) fun z => nomatch z
      exact q' false (sameD_ne fun z => nomatch z) H Hf ⟨.refl _, se.trans ef, s1.trans ef, fun b h _ => h⟩
  | list ys =>
    obtain ⟨hyl, hys⟩ := hb
    refine s_if (gt_test (gdo gv gd_non go_isN)) e (fun z => nomatch z) fun _ Ha ea => s_if (gt_test (gdo gv gd_bl go_isB)) (e.trans ea) (fun z => nomatch z) fun _ Hb eb => s_if (gt_test (gdo gv gd_bl go_isB)) ((e.trans ea).trans eb) (fun z => nomatch z) fun _ Hc ec => s_if (gt_tr (gd_isI gv)) (((e.trans ea).trans eb).trans ec) (fun z => nomatch z) fun _ Hd ed => s_if (gt_tr (gd_isS gv)) ((((e.trans ea).trans eb).trans ec).trans ed) (fun z => nomatch z) fun _ He ee => ?_
    have s1 := ((((ea.trans eb).trans ec).trans ed).trans ee)
    have se : Same H He := e.trans s1
    have pe : Pub H H1 H He := ⟨.refl _, se, s1, fun b h _ => h⟩
    cases a with
    | list xs =>
      refine s_if (gt_and (c := true) (gt_tr (gd_isT gv)) fun z => nomatch z) se (fun z => nomatch z) fun _ Hf ef => s_if (gt_and (gt_tr (gd_isL gv)) fun _ => gt_not (gt_tr (gd_isL gu))) (se.trans ef) (fun z => nomatch z) fun _ Hg eg => ?_
      have pg : Pub H H1 H Hg := ⟨.refl _, (se.trans ef).trans eg, (s1.trans ef).trans eg, fun b h _ => h⟩
      refine s_if (gt_test (gdo (gd_cb (ga_cons gu ga_nil) gc_lenL) (gd_cb (ga_cons gv ga_nil) gc_lenL) go_neI)) pg.gh (fun c Hh eh => ?_) fun c Hh eh => ?_
      · have hne : ¬ ((xs.length : Int) = (ys.length : Int)) := of_decide_eq_false (by simpa using c)
        exact q' false (sameD_ne fun z => hne (by cases z; rfl)) H Hh ⟨.refl _, pg.gh.trans eh, pg.hh.trans eh, fun b h _ => h⟩
      · have hle : (xs.length : Int) = (ys.length : Int) := of_decide_eq_true (by simpa using c)
        refine same_loop e (G := H) ⟨.refl _, pg.gh.trans eh, pg.hh.trans eh, fun b h _ => h⟩ (by omega) hys (fun i x w G' H' hx s hw => gdo (gu' s) (gd_var rfl (by rw [hw]; exact .int _)) (go_ixL (atI_nat hx))) (fun i x w G' H' hx s hw => gdo (gv' s) (gd_var rfl (by rw [hw]; exact .int _)) (go_ixL (atI_nat hx))) (gi_rng1 (ga_cons (gd_cb (ga_cons gv ga_nil) gc_lenL) ga_nil) (by omega) (by omega)) (fun h G' H' p => q' false (sameD_ne fun z => h (PyData.list.inj z)) G' H' p) fun h x2 G' H' p => q' true (sameD_eq (by rw [h])) G' H' p
    | _ =>
      refine s_if (gt_and (c := true) (gt_tr (gd_isT gv)) fun z => nomatch z) se (fun z => nomatch z) fun _ Hf ef => s_if (gt_and (gt_tr (gd_isL gv)) fun _ => gt_not (gt_tr (gd_isL gu))) (se.trans ef) (fun _ Hg eg => ?_) fun z => nomatch z
      exact q' false (sameD_ne fun z => nomatch z) H Hg ⟨.refl _, (se.trans ef).trans eg, (s1.trans ef).trans eg, fun b h _ => h⟩
theorem cal_same (T : Bt mg) (F : Fun K "_law_same" "_law_same" s_law_same f fd) (hm : mg "_law_same" = some (.ref f)) (b : Binds K fd ["told", "due"] []) : ∀ n, Cal P w K mg base n "_law_same" (spF K 2 (preSame n) fSame)
  | 0 => cal_mk F (fn_none fun vs H Q E h => by
      obtain ⟨_, _, _, _, _, ⟨a, b, _, hb⟩, _⟩ := h
      exact hb) hm b
  | n + 1 => cal_mk F (ok_same_step T F (cal_same T F hm b n)) hm b
end
end LW
end
section
set_option Elab.async false
set_option linter.all false
set_option maxRecDepth 100000
set_option maxHeartbeats 4000000
namespace LW
open PySem PySem.Spec PyProof.Rows L2 DL LM
/-! ### sorted names -/
def rSortD : List V → Hp → VK → Prop := fun xs H Q => ∃ (a : Addr) (kvs : List (Key × V)) (ks : List Str), xs = [.ref a] ∧ Rd H a (.dK kvs) ∧ kvs.map (·.1) = ks.map Sum.inr ∧ ks.length < 64 ∧
    ∀ ys p, ys.Perm ks → sortedS ys = true → H p = none → Q (.ref p) (upd H p (.lst (ys.map V.str)))
theorem ks_sorted : ∀ ys : List Str, (∀ y, y ∈ ys → y ∈ KS) → ys.Nodup → sortedS ys = true → ys = KS.filter fun k => decide (k ∈ ys)
  | [], _, _, _ => by decide
  | [a], h, d, s => by
    have ha := h a (by simp)
    simp [KS] at ha
    revert d s
    rcases ha with rfl | rfl | rfl <;> decide +kernel
  | [a, b], h, d, s => by
    have ha := h a (by simp)
    have hb := h b (by simp)
    simp [KS] at ha hb
    revert d s
    rcases ha with rfl | rfl | rfl <;> rcases hb with rfl | rfl | rfl <;> decide +kernel
  | [a, b, c], h, d, s => by
    have ha := h a (by simp)
    have hb := h b (by simp)
    have hc := h c (by simp)
    simp [KS] at ha hb hc
    revert d s
    rcases ha with rfl | rfl | rfl <;> rcases hb with rfl | rfl | rfl <;> rcases hc with rfl | rfl | rfl <;> decide +kernel
  | a :: b :: c :: e :: r, h, d, s => by
    have ha := h a (by simp)
    have hb := h b (by simp)
    have hc := h c (by simp)
    have he := h e (by simp)
    simp [KS] at ha hb hc he
    have d4 : [a, b, c, e].Nodup := d.sublist (by simp)
    exfalso
    revert d4
    rcases ha with rfl | rfl | rfl <;> rcases hb with rfl | rfl | rfl <;> rcases hc with rfl | rfl | rfl <;> rcases he with rfl | rfl | rfl <;> decide +kernel
theorem inr_names : ∀ {ks : List Key}, (∀ e, e ∈ ks → ∃ k : Str, k ∈ KS ∧ e = .inr k) → ∃ zs : List Str, ks = zs.map Sum.inr ∧ ∀ z, z ∈ zs → z ∈ KS
  | [], _ => ⟨[], rfl, fun _ h => nomatch h⟩
  | e :: ks, h => by
    obtain ⟨k, hk, rfl⟩ := h e List.mem_cons_self
    obtain ⟨zs, rfl, hz⟩ := inr_names fun e he => h e (List.mem_cons_of_mem _ he)
    exact ⟨k :: zs, rfl, fun z hz' => by
      rcases List.mem_cons.mp hz' with rfl | h'
      · exact hk
      · exact hz z h'⟩
theorem valV_mem {kvs : List (Key × V)} {k : Key} : (valV kvs k).isSome = true ↔ k ∈ kvs.map (·.1) := by
  rw [← valV_any, List.any_eq_true, List.mem_map]
  constructor
  · rintro ⟨e, h, c⟩
    exact ⟨e, h, of_decide_eq_true c⟩
  · rintro ⟨e, h, c⟩
    exact ⟨e, h, decide_eq_true c⟩
theorem MkK.names {kvs : List (Key × V)} {f : Str → Option Str} (h : MkK kvs f) : ∃ zs : List Str, kvs.map (·.1) = zs.map Sum.inr ∧ (∀ z, z ∈ zs → z ∈ KS) ∧ zs.Nodup ∧ ∀ k, k ∈ zs ↔ (f k).isSome = true := by
  obtain ⟨h1, h2, h3⟩ := h
  obtain ⟨zs, e, hz⟩ := inr_names (ks := kvs.map (·.1)) fun e he => by
    obtain ⟨x, hx, rfl⟩ := List.mem_map.mp he
    exact h3 x hx
  refine ⟨zs, e, hz, ?_, fun k => ?_⟩
  · rw [e] at h1
    exact List.Pairwise.of_map Sum.inr (fun a b h (z : a = b) => h (z ▸ rfl)) h1
  · have m := valV_mem (kvs := kvs) (k := .inr k)
    rw [h2, e] at m
    rw [Option.isSome_map] at m
    rw [m]
    simp
def namesOf (f : Str → Option Str) : List Str := KS.filter fun k => (f k).isSome
theorem MkK.sorted {kvs : List (Key × V)} {f : Str → Option Str} {zs ys : List Str} (hz : ∀ z, z ∈ zs → z ∈ KS) (hd : zs.Nodup) (hm : ∀ k, k ∈ zs ↔ (f k).isSome = true) (hp : ys.Perm zs) (hs : sortedS ys = true) : ys = namesOf f := by
  have e := ks_sorted ys (fun y hy => hz y (hp.mem_iff.mp hy)) (hp.nodup_iff.mpr hd) hs
  rw [e]
  unfold namesOf
  refine List.filter_congr fun k _ => ?_
  rw [Bool.eq_iff_iff, decide_eq_true_iff, hp.mem_iff, hm]
section
variable {K : PySem.W.Frag} {H A : Hp} {σ : L2.St} {te tn : TE} {a : Addr} {f : Str → Option Str}
theorem small_names {zs : List Str} (hz : ∀ z, z ∈ zs → z ∈ KS) (hd : zs.Nodup) : zs.length ≤ 3 := by
  have h := List.Nodup.length_le_of_subset hd hz
  exact h
theorem gd_sortM (g : GV te σ H A (.ref a)) (m : MkD A a f) : GD K (tCB rSortD (tCons te tNil)) σ H A (.list ((namesOf f).map .str)) := fun H0 H1 p Q q => g.to p fun G H2 p2 => by
  obtain ⟨kvs, e, mk⟩ := m
  obtain ⟨zs, e2, hz, hd, hm⟩ := MkK.names mk
  refine ⟨a, kvs, zs, rfl, .inl (p2.hh _ _ (p.hh _ _ e)), e2, by have := small_names hz hd; omega, fun ys b hp hs hb => ?_⟩
  rw [MkK.sorted (kvs := kvs) hz hd hm hp hs]
  exact q _ _ _ (p2.new hb _) (.lst (.inl upd_same) DvA.strs)
theorem gd_markG {k v : Str} (g : GV te σ H A (.ref a)) (m : MkD A a f) (gn : GD K tn σ H A (.str k)) (e : f k = some v) : GD K (tDGet te tn) σ H A (.str v) := fun H0 H1 p Q q => g.to p fun G H2 p2 => gn.to (p.trans p2) fun x G3 H3 p3 dx => by
  obtain ⟨kvs, h, mk⟩ := m
  have ex := Dv.str_inv dx
  subst ex
  refine ⟨a, .str v, rfl, ?_, q _ G3 H3 (p2.trans p3) (.str _)⟩
  have hv := mk.2.1 k
  rw [e] at hv
  rw [show some (V.str v) = valV kvs (.inr k) from hv.symm]
  exact DGet.k (k := .inr k) (p3.hh _ _ (p2.hh _ _ (p.hh _ _ h)))
end
theorem marks_eq (f : Str → Option Str) : ∀ ks : List Str, (ks.filter fun k => (f k).isSome).map (fun k => PyData.tuple [.str k, .str ((f k).getD "")]) = (ks.filterMap fun k => (f k).map fun v => (k, v)).map fun p => .tuple [.str p.1, .str p.2]
  | [] => rfl
  | k :: ks => by
    rw [List.filter_cons, List.filterMap_cons]
    cases h : f k with
    | none => simpa using marks_eq f ks
    | some v =>
      simp [h]
      simpa using marks_eq f ks
section
variable {P : Program} {W : World} {K : PySem.W.Frag} {mg : Str → Option Value} {base : Heap} {f : Addr} {fd : FuncData}
def ar1 : Nat → List PyData := fun n => [ofN n]
abbrev s_law_shape : Stmt := topS 23
theorem sc_law_shape : FnScope ["world", "n", "marks", "pairs", "name", "k"] ["world", "n"] (defScope s_law_shape) := ⟨rfl, rfl, rfl, by decide +kernel, rfl, by decide +kernel, by decide +kernel⟩
def preShape (j : Nat) (w : Wm) (n : Nat) : Prop := Ht w.ns j n
theorem ok_shape_step {j : Nat} (T : Bt mg) (F : Fun K "_law_shape" "_law_shape" s_law_shape f fd) (c_law_shape : Cal P W K mg base j "_law_shape" (spR K 1 ar1 (preShape j) fun w n => shapeF j w.ns n)) : FnOk P W K mg base CX0 (j + 1) f fd ["world", "n"] (spR K 1 ar1 (preShape (j + 1)) fun w n => shapeF (j + 1) w.ns n) := by
  refine fn_R F sc_law_shape rfl fun cdv A outer s H1 E hr => ⟨_, (pss_cons (ps_if (pt_cmpR (op_eqA hr.units) (pe_ix ix_seq (pe_dget (hu_of hr) (pv 0) pe_str (fun _ _ => rfl)) (pv 1) (fun _ _ => rfl)) pe_str (nomark _)) (pss_one (ps_ret (RR.pe_tupF (pa_cons pe_str (pa_cons (pv 1) (pa_cons (pe_ix ix_seq (pe_dget (hu_of hr) (pv 0) pe_str (fun _ _ => rfl)) (pv 1) (fun _ _ => rfl)) pa_nil)))))) pss_nil)
      (pss_cons (ps_set (i := 2) sc_law_shape.nd rfl (Or.inr rfl) (pe_ix ix_seq (pe_dget (hu_of hr) (pv 0) pe_str (fun _ _ => rfl)) (pv 1) (fun _ _ => rfl)))
      (pss_cons (ps_set (i := 3) sc_law_shape.nd rfl (Or.inl rfl) (pe_callTy RR.cr_tupF (by rfl) T.tuple (by decide +kernel) (pa_cons (pe_lc (own := [("name", 4)]) (by rfl) sc_law_shape.nd (pi_seq (pe_callB (call_sortedD rfl) (by rfl) T.sorted (by decide +kernel) (pa_cons (pv 2) pa_nil))) (blkOk_by (own := [("name", 4)]) (N := ["world", "n", "marks", "pairs", "name", "k"]) (sc := defScope s_law_shape) (by decide +kernel)) (fun _ _ _ _ _ => (pg_name (i := 4) sc_law_shape.nd rfl (Or.inl rfl))) (fun _ _ _ _ _ => pts_nil) (fun _ _ _ _ _ => (RR.pe_tupF (pa_cons (pv 4) (pa_cons (pe_dget (hu_of hr) (pv 2) (pv 4) (fun _ _ => rfl)) pa_nil))))) pa_nil)))
      (pss_one (ps_ret (RR.pe_tupF (pa_cons pe_str (pa_cons (pv 1) (pa_cons (pe_ix ix_seq (pe_dget (hu_of hr) (pv 0) pe_str (fun _ _ => rfl)) (pv 1) (fun _ _ => rfl)) (pa_cons (pv 3) (pa_cons (pe_callTy RR.cr_tupF (by rfl) T.tuple (by decide +kernel) (pa_cons (pe_lc (own := [("k", 5)]) (by rfl) sc_law_shape.nd (pi_seq (pe_ix ix_seq (pe_dget (hu_of hr) (pv 0) pe_str (fun _ _ => rfl)) (pv 1) (fun _ _ => rfl))) (blkOk_by (own := [("k", 5)]) (N := ["world", "n", "marks", "pairs", "name", "k"]) (sc := defScope s_law_shape) (by decide +kernel)) (fun _ _ _ _ _ => (pg_name (i := 5) sc_law_shape.nd rfl (Or.inl rfl))) (fun _ _ _ _ _ => pts_nil) (fun _ _ _ _ _ => (pe_k c_law_shape hr (by omega) (pa_cons (pv 0) (pa_cons (pv 5) pa_nil))))) pa_nil)) pa_nil))))))))))), fun wd fl us n H A w hl wh o dv hp => ?_⟩
  obtain ⟨v, rfl, d1⟩ := DvA.inv1 dv
  have hn := hp.1
  have c0 : ∀ {σ : L2.St}, σ[0]? = some (some (.ref wd)) → σ[1]? = some (some v) → GD K (tOp (rIx K) (tDGet (tVar 0) (tC (.str "kind"))) (tVar 1)) σ H A (.str (kindS (nd w.ns n).txt)) := fun h0 h1 => wh.col (i := 0) (by omega) (by omega) h0 rfl hn (gd_var h1 d1)
  have c1 : ∀ {σ : L2.St} {G A' : Hp}, Pub H A G A' → σ[0]? = some (some (.ref wd)) → σ[1]? = some (some v) → GD K (tOp (rIx K) (tDGet (tVar 0) (tC (.str "name"))) (tVar 1)) σ G A' (.str (nd w.ns n).name) := fun p h0 h1 => (wh.pub p).col (i := 1) (by omega) (by omega) h0 rfl hn (gd_var h1 (d1.to p.hg))
  cases ht : (nd w.ns n).txt with
  | true =>
    refine gb_if (b := true) (gt_test (by have e := gdo (c0 (σ := [some (.ref wd), some v, none, none, none, none]) rfl rfl) (gd_str (i := "t")) go_eqS; rw [ht] at e; exact e)) (fun _ => gb_ret (gd_tup (ga_cons gd_str (ga_cons (gd_var rfl d1) (ga_cons (c1 (.refl wh.gh) rfl rfl) ga_nil)))) ?_) fun z => nomatch z
    unfold shapeF
    rw [ht]; rfl
  | false =>
    refine gb_if (b := false) (gt_test (by have e := gdo (c0 (σ := [some (.ref wd), some v, none, none, none, none]) rfl rfl) (gd_str (i := "t")) go_eqS; rw [ht] at e; exact e)) (fun z => nomatch z) fun _ => ?_
    obtain ⟨a, mk, gm⟩ := wh.mark hn
    refine gb_setV (gm rfl (gd_var rfl d1)) fun G2 H2 p2 => ?_
    have mk2 : MkD H2 a (nd w.ns n).marks := mk.to p2.same
    refine gb_set (gd_cb (ga_cons (gd_lc (em := fun k : Str => .str k) (f := fun k => .tuple [.str k, .str (((nd w.ns n).marks k).getD "")]) (gi_seqL (gd_sortM (gv_var rfl) mk2)) (by have := small_names (zs := namesOf (nd w.ns n).marks) (fun z hz => (List.mem_filter.mp hz).1) ((by decide : KS.Nodup).filter _); omega) fun i k hk v4 G4 H4 p4 d4 => ?_) ga_nil) gc_tupL) fun v3 G3 H3 p3 d3 => ?_
    · obtain ⟨v, hv⟩ := Option.isSome_iff_exists.mp (List.mem_filter.mp (List.mem_of_getElem? hk)).2
      rw [hv]
      exact gd_tup (ga_cons (gd_var rfl d4) (ga_cons (gd_markG (gv_var rfl) (mk2.to p4.hh) (gd_var rfl d4) hv) ga_nil))
    · have wh3 := (wh.pub p2).pub p3
      refine gb_ret (gd_tup (ga_cons gd_str (ga_cons (gd_var rfl ((d1.to p2.hg).to p3.hg)) (ga_cons (c1 (p2.trans p3) rfl rfl) (ga_cons (gd_var rfl d3) (ga_cons (gd_cb (ga_cons (gd_lc (em := ofN) (f := shapeF j w.ns) (gi_seqL (wh3.col (i := 3) (by omega) (by omega) rfl rfl hn (gd_var rfl ((d1.to p2.hg).to p3.hg)))) (by have := o.kidLe hn; have := o.len; omega) fun i c hc v5 G5 H5 p5 d5 => ?_) ga_nil) gc_tupL) ga_nil)))))) ?_
      · exact gd_callR (ar := ar1) c (wh3.pub p5) o rfl (ga_cons (gd_var rfl d5) ga_nil) rfl (hp.2 c (List.mem_of_getElem? hc))
      · unfold shapeF
        rw [ht]
        unfold marksD
        rw [← marks_eq]
        rfl
end
end LW
end
section
set_option Elab.async false
set_option linter.all false
set_option maxRecDepth 100000
set_option maxHeartbeats 4000000
namespace LM
open PySem
theorem Ch.next {ns : List Nd} {n : Nat} {l : List Nat} (h : Ch ns n l) : ∀ (i a : Nat), l[i]? = some a → (nd ns a).up = l[i + 1]? := by
  induction h with
  | top h =>
    intro i a ha
    cases i with
    | zero =>
      cases ha
      rw [h]; rfl
    | succ i => cases ha
  | @step n p l h c ih =>
    intro i a ha
    cases i with
    | zero =>
      cases ha
      rw [h]
      cases c <;> rfl
    | succ i => exact ih i a ha
end LM
namespace LW
open PySem PySem.Spec PyProof.Rows L2 DL LM
section
variable {P : Program} {W : World} {K : PySem.W.Frag} {mg : Str → Option Value} {base : Heap} {f : Addr} {fd : FuncData} {A H H1 G Hc : Hp} {σ : L2.St} {to tn : TE}
/-- an item of a private list, from either end -/
theorem gv_ixI {a : Addr} {xs : List V} {v : V} {i : Int} (g : GV to σ H A (.ref a)) (ha : A a = some (.lst xs)) (gn : GD K tn σ H A (.int i)) (e : atI xs i = some v) : GV (tOp (rIx K) to tn) σ H A v := fun H0 H1 p Q q =>
  g.to p fun G1 H2 p1 => gn.to (p.trans p1) fun x G2 H3 p2 dx => .inl ⟨a, xs, i, v, rfl, Dv.int_inv dx, SqL.of (p2.hh _ _ (p1.hh _ _ (p.hh _ _ ha))), e, q G2 H3 (p1.trans p2)⟩
theorem atI_last {α : Type} {xs : List α} {v : α} (h : xs[xs.length - 1]? = some v) : atI xs (-1) = some v := by
  have hp : 0 < xs.length := by
    have := (List.getElem?_eq_some_iff.mp h).1
    omega
  have e : ixN xs.length (-1) = some (xs.length - 1) := by
    unfold ixN
    simp
    omega
  unfold atI
  rw [e]
  exact h
def rNeg : V → Hp → VK → Prop := fun x H Q => ∃ i, x = .int i ∧ Q (.int (-i)) H
theorem gd_neg {i : Int} (g : GD K tn σ H A (.int i)) : GD K (tUn rNeg tn) σ H A (.int (-i)) := fun H0 H1 p Q q => g.to p fun v G H2 p2 dv => ⟨i, Dv.int_inv dv, q _ G H2 p2 (.int _)⟩
abbrev s_law_above : Stmt := topS 24
theorem sc_law_above : FnScope ["world", "n", "way", "k"] ["world", "n"] (defScope s_law_above) := ⟨rfl, rfl, rfl, by decide +kernel, rfl, by decide +kernel, by decide +kernel⟩
def preN (w : Wm) (n : Nat) : Prop := n < w.ns.length
theorem ok_above (T : Bt mg) (F : Fun K "_law_above" "_law_above" s_law_above f fd) : FnOk P W K mg base CX0 1 f fd ["world", "n"] (spR K 1 ar1 preN fun w n => aboveD w.ns n) := by
  refine fn_R F sc_law_above rfl fun cdv A outer s H1 E hr => ⟨_, (pss_cons (ps_set (i := 2) sc_law_above.nd rfl (Or.inl rfl) (pe_lst (pa_cons (pv 1) pa_nil)))
      (pss_cons (ps_for PassesOwn.never rfl (pi_range1 (by rfl) T.range (pa_cons pe_int pa_nil)) (pg_name (i := 3) sc_law_above.nd rfl (Or.inl rfl)) (pss_one (ps_if (pt_cmpR op_isnot1 (pe_ix ix_seq (pe_dget (hu_of hr) (pv 0) pe_str (fun _ _ => rfl)) (pe_ix ix_seq (pv 2) (pe_un un_neg pe_int) (fun _ _ => rfl)) (fun _ _ => rfl)) pe_non (nomark _)) (pss_one (ps_expr (pe_bm PySem.F.plainAttrs_list PySem.F.slot_list_append PySem.F.type_list_append mt_append (pv 2) (pa_cons (pe_ix ix_seq (pe_dget (hu_of hr) (pv 0) pe_str (fun _ _ => rfl)) (pe_ix ix_seq (pv 2) (pe_un un_neg pe_int) (fun _ _ => rfl)) (fun _ _ => rfl)) pa_nil)))) pss_nil)))
      (pss_one (ps_ret (pe_callTy RR.cr_tupF (by rfl) T.tuple (by decide +kernel) (pa_cons (pv 2) pa_nil)))))), fun wd fl us n H A w hl wh o dv hn => ?_⟩
  obtain ⟨v, rfl, d1⟩ := DvA.inv1 dv
  have ev := Dv.int_inv d1
  subst ev
  intro H0 H1 e D q
  have wh1 := wh.pub e
  have c := o.above hn
  have hle := c.len o hn
  have hlen := o.len
  have hpos := c.pos
  refine ⟨.int n, rfl, by rw [sizeLine_eq]; exact (by decide : 1 ≤ 16777216), fun p hp => ?_⟩
  have w0 := Own.new (Pub.refl wh1.gh) hp (.lst [.int n])
  have htk : (above w.ns n).take 1 = [n] := (fun (l : List Nat) (c : Ch w.ns n l) => (by cases c <;> rfl : l.take 1 = [n])) _ c
  refine for_run (gi_rng1 (K := K) (n := 60) (ga_cons gd_int ga_nil) (by decide) (by decide)) (.refl w0.gh) fun B HB PB => ?_
  refine ⟨fun i σ' G H' => ∃ x3 : Option V, σ' = [some (.ref wd), some (.int n), some (.ref p), x3] ∧ Own H0 H1 G H' p (.lst ((((above w.ns n).take (i + 1)).map fun (k : Nat) => (k : Int)).map V.int)) ∧ Same B G, ⟨none, rfl, by rw [htk]; exact w0.step PB, .refl _⟩, fun i σ' G H' ⟨_, _, w, s⟩ => ⟨s, w.gh⟩, ?_, ?_⟩
  · rintro i d σ' G H' hd ⟨x3, rfl, w3, sB⟩ v G5 H5 P5 dv5
    have w5 := w3.step P5
    have wh5 := wh1.pub w5.pub
    have sB5 := sB.trans P5.hg
    by_cases hi : i + 1 < (above w.ns n).length
    · obtain ⟨a, ha⟩ : ∃ a, (above w.ns n)[i]? = some a := ⟨_, List.getElem?_eq_getElem (by omega)⟩
      obtain ⟨b, hb⟩ : ∃ b, (above w.ns n)[i + 1]? = some b := ⟨_, List.getElem?_eq_getElem hi⟩
      have hup := c.next i a ha
      rw [hb] at hup
      have hal := c.lt o hn a (List.mem_of_getElem? ha)
      have hlast : atI ((((above w.ns n).take (i + 1)).map fun (k : Nat) => (k : Int)).map V.int) (-1) = some (.int (a : Int)) := atI_last (by
        rw [List.length_map, List.length_map, List.length_take, Nat.min_eq_left (by omega), List.getElem?_map, List.getElem?_map, List.getElem?_take_of_lt (by omega)]
        show Option.map _ (Option.map _ ((above w.ns n)[i]?)) = _
        rw [ha]; rfl)
      have gl : ∀ {A' G' : Hp}, A' p = some (.lst ((((above w.ns n).take (i + 1)).map fun (k : Nat) => (k : Int)).map V.int)) → GD K (tOp (rIx K) (tVar 2) (tUn rNeg (tC (.int 1)))) [some (.ref wd), some (.int n), some (.ref p), some v] G' A' (ofN a) := fun h => (gv_ixI (gv_var rfl) h (gd_neg gd_int) hlast).gd (.int _)
      refine s_if (b := true) (gt_test (by have g := gdo (wh5.upG rfl hal (gl w5.at_)) gd_non go_notN; rw [hup] at g; exact g)) w5.gh (fun _ H6 s6 => ?_) fun z => nomatch z
      have w6 := w5.test s6
      refine s_append (K := K) (d := ofN b) w6 rfl (by have g := (wh1.pub w6.pub).upG rfl hal (gl w6.at_); rw [hup] at g; exact g) (by rw [List.length_map, List.length_map, List.length_take, sizeLine_eq]; omega) fun v7 G7 H7 w7 s7 dv7 => ?_
      have e7 := Dv.int_inv dv7
      subst e7
      refine ⟨G7, some v, rfl, ?_, sB5.trans s7⟩
      have z : (above w.ns n).take (i + 1 + 1) = (above w.ns n).take (i + 1) ++ [b] := by rw [List.take_add_one, hb]; rfl
      rw [z, List.map_append, List.map_append]
      exact w7
    · have hall : (above w.ns n).take (i + 1) = above w.ns n := List.take_of_length_le (by omega)
      have hall2 : (above w.ns n).take (i + 1 + 1) = above w.ns n := List.take_of_length_le (by omega)
      rw [hall] at w5
      obtain ⟨a, ha⟩ : ∃ a, (above w.ns n)[(above w.ns n).length - 1]? = some a := ⟨_, List.getElem?_eq_getElem (by omega)⟩
      have hup := c.next _ a ha
      rw [List.getElem?_eq_none (by omega)] at hup
      have hal := c.lt o hn a (List.mem_of_getElem? ha)
      have hlast : atI (((above w.ns n).map fun (k : Nat) => (k : Int)).map V.int) (-1) = some (.int (a : Int)) := atI_last (by
        rw [List.length_map, List.length_map, List.getElem?_map, List.getElem?_map, ha]; rfl)
      have gl2 : GD K (tOp (rIx K) (tVar 2) (tUn rNeg (tC (.int 1)))) [some (.ref wd), some (.int n), some (.ref p), some v] G5 H5 (ofN a) := (gv_ixI (gv_var rfl) w5.at_ (gd_neg gd_int) hlast).gd (.int _)
      refine s_if (b := false) (gt_test (by have g := gdo (wh5.upG rfl hal gl2) gd_non go_notN; rw [hup] at g; exact g)) w5.gh (fun z => nomatch z) fun _ H6 s6 => ?_
      exact ⟨G5, some v, rfl, by rw [hall2]; exact w5.test s6, sB5⟩
  · rintro σ' G H' ⟨x3, rfl, w3, sB⟩
    rw [List.length_map, upto_len] at w3
    have hall : (above w.ns n).take ((60 : Int).toNat + 1) = above w.ns n := List.take_of_length_le (by show _ ≤ 61; omega)
    rw [hall] at w3
    refine (gd_cb (K := K) (ga_cons (gd_var rfl w3.dvi) ga_nil) gc_tupL).to (.refl w3.see) fun v4 G4 H4 P4 d4 => ?_
    refine q (aboveD w.ns n) v4 G4 H4 rfl (w3.open_.trans P4) ?_
    unfold aboveD
    rw [List.map_map] at d4
    exact d4
end
end LW
end
section
set_option Elab.async false
set_option linter.all false
namespace LM
open PySem DL
/-! ### below: each node once -/
theorem nodup_flat {g : Nat → List Nat} : ∀ ks : List Nat, ks.Nodup → (∀ c, c ∈ ks → (g c).Nodup) → (∀ c c', c ∈ ks → c' ∈ ks → c ≠ c' → ∀ m, m ∈ g c → m ∉ g c') → (ks.flatMap g).Nodup
  | [], _, _, _ => by simp
  | c :: ks, hd, hg, hx => by
    obtain ⟨h1, h2⟩ := List.nodup_cons.mp hd
    rw [List.flatMap_cons]
    refine List.nodup_append.mpr ⟨hg c List.mem_cons_self, nodup_flat ks h2 (fun x hx' => hg x (List.mem_cons_of_mem _ hx')) (fun x y h3 h4 => hx x y (List.mem_cons_of_mem _ h3) (List.mem_cons_of_mem _ h4)), ?_⟩
    intro a ha b hb e
    subst e
    obtain ⟨c', hc', hm⟩ := List.mem_flatMap.mp hb
    exact hx c c' List.mem_cons_self (List.mem_cons_of_mem _ hc') (fun z => h1 (z ▸ hc')) a ha hm
section
variable {ns : List Nd} {n m : Nat} {l : List Nat}
theorem Ch.same_len (h : Ch ns m l) : ∀ {a b : Nat} {la lb : List Nat}, a ∈ l → b ∈ l → Ch ns a la → Ch ns b lb → la.length = lb.length → a = b := by
  induction h with
  | top h =>
    intro a b la lb ha hb _ _ _
    rw [List.mem_singleton] at ha hb
    rw [ha, hb]
  | @step n p l h c ih =>
    intro a b la lb ha hb ca cb e
    have hN : ∀ {x : Nat} {lx : List Nat}, x ∈ l → Ch ns x lx → lx.length ≤ l.length := fun hx cx => by
      obtain ⟨l', c', hl, _⟩ := c.sub hx
      rw [cx.uniq c']
      exact hl
    rcases List.mem_cons.mp ha with za | za <;> rcases List.mem_cons.mp hb with zb | zb
    · rw [za, zb]
    · subst za
      have h1 := ca.uniq (.step h c)
      have h2 := hN zb cb
      rw [h1, List.length_cons] at e
      omega
    · subst zb
      have h1 := cb.uniq (.step h c)
      have h2 := hN za ca
      rw [h1, List.length_cons] at e
      omega
    · exact ih za zb ca cb e
theorem Ok.below_mem (o : Ok ns) : ∀ (j n m : Nat), n < ns.length → m ∈ belowF j ns n → m < ns.length ∧ ∃ l, Ch ns m l ∧ n ∈ l
  | 0, _, _, _, h => nomatch h
  | j + 1, n, m, hn, h => by
    unfold belowF at h
    rcases List.mem_cons.mp h with e | h
    · subst e
      obtain ⟨l, c⟩ := o.ch m hn
      exact ⟨hn, l, c, c.self⟩
    · obtain ⟨c, hc, hm⟩ := List.mem_flatMap.mp h
      obtain ⟨h1, h2⟩ := o.kup n c hn hc
      obtain ⟨h3, l, cl, hcl⟩ := Ok.below_mem o j c m h1 hm
      obtain ⟨l', c', _, hs⟩ := cl.sub hcl
      obtain ⟨ln, cn⟩ := o.ch n hn
      have e := c'.uniq (.step h2 cn)
      exact ⟨h3, l, cl, hs n (by rw [e]; exact List.mem_cons_of_mem _ cn.self)⟩
theorem Ok.below_nodup (o : Ok ns) : ∀ (j n : Nat), n < ns.length → (belowF j ns n).Nodup
  | 0, _, _ => List.nodup_nil
  | j + 1, n, hn => by
    unfold belowF
    obtain ⟨ln, cn⟩ := o.ch n hn
    refine List.nodup_cons.mpr ⟨fun h => ?_, nodup_flat _ (o.nod n hn) (fun c hc => Ok.below_nodup o j c (o.kup n c hn hc).1) fun c c' hc hc' hne m hm hm' => ?_⟩
    · obtain ⟨c, hc, hm⟩ := List.mem_flatMap.mp h
      obtain ⟨h1, h2⟩ := o.kup n c hn hc
      obtain ⟨_, l, cl, hcl⟩ := o.below_mem j c n h1 hm
      obtain ⟨l', c', hlen, _⟩ := cl.sub hcl
      rw [c'.uniq (.step h2 cn), cl.uniq cn, List.length_cons] at hlen
      omega
    · obtain ⟨h1, h2⟩ := o.kup n c hn hc
      obtain ⟨h1', h2'⟩ := o.kup n c' hn hc'
      obtain ⟨_, l, cl, hcl⟩ := o.below_mem j c m h1 hm
      obtain ⟨_, l', cl', hcl'⟩ := o.below_mem j c' m h1' hm'
      rw [← cl.uniq cl'] at hcl'
      exact hne (cl.same_len hcl hcl' (.step h2 cn) (.step h2' cn) rfl)
theorem Ok.below_len (o : Ok ns) (j : Nat) (hn : n < ns.length) : (belowF j ns n).length ≤ ns.length := nodup_le _ _ (o.below_nodup j n hn) fun x hx => (o.below_mem j n x hn hx).1
end
end LM
end
section
set_option Elab.async false
set_option linter.all false
set_option maxRecDepth 100000
set_option maxHeartbeats 4000000
namespace LW
open PySem PySem.Spec PyProof.Rows L2 DL LM
section
variable {P : Program} {W : World} {K : PySem.W.Frag} {mg : Str → Option Value} {base : Heap} {f : Addr} {fd : FuncData} {A H H1 G Hc : Hp} {σ : L2.St} {to tn : TE}
abbrev s_law_below : Stmt := topS 26
theorem sc_law_below : FnScope ["world", "n", "numbers", "k"] ["world", "n"] (defScope s_law_below) := ⟨rfl, rfl, rfl, by decide +kernel, rfl, by decide +kernel, by decide +kernel⟩
theorem ok_below_step {j : Nat} (F : Fun K "_law_below" "_law_below" s_law_below f fd) (c_law_below : Cal P W K mg base j "_law_below" (spR K 1 ar1 (preShape j) fun w n => natsD (belowF j w.ns n))) : FnOk P W K mg base CX0 (j + 1) f fd ["world", "n"] (spR K 1 ar1 (preShape (j + 1)) fun w n => natsD (belowF (j + 1) w.ns n)) := by
  refine fn_R F sc_law_below rfl fun cdv A outer s H1 E hr => ⟨_, (pss_cons (ps_set (i := 2) sc_law_below.nd rfl (Or.inl rfl) (pe_lst (pa_cons (pv 1) pa_nil)))
      (pss_cons (ps_for PassesOwn.never rfl (pi_seq (pe_ix ix_seq (pe_dget (hu_of hr) (pv 0) pe_str (fun _ _ => rfl)) (pv 1) (fun _ _ => rfl))) (pg_name (i := 3) sc_law_below.nd rfl (Or.inl rfl)) (pss_one (ps_set (i := 2) sc_law_below.nd rfl (Or.inl rfl) (pe_op op_addA (pv 2) (pe_k c_law_below hr (by omega) (pa_cons (pv 0) (pa_cons (pv 3) pa_nil)))))))
      (pss_one (ps_ret (pv 2))))), fun wd fl us n H A w hl wh o dv hp => ?_⟩
  obtain ⟨v, rfl, d1⟩ := DvA.inv1 dv
  have hn := hp.1
  have hlen := o.len
  refine gb_set (d := natsD [n]) (gd_lst (ga_cons (gd_var rfl d1) ga_nil)) fun v2 G2 H2 p2 d2 => ?_
  intro H0 H1 e D q
  have wh2 := (wh.pub p2).pub e
  have P0 : Pub H0 H1 H0 H1 := .refl e.gh
  refine for_run (gi_seqL (K := K) (wh2.kidsG rfl hn (gd_var rfl ((d1.to p2.hg).to e.hg)))) P0 fun B HB PB => ?_
  refine ⟨fun i σ' G H' => ∃ (v2 : V) (x3 : Option V), σ' = [some (.ref wd), some v, some v2, x3] ∧ Pub H0 H1 G H' ∧ Same B G ∧ Dv K G v2 (natsD (n :: ((nd w.ns n).kids.take i).flatMap (belowF j w.ns))), ⟨v2, none, rfl, PB, .refl _, by rw [List.take_zero]; exact (d2.to e.hg).to PB.hg⟩, fun i σ' G H' ⟨_, _, _, p, s, _⟩ => ⟨s, p.gh⟩, ?_, ?_⟩
  · rintro i d σ' G H' hd ⟨w2, x3, rfl, p3, sB, d3⟩ v G5 H5 P5 dv5
    rw [List.getElem?_map] at hd
    obtain ⟨c, hc, rfl⟩ := Option.map_eq_some_iff.mp hd
    have p5 := p3.trans P5
    have wh5 := wh2.pub p5
    have hz : n :: ((nd w.ns n).kids.take (i + 1)).flatMap (belowF j w.ns) = (n :: ((nd w.ns n).kids.take i).flatMap (belowF j w.ns)) ++ belowF j w.ns c := by
      rw [List.take_add_one, hc, List.flatMap_append]
      simp
    have hb := o.below_len (j + 1) hn
    have hb2 : (n :: ((nd w.ns n).kids.take (i + 1)).flatMap (belowF j w.ns)).length ≤ w.ns.length := by
      refine Nat.le_trans ?_ hb
      unfold belowF
      rw [List.length_cons, List.length_cons]
      have : ((nd w.ns n).kids.flatMap (belowF j w.ns)) = ((nd w.ns n).kids.take (i + 1)).flatMap (belowF j w.ns) ++ ((nd w.ns n).kids.drop (i + 1)).flatMap (belowF j w.ns) := by
        rw [← List.flatMap_append, List.take_append_drop]
      rw [this, List.length_append]
      omega
    rw [hz, List.length_append] at hb2
    refine s_setE (K := K) (gdo (gd_var rfl (d3.to P5.hg)) (gd_callR (ar := ar1) c wh5 o rfl (ga_cons (gd_var rfl dv5) ga_nil) rfl (hp.2 c (List.mem_of_getElem? hc))) (go_addL (by rw [List.length_map, List.length_map, sizeLine_eq]; omega))) p5.gh fun v6 G6 H6 P6 dv6 => ?_
    refine ⟨G6, v6, some v, rfl, p5.trans P6, sB.trans (P5.hg.trans P6.hg), ?_⟩
    rw [hz]
    unfold natsD
    rw [List.map_append]
    exact dv6
  · rintro σ' G H' ⟨w2, x3, rfl, p3, sB, d3⟩
    rw [List.length_map, List.take_length] at d3
    exact ⟨w2, rfl, q _ w2 G H' rfl p3 d3⟩
theorem cal_shape (T : Bt mg) (F : Fun K "_law_shape" "_law_shape" s_law_shape f fd) (hm : mg "_law_shape" = some (.ref f)) (b : Binds K fd ["world", "n"] []) : ∀ j, Cal P W K mg base j "_law_shape" (spR K 1 ar1 (preShape j) fun w n => shapeF j w.ns n)
  | 0 => cal_mk F (fn_none fun vs H Q E h => by
      obtain ⟨_, _, _, _, _, _, _, _, _, _, _, hb, _⟩ := h
      exact hb) hm b
  | j + 1 => cal_mk F (ok_shape_step T F (cal_shape T F hm b j)) hm b
theorem cal_below (F : Fun K "_law_below" "_law_below" s_law_below f fd) (hm : mg "_law_below" = some (.ref f)) (b : Binds K fd ["world", "n"] []) : ∀ j, Cal P W K mg base j "_law_below" (spR K 1 ar1 (preShape j) fun w n => natsD (belowF j w.ns n))
  | 0 => cal_mk F (fn_none fun vs H Q E h => by
      obtain ⟨_, _, _, _, _, _, _, _, _, _, _, hb, _⟩ := h
      exact hb) hm b
  | j + 1 => cal_mk F (ok_below_step F (cal_below F hm b j)) hm b
/-! ### a change is told -/
abbrev s_law_tell : Stmt := topS 25
theorem sc_law_tell : FnScope ["world", "record", "below", "numbers"] ["world", "record", "below"] (defScope s_law_tell) := ⟨rfl, rfl, rfl, by decide +kernel, rfl, by decide +kernel, by decide +kernel⟩
abbrev ArT := List PyData × Nat × Option Nat
def arT : ArT → List PyData := fun x => [.tuple x.1, upD x.2.2]
def roomy (w : Wm) : Prop := w.told.length < 1000000 ∧ w.downs.length < 1000000
def preT (w : Wm) (x : ArT) : Prop := x.1[1]? = some (ofN x.2.1) ∧ x.2.1 < w.ns.length ∧ (∀ b, x.2.2 = some b → b < w.ns.length) ∧ roomy w
def fT (w : Wm) (x : ArT) : Wm × PyData := (tell w (.tuple x.1) x.2.1 x.2.2, .none)
theorem atI_1 {α : Type} {xs : List α} {v : α} (h : xs[1]? = some v) : atI xs 1 = some v := by
  have := atI_nat (j := 1) h
  exact this
theorem ok_tell (F : Fun K "_law_tell" "_law_tell" s_law_tell f fd) (c_law_above : Cal P W K mg base 1 "_law_above" (spR K 1 ar1 preN fun w n => aboveD w.ns n)) (c_law_below : Cal P W K mg base 60 "_law_below" (spR K 1 ar1 (preShape 60) fun w n => natsD (belowF 60 w.ns n))) : FnOk P W K mg base CX0 61 f fd ["world", "record", "below"] (spM K 2 arT preT fT) := by
  refine fn_M F sc_law_tell rfl fun cdv A outer s H1 E hr => ⟨_, (pss_cons (ps_expr (pe_bm PySem.F.plainAttrs_list PySem.F.slot_list_append PySem.F.type_list_append mt_append (pe_dget (hu_of hr) (pv 0) pe_str (fun _ _ => rfl)) (pa_cons (RR.pe_tupF (pa_cons (pv 1) (pa_cons (pe_k c_law_above hr (by omega) (pa_cons (pv 0) (pa_cons (pe_ix ix_seq (pv 1) pe_int (fun _ _ => rfl)) pa_nil))) pa_nil))) pa_nil)))
      (pss_cons (ps_set (i := 3) sc_law_tell.nd rfl (Or.inl rfl) (pe_lst pa_nil))
      (pss_cons (ps_if (pt_cmpR op_isnot1 (pv 2) pe_non (nomark _)) (pss_one (ps_set (i := 3) sc_law_tell.nd rfl (Or.inl rfl) (pe_k c_law_below hr (by omega) (pa_cons (pv 0) (pa_cons (pv 2) pa_nil))))) pss_nil)
      (pss_one (ps_expr (pe_bm PySem.F.plainAttrs_list PySem.F.slot_list_append PySem.F.type_list_append mt_append (pe_dget (hu_of hr) (pv 0) pe_str (fun _ _ => rfl)) (pa_cons (pv 3) pa_nil))))))), fun wd fl us x H H1 w Q hl wh o dv hp k => ?_⟩
  obtain ⟨rs, n, b⟩ := x
  obtain ⟨h1, hn, hb, hr1, hr2⟩ := hp
  obtain ⟨v, u, rfl, d1, d2⟩ := DvA.inv2 dv
  have a0 := WA.refl wh
  refine e_told a0 rfl (gd_tup (ga_cons (gd_var rfl d1) (ga_cons (gd_callR (ar := ar1) n wh o rfl (ga_cons (gdo (gd_var rfl d1) gd_int (go_ixT (atI_1 h1))) ga_nil) rfl hn) ga_nil))) (by rw [sizeLine_eq]; omega) fun G2 H2 a2 s2 => ?_
  refine s_set (K := K) (gd_lst ga_nil) a2.gh fun v3 G3 H3 p3 d3 => ?_
  have a3 := a2.pub p3
  have d2' := (d2.to s2).to p3.hg
  refine s_mid (fun σ' H' => ∃ v3 G', σ' = [some (.ref wd), some v, some u, some v3] ∧ WA K wd fl H H1 G' H' { w with told := w.told ++ [.tuple [.tuple rs, aboveD w.ns n]] } ∧ Dv K G' v3 (belowO w.ns b)) ?_ fun rest => ?_
  · rintro σ' H' ⟨v4, G4, rfl, a4, d4⟩
    refine e_downs a4 rfl (gd_var rfl d4) (by rw [sizeLine_eq]; show w.downs.length < _; omega) fun G5 H5 a5 s5 => ?_
    exact k .non G5 H5 a5 .non
  · cases b with
    | none =>
      refine s_if (b := false) (gt_test (gdo (K := K) (gd_var rfl d2') gd_non go_notN)) a3.gh (fun z => nomatch z) fun _ H4 s4 => ?_
      exact rest _ _ ⟨v3, G3, rfl, a3.test s4, d3⟩
    | some b =>
      refine s_if (b := true) (gt_test (gdo (K := K) (gd_var rfl d2') gd_non go_notN)) a3.gh (fun _ H4 s4 => ?_) fun z => nomatch z
      have a4 := a3.test s4
      refine s_setE (K := K) (gd_callR (ar := ar1) b a4.wh o rfl (ga_cons (gd_var rfl d2') ga_nil) rfl (o.ht (hb b rfl))) a4.gh fun v5 G5 H5 p5 d5 => ?_
      exact rest _ _ ⟨v5, G5, rfl, a4.pub p5, d5⟩
end
end LW
end
section
set_option Elab.async false
set_option linter.all false
set_option maxRecDepth 100000
set_option maxHeartbeats 4000000
namespace LW
open PySem PySem.Spec PyProof.Rows L2 DL LM
section
variable {P : Program} {W : World} {K : PySem.W.Frag} {mg : Str → Option Value} {base : Heap} {f : Addr} {fd : FuncData} {A H H1 G Hc : Hp} {σ : L2.St} {to te tn : TE} {wd : Addr} {fl : Nat → Addr} {w : Wm}
theorem nat_int {a b : Nat} : (a : Int) = (b : Int) ↔ a = b := ⟨fun h => by omega, fun h => by rw [h]⟩
def upV : Option Nat → V
  | none => .non
  | some p => .int (p : Int)
theorem flat_upD (a : Option Nat) : flatD (upD a) = some (upV a) := by cases a <;> rfl
theorem upV_inj {a b : Option Nat} : upV a = upV b ↔ a = b := by
  cases a <;> cases b <;> simp [upV, nat_int]
theorem go_eqU {a b : Option Nat} : GO K (rEqA K) (upD a) (upD b) (.bool (decide (a = b))) := by
  have h := go_eqF (K := K) (flat_upD a) (flat_upD b) (by cases a <;> cases b <;> rfl)
  have z : decide (upV a = upV b) = decide (a = b) := by simp [upV_inj]
  rw [z] at h
  exact h
theorem go_neF {d1 d2 : PyData} {x y : V} (e1 : flatD d1 = some x) (e2 : flatD d2 = some y) (s : scal x y = true) : GO K (rNeA K) d1 d2 (.bool (!decide (x = y))) := fun H H1 G H2 v w Q p dx dy q => by
  have e1 := flatD_v dx e1
  have e2 := flatD_v dy e2
  subst e1 e2
  exact .inl ⟨s, q _ G H2 p (.bl _)⟩
theorem go_neU {a b : Option Nat} : GO K (rNeA K) (upD a) (upD b) (.bool (!decide (a = b))) := by
  have h := go_neF (K := K) (flat_upD a) (flat_upD b) (by cases a <;> cases b <;> rfl)
  have z : decide (upV a = upV b) = decide (a = b) := by simp [upV_inj]
  rw [z] at h
  exact h
def strV : Option Str → V
  | none => .non
  | some p => .str p
theorem flat_strO (a : Option Str) : flatD (strO a) = some (strV a) := by cases a <;> rfl
theorem strV_inj {a b : Option Str} : strV a = strV b ↔ a = b := by
  cases a <;> cases b <;> simp [strV]
theorem go_neO {a b : Option Str} : GO K (rNeA K) (strO a) (strO b) (.bool (!decide (a = b))) := by
  have h := go_neF (K := K) (flat_strO a) (flat_strO b) (by cases a <;> cases b <;> rfl)
  have z : decide (strV a = strV b) = decide (a = b) := by simp [strV_inj]
  rw [z] at h
  exact h
theorem go_eqO {a b : Option Str} : GO K (rEqA K) (strO a) (strO b) (.bool (decide (a = b))) := by
  have h := go_eqF (K := K) (flat_strO a) (flat_strO b) (by cases a <;> cases b <;> rfl)
  have z : decide (strV a = strV b) = decide (a = b) := by simp [strV_inj]
  rw [z] at h
  exact h
theorem go_eqN {a b : Nat} : GO K (rEqA K) (ofN a) (ofN b) (.bool (decide (a = b))) := by
  have h := go_eqI (K := K) (x := (a : Int)) (y := (b : Int))
  have z : decide ((a : Int) = (b : Int)) = decide (a = b) := decide_eq_decide.mpr nat_int
  rw [z] at h
  exact h
theorem go_neN {a b : Nat} : GO K (rNeA K) (ofN a) (ofN b) (.bool (!decide (a = b))) := by
  have h := go_neI (K := K) (x := (a : Int)) (y := (b : Int))
  have z : decide ((a : Int) = (b : Int)) = decide (a = b) := decide_eq_decide.mpr nat_int
  rw [z] at h
  exact h
theorem flat_nats (l : List Nat) : (l.map ofN).map flatD = ((l.map fun (k : Nat) => (k : Int)).map V.int).map some := by
  have h := flat_ints (l.map fun (k : Nat) => (k : Int))
  rw [show l.map ofN = (l.map fun (k : Nat) => (k : Int)).map PyData.int by rw [List.map_map]; rfl]
  exact h
theorem inV_nats (n : Nat) (l : List Nat) : inV (.int (n : Int)) ((l.map fun (k : Nat) => (k : Int)).map V.int) = decide (n ∈ l) := by
  rw [inV_ints]
  rw [Bool.eq_iff_iff]
  simp [nat_int]
theorem go_inN {n : Nat} {l : List Nat} : GO K (rIn K false) (ofN n) (.tuple (l.map ofN)) (.bool (decide (n ∈ l))) := by
  have h := go_inT (K := K) (d := ofN n) (x := .int (n : Int)) rfl (flat_nats l)
  rw [inV_nats] at h
  exact h
theorem vals_nats {l : List Nat} {vs : List V} (h : DvA K H vs (l.map ofN)) : vs = l.map fun (k : Nat) => V.int (k : Int) := by
  have e : l.map ofN = (l.map fun (k : Nat) => (k : Int)).map PyData.int := by rw [List.map_map]; rfl
  rw [e] at h
  rw [DvA.ints_inv h, List.map_map]
  rfl
theorem idx_get {n : Nat} {l : List Nat} (h : n ∈ l) : l[l.idxOf n]? = some n := by
  have := List.idxOf_lt_length_of_mem h
  rw [List.getElem?_eq_getElem this, List.getElem_idxOf this]
theorem idx_first {n m : Nat} {l : List Nat} (h : m < l.idxOf n) : l[m]? ≠ some n := fun z => by
  have h2 := List.not_of_lt_findIdx (p := fun x => x == n) (xs := l) (i := m) (by exact h)
  obtain ⟨hm, e⟩ := List.getElem?_eq_some_iff.mp z
  rw [e] at h2
  simp at h2
/-- row.index(n) -/
theorem gd_idx {l : List Nat} {n : Nat} (g : GD K to σ H A (natsD l)) (gn : GD K tn σ H A (ofN n)) (hn : n ∈ l) : GD K (tBM K "list" (rIndex K) to (tCons tn tNil)) σ H A (ofN (l.idxOf n)) := fun H0 H1 p Q q => g.to p fun v G H2 p2 dv => by
  obtain ⟨a, xs, rfl, s, da⟩ := Dv.lst_inv dv
  refine ⟨.inl ⟨rfl, xs, .inl (rd_same p2.gh s)⟩, gn.to (p.trans p2) fun u G3 H3 p3 du => ?_⟩
  have eu := Dv.int_inv du
  subst eu
  have ex := vals_nats da
  subst ex
  refine ⟨a, _, .int (n : Int), l.idxOf n, .int (n : Int), rfl, rfl, .inl (rd_same p3.gh (rd_same p3.hg s)), rfl, ?_, ?_, ?_, fun m z hm hz => ?_, q _ G3 H3 (p2.trans p3) (.int _)⟩
  · rw [List.all_map, List.all_eq_true]; intro x _; rfl
  · rw [List.getElem?_map, idx_get hn]; rfl
  · show ((n : Int) == (n : Int)) = true
    exact beq_self_eq_true _
  · rw [List.getElem?_map] at hz
    obtain ⟨x, hx, rfl⟩ := Option.map_eq_some_iff.mp hz
    have hne : x ≠ n := fun y => idx_first hm (by rw [hx, y])
    show ((x : Int) == (n : Int)) = false
    rw [beq_eq_false_iff_ne]
    exact fun y => hne (by omega)
theorem go_subN {n : Nat} : GO K (rI0 fun i j => .int (i - j)) (ofN (n + 1)) (.int 1) (ofN n) := by
  have h := go_i2 (K := K) (f := fun i j => i - j) (i := ((n + 1 : Nat) : Int)) (j := 1)
  have z : ((n + 1 : Nat) : Int) - 1 = (n : Int) := by omega
  rw [z] at h
  exact h
/-! ### a new node -/
structure WP (K : PySem.W.Frag) (wd : Addr) (fl : Nat → Addr) (H A : Hp) (nf : Nat → List Nd) (told downs : List PyData) : Prop where
  gh : Same H A
  d : A wd = some (.dK (wdk fl))
  c : ∀ i, i < 5 → ∃ xs, A (fl i) = some (.lst xs) ∧ LR (colR K H i) xs (nf i)
  t : ∃ xs, A (fl 5) = some (.lst xs) ∧ DvA K H xs told
  b : ∃ xs, A (fl 6) = some (.lst xs) ∧ DvA K H xs downs
  inj : ∀ i j, i < 7 → j < 7 → fl i = fl j → i = j
  pf : ∀ i, i < 7 → H (fl i) = none
  pd : H wd = none
theorem WP.toW {nf : Nat → List Nd} {told downs : List PyData} {ns : List Nd} (h : WP K wd fl H A nf told downs) (e : ∀ i, i < 5 → nf i = ns) : WH K wd fl H A ⟨ns, told, downs⟩ :=
  ⟨h.gh, h.d, fun i hi => by have := h.c i hi; rw [e i hi] at this; exact this, h.t, h.b, h.inj, h.pf, h.pd⟩
theorem WP.of {ns : List Nd} {told downs : List PyData} (h : WH K wd fl H A ⟨ns, told, downs⟩) : WP K wd fl H A (fun _ => ns) told downs := ⟨h.gh, h.d, h.c, h.t, h.b, h.inj, h.pf, h.pd⟩
theorem e_new {i : Nat} {nm : Str} {x : Nd} {nf : Nat → List Nd} {told downs : List PyData} {D : Ends} (st : Step (wS wd fl) H H1 (wS wd fl) G Hc) (h : WP K wd fl G Hc nf told downs) (hi : i < 5) (h0 : σ[0]? = some (some (.ref wd))) (e : valV (wdk fl) (.inr nm) = some (.ref (fl i))) (z : (nf i).length < sizeLine)
    (gv : GQ K te σ G Hc i x) (k : ∀ G' H', Step (wS wd fl) H H1 (wS wd fl) G' H' → Same G G' → WP K wd fl G' H' (fun j => if j = i then nf i ++ [x] else nf j) told downs → D.nx σ H') :
    tDrop (tBM K "list" rAppend (tDGet (tVar 0) (tC (.str nm))) (tCons te tNil)) D σ Hc := by
  obtain ⟨xs, h1, r⟩ := h.c i hi
  refine ⟨.ref wd, h0, wd, .ref (fl i), rfl, by rw [← e]; exact DGet.k (k := .inr nm) h.d, .inl ⟨rfl, xs, SqL.of h1⟩, gv _ fun v G2 H2 p2 cv => ?_⟩
  have sep : ∀ {j : Nat}, j < 7 → j ≠ i → fl j ≠ fl i := fun hj hne z => hne (h.inj _ _ hj (by omega) z)
  have hwd : fl i ≠ wd := fun z => by rw [z, h.d] at h1; cases h1
  refine ⟨fl i, xs, v, rfl, rfl, p2.hh _ _ h1, by rw [r.1]; exact z, ?_⟩
  have hp : G2 (fl i) = none := p2.pr _ (h.pf i (by omega)) (some_ne h1)
  refine k G2 _ ((st.pub p2).trans (.write p2.gh (.inr ⟨i, by omega, rfl⟩) hp _)) p2.hg ⟨same_upd2 p2.gh _ hp _, ?_, fun j hj => ?_, ?_, ?_, h.inj, fun j hj => ?_, p2.pr _ h.pd (some_ne h.d)⟩
  · rw [upd_ne (Ne.symm hwd)]; exact p2.hh _ _ h.d
  · by_cases ej : j = i
    · subst ej
      rw [if_pos rfl]
      exact ⟨_, upd_same, (r.imp fun v x c => c.to p2.hg).app cv⟩
    · rw [if_neg ej, upd_ne (sep (by omega) ej)]
      obtain ⟨ys, h2, r2⟩ := h.c j hj
      exact ⟨ys, p2.hh _ _ h2, r2.imp fun v x c => c.to p2.hg⟩
  · rw [upd_ne (sep (by omega) (by omega))]
    obtain ⟨ys, h2, r2⟩ := h.t
    exact ⟨ys, p2.hh _ _ h2, r2.to p2.hg⟩
  · rw [upd_ne (sep (by omega) (by omega))]
    obtain ⟨ys, h2, r2⟩ := h.b
    exact ⟨ys, p2.hh _ _ h2, r2.to p2.hg⟩
  · have hn : Hc (fl j) ≠ none := by
      by_cases z : j < 5
      · obtain ⟨ys, h2, _⟩ := h.c j z
        exact some_ne h2
      · by_cases y : j = 5
        · subst y; obtain ⟨ys, h2, _⟩ := h.t; exact some_ne h2
        · have : j = 6 := by omega
          subst this; obtain ⟨ys, h2, _⟩ := h.b; exact some_ne h2
    exact p2.pr _ (h.pf j hj) hn
abbrev s_law_make : Stmt := topS 27
theorem sc_law_make : FnScope ["world", "kind", "name"] ["world", "kind", "name"] (defScope s_law_make) := ⟨rfl, rfl, rfl, by decide +kernel, rfl, by decide +kernel, by decide +kernel⟩
abbrev ArM := Bool × Str
def arM : ArM → List PyData := fun x => [.str (kindS x.1), .str x.2]
def preAny {α : Type} (w : Wm) (x : α) : Prop := True
def fMake (w : Wm) (x : ArM) : Wm × PyData := makeA w x.1 x.2
theorem ok_make (T : Bt mg) (F : Fun K "_law_make" "_law_make" s_law_make f fd) : FnOk P W K mg base CX0 1 f fd ["world", "kind", "name"] (spM K 2 arM preAny fMake) := by
  refine fn_M F sc_law_make rfl fun cdv A outer s H1 E hr => ⟨_, (pss_cons (ps_if (pt_cmpR op_ge (pe_callB cr_len (by rfl) T.len PySem.boot_len (pa_cons (pe_dget (hu_of hr) (pv 0) pe_str (fun _ _ => rfl)) pa_nil)) pe_int (nomark _)) (pss_one (ps_ret pe_str)) pss_nil)
      (pss_cons (ps_expr (pe_bm PySem.F.plainAttrs_list PySem.F.slot_list_append PySem.F.type_list_append mt_append (pe_dget (hu_of hr) (pv 0) pe_str (fun _ _ => rfl)) (pa_cons (pv 1) pa_nil)))
      (pss_cons (ps_expr (pe_bm PySem.F.plainAttrs_list PySem.F.slot_list_append PySem.F.type_list_append mt_append (pe_dget (hu_of hr) (pv 0) pe_str (fun _ _ => rfl)) (pa_cons (pv 2) pa_nil)))
      (pss_cons (ps_expr (pe_bm PySem.F.plainAttrs_list PySem.F.slot_list_append PySem.F.type_list_append mt_append (pe_dget (hu_of hr) (pv 0) pe_str (fun _ _ => rfl)) (pa_cons pe_dnewK pa_nil)))
      (pss_cons (ps_expr (pe_bm PySem.F.plainAttrs_list PySem.F.slot_list_append PySem.F.type_list_append mt_append (pe_dget (hu_of hr) (pv 0) pe_str (fun _ _ => rfl)) (pa_cons (pe_lst pa_nil) pa_nil)))
      (pss_cons (ps_expr (pe_bm PySem.F.plainAttrs_list PySem.F.slot_list_append PySem.F.type_list_append mt_append (pe_dget (hu_of hr) (pv 0) pe_str (fun _ _ => rfl)) (pa_cons pe_non pa_nil)))
      (pss_one (ps_ret (pe_op op_sub (pe_callB cr_len (by rfl) T.len PySem.boot_len (pa_cons (pe_dget (hu_of hr) (pv 0) pe_str (fun _ _ => rfl)) pa_nil)) pe_int))))))))), fun wd fl us x H H1 w Q hl wh o dv hp k => ?_⟩
  obtain ⟨t, nm⟩ := x
  obtain ⟨v, u, rfl, d1, d2⟩ := DvA.inv2 dv
  have a0 := WA.refl wh
  have hlen := o.len
  unfold fMake makeA at k
  refine s_if (gt_test (gdo (K := K) (wh.len rfl) (gd_int (i := 60)) go_b2)) wh.gh (fun c H2 s2 => ?_) fun c H2 s2 => ?_
  · have c2 : (60 : Int) ≤ (w.ns.length : Int) := of_decide_eq_true c
    have a2 := a0.test s2
    rw [if_pos (by show 60 ≤ w.ns.length; omega)] at k
    exact gd_str (i := "full") H H2 (.refl a2.gh) _ fun v G3 H3 p3 d3 => k v G3 H3 (a2.pub p3) d3
  · have c2 : ¬ (60 : Int) ≤ (w.ns.length : Int) := of_decide_eq_false c
    have a2 := a0.test s2
    have hlt : w.ns.length < sizeLine := by rw [sizeLine_eq]; omega
    rw [if_neg (show ¬ 60 ≤ w.ns.length by omega)] at k
    refine e_new (x := mkNd t nm) a2.st (WP.of (ns := w.ns) a2.wh) (i := 0) (by omega) rfl rfl hlt (GD.gq (gd_var rfl d1) a2.gh fun _ _ h => h) fun G3 H3 st3 s3 h3 => ?_
    refine e_new (x := mkNd t nm) st3 h3 (i := 1) (by omega) rfl rfl hlt (GD.gq (gd_var rfl (d2.to s3)) h3.gh fun _ _ h => h) fun G4 H4 st4 s4 h4 => ?_
    refine e_new (x := mkNd t nm) st4 h4 (i := 2) (by omega) rfl rfl hlt (fun Q q p hp => q (.ref p) _ _ ((Pub.refl h4.gh).new hp _) ⟨p, rfl, [], upd_same, List.nodup_nil, fun _ => rfl, fun _ z => nomatch z⟩) fun G5 H5 st5 s5 h5 => ?_
    refine e_new (x := mkNd t nm) st5 h5 (i := 3) (by omega) rfl rfl hlt (GD.gq (gd_lst ga_nil) h5.gh fun _ _ h => h) fun G6 H6 st6 s6 h6 => ?_
    refine e_new (x := mkNd t nm) st6 h6 (i := 4) (by omega) rfl rfl hlt (GD.gq gd_non h6.gh fun _ _ h => h) fun G7 H7 st7 s7 h7 => ?_
    have h8 : WH K wd fl G7 H7 ⟨w.ns ++ [mkNd t nm], w.told, w.downs⟩ := h7.toW fun i hi => by
      match i, hi with
      | 0, _ => rfl
      | 1, _ => rfl
      | 2, _ => rfl
      | 3, _ => rfl
      | 4, _ => rfl
    have gl := h8.len (σ := [some (.ref wd), some v, some u]) rfl
    rw [show (⟨w.ns ++ [mkNd t nm], w.told, w.downs⟩ : Wm).ns.length = w.ns.length + 1 by simp] at gl
    exact gdo gl gd_int go_subN G7 H7 (.refl h8.gh) _ fun v9 G9 H9 p9 d9 => k v9 G9 H9 ⟨st7.pub p9, h8.pub p9⟩ d9
end
end LW
end
section
set_option Elab.async false
set_option linter.all false
set_option maxRecDepth 100000
set_option maxHeartbeats 4000000
namespace LW
open PySem PySem.Spec PyProof.Rows L2 DL LM
section
variable {P : Program} {W : World} {K : PySem.W.Frag} {mg : Str → Option Value} {base : Heap} {f : Addr} {fd : FuncData} {A H H1 G Hc : Hp} {σ : L2.St} {to te tn : TE} {wd : Addr} {fl : Nat → Addr} {w : Wm}
theorem get_nats {l : List Nat} {i n : Nat} (h : l[i]? = some n) : atI (l.map ofN) (i : Int) = some (ofN n) := atI_nat (by rw [List.getElem?_map, h]; rfl)
theorem go_ixN {l : List Nat} {i n : Nat} (h : l[i]? = some n) : GO K (rIx K) (natsD l) (ofN i) (ofN n) := go_ixL (get_nats h)
theorem len_nats {l : List Nat} : GC K (DL.rLen K) [natsD l] (ofN l.length) := by
  have h := gc_lenL (K := K) (ds := l.map ofN)
  rw [List.length_map] at h
  exact h
theorem go_addN {a b : Nat} : GO K (rAddA K) (ofN a) (ofN b) (ofN (a + b)) := by
  have h := go_addI (K := K) (i := (a : Int)) (j := (b : Int))
  have z : (a : Int) + (b : Int) = ((a + b : Nat) : Int) := by omega
  rw [z] at h
  exact h
theorem go_ltN {a b : Nat} : GO K rLtA (ofN a) (ofN b) (.bool (decide (a < b))) := by
  have h := go_ltI (K := K) (i := (a : Int)) (j := (b : Int))
  have z : decide ((a : Int) < (b : Int)) = decide (a < b) := decide_eq_decide.mpr (by omega)
  rw [z] at h
  exact h
abbrev s_law_next : Stmt := topS 28
theorem sc_law_next : FnScope ["world", "n", "row", "at"] ["world", "n"] (defScope s_law_next) := ⟨rfl, rfl, rfl, by decide +kernel, rfl, by decide +kernel, by decide +kernel⟩
def nextW (ns : List Nd) (n : Nat) : Option Nat := match (nd ns n).up with
  | some p => nextA ns p n
  | none => none
def preUp (w : Wm) (n : Nat) : Prop := n < w.ns.length ∧ (nd w.ns n).up ≠ none
theorem ok_next (T : Bt mg) (F : Fun K "_law_next" "_law_next" s_law_next f fd) : FnOk P W K mg base CX0 1 f fd ["world", "n"] (spR K 1 ar1 preUp fun w n => upD (nextW w.ns n)) := by
  refine fn_R F sc_law_next rfl fun cdv A outer s H1 E hr => ⟨_, (pss_cons (ps_set (i := 2) sc_law_next.nd rfl (Or.inl rfl) (pe_ix ix_seq (pe_dget (hu_of hr) (pv 0) pe_str (fun _ _ => rfl)) (pe_ix ix_seq (pe_dget (hu_of hr) (pv 0) pe_str (fun _ _ => rfl)) (pv 1) (fun _ _ => rfl)) (fun _ _ => rfl)))
      (pss_cons (ps_set (i := 3) sc_law_next.nd rfl (Or.inl rfl) (pe_op op_addA (pe_bm PySem.F.plainAttrs_list PySem.F.slot_list_index PySem.F.type_list_index mt_index (pv 2) (pa_cons (pv 1) pa_nil)) pe_int))
      (pss_cons (ps_if (pt_cmpR op_ltA (pv 3) (pe_callB cr_len (by rfl) T.len PySem.boot_len (pa_cons (pv 2) pa_nil)) (nomark _)) (pss_one (ps_ret (pe_ix ix_seq (pv 2) (pv 3) (fun _ _ => rfl)))) pss_nil)
      (pss_one (ps_ret pe_non))))), fun wd fl us n H A w hl wh o dv hp => ?_⟩
  obtain ⟨v, rfl, d1⟩ := DvA.inv1 dv
  obtain ⟨hn, hu⟩ := hp
  obtain ⟨p, hup⟩ := Option.ne_none_iff_exists'.mp hu
  obtain ⟨hp, hk⟩ := o.upk n p hn hup
  have gU : GD K (tOp (rIx K) (tDGet (tVar 0) (tC (.str "up"))) (tVar 1)) [some (.ref wd), some v, none, none] H A (ofN p) := by
    have g := wh.upG (σ := [some (.ref wd), some v, none, none]) (tn := tVar 1) rfl hn (gd_var rfl d1)
    rw [hup] at g
    exact g
  refine gb_set (wh.kidsG rfl hp gU) fun v2 G2 H2 p2 d2 => ?_
  refine gb_set (d := ofN ((nd w.ns p).kids.idxOf n + 1)) (gdo (gd_idx (gd_var rfl d2) (gd_var rfl (d1.to p2.hg)) hk) (gd_int (i := 1)) (go_addN (b := 1))) fun v3 G3 H3 p3 d3 => ?_
  refine gb_if (gt_test (gdo (gd_var rfl d3) (gd_cb (ga_cons (gd_var rfl (d2.to p3.hg)) ga_nil) len_nats) go_ltN)) (fun c => ?_) fun c => ?_
  · have c2 := of_decide_eq_true c
    have hg : (nd w.ns p).kids[(nd w.ns p).kids.idxOf n + 1]? = some ((nd w.ns p).kids[(nd w.ns p).kids.idxOf n + 1]) := List.getElem?_eq_getElem c2
    refine gb_ret (gdo (gd_var rfl (d2.to p3.hg)) (gd_var rfl d3) (go_ixN hg)) ?_
    unfold nextW nextA
    rw [hup]
    show _ = upD (nd w.ns p).kids[(nd w.ns p).kids.idxOf n + 1]?
    rw [hg]; rfl
  · have c2 := of_decide_eq_false c
    refine gb_ret gd_non ?_
    unfold nextW nextA
    rw [hup]
    show _ = upD (nd w.ns p).kids[(nd w.ns p).kids.idxOf n + 1]?
    rw [List.getElem?_eq_none (by omega)]; rfl
/-! ### out -/
abbrev s_law_out : Stmt := topS 29
theorem sc_law_out : FnScope ["world", "n", "up", "k"] ["world", "n"] (defScope s_law_out) := ⟨rfl, rfl, rfl, by decide +kernel, rfl, by decide +kernel, by decide +kernel⟩
def preO (w : Wm) (n : Nat) : Prop := n < w.ns.length ∧ roomy w
theorem nd_setKids_other {ns : List Nd} {p m : Nat} {ks : List Nat} (h : m ≠ p) : nd (setKids ns p ks) m = nd ns m := nd_ne h
theorem ok_out (F : Fun K "_law_out" "_law_out" s_law_out f fd) (c_law_tell : Cal P W K mg base 61 "_law_tell" (spM K 2 arT preT fT)) : FnOk P W K mg base CX0 62 f fd ["world", "n"] (spM K 1 ar1 preO fun w n => (outA w n, .none)) := by
  refine fn_M F sc_law_out rfl fun cdv A outer s H1 E hr => ⟨_, (pss_cons (ps_set (i := 2) sc_law_out.nd rfl (Or.inl rfl) (pe_ix ix_seq (pe_dget (hu_of hr) (pv 0) pe_str (fun _ _ => rfl)) (pv 1) (fun _ _ => rfl)))
      (pss_cons (ps_if (pt_cmpR op_isnot1 (pv 2) pe_non (nomark _)) (pss_cons (ps_expr (pe_k c_law_tell hr (by omega) (pa_cons (pv 0) (pa_cons (RR.pe_tupF (pa_cons pe_str (pa_cons (pv 2) (pa_cons (pv 1) pa_nil)))) (pa_cons (pv 1) pa_nil)))))
      (pss_cons (ps_asg (pe_lc (own := [("k", 3)]) (by rfl) sc_law_out.nd (pi_seq (pe_ix ix_seq (pe_dget (hu_of hr) (pv 0) pe_str (fun _ _ => rfl)) (pv 2) (fun _ _ => rfl))) (blkOk_by (own := [("k", 3)]) (N := ["world", "n", "up", "k"]) (sc := defScope s_law_out) (by decide +kernel)) (fun _ _ _ _ _ => (pg_name (i := 3) sc_law_out.nd rfl (Or.inl rfl))) (fun _ _ _ _ _ => (pts_one (pt_cmpR (op_neK K hr.units) (pv 3) (pv 1) (nomark _)))) (fun _ _ _ _ _ => (pv 3))) (pg_sub (pe_dget (hu_of hr) (pv 0) pe_str (fun _ _ => rfl)) (pv 2) set_list))
      (pss_one (ps_asg pe_non (pg_sub (pe_dget (hu_of hr) (pv 0) pe_str (fun _ _ => rfl)) (pv 1) set_list))))) pss_nil)
      (pss_one (ps_ret pe_non)))), fun wd fl us n H H1 w Q hl wh o dv hp k => ?_⟩
  obtain ⟨v, rfl, d1⟩ := DvA.inv1 dv
  obtain ⟨hn, hr⟩ := hp
  have a0 := WA.refl wh
  refine s_set (K := K) (wh.upG rfl hn (gd_var rfl d1)) wh.gh fun v2 G2 H2 p2 d2 => ?_
  have a2 := a0.pub p2
  unfold outA at k
  cases hup : (nd w.ns n).up with
  | none =>
    rw [hup] at d2 k
    have e := Dv.non_inv d2
    subst e
    refine s_if (b := false) (gt_test (gdo (K := K) (gd_var rfl d2) gd_non go_notN)) a2.gh (fun z => nomatch z) fun _ H3 s3 => ?_
    show tRet (tC .non) { nx := fun _ H' => Q .non H', rt := Q } ([] : L2.St) H3
    refine s_ret (K := K) gd_non (a2.test s3).gh fun v4 G4 H4 p4 d4 => ?_
    exact k v4 G4 H4 ((a2.test s3).pub p4) d4
  | some p =>
    rw [hup] at d2 k
    obtain ⟨hp, hk⟩ := o.upk n p hn hup
    have hne := o.ne_up hn hup
    have d1' := d1.to p2.hg
    refine s_if (b := true) (gt_test (gdo (K := K) (gd_var rfl d2) gd_non go_notN)) a2.gh (fun _ H3 s3 => ?_) fun z => nomatch z
    have a3 := a2.test s3
    refine e_call (ar := arT) (Pre := preT) (f := fT) ([.str "out", ofN p, ofN n], p, some n) a3 o rfl (ga_cons (gd_tup (ga_cons gd_str (ga_cons (gd_var rfl d2) (ga_cons (gd_var rfl d1') ga_nil)))) (ga_cons (gd_var rfl d1') ga_nil)) rfl ⟨rfl, hp, fun b hb => by cases hb; exact hn, hr⟩ fun v4 G4 H4 a4 s4 d4 => ?_
    have d14 := d1'.to s4
    have d24 := d2.to s4
    have gks : ∀ {σ : L2.St}, σ[0]? = some (some (.ref wd)) → σ[2]? = some (some v2) → GD K (tOp (rIx K) (tDGet (tVar 0) (tC (.str "kids"))) (tVar 2)) σ G4 H4 (natsD (nd w.ns p).kids) := fun h0 h2 => a4.wh.kidsG h0 hp (gd_var h2 d24)
    have hfl := o.kidLe hp
    have hlen := o.len
    refine e_store (i := 3) (x := { nd w.ns p with kids := (nd w.ns p).kids.filter fun k => !decide (k = n) }) a4 (by omega) rfl rfl hp (GD.gq (gd_lcIf (em := ofN) (p := fun k => !decide (k = n)) (f := ofN) (gi_seqL (gks rfl rfl)) (by omega) (fun i c hc v5 G5 H5 p5 d5 => gt_test (gdo (gd_var rfl d5) (gd_var rfl (d14.to p5.hg)) go_neN)) fun i c hc _ v5 G5 H5 p5 d5 => gd_var rfl d5) a4.gh fun _ _ h => h) (fun G' H' p' => gd_var rfl (d24.to p'.hg)) (fun j hj hj3 G' u hu => by
      match j, hj, hj3, hu with
      | 0, _, _, hu => exact hu
      | 1, _, _, hu => exact hu
      | 2, _, _, hu => exact hu
      | 4, _, _, hu => exact hu) fun G5 H5 a5 s5 => ?_
    have hn5 : n < (w.ns.set p { nd w.ns p with kids := (nd w.ns p).kids.filter fun k => !decide (k = n) }).length := by rw [List.length_set]; exact hn
    refine e_store (i := 4) (x := { nd w.ns n with up := none }) a5 (by omega) rfl rfl hn5 (GD.gq gd_non a5.gh fun _ _ h => h) (fun G' H' p' => gd_var rfl ((d14.to s5).to p'.hg)) (fun j hj hj3 G' u hu => by
      have e : nd (w.ns.set p { nd w.ns p with kids := (nd w.ns p).kids.filter fun k => !decide (k = n) }) n = nd w.ns n := nd_ne (Ne.symm hne)
      have hu := Eq.mp (congrArg (colR K G' j u) e) hu
      match j, hj, hj3, hu with
      | 0, _, _, hu => exact hu
      | 1, _, _, hu => exact hu
      | 2, _, _, hu => exact hu
      | 3, _, _, hu => exact hu
      | 4, _, h, _ => exact absurd rfl h) fun G6 H6 a6 s6 => ?_
    have e : nd (w.ns.set p { nd w.ns p with kids := (nd w.ns p).kids.filter fun k => !decide (k = n) }) n = nd w.ns n := nd_ne (Ne.symm hne)
    show tRet (tC .non) { nx := fun _ H' => Q .non H', rt := Q } ([] : L2.St) H6
    refine s_ret (K := K) gd_non a6.gh fun v7 G7 H7 p7 d7 => ?_
    refine k v7 G7 H7 ?_ d7
    have a7 := a6.pub p7
    have eo : outN w.ns p n = (w.ns.set p { nd w.ns p with kids := (nd w.ns p).kids.filter fun k => !decide (k = n) }).set n { nd w.ns n with up := none } := by
      unfold outN setUp
      rw [show nd (setKids w.ns p ((nd w.ns p).kids.filter fun k => !decide (k = n))) n = nd w.ns n from nd_ne (Ne.symm hne)]
      rfl
    show WA K wd fl H H1 G7 H7 { tell w (recOut p n) p (some n) with ns := outN w.ns p n }
    rw [eo]
    exact a7
end
end LW
end
section
set_option Elab.async false
set_option linter.all false
set_option maxRecDepth 100000
set_option maxHeartbeats 4000000
namespace LM
open PySem
theorem outA_upne {w : Wm} {n m : Nat} (h : m ≠ n) (hn : n < w.ns.length) : (nd (outA w n).ns m).up = (nd w.ns m).up := by
  unfold outA
  split
  · rfl
  · show (nd (outN w.ns _ n) m).up = _
    unfold outN
    rw [up_at hn, if_neg h]
end LM
namespace LW
open PySem PySem.Spec PyProof.Rows L2 DL LM
section
variable {P : Program} {W : World} {K : PySem.W.Frag} {mg : Str → Option Value} {base : Heap} {f : Addr} {fd : FuncData} {A H H1 G Hc : Hp} {σ : L2.St} {to te tn : TE} {wd : Addr} {fl : Nat → Addr} {w : Wm}
abbrev s_law_missing : Stmt := topS 32
theorem sc_law_missing : FnScope ["world", "numbers", "n"] ["world", "numbers"] (defScope s_law_missing) := ⟨rfl, rfl, rfl, by decide +kernel, rfl, by decide +kernel, by decide +kernel⟩
def arL : List (Option Nat) → List PyData := fun l => [.list (l.map upD)]
theorem miss_drop {N : Nat} {l : List (Option Nat)} {i : Nat} {a : Option Nat} (h : l[i]? = some a) (ha : ∀ n, a = some n → n < N) : miss N (l.drop i) = miss N (l.drop (i + 1)) := by
  have e : l.drop i = a :: l.drop (i + 1) := by
    obtain ⟨hi, e⟩ := List.getElem?_eq_some_iff.mp h
    rw [List.drop_eq_getElem_cons hi, e]
  rw [e]
  cases a with
  | none => rfl
  | some n =>
    show (if n < N then _ else _) = _
    rw [if_pos (ha n rfl)]
theorem miss_hit {N : Nat} {l : List (Option Nat)} {i n : Nat} (h : l[i]? = some (some n)) (ha : ¬ n < N) : miss N (l.drop i) = some n := by
  have e : l.drop i = some n :: l.drop (i + 1) := by
    obtain ⟨hi, e⟩ := List.getElem?_eq_some_iff.mp h
    rw [List.drop_eq_getElem_cons hi, e]
  rw [e]
  show (if n < N then _ else _) = _
  rw [if_neg ha]
theorem ok_missing (T : Bt mg) (F : Fun K "_law_missing" "_law_missing" s_law_missing f fd) : FnOk P W K mg base CX0 1 f fd ["world", "numbers"] (spR K 1 arL (fun _ l => l.length ≤ 1000) fun w l => upD (miss w.ns.length l)) := by
  refine fn_R F sc_law_missing rfl fun cdv A outer s H1 E hr => ⟨_, (pss_cons (ps_for PassesOwn.never rfl (pi_seq (pv 1)) (pg_name (i := 2) sc_law_missing.nd rfl (Or.inl rfl)) (pss_one (ps_if (PW.pt (pw_and (pt_cmpR op_isnot1 (pv 2) pe_non (nomark _)) (pw_and1 (pt_not (pt_chain op_leA op_ltA pe_int (pv 2) (pe_callB cr_len (by rfl) T.len PySem.boot_len (pa_cons (pe_dget (hu_of hr) (pv 0) pe_str (fun _ _ => rfl)) pa_nil))))))) (pss_one (ps_ret (pv 2))) pss_nil)))
      (pss_one (ps_ret pe_non))), fun wd fl us l H A w hl wh o dv hp => ?_⟩
  obtain ⟨v, rfl, d1⟩ := DvA.inv1 dv
  intro H0 H1 e D q
  have wh1 := wh.pub e
  refine for_run (gi_seqL (K := K) (gd_var rfl (d1.to e.hg))) (.refl e.gh) fun B HB PB => ?_
  refine ⟨fun i σ' G H' => ∃ x2 : Option V, σ' = [some (.ref wd), some v, x2] ∧ Pub H0 H1 G H' ∧ Same B G ∧ miss w.ns.length l = miss w.ns.length (l.drop i), ⟨none, rfl, PB, .refl _, rfl⟩, fun i σ' G H' ⟨_, _, p, s, _⟩ => ⟨s, p.gh⟩, ?_, ?_⟩
  · rintro i d σ' G H' hd ⟨x2, rfl, p2, sB, hm⟩ u G5 H5 P5 dv5
    rw [List.getElem?_map] at hd
    obtain ⟨a, ha, rfl⟩ := Option.map_eq_some_iff.mp hd
    have p5 := p2.trans P5
    have wh5 := wh1.pub p5
    cases a with
    | none =>
      refine s_if (b := false) (gt_and (c := false) (b := false) (gt_test (gdo (K := K) (gd_var rfl dv5) gd_non go_notN)) fun z => nomatch z) p5.gh (fun z => nomatch z) fun _ H6 s6 => ?_
      exact ⟨G5, some u, rfl, p5.test s6, sB.trans P5.hg, hm.trans (miss_drop ha fun n z => nomatch z)⟩
    | some n =>
      refine s_if (b := !decide (n < w.ns.length)) (gt_and (b := true) (c := !decide (n < w.ns.length)) (gt_test (gdo (K := K) (gd_var rfl dv5) gd_non go_notN)) fun _ => gt_not (gt_test (K := K) ?_)) p5.gh (fun c H6 s6 => ?_) fun c H6 s6 => ?_
      · have g := gd_chain (K := K) (σ := [some (.ref wd), some v, some u]) (gd_int (i := 0)) (gd_var (i := 2) rfl dv5) (go_leI (K := K)) (wh5.len rfl) (go_ltN (K := K))
        rw [show decide ((0 : Int) ≤ (n : Int)) = true from decide_eq_true (by omega)] at g
        exact g
      · have c2 : ¬ n < w.ns.length := by simpa using c
        refine ⟨u, rfl, q _ u G5 H6 ?_ (p5.test s6) dv5⟩
        show _ = upD (miss w.ns.length l)
        rw [hm, miss_hit ha c2]
      · have c2 : n < w.ns.length := by simpa using c
        exact ⟨G5, some u, rfl, p5.test s6, sB.trans P5.hg, hm.trans (miss_drop ha fun m z => by cases z; exact c2)⟩
  · rintro σ' G H' ⟨x2, rfl, p2, sB, hm⟩
    rw [List.length_map, List.drop_length] at hm
    refine s_ret (K := K) (σ := []) gd_non p2.gh fun v4 G4 H4 p4 d4 => ?_
    refine q _ v4 G4 H4 ?_ (p2.trans p4) d4
    show _ = upD (miss w.ns.length l)
    rw [hm]; rfl
/-! ### put -/
theorem cut_to {l : List Nat} {a : Nat} (h : a ≤ l.length) : DL.cutD (l.map ofN) none (some (a : Int)) = (l.take a).map ofN := by
  unfold DL.cutD
  rw [HT.sIx_none, HT.sIx_nat, List.length_map, Nat.min_eq_left h, List.drop_zero, Nat.sub_zero, List.map_take]
theorem cut_from {l : List Nat} {a : Nat} (h : a ≤ l.length) : DL.cutD (l.map ofN) (some (a : Int)) none = (l.drop a).map ofN := by
  unfold DL.cutD
  rw [HT.sIx_none, HT.sIx_nat, List.length_map, Nat.min_eq_left h, ← List.map_drop, List.take_of_length_le (by simp)]
theorem txt_dec (t : Bool) : decide (kindS t = "t") = t := by cases t <;> decide
theorem txt_dec2 (t : Bool) : decide (kindS t = "e") = !t := by cases t <;> decide
theorem WH.txtG {n : Nat} (h : WH K wd fl H A w) (h0 : σ[0]? = some (some (.ref wd))) (hn : n < w.ns.length) (gn : GD K tn σ H A (ofN n)) : GT (tTest (tOp (rEqA K) (tOp (rIx K) (tDGet (tVar 0) (tC (.str "kind"))) tn) (tC (.str "t")))) σ H A (nd w.ns n).txt := by
  have g := gt_test (gdo (h.kindG h0 hn gn) (gd_str (i := "t")) go_eqS)
  rw [txt_dec] at g
  exact g
abbrev s_law_put : Stmt := topS 30
theorem sc_law_put : FnScope ["world", "up", "n", "before", "row", "at"] ["world", "up", "n", "before"] (defScope s_law_put) := ⟨rfl, rfl, rfl, by decide +kernel, rfl, by decide +kernel, by decide +kernel⟩
abbrev ArP := Nat × Nat × Option Nat
def arP : ArP → List PyData := fun x => [ofN x.1, ofN x.2.1, upD x.2.2]
def roomy2 (w : Wm) : Prop := w.told.length + 2 < 1000000 ∧ w.downs.length + 2 < 1000000
def preP (w : Wm) (x : ArP) : Prop := x.1 < w.ns.length ∧ x.2.1 < w.ns.length ∧ (∀ b, x.2.2 = some b → b < w.ns.length) ∧ roomy2 w
def fP (w : Wm) (x : ArP) : Wm × PyData := putA w x.1 x.2.1 x.2.2
theorem atA_le {ns : List Nd} {p : Nat} {b : Option Nat} : atA ns p b ≤ (nd ns p).kids.length := by
  cases b with
  | none => exact Nat.le_refl _
  | some b => exact List.idxOf_le_length
theorem ok_put (T : Bt mg) (F : Fun K "_law_put" "_law_put" s_law_put f fd) (c_law_tell : Cal P W K mg base 61 "_law_tell" (spM K 2 arT preT fT)) (c_law_out : Cal P W K mg base 62 "_law_out" (spM K 1 ar1 preO fun w n => (outA w n, .none)))
    (c_law_above : Cal P W K mg base 1 "_law_above" (spR K 1 ar1 preN fun w n => aboveD w.ns n)) (c_law_next : Cal P W K mg base 1 "_law_next" (spR K 1 ar1 preUp fun w n => upD (nextW w.ns n))) (c_law_shape : Cal P W K mg base 60 "_law_shape" (spR K 1 ar1 (preShape 60) fun w n => shapeF 60 w.ns n)) :
    FnOk P W K mg base CX0 63 f fd ["world", "up", "n", "before"] (spM K 3 arP preP fP) := by
  refine fn_M F sc_law_put rfl fun cdv A outer s H1 E hr => ⟨_, (pss_cons (ps_if (pt_cmpR (op_eqA hr.units) (pe_ix ix_seq (pe_dget (hu_of hr) (pv 0) pe_str (fun _ _ => rfl)) (pv 1) (fun _ _ => rfl)) pe_str (nomark _)) (pss_one (ps_ret pe_str)) pss_nil)
      (pss_cons (ps_if (pt_cmpR (op_eqA hr.units) (pv 2) pe_int (nomark _)) (pss_one (ps_ret pe_str)) pss_nil)
      (pss_cons (ps_if (pt_cmpR op_in_seq (pv 2) (pe_k c_law_above hr (by omega) (pa_cons (pv 0) (pa_cons (pv 1) pa_nil))) (by rfl)) (pss_one (ps_ret pe_str)) pss_nil)
      (pss_cons (ps_if (PW.pt (pw_and (pt_cmpR op_isnot1 (pv 3) pe_non (nomark _)) (pw_and1 (PW.pt (pw_or (pt_cmpR (op_eqA hr.units) (pv 3) (pv 2) (nomark _)) (pw_or1 (pt_cmpR (op_neA hr.units) (pe_ix ix_seq (pe_dget (hu_of hr) (pv 0) pe_str (fun _ _ => rfl)) (pv 3) (fun _ _ => rfl)) (pv 1) (nomark _)))))))) (pss_one (ps_ret pe_str)) pss_nil)
      (pss_cons (ps_if (PW.pt (pw_and (pt_cmpR (op_eqA hr.units) (pe_ix ix_seq (pe_dget (hu_of hr) (pv 0) pe_str (fun _ _ => rfl)) (pv 2) (fun _ _ => rfl)) (pv 1) (nomark _)) (pw_and1 (pt_cmpR (op_eqA hr.units) (pe_k c_law_next hr (by omega) (pa_cons (pv 0) (pa_cons (pv 2) pa_nil))) (pv 3) (nomark _))))) (pss_one (ps_ret pe_non)) pss_nil)
      (pss_cons (ps_expr (pe_k c_law_out hr (by omega) (pa_cons (pv 0) (pa_cons (pv 2) pa_nil))))
      (pss_cons (ps_expr (pe_k c_law_tell hr (by omega) (pa_cons (pv 0) (pa_cons (RR.pe_tupF (pa_cons pe_str (pa_cons (pv 1) (pa_cons (pe_k c_law_shape hr (by omega) (pa_cons (pv 0) (pa_cons (pv 2) pa_nil))) (pa_cons (pv 3) pa_nil))))) (pa_cons pe_non pa_nil)))))
      (pss_cons (ps_set (i := 4) sc_law_put.nd rfl (Or.inl rfl) (pe_ix ix_seq (pe_dget (hu_of hr) (pv 0) pe_str (fun _ _ => rfl)) (pv 1) (fun _ _ => rfl)))
      (pss_cons (ps_set (i := 5) sc_law_put.nd rfl (Or.inl rfl) (pe_callB cr_len (by rfl) T.len PySem.boot_len (pa_cons (pv 4) pa_nil)))
      (pss_cons (ps_if (pt_cmpR op_isnot1 (pv 3) pe_non (nomark _)) (pss_one (ps_set (i := 5) sc_law_put.nd rfl (Or.inl rfl) (pe_bm PySem.F.plainAttrs_list PySem.F.slot_list_index PySem.F.type_list_index mt_index (pv 4) (pa_cons (pv 3) pa_nil)))) pss_nil)
      (pss_cons (ps_asg (pe_op op_addA (pe_op op_addA (pe_slice sl_D (pv 4) po_none (po_some (pv 5))) (pe_lst (pa_cons (pv 2) pa_nil))) (pe_slice sl_D (pv 4) (po_some (pv 5)) po_none)) (pg_sub (pe_dget (hu_of hr) (pv 0) pe_str (fun _ _ => rfl)) (pv 1) set_list))
      (pss_cons (ps_asg (pv 1) (pg_sub (pe_dget (hu_of hr) (pv 0) pe_str (fun _ _ => rfl)) (pv 2) set_list))
      (pss_one (ps_ret pe_non)))))))))))))), fun wd fl us x H H1 w Q hl wh o dv hp k => ?_⟩
  obtain ⟨p, n, b⟩ := x
  obtain ⟨hp, hn, hb, hr⟩ := hp
  obtain ⟨v, u, z, rfl, d1, d2, d3⟩ := DvA.inv3 dv
  have a0 := WA.refl wh
  unfold fP putA at k
  simp only at k hp hn hb d1 d2 d3
  refine s_ifr (K := K) (WH.txtG wh rfl hp (gd_var rfl d1)) a0.gh (fun c H2 s2 => ?_) fun c H2 s2 => ?_
  · rw [if_pos c] at k
    refine s_ret (K := K) (gd_str (i := "not an element")) (a0.test s2).gh fun v4 G4 H4 p4 d4 => ?_
    exact k v4 G4 H4 ((a0.test s2).pub p4) d4
  have ht := c
  rw [if_neg (by rw [c]; exact Bool.false_ne_true)] at k
  have a2 := a0.test s2
  refine s_ifr (K := K) (gt_test (gdo (K := K) (gd_var rfl d2) (gd_int (i := 0)) (go_eqN (b := 0)))) a2.gh (fun c H3 s3 => ?_) fun c H3 s3 => ?_
  · rw [if_pos (of_decide_eq_true c)] at k
    refine s_ret (K := K) (gd_str (i := "top")) (a2.test s3).gh fun v4 G4 H4 p4 d4 => ?_
    exact k v4 G4 H4 ((a2.test s3).pub p4) d4
  have h0 := of_decide_eq_false c
  rw [if_neg h0] at k
  have a3 := a2.test s3
  refine s_ifr (K := K) (gt_test (gdo (K := K) (gd_var rfl d2) (gd_callR (ar := ar1) p a3.wh o rfl (ga_cons (gd_var rfl d1) ga_nil) rfl hp) go_inN)) a3.gh (fun c H4 s4 => ?_) fun c H4 s4 => ?_
  · rw [if_pos (of_decide_eq_true c)] at k
    refine s_ret (K := K) (gd_str (i := "inside itself")) (a3.test s4).gh fun v4 G4 H4 p4 d4 => ?_
    exact k v4 G4 H4 ((a3.test s4).pub p4) d4
  have hna := of_decide_eq_false c
  rw [if_neg hna] at k
  have a4 := a3.test s4
  refine s_ifr (K := K) (b := badB w.ns p n b) (?_ : GT _ _ H H4 _) a4.gh (fun c H5 s5 => ?_) fun c H5 s5 => ?_
  · cases b with
    | none => exact gt_and (b := false) (c := true) (gt_test (gdo (K := K) (gd_var rfl d3) gd_non go_notN)) fun z => nomatch z
    | some b => exact gt_and (b := true) (gt_test (gdo (K := K) (gd_var rfl d3) gd_non go_notN)) fun _ => gt_or (gt_test (gdo (K := K) (gd_var rfl d3) (gd_var rfl d2) go_eqN)) fun _ => gt_test (gdo (K := K) (a4.wh.upG rfl (hb b rfl) (gd_var rfl d3)) (gd_var rfl d1) (go_neU (b := some p)))
  · rw [if_pos c] at k
    refine s_ret (K := K) (gd_str (i := "not a child")) (a4.test s5).gh fun v4 G4 H4 p4 d4 => ?_
    exact k v4 G4 H4 ((a4.test s5).pub p4) d4
  have hbad := c
  rw [if_neg (by rw [c]; exact Bool.false_ne_true)] at k
  have a5 := a4.test s5
  refine s_ifr (K := K) (b := isAt w.ns p n b) (?_ : GT _ _ H H5 _) a5.gh (fun c H6 s6 => ?_) fun c H6 s6 => ?_
  · refine gt_and (gt_test (gdo (K := K) (a5.wh.upG rfl hn (gd_var rfl d2)) (gd_var rfl d1) (go_eqU (b := some p)))) fun c => ?_
    have c2 := of_decide_eq_true c
    have g := gt_test (gdo (K := K) (σ := [some (.ref wd), some v, some u, some z, none, none]) (gd_callR (ar := ar1) (Pre := preUp) (f := fun w n => upD (nextW w.ns n)) n a5.wh o rfl (ga_cons (gd_var (i := 2) rfl d2) ga_nil) rfl ⟨hn, by rw [c2]; exact fun z => nomatch z⟩) (gd_var (i := 3) rfl d3) (go_eqU (a := nextW w.ns n)))
    have e : nextW w.ns n = nextA w.ns p n := by
      unfold nextW
      rw [c2]
    rw [e] at g
    exact g
  · rw [if_pos c] at k
    refine s_ret (K := K) gd_non (a5.test s6).gh fun v4 G4 H4 p4 d4 => ?_
    exact k v4 G4 H4 ((a5.test s6).pub p4) d4
  rw [if_neg (by rw [c]; exact Bool.false_ne_true)] at k
  have a6 := a5.test s6
  refine e_call (ar := ar1) (Pre := preO) (f := fun w n => (outA w n, .none)) n a6 o rfl (ga_cons (gd_var rfl d2) ga_nil) rfl (show preO w n from ⟨hn, by unfold roomy; unfold roomy2 at hr; omega⟩) fun v7 G7 H7 a7 s7 d7 => ?_
  have a7 : WA K wd fl H H1 G7 H7 (outA w n) := a7
  have o7 := outA_ok o hn
  have hl7 : (outA w n).ns.length = w.ns.length := outA_len
  have hp7 : p < (outA w n).ns.length := by rw [hl7]; exact hp
  have hn7 : n < (outA w n).ns.length := by rw [hl7]; exact hn
  have hto := outA_told (w := w) (n := n)
  have d1' := d1.to s7
  have d2' := d2.to s7
  have d3' := d3.to s7
  refine e_call (ar := arT) (Pre := preT) (f := fT) ([.str "put", ofN p, shapeF 60 (outA w n).ns n, upD b], p, none) a7 o7 rfl (ga_cons (gd_tup (ga_cons gd_str (ga_cons (gd_var rfl d1') (ga_cons (gd_callR (ar := ar1) n a7.wh o7 rfl (ga_cons (gd_var rfl d2') ga_nil) rfl (o7.ht hn7)) (ga_cons (gd_var rfl d3') ga_nil))))) (ga_cons gd_non ga_nil)) rfl ⟨rfl, hp7, fun _ z => (nomatch z), by unfold roomy; unfold roomy2 at hr; omega⟩ fun v8 G8 H8 a8 s8 d8 => ?_
  have d18 := d1'.to s8
  have d28 := d2'.to s8
  have d38 := d3'.to s8
  refine s_set (K := K) (a8.wh.kidsG rfl hp7 (gd_var rfl d18)) a8.gh fun v9 G9 H9 p9 d9 => ?_
  have a9 := a8.pub p9
  have d9 : Dv K G9 v9 (natsD (nd (outA w n).ns p).kids) := d9
  refine s_set (K := K) (gd_cb (ga_cons (gd_var rfl d9) ga_nil) len_nats) a9.gh fun va Ga Ha pa da => ?_
  have aa := a9.pub pa
  have d9a := d9.to pa.hg
  have d1a := (d18.to p9.hg).to pa.hg
  have d2a := (d28.to p9.hg).to pa.hg
  have d3a := (d38.to p9.hg).to pa.hg
  refine s_mid (fun σ' H' => ∃ vb Gb, σ' = [some (.ref wd), some v, some u, some z, some v9, some vb] ∧ WA K wd fl H H1 Gb H' (fT (outA w n) ([.str "put", ofN p, shapeF 60 (outA w n).ns n, upD b], p, none)).1 ∧ Same Ga Gb ∧ Dv K Gb vb (ofN (atA (outA w n).ns p b))) ?_ fun rest => ?_
  · rintro σ' Hb ⟨vb, Gb, rfl, ab, sb, db⟩
    have d9b := d9a.to sb
    have d1b := d1a.to sb
    have d2b := d2a.to sb
    have hle := atA_le (ns := (outA w n).ns) (p := p) (b := b)
    have hkl := o7.kidLe hp7
    have hlen := o7.len
    refine e_store (i := 3) (x := { nd (outA w n).ns p with kids := insAt (nd (outA w n).ns p).kids (atA (outA w n).ns p b) n }) ab (by omega) rfl rfl hp7 (GD.gq (d := natsD (insAt (nd (outA w n).ns p).kids (atA (outA w n).ns p b) n)) ?_ ab.gh fun _ _ h => h) (fun G' H' p' => gd_var rfl (d1b.to p'.hg)) (fun j hj hj3 G' u hu => by
      match j, hj, hj3, hu with
      | 0, _, _, hu => exact hu
      | 1, _, _, hu => exact hu
      | 2, _, _, hu => exact hu
      | 4, _, _, hu => exact hu) fun Gc Hc ac sc => ?_
    · have g := gdo (K := K) (σ := [some (.ref wd), some v, some u, some z, some v9, some vb]) (A := Hb) (gdo (gd_slL (gd_var (i := 4) rfl d9b) gp_none (gp_some (gd_var (i := 5) rfl db))) (gd_lst (ga_cons (gd_var (i := 2) rfl d2b) ga_nil)) (go_addL (K := K) ?_)) (gd_slL (gd_var (i := 4) rfl d9b) (gp_some (gd_var (i := 5) rfl db)) gp_none) (go_addL (K := K) ?_)
      · rw [cut_to hle, cut_from hle] at g
        unfold insAt natsD
        rw [List.map_append, List.map_append]
        exact g
      · rw [cut_to hle, List.length_map, List.length_take, sizeLine_eq]
        show _ + 1 ≤ _
        omega
      · rw [cut_to hle, cut_from hle, List.length_append, List.length_map, List.length_map, List.length_take, List.length_drop, sizeLine_eq]
        show _ + 1 + _ ≤ _
        omega
    have hnp : p ≠ n := fun z => hna (z ▸ (o.above hp).self)
    have e : nd ((outA w n).ns.set p { nd (outA w n).ns p with kids := insAt (nd (outA w n).ns p).kids (atA (outA w n).ns p b) n }) n = nd (outA w n).ns n := nd_ne (Ne.symm hnp)
    have hnc : n < ((outA w n).ns.set p { nd (outA w n).ns p with kids := insAt (nd (outA w n).ns p).kids (atA (outA w n).ns p b) n }).length := by rw [List.length_set]; exact hn7
    refine e_store (i := 4) (x := { nd (outA w n).ns n with up := some p }) ac (by omega) rfl rfl hnc (GD.gq (gd_var rfl (d1b.to sc)) ac.gh fun _ _ h => h) (fun G' H' p' => gd_var rfl ((d2b.to sc).to p'.hg)) (fun j hj hj3 G' u hu => by
      have hu := Eq.mp (congrArg (colR K G' j u) e) hu
      match j, hj, hj3, hu with
      | 0, _, _, hu => exact hu
      | 1, _, _, hu => exact hu
      | 2, _, _, hu => exact hu
      | 3, _, _, hu => exact hu
      | 4, _, h, _ => exact absurd rfl h) fun Gd Hd ad sd => ?_
    show tRet (tC .non) { nx := fun _ H' => Q .non H', rt := Q } ([] : L2.St) Hd
    refine s_ret (K := K) gd_non ad.gh fun ve Ge He pe de => ?_
    refine k ve Ge He ?_ de
    have ae := ad.pub pe
    have eo : insN (outA w n).ns p n (atA (outA w n).ns p b) = ((outA w n).ns.set p { nd (outA w n).ns p with kids := insAt (nd (outA w n).ns p).kids (atA (outA w n).ns p b) n }).set n { nd (outA w n).ns n with up := some p } := by
      unfold insN setUp
      rw [show nd (setKids (outA w n).ns p (insAt (nd (outA w n).ns p).kids (atA (outA w n).ns p b) n)) n = nd (outA w n).ns n from nd_ne (Ne.symm hnp)]
      rfl
    show WA K wd fl H H1 Ge He (insA w p n b)
    unfold insA
    simp only
    rw [eo]
    exact ae
  · cases b with
    | none =>
      refine s_if (b := false) (gt_test (gdo (K := K) (gd_var rfl d3a) gd_non go_notN)) aa.gh (fun z => nomatch z) fun _ Hb sb => ?_
      exact rest _ _ ⟨va, Ga, rfl, aa.test sb, .refl _, da⟩
    | some b =>
      have hbn : b ≠ n ∧ (nd w.ns b).up = some p := by
        unfold badB at hbad
        simp at hbad
        exact hbad
      have hbk : b ∈ (nd (outA w n).ns p).kids := (o7.upk b p (by rw [hl7]; exact hb b rfl) (by rw [outA_upne hbn.1 hn]; exact hbn.2)).2
      refine s_if (b := true) (gt_test (gdo (K := K) (gd_var rfl d3a) gd_non go_notN)) aa.gh (fun _ Hb sb => ?_) fun z => nomatch z
      have ab := aa.test sb
      refine s_setE (K := K) (gd_idx (gd_var rfl d9a) (gd_var rfl d3a) hbk) ab.gh fun vc Gc Hc pc dc => ?_
      exact rest _ _ ⟨vc, Gc, rfl, ab.pub pc, pc.hg, dc⟩
end
end LW
end
section
set_option Elab.async false
set_option linter.all false
set_option maxRecDepth 100000
set_option maxHeartbeats 4000000
namespace LW
open PySem PySem.Spec PyProof.Rows L2 DL LM
/-! ### dicts of marks, written -/
theorem valV_drop (kvs : List (Key × V)) (k j : Key) : valV (dropK kvs k) j = if j = k then none else valV kvs j := by
  induction kvs with
  | nil => simp [dropK, valV_nil]
  | cons p r ih =>
    by_cases e : p.1 = k
    · have z : dropK (p :: r) k = dropK r k := by simp [dropK, List.filter_cons, e]
      rw [z, ih]
      by_cases y : j = k
      · rw [if_pos y, if_pos y]
      · rw [if_neg y, if_neg y, valV_neg (fun z => y (z.symm.trans e))]
    · have z : dropK (p :: r) k = p :: dropK r k := by simp [dropK, List.filter_cons, e]
      rw [z]
      by_cases x : p.1 = j
      · rw [valV_pos x, valV_pos x, if_neg (fun y => e (x.trans y))]
      · rw [valV_neg x, valV_neg x, ih]
theorem nd_drop {kvs : List (Key × V)} {k : Key} (h : (kvs.map (·.1)).Nodup) : ((dropK kvs k).map (·.1)).Nodup := h.sublist (List.Sublist.map _ List.filter_sublist)
theorem put_keys {kvs : List (Key × V)} {k : Key} {v : V} : (putK kvs k v).map (·.1) = if (valV kvs k).isSome = true then kvs.map (·.1) else kvs.map (·.1) ++ [k] := by
  unfold putK
  rw [valV_any]
  split
  · rw [List.map_map]
    refine List.map_congr_left fun e _ => ?_
    show (if e.1 = k then (e.1, v) else e).1 = e.1
    split <;> rfl
  · rw [List.map_append]; rfl
theorem MkK.put {kvs : List (Key × V)} {f : Str → Option Str} {k v : Str} (h : MkK kvs f) (hk : k ∈ KS) : MkK (putK kvs (.inr k) (.str v)) (setM f k (some v)) := by
  obtain ⟨h1, h2, h3⟩ := h
  refine ⟨?_, fun x => ?_, fun e he => ?_⟩
  · rw [put_keys]
    split
    · exact h1
    · rename_i hn
      refine List.nodup_append.mpr ⟨h1, by simp, fun a ha b hb e => ?_⟩
      rw [List.mem_singleton] at hb
      subst hb e
      exact hn (valV_mem.mpr ha)
  · rw [valV_put]
    unfold setM
    by_cases e : x = k
    · subst e
      rw [if_pos rfl, if_pos rfl]; rfl
    · rw [if_neg e, if_neg (fun z => e (Sum.inr.inj z))]
      exact h2 x
  · have hm : e.1 ∈ (putK kvs (.inr k) (.str v)).map (·.1) := List.mem_map.mpr ⟨e, he, rfl⟩
    have base : e.1 ∈ kvs.map (·.1) → ∃ k, k ∈ KS ∧ e.1 = .inr k := fun hb => by
      obtain ⟨e', he', z⟩ := List.mem_map.mp hb
      rw [← z]
      exact h3 e' he'
    rw [put_keys] at hm
    split at hm
    · exact base hm
    · rcases List.mem_append.mp hm with z | z
      · exact base z
      · rw [List.mem_singleton] at z
        exact ⟨k, hk, z⟩
theorem MkK.drop {kvs : List (Key × V)} {f : Str → Option Str} {k : Str} (h : MkK kvs f) : MkK (dropK kvs (.inr k)) (setM f k none) := by
  obtain ⟨h1, h2, h3⟩ := h
  refine ⟨nd_drop h1, fun x => ?_, fun e he => h3 e (List.mem_filter.mp he).1⟩
  rw [valV_drop]
  unfold setM
  by_cases e : x = k
  · subst e
    rw [if_pos rfl, if_pos rfl]; rfl
  · rw [if_neg e, if_neg (fun z => e (Sum.inr.inj z))]
    exact h2 x
theorem MkK.len {kvs : List (Key × V)} {f : Str → Option Str} (h : MkK kvs f) : kvs.length ≤ 3 := by
  obtain ⟨zs, e, hz, hd, _⟩ := MkK.names h
  have := small_names hz hd
  have e2 := congrArg List.length e
  rw [List.length_map, List.length_map] at e2
  omega
theorem setM_idem {f : Str → Option Str} {k : Str} {v : Option Str} : setM (setM f k none) k v = setM f k v := by
  funext x
  unfold setM
  split <;> rfl
theorem valV_get {kvs : List (Key × V)} {i : Nat} {k : Key} {v : V} (h : (kvs.map (·.1)).Nodup) (e : kvs[i]? = some (k, v)) : valV kvs k = some v := by
  induction kvs generalizing i with
  | nil => cases e
  | cons p r ih =>
    rw [List.map_cons] at h
    obtain ⟨h1, h2⟩ := List.nodup_cons.mp h
    cases i with
    | zero => cases e; exact valV_pos rfl
    | succ i =>
      have hm : k ∈ r.map (·.1) := List.mem_map.mpr ⟨(k, v), List.mem_of_getElem? e, rfl⟩
      rw [valV_neg (fun (z : p.1 = k) => h1 (by rw [z]; exact hm))]
      exact ih h2 e
theorem take_drop_put {kvs : List (Key × V)} {i : Nat} {k j : Key} {v : V} (h : (kvs.map (·.1)).Nodup) (e : kvs[i]? = some (j, v)) : dropK (kvs.take (i + 1)) k = if j = k then dropK (kvs.take i) k else putK (dropK (kvs.take i) k) j v := by
  have z : kvs.take (i + 1) = kvs.take i ++ [(j, v)] := by rw [List.take_add_one, e]; rfl
  have za : dropK (kvs.take (i + 1)) k = dropK (kvs.take i) k ++ dropK [(j, v)] k := by
    rw [z]; unfold dropK; rw [List.filter_append]
  rw [za]
  split
  · rename_i hj
    simp [dropK, hj]
  · rename_i hj
    rw [putK_new]
    · simp [dropK, hj]
    · cases hq : valV (dropK (kvs.take i) k) j with
      | none => rfl
      | some u =>
        exfalso
        have hm := (valV_mem (kvs := dropK (kvs.take i) k) (k := j)).mp (by rw [hq]; rfl)
        obtain ⟨x, hx, hxj⟩ := List.mem_map.mp hm
        have hx := (List.mem_filter.mp hx).1
        have hd : (kvs.take (i + 1)).map (·.1) = (kvs.take i).map (·.1) ++ [j] := by rw [z, List.map_append]; rfl
        have hn : ((kvs.take (i + 1)).map (·.1)).Nodup := h.sublist (List.Sublist.map _ (List.take_sublist _ _))
        rw [hd] at hn
        exact (List.nodup_append.mp hn).2.2 j (List.mem_map.mpr ⟨x, hx, hxj⟩) j (List.mem_singleton.mpr rfl) rfl
section
variable {P : Program} {W : World} {K : PySem.W.Frag} {mg : Str → Option Value} {base : Heap} {f : Addr} {fd : FuncData} {A H H1 G Hc : Hp} {σ : L2.St} {to te tn tx : TE} {wd : Addr} {fl : Nat → Addr} {w : Wm}
/-- marks.get(name, None) -/
theorem gd_markGet {a : Addr} {f : Str → Option Str} {k : Str} (g : GV te σ H A (.ref a)) (m : MkD A a f) (gn : GD K tn σ H A (.str k)) : GD K (tDGet2 te tn (tC .non)) σ H A (strO (f k)) := fun H0 H1 p Q q => g.to p fun G H2 p2 => by
  obtain ⟨kvs, h, mk⟩ := m
  refine ⟨a, rfl, .inl ⟨kvs, .inl (p2.hh _ _ (p.hh _ _ h))⟩, gn.to (p.trans p2) fun x G3 H3 p3 dx => ?_⟩
  have ex := Dv.str_inv dx
  subst ex
  refine ⟨valV kvs (.inr k), DGet.k (k := .inr k) (p3.hh _ _ (p2.hh _ _ (p.hh _ _ h))), ?_⟩
  rw [mk.2.1 k]
  cases hf : f k with
  | none => rw [hf] at q; exact q .non G3 H3 (p2.trans p3) .non
  | some v => rw [hf] at q; exact q (.str v) G3 H3 (p2.trans p3) (.str _)
theorem raw_mark {HL : Hp} {xs : List V} {n : Nat} {d : Addr} {Q : VK} (hd : HL wd = some (.dK (wdk fl))) (hx : HL (fl 2) = some (.lst xs)) (e : xs[n]? = some (.ref d)) (h0 : σ[0]? = some (some (.ref wd))) (h1 : σ[1]? = some (some (.int (n : Int)))) (q : Q (.ref d) HL) :
    tOp (rIx K) (tDGet (tVar 0) (tC (.str "marks"))) (tVar 1) σ HL Q :=
  ⟨.ref wd, h0, wd, .ref (fl 2), rfl, DGet.k (k := .inr "marks") hd, .int (n : Int), h1, .inl ⟨fl 2, xs, (n : Int), .ref d, rfl, rfl, SqL.of hx, atI_nat e, q⟩⟩
abbrev s_law_mark : Stmt := topS 31
theorem sc_law_mark : FnScope ["world", "n", "name", "value", "marks", "key"] ["world", "n", "name", "value"] (defScope s_law_mark) := ⟨rfl, rfl, rfl, by decide +kernel, rfl, by decide +kernel, by decide +kernel⟩
abbrev ArK := Nat × Str × Option Str
def arK : ArK → List PyData := fun x => [ofN x.1, .str x.2.1, strO x.2.2]
def preK (w : Wm) (x : ArK) : Prop := x.1 < w.ns.length ∧ x.2.1 ∈ KS ∧ roomy w
def fK (w : Wm) (x : ArK) : Wm × PyData := markA w x.1 x.2.1 x.2.2
theorem ok_mark (F : Fun K "_law_mark" "_law_mark" s_law_mark f fd) (c_law_tell : Cal P W K mg base 61 "_law_tell" (spM K 2 arT preT fT)) :
    FnOk P W K mg base CX0 62 f fd ["world", "n", "name", "value"] (spM K 3 arK preK fK) := by
  refine fn_M F sc_law_mark rfl fun cdv A outer s H1 E hr => ⟨_, (pss_cons (ps_if (pt_cmpR (op_eqA hr.units) (pe_ix ix_seq (pe_dget (hu_of hr) (pv 0) pe_str (fun _ _ => rfl)) (pv 1) (fun _ _ => rfl)) pe_str (nomark _)) (pss_one (ps_ret pe_str)) pss_nil)
      (pss_cons (ps_if (pt_cmpR (op_neA hr.units) (pe_dget2 (hu_of hr) (pe_ix ix_seq (pe_dget (hu_of hr) (pv 0) pe_str (fun _ _ => rfl)) (pv 1) (fun _ _ => rfl)) (pv 2) pe_non ⟨rfl, rfl, rfl, rfl⟩) (pv 3) (nomark _)) (pss_cons (ps_expr (pe_k c_law_tell hr (by omega) (pa_cons (pv 0) (pa_cons (RR.pe_tupF (pa_cons pe_str (pa_cons (pv 1) (pa_cons (pv 2) (pa_cons (pv 3) pa_nil))))) (pa_cons pe_non pa_nil)))))
      (pss_cons (ps_set (i := 4) sc_law_mark.nd rfl (Or.inl rfl) pe_dnewK)
      (pss_cons (ps_lock (ps_for PassesOwn.never rfl (pi_keys (pe_ix ix_seq (pe_dget (hu_of hr) (pv 0) pe_str (fun _ _ => rfl)) (pv 1) (fun _ _ => rfl))) (pg_name (i := 5) sc_law_mark.nd rfl (Or.inl rfl)) (pss_one (ps_if (pt_cmpR (op_neA hr.units) (pv 5) (pv 2) (nomark _)) (pss_one (ps_dput (hu_of hr) (pv 4) (pv 5) (pe_dget (hu_of hr) (pe_ix ix_seq (pe_dget (hu_of hr) (pv 0) pe_str (fun _ _ => rfl)) (pv 1) (fun _ _ => rfl)) (pv 5) (fun _ _ => rfl)) rfl)) pss_nil))))
      (pss_cons (ps_if (pt_cmpR op_isnot1 (pv 3) pe_non (nomark _)) (pss_one (ps_dput (hu_of hr) (pv 4) (pv 2) (pv 3) rfl)) pss_nil)
      (pss_one (ps_asg (pv 4) (pg_sub (pe_dget (hu_of hr) (pv 0) pe_str (fun _ _ => rfl)) (pv 1) set_list))))))) pss_nil)
      (pss_one (ps_ret pe_non)))), fun wd fl us x H H1 w Q hl wh o dv hp k => ?_⟩
  obtain ⟨n, nm, val⟩ := x
  obtain ⟨hn, hnm, hr⟩ := hp
  obtain ⟨v, u, z, rfl, d1, d2, d3⟩ := DvA.inv3 dv
  have ev := Dv.int_inv d1
  have eu := Dv.str_inv d2
  subst ev eu
  have a0 := WA.refl wh
  unfold fK markA at k
  simp only at k hn hnm d1 d2 d3
  refine s_ifr (K := K) (WH.txtG wh rfl hn (gd_var rfl d1)) a0.gh (fun c H2 s2 => ?_) fun c H2 s2 => ?_
  · rw [if_pos c] at k
    refine s_ret (K := K) (gd_str (i := "not an element")) (a0.test s2).gh fun v4 G4 H4 p4 d4 => ?_
    exact k v4 G4 H4 ((a0.test s2).pub p4) d4
  rw [if_neg (by rw [c]; exact Bool.false_ne_true)] at k
  have a2 := a0.test s2
  obtain ⟨d, mk, gm⟩ := a2.wh.mark hn
  refine s_ifr (K := K) (gt_test (gdo (K := K) (gd_markGet (gm rfl (gd_var rfl d1)) (mk.to a2.gh) (gd_var rfl d2)) (gd_var rfl d3) go_neO)) a2.gh (fun c H3 s3 => ?_) fun c H3 s3 => ?_
  rotate_left
  · rw [if_pos (by simpa using c)] at k
    refine s_ret (K := K) (σ := []) gd_non (a2.test s3).gh fun v4 G4 H4 p4 d4 => ?_
    exact k v4 G4 H4 ((a2.test s3).pub p4) d4
  rw [if_neg (by simpa using c)] at k
  have a3 := a2.test s3
  refine e_call (ar := arT) (Pre := preT) (f := fT) ([.str "mark", ofN n, .str nm, strO val], n, none) a3 o rfl (ga_cons (gd_tup (ga_cons gd_str (ga_cons (gd_var rfl d1) (ga_cons (gd_var rfl d2) (ga_cons (gd_var rfl d3) ga_nil))))) (ga_cons gd_non ga_nil)) rfl ⟨rfl, hn, fun _ z => (nomatch z), hr⟩ fun v4 G4 H4 a4 s4 d4 => ?_
  obtain ⟨xs, hxs, rxs⟩ := a4.wh.c 2 (by omega)
  obtain ⟨vd, hvd, dd, rfl, kvs, hkv, mk4⟩ := rxs.2 n _ (nd_get hn)
  have hkvH := a4.gh _ _ hkv
  intro p hp
  have hpG : G4 p = none := a4.gh.free hp
  have hdp : dd ≠ p := fun z => by rw [z, hpG] at hkv; cases hkv
  have hwd := a4.wh.d
  have hnd := mk4.1
  have hwdp : wd ≠ p := ne_of_none hwd hp
  have hflp : fl 2 ≠ p := ne_of_none hxs hp
  have hwdd : wd ≠ dd := fun z => by rw [← z, a4.wh.pd] at hkv; cases hkv
  have hfld : fl 2 ≠ dd := fun z => by rw [← z, a4.wh.pf 2 (by omega)] at hkv; cases hkv
  refine ⟨dd, .dK kvs, by rw [upd_ne hdp]; exact hkvH, True.intro, fun od => ?_⟩
  have hL : ∀ acc : List (Key × V), (upd (upd (upd H4 p (.dK [])) dd (.frz od (.dK kvs))) p (.dK acc)) = upd (upd H4 dd (.frz od (.dK kvs))) p (.dK acc) := fun acc => by
    funext b
    unfold upd
    split
    · rfl
    split
    · rfl
    rfl
  have hw : ∀ (acc : List (Key × V)), (upd (upd H4 dd (.frz od (.dK kvs))) p (.dK acc)) wd = some (.dK (wdk fl)) := fun acc => by rw [upd_ne hwdp, upd_ne hwdd]; exact hwd
  have hf2 : ∀ (acc : List (Key × V)), (upd (upd H4 dd (.frz od (.dK kvs))) p (.dK acc)) (fl 2) = some (.lst xs) := fun acc => by rw [upd_ne hflp, upd_ne hfld]; exact hxs
  have hdd : ∀ (acc : List (Key × V)), (upd (upd H4 dd (.frz od (.dK kvs))) p (.dK acc)) dd = some (.frz od (.dK kvs)) := fun acc => by rw [upd_ne hdp, upd_same]
  have h00 : upd (upd H4 p (.dK [])) dd (.frz od (.dK kvs)) = upd (upd H4 dd (.frz od (.dK kvs))) p (.dK []) := by
    funext b
    unfold upd
    by_cases e1 : b = dd
    · rw [if_pos e1, if_neg (fun z => hdp (e1.symm.trans z)), if_pos e1]
    · rw [if_neg e1, if_neg e1]
  rw [h00]
  refine raw_mark (hw []) (hf2 []) hvd rfl rfl ⟨dd, od, rfl, .inl ⟨kvs, hdd [], ?_⟩⟩
  refine ⟨fun i m σ' H' => m = kvs.length - i ∧ i ≤ kvs.length ∧ ∃ x5 : Option V, σ' = [some (.ref wd), some (.int (n : Int)), some (.str nm), some z, some (.ref p), x5] ∧ H' = upd (upd H4 dd (.frz od (.dK kvs))) p (.dK (dropK (kvs.take i) (.inr nm))), ⟨kvs.length, by simp, Nat.zero_le _, none, rfl, by rw [List.take_zero]; rfl⟩, ?_⟩
  rintro i m σ' H' ⟨rfl, hi, x5, rfl, rfl⟩
  by_cases hlt : i < kvs.length
  · refine .inr ⟨⟨hdd _, hlt⟩, fun σ' H' => ∃ x5 : Option V, σ' = [some (.ref wd), some (.int (n : Int)), some (.str nm), some z, some (.ref p), x5] ∧ H' = upd (upd H4 dd (.frz od (.dK kvs))) p (.dK (dropK (kvs.take (i + 1)) (.inr nm))), fun σ' H' h => ⟨kvs.length - (i + 1), by omega, rfl, hlt, h⟩, ?_⟩
    rintro x H'' ⟨rfl, key, vv, hke, rfl⟩
    obtain ⟨s, hs, es⟩ := mk4.2.2 _ (List.mem_of_getElem? hke)
    have es : key = .inr s := es
    subst es
    have hput := take_drop_put (k := .inr nm) hnd hke
    refine ⟨.str s, rfl, .str nm, rfl, .inl ⟨rfl, _, rfl, ?_⟩⟩
    have hdec : (!decide (V.str s = V.str nm)) = !decide (s = nm) := by simp
    rw [hdec]
    by_cases hsn : s = nm
    · rw [decide_eq_true hsn]
      refine iteF ⟨some (.str s), rfl, ?_⟩
      rw [hput, if_pos (by rw [hsn])]
    · rw [decide_eq_false hsn]
      refine iteT ?_
      refine raw_mark (hw _) (hf2 _) hvd rfl rfl ⟨.str s, rfl, dd, vv, rfl, .inl ⟨kvs, .inr s, .inr ⟨od, hdd _⟩, rfl, (valV_get hnd hke).symm⟩, ?_⟩
      refine ⟨.ref p, rfl, .str s, rfl, p, _, rfl, DPut.k (k := .inr s) upd_same ?_, some (.str s), rfl, ?_⟩
      · have h1 := dropK_le (kvs.take i) (.inr nm)
        have h2 : (kvs.take i).length ≤ kvs.length := by rw [List.length_take]; omega
        have h3 := MkK.len mk4
        rw [sizeLine_eq]; omega
      · rw [upd_upd, hput, if_neg (fun z => hsn (Sum.inr.inj z))]
  · have hn5 : i = kvs.length := by omega
    subst hn5
    refine .inl ⟨⟨hdd _, Nat.le_refl _⟩, hdd _, ?_⟩
    have hun : upd (upd (upd H4 dd (.frz od (.dK kvs))) p (.dK (dropK (kvs.take kvs.length) (.inr nm)))) dd (.dK kvs) = upd H4 p (.dK (dropK kvs (.inr nm))) := by
      rw [List.take_length]
      funext b
      unfold upd
      by_cases e1 : b = dd
      · rw [if_pos e1, if_neg (fun z => hdp (e1.symm.trans z)), e1]; exact hkvH.symm
      · rw [if_neg e1, if_neg e1]
    rw [hun]
    have mk5 := MkK.drop (k := nm) mk4
    show tSeq (tIfS (tTest (tOp rIsNot1 (tVar 3) (tC .non))) (sDPut (tVar 4) (tVar 2) (tVar 3)) tNext) (tAsg (tVar 4) (gSub (tDGet (tVar 0) (tC (.str "marks"))) (tVar 1) rSetL)) _ _ _
    refine s_mid (fun σ' H' => ∃ (x5 : Option V) (kf : List (Key × V)), σ' = [some (.ref wd), some (.int (n : Int)), some (.str nm), some z, some (.ref p), x5] ∧ H' = upd H4 p (.dK kf) ∧ MkK kf (setM (nd w.ns n).marks nm val)) ?_ fun rest => ?_
    · rintro σ' H' ⟨x5, kf, rfl, rfl, mkf⟩
      have a5 : WA K wd fl H H1 (upd G4 p (.dK kf)) (upd H4 p (.dK kf)) (fT w ([.str "mark", ofN n, .str nm, strO val], n, none)).1 := a4.pub ((Pub.refl a4.gh).new hp _)
      have gq : GQ K (tVar 4) [some (.ref wd), some (.int (n : Int)), some (.str nm), some z, some (.ref p), x5] (upd G4 p (.dK kf)) (upd H4 p (.dK kf)) 2 { nd w.ns n with marks := setM (nd w.ns n).marks nm val } := fun Q q => ⟨.ref p, rfl, q _ _ _ (.refl a5.gh) ⟨p, rfl, kf, upd_same, mkf⟩⟩
      refine e_store (i := 2) (nm := "marks") (x := { nd w.ns n with marks := setM (nd w.ns n).marks nm val }) a5 (by omega) rfl rfl hn gq (fun G' H' p' => gd_var (i := 1) rfl (.int _)) (fun j hj hj3 G' u hu => by
        match j, hj, hj3, hu with
        | 0, _, _, hu => exact hu
        | 1, _, _, hu => exact hu
        | 3, _, _, hu => exact hu
        | 4, _, _, hu => exact hu) fun G6 H6 a6 s6 => ?_
      show tRet (tC .non) { nx := fun _ H' => Q .non H', rt := Q } ([] : L2.St) H6
      refine s_ret (K := K) (σ := []) gd_non a6.gh fun v7 G7 H7 p7 d7 => ?_
      exact k v7 G7 H7 (a6.pub p7) d7
    · have d3' := d3.to s4
      have s5 : Same G4 (upd H4 p (.dK (dropK kvs (.inr nm)))) := same_upd2 a4.gh p hpG _
      cases val with
      | none =>
        have ez := Dv.non_inv d3'
        subst ez
        exact ⟨.non, rfl, rfl, _, rfl, iteF (rest _ _ ⟨x5, _, rfl, rfl, mk5⟩)⟩
      | some s =>
        have ez := Dv.str_inv d3'
        subst ez
        refine ⟨.str s, rfl, rfl, _, rfl, iteT ⟨.str s, rfl, .ref p, rfl, .str nm, rfl, p, _, rfl, DPut.k (k := .inr nm) upd_same ?_, ?_⟩⟩
        · have h1 := dropK_le kvs (.inr nm)
          have h3 := MkK.len mk4
          rw [sizeLine_eq]; omega
        · rw [upd_upd]
          have mk6 := MkK.put (v := s) mk5 hnm
          rw [setM_idem] at mk6
          exact rest _ _ ⟨x5, _, rfl, rfl, mk6⟩
end
end LW
end
section
set_option Elab.async false
set_option linter.all false
set_option maxRecDepth 100000
set_option maxHeartbeats 4000000
namespace LW
open PySem PySem.Spec PyProof.Rows L2 DL LM
section
variable {P : Program} {W : World} {K : PySem.W.Frag} {mg : Str → Option Value} {base : Heap} {f : Addr} {fd : FuncData} {A H H1 G Hc : Hp} {σ : L2.St} {t to te tn tx : TE} {ts tr : TS} {D : Ends} {wd : Addr} {fl : Nat → Addr} {w : Wm}
theorem orMiss_some {l : List (Option Nat)} {r : Wm × PyData} {m : Nat} (h : miss w.ns.length l = some m) : orMiss w l r = (w, .tuple [.str "no", ofN m]) := by unfold orMiss; rw [h]
theorem orMiss_none {l : List (Option Nat)} {r : Wm × PyData} (h : miss w.ns.length l = none) : orMiss w l r = r := by unfold orMiss; rw [h]
theorem s_strN {x y : Str} (g : GD K t σ G H (.str x)) (s : Same G H) (k : ∀ H', Same H H' → tr D σ H') (ne : decide (x = y) = false := by decide) : tSeq (tIfS (tTest (tOp (rEqA K) t (tC (.str y)))) ts tNext) tr D σ H :=
  s_ifr (K := K) (gt_test (gdo g gd_str go_eqS)) s (fun c => by rw [ne] at c; cases c) fun _ H' s' => k H' s'
theorem s_strY {x : Str} (g : GD K t σ G H (.str x)) (s : Same G H) (k : ∀ H', Same H H' → ts { D with nx := tr D } σ H') : tSeq (tIfS (tTest (tOp (rEqA K) t (tC (.str x)))) ts tNext) tr D σ H :=
  s_ifr (K := K) (gt_test (gdo g gd_str go_eqS)) s (fun _ H' s' => k H' s') fun c => by rw [decide_eq_true rfl] at c; cases c
theorem s_missing {l : List (Option Nat)} {v v2 v3 : V} {x4 : Option V} (a : WA K wd fl H H1 G Hc w) (o : Ok w.ns) (d3 : Dv K G v3 (.list (l.map upD))) (hl : l.length ≤ 1000)
    (k1 : ∀ m v G' H', miss w.ns.length l = some m → WA K wd fl H H1 G' H' w → Dv K G' v (.tuple [.str "no", ofN m]) → D.rt v H')
    (k2 : miss w.ns.length l = none → ∀ v4 G' H', WA K wd fl H H1 G' H' w → Same G G' → tr D [some (.ref wd), some v, some v2, some v3, some v4] H') :
    tSeq (tAsg (tCall (spR K 1 arL (fun _ l => l.length ≤ 1000) fun w l => upD (miss w.ns.length l)) [] E0 (tCons (tVar 0) (tCons (tVar 3) tNil))) (gName 4)) (tSeq (tIfS (tTest (tOp rIsNot1 (tVar 4) (tC .non))) (tRet (RR.tTupF (tCons (tC (.str "no")) (tCons (tVar 4) tNil)))) tNext) tr) D [some (.ref wd), some v, some v2, some v3, x4] Hc := by
  refine s_set (K := K) (gd_callR (ar := arL) l a.wh o rfl (ga_cons (gd_var rfl d3) ga_nil) rfl hl) a.gh fun v4 G4 H4 p4 d4 => ?_
  have a4 := a.pub p4
  cases hm : miss w.ns.length l with
  | none =>
    rw [hm] at d4
    refine s_ifr (K := K) (b := false) (gt_test (gdo (K := K) (gd_var rfl d4) gd_non go_notN)) a4.gh (fun z => nomatch z) fun _ H5 s5 => ?_
    exact k2 hm v4 G4 H5 (a4.test s5) p4.hg
  | some m =>
    rw [hm] at d4
    refine s_ifr (K := K) (b := true) (gt_test (gdo (K := K) (gd_var rfl d4) gd_non go_notN)) a4.gh (fun _ H5 s5 => ?_) fun z => nomatch z
    refine s_ret (K := K) (gd_tup (ga_cons gd_str (ga_cons (gd_var rfl d4) ga_nil))) (a4.test s5).gh fun v6 G6 H6 p6 d6 => ?_
    exact k1 m v6 G6 H6 hm ((a4.test s5).pub p6) d6
abbrev s_law_do : Stmt := topS 33
theorem sc_law_do : FnScope ["world", "deed", "kind", "numbers", "missing"] ["world", "deed"] (defScope s_law_do) := ⟨rfl, rfl, rfl, by decide +kernel, rfl, by decide +kernel, by decide +kernel⟩
def arD : Deed → List PyData := fun d => [deedD d]
def preD (w : Wm) (d : Deed) : Prop := deedOk d ∧ roomy2 w
theorem ok_do (T : Bt mg) (F : Fun K "_law_do" "_law_do" s_law_do f fd) (c_law_tell : Cal P W K mg base 61 "_law_tell" (spM K 2 arT preT fT)) (c_law_out : Cal P W K mg base 62 "_law_out" (spM K 1 ar1 preO fun w n => (outA w n, .none)))
    (c_law_make : Cal P W K mg base 1 "_law_make" (spM K 2 arM preAny fMake)) (c_law_missing : Cal P W K mg base 1 "_law_missing" (spR K 1 arL (fun _ l => l.length ≤ 1000) fun w l => upD (miss w.ns.length l)))
    (c_law_put : Cal P W K mg base 63 "_law_put" (spM K 3 arP preP fP)) (c_law_mark : Cal P W K mg base 62 "_law_mark" (spM K 3 arK preK fK)) :
    FnOk P W K mg base CX0 64 f fd ["world", "deed"] (spM K 1 arD preD doA) := by
  refine fn_M F sc_law_do rfl fun cdv A outer s H1 E hr => ⟨_, (pss_cons (ps_set (i := 2) sc_law_do.nd rfl (Or.inl rfl) (pe_ix ix_seq (pv 1) pe_int (fun _ _ => rfl)))
      (pss_cons (ps_if (pt_cmpR (op_eqA hr.units) (pv 2) pe_str (nomark _)) (pss_one (ps_ret (pe_k c_law_make hr (by omega) (pa_cons (pv 0) (pa_cons pe_str (pa_cons (pe_ix ix_seq (pv 1) pe_int (fun _ _ => rfl)) pa_nil)))))) pss_nil)
      (pss_cons (ps_if (pt_cmpR (op_eqA hr.units) (pv 2) pe_str (nomark _)) (pss_one (ps_ret (pe_k c_law_make hr (by omega) (pa_cons (pv 0) (pa_cons pe_str (pa_cons (pe_ix ix_seq (pv 1) pe_int (fun _ _ => rfl)) pa_nil)))))) pss_nil)
      (pss_cons (ps_set (i := 3) sc_law_do.nd rfl (Or.inl rfl) (pe_lst (pa_cons (pe_ix ix_seq (pv 1) pe_int (fun _ _ => rfl)) pa_nil)))
      (pss_cons (ps_if (pt_cmpR (op_eqA hr.units) (pv 2) pe_str (nomark _)) (pss_one (ps_set (i := 3) sc_law_do.nd rfl (Or.inl rfl) (pe_lst (pa_cons (pe_ix ix_seq (pv 1) pe_int (fun _ _ => rfl)) (pa_cons (pe_ix ix_seq (pv 1) pe_int (fun _ _ => rfl)) (pa_cons (pe_ix ix_seq (pv 1) pe_int (fun _ _ => rfl)) pa_nil)))))) pss_nil)
      (pss_cons (ps_set (i := 4) sc_law_do.nd rfl (Or.inl rfl) (pe_k c_law_missing hr (by omega) (pa_cons (pv 0) (pa_cons (pv 3) pa_nil))))
      (pss_cons (ps_if (pt_cmpR op_isnot1 (pv 4) pe_non (nomark _)) (pss_one (ps_ret (RR.pe_tupF (pa_cons pe_str (pa_cons (pv 4) pa_nil))))) pss_nil)
      (pss_cons (ps_if (pt_cmpR (op_eqA hr.units) (pv 2) pe_str (nomark _)) (pss_one (ps_ret (pe_k c_law_put hr (by omega) (pa_cons (pv 0) (pa_cons (pe_ix ix_seq (pv 1) pe_int (fun _ _ => rfl)) (pa_cons (pe_ix ix_seq (pv 1) pe_int (fun _ _ => rfl)) (pa_cons (pe_ix ix_seq (pv 1) pe_int (fun _ _ => rfl)) pa_nil))))))) pss_nil)
      (pss_cons (ps_if (pt_cmpR (op_eqA hr.units) (pv 2) pe_str (nomark _)) (pss_cons (ps_if (pt_cmpR op_is1 (pe_ix ix_seq (pe_dget (hu_of hr) (pv 0) pe_str (fun _ _ => rfl)) (pe_ix ix_seq (pv 1) pe_int (fun _ _ => rfl)) (fun _ _ => rfl)) pe_non (nomark _)) (pss_one (ps_ret pe_str)) pss_nil)
      (pss_one (ps_ret (pe_k c_law_out hr (by omega) (pa_cons (pv 0) (pa_cons (pe_ix ix_seq (pv 1) pe_int (fun _ _ => rfl)) pa_nil)))))) pss_nil)
      (pss_cons (ps_if (pt_cmpR (op_eqA hr.units) (pv 2) pe_str (nomark _)) (pss_one (ps_ret (pe_k c_law_mark hr (by omega) (pa_cons (pv 0) (pa_cons (pe_ix ix_seq (pv 1) pe_int (fun _ _ => rfl)) (pa_cons (pe_ix ix_seq (pv 1) pe_int (fun _ _ => rfl)) (pa_cons (pe_ix ix_seq (pv 1) pe_int (fun _ _ => rfl)) pa_nil))))))) pss_nil)
      (pss_cons (ps_if (pt_cmpR (op_eqA hr.units) (pv 2) pe_str (nomark _)) (pss_one (ps_ret (pe_k c_law_mark hr (by omega) (pa_cons (pv 0) (pa_cons (pe_ix ix_seq (pv 1) pe_int (fun _ _ => rfl)) (pa_cons (pe_ix ix_seq (pv 1) pe_int (fun _ _ => rfl)) (pa_cons pe_non pa_nil))))))) pss_nil)
      (pss_cons (ps_if (pt_cmpR (op_eqA hr.units) (pe_ix ix_seq (pe_dget (hu_of hr) (pv 0) pe_str (fun _ _ => rfl)) (pe_ix ix_seq (pv 1) pe_int (fun _ _ => rfl)) (fun _ _ => rfl)) pe_str (nomark _)) (pss_one (ps_ret pe_str)) pss_nil)
      (pss_cons (ps_if (pt_cmpR (op_neA hr.units) (pe_ix ix_seq (pe_dget (hu_of hr) (pv 0) pe_str (fun _ _ => rfl)) (pe_ix ix_seq (pv 1) pe_int (fun _ _ => rfl)) (fun _ _ => rfl)) (pe_ix ix_seq (pv 1) pe_int (fun _ _ => rfl)) (nomark _)) (pss_cons (ps_expr (pe_k c_law_tell hr (by omega) (pa_cons (pv 0) (pa_cons (RR.pe_tupF (pa_cons pe_str (pa_cons (pe_ix ix_seq (pv 1) pe_int (fun _ _ => rfl)) (pa_cons (pe_ix ix_seq (pv 1) pe_int (fun _ _ => rfl)) pa_nil)))) (pa_cons pe_non pa_nil)))))
      (pss_one (ps_asg (pe_ix ix_seq (pv 1) pe_int (fun _ _ => rfl)) (pg_sub (pe_dget (hu_of hr) (pv 0) pe_str (fun _ _ => rfl)) (pe_ix ix_seq (pv 1) pe_int (fun _ _ => rfl)) set_list)))) pss_nil)
      (pss_one (ps_ret pe_non))))))))))))))), fun wd fl us d H H1 w Q hl wh o dv hp k => ?_⟩
  obtain ⟨hdk, hr⟩ := hp
  obtain ⟨v, rfl, d1⟩ := DvA.inv1 dv
  have a0 := WA.refl wh
  have hro : roomy w := by unfold roomy; unfold roomy2 at hr; omega
  cases d with
  | element s =>
    refine s_set (K := K) (d := .str "element") (gdo (gd_var rfl d1) gd_int (go_ixT rfl)) a0.gh fun v2 G2 H2 p2 d2 => ?_
    have a2 := a0.pub p2
    refine s_strY (K := K) (gd_var rfl d2) a2.gh fun H3 s3 => ?_
    refine e_call (ar := arM) (Pre := preAny) (f := fMake) (false, s) (a2.test s3) o rfl (ga_cons gd_str (ga_cons (gdo (gd_var rfl (d1.to p2.hg)) gd_int (go_ixT rfl)) ga_nil)) rfl trivial fun v4 G4 H4 a4 s4 d4 => ?_
    exact k v4 G4 H4 a4 d4
  | text s =>
    refine s_set (K := K) (d := .str "text") (gdo (gd_var rfl d1) gd_int (go_ixT rfl)) a0.gh fun v2 G2 H2 p2 d2 => ?_
    have a2 := a0.pub p2
    refine s_strN (K := K) (gd_var rfl d2) a2.gh fun H3 s3 => ?_
    refine s_strY (K := K) (gd_var rfl d2) (a2.test s3).gh fun H4 s4 => ?_
    refine e_call (ar := arM) (Pre := preAny) (f := fMake) (true, s) ((a2.test s3).test s4) o rfl (ga_cons gd_str (ga_cons (gdo (gd_var rfl (d1.to p2.hg)) gd_int (go_ixT rfl)) ga_nil)) rfl trivial fun v4 G4 H4 a4 s4 d4 => ?_
    exact k v4 G4 H4 a4 d4
  | insert p n b =>
    have k : ∀ v G H2, WA K wd fl H H1 G H2 (orMiss w [some p, some n, b] (putA w p n b)).1 → Dv K G v (orMiss w [some p, some n, b] (putA w p n b)).2 → Q v H2 := k
    refine s_set (K := K) (d := .str "insert") (gdo (gd_var rfl d1) gd_int (go_ixT rfl)) a0.gh fun v2 G2 H2 p2 d2 => ?_
    have a2 := a0.pub p2
    have d12 := d1.to p2.hg
    refine s_strN (K := K) (gd_var rfl d2) a2.gh fun H3 s3 => ?_
    refine s_strN (K := K) (gd_var rfl d2) (a2.test s3).gh fun H4 s4 => ?_
    have a4 := (a2.test s3).test s4
    refine s_set (K := K) (d := .list [ofN p]) (gd_lst (ga_cons (gdo (gd_var rfl d12) gd_int (go_ixT rfl)) ga_nil)) a4.gh fun v5 G5 H5 p5 d5 => ?_
    have a5 := a4.pub p5
    refine s_strY (K := K) (gd_var rfl (d2.to p5.hg)) a5.gh fun H6 s6 => ?_
    have a6 := a5.test s6
    have d16 := d12.to p5.hg
    refine s_setE (K := K) (d := .list ([some p, some n, b].map upD)) (gd_lst (ga_cons (gdo (gd_var rfl d16) gd_int (go_ixT rfl)) (ga_cons (gdo (gd_var rfl d16) gd_int (go_ixT rfl)) (ga_cons (gdo (gd_var rfl d16) gd_int (go_ixT rfl)) ga_nil)))) a6.gh fun v7 G7 H7 p7 d7 => ?_
    have a7 := a6.pub p7
    have d17 := d16.to p7.hg
    have d27 := (d2.to p5.hg).to p7.hg
    refine s_missing a7 o d7 (by simp) (fun m v8 G8 H8 hm a8 d8 => k v8 G8 H8 (by rw [orMiss_some hm]; exact a8) (by rw [orMiss_some hm]; exact d8)) fun hm v8 G8 H8 a8 s8 => ?_
    rw [orMiss_none hm] at k
    obtain ⟨h1, h2, h3⟩ := miss3 hm
    refine s_strY (K := K) (gd_var rfl (d27.to s8)) a8.gh fun H9 s9 => ?_
    have d18 := d17.to s8
    refine e_call (ar := arP) (Pre := preP) (f := fP) (p, n, b) (a8.test s9) o rfl (ga_cons (gdo (gd_var rfl d18) gd_int (go_ixT rfl)) (ga_cons (gdo (gd_var rfl d18) gd_int (go_ixT rfl)) (ga_cons (gdo (gd_var rfl d18) gd_int (go_ixT rfl)) ga_nil))) rfl ⟨h1, h2, h3, hr⟩ fun va Ga Ha aa sa da => ?_
    exact k va Ga Ha aa da
  | remove n =>
    have k : ∀ v G H2, WA K wd fl H H1 G H2 (orMiss w [some n] (removeA w n)).1 → Dv K G v (orMiss w [some n] (removeA w n)).2 → Q v H2 := k
    refine s_set (K := K) (d := .str "remove") (gdo (gd_var rfl d1) gd_int (go_ixT rfl)) a0.gh fun v2 G2 H2 p2 d2 => ?_
    have a2 := a0.pub p2
    have d12 := d1.to p2.hg
    refine s_strN (K := K) (gd_var rfl d2) a2.gh fun H3 s3 => ?_
    refine s_strN (K := K) (gd_var rfl d2) (a2.test s3).gh fun H4 s4 => ?_
    have a4 := (a2.test s3).test s4
    refine s_set (K := K) (d := .list ([some n].map upD)) (gd_lst (ga_cons (gdo (gd_var rfl d12) gd_int (go_ixT rfl)) ga_nil)) a4.gh fun v5 G5 H5 p5 d5 => ?_
    have a5 := a4.pub p5
    refine s_strN (K := K) (gd_var rfl (d2.to p5.hg)) a5.gh fun H6 s6 => ?_
    have a6 := a5.test s6
    have d16 := d12.to p5.hg
    refine s_missing a6 o d5 (by simp) (fun m v8 G8 H8 hm a8 d8 => k v8 G8 H8 (by rw [orMiss_some hm]; exact a8) (by rw [orMiss_some hm]; exact d8)) fun hm v8 G8 H8 a8 s8 => ?_
    rw [orMiss_none hm] at k
    have h1 := miss1 hm
    have d28 := (d2.to p5.hg).to s8
    have d18 := d16.to s8
    unfold removeA at k
    refine s_strN (K := K) (gd_var rfl d28) a8.gh fun H9 s9 => ?_
    refine s_strY (K := K) (gd_var rfl d28) (a8.test s9).gh fun Ha sa => ?_
    have aa := (a8.test s9).test sa
    cases hup : (nd w.ns n).up with
    | none =>
      rw [if_pos hup] at k
      have g := gt_test (gdo (K := K) (σ := [some (.ref wd), some v, some v2, some v5, some v8]) (aa.wh.upG rfl h1 (gdo (gd_var (i := 1) rfl d18) (gd_int (i := 1)) (go_ixT rfl))) gd_non go_isN)
      rw [hup] at g
      refine s_ifr (K := K) (b := true) g aa.gh (fun _ Hb sb => ?_) fun z => nomatch z
      refine s_ret (K := K) (gd_str (i := "no parent")) (aa.test sb).gh fun vc Gc Hc pc dc => ?_
      exact k vc Gc Hc ((aa.test sb).pub pc) dc
    | some q =>
      rw [if_neg (by rw [hup]; exact fun z => nomatch z)] at k
      have g := gt_test (gdo (K := K) (σ := [some (.ref wd), some v, some v2, some v5, some v8]) (aa.wh.upG rfl h1 (gdo (gd_var (i := 1) rfl d18) (gd_int (i := 1)) (go_ixT rfl))) gd_non go_isN)
      rw [hup] at g
      refine s_ifr (K := K) (b := false) g aa.gh (fun z => nomatch z) fun _ Hb sb => ?_
      refine e_call (ar := ar1) (Pre := preO) (f := fun w n => (outA w n, .none)) n (aa.test sb) o rfl (ga_cons (gdo (gd_var rfl d18) gd_int (go_ixT rfl)) ga_nil) rfl (show preO w n from ⟨h1, hro⟩) fun vc Gc Hc ac sc dc => ?_
      exact k vc Gc Hc ac dc
  | mark n nm val =>
    have k : ∀ v G H2, WA K wd fl H H1 G H2 (orMiss w [some n] (markA w n nm (some val))).1 → Dv K G v (orMiss w [some n] (markA w n nm (some val))).2 → Q v H2 := k
    refine s_set (K := K) (d := .str "mark") (gdo (gd_var rfl d1) gd_int (go_ixT rfl)) a0.gh fun v2 G2 H2 p2 d2 => ?_
    have a2 := a0.pub p2
    have d12 := d1.to p2.hg
    refine s_strN (K := K) (gd_var rfl d2) a2.gh fun H3 s3 => ?_
    refine s_strN (K := K) (gd_var rfl d2) (a2.test s3).gh fun H4 s4 => ?_
    have a4 := (a2.test s3).test s4
    refine s_set (K := K) (d := .list ([some n].map upD)) (gd_lst (ga_cons (gdo (gd_var rfl d12) gd_int (go_ixT rfl)) ga_nil)) a4.gh fun v5 G5 H5 p5 d5 => ?_
    have a5 := a4.pub p5
    refine s_strN (K := K) (gd_var rfl (d2.to p5.hg)) a5.gh fun H6 s6 => ?_
    have a6 := a5.test s6
    have d16 := d12.to p5.hg
    refine s_missing a6 o d5 (by simp) (fun m v8 G8 H8 hm a8 d8 => k v8 G8 H8 (by rw [orMiss_some hm]; exact a8) (by rw [orMiss_some hm]; exact d8)) fun hm v8 G8 H8 a8 s8 => ?_
    rw [orMiss_none hm] at k
    have h1 := miss1 hm
    have d28 := (d2.to p5.hg).to s8
    have d18 := d16.to s8
    refine s_strN (K := K) (gd_var rfl d28) a8.gh fun H9 s9 => ?_
    have a9 := a8.test s9
    refine s_strN (K := K) (gd_var rfl d28) a9.gh fun Ha sa => ?_
    have aa := a9.test sa
    refine s_strY (K := K) (gd_var rfl d28) aa.gh fun Hb sb => ?_
    refine e_call (ar := arK) (Pre := preK) (f := fK) (n, nm, some val) (aa.test sb) o rfl (ga_cons (gdo (gd_var rfl d18) gd_int (go_ixT rfl)) (ga_cons (gdo (gd_var rfl d18) gd_int (go_ixT rfl)) (ga_cons (gdo (gd_var rfl d18) gd_int (go_ixT rfl)) ga_nil))) rfl ⟨h1, hdk, hro⟩ fun vc Gc Hc ac sc dc => ?_
    exact k vc Gc Hc ac dc
  | unmark n nm =>
    have k : ∀ v G H2, WA K wd fl H H1 G H2 (orMiss w [some n] (markA w n nm none)).1 → Dv K G v (orMiss w [some n] (markA w n nm none)).2 → Q v H2 := k
    refine s_set (K := K) (d := .str "unmark") (gdo (gd_var rfl d1) gd_int (go_ixT rfl)) a0.gh fun v2 G2 H2 p2 d2 => ?_
    have a2 := a0.pub p2
    have d12 := d1.to p2.hg
    refine s_strN (K := K) (gd_var rfl d2) a2.gh fun H3 s3 => ?_
    refine s_strN (K := K) (gd_var rfl d2) (a2.test s3).gh fun H4 s4 => ?_
    have a4 := (a2.test s3).test s4
    refine s_set (K := K) (d := .list ([some n].map upD)) (gd_lst (ga_cons (gdo (gd_var rfl d12) gd_int (go_ixT rfl)) ga_nil)) a4.gh fun v5 G5 H5 p5 d5 => ?_
    have a5 := a4.pub p5
    refine s_strN (K := K) (gd_var rfl (d2.to p5.hg)) a5.gh fun H6 s6 => ?_
    have a6 := a5.test s6
    have d16 := d12.to p5.hg
    refine s_missing a6 o d5 (by simp) (fun m v8 G8 H8 hm a8 d8 => k v8 G8 H8 (by rw [orMiss_some hm]; exact a8) (by rw [orMiss_some hm]; exact d8)) fun hm v8 G8 H8 a8 s8 => ?_
    rw [orMiss_none hm] at k
    have h1 := miss1 hm
    have d28 := (d2.to p5.hg).to s8
    have d18 := d16.to s8
    refine s_strN (K := K) (gd_var rfl d28) a8.gh fun H9 s9 => ?_
    have a9 := a8.test s9
    refine s_strN (K := K) (gd_var rfl d28) a9.gh fun Ha sa => ?_
    have aa := a9.test sa
    refine s_strN (K := K) (gd_var rfl d28) aa.gh fun Hb sb => ?_
    have ab := aa.test sb
    refine s_strY (K := K) (gd_var rfl d28) ab.gh fun Hc sc => ?_
    refine e_call (ar := arK) (Pre := preK) (f := fK) (n, nm, none) (ab.test sc) o rfl (ga_cons (gdo (gd_var rfl d18) gd_int (go_ixT rfl)) (ga_cons (gdo (gd_var rfl d18) gd_int (go_ixT rfl)) (ga_cons gd_non ga_nil))) rfl ⟨h1, hdk, hro⟩ fun vc Gc Hc ac sc dc => ?_
    exact k vc Gc Hc ac dc
  | write n tx =>
    have k : ∀ v G H2, WA K wd fl H H1 G H2 (orMiss w [some n] (writeA w n tx)).1 → Dv K G v (orMiss w [some n] (writeA w n tx)).2 → Q v H2 := k
    refine s_set (K := K) (d := .str "write") (gdo (gd_var rfl d1) gd_int (go_ixT rfl)) a0.gh fun v2 G2 H2 p2 d2 => ?_
    have a2 := a0.pub p2
    have d12 := d1.to p2.hg
    refine s_strN (K := K) (gd_var rfl d2) a2.gh fun H3 s3 => ?_
    refine s_strN (K := K) (gd_var rfl d2) (a2.test s3).gh fun H4 s4 => ?_
    have a4 := (a2.test s3).test s4
    refine s_set (K := K) (d := .list ([some n].map upD)) (gd_lst (ga_cons (gdo (gd_var rfl d12) gd_int (go_ixT rfl)) ga_nil)) a4.gh fun v5 G5 H5 p5 d5 => ?_
    have a5 := a4.pub p5
    refine s_strN (K := K) (gd_var rfl (d2.to p5.hg)) a5.gh fun H6 s6 => ?_
    have a6 := a5.test s6
    have d16 := d12.to p5.hg
    refine s_missing a6 o d5 (by simp) (fun m v8 G8 H8 hm a8 d8 => k v8 G8 H8 (by rw [orMiss_some hm]; exact a8) (by rw [orMiss_some hm]; exact d8)) fun hm v8 G8 H8 a8 s8 => ?_
    rw [orMiss_none hm] at k
    have h1 := miss1 hm
    have d28 := (d2.to p5.hg).to s8
    have d18 := d16.to s8
    refine s_strN (K := K) (gd_var rfl d28) a8.gh fun H9 s9 => ?_
    have a9 := a8.test s9
    refine s_strN (K := K) (gd_var rfl d28) a9.gh fun Ha sa => ?_
    have aa := a9.test sa
    refine s_strN (K := K) (gd_var rfl d28) aa.gh fun Hb sb => ?_
    have ab := aa.test sb
    refine s_strN (K := K) (gd_var rfl d28) ab.gh fun Hc sc => ?_
    have ac := ab.test sc
    unfold writeA at k
    have gN : ∀ {G' A' : Hp}, Same G8 G' → GD K (tOp (rIx K) (tVar 1) (tC (.int 1))) [some (.ref wd), some v, some v2, some v5, some v8] G' A' (ofN n) := fun s => gdo (gd_var rfl (d18.to s)) gd_int (go_ixT rfl)
    have gX : ∀ {G' A' : Hp}, Same G8 G' → GD K (tOp (rIx K) (tVar 1) (tC (.int 2))) [some (.ref wd), some v, some v2, some v5, some v8] G' A' (.str tx) := fun s => gdo (gd_var rfl (d18.to s)) gd_int (go_ixT rfl)
    have g := gt_test (gdo (K := K) (ac.wh.kindG rfl h1 (gN (.refl _))) (gd_str (i := "e")) go_eqS)
    rw [txt_dec2] at g
    refine s_ifr (K := K) g ac.gh (fun c Hd sd => ?_) fun c Hd sd => ?_
    · rw [if_pos (by simpa using c)] at k
      refine s_ret (K := K) (gd_str (i := "not a text")) (ac.test sd).gh fun ve Ge He pe de => ?_
      exact k ve Ge He ((ac.test sd).pub pe) de
    rw [if_neg (by simpa using c)] at k
    have ad := ac.test sd
    refine s_ifr (K := K) (gt_test (gdo (K := K) (ad.wh.nameG rfl h1 (gN (.refl _))) (gX (.refl _)) go_neS)) ad.gh (fun c He se => ?_) fun c He se => ?_
    · rw [if_neg (by simpa using c)] at k
      have ae := ad.test se
      refine e_call (ar := arT) (Pre := preT) (f := fT) ([.str "text", ofN n, .str tx], n, none) ae o rfl (ga_cons (gd_tup (ga_cons gd_str (ga_cons (gN (.refl _)) (ga_cons (gX (.refl _)) ga_nil)))) (ga_cons gd_non ga_nil)) rfl ⟨rfl, h1, fun _ z => (nomatch z), hro⟩ fun vf Gf Hf af sf df => ?_
      refine e_store (i := 1) (x := { nd w.ns n with name := tx }) af (by omega) rfl rfl h1 (GD.gq (gX sf) af.gh fun _ _ h => h) (fun G' H' p' => gN (sf.trans p'.hg)) (fun j hj hj3 G' u hu => by
        match j, hj, hj3, hu with
        | 0, _, _, hu => exact hu
        | 2, _, _, hu => exact hu
        | 3, _, _, hu => exact hu
        | 4, _, _, hu => exact hu) fun Gg Hg ag sg => ?_
      show tRet (tC .non) { nx := fun _ H' => Q .non H', rt := Q } ([] : L2.St) Hg
      refine s_ret (K := K) (σ := []) gd_non ag.gh fun v7 G7 H7 p7 d7 => ?_
      exact k v7 G7 H7 (ag.pub p7) d7
    · rw [if_pos (by simpa using c)] at k
      refine s_ret (K := K) (σ := []) gd_non (ad.test se).gh fun v7 G7 H7 p7 d7 => ?_
      exact k v7 G7 H7 ((ad.test se).pub p7) d7
end
end LW
end
section
set_option Elab.async false
set_option linter.all false
set_option maxRecDepth 100000
set_option maxHeartbeats 4000000
namespace LW
open PySem PySem.Spec PyProof.Rows L2 DL LM
section
variable {P : Program} {W : World} {K : PySem.W.Frag} {mg : Str → Option Value} {base : Heap} {f : Addr} {fd : FuncData} {A H H1 G Hc : Hp} {σ : L2.St} {t to te tn tx : TE} {tA : TA} {tt : TT} {ts tr : TS} {D : Ends} {wd : Addr} {fl : Nat → Addr} {w : Wm} {R : PyData → Prop}
/-- if t: x = e; rest -/
theorem gb_ifA {b : Bool} {i : Nat} {d : PyData} (g : GT tt σ H A b) (h1 : b = true → GD K te σ H A d) (k1 : b = true → ∀ v G H2, Pub H A G H2 → Dv K G v d → GB K tr (σ.set i (some v)) G H2 R) (k2 : b = false → GB K tr σ H A R) :
    GB K (tSeq (tIfS tt (tAsg te (gName i)) tNext) tr) σ H A R := fun H0 H1 e D q => g.to e fun H2 e2 => by
  cases b with
  | true => exact iteT ((h1 rfl).to (e.trans e2) fun v G' H3 p dv => (k1 rfl v G' H3 ((e.trans e2).trans p) dv).pub (.refl p.gh) (e2.trans p) q)
  | false => exact iteF (k2 rfl H0 H2 (e.trans e2) _ fun d v G' H3 r p2 dv => q d v G' H3 r (e2.trans p2) dv)
/-- a def over the tables that leaves them, one of several answers -/
def spRR (K : PySem.W.Frag) (n : Nat) {α : Type} (ar : α → List PyData) (Pre : Wm → α → Prop) (R : Wm → α → PyData → Prop) : Sp := fun vs H1 Q _ => ∃ (wd : Addr) (fl : Nat → Addr) (us : List V) (x : α) (H : Hp) (w : Wm),
  vs = .ref wd :: us ∧ us.length = n ∧ WH K wd fl H H1 w ∧ Ok w.ns ∧ DvA K H us (ar x) ∧ Pre w x ∧ ∀ d v G H2, R w x d → Pub H H1 G H2 → Dv K G v d → Q v H2
theorem fn_RR {x qual : Str} {st : Stmt} {N ps : List Str} {k n : Nat} {α : Type} {ar : α → List PyData} {Pre : Wm → α → Prop} {R : Wm → α → PyData → Prop} (F : Fun K x qual st f fd) (S : FnScope N ps (defScope st)) (hn : n + 1 = ps.length)
    (hbody : ∀ (cdv : Value) (A : Around) (outer : List Env) (s : Shared) (H1 : Hp) (E : XK), Room k (A.deeper (envOfC qual (defScope st) s.heap.objs.size f cdv)) →
      ∃ t, PSs (cxOf CX0 P W K mg base N qual (defScope st) f cdv A outer s H1 E).nox (defBody st) t ∧ ∀ wd fl us x H A w, us.length = n → WH K wd fl H A w → Ok w.ns → DvA K H us (ar x) → Pre w x → GB K t (start N (.ref wd :: us)) H A (R w x)) : FnOk P W K mg base CX0 (k + 1) f fd ps (spRR K n ar Pre R) := by
  refine F.ok S (fun vs H Q E h => ?_) (fun cdv A outer s H vs Q E hr h => ?_)
  · obtain ⟨_, _, us, _, _, _, rfl, hl, _⟩ := h
    rw [List.length_cons, hl, hn]
  obtain ⟨wd, fl, us, x, H0, w, rfl, hl, wh, o, dv, hp, q⟩ := h
  obtain ⟨t, h1, h2⟩ := hbody cdv A outer s H E hr
  exact ⟨t, h1, h2 wd fl us x H0 H w hl wh o dv hp H0 H (.refl wh.gh) _ fun d v G H2 r p dv => q d v G H2 r p dv⟩
theorem gr_callRR {α : Type} {n : Nat} {ar : α → List PyData} {Pre : Wm → α → Prop} {R : Wm → α → PyData → Prop} (x : α) (wh : WH K wd fl H A w) (o : Ok w.ns) (h0 : σ[0]? = some (some (.ref wd))) (ga : GA K tA σ H A (ar x)) (hn : (ar x).length = n) (hp : Pre w x) :
    GR K (tCall (spRR K n ar Pre R) [] E0 (tCons (tVar 0) tA)) σ H A (R w x) := fun H0 H1 p Q q => ⟨.ref wd, h0, ga.to p fun vs G H2 p2 dv => by
  show spRR K n ar Pre R ((.ref wd :: vs) ++ []) H2 Q E0
  rw [List.append_nil]
  exact ⟨wd, fl, vs, x, G, w, rfl, (DvA.len dv).trans hn, wh.pub (p.trans p2), o, dv, hp, fun d v G' H3 r p3 dw => q d v G' H3 r (p2.trans p3) dw⟩⟩
theorem go_modN {a b : Nat} (h : 0 < b) : GO K (rI (fun _ j => 0 < j) fun i j => .int (i % j)) (ofN a) (ofN b) (ofN (a % b)) := by
  have h2 := go_ic (K := K) (C := fun _ j => 0 < j) (f := fun i j => i % j) (i := (a : Int)) (j := (b : Int)) (by omega)
  have z : (a : Int) % (b : Int) = ((a % b : Nat) : Int) := by omega
  rw [z] at h2
  exact h2
theorem go_gtN {a b : Nat} : GO K (rI0 fun i j => .bl (decide (j < i))) (ofN a) (ofN b) (.bool (decide (b < a))) := by
  have h := go_b2 (K := K) (f := fun i j => decide (j < i)) (i := (a : Int)) (j := (b : Int))
  have z : decide ((b : Int) < (a : Int)) = decide (b < a) := decide_eq_decide.mpr (by omega)
  rw [z] at h
  exact h
def dr (ms : List Nat) (i : Nat) : Nat := ms.getD i 0
theorem gd_dr {ms : List Nat} {v2 : V} (i : Nat) (h2 : σ[2]? = some (some v2)) (d2 : Dv K H v2 (natsD ms)) (h : i < ms.length) : GD K (tCB rInt (tCons (tOp (rIx K) (tVar 2) (tC (.int (i : Int)))) tNil)) σ H A (ofN (dr ms i)) := by
  have e : ms[i]? = some (dr ms i) := by
    unfold dr
    rw [List.getD_eq_getElem?_getD, List.getElem?_eq_getElem h]; rfl
  exact gd_cb (ga_cons (gdo (gd_var h2 d2) (gd_int (i := (i : Int))) (go_ixL (get_nats e))) ga_nil) gc_int
theorem gi_rngN {n : Nat} (ga : GA K tA σ H A [ofN n]) (h : n < 2 ^ 62) : GI K (iRng1 tA) σ H A ((List.range n).map ofN) := by
  have g := gi_rng1 ga (by omega) (by omega)
  have e : (upto 0 ((n : Int)).toNat).map PyData.int = (List.range n).map ofN := by
    unfold upto
    rw [List.map_map]
    refine List.map_congr_left fun i _ => ?_
    show PyData.int (0 + (i : Int)) = .int (i : Int)
    rw [Int.zero_add]
  rw [e] at g
  exact g
def pick (l : List Str) (x : Nat) : Str := l.getD (x % l.length) ""
theorem pick_at (l : List Str) (x : Nat) (h : 0 < l.length) : atI (l.map PyData.str) ((x % l.length : Nat) : Int) = some (.str (pick l x)) := by
  refine atI_nat ?_
  have z : x % l.length < l.length := Nat.mod_lt _ h
  unfold pick
  rw [List.getElem?_map, List.getD_eq_getElem?_getD, List.getElem?_eq_getElem z]; rfl
theorem pick_all {l : List Str} {x : Nat} (p : Str → Bool) (h : 0 < l.length) (ha : l.all p = true) : p (pick l x) = true := by
  have z : x % l.length < l.length := Nat.mod_lt _ h
  refine List.all_eq_true.mp ha _ ?_
  unfold pick
  rw [List.getD_eq_getElem?_getD, List.getElem?_eq_getElem z]
  exact List.getElem_mem z
def deedGood : Deed → Prop
  | .element s => nameB s = true
  | .text s => plainT s = true
  | .mark _ k v => k ∈ KS ∧ nameB k = true ∧ plainT v = true
  | .unmark _ k => k ∈ KS ∧ nameB k = true
  | .write _ t => plainT t = true
  | _ => True
def deedNear : Deed → Prop
  | .insert p n b => p < 100000 ∧ n < 100000 ∧ ∀ x, b = some x → x < 100000
  | .remove n => n < 100000
  | .mark n _ _ => n < 100000
  | .unmark n _ => n < 100000
  | .write n _ => n < 100000
  | _ => True
def resDeed (w : Wm) (c : Int) (d : PyData) : Prop := ∃ x : Deed, d = deedD x ∧ deedGood x ∧ deedNear x
def arC : Int → List PyData := fun c => [.int c]
abbrev s_law_deed : Stmt := topS 34
theorem sc_law_deed : FnScope ["world", "cell", "draws", "many", "kind", "n", "other", "before", "row", "texts", "k"] ["world", "cell"] (defScope s_law_deed) := ⟨rfl, rfl, rfl, by decide +kernel, rfl, by decide +kernel, by decide +kernel⟩
theorem draws_nat {c : Int} {d : PyData} (h : resDraws [.int c, .int 6] d) : ∃ ms : List Nat, d = natsD ms ∧ ms.length = 6 := by
  obtain ⟨c', m, e, ns, rfl, hl, hb⟩ := h
  have em : m = 6 := by
    simp at e
    exact e.2.symm
  subst em
  refine ⟨ns.map Int.toNat, ?_, by rw [List.length_map]; omega⟩
  unfold natsD
  rw [List.map_map]
  refine congrArg PyData.list (List.map_congr_left fun n hn => ?_)
  show PyData.int n = .int ((n.toNat : Nat) : Int)
  rw [Int.toNat_of_nonneg (hb n hn).1]
theorem ok_deed (T : Bt mg) (F : Fun K "_law_deed" "_law_deed" s_law_deed f fd) (c_law_draws : Cal P W K mg base 1 "_law_draws" (spD K 2 preDraws resDraws)) : FnOk P W K mg base CX0 2 f fd ["world", "cell"] (spRR K 1 arC preAny resDeed) := by
  refine fn_RR F sc_law_deed rfl fun cdv A outer s H1 E hr => ⟨_, (pss_cons (ps_set (i := 2) sc_law_deed.nd rfl (Or.inl rfl) (pe_k c_law_draws hr (by omega) (pa_cons (pv 1) (pa_cons pe_int pa_nil))))
      (pss_cons (ps_set (i := 3) sc_law_deed.nd rfl (Or.inl rfl) (pe_callB cr_len (by rfl) T.len PySem.boot_len (pa_cons (pe_dget (hu_of hr) (pv 0) pe_str (fun _ _ => rfl)) pa_nil)))
      (pss_cons (ps_set (i := 4) sc_law_deed.nd rfl (Or.inl rfl) (pe_op op_mod (pe_callTy cr_int (by rfl) T.int (by decide +kernel) (pa_cons (pe_ix ix_seq (pv 2) pe_int (fun _ _ => rfl)) pa_nil)) pe_int))
      (pss_cons (ps_set (i := 5) sc_law_deed.nd rfl (Or.inl rfl) (pe_op op_mod (pe_callTy cr_int (by rfl) T.int (by decide +kernel) (pa_cons (pe_ix ix_seq (pv 2) pe_int (fun _ _ => rfl)) pa_nil)) (pv 3)))
      (pss_cons (ps_set (i := 6) sc_law_deed.nd rfl (Or.inl rfl) (pe_op op_mod (pe_callTy cr_int (by rfl) T.int (by decide +kernel) (pa_cons (pe_ix ix_seq (pv 2) pe_int (fun _ _ => rfl)) pa_nil)) (pv 3)))
      (pss_cons (ps_if (PW.pt (pw_or (pt_cmpR op_ltA (pv 4) pe_int (nomark _)) (pw_or1 (pt_cmpR op_ltA (pv 3) pe_int (nomark _))))) (pss_cons (ps_if (pt_cmpR (op_eqA hr.units) (pe_op op_mod (pe_callTy cr_int (by rfl) T.int (by decide +kernel) (pa_cons (pe_ix ix_seq (pv 2) pe_int (fun _ _ => rfl)) pa_nil)) pe_int) pe_int (nomark _)) (pss_one (ps_ret (RR.pe_tupF (pa_cons pe_str (pa_cons (pe_ix ix_seq (pe_lst (pa_cons pe_str (pa_cons pe_str (pa_cons pe_str pa_nil)))) (pe_op op_mod (pe_callTy cr_int (by rfl) T.int (by decide +kernel) (pa_cons (pe_ix ix_seq (pv 2) pe_int (fun _ _ => rfl)) pa_nil)) pe_int) (fun _ _ => rfl)) pa_nil))))) pss_nil)
      (pss_one (ps_ret (RR.pe_tupF (pa_cons pe_str (pa_cons (pe_ix ix_seq (pe_lst (pa_cons pe_str (pa_cons pe_str (pa_cons pe_str pa_nil)))) (pe_op op_mod (pe_callTy cr_int (by rfl) T.int (by decide +kernel) (pa_cons (pe_ix ix_seq (pv 2) pe_int (fun _ _ => rfl)) pa_nil)) pe_int) (fun _ _ => rfl)) pa_nil)))))) pss_nil)
      (pss_cons (ps_if (pt_cmpR op_ltA (pv 4) pe_int (nomark _)) (pss_cons (ps_set (i := 7) sc_law_deed.nd rfl (Or.inl rfl) pe_non)
      (pss_cons (ps_set (i := 8) sc_law_deed.nd rfl (Or.inl rfl) (pe_ix ix_seq (pe_dget (hu_of hr) (pv 0) pe_str (fun _ _ => rfl)) (pv 5) (fun _ _ => rfl)))
      (pss_cons (ps_if (PW.pt (pw_and (pt_cmpR (op_eqA hr.units) (pe_op op_mod (pe_callTy cr_int (by rfl) T.int (by decide +kernel) (pa_cons (pe_ix ix_seq (pv 2) pe_int (fun _ _ => rfl)) pa_nil)) pe_int) pe_int (nomark _)) (pw_and1 (pt_cmpR op_gt (pe_callB cr_len (by rfl) T.len PySem.boot_len (pa_cons (pv 8) pa_nil)) pe_int (nomark _))))) (pss_one (ps_set (i := 7) sc_law_deed.nd rfl (Or.inl rfl) (pe_ix ix_seq (pv 8) (pe_op op_mod (pe_callTy cr_int (by rfl) T.int (by decide +kernel) (pa_cons (pe_ix ix_seq (pv 2) pe_int (fun _ _ => rfl)) pa_nil)) (pe_callB cr_len (by rfl) T.len PySem.boot_len (pa_cons (pv 8) pa_nil))) (fun _ _ => rfl)))) pss_nil)
      (pss_cons (ps_if (pt_cmpR (op_eqA hr.units) (pe_op op_mod (pe_callTy cr_int (by rfl) T.int (by decide +kernel) (pa_cons (pe_ix ix_seq (pv 2) pe_int (fun _ _ => rfl)) pa_nil)) pe_int) pe_int (nomark _)) (pss_one (ps_set (i := 7) sc_law_deed.nd rfl (Or.inl rfl) (pe_op op_mod (pe_callTy cr_int (by rfl) T.int (by decide +kernel) (pa_cons (pe_ix ix_seq (pv 2) pe_int (fun _ _ => rfl)) pa_nil)) (pe_op op_addA (pv 3) pe_int)))) pss_nil)
      (pss_one (ps_ret (RR.pe_tupF (pa_cons pe_str (pa_cons (pv 5) (pa_cons (pv 6) (pa_cons (pv 7) pa_nil))))))))))) pss_nil)
      (pss_cons (ps_if (pt_cmpR (op_eqA hr.units) (pv 4) pe_int (nomark _)) (pss_one (ps_ret (RR.pe_tupF (pa_cons pe_str (pa_cons (pv 5) pa_nil))))) pss_nil)
      (pss_cons (ps_if (pt_cmpR op_ltA (pv 4) pe_int (nomark _)) (pss_one (ps_ret (RR.pe_tupF (pa_cons pe_str (pa_cons (pv 5) (pa_cons (pe_ix ix_seq (pe_lst (pa_cons pe_str (pa_cons pe_str (pa_cons pe_str pa_nil)))) (pe_op op_mod (pe_callTy cr_int (by rfl) T.int (by decide +kernel) (pa_cons (pe_ix ix_seq (pv 2) pe_int (fun _ _ => rfl)) pa_nil)) pe_int) (fun _ _ => rfl)) (pa_cons (pe_ix ix_seq (pe_lst (pa_cons pe_str (pa_cons pe_str (pa_cons pe_str pa_nil)))) (pe_op op_mod (pe_callTy cr_int (by rfl) T.int (by decide +kernel) (pa_cons (pe_ix ix_seq (pv 2) pe_int (fun _ _ => rfl)) pa_nil)) pe_int) (fun _ _ => rfl)) pa_nil))))))) pss_nil)
      (pss_cons (ps_if (pt_cmpR (op_eqA hr.units) (pv 4) pe_int (nomark _)) (pss_one (ps_ret (RR.pe_tupF (pa_cons pe_str (pa_cons (pv 5) (pa_cons (pe_ix ix_seq (pe_lst (pa_cons pe_str (pa_cons pe_str (pa_cons pe_str pa_nil)))) (pe_op op_mod (pe_callTy cr_int (by rfl) T.int (by decide +kernel) (pa_cons (pe_ix ix_seq (pv 2) pe_int (fun _ _ => rfl)) pa_nil)) pe_int) (fun _ _ => rfl)) pa_nil)))))) pss_nil)
      (pss_cons (ps_if (pt_cmpR (op_eqA hr.units) (pe_op op_mod (pe_callTy cr_int (by rfl) T.int (by decide +kernel) (pa_cons (pe_ix ix_seq (pv 2) pe_int (fun _ _ => rfl)) pa_nil)) pe_int) pe_int (nomark _)) (pss_one (ps_ret (RR.pe_tupF (pa_cons pe_str (pa_cons (pe_op op_addA (pv 3) (pe_op op_mod (pe_callTy cr_int (by rfl) T.int (by decide +kernel) (pa_cons (pe_ix ix_seq (pv 2) pe_int (fun _ _ => rfl)) pa_nil)) pe_int)) pa_nil))))) pss_nil)
      (pss_cons (ps_setLc (i := 9) (own := [("k", 10)]) (by rfl) sc_law_deed.nd rfl rfl (sw_true rfl rfl rfl (by decide +kernel)) (pi_range1 (by rfl) T.range (pa_cons (pv 3) pa_nil)) (blkOk_by (own := [("k", 10)]) (N := ["world", "cell", "draws", "many", "kind", "n", "other", "before", "row", "texts", "k"]) (sc := defScope s_law_deed) (by decide +kernel)) (fun _ _ _ _ _ => (pg_name (i := 10) sc_law_deed.nd rfl (Or.inl rfl))) (fun _ _ _ _ _ => (pts_one (pt_cmpR (op_eqK K hr.units) (pe_ix (ix_seqK K) (pe_dget (hu_of hr) (pv 0) pe_str (fun _ _ => rfl)) (pv 10) (fun _ _ => rfl)) pe_str (nomark _)))) (fun _ _ _ _ _ => (pv 10)))
      (pss_cons (ps_if (PW.pt (pw_and (pt_cmpR op_gt (pe_callB cr_len (by rfl) T.len PySem.boot_len (pa_cons (pv 9) pa_nil)) pe_int (nomark _)) (pw_and1 (pt_cmpR op_gt (pe_op op_mod (pe_callTy cr_int (by rfl) T.int (by decide +kernel) (pa_cons (pe_ix ix_seq (pv 2) pe_int (fun _ _ => rfl)) pa_nil)) pe_int) pe_int (nomark _))))) (pss_one (ps_set (i := 5) sc_law_deed.nd rfl (Or.inl rfl) (pe_ix ix_seq (pv 9) (pe_op op_mod (pe_callTy cr_int (by rfl) T.int (by decide +kernel) (pa_cons (pe_ix ix_seq (pv 2) pe_int (fun _ _ => rfl)) pa_nil)) (pe_callB cr_len (by rfl) T.len PySem.boot_len (pa_cons (pv 9) pa_nil))) (fun _ _ => rfl)))) pss_nil)
      (pss_one (ps_ret (RR.pe_tupF (pa_cons pe_str (pa_cons (pv 5) (pa_cons (pe_ix ix_seq (pe_lst (pa_cons pe_str (pa_cons pe_str (pa_cons pe_str (pa_cons pe_str pa_nil))))) (pe_op op_mod (pe_callTy cr_int (by rfl) T.int (by decide +kernel) (pa_cons (pe_ix ix_seq (pv 2) pe_int (fun _ _ => rfl)) pa_nil)) pe_int) (fun _ _ => rfl)) pa_nil))))))))))))))))))), fun wd fl us c H A w hl wh o dv hp => ?_⟩
  obtain ⟨v, rfl, d1⟩ := DvA.inv1 dv
  refine gb_setR (gr_call (ga_cons (gd_var rfl d1) (ga_cons gd_int ga_nil)) rfl ⟨c, 6, rfl, by decide, by decide⟩) fun d v2 G2 H2 hd p2 d2 => ?_
  obtain ⟨ms, rfl, hms⟩ := draws_nat hd
  have wh2 := wh.pub p2
  have hpos := o.pos
  have hlen := o.len
  refine gb_set (wh2.len rfl) fun v3 G3 H3 p3 d3 => ?_
  have wh3 := wh2.pub p3
  have d23 := d2.to p3.hg
  refine gb_set (gdo (gd_dr 0 rfl d23 (by omega)) (gd_int (i := 16)) (go_modN (b := 16) (by decide))) fun v4 G4 H4 p4 d4 => ?_
  have wh4 := wh3.pub p4
  have d24 := d23.to p4.hg
  have d34 := d3.to p4.hg
  refine gb_set (gdo (gd_dr 1 rfl d24 (by omega)) (gd_var rfl d34) (go_modN hpos)) fun v5 G5 H5 p5 d5 => ?_
  have wh5 := wh4.pub p5
  have d25 := d24.to p5.hg
  have d35 := d34.to p5.hg
  have d45 := d4.to p5.hg
  refine gb_set (gdo (gd_dr 2 rfl d25 (by omega)) (gd_var rfl d35) (go_modN hpos)) fun v6 G6 H6 p6 d6 => ?_
  have wh6 := wh5.pub p6
  have d26 := d25.to p6.hg
  have d36 := d35.to p6.hg
  have d46 := d45.to p6.hg
  have d56 := d5.to p6.hg
  have hn : dr ms 1 % w.ns.length < w.ns.length := Nat.mod_lt _ hpos
  have hn2 : dr ms 2 % w.ns.length < w.ns.length := Nat.mod_lt _ hpos
  refine gb_if (gt_or (gt_test (gdo (gd_var rfl d46) (gd_int (i := 3)) (go_ltN (b := 3)))) fun _ => gt_test (gdo (gd_var rfl d36) (gd_int (i := 4)) (go_ltN (b := 4)))) (fun _ => ?_) fun _ => ?_
  · refine gb_if (gt_test (gdo (gdo (gd_dr 1 rfl d26 (by omega)) (gd_int (i := 3)) (go_modN (b := 3) (by decide))) (gd_int (i := 2)) (go_eqN (b := 2)))) (fun _ => ?_) fun _ => ?_
    · exact gb_ret (gd_tup (ga_cons gd_str (ga_cons (gdo (gd_lst (ga_cons gd_str (ga_cons gd_str (ga_cons gd_str ga_nil)))) (gdo (gd_dr 2 rfl d26 (by omega)) (gd_int (i := 3)) (go_modN (b := 3) (by decide))) (go_ixL (pick_at ["", "t", "u v"] (dr ms 2) (by decide)))) ga_nil))) ⟨.text _, rfl, pick_all plainT (by decide) (by decide +kernel), trivial⟩
    · exact gb_ret (gd_tup (ga_cons gd_str (ga_cons (gdo (gd_lst (ga_cons gd_str (ga_cons gd_str (ga_cons gd_str ga_nil)))) (gdo (gd_dr 2 rfl d26 (by omega)) (gd_int (i := 3)) (go_modN (b := 3) (by decide))) (go_ixL (pick_at ["a", "b", "item"] (dr ms 2) (by decide)))) ga_nil))) ⟨.element _, rfl, pick_all nameB (by decide) (by decide +kernel), trivial⟩
  refine gb_if (gt_test (gdo (gd_var rfl d46) (gd_int (i := 9)) (go_ltN (b := 9)))) (fun _ => ?_) fun _ => ?_
  · refine gb_set gd_non fun v7 G7 H7 p7 d7 => ?_
    have wh7 := wh6.pub p7
    refine gb_set (wh7.kidsG rfl hn (gd_var rfl (d56.to p7.hg))) fun v8 G8 H8 p8 d8 => ?_
    have p78 := p7.trans p8
    have fin : ∀ (b : Option Nat) (v7 : V) (G A : Hp), (∀ x, b = some x → x < 100000) → Same G8 G → Dv K G v7 (upD b) → GB K _ [some (.ref wd), some v, some v2, some v3, some v4, some v5, some v6, some v7, some v8, none, none] G A (resDeed w c) := fun b v7 G A hb s d7 =>
      gb_ifA (i := 7) (d := ofN (dr ms 4 % (w.ns.length + 2))) (gt_test (gdo (gdo (gd_dr 3 rfl ((d26.to p78.hg).to s) (by omega)) (gd_int (i := 24)) (go_modN (b := 24) (by decide))) (gd_int (i := 0)) (go_eqN (b := 0))))
        (fun _ => gdo (gd_dr 4 rfl ((d26.to p78.hg).to s) (by omega)) (gdo (gd_var (i := 3) rfl ((d36.to p78.hg).to s)) (gd_int (i := 2)) (go_addN (b := 2))) (go_modN (by omega)))
        (fun _ v9 G9 H9 p9 d9 => gb_ret (gd_tup (ga_cons gd_str (ga_cons (gd_var (i := 5) rfl (((d56.to p78.hg).to s).to p9.hg)) (ga_cons (gd_var (i := 6) rfl (((d6.to p78.hg).to s).to p9.hg)) (ga_cons (gd_var (i := 7) rfl d9) ga_nil))))) ⟨.insert _ _ (some _), rfl, trivial, by omega, by omega, fun x hx => by cases hx; have := Nat.mod_lt (dr ms 4) (show 0 < w.ns.length + 2 by omega); omega⟩)
        (fun _ => gb_ret (gd_tup (ga_cons gd_str (ga_cons (gd_var (i := 5) rfl ((d56.to p78.hg).to s)) (ga_cons (gd_var (i := 6) rfl ((d6.to p78.hg).to s)) (ga_cons (gd_var (i := 7) rfl d7) ga_nil))))) ⟨.insert _ _ b, rfl, trivial, by omega, by omega, hb⟩)
    refine gb_ifA (d := ofN (((nd w.ns (dr ms 1 % w.ns.length)).kids).getD (dr ms 4 % (nd w.ns (dr ms 1 % w.ns.length)).kids.length) 0)) (gt_and (gt_test (gdo (gdo (gd_dr 3 rfl (d26.to p78.hg) (by omega)) (gd_int (i := 2)) (go_modN (b := 2) (by decide))) (gd_int (i := 1)) (go_eqN (b := 1)))) fun _ => gt_test (gdo (gd_cb (ga_cons (gd_var rfl d8) ga_nil) len_nats) (gd_int (i := 0)) (go_gtN (b := 0))))
      (fun hb => ?_) (fun hb v9 G9 H9 p9 d9 => fin (some _) v9 G9 H9 (fun x hx => by
        cases hx
        have hk : 0 < (nd w.ns (dr ms 1 % w.ns.length)).kids.length := by simpa using (Bool.and_eq_true_iff.mp hb).2
        have hm := Nat.mod_lt (dr ms 4) hk
        rw [List.getD_eq_getElem?_getD, List.getElem?_eq_getElem hm]
        have := (o.kup _ _ hn (List.getElem_mem hm)).1
        show (nd w.ns (dr ms 1 % w.ns.length)).kids[_] < _
        omega) p9.hg d9) fun _ => fin none v7 G8 H8 (fun _ z => nomatch z) (.refl _) (d7.to p8.hg)
    have hk : 0 < (nd w.ns (dr ms 1 % w.ns.length)).kids.length := by simpa using (Bool.and_eq_true_iff.mp hb).2
    refine gdo (gd_var rfl d8) (gdo (gd_dr 4 rfl (d26.to p78.hg) (by omega)) (gd_cb (ga_cons (gd_var rfl d8) ga_nil) len_nats) (go_modN hk)) (go_ixN ?_)
    rw [List.getD_eq_getElem?_getD, List.getElem?_eq_getElem (Nat.mod_lt _ hk)]; rfl
  refine gb_if (gt_test (gdo (gd_var rfl d46) (gd_int (i := 9)) (go_eqN (b := 9)))) (fun _ => gb_ret (gd_tup (ga_cons gd_str (ga_cons (gd_var rfl d56) ga_nil))) ⟨.remove _, rfl, trivial, by show _ < 100000; omega⟩) fun _ => ?_
  refine gb_if (gt_test (gdo (gd_var rfl d46) (gd_int (i := 13)) (go_ltN (b := 13)))) (fun _ => ?_) fun _ => ?_
  · exact gb_ret (gd_tup (ga_cons gd_str (ga_cons (gd_var rfl d56) (ga_cons (gdo (gd_lst (ga_cons gd_str (ga_cons gd_str (ga_cons gd_str ga_nil)))) (gdo (gd_dr 3 rfl d26 (by omega)) (gd_int (i := 3)) (go_modN (b := 3) (by decide))) (go_ixL (pick_at ["k", "m", "z"] (dr ms 3) (by decide)))) (ga_cons (gdo (gd_lst (ga_cons gd_str (ga_cons gd_str (ga_cons gd_str ga_nil)))) (gdo (gd_dr 4 rfl d26 (by omega)) (gd_int (i := 3)) (go_modN (b := 3) (by decide))) (go_ixL (pick_at ["", "x", "y \"z"] (dr ms 4) (by decide)))) ga_nil))))) ⟨.mark _ _ _, rfl, ⟨of_decide_eq_true (pick_all (fun k => decide (k ∈ KS)) (by decide) (by decide +kernel)), pick_all nameB (by decide) (by decide +kernel), pick_all plainT (by decide) (by decide +kernel)⟩, by show _ < 100000; omega⟩
  refine gb_if (gt_test (gdo (gd_var rfl d46) (gd_int (i := 13)) (go_eqN (b := 13)))) (fun _ => ?_) fun _ => ?_
  · exact gb_ret (gd_tup (ga_cons gd_str (ga_cons (gd_var rfl d56) (ga_cons (gdo (gd_lst (ga_cons gd_str (ga_cons gd_str (ga_cons gd_str ga_nil)))) (gdo (gd_dr 3 rfl d26 (by omega)) (gd_int (i := 3)) (go_modN (b := 3) (by decide))) (go_ixL (pick_at ["k", "m", "z"] (dr ms 3) (by decide)))) ga_nil)))) ⟨.unmark _ _, rfl, ⟨of_decide_eq_true (pick_all (fun k => decide (k ∈ KS)) (by decide) (by decide +kernel)), pick_all nameB (by decide) (by decide +kernel)⟩, by show _ < 100000; omega⟩
  refine gb_if (gt_test (gdo (gdo (gd_dr 5 rfl d26 (by omega)) (gd_int (i := 9)) (go_modN (b := 9) (by decide))) (gd_int (i := 0)) (go_eqN (b := 0)))) (fun _ => ?_) fun _ => ?_
  · exact gb_ret (gd_tup (ga_cons gd_str (ga_cons (gdo (gd_var rfl d36) (gdo (gd_dr 3 rfl d26 (by omega)) (gd_int (i := 3)) (go_modN (b := 3) (by decide))) go_addN) ga_nil))) ⟨.remove _, rfl, trivial, by show _ < 100000; omega⟩
  refine gb_set (d := natsD ((List.range w.ns.length).filter fun k => (nd w.ns k).txt)) (gd_lcIf (em := ofN) (f := ofN) (p := fun k => (nd w.ns k).txt) (gi_rngN (ga_cons (gd_var rfl d36) ga_nil) (by omega)) (by rw [List.length_range]; omega) (fun i k hk v7 G7 H7 p7 d7 => ?_) fun i k hk _ v7 G7 H7 p7 d7 => gd_var rfl d7) fun v9 G9 H9 p9 d9 => ?_
  · have hk2 : k < w.ns.length := by
      have := List.mem_of_getElem? hk
      exact List.mem_range.mp this
    exact WH.txtG (wh6.pub p7) rfl hk2 (gd_var rfl d7)
  refine gb_ifA (d := ofN ((((List.range w.ns.length).filter fun k => (nd w.ns k).txt)).getD (dr ms 2 % ((List.range w.ns.length).filter fun k => (nd w.ns k).txt).length) 0)) (gt_and (gt_test (gdo (gd_cb (ga_cons (gd_var rfl d9) ga_nil) len_nats) (gd_int (i := 0)) (go_gtN (b := 0)))) fun _ => gt_test (gdo (gdo (gd_dr 5 rfl (d26.to p9.hg) (by omega)) (gd_int (i := 9)) (go_modN (b := 9) (by decide))) (gd_int (i := 1)) (go_gtN (b := 1))))
      (fun hb => ?_) (fun hb va Ga Ha pa da => ?_) fun _ => ?_
  · have hk : 0 < ((List.range w.ns.length).filter fun k => (nd w.ns k).txt).length := by simpa using (Bool.and_eq_true_iff.mp hb).1
    refine gdo (gd_var rfl d9) (gdo (gd_dr 2 rfl (d26.to p9.hg) (by omega)) (gd_cb (ga_cons (gd_var rfl d9) ga_nil) len_nats) (go_modN hk)) (go_ixN ?_)
    rw [List.getD_eq_getElem?_getD, List.getElem?_eq_getElem (Nat.mod_lt _ hk)]; rfl
  · have hk : 0 < ((List.range w.ns.length).filter fun k => (nd w.ns k).txt).length := by simpa using (Bool.and_eq_true_iff.mp hb).1
    have hm := Nat.mod_lt (dr ms 2) hk
    have near : (((List.range w.ns.length).filter fun k => (nd w.ns k).txt)).getD (dr ms 2 % ((List.range w.ns.length).filter fun k => (nd w.ns k).txt).length) 0 < 100000 := by
      rw [List.getD_eq_getElem?_getD, List.getElem?_eq_getElem hm]
      have := List.mem_range.mp (List.mem_filter.mp (List.getElem_mem hm)).1
      show ((List.range w.ns.length).filter fun k => (nd w.ns k).txt)[_] < _
      omega
    exact gb_ret (gd_tup (ga_cons gd_str (ga_cons (gd_var rfl da) (ga_cons (gdo (gd_lst (ga_cons gd_str (ga_cons gd_str (ga_cons gd_str (ga_cons gd_str ga_nil))))) (gdo (gd_dr 4 rfl ((d26.to p9.hg).to pa.hg) (by omega)) (gd_int (i := 4)) (go_modN (b := 4) (by decide))) (go_ixL (pick_at ["", "t", "u v", "~"] (dr ms 4) (by decide)))) ga_nil)))) ⟨.write _ _, rfl, pick_all plainT (by decide) (by decide +kernel), by show _ < 100000; exact near⟩
  · exact gb_ret (gd_tup (ga_cons gd_str (ga_cons (gd_var rfl (d56.to p9.hg)) (ga_cons (gdo (gd_lst (ga_cons gd_str (ga_cons gd_str (ga_cons gd_str (ga_cons gd_str ga_nil))))) (gdo (gd_dr 4 rfl (d26.to p9.hg) (by omega)) (gd_int (i := 4)) (go_modN (b := 4) (by decide))) (go_ixL (pick_at ["", "t", "u v", "~"] (dr ms 4) (by decide)))) ga_nil)))) ⟨.write _ _, rfl, pick_all plainT (by decide) (by decide +kernel), by show _ < 100000; omega⟩
end
end LW
end
section
set_option Elab.async false
set_option linter.all false
set_option maxRecDepth 100000
set_option maxHeartbeats 4000000
namespace LW
open PySem PySem.Spec PyProof.Rows L2 DL LM
/-! ### the program's document: an instance, its row of nodes, what it told; each node an instance, its marks, its children -/
structure NAd where
  na : Addr
  dx : Addr
  md : Addr
  bl : Addr
def nameV (x : Nd) : V := if x.txt then .non else .str x.name
def wordsV (x : Nd) : V := if x.txt then .str x.name else .non
def nodeF (a : NAd) (x : Nd) : List (Str × V) := [("name", nameV x), ("words", wordsV x), ("marks", .ref a.md), ("up", upV x.up), ("below", .ref a.bl)]
def kidV (l : List Nat) : List V := (l.map fun (k : Nat) => (k : Int)).map V.int
structure NodeAt (CN : Addr) (A : Hp) (a : NAd) (x : Nd) : Prop where
  i : A a.na = some (.ins CN a.dx (nodeF a x))
  m : ∃ kvs, A a.md = some (.dK kvs) ∧ MkK kvs x.marks
  b : A a.bl = some (.lst (kidV x.kids))
structure DA where
  x : Addr
  dx : Addr
  kp : Addr
  tl : Addr
  L : List NAd
def docF (a : DA) : List (Str × V) := [("_kept", .ref a.kp), ("_told", .ref a.tl)]
def dS (a : DA) : Addr → Prop := fun b => b = a.x ∨ b = a.kp ∨ b = a.tl ∨ ∃ (i : Nat) (n : NAd), a.L[i]? = some n ∧ (b = n.na ∨ b = n.md ∨ b = n.bl)
structure DH (K : PySem.W.Frag) (CD CN : Addr) (a : DA) (H A : Hp) (w : Wm) : Prop where
  gh : Same H A
  o : A a.x = some (.ins CD a.dx (docF a))
  k : A a.kp = some (.lst (a.L.map fun n => .ref n.na))
  t : ∃ xs, A a.tl = some (.lst xs) ∧ DvA K H xs w.told
  len : a.L.length = w.ns.length
  nodes : ∀ (i : Nat) (n : NAd), a.L[i]? = some n → NodeAt CN A n (nd w.ns i)
  inj : ∀ (i j : Nat) (m n : NAd), a.L[i]? = some m → a.L[j]? = some n → m.na = n.na ∨ m.md = n.md ∨ m.bl = n.bl → i = j
  kt : a.kp ≠ a.tl
  kb : ∀ (i : Nat) (n : NAd), a.L[i]? = some n → n.bl ≠ a.kp ∧ n.bl ≠ a.tl ∧ n.na ≠ a.x
  px : H a.x = none
  pk : H a.kp = none
  pt : H a.tl = none
  pn : ∀ (i : Nat) (n : NAd), a.L[i]? = some n → H n.na = none ∧ H n.md = none ∧ H n.bl = none
section
variable {K : PySem.W.Frag} {CD CN : Addr} {a : DA} {A A2 H H1 H2 G G2 Hc : Hp} {w : Wm} {T T' : Addr → Prop} {σ : L2.St} {t te tn : TE} {n : Nat}
theorem DH.own (h : DH K CD CN a H A w) : ∀ b, dS a b → A b ≠ none ∧ H b = none := by
  rintro b (rfl | rfl | rfl | ⟨i, n, hn, hb⟩)
  · exact ⟨some_ne h.o, h.px⟩
  · exact ⟨some_ne h.k, h.pk⟩
  · obtain ⟨xs, e, _⟩ := h.t
    exact ⟨some_ne e, h.pt⟩
  · have N := h.nodes i n hn
    obtain ⟨p1, p2, p3⟩ := h.pn i n hn
    rcases hb with rfl | rfl | rfl
    · exact ⟨some_ne N.i, p1⟩
    · obtain ⟨kvs, e, _⟩ := N.m
      exact ⟨some_ne e, p2⟩
    · exact ⟨some_ne N.b, p3⟩
theorem DH.other (h : DH K CD CN a H A w) (st : Step T H A T' G A2) (dis : ∀ b, T b → ¬ dS a b) : DH K CD CN a G A2 w := by
  have nt : ∀ b, dS a b → ¬ T b := fun b h1 h2 => dis b h2 h1
  have ks : ∀ b, dS a b → ∀ o, A b = some o → A2 b = some o := fun b hb o e => st.hh b o (nt b hb) e
  have pp : ∀ b, dS a b → G b = none := fun b hb => st.pr b (h.own b hb).2 (h.own b hb).1
  refine ⟨st.gh, ks _ (.inl rfl) _ h.o, ks _ (.inr (.inl rfl)) _ h.k, ?_, h.len, fun i n hn => ?_, h.inj, h.kt, h.kb, pp _ (.inl rfl), pp _ (.inr (.inl rfl)), pp _ (.inr (.inr (.inl rfl))), fun i n hn => ?_⟩
  · obtain ⟨xs, e, r⟩ := h.t
    exact ⟨xs, ks _ (.inr (.inr (.inl rfl))) _ e, r.to st.hg⟩
  · have N := h.nodes i n hn
    obtain ⟨kvs, e, r⟩ := N.m
    exact ⟨ks _ (.inr (.inr (.inr ⟨i, n, hn, .inl rfl⟩))) _ N.i, ⟨kvs, ks _ (.inr (.inr (.inr ⟨i, n, hn, .inr (.inl rfl)⟩))) _ e, r⟩, ks _ (.inr (.inr (.inr ⟨i, n, hn, .inr (.inr rfl)⟩))) _ N.b⟩
  · exact ⟨pp _ (.inr (.inr (.inr ⟨i, n, hn, .inl rfl⟩))), pp _ (.inr (.inr (.inr ⟨i, n, hn, .inr (.inl rfl)⟩))), pp _ (.inr (.inr (.inr ⟨i, n, hn, .inr (.inr rfl)⟩)))⟩
theorem DH.pub (h : DH K CD CN a H A w) (p : Pub H A G A2) : DH K CD CN a G A2 w := h.other (T := fun _ => False) (T' := fun _ => False) (.of_pub p) fun _ z => z.elim
theorem DH.nodeAt (h : DH K CD CN a H A w) (hn : n < w.ns.length) : ∃ m, a.L[n]? = some m ∧ NodeAt CN A m (nd w.ns n) := by
  have e : a.L[n]? = some (a.L[n]'(by rw [h.len]; exact hn)) := List.getElem?_eq_getElem _
  exact ⟨_, e, h.nodes n _ e⟩
/-! the classes -/
structure DC (K : PySem.W.Frag) (CD CN : Addr) : Prop where
  cD : Cls K CD
  cN : Cls K CN
  aD : NoAttr K CD "_kept" ∧ NoAttr K CD "_told"
  aN : NoAttr K CN "name" ∧ NoAttr K CN "words" ∧ NoAttr K CN "marks" ∧ NoAttr K CN "up" ∧ NoAttr K CN "below"
/-- a field of an instance that is known -/
theorem gv_fld {b C dx : Addr} {fs : List (Str × V)} {f : Str} {v : V} (g : GV te σ H A (.ref b)) (ha : A b = some (.ins C dx fs)) (c : Cls K C) (na : NoAttr K C f) (e : fs.lookup f = some v) : GV (tFld K te f) σ H A v := fun H0 H1 p Q q =>
  g.to p fun G H2 p2 => ⟨b, C, dx, fs, v, rfl, p2.hh _ _ (p.hh _ _ ha), c, na, e, q G H2 p2⟩
theorem DH.kept (h : DH K CD CN a H A w) (D : DC K CD CN) (h0 : σ[0]? = some (some (.ref a.x))) : GV (tFld K (tVar 0) "_kept") σ H A (.ref a.kp) := gv_fld (gv_var h0) h.o D.cD D.aD.1 rfl
theorem DH.told (h : DH K CD CN a H A w) (D : DC K CD CN) (h0 : σ[0]? = some (some (.ref a.x))) : GV (tFld K (tVar 0) "_told") σ H A (.ref a.tl) := gv_fld (gv_var h0) h.o D.cD D.aD.2 rfl
theorem DH.len' (h : DH K CD CN a H A w) (D : DC K CD CN) (h0 : σ[0]? = some (some (.ref a.x))) : GD K (tCB (DL.rLen K) (tCons (tFld K (tVar 0) "_kept") tNil)) σ H A (ofN w.ns.length) := fun H0 H1 p Q q => by
  refine (h.kept D h0).to p fun G H2 p2 => ⟨.ref a.kp, a.L.length, ?_⟩
  refine ⟨rfl, .inl ⟨_, SqL.of (p2.hh _ _ (p.hh _ _ h.k)), by rw [List.length_map]⟩, ?_⟩
  rw [h.len]
  exact q _ G H2 p2 (.int _)
/-- self._kept[n] -/
theorem DH.nodeG (h : DH K CD CN a H A w) (D : DC K CD CN) (h0 : σ[0]? = some (some (.ref a.x))) {m : NAd} (hm : a.L[n]? = some m) (gn : GD K tn σ H A (ofN n)) : GV (tOp (rIx K) (tFld K (tVar 0) "_kept") tn) σ H A (.ref m.na) :=
  gv_ixP (h.kept D h0) h.k gn (by rw [List.getElem?_map, hm]; rfl)
/-- a field of a node that is known -/
theorem NodeAt.fld {m : NAd} {x : Nd} {f : Str} {v : V} (N : NodeAt CN A m x) (D : DC K CD CN) (g : GV te σ H A (.ref m.na)) (na : NoAttr K CN f) (e : (nodeF m x).lookup f = some v) : GV (tFld K te f) σ H A v := gv_fld g N.i D.cN na e
theorem dv_name {x : Nd} : Dv K H (nameV x) (if x.txt then .none else .str x.name) := by
  unfold nameV
  cases x.txt
  · exact .str _
  · exact .non
theorem dv_words {x : Nd} : Dv K H (wordsV x) (if x.txt then .str x.name else .none) := by
  unfold wordsV
  cases x.txt
  · exact .non
  · exact .str _
theorem dv_up {u : Option Nat} : Dv K H (upV u) (upD u) := by
  cases u
  · exact .non
  · exact .int _
/-- is the name None: just then it is a text -/
theorem gt_isText (K : PySem.W.Frag) {x : Nd} (g : GV t σ H A (nameV x)) : GT (tTest (tOp rIs1 t (tC .non))) σ H A x.txt := by
  have h := gt_test (gdo (g.gd (dv_name (K := K))) gd_non go_isN)
  have e : isNoneD (if x.txt then PyData.none else .str x.name) = x.txt := by cases x.txt <;> rfl
  rw [e] at h
  exact h
/-! ### what a call of the program may end in -/
inductive Err
  | no (m : Nat)
  | rf (s : Str)
inductive Res
  | ret (w : Wm) (d : PyData)
  | err (e : Err)
structure EC where
  no : Addr
  rf : Addr
def clsOf (e : EC) : Err → Value
  | .no _ => .ref e.no
  | .rf _ => .ref e.rf
def ExD (e : Err) (H : Hp) (d : Addr) : Prop := ∃ fs, H d = some (.xd fs) ∧ match e with
  | .no m => fs.lookup ("number" : Str) = some (V.int (m : Int))
  | .rf s => fs.lookup ("reason" : Str) = some (V.str s)
/-- a method that may raise -/
def spX (K : PySem.W.Frag) (CD CN : Addr) (ec : EC) (n : Nat) {α : Type} (ar : α → List PyData) (Pre : Wm → α → Prop) (f : Wm → α → Res) : Sp := fun vs H1 Q E => ∃ (a : DA) (us : List V) (x : α) (H : Hp) (w : Wm),
  vs = .ref a.x :: us ∧ us.length = n ∧ DH K CD CN a H H1 w ∧ Ok w.ns ∧ DvA K H us (ar x) ∧ Pre w x ∧
  (∀ w' d v a' G H2, f w x = .ret w' d → a'.x = a.x → Step (dS a) H H1 (dS a') G H2 → DH K CD CN a' G H2 w' → Dv K G v d → Q v H2) ∧
  (∀ e dd a' G H2, f w x = .err e → a'.x = a.x → Step (dS a) H H1 (dS a') G H2 → DH K CD CN a' G H2 w → ExD e H2 dd → E (clsOf ec e) (some dd) H2)
/-- one that never does, and leaves all -/
def spN (K : PySem.W.Frag) (CD CN : Addr) (n : Nat) {α : Type} (ar : α → List PyData) (Pre : Wm → α → Prop) (f : Wm → α → PyData) : Sp := fun vs H1 Q _ => ∃ (a : DA) (us : List V) (x : α) (H : Hp) (w : Wm),
  vs = .ref a.x :: us ∧ us.length = n ∧ DH K CD CN a H H1 w ∧ Ok w.ns ∧ DvA K H us (ar x) ∧ Pre w x ∧ ∀ v G H2, Pub H H1 G H2 → Dv K G v (f w x) → Q v H2
end
end LW
end
section
set_option Elab.async false
set_option linter.all false
set_option maxRecDepth 100000
set_option maxHeartbeats 4000000
namespace LW
open PySem PySem.Spec PyProof.Rows L2 DL LM
section
variable {P : Program} {W : World} {K : PySem.W.Frag} {mg : Str → Option Value} {base : Heap} {f : Addr} {fd : FuncData}
/-- nothing gets out -/
theorem passE0 {X : Cx} : Passes (L2.CX X.prog X.w) X E0 := fun pins σ H s e s' I c => by
  obtain ⟨_, _, _, _, _, _, _, _, _, _, _, _, h⟩ := c
  exact h.elim
/-- an own error class with its __init__ -/
structure Ex (P : Program) (W : World) (K : PySem.W.Frag) (mg : Str → Option Value) (base : Heap) (k : Nat) (x : Str) (C : Addr) (sp : Sp) : Prop where
  ex : ∃ fI fd ps, OexC K C ∧ PySem.W.findIn K (.ref C) "__init__" = some (some (.ref fI)) ∧ PySem.W.typeIn K (.ref fI) = some (.type "function") ∧ FnOk P W K mg base CX0 k fI fd ps sp ∧ Binds K fd ps [] ∧ mg x = some (.ref C)
theorem pmk_e {X : Cx} {k j : Nat} {x : Str} {C : Addr} {sp : Sp} {p pos : Pos} {e : Expr} {es : List Expr} {ta : TA} (c : Ex X.prog X.w X.K X.mg X.base k x C sp) (hr : Room j X.A) (hk : k + 1 ≤ j) (ha : PA X (e :: es) ta) (hg : Gl X x := by rfl)
    (hdb : (x == ("__debug__" : Str)) = false := by decide) (he : starEach (e :: es) X.env = (false, eval e X.env) :: starEach es X.env := by rfl) (hpl : (backTo pos (starEach es X.env)).any (·.1) = false := by rfl) :
    PMk X (.Call (.Name x p) (e :: es) [] pos) (tMkO C sp [] ta) := by
  obtain ⟨fI, fd, ps, T, iC, tI, F, b, hm⟩ := c.ex
  exact pmk_oex T iC tI F (hr.mono hk) b .nil pass0 hg hm ha hdb he hpl
/-- what LookError is to its subclasses -/
def Base (K : PySem.W.Frag) (mg : Str → Option Value) (B : Addr) : Prop := mg "LookError" = some (.ref B) ∧ PySem.W.specialIn K (.ref B) "__getattribute__" = some (some (.builtin "type.__getattribute__")) ∧ PySem.W.readsIn K B (.type "type") = true ∧ PySem.W.findCls K (.ref B) (.type "type") "__init__" = some (.val (.builtin "ValueError.__init__"))
/-- a short text or number -/
def okV (v : V) : Prop := (∃ s : Str, v = .str s ∧ s.length ≤ 1000) ∨ ∃ i : Int, v = .int i ∧ i.natAbs < 10 ^ 100
def spInit (K : PySem.W.Frag) (C : Addr) (fld : Str) : Sp := fun vs H Q _ => ∃ (a : Addr) (v : V), vs = [.ref a, v] ∧ H a = some (exo a C none) ∧ OexC K C ∧ PySem.W.findIn K (.ref C) fld = some none ∧ okV v ∧
  ∀ dx, H dx = none → dx ≠ a → Q .non (upd (upd H dx (exd dx [(fld, v)])) a (exo a C (some dx)))
theorem fmt_ok {σ : L2.St} {H : Hp} {v : V} {t : TE} {pre : Str} {Q : Str → Hp → Prop} (hp : pre.length ≤ 1000) (hv : okV v) (ht : ∀ Q' : VK, Q' v H → t σ H Q') (q : ∀ out, Q out H) : tJs [tC (.str pre), tFmt t] Str.empty σ H Q := by
  have hz : (Str.empty ++ pre).length ≤ sizeLine := by
    rw [Str.length_append, sizeLine_eq]
    show 0 + _ ≤ _
    omega
  refine ⟨pre, rfl, hz, ht _ ?_⟩
  rcases hv with ⟨s, rfl, hs⟩ | ⟨i, rfl, hi⟩
  · refine .inl ⟨s, rfl, by rw [sizeLine_eq]; omega, s, rfl, ?_, q _⟩
    rw [Str.length_append, Str.length_append, sizeLine_eq]
    show 0 + _ + _ ≤ _
    omega
  · have hl := int_text_length_le10 (k := 100) (by decide) hi
    refine .inr ⟨i, rfl, ?_, _, rfl, ?_, q _⟩
    · by_cases h0 : i.natAbs = 0
      · rw [h0]; decide
      · exact (Nat.log2_lt h0).mpr (Nat.lt_of_lt_of_le hi (Nat.le_of_ble_eq_true rfl))
    · rw [Str.length_append, Str.length_append, PySem.ofString_length, sizeLine_eq]
      show 0 + _ + _ ≤ _
      omega
abbrev sNoSuchNode_init : Stmt := inClass (topS 4) 0
theorem scNoSuchNode_init : FnScope ["self", "number"] ["self", "number"] (defScope sNoSuchNode_init) := ⟨rfl, rfl, rfl, by decide +kernel, rfl, by decide +kernel, by decide +kernel⟩
theorem ok_noInit {B C : Addr} (hL : Base K mg B) (F : Fun K "__init__" "NoSuchNode.__init__" sNoSuchNode_init f fd) : FnOk P W K mg base CX0 1 f fd ["self", "number"] (spInit K C "number") := by
  refine F.ok scNoSuchNode_init (fun vs H Q E h => ?_) (fun cdv A outer s H vs Q E hr h => ?_)
  · obtain ⟨a, v, rfl, _⟩ := h
    rfl
  obtain ⟨a, v, rfl, ha, T, hf, hv, q⟩ := h
  refine ⟨_, (pss_cons (ps_expr (pe_clsinit hL.1 hL.2.1 hL.2.2.1 hL.2.2.2 (pa_cons (pv 0) (pa_cons (pe_joined (.cons pe_str (.cons (pe_fmt (pv 1)) .nil))) pa_nil))))
      (pss_one (ps_ost (pv 0) (pv 1)))), ?_⟩
  refine ⟨.ref a, rfl, fmt_ok (by decide) hv (fun Q' q => ⟨v, rfl, q⟩) fun out => ⟨a, C, [.str out], rfl, by simp, T, ha, ?_⟩⟩
  exact ⟨v, rfl, .ref a, rfl, a, C, rfl, T, hf, .inl ⟨ha, fun dx h1 h2 => q dx h1 h2⟩⟩
abbrev sRefusedError_init : Stmt := inClass (topS 5) 0
theorem scRefusedError_init : FnScope ["self", "reason"] ["self", "reason"] (defScope sRefusedError_init) := ⟨rfl, rfl, rfl, by decide +kernel, rfl, by decide +kernel, by decide +kernel⟩
theorem ok_rfInit {B C : Addr} (hL : Base K mg B) (F : Fun K "__init__" "RefusedError.__init__" sRefusedError_init f fd) : FnOk P W K mg base CX0 1 f fd ["self", "reason"] (spInit K C "reason") := by
  refine F.ok scRefusedError_init (fun vs H Q E h => ?_) (fun cdv A outer s H vs Q E hr h => ?_)
  · obtain ⟨a, v, rfl, _⟩ := h
    rfl
  obtain ⟨a, v, rfl, ha, T, hf, hv, q⟩ := h
  refine ⟨_, (pss_cons (ps_expr (pe_clsinit hL.1 hL.2.1 hL.2.2.1 hL.2.2.2 (pa_cons (pv 0) (pa_cons (pe_joined (.cons pe_str (.cons (pe_fmt (pv 1)) .nil))) pa_nil))))
      (pss_one (ps_ost (pv 0) (pv 1)))), ?_⟩
  refine ⟨.ref a, rfl, fmt_ok (by decide) hv (fun Q' q => ⟨v, rfl, q⟩) fun out => ⟨a, C, [.str out], rfl, by simp, T, ha, ?_⟩⟩
  exact ⟨v, rfl, .ref a, rfl, a, C, rfl, T, hf, .inl ⟨ha, fun dx h1 h2 => q dx h1 h2⟩⟩
/-- raise C(x): what gets out -/
theorem r_raise {C : Addr} {fld : Str} {σ : L2.St} {H Hc : Hp} {t : TE} {v : V} {E : XK} (s : Same H Hc) (T : OexC K C) (hf : PySem.W.findIn K (.ref C) fld = some none) (hv : okV v) (ht : ∀ Q' : VK, (∀ H', Same Hc H' → Q' v H') → t σ Hc Q')
    (k : ∀ dd H2, Same H H2 → (∃ fs, H2 dd = some (.xd fs) ∧ fs.lookup fld = some v) → E (.ref C) (some dd) H2) : tMkO C (spInit K C fld) [] (tCons t tNil) σ Hc E := by
  refine ht _ fun H' s' => ⟨by simp, fun a ha => ?_⟩
  refine ⟨a, v, rfl, upd_same, T, hf, hv, fun dx h1 h2 => ⟨rfl, dx, [(fld, v)], upd_same, ?_, ?_, ?_⟩⟩
  · rw [upd_ne h2, upd_same]
  · rw [upd_ne h2] at h1
    exact h1
  · have hdx : H' dx = none := by rw [upd_ne h2] at h1; exact h1
    refine k dx _ (fun b u hb => ?_) ⟨_, upd_same, by simp [List.lookup]⟩
    have hb' := s' _ _ (s _ _ hb)
    have n1 : b ≠ dx := ne_of_none hb' hdx
    have n2 : b ≠ a := ne_of_none hb' ha
    rw [upd_ne n1, del_ne n2, upd_ne n2, upd_ne n1, upd_ne n2]
    exact hb'
end
end LW
end
section
set_option Elab.async false
set_option linter.all false
set_option maxRecDepth 100000
set_option maxHeartbeats 4000000
namespace LW
open PySem PySem.Spec PyProof.Rows L2 DL LM
section
variable {P : Program} {W : World} {K : PySem.W.Frag} {mg : Str → Option Value} {base : Heap} {f : Addr} {fd : FuncData} {CD CN : Addr} {ec : EC} {a : DA} {A H H1 G Hc : Hp} {w : Wm} {σ : L2.St} {t te tn : TE} {n : Nat}
/-- the error classes' fields -/
structure EF (K : PySem.W.Frag) (ec : EC) : Prop where
  no : OexC K ec.no ∧ PySem.W.findIn K (.ref ec.no) "number" = some none
  rf : OexC K ec.rf ∧ PySem.W.findIn K (.ref ec.rf) "reason" = some none
theorem okV_nat {n : Nat} (h : n < 1000000) : okV (.int (n : Int)) := .inr ⟨_, rfl, by
  have : ((n : Int)).natAbs = n := rfl
  rw [this]
  exact Nat.lt_trans h (Nat.le_of_ble_eq_true rfl)⟩
/-- _node(n) -/
def spNode (K : PySem.W.Frag) (CD CN : Addr) (ec : EC) : Sp := fun vs H1 Q E => ∃ (a : DA) (v : V) (n : Nat) (H : Hp) (w : Wm), vs = [.ref a.x, v] ∧ DH K CD CN a H H1 w ∧ n < 1000000 ∧ Dv K H v (ofN n) ∧
  (∀ m, a.L[n]? = some m → ∀ G H2, Pub H H1 G H2 → Q (.ref m.na) H2) ∧ (¬ n < w.ns.length → ∀ dd H2, Same H1 H2 → ExD (.no n) H2 dd → E (.ref ec.no) (some dd) H2)
abbrev sDocument_node : Stmt := inClass (topS 18) 14
theorem scDocument_node : FnScope ["self", "number"] ["self", "number"] (defScope sDocument_node) := ⟨rfl, rfl, rfl, by decide +kernel, rfl, by decide +kernel, by decide +kernel⟩
theorem ok_node (T : Bt mg) (D : DC K CD CN) (X : EF K ec) (F : Fun K "_node" "Document._node" sDocument_node f fd) (cis_number : Cal P W K mg base 1 "is_number" (spF K 1 preV (oneF numD))) (x_NoSuchNode : Ex P W K mg base 1 "NoSuchNode" ec.no (spInit K ec.no "number")) :
    FnOk P W K mg base (L2.CX P W) 3 f fd ["self", "number"] (spNode K CD CN ec) := by
  refine F.okX scDocument_node (fun vs H Q E h => ?_) (fun cdv A outer s H1 vs Q E hr h => ?_)
  · obtain ⟨a, v, n, H, w, rfl, _⟩ := h
    rfl
  obtain ⟨a, v, n, H, w, rfl, dh, hb, d1, kq, ke⟩ := h
  refine ⟨_, (pss_cons (ps_if (PW.pt (pw_or (pt_not (pt_tr (pe_k cis_number hr (by omega) (pa_cons (pv 1) pa_nil)))) (pw_or1 (pt_cmpR op_ge (pv 1) (pe_callB cr_len (by rfl) T.len PySem.boot_len (pa_cons (pe_fld (pv 0) rfl) pa_nil)) (nomark _))))) (pss_one (ps_raise rfl (takes_of rfl rfl rfl rfl) (pmk_e x_NoSuchNode hr (by omega) (pa_cons (pv 1) pa_nil)))) pss_nil)
      (pss_one (ps_ret (pe_ix ix_seq (pe_fld (pv 0) rfl) (pv 1) (fun _ _ => rfl))))), ?_⟩
  have ev := Dv.int_inv d1
  subst ev
  have g0 : numD (ofN n) = true := by
    show decide ((0 : Int) ≤ (n : Int)) = true
    exact decide_eq_true (by omega)
  have gC : ∀ {σ : L2.St} {A' : Hp}, σ[1]? = some (some (.int (n : Int))) → GD K (tCall (spF K 1 preV (oneF numD)) [] E0 (tCons (tVar 1) tNil)) σ H A' (.bool true) := fun {σ A'} h1 => by
    have g := gd_call (K := K) (A := A') (f := oneF numD) (Pre := preV) (ga_cons (gd_var h1 d1) ga_nil) rfl ⟨ofN n, rfl, fun s z => nomatch z⟩
    rw [show oneF numD [ofN n] = .bool (numD (ofN n)) from rfl, g0] at g
    exact g
  have gN : ∀ {σ : L2.St} {A' : Hp}, σ[1]? = some (some (.int (n : Int))) → GT (tNot (tTr K (tCall (spF K 1 preV (oneF numD)) [] E0 (tCons (tVar 1) tNil)))) σ H A' false := fun h1 => gt_not (b := true) (gt_tr (gC h1))
  refine s_ifr (K := K) (b := decide (w.ns.length ≤ n)) (by
    have g := gt_or (gN (σ := [some (.ref a.x), some (.int (n : Int))]) (A' := H1) rfl) fun _ => gt_test (gdo (K := K) (gd_var (i := 1) rfl d1) (dh.len' D rfl) (go_b2 (f := fun i j => decide (j ≤ i))))
    have z : (false || decide ((w.ns.length : Int) ≤ (n : Int))) = decide (w.ns.length ≤ n) := by
      rw [Bool.false_or]
      exact decide_eq_decide.mpr (by omega)
    rw [z] at g
    exact g) dh.gh (fun c H2 s2 => ?_) fun c H2 s2 => ?_
  · have c2 : ¬ n < w.ns.length := by
      have := of_decide_eq_true c
      omega
    refine r_raise (H := H1) s2 X.no.1 X.no.2 (okV_nat hb) (fun Q' q => ⟨_, rfl, q _ (.refl _)⟩) fun dd H3 s3 hx => ?_
    exact ke c2 dd H3 s3 hx
  · have c2 : n < w.ns.length := by
      have := of_decide_eq_false c
      omega
    obtain ⟨m, hm, _⟩ := dh.nodeAt c2
    have dh2 := dh.pub (.idle dh.gh s2)
    exact (dh2.nodeG (σ := [some (.ref a.x), some (.int (n : Int))]) D rfl hm (gd_var (i := 1) rfl d1)).to (.refl dh2.gh) fun G H3 p3 => kq m hm G H3 ((Pub.idle dh.gh s2).trans p3)
/-- self._node(n) of a number that is there -/
theorem gv_node {m : NAd} {E : XK} (dh : DH K CD CN a H A w) (h0 : σ[0]? = some (some (.ref a.x))) (hn : n < w.ns.length) (ho : w.ns.length ≤ 60) (hm : a.L[n]? = some m) (gn : GD K tn σ H A (ofN n)) : GV (tMeth CD "_node" (spNode K CD CN ec) [] E (tVar 0) (tCons tn tNil)) σ H A (.ref m.na) := fun H0 H1 p Q q => by
  have dh1 := dh.pub p
  refine ⟨.ref a.x, h0, a.x, a.dx, docF a, rfl, dh1.o, rfl, gn.to p fun v G H2 p2 dv => ?_⟩
  refine ⟨a, v, n, G, w, rfl, dh1.pub p2, by omega, dv, fun m' hm' G3 H3 p3 => ?_, fun z => absurd hn z⟩
  rw [hm] at hm'
  cases hm'
  exact q G3 H3 (p2.trans p3)
/-! ### what only looks -/
def spN1 (K : PySem.W.Frag) (CD CN : Addr) := @spN K CD CN 1 Nat ar1
theorem fn_N {x qual : Str} {st : Stmt} {N ps : List Str} {k n : Nat} {α : Type} {ar : α → List PyData} {Pre : Wm → α → Prop} {g : Wm → α → PyData} (F : Fun K x qual st f fd) (S : FnScope N ps (defScope st)) (hn : n + 1 = ps.length)
    (hbody : ∀ (cdv : Value) (A : Around) (outer : List Env) (s : Shared) (H1 : Hp) (E : XK), Room k (A.deeper (envOfC qual (defScope st) s.heap.objs.size f cdv)) →
      ∃ t, PSs (cxOf CX0 P W K mg base N qual (defScope st) f cdv A outer s H1 E).nox (defBody st) t ∧ ∀ a us x H A w, us.length = n → DH K CD CN a H A w → Ok w.ns → DvA K H us (ar x) → Pre w x → GB K t (start N (.ref a.x :: us)) H A (fun d => d = g w x)) : FnOk P W K mg base CX0 (k + 1) f fd ps (spN K CD CN n ar Pre g) := by
  refine F.ok S (fun vs H Q E h => ?_) (fun cdv A outer s H vs Q E hr h => ?_)
  · obtain ⟨_, us, _, _, _, rfl, hl, _⟩ := h
    rw [List.length_cons, hl, hn]
  obtain ⟨a, us, x, H0, w, rfl, hl, dh, o, dv, hp, q⟩ := h
  obtain ⟨t, h1, h2⟩ := hbody cdv A outer s H E hr
  exact ⟨t, h1, h2 a us x H0 H w hl dh o dv hp H0 H (.refl dh.gh) _ fun d v G H2 r p dv => by subst r; exact q v G H2 p dv⟩
theorem fnD_N {dvs : List V} {x qual : Str} {st : Stmt} {N ps : List Str} {k n : Nat} {α : Type} {ar : α → List PyData} {Pre : Wm → α → Prop} {g : Wm → α → PyData} (F : FunD K x qual (defArgs st) (defBody st) (defScope st) dvs [] f fd) (S : FnScope N ps (defScope st)) (hn : n + 1 = ps.length)
    (hbody : ∀ (cdv : Value) (A : Around) (outer : List Env) (s : Shared) (H1 : Hp) (E : XK), Room k (A.deeper (envOfC qual (defScope st) s.heap.objs.size f cdv)) →
      ∃ t, PSs (cxOf CX0 P W K mg base N qual (defScope st) f cdv A outer s H1 E).nox (defBody st) t ∧ ∀ a us x H A w, us.length = n → DH K CD CN a H A w → Ok w.ns → DvA K H us (ar x) → Pre w x → GB K t (start N (.ref a.x :: us)) H A (fun d => d = g w x)) : FnOk P W K mg base CX0 (k + 1) f fd ps (spN K CD CN n ar Pre g) := by
  refine FunD.ok F S (fun vs H Q E h => ?_) (fun cdv A outer s H vs Q E hr h => ?_)
  · obtain ⟨_, us, _, _, _, rfl, hl, _⟩ := h
    rw [List.length_cons, hl, hn]
  obtain ⟨a, us, x, H0, w, rfl, hl, dh, o, dv, hp, q⟩ := h
  obtain ⟨t, h1, h2⟩ := hbody cdv A outer s H E hr
  exact ⟨t, h1.nox, h2 a us x H0 H w hl dh o dv hp H0 H (.refl dh.gh) _ fun d v G H2 r p dv => by subst r; exact q v G H2 p dv⟩
theorem gd_callN {α : Type} {n : Nat} {ar : α → List PyData} {Pre : Wm → α → Prop} {f : Wm → α → PyData} {tA : TA} {mn : Str} (x : α) (dh : DH K CD CN a H A w) (o : Ok w.ns) (h0 : σ[0]? = some (some (.ref a.x))) (ga : GA K tA σ H A (ar x)) (hn : (ar x).length = n) (hp : Pre w x) (hm : (docF a).lookup mn = none) :
    GD K (tMeth CD mn (spN K CD CN n ar Pre f) [] E0 (tVar 0) tA) σ H A (f w x) := fun H0 H1 p Q q => ⟨.ref a.x, h0, a.x, a.dx, docF a, rfl, (dh.pub p).o, hm, ga.to p fun vs G H2 p2 dv => by
  show spN K CD CN n ar Pre f (.ref a.x :: (vs ++ [])) H2 Q E0
  rw [List.append_nil]
  exact ⟨a, vs, x, G, w, rfl, (DvA.len dv).trans hn, dh.pub (p.trans p2), o, dv, hp, fun v G' H3 p3 dw => q v G' H3 (p2.trans p3) dw⟩⟩
abbrev sDocument_parent : Stmt := inClass (topS 18) 9
theorem scDocument_parent : FnScope ["self", "number"] ["self", "number"] (defScope sDocument_parent) := ⟨rfl, rfl, rfl, by decide +kernel, rfl, by decide +kernel, by decide +kernel⟩
theorem ok_parent (T : Bt mg) (D : DC K CD CN) (F : Fun K "parent" "Document.parent" sDocument_parent f fd) (m__node : Met P W K mg base (L2.CX P W) 3 CD "_node" (spNode K CD CN ec)) :
    FnOk P W K mg base CX0 4 f fd ["self", "number"] (spN K CD CN 1 ar1 preN fun w n => upD (nd w.ns n).up) := by
  refine fn_N F scDocument_parent rfl fun cdv A outer s H1 E hr => ⟨_, (pss_one (ps_ret (pe_fld (pe_mX m__node hr (by omega) passE0 (pv 0) (pa_cons (pv 1) pa_nil)) rfl))), fun a us n H A w hl dh o dv hn => ?_⟩
  obtain ⟨v, rfl, d1⟩ := DvA.inv1 dv
  obtain ⟨m, hm, N⟩ := dh.nodeAt hn
  exact gb_ret ((NodeAt.fld N D (gv_node dh rfl hn o.len hm (gd_var rfl d1)) D.aN.2.2.2.1 rfl).gd dv_up) rfl
/-- list() of a private row of numbers -/
theorem gd_listP {b : Addr} {l : List Nat} (g : GV te σ H A (.ref b)) (ha : A b = some (.lst (kidV l))) : GD K (tCB (rListOf K) (tCons te tNil)) σ H A (natsD l) := fun H0 H1 p Q q => g.to p fun G H2 p2 => by
  refine ⟨b, kidV l, rfl, .inl (SqL.of (p2.hh _ _ (p.hh _ _ ha))), fun c hc => q (.ref c) _ _ (p2.new hc _) (.lst (.inl upd_same) ?_)⟩
  rw [show l.map ofN = (l.map fun (k : Nat) => (k : Int)).map PyData.int by rw [List.map_map]; rfl]
  exact DvA.ints
def ar0 : Unit → List PyData := fun _ => []
abbrev sDocument_nodes : Stmt := inClass (topS 18) 12
theorem scDocument_nodes : FnScope ["self"] ["self"] (defScope sDocument_nodes) := ⟨rfl, rfl, rfl, by decide +kernel, rfl, by decide +kernel, by decide +kernel⟩
theorem ok_nodes (T : Bt mg) (D : DC K CD CN) (F : Fun K "nodes" "Document.nodes" sDocument_nodes f fd) : FnOk P W K mg base CX0 1 f fd ["self"] (spN K CD CN 0 ar0 preAny fun w _ => ofN w.ns.length) := by
  refine fn_N F scDocument_nodes rfl fun cdv A outer s H1 E hr => ⟨_, (pss_one (ps_ret (pe_callB cr_len (by rfl) T.len PySem.boot_len (pa_cons (pe_fld (pv 0) rfl) pa_nil)))), fun a us n H A w hl dh o dv hn => ?_⟩
  cases dv
  exact gb_ret (dh.len' D rfl) rfl
end
end LW
end
section
set_option Elab.async false
set_option linter.all false
set_option maxRecDepth 100000
set_option maxHeartbeats 4000000
namespace LW
open PySem PySem.Spec PyProof.Rows L2 DL LM
section
variable {P : Program} {W : World} {K : PySem.W.Frag} {mg : Str → Option Value} {base : Heap} {f : Addr} {fd : FuncData} {CD CN : Addr} {ec : EC} {a : DA} {A H H1 G Hc : Hp} {w : Wm} {σ : L2.St} {t te tn : TE} {n : Nat}
theorem NodeAt.upG {m : NAd} {x : Nd} (N : NodeAt CN A m x) (D : DC K CD CN) (g : GV te σ H A (.ref m.na)) : GD K (tFld K te "up") σ H A (upD x.up) := (NodeAt.fld N D g D.aN.2.2.2.1 rfl).gd dv_up
abbrev sDocument_above : Stmt := inClass (topS 18) 11
theorem scDocument_above : FnScope ["self", "number", "node", "way"] ["self", "number"] (defScope sDocument_above) := ⟨rfl, rfl, rfl, by decide +kernel, rfl, by decide +kernel, by decide +kernel⟩
theorem ok_dabove (T : Bt mg) (D : DC K CD CN) (F : Fun K "above" "Document.above" sDocument_above f fd) (m__node : Met P W K mg base (L2.CX P W) 3 CD "_node" (spNode K CD CN ec)) :
    FnOk P W K mg base CX0 4 f fd ["self", "number"] (spN K CD CN 1 ar1 preN fun w n => aboveD w.ns n) := by
  refine fn_N F scDocument_above rfl fun cdv A outer s H1 E hr => ⟨_, (pss_cons (ps_set (i := 2) scDocument_above.nd rfl (Or.inl rfl) (pe_mX m__node hr (by omega) passE0 (pv 0) (pa_cons (pv 1) pa_nil)))
      (pss_cons (ps_set (i := 3) scDocument_above.nd rfl (Or.inl rfl) (pe_lst (pa_cons (pv 1) pa_nil)))
      (pss_cons (ps_while PassesOwn.never (pt_cmpR op_isnot1 (pe_fld (pv 2) rfl) pe_non (nomark _)) (pss_cons (ps_expr (pe_bm PySem.F.plainAttrs_list PySem.F.slot_list_append PySem.F.type_list_append mt_append (pv 3) (pa_cons (pe_fld (pv 2) rfl) pa_nil)))
      (pss_one (ps_set (i := 2) scDocument_above.nd rfl (Or.inl rfl) (pe_ix ix_seq (pe_fld (pv 0) rfl) (pe_fld (pv 2) rfl) (fun _ _ => rfl))))))
      (pss_one (ps_ret (pe_callTy RR.cr_tupF (by rfl) T.tuple (by decide +kernel) (pa_cons (pv 3) pa_nil))))))), fun a us n H A w hl dh o dv hn => ?_⟩
  obtain ⟨v, rfl, d1⟩ := DvA.inv1 dv
  have ev := Dv.int_inv d1
  subst ev
  obtain ⟨m0, hm0, N0⟩ := dh.nodeAt hn
  refine gb_setV (gv_node dh rfl hn o.len hm0 (gd_var rfl d1)) fun G2 H2 p2 => ?_
  intro H0 H1 e E q
  have dh1 := (dh.pub p2).pub e
  have c := o.above hn
  have hle := c.len o hn
  have hlen := o.len
  have hpos := c.pos
  refine ⟨.int n, rfl, by rw [sizeLine_eq]; exact (by decide : 1 ≤ 16777216), fun p hp => ?_⟩
  have w0 := Own.new (Pub.refl dh1.gh) hp (.lst [.int n])
  have htk : (above w.ns n).take 1 = [n] := (fun (l : List Nat) (c : Ch w.ns n l) => (by cases c <;> rfl : l.take 1 = [n])) _ c
  have h0l : (above w.ns n)[0]? = some n := (fun (l : List Nat) (c : Ch w.ns n l) => (by cases c <;> rfl : l[0]? = some n)) _ c
  refine ⟨fun j σ' H' => ∃ (i b : Nat) (nb : NAd) (G' : Hp), j + i + 1 = (above w.ns n).length ∧ (above w.ns n)[i]? = some b ∧ a.L[b]? = some nb ∧ σ' = [some (.ref a.x), some (.int n), some (.ref nb.na), some (.ref p)] ∧ Own H0 H1 G' H' p (.lst (kidV ((above w.ns n).take (i + 1)))),
    ⟨(above w.ns n).length - 1, 0, n, m0, H0, by omega, h0l, hm0, rfl, by rw [htk]; exact w0⟩, ?_⟩
  rintro j σ' H' ⟨i, b, nb, G', hj, hb, hnb, rfl, w3⟩
  have dh3 := dh1.pub w3.pub
  have hup := c.next i b hb
  have hbl := c.lt o hn b (List.mem_of_getElem? hb)
  have Nb := dh3.nodes b nb hnb
  have gU := Nb.upG (σ := [some (.ref a.x), some (.int n), some (.ref nb.na), some (.ref p)]) (te := tVar 2) (H := G') D (gv_var rfl)
  rw [hup] at gU
  cases hn1 : (above w.ns n)[i + 1]? with
  | none =>
    rw [hn1] at gU
    refine (gt_test (gdo gU gd_non go_notN)).to (.refl w3.gh) fun H5 p5 => ?_
    refine iteF ?_
    have w5 := w3.test p5.hh
    have hall : (above w.ns n).take (i + 1) = above w.ns n := List.take_of_length_le (by have := List.getElem?_eq_none_iff.mp hn1; omega)
    rw [hall] at w5
    refine (gd_cb (K := K) (ga_cons (gd_var rfl w5.dvi) ga_nil) gc_tupL).to (.refl w5.see) fun v4 G4 H4 P4 d4 => ?_
    refine q (aboveD w.ns n) v4 G4 H4 rfl (w5.open_.trans P4) ?_
    unfold aboveD
    rw [List.map_map] at d4
    exact d4
  | some u =>
    rw [hn1] at gU
    have hul := c.lt o hn u (List.mem_of_getElem? hn1)
    obtain ⟨nu, hnu, Nu⟩ := dh3.nodeAt hul
    refine (gt_test (gdo gU gd_non go_notN)).to (.refl w3.gh) fun H5 p5 => ?_
    refine iteT ?_
    have w5 := w3.test p5.hh
    have hil : i + 1 < (above w.ns n).length := (List.getElem?_eq_some_iff.mp hn1).1
    refine ⟨fun σ' H' => ∃ (i b : Nat) (nb : NAd) (G' : Hp), j - 1 + i + 1 = (above w.ns n).length ∧ (above w.ns n)[i]? = some b ∧ a.L[b]? = some nb ∧ σ' = [some (.ref a.x), some (.int n), some (.ref nb.na), some (.ref p)] ∧ Own H0 H1 G' H' p (.lst (kidV ((above w.ns n).take (i + 1)))), fun σ' H' h => ⟨j - 1, by omega, h⟩, ?_⟩
    refine s_append (K := K) (d := ofN u) w5 rfl (gU.mono (Pub.idle w3.gh p5.hh)) (by unfold kidV; rw [List.length_map, List.length_map, List.length_take, sizeLine_eq]; omega) fun v7 G7 H7 w7 s7 dv7 => ?_
    have e7 := Dv.int_inv dv7
    subst e7
    have dh7 := dh1.pub w7.pub
    have gU7 := (dh7.nodes b nb hnb).upG (σ := [some (.ref a.x), some (.int n), some (.ref nb.na), some (.ref p)]) (te := tVar 2) (H := G7) D (gv_var rfl)
    rw [hup, hn1] at gU7
    refine (dh7.nodeG (n := u) (m := nu) D rfl hnu gU7).to (.refl w7.gh) fun G8 H8 p8 => ?_
    refine ⟨i + 1, u, nu, G8, by omega, hn1, hnu, rfl, ?_⟩
    have z : (above w.ns n).take (i + 1 + 1) = (above w.ns n).take (i + 1) ++ [u] := by rw [List.take_add_one, hn1]; rfl
    have w8 := w7.step p8
    unfold kidV at w8 ⊢
    rw [z, List.map_append, List.map_append]
    exact w8
end
end LW
end
section
set_option Elab.async false
set_option linter.all false
set_option maxRecDepth 100000
set_option maxHeartbeats 4000000
/-! sorted(d.items()) of a dict of few texts -/
namespace LW
open PySem PySem.Spec PySem.W PySem.Calls PyProof.Rows LM
def rho (x : Str) : Int := if x = "k" then 0 else if x = "m" then 1 else 2
theorem rho_lt {x y : Str} (hx : x ∈ KS) (hy : y ∈ KS) : decide (x.cps.toList < y.cps.toList) = decide (rho x < rho y) := by
  simp [KS] at hx hy
  rcases hx with rfl | rfl | rfl <;> rcases hy with rfl | rfl | rfl <;> decide +kernel
/-- a tuple of these two texts -/
def PairS (h : Heap) (v : Value) (x y : Str) : Prop := ∃ (a : Addr) (t t' : Tok), v = .ref a ∧ IsTup h a #[.str x t, .str y t']
def tx1 (h : Heap) (v : Value) : Str := DT.txOf (DT.seqAt0 h (DT.refOf (some v)))
theorem PairS.tx {h : Heap} {v : Value} {x y : Str} (p : PairS h v x y) : tx1 h v = x := by
  obtain ⟨a, t, t', rfl, ht⟩ := p
  show DT.txOf (DT.seqAt0 h a) = x
  rw [DT.seqAt0_of ht]
  rfl
section
variable {prog : Program} {w : World} {A : Around} {E : Value → Shared → Prop} {s : Shared}
theorem pairS_firsts {h : Heap} {U : Str → Str} : ∀ vs : List Value, (∀ v ∈ vs, ∃ x, x ∈ KS ∧ PairS h v x (U x)) → ∃ fs : List Value, KatTups h vs fs ∧ fs.length = vs.length ∧ ∀ f ∈ fs, ∃ x t, f = Value.str x t
  | [], _ => ⟨[], .nil, rfl, fun _ h => nomatch h⟩
  | v :: vs, g => by
    obtain ⟨fs, kt, hl, hi⟩ := pairS_firsts vs fun u hu => g u (.tail _ hu)
    obtain ⟨x, _, a, t, t', rfl, o, ho, hc, n, hd⟩ := g v (.head _)
    refine ⟨.str x t :: fs, KatTups.cons ho hc hd rfl kt, congrArg (· + 1) hl, ?_⟩
    intro f hf
    cases hf with
    | head => exact ⟨x, t, rfl⟩
    | tail _ hf => exact hi f hf
theorem kind_pairS {vs : List Value} {U : Str → Str} (h2 : 2 ≤ vs.length) (g : ∀ v ∈ vs, ∃ x, x ∈ KS ∧ PairS s.heap v x (U x)) (Q : SortKind → Shared → Prop)
    (q : ∀ κ, TS.Cmp prog w A s κ (pairsOf vs) (fun v => rho (tx1 s.heap v)) → Q κ s) : wpAny (model prog w) A (keyKind' vs.toArray) Q E s := by
  obtain ⟨fs, kt, hl, hi⟩ := pairS_firsts vs g
  refine kat_kind (T := Value.type "str") kt (by omega) (fun f hf => ?_) (by decide) (q _ ?_)
  · obtain ⟨x, t, rfl⟩ := hi f hf
    exact .now
  · intro m n hm hn Q' E' hQ
    rw [pairsOf_toList] at hm hn
    obtain ⟨x, hx, px⟩ := g _ (mem_zip_self hm).2
    obtain ⟨y, hy, py⟩ := g _ (mem_zip_self hn).2
    have hQ2 : Q' (decide (rho (tx1 s.heap m.1) < rho (tx1 s.heap n.1))) s := hQ
    rw [px.tx, py.tx, ← rho_lt hx hy] at hQ2
    obtain ⟨a, t1, t2, e1, o, ho, hc, k1, hd⟩ := px
    obtain ⟨b, t3, t4, e2, o', ho', hc', k2, hd'⟩ := py
    rw [e1, e2]
    refine kat_lt ho hd ho' hd' ?_
    show KatLex prog w A _ _ Q' [(Value.str x t1, Value.str y t3), (Value.str (U x) t2, Value.str (U y) t4)] 0 s
    refine kat_cons (wpAny_eqBool_str ?_)
    refine kat_go (fun e => ?_) fun e => kat_no (oneLt_any_str hQ2)
    have e := of_decide_eq_true e
    subst e
    refine kat_yes (kat_cons (wpAny_eqBool_str ?_))
    refine kat_go (fun _ => kat_yes (kat_nil ?_)) fun e => absurd rfl (of_decide_eq_false e)
    have z : decide (x.cps.toList < x.cps.toList) = false := by
      rw [rho_lt hx hx]
      exact decide_eq_false (Int.lt_irrefl _)
    rw [z] at hQ2
    exact hQ2
end
end LW
end
section
set_option Elab.async false
set_option linter.all false
set_option maxRecDepth 100000
set_option maxHeartbeats 4000000
namespace LW
open PySem PySem.Spec PyProof.Rows L2 DL LM
/-! ### heaps that grow -/
/-- what came to the actual heap comes to the public one -/
def grow (G H H' : Hp) : Hp := fun b => match G b with
  | some o => some o
  | none => match H b with
    | some _ => none
    | none => H' b
theorem grow_pub {G H H' : Hp} (e : Same G H) (s : Same H H') : Pub G H (grow G H H') H' := by
  refine ⟨fun b o h => ?_, fun b o h => ?_, s, fun b h h1 => ?_⟩
  · unfold grow; rw [h]
  · unfold grow at h
    cases hg : G b with
    | some u =>
      rw [hg] at h
      cases h
      exact s _ _ (e _ _ hg)
    | none =>
      rw [hg] at h
      cases hh : H b with
      | some u => rw [hh] at h; cases h
      | none => rw [hh] at h; exact h
  · unfold grow
    rw [h]
    cases hh : H b with
    | some u => rfl
    | none => exact absurd hh h1
theorem grow_new {G H H' : Hp} {b : Addr} (e : Same G H) (h : H b = none) : grow G H H' b = H' b := by
  unfold grow
  rw [e.free h, h]
def rhoS (x : Str) : Int := rho x
theorem ks_rho : ∀ ys : List Str, (∀ y, y ∈ ys → y ∈ KS) → ys.Nodup → ys.Pairwise (fun a b => rho a ≤ rho b) → ys = KS.filter fun k => decide (k ∈ ys)
  | [], _, _, _ => by decide
  | [a], h, d, s => by
    have ha := h a (by simp)
    simp [KS] at ha
    revert d s
    rcases ha with rfl | rfl | rfl <;> decide +kernel
  | [a, b], h, d, s => by
    have ha := h a (by simp)
    have hb := h b (by simp)
    simp [KS] at ha hb
    revert d s
    rcases ha with rfl | rfl | rfl <;> rcases hb with rfl | rfl | rfl <;> decide +kernel
  | [a, b, c], h, d, s => by
    have ha := h a (by simp)
    have hb := h b (by simp)
    have hc := h c (by simp)
    simp [KS] at ha hb hc
    revert d s
    rcases ha with rfl | rfl | rfl <;> rcases hb with rfl | rfl | rfl <;> rcases hc with rfl | rfl | rfl <;> decide +kernel
  | a :: b :: c :: e :: r, h, d, s => by
    have := small_names (zs := a :: b :: c :: e :: r) h d
    simp at this
/-! ### d.items() -/
def rItemsM : V → List V → Hp → VK → Prop := fun x xs H Q => ∃ (a : Addr) (kvs : List (Key × V)), x = .ref a ∧ xs = [] ∧ H a = some (.dK kvs) ∧ ∀ p, H p = none → Q (.ref p) (upd H p (L2.DX.itemsO p a))
section
variable {X : Cx}
theorem mt_itemsM : MtR X "dict.items" rItemsM := by
  intro pins s σ H x xs v us Q I rx rxs g
  obtain ⟨a, kvs, rfl, rfl, e, q⟩ := g
  cases rx
  cases rxs
  obtain ⟨_, hd, vs, rel, o, es, ep, ho, hx, hdat, _⟩ := dk_of I.hok e
  refine DT.callItems (es := es) (ep := ep) hd ⟨o, ho, hx, hdat⟩ ?_
  refine ⟨.ref s.heap.objs.size, _, I.laid (t' := s.toks) (fun b u z => Heap.get?_push_of_some _ z) (Nat.le_refl _) (L2.DX.itemsO_ok (d := a) (Heap.get?_push_size _ rfl)), rfl, q _ (I.hok.fresh (Nat.le_refl _))⟩
theorem pairs_at {P : Program} {w : World} : ∀ {es : List DictEntry} {vs : List (Key × Value)} {j : Nat} {e : DictEntry}, Pairs (mixKind P w) es vs → es[j]? = some e → ∃ kv, vs[j]? = some kv ∧ keyIs kv.1 e.key = true ∧ e.val = kv.2
  | _, _, _, _, .nil, h => by simp at h
  | _, _, 0, _, .cons a b _, h => by simp at h; subst h; exact ⟨_, rfl, a, b⟩
  | _, _, j + 1, _, .cons _ _ r, h => by
    obtain ⟨kv, h1, h2⟩ := pairs_at (j := j) r (by simpa using h)
    exact ⟨kv, by simpa using h1, h2⟩
theorem pairs_len {P : Program} {w : World} : ∀ {es : List DictEntry} {vs : List (Key × Value)}, Pairs (mixKind P w) es vs → es.length = vs.length
  | _, _, .nil => rfl
  | _, _, .cons _ _ r => congrArg (· + 1) (pairs_len r)
/-! ### sorted(d.items()) -/
def rSortM : List V → Hp → VK → Prop := fun vs H Q => ∃ (p a : Addr) (kvs : List (Key × V)) (f : Str → Option Str), vs = [.ref p] ∧ H p = some (L2.DX.itemsO p a) ∧ H a = some (.dK kvs) ∧ MkK kvs f ∧
  ∀ (H' : Hp) (l : Addr) (zs : List (Addr × Str)), Same H H' → zs.map (·.2) = namesOf f → H l = none → H' l = some (.lst (zs.map fun z => V.ref z.1)) → (∀ z ∈ zs, H z.1 = none ∧ H' z.1 = some (.tup [.str z.2, .str ((f z.2).getD "")])) → Q (.ref l) H'
theorem cr_sortM (hc : X.calm = true) : CallR X (.builtin "sorted") rSortM := by
  intro pins s σ H xs us Q I r g
  obtain ⟨p, a, kvs, f, rfl, hp, ha, mk, q⟩ := g
  obtain rfl := Vals.ref1 r
  have view : s.heap.IsItemsView p a := (show ObjOk X.prog X.w H s.heap p (L2.DX.itemsO p a) from I.hok p _ hp).1
  obtain ⟨_, hd, vs, rel, o, es, ep, ho, hx, hdat, _, prs, _⟩ := dk_of I.hok ha
  obtain ⟨ks, hks, hkm, hkn, hki⟩ := MkK.names mk
  have l1 : kvs.length = vs.length := Paired.length rel
  have l2 : es.toList.length = vs.length := pairs_len prs
  have l3 : kvs.length = ks.length := by
    have e := congrArg List.length hks
    rwa [List.length_map, List.length_map] at e
  have hsm := small_names hkm hkn
  have hes : es.size = ks.length := by rw [← Array.length_toList]; omega
  refine DT.sortedI (es := es) (ep := ep) (I.ok.hd hc) view ⟨o, ho, hx, hdat⟩ (by rw [sizeLine_eq]; omega) fun h' tk as hk hlt hl hG => ?_
  have las : as.length = ks.length := by omega
  have hnd : as.Nodup := hG.rise.imp fun z => Nat.ne_of_lt z
  -- the pairs
  have pr : ∀ (j : Nat) (b : Addr), as[j]? = some b → ∃ k, ks[j]? = some k ∧ PairS h' (.ref b) k ((f k).getD "") := by
    intro j b hj
    obtain ⟨e, he, hb⟩ := hG.pairs j b hj
    rw [← Array.getElem?_toList] at he
    obtain ⟨⟨key, val⟩, hv, kis, ev⟩ := pairs_at prs he
    obtain ⟨⟨key2, v2⟩, hkv, ek, rv⟩ := L2.DX.pget rel hv
    have ek : key2 = key := ek
    subst ek
    have hke : (kvs.map (·.1))[j]? = some key2 := by rw [List.getElem?_map, hkv]; rfl
    rw [hks, List.getElem?_map] at hke
    obtain ⟨k, hkj, rfl⟩ := Option.map_eq_some_iff.mp hke
    have hval := valV_get mk.1 hkv
    rw [mk.2.1 k] at hval
    obtain ⟨u, hu, rfl⟩ := Option.map_eq_some_iff.mp hval
    obtain ⟨t', rfl⟩ := (show ∃ t, val = Value.str u t from rv)
    rcases keyIs_shape kis with ⟨i, t, z, _⟩ | ⟨x, t, z, ex⟩
    · cases z
    · cases z
      refine ⟨k, hkj, b, t, t', rfl, _, hb, rfl, 0, ?_⟩
      rw [ex, ev, hu]
      rfl
  -- the list that is sorted
  have hob : (h'.push { cls := .type "list", data := .seq (as.map Value.ref).toArray }).get? h'.objs.size = some (seqObj "list" (as.map Value.ref).toArray 0) := Heap.get?_push_size _ rfl
  have old : ∀ b o, h'.get? b = some o → b ≠ h'.objs.size := fun b o e => Nat.ne_of_lt (Heap.lt_size e)
  have kp : ∀ b o, h'.get? b = some o → (h'.push { cls := .type "list", data := .seq (as.map Value.ref).toArray }).get? b = some o := fun b o e => Heap.get?_push_of_some _ e
  generalize h'.push { cls := .type "list", data := .seq (as.map Value.ref).toArray } = h2 at hob kp ⊢
  have prM : ∀ (j : Nat) (b : Addr), as[j]? = some b → ∃ k, ks[j]? = some k ∧ PairS (TS.midHeap h2 h'.objs.size (as.map Value.ref)) (.ref b) k ((f k).getD "") := by
    intro j b hj
    obtain ⟨k, e, b', t, t', ev, o2, h1, h2', h3⟩ := pr j b hj
    exact ⟨k, e, b', t, t', ev, o2, TS.midHeap_old (old _ _ h1) (kp _ _ h1), h2', h3⟩
  have any : ∀ v ∈ as.map Value.ref, ∃ (j : Nat) (b : Addr), v = .ref b ∧ as[j]? = some b := by
    intro v hv
    obtain ⟨b, hb, rfl⟩ := List.mem_map.mp hv
    obtain ⟨j, hj⟩ := List.mem_iff_getElem?.mp hb
    exact ⟨j, b, rfl, hj⟩
  refine wpAny_call_entry PyProof.Rows.slot_list_sort ⟨_, hob, rfl⟩ PyProof.Rows.entry_list_sort
    (SK.plain_sort (s := { s with heap := h2, toks := tk }) (r := fun v => rho (tx1 (TS.midHeap h2 h'.objs.size (as.map Value.ref)) v)) hob (by rw [List.length_map]; omega) (fun two Qk hQk => ?_) fun ps out o1 o2 o3 => ⟨.none, rfl, ?_⟩) (PyProof.Rows.args_list_sort _)
  · refine kind_pairS (s := { s with heap := TS.midHeap h2 h'.objs.size (as.map Value.ref), toks := tk }) (U := fun k => (f k).getD "") two (fun v hv => ?_) Qk hQk
    obtain ⟨j, b, rfl, hj⟩ := any v hv
    obtain ⟨k, hkj, pk⟩ := prM j b hj
    exact ⟨k, hkm k (List.mem_of_getElem? hkj), pk⟩
  · obtain ⟨zs, pz, ez⟩ := perm_lift (fun z : Addr × Str => (Value.ref z.1, Value.ref z.1)) o2 (as.zip ks) (L2.DX.zip_self Value.ref as ks las)
    have ix : ∀ z ∈ zs, ∃ j : Nat, as[j]? = some z.1 ∧ ks[j]? = some z.2 := by
      intro z hz
      obtain ⟨j, hj⟩ := List.mem_iff_getElem?.mp (pz.mem_iff.mp hz)
      exact ⟨j, List.getElem?_zip_eq_some.mp hj⟩
    have hout : out.toList = zs.map fun z => Value.ref z.1 := by
      rw [o1, ← ez, List.map_map]; rfl
    have hperm : (zs.map (·.2)).Perm ks := by
      have e := pz.map (·.2)
      rwa [List.map_snd_zip (Nat.le_of_eq las.symm)] at e
    have hsort : (zs.map (·.2)).Pairwise (fun x y => rho x ≤ rho y) := by
      rw [← ez, List.pairwise_map] at o3
      rw [List.pairwise_map]
      refine o3.imp_of_mem fun {x y} hx hy hle => ?_
      obtain ⟨j, j1, j2⟩ := ix x hx
      obtain ⟨i, i1, i2⟩ := ix y hy
      obtain ⟨k, hkj, pk⟩ := prM j _ j1
      obtain ⟨k', hki', pk'⟩ := prM i _ i1
      rw [j2] at hkj
      rw [i2] at hki'
      cases hkj
      cases hki'
      have hle' : rho (tx1 (TS.midHeap h2 h'.objs.size (as.map Value.ref)) (.ref x.1)) ≤ rho (tx1 (TS.midHeap h2 h'.objs.size (as.map Value.ref)) (.ref y.1)) := hle
      rwa [pk.tx, pk'.tx] at hle'
    have hnames : zs.map (·.2) = namesOf f := by
      rw [ks_rho _ (fun y hy => hkm y (hperm.mem_iff.mp hy)) (hperm.nodup_iff.mpr hkn) hsort]
      unfold namesOf
      refine List.filter_congr fun k _ => ?_
      rw [Bool.eq_iff_iff, decide_eq_true_iff, hperm.mem_iff, hki]
    have kF : ∀ b o, b ≠ h'.objs.size → h2.get? b = some o → (sortedHeap h2 h'.objs.size (as.map Value.ref) out).get? b = some o := fun b o hb e => (PyProof.Rows.sortedHeap_old hb (Heap.lt_size e)).trans e
    obtain ⟨n0, hF⟩ := PyProof.Rows.sortedHeap_at (vs := as.map Value.ref) (out := out) hob
    have I1 : Inv X pins σ H { s with heap := sortedHeap h2 h'.objs.size (as.map Value.ref) out, toks := tk } := I.kept (t' := tk) fun b o e => kF b o (old _ _ (hk b o e)) (kp _ _ (hk b o e))
    have hl0 : H h'.objs.size = none := I.hok.fresh (Nat.le_of_lt hlt)
    have hzl : zs.length = ks.length := by
      have e := hperm.length_eq
      rwa [List.length_map] at e
    have rv : Vals (zs.map fun z => V.ref z.1) out.toList := by
      rw [hout]
      exact vals_maps (fun z : Addr × Str => V.ref z.1) (fun z => Value.ref z.1) zs fun _ _ => rfl
    have I2 : Inv X pins σ (upd H h'.objs.size (.lst (zs.map fun z => V.ref z.1))) { s with heap := sortedHeap h2 h'.objs.size (as.map Value.ref) out, toks := tk } :=
      I1.take (h' := sortedHeap h2 h'.objs.size (as.map Value.ref) out) (t' := tk) (fun b ob _ e => e) (I.fpOk (Nat.le_of_lt hlt) hl0) ⟨by rw [List.length_map, sizeLine_eq]; omega, out.toList, n0, rv, hF⟩
    obtain ⟨H2, I3, gr, tk2⟩ := L2.DX.takeT (P := fun b vs => ∃ (j : Nat) (k : Str), as[j]? = some b ∧ ks[j]? = some k ∧ vs = [.str k, .str ((f k).getD "")]) I as _ I2 hnd fun b hb => by
      obtain ⟨j, hj⟩ := List.mem_iff_getElem?.mp hb
      obtain ⟨k, hkj, b', t, t', ev, o2, g1, g2, n2, g3⟩ := pr j b hj
      cases ev
      have hlo : s.heap.objs.size ≤ b := Nat.le_of_lt (hG.above b hb)
      refine ⟨hlo, ?_, _, ⟨j, k, hj, hkj, rfl⟩, fun H3 => ⟨by rw [sizeLine_eq]; exact (by decide : 2 ≤ 16777216), [Value.str k t, Value.str ((f k).getD "") t'], .cons ⟨t, rfl⟩ (.cons ⟨t', rfl⟩ .nil), ⟨o2, kF _ _ (old _ _ g1) (kp _ _ g1), g2, n2, g3⟩⟩⟩
      rw [upd_ne (old _ _ g1)]
      exact I.hok.fresh hlo
    refine ⟨.ref h'.objs.size, H2, I3, rfl, q H2 h'.objs.size zs (fun b o e => gr b o (by rw [upd_ne (ne_of_none e hl0)]; exact e)) hnames hl0 (gr _ _ upd_same) fun z hz => ?_⟩
    obtain ⟨i, i1, i2⟩ := ix z hz
    obtain ⟨vs', ⟨j, k, j1, j2, rfl⟩, hH⟩ := tk2 z.1 (List.mem_of_getElem? i1)
    have eij : i = j := (List.getElem?_inj (List.getElem?_eq_some_iff.mp i1).1 hnd).mp (i1.trans j1.symm)
    subst eij
    rw [i2] at j2
    cases j2
    exact ⟨I.hok.fresh (Nat.le_of_lt (hG.above z.1 (List.mem_of_getElem? i1))), hH⟩
end
end LW
end
section
set_option Elab.async false
set_option linter.all false
set_option maxRecDepth 100000
set_option maxHeartbeats 2000000
namespace DL
open PySem PySem.Spec PyProof.Rows L2
section
variable {K : PySem.W.Frag} {A B C H H' H1 H2 H3 G G1 G2 : Hp} {σ : L2.St} {t ta tb tc te : TE} {tA : TA} {tt tu : TT} {d d1 d2 d3 : PyData} {ds es : List PyData}
/-! ### a comprehension over what is private: the actual heap C stays -/
structure RunsC (K : PySem.W.Frag) (J : It) (B C : Hp) (ds : List PyData) : Prop where
  go : ∀ i H, Same C H → i < ds.length → J.go i H
  stop : ∀ i H, Same C H → ds.length ≤ i → J.stop i H
  yld : ∀ i H x H' G, Same B G → Same G H → Same C H → i < ds.length → J.yld i H x H' → ∃ d G', ds[i]? = some d ∧ Pub G H G' H' ∧ Dv K G' x d
def GIc (K : PySem.W.Frag) (wi : TI) (σ : L2.St) (H A : Hp) (ds : List PyData) : Prop := ∀ H0 H1, Pub H A H0 H1 → ∀ R : It → Hp → Prop, (∀ J G H2, Pub H0 H1 G H2 → RunsC K J G H2 ds → R J H2) → wi σ H1 R
theorem lc_runC {α : Type} {wi : TI} {g : TG} {tt : TT} {te : TE} {vs : List Nat} {xs : List α} (em : α → PyData) (p : α → Bool) (f : α → PyData) (gi : GIc K wi σ H A (xs.map em)) (z : xs.length ≤ 1000000)
    (turn : ∀ (i : Nat) (a : α), xs[i]? = some a → ∀ v G H1, Pub H A G H1 → Dv K G v (em a) → ∀ Q : L2.St → Hp → Prop,
      (∀ σ2 G2 H2, Pub G H1 G2 H2 → wipe σ2 vs = wipe σ vs → GT tt σ2 G2 H2 (p a) → (p a = true → GD K te σ2 G2 H2 (f a)) → Q σ2 H2) → g v (wipe σ vs) H1 Q) :
    GD K (tLc wi g tt te vs) σ H A (.list ((xs.filter p).map f)) := fun H0 H1 e Q q => gi H0 H1 e _ fun J B H2 pb r D hD => by
  refine ⟨fun i m Hx => m = xs.length - i ∧ i ≤ xs.length ∧ ∃ G acc, Pub B H2 G Hx ∧ Hx D = some (.lst acc) ∧ G D = none ∧ DvA K G acc (((xs.take i).filter p).map f),
    ⟨xs.length, by simp, Nat.zero_le _, B, [], (Pub.refl pb.gh).newP hD _, upd_same, pb.gh.free hD, by rw [List.take_zero]; exact .nil⟩, ?_⟩
  rintro i m Hx ⟨rfl, hi, G, acc, pg, hacc, hGD, dacc⟩
  by_cases hlt : i < xs.length
  · have hlt' : i < (xs.map em).length := by rw [List.length_map]; exact hlt
    refine .inr ⟨r.go i Hx pg.hh hlt', fun H' => ∃ G acc, Pub B H2 G H' ∧ H' D = some (.lst acc) ∧ G D = none ∧ DvA K G acc (((xs.take (i + 1)).filter p).map f), fun H' ⟨G', acc', h⟩ => ⟨xs.length - (i + 1), by omega, rfl, hlt, G', acc', h⟩, fun x H' hy => ?_⟩
    obtain ⟨d, G', hd, p1, dx⟩ := r.yld i Hx x H' G pg.hg pg.gh pg.hh hlt' hy
    rw [List.getElem?_map] at hd
    obtain ⟨a, ha, rfl⟩ := Option.map_eq_some_iff.mp hd
    refine turn i a ha x G' H' (e.trans (pb.trans (pg.trans p1))) dx _ fun σ2 G2 H3 p2 hw gt gd => ⟨hw, ?_⟩
    have ht : xs.take (i + 1) = xs.take i ++ [a] := by rw [List.take_add_one, ha]; rfl
    have q12 := (pg.trans p1).trans p2
    have hD3 : H3 D = some (.lst acc) := p2.hh D _ (p1.hh D _ hacc)
    have hG2D : G2 D = none := (p1.trans p2).pr D hGD (some_ne hacc)
    refine gt.to (.refl p2.gh) fun H4 e4 => ?_
    have q4 : Pub B H2 G2 H4 := q12.trans e4
    cases hp : p a with
    | false =>
      refine iteF ⟨G2, acc, q4, e4.hh D _ hD3, hG2D, ?_⟩
      rw [ht, List.filter_append, List.filter_cons, hp, if_neg Bool.false_ne_true, List.filter_nil, List.append_nil]
      exact dacc.to (p1.hg.trans p2.hg)
    | true =>
      refine iteT ((gd hp).to e4 fun y G5 H5 p5 dy => ?_)
      have hD5 : H5 D = some (.lst acc) := p5.hh D _ (e4.hh D _ hD3)
      have hG5D : G5 D = none := p5.pr D hG2D (some_ne (e4.hh D _ hD3))
      have hl : acc.length ≤ xs.length := by
        rw [DvA.len dacc, List.length_map]
        exact Nat.le_trans (List.length_filter_le _ _) (by rw [List.length_take]; omega)
      have hs : acc.length < sizeLine := Nat.lt_of_le_of_lt (Nat.le_trans hl z) (by rw [sizeLine_eq]; decide)
      refine ⟨acc, hD5, hs, G5, acc ++ [y], (q4.trans p5).put hD hG5D _, upd_same, hG5D, ?_⟩
      rw [ht, List.filter_append, List.filter_cons, hp, if_pos rfl, List.filter_nil, List.map_append]
      exact DvA.app ((dacc.to (p1.hg.trans p2.hg)).to p5.hg) (.cons dy .nil)
  · have hn : i = xs.length := by omega
    subst hn
    rw [List.take_length] at dacc
    exact .inl ⟨r.stop _ Hx pg.hh (by rw [List.length_map]; exact Nat.le_refl _), q _ _ Hx (pb.trans (pg.open_ hD hGD hacc)) (.lst (.inl upd_same) (dacc.to (same_new hGD _)))⟩
/-- one name, no test -/
theorem gd_lcC {α : Type} {wi : TI} {k : Nat} {xs : List α} {em : α → PyData} {f : α → PyData} (gi : GIc K wi σ H A (xs.map em)) (z : xs.length ≤ 1000000)
    (he : ∀ (i : Nat) (a : α), xs[i]? = some a → ∀ v G H1, Pub H A G H1 → Dv K G v (em a) → GD K te ((wipe σ [k]).set k (some v)) G H1 (f a)) : GD K (tLc wi (gName k) tYes te [k]) σ H A (.list (xs.map f)) := by
  have e := lc_runC (te := te) (tt := tYes) (g := gName k) (vs := [k]) em (fun _ => true) f gi z fun i d hd v G H1 s dv Q q => q _ G H1 (.refl s.gh) wipe1 (fun H0 H1 e Q q => q H1 (.refl e.gh)) fun _ => he i d hd v G H1 s dv
  rw [List.filter_eq_self.mpr fun _ _ => rfl] at e
  exact e
/-- over a private row of numbers -/
theorem gi_rowP {b : Addr} {ns : List Int} (g : GV te σ H A (.ref b)) (e : A b = some (.lst (ns.map V.int))) : GIc K (iSeq K te) σ H A (ns.map PyData.int) := fun H0 H1 p R q => .inl (g.to p fun G H2 p2 => by
  have e2 := p2.hh _ _ (p.hh _ _ e)
  have sq : ∀ {Hx}, Same H2 Hx → SqL K Hx b (ns.map V.int) := fun s => SqL.of (s _ _ e2)
  refine ⟨b, rfl, ⟨_, SqL.of e2⟩, q _ G H2 p2 ⟨fun i Hx s hi => ?_, fun i Hx s hi => ?_, fun i Hx x H' G' s1 s2 s3 hi hy => ?_⟩⟩
  · rw [List.length_map] at hi
    exact ⟨_, .int ns[i], sq s, by rw [List.getElem?_map, List.getElem?_eq_getElem hi]; rfl⟩
  · rw [List.length_map] at hi
    exact ⟨_, sq s, by rw [List.length_map]; exact hi⟩
  · obtain ⟨rfl, hx⟩ := hy
    have h := hx _ (sq s3)
    rw [List.getElem?_map] at h
    obtain ⟨n, hn, rfl⟩ := Option.map_eq_some_iff.mp h
    exact ⟨.int n, G', by rw [List.getElem?_map, hn]; rfl, .refl s2, .int n⟩)
end
end DL
end
section
set_option Elab.async false
set_option linter.all false
set_option maxRecDepth 100000
set_option maxHeartbeats 4000000
namespace LW
open PySem PySem.Spec PyProof.Rows L2 DL LM
section
variable {P : Program} {W : World} {K : PySem.W.Frag} {mg : Str → Option Value} {base : Heap} {f : Addr} {fd : FuncData} {CD CN : Addr} {ec : EC} {a : DA} {A H H1 G Hc : Hp} {w : Wm} {σ : L2.St} {t te tn : TE} {n : Nat}
def itemsD (g : Str → Option Str) : List PyData := (namesOf g).map fun k => .tuple [.str k, .str ((g k).getD "")]
theorem rows_dv {g : Str → Option Str} {Hx : Hp} : ∀ {zs : List (Addr × Str)}, (∀ z ∈ zs, Hx z.1 = some (.tup [.str z.2, .str ((g z.2).getD "")])) → DvA K Hx (zs.map fun z => V.ref z.1) ((zs.map (·.2)).map fun k => .tuple [.str k, .str ((g k).getD "")])
  | [], _ => .nil
  | z :: zs, h => .cons (.tup (SqT.of (h z List.mem_cons_self)) (.cons (.str _) (.cons (.str _) .nil))) (rows_dv fun y hy => h y (List.mem_cons_of_mem _ hy))
theorem gd_items {b : Addr} {g : Str → Option Str} {kvs : List (Key × V)} (gv : GV te σ H A (.ref b)) (e : A b = some (.dK kvs)) (mk : MkK kvs g) : GD K (tCB rSortM (tCons (tBM0 K "dict" rItemsM te) tNil)) σ H A (.list (itemsD g)) := fun H0 H1 p Q q => gv.to p fun G H2 p2 => by
  have e2 := p2.hh _ _ (p.hh _ _ e)
  refine ⟨.inr (.inr (.inl ⟨rfl, .inl ⟨kvs, e2⟩⟩)), b, kvs, rfl, rfl, e2, fun it hit => ?_⟩
  refine ⟨it, b, kvs, g, rfl, upd_same, by rw [upd_ne (ne_of_none e2 hit)]; exact e2, mk, fun H' l zs s hz hl hl' hzs => ?_⟩
  have p3 := p2.newP hit (L2.DX.itemsO it b)
  have p4 := grow_pub p3.gh s
  refine q (.ref l) _ _ (p3.trans p4) (.lst (.inl ((grow_new p3.gh hl).trans hl')) ?_)
  unfold itemsD
  rw [← hz]
  exact rows_dv fun z hz' => (grow_new p3.gh (hzs z hz').1).trans (hzs z hz').2
/-- over a private row of numbers -/
theorem gi_seqP {b : Addr} {l : List Nat} (g : GV te σ H A (.ref b)) (e : A b = some (.lst (kidV l))) : GIc K (iSeq K te) σ H A (l.map ofN) := by
  have h := gi_rowP (K := K) (ns := l.map fun (k : Nat) => (k : Int)) g e
  rw [List.map_map] at h
  exact h
abbrev sDocument_shape : Stmt := inClass (topS 18) 8
theorem scDocument_shape : FnScope ["self", "number", "node", "marks", "child"] ["self", "number"] (defScope sDocument_shape) := ⟨rfl, rfl, rfl, by decide +kernel, rfl, by decide +kernel, by decide +kernel⟩
theorem ok_dshape_step {j : Nat} (T : Bt mg) (D : DC K CD CN) (F : FunD K "shape" "Document.shape" (defArgs sDocument_shape) (defBody sDocument_shape) (defScope sDocument_shape) [.int 0] [] f fd) (m__node : Met P W K mg base (L2.CX P W) 3 CD "_node" (spNode K CD CN ec))
    (m_shape : Met P W K mg base CX0 (4 + j) CD "shape" (spN K CD CN 1 ar1 (preShape j) fun w n => shapeF j w.ns n)) :
    FnOk P W K mg base CX0 (4 + (j + 1)) f fd ["self", "number"] (spN K CD CN 1 ar1 (preShape (j + 1)) fun w n => shapeF (j + 1) w.ns n) := by
  refine fnD_N (k := 4 + j) F scDocument_shape rfl fun cdv A outer s H1 E hr => ⟨_, (pss_cons (ps_set (i := 2) scDocument_shape.nd rfl (Or.inl rfl) (pe_mX m__node hr (by omega) passE0 (pv 0) (pa_cons (pv 1) pa_nil)))
      (pss_cons (ps_if (pt_cmpR op_is1 (pe_fld (pv 2) rfl) pe_non (nomark _)) (pss_one (ps_ret (RR.pe_tupF (pa_cons pe_str (pa_cons (pv 1) (pa_cons (pe_fld (pv 2) rfl) pa_nil)))))) pss_nil)
      (pss_cons (ps_set (i := 3) scDocument_shape.nd rfl (Or.inl rfl) (pe_callTy RR.cr_tupF (by rfl) T.tuple (by decide +kernel) (pa_cons (pe_callB (cr_sortM rfl) (by rfl) T.sorted (by decide +kernel) (pa_cons (pe_bm0 PySem.F.plainAttrs_dict PySem.F.slot_dict_items PySem.F.type_dict_items mt_itemsM (pe_fld (pv 2) rfl)) pa_nil)) pa_nil)))
      (pss_one (ps_ret (RR.pe_tupF (pa_cons pe_str (pa_cons (pv 1) (pa_cons (pe_fld (pv 2) rfl) (pa_cons (pv 3) (pa_cons (pe_callTy RR.cr_tupF (by rfl) T.tuple (by decide +kernel) (pa_cons (pe_lc (own := [("child", 4)]) (by rfl) scDocument_shape.nd (pi_seq (pe_fld (pv 2) rfl)) (blkOk_by (own := [("child", 4)]) (N := ["self", "number", "node", "marks", "child"]) (sc := defScope sDocument_shape) (by decide +kernel)) (fun _ _ _ _ _ => (pg_name (i := 4) scDocument_shape.nd rfl (Or.inl rfl))) (fun _ _ _ _ _ => pts_nil) (fun _ _ _ _ _ => (pe_m m_shape hr (by omega) (pv 0) (pa_cons (pv 4) pa_nil)))) pa_nil)) pa_nil))))))))))), fun a us n H A w hl dh o dv hp => ?_⟩
  obtain ⟨v, rfl, d1⟩ := DvA.inv1 dv
  have hn := hp.1
  obtain ⟨m, hm, N⟩ := dh.nodeAt hn
  refine gb_setV (gv_node dh rfl hn o.len hm (gd_var rfl d1)) fun G2 H2 p2 => ?_
  have dh2 := dh.pub p2
  have N2 := dh2.nodes n m hm
  have d2 := d1.to p2.hg
  have fN : ∀ {σ : L2.St} {G A' : Hp} {x : Nd}, NodeAt CN A' m x → σ[2]? = some (some (.ref m.na)) → GV (tFld K (tVar 2) "name") σ G A' (nameV x) := fun N h => NodeAt.fld N D (gv_var h) D.aN.1 rfl
  have fW : ∀ {σ : L2.St} {G A' : Hp} {x : Nd}, NodeAt CN A' m x → σ[2]? = some (some (.ref m.na)) → GV (tFld K (tVar 2) "words") σ G A' (wordsV x) := fun N h => NodeAt.fld N D (gv_var h) D.aN.2.1 rfl
  have fM : ∀ {σ : L2.St} {G A' : Hp} {x : Nd}, NodeAt CN A' m x → σ[2]? = some (some (.ref m.na)) → GV (tFld K (tVar 2) "marks") σ G A' (.ref m.md) := fun N h => NodeAt.fld N D (gv_var h) D.aN.2.2.1 rfl
  have fB : ∀ {σ : L2.St} {G A' : Hp} {x : Nd}, NodeAt CN A' m x → σ[2]? = some (some (.ref m.na)) → GV (tFld K (tVar 2) "below") σ G A' (.ref m.bl) := fun N h => NodeAt.fld N D (gv_var h) D.aN.2.2.2.2 rfl
  refine gb_if (gt_isText K (fN N2 rfl)) (fun c => gb_ret (gd_tup (ga_cons gd_str (ga_cons (gd_var rfl d2) (ga_cons ((fW N2 rfl).gd (d := .str (nd w.ns n).name) (by unfold wordsV; rw [c]; exact .str _)) ga_nil)))) (by unfold shapeF; rw [c]; rfl)) fun c => ?_
  obtain ⟨kvs, hkv, mk⟩ := N2.m
  refine gb_set (gd_cb (ga_cons (gd_items (fM N2 rfl) hkv mk) ga_nil) gc_tupL) fun v3 G3 H3 p3 d3 => ?_
  have dh3 := dh2.pub p3
  have N3 := dh3.nodes n m hm
  refine gb_ret (gd_tup (ga_cons gd_str (ga_cons (gd_var rfl (d2.to p3.hg)) (ga_cons ((fN N3 rfl).gd (d := .str (nd w.ns n).name) (by unfold nameV; rw [c]; exact .str _)) (ga_cons (gd_var rfl d3) (ga_cons (gd_cb (ga_cons (gd_lcC (em := ofN) (f := shapeF j w.ns) (gi_seqP (fB N3 rfl) N3.b) (by have := o.kidLe hn; have := o.len; omega) fun i k hk v5 G5 H5 p5 d5 => ?_) ga_nil) gc_tupL) ga_nil)))))) ?_
  · exact gd_callN (ar := ar1) k (dh3.pub p5) o rfl (ga_cons (gd_var rfl d5) ga_nil) rfl (hp.2 k (List.mem_of_getElem? hk)) rfl
  · unfold shapeF
    rw [c]
    unfold marksD
    rw [← marks_eq]
    rfl
end
end LW
end
section
set_option Elab.async false
set_option linter.all false
set_option maxRecDepth 100000
set_option maxHeartbeats 4000000
namespace LW
open PySem PySem.Spec PyProof.Rows L2 DL LM
section
variable {K : PySem.W.Frag} {CD CN : Addr} {ec : EC} {a a0 : DA} {A A2 H H1 H2 G G2 Hc : Hp} {w : Wm} {σ : L2.St} {t te tn : TE} {n i : Nat} {m : NAd}
theorem ins_ne_lst {H : Hp} {b c : Addr} {C dx : Addr} {fs : List (Str × V)} {xs : List V} (h : H b = some (.ins C dx fs)) (h' : H c = some (.lst xs)) : b ≠ c := fun z => by rw [z, h'] at h; cases h
theorem ins_ne_dk {H : Hp} {b c : Addr} {C dx : Addr} {fs : List (Str × V)} {xs : List (Key × V)} (h : H b = some (.ins C dx fs)) (h' : H c = some (.dK xs)) : b ≠ c := fun z => by rw [z, h'] at h; cases h
theorem dk_ne_lst {H : Hp} {b c : Addr} {fs : List (Key × V)} {xs : List V} (h : H b = some (.dK fs)) (h' : H c = some (.lst xs)) : b ≠ c := fun z => by rw [z, h'] at h; cases h
theorem DH.sep (h : DH K CD CN a H A w) (hm : a.L[i]? = some m) {b : Addr} (hb : b = m.na ∨ b = m.md ∨ b = m.bl) : b ≠ a.x ∧ b ≠ a.kp ∧ b ≠ a.tl ∧ ∀ (j : Nat) (n : NAd), a.L[j]? = some n → j ≠ i → b ≠ n.na ∧ b ≠ n.md ∧ b ≠ n.bl := by
  have N := h.nodes i m hm
  obtain ⟨kvs, ek, _⟩ := N.m
  obtain ⟨ys, et, _⟩ := h.t
  obtain ⟨k1, k2, k3⟩ := h.kb i m hm
  rcases hb with rfl | rfl | rfl
  · refine ⟨k3, ins_ne_lst N.i h.k, ins_ne_lst N.i et, fun j n hn hj => ?_⟩
    have M := h.nodes j n hn
    obtain ⟨kvs', ek', _⟩ := M.m
    exact ⟨fun z => hj (h.inj j i n m hn hm (.inl z.symm)), ins_ne_dk N.i ek', ins_ne_lst N.i M.b⟩
  · refine ⟨(ins_ne_dk h.o ek).symm, dk_ne_lst ek h.k, dk_ne_lst ek et, fun j n hn hj => ?_⟩
    have M := h.nodes j n hn
    exact ⟨(ins_ne_dk M.i ek).symm, fun z => hj (h.inj j i n m hn hm (.inr (.inl z.symm))), dk_ne_lst ek M.b⟩
  · refine ⟨(ins_ne_lst h.o N.b).symm, k1, k2, fun j n hn hj => ?_⟩
    have M := h.nodes j n hn
    obtain ⟨kvs', ek', _⟩ := M.m
    exact ⟨(ins_ne_lst M.i N.b).symm, (dk_ne_lst ek' N.b).symm, fun z => hj (h.inj j i n m hn hm (.inr (.inr z.symm)))⟩
theorem DH.write (h : DH K CD CN a H A w) (hm : a.L[i]? = some m) {b : Addr} (hb : b = m.na ∨ b = m.md ∨ b = m.bl) {o : HO} {x : Nd} (N : NodeAt CN (upd A b o) m x) : DH K CD CN a H (upd A b o) { w with ns := w.ns.set i x } := by
  obtain ⟨s1, s2, s3, s4⟩ := h.sep hm hb
  obtain ⟨p1, p2, p3⟩ := h.pn i m hm
  have hi : i < w.ns.length := by rw [← h.len]; exact (List.getElem?_eq_some_iff.mp hm).1
  have pb : H b = none := by rcases hb with rfl | rfl | rfl <;> assumption
  refine ⟨same_upd2 h.gh b pb o, by rw [upd_ne (Ne.symm s1)]; exact h.o, by rw [upd_ne (Ne.symm s2)]; exact h.k, ?_, by rw [List.length_set]; exact h.len, fun j n hn => ?_, h.inj, h.kt, h.kb, h.px, h.pk, h.pt, h.pn⟩
  · obtain ⟨ys, e, r⟩ := h.t
    exact ⟨ys, by rw [upd_ne (Ne.symm s3)]; exact e, r⟩
  · by_cases e : j = i
    · subst e
      rw [hm] at hn
      cases hn
      rw [nd_same hi]
      exact N
    · rw [nd_ne e]
      obtain ⟨t1, t2, t3⟩ := s4 j n hn e
      have M := h.nodes j n hn
      refine ⟨by rw [upd_ne (Ne.symm t1)]; exact M.i, ?_, by rw [upd_ne (Ne.symm t3)]; exact M.b⟩
      obtain ⟨kvs, e1, e2⟩ := M.m
      exact ⟨kvs, by rw [upd_ne (Ne.symm t2)]; exact e1, e2⟩
/-- the document at a point of a run -/
structure DP (K : PySem.W.Frag) (CD CN : Addr) (a0 : DA) (H H1 : Hp) (a : DA) (G Hc : Hp) (w : Wm) : Prop where
  st : Step (dS a0) H H1 (dS a) G Hc
  dh : DH K CD CN a G Hc w
  ax : a.x = a0.x
theorem DP.refl (h : DH K CD CN a H H1 w) : DP K CD CN a H H1 a H H1 w := ⟨.refl h.gh, h, rfl⟩
theorem DP.pub (p : DP K CD CN a0 H H1 a G Hc w) (q : Pub G Hc G2 H2) : DP K CD CN a0 H H1 a G2 H2 w := ⟨p.st.pub q, p.dh.pub q, p.ax⟩
theorem DP.gh (p : DP K CD CN a0 H H1 a G Hc w) : Same G Hc := p.dh.gh
theorem DP.test (p : DP K CD CN a0 H H1 a G Hc w) (e : Same Hc H2) : DP K CD CN a0 H H1 a G H2 w := p.pub (.idle p.dh.gh e)
theorem DP.trans {a' : DA} {w' : Wm} (p : DP K CD CN a0 H H1 a G Hc w) (st : Step (dS a) G Hc (dS a') G2 H2) (h : DH K CD CN a' G2 H2 w') (e : a'.x = a.x) : DP K CD CN a0 H H1 a' G2 H2 w' := ⟨p.st.trans st, h, e.trans p.ax⟩
theorem DP.write (p : DP K CD CN a0 H H1 a G Hc w) (hm : a.L[i]? = some m) {b : Addr} (hb : b = m.na ∨ b = m.md ∨ b = m.bl) {o : HO} {x : Nd} (N : NodeAt CN (upd Hc b o) m x) : DP K CD CN a0 H H1 a G (upd Hc b o) { w with ns := w.ns.set i x } := by
  have hS : dS a b := .inr (.inr (.inr ⟨i, m, hm, hb⟩))
  exact p.trans (.write p.gh hS (p.dh.own b hS).2 o) (p.dh.write hm hb N) rfl
/-- what the object keeps when one of its three is written -/
theorem NodeAt.at_i {x x' : Nd} (N : NodeAt CN A m x) (h : nodeF m x' = nodeF m x) {b : Addr} {o : HO} (hb : b ≠ m.na) : (upd A b o) m.na = some (.ins CN m.dx (nodeF m x')) := by rw [upd_ne (Ne.symm hb), h]; exact N.i
theorem NodeAt.ne (N : NodeAt CN A m (nd w.ns i)) : m.na ≠ m.md ∧ m.na ≠ m.bl ∧ m.md ≠ m.bl := by
  obtain ⟨kvs, e, _⟩ := N.m
  exact ⟨ins_ne_dk N.i e, ins_ne_lst N.i N.b, dk_ne_lst e N.b⟩
/-- node.up = .. -/
theorem e_up {D : Ends} {u : Option Nat} (p : DP K CD CN a0 H H1 a G Hc w) (C : DC K CD CN) (hm : a.L[i]? = some m) (go : GV te σ G Hc (.ref m.na)) (g : GD K t σ G Hc (upD u)) (k : ∀ G' H', DP K CD CN a0 H H1 a G' H' { w with ns := w.ns.set i { nd w.ns i with up := u } } → Same G G' → D.nx σ H') :
    sFld K te t "up" D σ Hc := g.to (.refl p.gh) fun v G2 H2 p2 dv => by
  have q2 := p.pub p2
  refine (go.mono p2).to (.refl q2.gh) fun G3 H3 p3 => ?_
  have q3 := q2.pub p3
  have N := q3.dh.nodes i m hm
  obtain ⟨n1, n2, n3⟩ := NodeAt.ne N
  have ev : v = upV u := by
    cases u
    · exact Dv.non_inv dv
    · exact Dv.int_inv dv
  subst ev
  refine ⟨m.na, CN, m.dx, _, rfl, N.i, C.cN, C.aN.2.2.2.1, by unfold nodeF; exact (by decide : 5 < 1000), ?_⟩
  refine k G3 _ (q3.write hm (.inl rfl) ⟨?_, ?_, ?_⟩) (p2.hg.trans p3.hg)
  · rw [upd_same]; rfl
  · obtain ⟨kvs, e, r⟩ := N.m
    exact ⟨kvs, by rw [upd_ne (Ne.symm n1)]; exact e, r⟩
  · rw [upd_ne (Ne.symm n2)]; exact N.b
/-- self._told.append(..) -/
theorem e_dtold {D : Ends} {d : PyData} (p : DP K CD CN a0 H H1 a G Hc w) (C : DC K CD CN) (h0 : σ[0]? = some (some (.ref a.x))) (g : GD K te σ G Hc d) (z : w.told.length < sizeLine) (k : ∀ G' H', DP K CD CN a0 H H1 a G' H' { w with told := w.told ++ [d] } → Same G G' → D.nx σ H') :
    tDrop (tBM K "list" rAppend (tFld K (tVar 0) "_told") (tCons te tNil)) D σ Hc := show tFld K (tVar 0) "_told" σ Hc (fun x H1 => tyV K "list" x H1 ∧ tCons te tNil σ H1 fun xs H2 => rAppend x xs H2 fun _ H3 => D.nx σ H3) from (p.dh.told C h0).to (.refl p.gh) fun G2 H2 p2 => by
  have q2 := p.pub p2
  obtain ⟨ys, e1, _⟩ := q2.dh.t
  refine ⟨.inl ⟨rfl, ys, SqL.of e1⟩, (g.mono p2).to (.refl q2.gh) fun v G3 H3 p3 dv => ?_⟩
  have q3 := q2.pub p3
  have h := q3.dh
  obtain ⟨xs, h1, r⟩ := h.t
  have hS : dS a a.tl := .inr (.inr (.inl rfl))
  refine ⟨a.tl, xs, v, rfl, rfl, h1, by rw [DvA.len r]; exact z, k G3 _ (q3.trans (.write q3.gh hS h.pt _) ?_ rfl) (p2.hg.trans p3.hg)⟩
  refine ⟨same_upd2 h.gh _ h.pt _, ?_, by rw [upd_ne h.kt]; exact h.k, ⟨_, upd_same, DvA.app r (.cons dv .nil)⟩, h.len, fun j n hn => ?_, h.inj, h.kt, h.kb, h.px, h.pk, h.pt, h.pn⟩
  · rw [upd_ne (ins_ne_lst h.o h1)]; exact h.o
  · have M := h.nodes j n hn
    obtain ⟨kvs, ek, rk⟩ := M.m
    refine ⟨by rw [upd_ne (ins_ne_lst M.i h1)]; exact M.i, ⟨kvs, by rw [upd_ne (dk_ne_lst ek h1)]; exact ek, rk⟩, ?_⟩
    rw [upd_ne (h.kb j n hn).2.1]; exact M.b
/-! ### calls of methods -/
theorem e_callX {α : Type} {n : Nat} {ar : α → List PyData} {Pre : Wm → α → Prop} {f : Wm → α → Res} {tA : TA} {mn : Str} {Q : VK} {E : XK} (x : α) (p : DP K CD CN a0 H H1 a G Hc w) (o : Ok w.ns) (h0 : σ[0]? = some (some (.ref a.x))) (ga : GA K tA σ G Hc (ar x)) (hn : (ar x).length = n) (hp : Pre w x) (hm : (docF a).lookup mn = none)
    (kq : ∀ w' d v a' G' H', f w x = .ret w' d → DP K CD CN a0 H H1 a' G' H' w' → Same G G' → a'.x = a.x → Dv K G' v d → Q v H') (ke : ∀ e dd a' G' H', f w x = .err e → DP K CD CN a0 H H1 a' G' H' w → Same G G' → a'.x = a.x → ExD e H' dd → E (clsOf ec e) (some dd) H') :
    tMeth CD mn (spX K CD CN ec n ar Pre f) [] E (tVar 0) tA σ Hc Q := ⟨.ref a.x, h0, a.x, a.dx, docF a, rfl, p.dh.o, hm, ga.to (.refl p.gh) fun vs G2 H2 p2 dv => by
  show spX K CD CN ec n ar Pre f (.ref a.x :: (vs ++ [])) H2 Q E
  rw [List.append_nil]
  refine ⟨a, vs, x, G2, w, rfl, (DvA.len dv).trans hn, p.dh.pub p2, o, dv, hp, fun w' d v a' G' H' hf hx st h dw => ?_, fun e dd a' G' H' hf hx st h hE => ke e dd a' G' H' hf ((p.pub p2).trans st h hx) (p2.hg.trans st.hg) hx hE⟩
  exact kq w' d v a' G' H' hf ((p.pub p2).trans st h hx) (p2.hg.trans st.hg) hx dw⟩
end
end LW
end
section
set_option Elab.async false
set_option linter.all false
set_option maxRecDepth 100000
set_option maxHeartbeats 4000000
namespace LW
open PySem PySem.Spec PyProof.Rows L2 DL LM
section
variable {P : Program} {W : World} {K : PySem.W.Frag} {mg : Str → Option Value} {base : Heap} {f : Addr} {fd : FuncData} {CD CN : Addr} {ec : EC} {a a0 : DA} {A A2 H H1 H2 G G2 Hc : Hp} {w : Wm} {σ : L2.St} {t te tn : TE} {n i : Nat} {m : NAd} {tA : TA}
theorem DH.downs {ds : List PyData} (h : DH K CD CN a H A w) : DH K CD CN a H A { w with downs := ds } := ⟨h.gh, h.o, h.k, h.t, h.len, h.nodes, h.inj, h.kt, h.kb, h.px, h.pk, h.pt, h.pn⟩
theorem DP.downs {ds : List PyData} (p : DP K CD CN a0 H H1 a G Hc w) : DP K CD CN a0 H H1 a G Hc { w with downs := ds } := ⟨p.st, p.dh.downs, p.ax⟩
theorem fn_X {x qual : Str} {st : Stmt} {N ps : List Str} {k n : Nat} {α : Type} {ar : α → List PyData} {Pre : Wm → α → Prop} {g : Wm → α → Res} (F : Fun K x qual st f fd) (S : FnScope N ps (defScope st)) (hn : n + 1 = ps.length)
    (hbody : ∀ (cdv : Value) (A : Around) (outer : List Env) (s : Shared) (H1 : Hp) (E : XK), Room k (A.deeper (envOfC qual (defScope st) s.heap.objs.size f cdv)) →
      ∃ t, PSs (cxOf (L2.CX P W) P W K mg base N qual (defScope st) f cdv A outer s H1 E) (defBody st) t ∧ ∀ a us x H w (Q : VK), us.length = n → DH K CD CN a H H1 w → Ok w.ns → DvA K H us (ar x) → Pre w x →
        (∀ w' d v a' G H2, g w x = .ret w' d → DP K CD CN a H H1 a' G H2 w' → Dv K G v d → Q v H2) → (∀ e dd a' G H2, g w x = .err e → DP K CD CN a H H1 a' G H2 w → ExD e H2 dd → E (clsOf ec e) (some dd) H2) → t { nx := fun _ H' => Q .non H', rt := Q } (start N (.ref a.x :: us)) H1) :
    FnOk P W K mg base (L2.CX P W) (k + 1) f fd ps (spX K CD CN ec n ar Pre g) := by
  refine F.okX S (fun vs H Q E h => ?_) (fun cdv A outer s H vs Q E hr h => ?_)
  · obtain ⟨_, us, _, _, _, rfl, hl, _⟩ := h
    rw [List.length_cons, hl, hn]
  obtain ⟨a, us, x, H0, w, rfl, hl, dh, o, dv, hp, kq, ke⟩ := h
  obtain ⟨t, h1, h2⟩ := hbody cdv A outer s H E hr
  exact ⟨t, h1, h2 a us x H0 w Q hl dh o dv hp (fun w' d v a' G H2 e p dv => kq w' d v a' G H2 e p.ax p.st p.dh dv) fun e dd a' G H2 hf p hx => ke e dd a' G H2 hf p.ax p.st p.dh hx⟩
theorem fnD_X {dvs : List V} {x qual : Str} {st : Stmt} {N ps : List Str} {k n : Nat} {α : Type} {ar : α → List PyData} {Pre : Wm → α → Prop} {g : Wm → α → Res} (F : FunD K x qual (defArgs st) (defBody st) (defScope st) dvs [] f fd) (S : FnScope N ps (defScope st)) (hn : n + 1 = ps.length)
    (hbody : ∀ (cdv : Value) (A : Around) (outer : List Env) (s : Shared) (H1 : Hp) (E : XK), Room k (A.deeper (envOfC qual (defScope st) s.heap.objs.size f cdv)) →
      ∃ t, PSs (cxOf (L2.CX P W) P W K mg base N qual (defScope st) f cdv A outer s H1 E) (defBody st) t ∧ ∀ a us x H w (Q : VK), us.length = n → DH K CD CN a H H1 w → Ok w.ns → DvA K H us (ar x) → Pre w x →
        (∀ w' d v a' G H2, g w x = .ret w' d → DP K CD CN a H H1 a' G H2 w' → Dv K G v d → Q v H2) → (∀ e dd a' G H2, g w x = .err e → DP K CD CN a H H1 a' G H2 w → ExD e H2 dd → E (clsOf ec e) (some dd) H2) → t { nx := fun _ H' => Q .non H', rt := Q } (start N (.ref a.x :: us)) H1) :
    FnOk P W K mg base (L2.CX P W) (k + 1) f fd ps (spX K CD CN ec n ar Pre g) := by
  refine FunD.ok F S (fun vs H Q E h => ?_) (fun cdv A outer s H vs Q E hr h => ?_)
  · obtain ⟨_, us, _, _, _, rfl, hl, _⟩ := h
    rw [List.length_cons, hl, hn]
  obtain ⟨a, us, x, H0, w, rfl, hl, dh, o, dv, hp, kq, ke⟩ := h
  obtain ⟨t, h1, h2⟩ := hbody cdv A outer s H E hr
  exact ⟨t, h1, h2 a us x H0 w Q hl dh o dv hp (fun w' d v a' G H2 e p dv => kq w' d v a' G H2 e p.ax p.st p.dh dv) fun e dd a' G H2 hf p hx => ke e dd a' G H2 hf p.ax p.st p.dh hx⟩
theorem fn_X0 {x qual : Str} {st : Stmt} {N ps : List Str} {k n : Nat} {α : Type} {ar : α → List PyData} {Pre : Wm → α → Prop} {g : Wm → α → Res} (F : Fun K x qual st f fd) (S : FnScope N ps (defScope st)) (hn : n + 1 = ps.length)
    (hbody : ∀ (cdv : Value) (A : Around) (outer : List Env) (s : Shared) (H1 : Hp) (E : XK), Room k (A.deeper (envOfC qual (defScope st) s.heap.objs.size f cdv)) →
      ∃ t, PSs (cxOf CX0 P W K mg base N qual (defScope st) f cdv A outer s H1 E).nox (defBody st) t ∧ ∀ a us x H w (Q : VK), us.length = n → DH K CD CN a H H1 w → Ok w.ns → DvA K H us (ar x) → Pre w x →
        (∀ w' d v a' G H2, g w x = .ret w' d → DP K CD CN a H H1 a' G H2 w' → Dv K G v d → Q v H2) → t { nx := fun _ H' => Q .non H', rt := Q } (start N (.ref a.x :: us)) H1) :
    FnOk P W K mg base CX0 (k + 1) f fd ps (spX K CD CN ec n ar Pre g) := by
  refine F.ok S (fun vs H Q E h => ?_) (fun cdv A outer s H vs Q E hr h => ?_)
  · obtain ⟨_, us, _, _, _, rfl, hl, _⟩ := h
    rw [List.length_cons, hl, hn]
  obtain ⟨a, us, x, H0, w, rfl, hl, dh, o, dv, hp, kq, ke⟩ := h
  obtain ⟨t, h1, h2⟩ := hbody cdv A outer s H E hr
  exact ⟨t, h1, h2 a us x H0 w Q hl dh o dv hp fun w' d v a' G H2 e p dv => kq w' d v a' G H2 e p.ax p.st p.dh dv⟩
/-! ### _tell -/
abbrev sDocument_tell : Stmt := inClass (topS 18) 16
theorem scDocument_tell : FnScope ["self", "record"] ["self", "record"] (defScope sDocument_tell) := ⟨rfl, rfl, rfl, by decide +kernel, rfl, by decide +kernel, by decide +kernel⟩
abbrev ArDT := List PyData × Nat
def arDT : ArDT → List PyData := fun x => [.tuple x.1]
def preDT (w : Wm) (x : ArDT) : Prop := x.1[1]? = some (ofN x.2) ∧ x.2 < w.ns.length ∧ w.told.length < 1000000
def tellD (w : Wm) (r : PyData) (n : Nat) : Wm := { w with told := w.told ++ [.tuple [r, aboveD w.ns n]] }
def fDT (w : Wm) (x : ArDT) : Res := .ret (tellD w (.tuple x.1) x.2) .none
theorem ok_dtell (D : DC K CD CN) (F : Fun K "_tell" "Document._tell" sDocument_tell f fd) (m_above : Met P W K mg base CX0 4 CD "above" (spN K CD CN 1 ar1 preN fun w n => aboveD w.ns n)) :
    FnOk P W K mg base CX0 5 f fd ["self", "record"] (spX K CD CN ec 1 arDT preDT fDT) := by
  refine fn_X0 F scDocument_tell rfl fun cdv A outer s H1 E hr => ⟨_, (pss_one (ps_expr (pe_bm PySem.F.plainAttrs_list PySem.F.slot_list_append PySem.F.type_list_append mt_append (pe_fld (pv 0) rfl) (pa_cons (RR.pe_tupF (pa_cons (pv 1) (pa_cons (pe_m m_above hr (by omega) (pv 0) (pa_cons (pe_ix ix_seq (pv 1) pe_int (fun _ _ => rfl)) pa_nil)) pa_nil))) pa_nil)))), fun a us x H w Q hl dh o dv hp kq => ?_⟩
  obtain ⟨rs, n⟩ := x
  obtain ⟨h1, hn, hr2⟩ := hp
  obtain ⟨v, rfl, d1⟩ := DvA.inv1 dv
  refine e_dtold (DP.refl dh) D rfl (gd_tup (ga_cons (gd_var rfl d1) (ga_cons (gd_callN (ar := ar1) n dh o rfl (ga_cons (gdo (gd_var rfl d1) gd_int (go_ixT (atI_1 h1))) ga_nil) rfl hn rfl) ga_nil))) (by rw [sizeLine_eq]; show w.told.length < _; omega) fun G2 H2 p2 s2 => ?_
  exact kq _ .none .non a G2 H2 rfl p2 .non
theorem out_above_D {ns : List Nd} {p n : Nat} (o : Ok ns) (hn : n < ns.length) (h : (nd ns n).up = some p) : aboveD (outN ns p n) p = aboveD ns p := by unfold aboveD; rw [out_above o hn h]
/-! ### remove -/
theorem erase_filter {l : List Nat} {n : Nat} (h : l.Nodup) : l.eraseIdx (l.idxOf n) = l.filter fun k => !decide (k = n) := by
  induction l with
  | nil => rfl
  | cons x l ih =>
    obtain ⟨h1, h2⟩ := List.nodup_cons.mp h
    by_cases e : x = n
    · subst e
      have z : (x :: l).idxOf x = 0 := by simp [List.idxOf_cons]
      rw [z]
      show l = _
      rw [List.filter_cons, if_neg (by simp)]
      refine (List.filter_eq_self.mpr fun y hy => ?_).symm
      have : y ≠ x := fun q => h1 (q ▸ hy)
      simp [this]
    · have z : (x :: l).idxOf n = l.idxOf n + 1 := by
        have z0 : (x == n) = false := by simpa using e
        rw [List.idxOf_cons, z0]
        rfl
      rw [z]
      show x :: l.eraseIdx _ = _
      rw [ih h2, List.filter_cons, if_pos (by simp [e])]
/-- node.below.remove(n) -/
theorem e_rem {D : Ends} {k : Nat} (p : DP K CD CN a0 H H1 a G Hc w) (C : DC K CD CN) (hm : a.L[i]? = some m) (go : GV te σ G Hc (.ref m.bl)) (gn : GD K tn σ G Hc (ofN k)) (hk : k ∈ (nd w.ns i).kids) (hd : (nd w.ns i).kids.Nodup)
    (q : ∀ G' H', DP K CD CN a0 H H1 a G' H' { w with ns := w.ns.set i { nd w.ns i with kids := (nd w.ns i).kids.filter fun x => !decide (x = k) } } → Same G G' → D.nx σ H') :
    tDrop (tBM K "list" rRemI te (tCons tn tNil)) D σ Hc := show te σ Hc (fun x H1 => tyV K "list" x H1 ∧ tCons tn tNil σ H1 fun xs H2 => rRemI x xs H2 fun _ H3 => D.nx σ H3) from go.to (.refl p.gh) fun G2 H2 p2 => by
  have q2 := p.pub p2
  refine ⟨.inl ⟨rfl, _, SqL.of (q2.dh.nodes i m hm).b⟩, (gn.mono p2).to (.refl q2.gh) fun v G3 H3 p3 dv => ?_⟩
  have q3 := q2.pub p3
  have ev := Dv.int_inv dv
  subst ev
  have N := q3.dh.nodes i m hm
  obtain ⟨n1, n2, n3⟩ := NodeAt.ne N
  have hix := idx_get hk
  refine ⟨m.bl, (nd w.ns i).kids.map fun (k : Nat) => (k : Int), (k : Int), (nd w.ns i).kids.idxOf k, rfl, rfl, N.b, by rw [List.getElem?_map, hix]; rfl, fun j hj z => ?_, ?_⟩
  · rw [List.getElem?_map] at z
    obtain ⟨y, hy, e⟩ := Option.map_eq_some_iff.mp z
    have e2 : y = k := by omega
    exact idx_first hj (by rw [hy, e2])
  · refine q G3 _ (q3.write hm (.inr (.inr rfl)) ⟨?_, ?_, ?_⟩) (p2.hg.trans p3.hg)
    · rw [upd_ne n2]; exact N.i
    · obtain ⟨kvs, e, r⟩ := N.m
      exact ⟨kvs, by rw [upd_ne n3]; exact e, r⟩
    · rw [upd_same]
      unfold kidV
      rw [← erase_filter hd, ← DT.map_erase]
abbrev sDocument_remove : Stmt := inClass (topS 18) 4
theorem scDocument_remove : FnScope ["self", "child", "node", "parent"] ["self", "child"] (defScope sDocument_remove) := ⟨rfl, rfl, rfl, by decide +kernel, rfl, by decide +kernel, by decide +kernel⟩
def preR (w : Wm) (n : Nat) : Prop := n < 100000 ∧ w.told.length < 1000000
def fRm (w : Wm) (n : Nat) : Res := if n < w.ns.length then (if (nd w.ns n).up = none then .err (.rf "no parent") else .ret (outA w n) .none) else .err (.no n)
theorem ok_remove (T : Bt mg) (D : DC K CD CN) (X : EF K ec) (F : Fun K "remove" "Document.remove" sDocument_remove f fd) (m__node : Met P W K mg base (L2.CX P W) 3 CD "_node" (spNode K CD CN ec)) (m__tell : Met P W K mg base CX0 5 CD "_tell" (spX K CD CN ec 1 arDT preDT fDT))
    (x_RefusedError : Ex P W K mg base 1 "RefusedError" ec.rf (spInit K ec.rf "reason")) : FnOk P W K mg base (L2.CX P W) 6 f fd ["self", "child"] (spX K CD CN ec 1 ar1 preR fRm) := by
  refine fn_X F scDocument_remove rfl fun cdv A outer s H1 E hr => ⟨_, (pss_cons (ps_set (i := 2) scDocument_remove.nd rfl (Or.inl rfl) (pe_mX m__node hr (by omega) (passes_call (takes_of rfl rfl rfl rfl) (fun _ _ _ _ h => h)) (pv 0) (pa_cons (pv 1) pa_nil)))
      (pss_cons (ps_set (i := 3) scDocument_remove.nd rfl (Or.inl rfl) (pe_fld (pv 2) rfl))
      (pss_cons (ps_if (pt_cmpR op_is1 (pv 3) pe_non (nomark _)) (pss_one (ps_raise rfl (takes_of rfl rfl rfl rfl) (pmk_e x_RefusedError hr (by omega) (pa_cons pe_str pa_nil)))) pss_nil)
      (pss_cons (ps_expr (pe_bm PySem.F.plainAttrs_list PySem.F.slot_list_remove PySem.F.type_list_remove mt_remove (pe_fld (pe_ix ix_seq (pe_fld (pv 0) rfl) (pv 3) (fun _ _ => rfl)) rfl) (pa_cons (pv 1) pa_nil)))
      (pss_cons (ps_fld (pv 2) pe_non rfl)
      (pss_one (ps_expr (pe_m m__tell hr (by omega) (pv 0) (pa_cons (RR.pe_tupF (pa_cons pe_str (pa_cons (pv 3) (pa_cons (pv 1) pa_nil)))) pa_nil))))))))), fun a us n H w Q hl dh o dv hp kq ke => ?_⟩
  obtain ⟨v, rfl, d1⟩ := DvA.inv1 dv
  obtain ⟨hn0, hrm⟩ := hp
  have p0 := DP.refl dh
  by_cases hn : n < w.ns.length
  rotate_left
  · refine ⟨.ref a.x, rfl, a.x, a.dx, docF a, rfl, dh.o, rfl, v, rfl, a, v, n, H, w, rfl, dh, by omega, d1, fun m hm => ?_, fun _ dd H2 s2 hx => ke (.no n) dd a H H2 ?_ (p0.test s2) hx⟩
    · exact absurd (by rw [← dh.len]; exact (List.getElem?_eq_some_iff.mp hm).1) hn
    · unfold fRm; rw [if_neg hn]
  have hf : fRm w n = if (nd w.ns n).up = none then .err (.rf "no parent") else .ret (outA w n) .none := by unfold fRm; rw [if_pos hn]
  rw [hf] at kq ke
  obtain ⟨m, hm, N⟩ := dh.nodeAt hn
  refine (gv_node (E := E) dh rfl hn o.len hm (gd_var rfl d1)) H H1 (.refl dh.gh) _ fun G2 H2 p2 => ?_
  have q2 := p0.pub p2
  have d12 := d1.to p2.hg
  refine s_set (K := K) ((q2.dh.nodes n m hm).upG D (gv_var rfl)) q2.gh fun v3 G3 H3 p3 d3 => ?_
  have q3 := q2.pub p3
  have d13 := d12.to p3.hg
  cases hup : (nd w.ns n).up with
  | none =>
    rw [hup] at d3
    rw [if_pos hup] at ke
    refine s_ifr (K := K) (b := true) (gt_test (gdo (K := K) (gd_var rfl d3) gd_non go_isN)) q3.gh (fun _ H4 s4 => ?_) fun z => nomatch z
    exact r_raise (v := .str "no parent") (H := H4) (.refl _) X.rf.1 X.rf.2 (.inl ⟨_, rfl, by decide⟩) (fun Q' q => q _ (.refl _)) fun dd H5 s5 hx => ke (.rf "no parent") dd a G3 H5 rfl ((q3.test s4).test s5) hx
  | some u =>
    rw [hup] at d3
    rw [if_neg (by rw [hup]; exact fun z => nomatch z)] at kq
    obtain ⟨hu, hk⟩ := o.upk n u hn hup
    have hne := o.ne_up hn hup
    obtain ⟨mu, hmu, Nu⟩ := q3.dh.nodeAt hu
    refine s_ifr (K := K) (b := false) (gt_test (gdo (K := K) (gd_var rfl d3) gd_non go_isN)) q3.gh (fun z => nomatch z) fun _ H4 s4 => ?_
    have q4 := q3.test s4
    refine e_rem (i := u) (m := mu) (k := n) q4 D hmu (NodeAt.fld (q4.dh.nodes u mu hmu) D (q4.dh.nodeG D rfl hmu (gd_var rfl d3)) D.aN.2.2.2.2 rfl) (gd_var rfl d13) hk (o.nod u hu) fun G5 H5 q5 s5 => ?_
    have e5 : nd (w.ns.set u { nd w.ns u with kids := (nd w.ns u).kids.filter fun x => !decide (x = n) }) n = nd w.ns n := nd_ne (Ne.symm hne)
    refine e_up (i := n) (m := m) (u := none) q5 D hm (gv_var rfl) gd_non fun G6 H6 q6 s6 => ?_
    have eo : outN w.ns u n = (w.ns.set u { nd w.ns u with kids := (nd w.ns u).kids.filter fun k => !decide (k = n) }).set n { nd w.ns n with up := none } := by
      unfold outN setUp
      rw [show nd (setKids w.ns u ((nd w.ns u).kids.filter fun k => !decide (k = n))) n = nd w.ns n from nd_ne (Ne.symm hne)]
      rfl
    have q6 : DP K CD CN a H H1 a G6 H6 { w with ns := outN w.ns u n } := by
      rw [eo]
      have z := q6
      simp only [e5] at z
      exact z
    have o6 := o.out hn hup
    have d36 := (d3.to s5).to s6
    have d16 := (d13.to s5).to s6
    refine e_callX (ec := ec) (ar := arDT) (Pre := preDT) (f := fDT) ([.str "out", ofN u, ofN n], u) q6 o6 rfl (ga_cons (gd_tup (ga_cons gd_str (ga_cons (gd_var rfl d36) (ga_cons (gd_var rfl d16) ga_nil)))) ga_nil) rfl ⟨rfl, by rw [len_outN]; exact hu, hrm⟩ rfl (fun w' d v7 a7 G7 H7 hf7 q7 s7 hx7 d7 => ?_) fun e dd a' G' H7 hf7 => nomatch hf7
    unfold fDT at hf7
    cases hf7
    refine kq (outA w n) .none .non a7 G7 H7 rfl ?_ .non
    have q8 := q7.downs (ds := w.downs ++ [belowO w.ns (some n)])
    unfold outA
    rw [hup]
    unfold tellD at q8
    simp only at q8
    rw [out_above_D o hn hup] at q8
    exact q8
end
end LW
end
section
set_option Elab.async false
set_option linter.all false
set_option maxRecDepth 100000
set_option maxHeartbeats 4000000
namespace LW
open PySem PySem.Spec PyProof.Rows L2 DL LM
section
variable {P : Program} {W : World} {K : PySem.W.Frag} {mg : Str → Option Value} {base : Heap} {f : Addr} {fd : FuncData} {CD CN : Addr} {ec : EC} {a a0 : DA} {A A2 H H1 H2 G G2 Hc : Hp} {w : Wm} {σ : L2.St} {t te tn : TE} {n i : Nat} {m : NAd} {tA : TA} {b : Addr} {l : List Nat}
/-! ### a private row of numbers -/
theorem kid_flat : (kidV l).all flatV = true := by
  unfold kidV
  rw [List.all_map, List.all_eq_true]
  intro _ _; rfl
theorem gt_ninP (K : PySem.W.Frag) (g : GV te σ H A (.ref b)) (e : A b = some (.lst (kidV l))) (gn : GD K tn σ H A (ofN n)) : GT (tTest (tOp (rIn K true) tn te)) σ H A (!decide (n ∈ l)) := fun H0 H1 p Q q => gn.to p fun v G H2 p2 dv => (g.mono p).to p2 fun G3 H3 p3 => by
  have ev := Dv.int_inv dv
  subst ev
  refine ⟨b, kidV l, rfl, .inl (SqL.of (p3.hh _ _ (p2.hh _ _ (p.hh _ _ e)))), rfl, kid_flat, _, rfl, ?_⟩
  rw [show inV (.int (n : Int)) (kidV l) = decide (n ∈ l) from inV_nats n l]
  exact q H3 (.idle p.gh (p2.hh.trans p3.hh))
theorem gd_idxP (g : GV te σ H A (.ref b)) (e : A b = some (.lst (kidV l))) (gn : GD K tn σ H A (ofN n)) (hn : n ∈ l) : GD K (tBM K "list" (rIndex K) te (tCons tn tNil)) σ H A (ofN (l.idxOf n)) := fun H0 H1 p Q q => g.to p fun G H2 p2 => by
  refine ⟨.inl ⟨rfl, _, SqL.of (p2.hh _ _ (p.hh _ _ e))⟩, gn.to (p.trans p2) fun u G3 H3 p3 du => ?_⟩
  have eu := Dv.int_inv du
  subst eu
  refine ⟨b, kidV l, .int (n : Int), l.idxOf n, .int (n : Int), rfl, rfl, SqL.of (p3.hh _ _ (p2.hh _ _ (p.hh _ _ e))), rfl, kid_flat, ?_, ?_, fun j z hj hz => ?_, q _ G3 H3 (p2.trans p3) (.int _)⟩
  · unfold kidV
    rw [List.getElem?_map, List.getElem?_map, idx_get hn]; rfl
  · show ((n : Int) == (n : Int)) = true
    exact beq_self_eq_true _
  · unfold kidV at hz
    rw [List.getElem?_map, List.getElem?_map] at hz
    obtain ⟨y, hy, rfl⟩ := Option.map_eq_some_iff.mp hz
    obtain ⟨x, hx, rfl⟩ := Option.map_eq_some_iff.mp hy
    have hne : x ≠ n := fun y => idx_first hj (by rw [hx, y])
    show ((x : Int) == (n : Int)) = false
    rw [beq_eq_false_iff_ne]
    exact fun y => hne (by omega)
theorem gd_lenP (g : GV te σ H A (.ref b)) (e : A b = some (.lst (kidV l))) : GD K (tCB (DL.rLen K) (tCons te tNil)) σ H A (ofN l.length) := fun H0 H1 p Q q => g.to p fun G H2 p2 => by
  refine ⟨.ref b, (kidV l).length, rfl, .inl ⟨_, SqL.of (p2.hh _ _ (p.hh _ _ e)), rfl⟩, ?_⟩
  unfold kidV
  rw [List.length_map, List.length_map]
  exact q _ G H2 p2 (.int _)
theorem kid_dv : DvA K H (kidV l) (l.map ofN) := by
  rw [show l.map ofN = (l.map fun (k : Nat) => (k : Int)).map PyData.int by rw [List.map_map]; rfl]
  exact DvA.ints
theorem kid_cut {lo hi : Option Int} : DvA K H (cutV (kidV l) lo hi) (DL.cutD (l.map ofN) lo hi) := DvA.cut kid_dv lo hi
theorem gd_slP {tl th : TO} {lo hi : Option Int} (g : GV te σ H A (.ref b)) (e : A b = some (.lst (kidV l))) (gl : GP tl σ H A lo) (gh : GP th σ H A hi) : GD K (tSl (rSlD K) te tl th) σ H A (.list (DL.cutD (l.map ofN) lo hi)) := fun H0 H1 p Q q =>
  g.to p fun G H2 p2 => gl G H2 (p.trans p2) _ fun H3 p3 => gh G H3 (p.trans (p2.trans p3)) _ fun H4 p4 => by
    have pp := p2.trans (p3.trans p4)
    refine .inl ⟨b, kidV l, rfl, .inl (pp.hh _ _ (p.hh _ _ e)), fun c hc => q (.ref c) _ _ (pp.new hc _) (.lst (.inl upd_same) kid_cut)⟩
def optL (b : Option Nat) : List Nat := match b with
  | none => []
  | some x => [x]
theorem eqv_opt (x y : Option Nat) : PyData.eqv (natsD (optL x)) (natsD (optL y)) = decide (x = y) := by
  cases x <;> cases y
  · rfl
  · rfl
  · rfl
  · rename_i u v
    show PyData.eqv (.list [.int (u : Int)]) (.list [.int (v : Int)]) = _
    simp only [PyData.eqv, PyData.eqvAll, Bool.and_true]
    rw [Bool.eq_iff_iff]
    simp [nat_int]
theorem shaped_opt (x : Option Nat) : SeqAt.shaped (natsD (optL x)) = true := by cases x <;> rfl
theorem go_eqOpt {x y : Option Nat} : GO K (rEqA K) (natsD (optL x)) (natsD (optL y)) (.bool (decide (x = y))) := by
  have h := go_eqD (K := K) (shaped_opt x) (shaped_opt y)
  rw [eqv_opt] at h
  exact h
theorem take1 {l : List Nat} {j : Nat} : (l.drop j).take 1 = optL l[j]? := by
  cases h : l[j]? with
  | none =>
    have := List.getElem?_eq_none_iff.mp h
    rw [List.drop_eq_nil_of_le this]; rfl
  | some x =>
    obtain ⟨hj, e⟩ := List.getElem?_eq_some_iff.mp h
    rw [List.drop_eq_getElem_cons hj, e]; rfl
theorem Ok.child (o : Ok w.ns) {p n : Nat} (hp : p < w.ns.length) (hn : n < w.ns.length) : n ∈ (nd w.ns p).kids ↔ (nd w.ns n).up = some p := ⟨fun h => (o.kup p n hp h).2, fun h => (o.upk n p hn h).2⟩
abbrev sDocument_is_there : Stmt := inClass (topS 18) 18
theorem scDocument_is_there : FnScope ["self", "parent", "child", "before", "siblings", "behind"] ["self", "parent", "child", "before"] (defScope sDocument_is_there) := ⟨rfl, rfl, rfl, by decide +kernel, rfl, by decide +kernel, by decide +kernel⟩
def prePI (w : Wm) (x : ArP) : Prop := x.1 < w.ns.length ∧ x.2.1 < w.ns.length
theorem ok_isthere (T : Bt mg) (D : DC K CD CN) (F : Fun K "_is_there" "Document._is_there" sDocument_is_there f fd) : FnOk P W K mg base CX0 1 f fd ["self", "parent", "child", "before"] (spN K CD CN 3 arP prePI fun w x => .bool (isAt w.ns x.1 x.2.1 x.2.2)) := by
  refine fn_N F scDocument_is_there rfl fun cdv A outer s H1 E hr => ⟨_, (pss_cons (ps_set (i := 4) scDocument_is_there.nd rfl (Or.inl rfl) (pe_fld (pe_ix ix_seq (pe_fld (pv 0) rfl) (pv 1) (fun _ _ => rfl)) rfl))
      (pss_cons (ps_if (pt_cmpR op_notIn_seq (pv 2) (pv 4) (by rfl)) (pss_one (ps_ret pe_bl)) pss_nil)
      (pss_cons (ps_set (i := 5) scDocument_is_there.nd rfl (Or.inl rfl) (pe_slice sl_D (pv 4) (po_some (pe_op op_addA (pe_bm PySem.F.plainAttrs_list PySem.F.slot_list_index PySem.F.type_list_index mt_index (pv 4) (pa_cons (pv 2) pa_nil)) pe_int)) po_none))
      (pss_one (ps_ret (pe_cmpR (op_eqA hr.units) (pe_slice sl_D (pv 5) po_none (po_some pe_int)) (pe_ifExp (pt_cmpR op_is1 (pv 3) pe_non (nomark _)) (pe_lst pa_nil) (pe_lst (pa_cons (pv 3) pa_nil))) (nomark _))))))), fun a us x H A w hl dh o dv hp => ?_⟩
  obtain ⟨p, n, b⟩ := x
  obtain ⟨hp, hn⟩ := hp
  obtain ⟨v, u, z, rfl, d1, d2, d3⟩ := DvA.inv3 dv
  simp only at d1 d2 d3 hp hn
  obtain ⟨m, hm, N⟩ := dh.nodeAt hp
  refine gb_setV (NodeAt.fld N D (dh.nodeG D rfl hm (gd_var rfl d1)) D.aN.2.2.2.2 rfl) fun G2 H2 p2 => ?_
  have N2 := (dh.pub p2).nodes p m hm
  refine gb_if (gt_ninP K (gv_var rfl) N2.b (gd_var rfl (d2.to p2.hg))) (fun c => gb_ret gd_bl ?_) fun c => ?_
  · have c2 : n ∉ (nd w.ns p).kids := by simpa using c
    have c3 : (nd w.ns n).up ≠ some p := fun z => c2 ((Ok.child o hp hn).mpr z)
    unfold isAt
    rw [decide_eq_false c3]; rfl
  · have c2 : n ∈ (nd w.ns p).kids := by simpa using c
    have c3 := (Ok.child o hp hn).mp c2
    refine gb_set (gd_slP (gv_var rfl) N2.b (gp_some (gdo (gd_idxP (gv_var rfl) N2.b (gd_var rfl (d2.to p2.hg)) c2) (gd_int (i := 1)) (go_addN (b := 1)))) gp_none) fun v5 G5 H5 p5 d5 => ?_
    have hix := List.idxOf_lt_length_of_mem c2
    rw [cut_from (by omega)] at d5
    have g1 : GD K (tSl (rSlD K) (tVar 5) tNoPart (tPart (tC (.int 1)))) [some (.ref a.x), some v, some u, some z, some (.ref m.bl), some v5] G5 H5 (natsD (optL (nextA w.ns p n))) := by
      have g := gd_slL (K := K) (A := H5) (σ := [some (.ref a.x), some v, some u, some z, some (.ref m.bl), some v5]) (gd_var (i := 5) rfl d5) gp_none (gp_some (K := K) (gd_int (i := 1)))
      have hz : DL.cutD (((nd w.ns p).kids.drop ((nd w.ns p).kids.idxOf n + 1)).map ofN) none (some 1) = (optL (nextA w.ns p n)).map ofN := by
        unfold nextA
        rw [← take1]
        unfold DL.cutD
        rw [HT.sIx_none, List.drop_zero, Nat.sub_zero, ← List.map_take]
        have e1 : HT.sIx (List.map ofN ((nd w.ns p).kids.drop ((nd w.ns p).kids.idxOf n + 1))).length (List.map ofN ((nd w.ns p).kids.drop ((nd w.ns p).kids.idxOf n + 1))).length (some 1) = min 1 (List.map ofN ((nd w.ns p).kids.drop ((nd w.ns p).kids.idxOf n + 1))).length := HT.sIx_nat _ _ 1
        rw [e1, List.length_map]
        congr 1
        by_cases hl0 : ((nd w.ns p).kids.drop ((nd w.ns p).kids.idxOf n + 1)).length = 0
        · rw [List.length_eq_zero_iff.mp hl0]; rfl
        · rw [Nat.min_eq_left (by omega)]
      rw [hz] at g
      exact g
    have g2 : GD K (tIf (tTest (tOp rIs1 (tVar 3) (tC .non))) (tLst tNil) (tLst (tCons (tVar 3) tNil))) [some (.ref a.x), some v, some u, some z, some (.ref m.bl), some v5] G5 H5 (natsD (optL b)) := by
      have d35 := (d3.to p2.hg).to p5.hg
      cases b with
      | none => exact gd_if (b := true) (gt_test (gdo (K := K) (gd_var rfl d35) gd_non go_isN)) (fun _ => gd_lst ga_nil) fun z => nomatch z
      | some b => exact gd_if (b := false) (gt_test (gdo (K := K) (gd_var rfl d35) gd_non go_isN)) (fun z => nomatch z) fun _ => gd_lst (ga_cons (gd_var rfl d35) ga_nil) (by show 1 ≤ 1000; decide)
    refine gb_ret (gdo g1 g2 go_eqOpt) ?_
    unfold isAt
    rw [decide_eq_true c3, Bool.true_and]
/-! ### _check_insert -/
theorem e_node {Q : VK} {E : XK} {k : Nat} (p : DP K CD CN a0 H H1 a G Hc w) (h0 : σ[0]? = some (some (.ref a.x))) (hk : k < 1000000) (gn : GD K tn σ G Hc (ofN k)) (kq : ∀ m, k < w.ns.length → a.L[k]? = some m → ∀ G' H', DP K CD CN a0 H H1 a G' H' w → Pub G Hc G' H' → Q (.ref m.na) H')
    (ke : ¬ k < w.ns.length → ∀ dd H', Same Hc H' → ExD (.no k) H' dd → E (.ref ec.no) (some dd) H') : tMeth CD "_node" (spNode K CD CN ec) [] E (tVar 0) (tCons tn tNil) σ Hc Q :=
  ⟨.ref a.x, h0, a.x, a.dx, docF a, rfl, p.dh.o, rfl, gn.to (.refl p.gh) fun v G2 H2 p2 dv => ⟨a, v, k, G2, w, rfl, p.dh.pub p2, hk, dv, fun m hm G3 H3 p3 => kq m (by rw [← p.dh.len]; exact (List.getElem?_eq_some_iff.mp hm).1) hm G3 H3 (p.pub (p2.trans p3)) (p2.trans p3), fun hn dd H' s hx => ke hn dd H' (p2.hh.trans s) hx⟩⟩
abbrev sDocument_check_insert : Stmt := inClass (topS 18) 17
theorem scDocument_check_insert : FnScope ["self", "parent", "child", "before", "place"] ["self", "parent", "child", "before"] (defScope sDocument_check_insert) := ⟨rfl, rfl, rfl, by decide +kernel, rfl, by decide +kernel, by decide +kernel⟩
def fChk (w : Wm) (x : ArP) : Res := match miss w.ns.length [some x.1, some x.2.1, x.2.2] with
  | some m => .err (.no m)
  | none => if (nd w.ns x.1).txt then .err (.rf "not an element")
    else if x.2.1 = 0 then .err (.rf "top")
    else if x.2.1 ∈ above w.ns x.1 then .err (.rf "inside itself")
    else if badB w.ns x.1 x.2.1 x.2.2 then .err (.rf "not a child")
    else .ret w .none
def preCk (w : Wm) (x : ArP) : Prop := x.1 < 100000 ∧ x.2.1 < 100000 ∧ ∀ b, x.2.2 = some b → b < 100000
theorem miss_a {N p : Nat} {r : List (Option Nat)} (h : ¬ p < N) : miss N (some p :: r) = some p := by
  show (if p < N then _ else _) = _
  rw [if_neg h]
theorem miss_b {N p : Nat} {r : List (Option Nat)} (h : p < N) : miss N (some p :: r) = miss N r := by
  show (if p < N then _ else _) = _
  rw [if_pos h]
theorem ok_check (T : Bt mg) (D : DC K CD CN) (X : EF K ec) (F : Fun K "_check_insert" "Document._check_insert" sDocument_check_insert f fd) (m__node : Met P W K mg base (L2.CX P W) 3 CD "_node" (spNode K CD CN ec)) (m_above : Met P W K mg base CX0 4 CD "above" (spN K CD CN 1 ar1 preN fun w n => aboveD w.ns n))
    (x_RefusedError : Ex P W K mg base 1 "RefusedError" ec.rf (spInit K ec.rf "reason")) : FnOk P W K mg base (L2.CX P W) 6 f fd ["self", "parent", "child", "before"] (spX K CD CN ec 3 arP preCk fChk) := by
  refine fn_X F scDocument_check_insert rfl fun cdv A outer s H1 E hr => ⟨_, (pss_cons (ps_set (i := 4) scDocument_check_insert.nd rfl (Or.inl rfl) (pe_mX m__node hr (by omega) (passes_call (takes_of rfl rfl rfl rfl) (fun _ _ _ _ h => h)) (pv 0) (pa_cons (pv 1) pa_nil)))
      (pss_cons (ps_expr (pe_mX m__node hr (by omega) (passes_call (takes_of rfl rfl rfl rfl) (fun _ _ _ _ h => h)) (pv 0) (pa_cons (pv 2) pa_nil)))
      (pss_cons (ps_if (pt_cmpR op_isnot1 (pv 3) pe_non (nomark _)) (pss_one (ps_expr (pe_mX m__node hr (by omega) (passes_call (takes_of rfl rfl rfl rfl) (fun _ _ _ _ h => h)) (pv 0) (pa_cons (pv 3) pa_nil)))) pss_nil)
      (pss_cons (ps_if (pt_cmpR op_is1 (pe_fld (pv 4) rfl) pe_non (nomark _)) (pss_one (ps_raise rfl (takes_of rfl rfl rfl rfl) (pmk_e x_RefusedError hr (by omega) (pa_cons pe_str pa_nil)))) pss_nil)
      (pss_cons (ps_if (pt_cmpR (op_eqA hr.units) (pv 2) pe_int (nomark _)) (pss_one (ps_raise rfl (takes_of rfl rfl rfl rfl) (pmk_e x_RefusedError hr (by omega) (pa_cons pe_str pa_nil)))) pss_nil)
      (pss_cons (ps_if (pt_cmpR op_in_seq (pv 2) (pe_m m_above hr (by omega) (pv 0) (pa_cons (pv 1) pa_nil)) (by rfl)) (pss_one (ps_raise rfl (takes_of rfl rfl rfl rfl) (pmk_e x_RefusedError hr (by omega) (pa_cons pe_str pa_nil)))) pss_nil)
      (pss_one (ps_if (PW.pt (pw_and (pt_cmpR op_isnot1 (pv 3) pe_non (nomark _)) (pw_and1 (PW.pt (pw_or (pt_cmpR (op_eqA hr.units) (pv 3) (pv 2) (nomark _)) (pw_or1 (pt_cmpR op_notIn_seq (pv 3) (pe_fld (pv 4) rfl) (by rfl)))))))) (pss_one (ps_raise rfl (takes_of rfl rfl rfl rfl) (pmk_e x_RefusedError hr (by omega) (pa_cons pe_str pa_nil)))) pss_nil)))))))), fun a us x H w Q hl dh o dv hp kq ke => ?_⟩
  obtain ⟨p, n, b⟩ := x
  obtain ⟨hp1, hp2, hp3⟩ := hp
  obtain ⟨v, u, z, rfl, d1, d2, d3⟩ := DvA.inv3 dv
  simp only at d1 d2 d3 hp1 hp2 hp3
  have p0 := DP.refl dh
  have hlen := o.len
  unfold fChk at kq ke
  simp only at kq ke
  refine e_node (ec := ec) p0 rfl (by omega) (gd_var rfl d1) (fun m hp hm G2 H2 q2 pu2 => ?_) fun hn dd H' s hx => ke (.no p) dd a H H' (by rw [miss_a hn]) (p0.test s) hx
  rw [miss_b hp] at kq ke
  have d12 := d1.to pu2.hg
  have d22 := d2.to pu2.hg
  have d32 := d3.to pu2.hg
  refine e_node (ec := ec) q2 rfl (by omega) (gd_var rfl d22) (fun m3 hn _ G3 H3 q3 pu3 => ?_) fun hn dd H' s hx => ke (.no n) dd a G2 H' (by rw [miss_a hn]) (q2.test s) hx
  rw [miss_b hn] at kq ke
  have d13 := d12.to pu3.hg
  have d23 := d22.to pu3.hg
  have d33 := d32.to pu3.hg
  have s3 : Same H1 H3 := pu2.hh.trans pu3.hh
  show tSeq (tIfS (tTest (tOp rIsNot1 (tVar 3) (tC .non))) _ tNext) _ _ _ _
  refine s_mid (fun σ' H' => ∃ G', σ' = [some (.ref a.x), some v, some u, some z, some (.ref m.na)] ∧ DP K CD CN a H H1 a G' H' w ∧ Pub G3 H3 G' H' ∧ miss w.ns.length [b] = none) ?_ fun rest => ?_
  · rintro σ' H4 ⟨G4, rfl, q4, pu4, hmb⟩
    rw [hmb] at kq ke
    simp only at kq ke
    have d14 := d13.to pu4.hg
    have d24 := d23.to pu4.hg
    have d34 := d33.to pu4.hg
    have s4 : Same H1 H4 := s3.trans pu4.hh
    have rf : ∀ {Hx : Hp} (s : Str), s.length ≤ 1000 → Same H4 Hx → (if (nd w.ns p).txt = true then Res.err (.rf "not an element") else if n = 0 then .err (.rf "top") else if n ∈ above w.ns p then .err (.rf "inside itself") else if badB w.ns p n b = true then .err (.rf "not a child") else .ret w .none) = .err (.rf s) → tMkO ec.rf (spInit K ec.rf "reason") [] (tCons (tC (.str s)) tNil) [some (.ref a.x), some v, some u, some z, some (.ref m.na)] Hx E := fun s hs sx hf =>
      r_raise (v := .str s) (H := _) (.refl _) X.rf.1 X.rf.2 (.inl ⟨_, rfl, hs⟩) (fun Q' q => q _ (.refl _)) fun dd H5 s5 hx => ke (.rf s) dd a G4 H5 hf ((q4.test sx).test s5) hx
    have N4 := q4.dh.nodes p m hm
    refine s_ifr (K := K) (gt_isText K (NodeAt.fld N4 D (gv_var rfl) D.aN.1 rfl)) q4.gh (fun c H5 s5 => rf "not an element" (by decide) s5 (by rw [if_pos c])) fun c H5 s5 => ?_
    have ct : ¬ (nd w.ns p).txt = true := by rw [c]; exact Bool.false_ne_true
    have q5 := q4.test s5
    refine s_ifr (K := K) (gt_test (gdo (K := K) (gd_var rfl d24) (gd_int (i := 0)) (go_eqN (b := 0)))) q5.gh (fun c H6 s6 => rf "top" (by decide) (s5.trans s6) (by rw [if_neg ct, if_pos (of_decide_eq_true c)])) fun c H6 s6 => ?_
    have c0 := of_decide_eq_false c
    have q6 := q5.test s6
    refine s_ifr (K := K) (gt_test (gdo (K := K) (gd_var rfl d24) (gd_callN (ar := ar1) p q6.dh o rfl (ga_cons (gd_var rfl d14) ga_nil) rfl hp rfl) go_inN)) q6.gh (fun c H7 s7 => rf "inside itself" (by decide) ((s5.trans s6).trans s7) (by rw [if_neg ct, if_neg c0, if_pos (of_decide_eq_true c)])) fun c H7 s7 => ?_
    have ca := of_decide_eq_false c
    have q7 := q6.test s7
    have N7 := q7.dh.nodes p m hm
    refine s_if (b := badB w.ns p n b) (G := G4) ?_ q7.gh (fun c H8 s8 => rf "not a child" (by decide) (((s5.trans s6).trans s7).trans s8) (by rw [if_neg ct, if_neg c0, if_neg ca, if_pos c])) fun c H8 s8 => ?_
    · cases b with
      | none => exact gt_and (b := false) (c := true) (gt_test (gdo (K := K) (gd_var rfl d34) gd_non go_notN)) fun z => nomatch z
      | some b =>
        refine gt_and (b := true) (gt_test (gdo (K := K) (gd_var rfl d34) gd_non go_notN)) fun _ => ?_
        have hbl := miss1 hmb
        have g := gt_or (gt_test (gdo (K := K) (A := H7) (σ := [some (.ref a.x), some v, some u, some z, some (.ref m.na)]) (gd_var (i := 3) rfl d34) (gd_var (i := 2) rfl d24) go_eqN)) fun _ => gt_ninP K (NodeAt.fld N7 D (gv_var (i := 4) rfl) D.aN.2.2.2.2 rfl) N7.b (gd_var (i := 3) rfl d34)
        have e : (!decide (b ∈ (nd w.ns p).kids)) = !decide ((nd w.ns b).up = some p) := by
          rw [decide_eq_decide.mpr (Ok.child o hp hbl)]
        rw [e] at g
        exact g
    · refine kq w .none .non a G4 H8 ?_ (q7.test s8) .non
      rw [if_neg ct, if_neg c0, if_neg ca, if_neg (by rw [c]; exact Bool.false_ne_true)]
  · cases b with
    | none =>
      refine s_if (b := false) (gt_test (gdo (K := K) (gd_var rfl d33) gd_non go_notN)) q3.gh (fun z => nomatch z) fun _ H4 s4 => ?_
      exact rest _ _ ⟨G3, rfl, q3.test s4, .idle q3.gh s4, rfl⟩
    | some b =>
      refine s_if (b := true) (gt_test (gdo (K := K) (gd_var rfl d33) gd_non go_notN)) q3.gh (fun _ H4 s4 => ?_) fun z => nomatch z
      have q4 := q3.test s4
      have hb := hp3 b rfl
      refine e_node (ec := ec) q4 rfl (by omega) (gd_var rfl d33) (fun m5 hb _ G5 H5 q5 pu5 => ?_) fun hn dd H' s hx => ke (.no b) dd a G3 H' (by rw [miss_a hn]) (q4.test s) hx
      exact rest _ _ ⟨G5, rfl, q5, (Pub.idle q3.gh s4).trans pu5, by rw [miss_b hb]; rfl⟩
end
end LW
end
section
set_option Elab.async false
set_option linter.all false
set_option maxRecDepth 100000
set_option maxHeartbeats 4000000
namespace LW
open PySem PySem.Spec PyProof.Rows L2 DL LM
section
variable {P : Program} {W : World} {K : PySem.W.Frag} {mg : Str → Option Value} {base : Heap} {f : Addr} {fd : FuncData} {CD CN : Addr} {ec : EC} {a a0 : DA} {A A2 H H1 H2 G G2 Hc : Hp} {w : Wm} {σ : L2.St} {t te tn tx : TE} {n i : Nat} {m : NAd} {tA : TA} {b : Addr} {l : List Nat}
theorem s_setV {i : Nat} {v : V} {tr : TS} {D : Ends} (g : GV t σ G Hc v) (s : Same G Hc) (k : ∀ G' H', Pub G Hc G' H' → tr D (σ.set i (some v)) H') : tSeq (tAsg t (gName i)) tr D σ Hc := g G Hc (.refl s) _ k
def rIns : V → List V → Hp → VK → Prop := fun x vs H Q => ∃ (l : Addr) (xs : List V) (i : Int) (y : V), x = .ref l ∧ vs = [.int i, y] ∧ H l = some (.lst xs) ∧ xs.length < sizeLine ∧ 0 ≤ i ∧ i < 2 ^ 63 ∧ Q .non (upd H l (.lst (xs.take i.toNat ++ [y] ++ xs.drop i.toNat)))
/-- row.insert(at, n) -/
theorem e_insert {D : Ends} {k j : Nat} (p : DP K CD CN a0 H H1 a G Hc w) (o : Ok w.ns) (hm : a.L[i]? = some m) (go : GV te σ G Hc (.ref m.bl)) (gj : GD K tx σ G Hc (ofN j)) (gn : GD K tn σ G Hc (ofN k)) (hj : j ≤ (nd w.ns i).kids.length)
    (q : ∀ G' H', DP K CD CN a0 H H1 a G' H' { w with ns := w.ns.set i { nd w.ns i with kids := insAt (nd w.ns i).kids j k } } → Same G G' → D.nx σ H') :
    tDrop (tBM K "list" rIns te (tCons tx (tCons tn tNil))) D σ Hc := show te σ Hc (fun x H1 => tyV K "list" x H1 ∧ tCons tx (tCons tn tNil) σ H1 fun xs H2 => rIns x xs H2 fun _ H3 => D.nx σ H3) from go.to (.refl p.gh) fun G2 H2 p2 => by
  have q2 := p.pub p2
  have hi : i < w.ns.length := by rw [← p.dh.len]; exact (List.getElem?_eq_some_iff.mp hm).1
  have hkl := o.kidLe hi
  have hlen := o.len
  refine ⟨.inl ⟨rfl, _, SqL.of (q2.dh.nodes i m hm).b⟩, (gj.mono p2).to (.refl q2.gh) fun vj G3 H3 p3 dj => ?_⟩
  have q3 := q2.pub p3
  have ej := Dv.int_inv dj
  subst ej
  refine (gn.mono (p2.trans p3)).to (.refl q3.gh) fun v G4 H4 p4 dv => ?_
  have q4 := q3.pub p4
  have ev := Dv.int_inv dv
  subst ev
  have N := q4.dh.nodes i m hm
  obtain ⟨n1, n2, n3⟩ := NodeAt.ne N
  have hl : (kidV (nd w.ns i).kids).length = (nd w.ns i).kids.length := by unfold kidV; rw [List.length_map, List.length_map]
  refine ⟨m.bl, kidV (nd w.ns i).kids, (j : Int), .int (k : Int), rfl, rfl, N.b, by rw [hl, sizeLine_eq]; omega, by omega, by omega, ?_⟩
  refine q G4 _ (q4.write hm (.inr (.inr rfl)) ⟨?_, ?_, ?_⟩) (p2.hg.trans (p3.hg.trans p4.hg))
  · rw [upd_ne n2]; exact N.i
  · obtain ⟨kvs, e, r⟩ := N.m
    exact ⟨kvs, by rw [upd_ne n3]; exact e, r⟩
  · rw [upd_same, Int.toNat_natCast]
    unfold kidV insAt
    simp [List.map_take, List.map_drop]
abbrev sDocument_insert : Stmt := inClass (topS 18) 3
theorem scDocument_insert : FnScope ["self", "parent", "child", "before", "siblings", "at"] ["self", "parent", "child", "before"] (defScope sDocument_insert) := ⟨rfl, rfl, rfl, by decide +kernel, rfl, by decide +kernel, by decide +kernel⟩
def fIns (w : Wm) (x : ArP) : Res := match fChk w x with
  | .err e => .err e
  | .ret _ _ => if isAt w.ns x.1 x.2.1 x.2.2 then .ret w .none else .ret (insA w x.1 x.2.1 x.2.2) .none
def preIns (w : Wm) (x : ArP) : Prop := preCk w x ∧ w.told.length + 2 < 1000000
theorem chk_ret {w w' : Wm} {x : ArP} {d : PyData} (h : fChk w x = .ret w' d) : miss w.ns.length [some x.1, some x.2.1, x.2.2] = none ∧ (nd w.ns x.1).txt = false ∧ x.2.1 ≠ 0 ∧ x.2.1 ∉ above w.ns x.1 ∧ badB w.ns x.1 x.2.1 x.2.2 = false ∧ w' = w := by
  unfold fChk at h
  split at h
  · cases h
  · rename_i hm
    split at h
    · cases h
    split at h
    · cases h
    split at h
    · cases h
    split at h
    · cases h
    · rename_i h1 h2 h3 h4
      cases h
      exact ⟨hm, by simpa using h1, h2, h3, by simpa using h4, rfl⟩
theorem ok_insert (T : Bt mg) (D : DC K CD CN) (X : EF K ec) (F : FunD K "insert" "Document.insert" (defArgs sDocument_insert) (defBody sDocument_insert) (defScope sDocument_insert) [.non] [] f fd) (m__check_insert : Met P W K mg base (L2.CX P W) 6 CD "_check_insert" (spX K CD CN ec 3 arP preCk fChk)) (m__is_there : Met P W K mg base CX0 1 CD "_is_there" (spN K CD CN 3 arP prePI fun w x => .bool (isAt w.ns x.1 x.2.1 x.2.2)))
    (m_remove : Met P W K mg base (L2.CX P W) 6 CD "remove" (spX K CD CN ec 1 ar1 preR fRm)) (m__tell : Met P W K mg base CX0 5 CD "_tell" (spX K CD CN ec 1 arDT preDT fDT)) (m_shape : Met P W K mg base CX0 64 CD "shape" (spN K CD CN 1 ar1 (preShape 60) fun w n => shapeF 60 w.ns n)) :
    FnOk P W K mg base (L2.CX P W) 65 f fd ["self", "parent", "child", "before"] (spX K CD CN ec 3 arP preIns fIns) := by
  refine fnD_X F scDocument_insert rfl fun cdv A outer s H1 E hr => ⟨_, (pss_cons (ps_expr (pe_mX m__check_insert hr (by omega) (passes_call (takes_of rfl rfl rfl rfl) (fun _ _ _ _ h => h)) (pv 0) (pa_cons (pv 1) (pa_cons (pv 2) (pa_cons (pv 3) pa_nil)))))
      (pss_cons (ps_if (pt_tr (pe_m m__is_there hr (by omega) (pv 0) (pa_cons (pv 1) (pa_cons (pv 2) (pa_cons (pv 3) pa_nil))))) (pss_one ps_retN) pss_nil)
      (pss_cons (ps_if (pt_cmpR op_isnot1 (pe_fld (pe_ix ix_seq (pe_fld (pv 0) rfl) (pv 2) (fun _ _ => rfl)) rfl) pe_non (nomark _)) (pss_one (ps_expr (pe_mX m_remove hr (by omega) (passes_call (takes_of rfl rfl rfl rfl) (fun _ _ _ _ h => h)) (pv 0) (pa_cons (pv 2) pa_nil)))) pss_nil)
      (pss_cons (ps_set (i := 4) scDocument_insert.nd rfl (Or.inl rfl) (pe_fld (pe_ix ix_seq (pe_fld (pv 0) rfl) (pv 1) (fun _ _ => rfl)) rfl))
      (pss_cons (ps_set (i := 5) scDocument_insert.nd rfl (Or.inl rfl) (pe_ifExp (pt_cmpR op_is1 (pv 3) pe_non (nomark _)) (pe_callB cr_len (by rfl) T.len PySem.boot_len (pa_cons (pv 4) pa_nil)) (pe_bm PySem.F.plainAttrs_list PySem.F.slot_list_index PySem.F.type_list_index mt_index (pv 4) (pa_cons (pv 3) pa_nil))))
      (pss_cons (ps_expr (pe_bm PySem.F.plainAttrs_list PySem.F.slot_list_insert PySem.F.type_list_insert mt_insert (pv 4) (pa_cons (pv 5) (pa_cons (pv 2) pa_nil))))
      (pss_cons (ps_fld (pe_ix ix_seq (pe_fld (pv 0) rfl) (pv 2) (fun _ _ => rfl)) (pv 1) rfl)
      (pss_one (ps_expr (pe_m m__tell hr (by omega) (pv 0) (pa_cons (RR.pe_tupF (pa_cons pe_str (pa_cons (pv 1) (pa_cons (pe_m m_shape hr (by omega) (pv 0) (pa_cons (pv 2) pa_nil)) (pa_cons (pv 3) pa_nil))))) pa_nil))))))))))), fun a us x H w Q hl dh o dv hp kq ke => ?_⟩
  obtain ⟨p, n, b⟩ := x
  obtain ⟨hck, hrm⟩ := hp
  obtain ⟨v, u, z, rfl, d1, d2, d3⟩ := DvA.inv3 dv
  simp only at d1 d2 d3
  have p0 := DP.refl dh
  unfold fIns at kq ke
  refine e_callX (ec := ec) (ar := arP) (Pre := preCk) (f := fChk) (p, n, b) p0 o rfl (ga_cons (gd_var rfl d1) (ga_cons (gd_var rfl d2) (ga_cons (gd_var rfl d3) ga_nil))) rfl hck rfl (fun w2 d' v2 a2 G2 H2 hf2 q2 s2 hx2 dd2 => ?_) fun e dd a' G' H' hf q' s' hx' hx => ke e dd a' G' H' (by rw [hf]) q' hx
  rw [hf2] at kq
  obtain ⟨hm, ht, h0, hna, hbad, rfl⟩ := chk_ret hf2
  simp only at hm ht h0 hna hbad kq
  obtain ⟨hp, hn, hb⟩ := miss3 hm
  have d12 := d1.to s2
  have d22 := d2.to s2
  have d32 := d3.to s2
  have ha : ∀ {a' : DA}, a'.x = a.x → [some (V.ref a.x), some v, some u, some z, none, none][0]? = some (some (.ref a'.x)) := fun e => by rw [e]; rfl
  refine s_ifr (K := K) (gt_tr (gd_callN (ar := arP) (p, n, b) q2.dh o (ha hx2) (ga_cons (gd_var rfl d12) (ga_cons (gd_var rfl d22) (ga_cons (gd_var rfl d32) ga_nil))) rfl ⟨hp, hn⟩ rfl)) q2.gh (fun c H3 s3 => ?_) fun c H3 s3 => ?_
  · have c : isAt w2.ns p n b = true := c
    rw [if_pos c] at kq
    exact kq _ _ .non a2 G2 H3 rfl (q2.test s3) .non
  have c : isAt w2.ns p n b = false := c
  rw [if_neg (by rw [c]; exact Bool.false_ne_true)] at kq
  have q3 := q2.test s3
  obtain ⟨mn, hmn, Nn⟩ := q3.dh.nodeAt hn
  have hlenO := o.len
  refine s_mid (fun σ' H' => ∃ (a4 : DA) (G4 : Hp) (w4 : Wm), σ' = [some (.ref a.x), some v, some u, some z, none, none] ∧ DP K CD CN a H H1 a4 G4 H' w4 ∧ Same G2 G4 ∧ w4.ns = (outA w2 n).ns ∧ w4.told = (outA w2 n).told) ?_ fun rest => ?_
  · rintro σ' H4 ⟨a4, G4, w4, rfl, q4, s4, e4n, e4t⟩
    have hx4 : a4.x = a.x := q4.ax
    have o4 : Ok w4.ns := by rw [e4n]; exact outA_ok o hn
    have l4 : w4.ns.length = w2.ns.length := by rw [e4n]; exact outA_len
    have hp4 : p < w4.ns.length := by rw [l4]; exact hp
    have hn4 : n < w4.ns.length := by rw [l4]; exact hn
    have up4 : (nd w4.ns n).up = none := by rw [e4n]; exact outA_up hn
    have na4 : n ∉ above w4.ns p := by rw [e4n]; exact outA_not o hn hp hna
    have tx4 : (nd w4.ns p).txt = false := by rw [e4n, outA_txt]; exact ht
    have d14 := d12.to s4
    have d24 := d22.to s4
    have d34 := d32.to s4
    obtain ⟨mp, hmp, Np⟩ := q4.dh.nodeAt hp4
    have h04 := ha hx4
    refine s_setV (NodeAt.fld Np D (q4.dh.nodeG D h04 hmp (gd_var (i := 1) rfl d14)) D.aN.2.2.2.2 rfl) q4.gh fun G5 H5 p5 => ?_
    have q5 := q4.pub p5
    have Np5 := q5.dh.nodes p mp hmp
    have d15 := d14.to p5.hg
    have d25 := d24.to p5.hg
    have d35 := d34.to p5.hg
    refine s_set (K := K) (d := ofN (atA w4.ns p b)) ?_ q5.gh fun v6 G6 H6 p6 d6 => ?_
    · cases b with
      | none => exact gd_if (b := true) (gt_test (gdo (K := K) (gd_var rfl d35) gd_non go_isN)) (fun _ => gd_lenP (gv_var rfl) Np5.b) fun z => nomatch z
      | some b =>
        have hbn : b ≠ n ∧ (nd w2.ns b).up = some p := by
          unfold badB at hbad
          simp at hbad
          exact hbad
        have hbk : b ∈ (nd w4.ns p).kids := by
          rw [e4n]
          exact ((outA_ok o hn).upk b p (by rw [outA_len]; exact hb b rfl) (by rw [outA_upne hbn.1 hn]; exact hbn.2)).2
        exact gd_if (b := false) (gt_test (gdo (K := K) (gd_var rfl d35) gd_non go_isN)) (fun z => nomatch z) fun _ => gd_idxP (gv_var rfl) Np5.b (gd_var rfl d35) hbk
    have q6 := q5.pub p6
    have d16 := d15.to p6.hg
    have d26 := d25.to p6.hg
    have d36 := d35.to p6.hg
    refine e_insert (i := p) (m := mp) (k := n) (j := atA w4.ns p b) q6 o4 hmp (gv_var rfl) (gd_var rfl d6) (gd_var rfl d26) atA_le fun G7 H7 q7 s7 => ?_
    have hnp : p ≠ n := fun z => na4 (z ▸ (o4.above hp4).self)
    have e7 : nd (w4.ns.set p { nd w4.ns p with kids := insAt (nd w4.ns p).kids (atA w4.ns p b) n }) n = nd w4.ns n := nd_ne (Ne.symm hnp)
    have hmn4 : ∃ m', a4.L[n]? = some m' := let ⟨m', h, _⟩ := q4.dh.nodeAt hn4; ⟨m', h⟩
    obtain ⟨m', hm'⟩ := hmn4
    have d17 := d16.to s7
    have d27 := d26.to s7
    have d37 := d36.to s7
    refine e_up (i := n) (m := m') (u := some p) q7 D hm' (q7.dh.nodeG D (by rw [hx4]; rfl) hm' (gd_var (i := 2) rfl d27)) (gd_var (i := 1) rfl d17) fun G8 H8 q8 s8 => ?_
    have eo : insN w4.ns p n (atA w4.ns p b) = (w4.ns.set p { nd w4.ns p with kids := insAt (nd w4.ns p).kids (atA w4.ns p b) n }).set n { nd w4.ns n with up := some p } := by
      unfold insN setUp
      rw [show nd (setKids w4.ns p (insAt (nd w4.ns p).kids (atA w4.ns p b) n)) n = nd w4.ns n from nd_ne (Ne.symm hnp)]
      rfl
    have q8 : DP K CD CN a H H1 a4 G8 H8 { w4 with ns := insN w4.ns p n (atA w4.ns p b) } := by
      rw [eo]
      have z := q8
      simp only [e7] at z
      exact z
    have o8 := o4.ins (a := atA w4.ns p b) hn4 hp4 up4 h0 tx4 na4
    have d18 := d17.to s8
    have d28 := d27.to s8
    have d38 := d37.to s8
    have hl8 : (insN w4.ns p n (atA w4.ns p b)).length = w4.ns.length := len_insN
    have hto := outA_told (w := w2) (n := n)
    refine e_callX (ec := ec) (ar := arDT) (Pre := preDT) (f := fDT) ([.str "put", ofN p, shapeF 60 (insN w4.ns p n (atA w4.ns p b)) n, upD b], p) q8 o8 (by rw [hx4]; rfl) (ga_cons (gd_tup (ga_cons gd_str (ga_cons (gd_var rfl d18) (ga_cons (gd_callN (ar := ar1) n q8.dh o8 (by rw [hx4]; rfl) (ga_cons (gd_var rfl d28) ga_nil) rfl (o8.ht (by show n < (insN w4.ns p n (atA w4.ns p b)).length; omega)) rfl) (ga_cons (gd_var rfl d38) ga_nil))))) ga_nil) rfl ⟨rfl, by show p < (insN w4.ns p n (atA w4.ns p b)).length; omega, by show w4.told.length < _; rw [e4t]; omega⟩ rfl (fun w9 d9 v9 a9 G9 H9 hf9 q9 s9 hx9 dd9 => ?_) fun e dd a' G' H7 hf7 => nomatch hf7
    unfold fDT at hf9
    cases hf9
    refine kq (insA w2 p n b) .none .non a9 G9 H9 rfl ?_ .non
    have q10 := q9.downs (ds := (outA w2 n).downs ++ [belowO (outA w2 n).ns none])
    have es : shapeF 60 (insN w4.ns p n (atA w4.ns p b)) n = shape w4.ns n := ins_shape o4 hn4 hp4 up4 h0 na4
    have ea : aboveD (insN w4.ns p n (atA w4.ns p b)) p = aboveD w4.ns p := by unfold aboveD; rw [ins_above o4 hn4 hp4 up4 h0 tx4 na4]
    unfold tellD at q10
    simp only at q10
    rw [ea, es, e4n, e4t] at q10
    exact q10
  · cases hup : (nd w2.ns n).up with
    | none =>
      have g := gt_test (gdo (K := K) (σ := [some (.ref a.x), some v, some u, some z, none, none]) (Nn.upG D (q3.dh.nodeG D (ha hx2) hmn (gd_var (i := 2) rfl d22))) gd_non go_notN)
      rw [hup] at g
      refine s_if (b := false) g q3.gh (fun z => nomatch z) fun _ H4 s4 => ?_
      have eo : outA w2 n = w2 := by unfold outA; rw [hup]
      exact rest _ _ ⟨a2, G2, w2, rfl, q3.test s4, .refl _, by rw [eo], by rw [eo]⟩
    | some u' =>
      have g := gt_test (gdo (K := K) (σ := [some (.ref a.x), some v, some u, some z, none, none]) (Nn.upG D (q3.dh.nodeG D (ha hx2) hmn (gd_var (i := 2) rfl d22))) gd_non go_notN)
      rw [hup] at g
      refine s_if (b := true) g q3.gh (fun _ H4 s4 => ?_) fun z => nomatch z
      have q4 := q3.test s4
      have hfr : fRm w2 n = .ret (outA w2 n) .none := by unfold fRm; rw [if_pos hn, if_neg (by rw [hup]; exact fun z => nomatch z)]
      refine e_callX (ec := ec) (ar := ar1) (Pre := preR) (f := fRm) n q4 o (ha hx2) (ga_cons (gd_var rfl d22) ga_nil) rfl ⟨by omega, by omega⟩ rfl (fun w5 d5 v5 a5 G5 H5 hf5 q5 s5 hx5 dd5 => ?_) fun e dd a' G' H5 hf5 => ?_
      · rw [hfr] at hf5
        cases hf5
        exact rest _ _ ⟨a5, G5, outA w2 n, rfl, q5, s5, rfl, rfl⟩
      · rw [hfr] at hf5
        cases hf5
end
end LW
end
section
set_option Elab.async false
set_option linter.all false
set_option maxRecDepth 100000
set_option maxHeartbeats 4000000
namespace LM
open PySem
theorem chainF_congr {ns ns' : List Nd} (h : ∀ m, (nd ns' m).up = (nd ns m).up) : ∀ j n, chainF j ns' n = chainF j ns n
  | 0, _ => rfl
  | j + 1, n => by
    unfold chainF
    rw [h n]
    cases (nd ns n).up with
    | none => rfl
    | some p => exact congrArg (n :: ·) (chainF_congr h j p)
theorem above_congr {ns ns' : List Nd} (h : ∀ m, (nd ns' m).up = (nd ns m).up) (n : Nat) : aboveD ns' n = aboveD ns n := by
  unfold aboveD above
  rw [chainF_congr h]
theorem set_up {ns : List Nd} {n : Nat} {x : Nd} (h : x.up = (nd ns n).up) (m : Nat) : (nd (ns.set n x) m).up = (nd ns m).up := by
  by_cases e : m = n
  · subst e
    by_cases hm : m < ns.length
    · rw [nd_same hm]; exact h
    · rw [List.set_eq_of_length_le (by omega)]
  · rw [nd_ne e]
end LM
namespace LW
open PySem PySem.Spec PyProof.Rows L2 DL LM
section
variable {P : Program} {W : World} {K : PySem.W.Frag} {mg : Str → Option Value} {base : Heap} {f : Addr} {fd : FuncData} {CD CN : Addr} {ec : EC} {a a0 : DA} {A A2 H H1 H2 G G2 Hc : Hp} {w : Wm} {σ : L2.St} {t te tn tx : TE} {n i : Nat} {m : NAd} {tA : TA} {b : Addr} {l : List Nat}
abbrev sInvalidArgument_init : Stmt := inClass (topS 3) 0
theorem scInvalidArgument_init : FnScope ["self", "name"] ["self", "name"] (defScope sInvalidArgument_init) := ⟨rfl, rfl, rfl, by decide +kernel, rfl, by decide +kernel, by decide +kernel⟩
theorem ok_badInit {B C : Addr} (hL : Base K mg B) (F : Fun K "__init__" "InvalidArgument.__init__" sInvalidArgument_init f fd) : FnOk P W K mg base CX0 1 f fd ["self", "name"] (spInit K C "name") := by
  refine F.ok scInvalidArgument_init (fun vs H Q E h => ?_) (fun cdv A outer s H vs Q E hr h => ?_)
  · obtain ⟨a, v, rfl, _⟩ := h
    rfl
  obtain ⟨a, v, rfl, ha, T, hf, hv, q⟩ := h
  refine ⟨_, (pss_cons (ps_expr (pe_clsinit hL.1 hL.2.1 hL.2.2.1 hL.2.2.2 (pa_cons (pv 0) (pa_cons (pe_joined (.cons pe_str (.cons (pe_fmt (pv 1)) .nil))) pa_nil))))
      (pss_one (ps_ost (pv 0) (pv 1)))), ?_⟩
  refine ⟨.ref a, rfl, fmt_ok (by decide) hv (fun Q' q => ⟨v, rfl, q⟩) fun out => ⟨a, C, [.str out], rfl, by simp, T, ha, ?_⟩⟩
  exact ⟨v, rfl, .ref a, rfl, a, C, rfl, T, hf, .inl ⟨ha, fun dx h1 h2 => q dx h1 h2⟩⟩
/-! ### marks -/
theorem gd_markGet1 {g : Str → Option Str} {kvs : List (Key × V)} {k : Str} (gv : GV te σ H A (.ref b)) (e : A b = some (.dK kvs)) (mk : MkK kvs g) (gn : GD K tn σ H A (.str k)) : GD K (tDGet1 te tn) σ H A (strO (g k)) := fun H0 H1 p Q q => gv.to p fun G H2 p2 => by
  have e2 := p2.hh _ _ (p.hh _ _ e)
  refine ⟨b, rfl, .inl ⟨kvs, .inl e2⟩, gn.to (p.trans p2) fun x G3 H3 p3 dx => ?_⟩
  have ex := Dv.str_inv dx
  subst ex
  refine ⟨valV kvs (.inr k), DGet.k (k := .inr k) (p3.hh _ _ e2), ?_⟩
  rw [mk.2.1 k]
  cases hf : g k with
  | none => rw [hf] at q; exact q .non G3 H3 (p2.trans p3) .non
  | some v => rw [hf] at q; exact q (.str v) G3 H3 (p2.trans p3) (.str _)
theorem DP.marks {kvs : List (Key × V)} {g : Str → Option Str} (p : DP K CD CN a0 H H1 a G Hc w) (hm : a.L[i]? = some m) (mk : MkK kvs g) : DP K CD CN a0 H H1 a G (upd Hc m.md (.dK kvs)) { w with ns := w.ns.set i { nd w.ns i with marks := g } } := by
  have N := p.dh.nodes i m hm
  obtain ⟨n1, n2, n3⟩ := NodeAt.ne N
  exact p.write hm (.inr (.inl rfl)) ⟨by rw [upd_ne n1]; exact N.i, ⟨kvs, upd_same, mk⟩, by rw [upd_ne (Ne.symm n3)]; exact N.b⟩
abbrev sDocument_set_mark : Stmt := inClass (topS 18) 20
theorem scDocument_set_mark : FnScope ["self", "number", "name", "value", "node"] ["self", "number", "name", "value"] (defScope sDocument_set_mark) := ⟨rfl, rfl, rfl, by decide +kernel, rfl, by decide +kernel, by decide +kernel⟩
def fSet (w : Wm) (x : ArK) : Res := if (nd w.ns x.1).txt = true then .err (.rf "not an element") else .ret (markA w x.1 x.2.1 x.2.2).1 .none
def preSet (w : Wm) (x : ArK) : Prop := x.1 < w.ns.length ∧ x.2.1 ∈ KS ∧ w.told.length < 1000000
theorem ok_setmark (T : Bt mg) (D : DC K CD CN) (X : EF K ec) (F : Fun K "_set_mark" "Document._set_mark" sDocument_set_mark f fd) (m__tell : Met P W K mg base CX0 5 CD "_tell" (spX K CD CN ec 1 arDT preDT fDT))
    (x_RefusedError : Ex P W K mg base 1 "RefusedError" ec.rf (spInit K ec.rf "reason")) : FnOk P W K mg base (L2.CX P W) 6 f fd ["self", "number", "name", "value"] (spX K CD CN ec 3 arK preSet fSet) := by
  refine fn_X F scDocument_set_mark rfl fun cdv A outer s H1 E hr => ⟨_, (pss_cons (ps_set (i := 4) scDocument_set_mark.nd rfl (Or.inl rfl) (pe_ix ix_seq (pe_fld (pv 0) rfl) (pv 1) (fun _ _ => rfl)))
      (pss_cons (ps_if (pt_cmpR op_is1 (pe_fld (pv 4) rfl) pe_non (nomark _)) (pss_one (ps_raise rfl (takes_of rfl rfl rfl rfl) (pmk_e x_RefusedError hr (by omega) (pa_cons pe_str pa_nil)))) pss_nil)
      (pss_cons (ps_if (pt_cmpR (op_eqA hr.units) (pe_dget1 (hu_of hr) (pe_fld (pv 4) rfl) (pv 2) ⟨rfl, rfl, rfl, rfl⟩) (pv 3) (nomark _)) (pss_one ps_retN) pss_nil)
      (pss_cons (ps_if (pt_cmpR op_is1 (pv 3) pe_non (nomark _)) (pss_one (ps_ddel (pe_fld (pv 4) rfl) (pv 2))) (pss_one (ps_dput (hu_of hr) (pe_fld (pv 4) rfl) (pv 2) (pv 3) rfl)))
      (pss_one (ps_expr (pe_m m__tell hr (by omega) (pv 0) (pa_cons (RR.pe_tupF (pa_cons pe_str (pa_cons (pv 1) (pa_cons (pv 2) (pa_cons (pv 3) pa_nil))))) pa_nil)))))))), fun a us x H w Q hl dh o dv hp kq ke => ?_⟩
  obtain ⟨n, k, val⟩ := x
  obtain ⟨hn, hk, hrm⟩ := hp
  obtain ⟨v, u, z, rfl, d1, d2, d3⟩ := DvA.inv3 dv
  simp only at d1 d2 d3 hn hk
  have eu := Dv.str_inv d2
  subst eu
  have p0 := DP.refl dh
  unfold fSet at kq ke
  simp only at kq ke
  obtain ⟨m, hm, N⟩ := dh.nodeAt hn
  refine s_setV (dh.nodeG D rfl hm (gd_var (i := 1) rfl d1)) dh.gh fun G2 H2 p2 => ?_
  have q2 := p0.pub p2
  have N2 := q2.dh.nodes n m hm
  have fM : ∀ {σ : L2.St} {G A' : Hp} {x : Nd}, NodeAt CN A' m x → σ[4]? = some (some (.ref m.na)) → GV (tFld K (tVar 4) "marks") σ G A' (.ref m.md) := fun N h => NodeAt.fld N D (gv_var h) D.aN.2.2.1 rfl
  refine s_ifr (K := K) (gt_isText K (NodeAt.fld N2 D (gv_var rfl) D.aN.1 rfl)) q2.gh (fun c H3 s3 => ?_) fun c H3 s3 => ?_
  · exact r_raise (v := .str "not an element") (H := H3) (.refl _) X.rf.1 X.rf.2 (.inl ⟨_, rfl, by decide⟩) (fun Q' q => q _ (.refl _)) fun dd H5 s5 hx => ke (.rf "not an element") dd a G2 H5 (by rw [if_pos c]) ((q2.test s3).test s5) hx
  rw [if_neg (by rw [c]; exact Bool.false_ne_true)] at kq
  unfold markA at kq
  rw [if_neg (by rw [c]; exact Bool.false_ne_true)] at kq
  have q3 := q2.test s3
  have N3 := q3.dh.nodes n m hm
  obtain ⟨kvs, hkv, mk⟩ := N3.m
  have d32 := d3.to p2.hg
  refine s_ifr (K := K) (gt_test (gdo (K := K) (gd_markGet1 (fM N3 rfl) hkv mk (gd_var (i := 2) rfl (.str k))) (gd_var rfl d32) go_eqO)) q3.gh (fun c H4 s4 => ?_) fun c H4 s4 => ?_
  · rw [if_pos (of_decide_eq_true c)] at kq
    exact kq _ _ .non a G2 H4 rfl (q3.test s4) .non
  have hne := of_decide_eq_false c
  rw [if_neg hne] at kq
  have q4 := q3.test s4
  have N4 := q4.dh.nodes n m hm
  have hkv4 := s4 _ _ hkv
  refine s_mid (fun σ' H' => ∃ G5, σ' = [some (.ref a.x), some v, some (.str k), some z, some (.ref m.na)] ∧ DP K CD CN a H H1 a G5 H' { w with ns := setMarks w.ns n (setM (nd w.ns n).marks k val) } ∧ Same G2 G5) ?_ fun rest => ?_
  · rintro σ' H5 ⟨G5, rfl, q5, s5⟩
    have o5 : Ok (setMarks w.ns n (setM (nd w.ns n).marks k val)) := by
      refine o.mark _ fun x hx => ?_
      unfold setM
      rw [if_neg fun (z : x = k) => hx (z ▸ hk)]
      exact o.mks n hn x hx
    have hl5 : (setMarks w.ns n (setM (nd w.ns n).marks k val)).length = w.ns.length := by simp [setMarks]
    have d15 := (d1.to p2.hg).to s5
    have d35 := d32.to s5
    refine e_callX (ec := ec) (ar := arDT) (Pre := preDT) (f := fDT) ([.str "mark", ofN n, .str k, strO val], n) q5 o5 rfl (ga_cons (gd_tup (ga_cons gd_str (ga_cons (gd_var rfl d15) (ga_cons (gd_var (i := 2) rfl (.str k)) (ga_cons (gd_var rfl d35) ga_nil))))) ga_nil) rfl ⟨rfl, by show n < (setMarks w.ns n _).length; omega, hrm⟩ rfl (fun w9 d9 v9 a9 G9 H9 hf9 q9 s9 hx9 dd9 => ?_) fun e dd a' G' H7 hf7 => nomatch hf7
    unfold fDT at hf9
    cases hf9
    refine kq _ .none .non a9 G9 H9 rfl ?_ .non
    have q10 := q9.downs (ds := w.downs ++ [belowO w.ns none])
    unfold tellD at q10
    simp only at q10
    have ea : aboveD (setMarks w.ns n (setM (nd w.ns n).marks k val)) n = aboveD w.ns n := above_congr (fun m => by unfold setMarks; exact set_up (by rfl) m) n
    rw [ea] at q10
    exact q10
  · cases val with
    | none =>
      refine s_if (b := true) (gt_test (gdo (K := K) (gd_var rfl d32) gd_non go_isN)) q4.gh (fun _ H5 s5 => ?_) fun z => nomatch z
      have q5 := q4.test s5
      have N5 := q5.dh.nodes n m hm
      have hkv5 := s5 _ _ hkv4
      refine (fM N5 rfl) G2 H5 (.refl q5.gh) _ fun G6 H6 p6 => ?_
      have hkv6 := p6.hh _ _ hkv5
      refine ⟨.str k, rfl, m.md, kvs, .inr k, rfl, hkv6, rfl, ?_, ?_⟩
      · rw [mk.2.1 k, Option.isSome_map]
        exact Option.isSome_iff_ne_none.mpr hne
      · exact rest _ _ ⟨G6, rfl, (q5.pub p6).marks hm (MkK.drop mk), p6.hg⟩
    | some s =>
      have ez := Dv.str_inv d32
      subst ez
      refine s_if (b := false) (gt_test (gdo (K := K) (gd_var rfl d32) gd_non go_isN)) q4.gh (fun z => nomatch z) fun _ H5 s5 => ?_
      have q5 := q4.test s5
      have N5 := q5.dh.nodes n m hm
      have hkv5 := s5 _ _ hkv4
      refine ⟨.str s, rfl, (fM N5 rfl) G2 H5 (.refl q5.gh) _ fun G6 H6 p6 => ?_⟩
      have hkv6 := p6.hh _ _ hkv5
      refine ⟨.str k, rfl, m.md, _, rfl, DPut.k (k := .inr k) hkv6 ?_, ?_⟩
      · have h3 := MkK.len mk
        rw [sizeLine_eq]; omega
      · exact rest _ _ ⟨G6, rfl, (q5.pub p6).marks hm (MkK.put mk hk), p6.hg⟩
/-! ### _check_mark, mark, unmark -/
theorem name_len {s : Str} (h : nameB s = true) : s.length ≤ 1000000 := by
  unfold nameB at h
  have h2 := of_decide_eq_true (Bool.and_eq_true_iff.mp (Bool.and_eq_true_iff.mp h).1).2
  omega
theorem plain_len {s : Str} (h : plainT s = true) : s.length ≤ 1000000 := by
  unfold plainT at h
  have h2 := of_decide_eq_true (Bool.and_eq_true_iff.mp h).1
  omega
theorem gt_name {s : Str} (h : nameB s = true) (g : GD K t σ H A (.str s)) : GT (tNot (tTr K (tCall (spF K 1 preV (oneF nameD)) [] E0 (tCons t tNil)))) σ H A false := by
  have g2 := gd_call (K := K) (f := oneF nameD) (Pre := preV) (ga_cons g ga_nil) rfl ⟨.str s, rfl, fun x e => by cases e; exact name_len h⟩
  rw [show oneF nameD [.str s] = .bool (nameB s) from rfl, h] at g2
  exact gt_not (b := true) (gt_tr g2)
theorem gt_plain {s : Str} (h : plainT s = true) (g : GD K t σ H A (.str s)) : GT (tNot (tTr K (tCall (spF K 1 preV (oneF plainD)) [] E0 (tCons t tNil)))) σ H A false := by
  have g2 := gd_call (K := K) (f := oneF plainD) (Pre := preV) (ga_cons g ga_nil) rfl ⟨.str s, rfl, fun x e => by cases e; exact plain_len h⟩
  rw [show oneF plainD [.str s] = .bool (plainT s) from rfl, h] at g2
  exact gt_not (b := true) (gt_tr g2)
abbrev sDocument_check_mark : Stmt := inClass (topS 18) 19
theorem scDocument_check_mark : FnScope ["self", "number", "name"] ["self", "number", "name"] (defScope sDocument_check_mark) := ⟨rfl, rfl, rfl, by decide +kernel, rfl, by decide +kernel, by decide +kernel⟩
abbrev ArCm := Nat × Str
def arCm : ArCm → List PyData := fun x => [ofN x.1, .str x.2]
def preCm (w : Wm) (x : ArCm) : Prop := x.1 < 100000 ∧ nameB x.2 = true
def fCm (w : Wm) (x : ArCm) : Res := if x.1 < w.ns.length then .ret w .none else .err (.no x.1)
theorem ok_checkmark (T : Bt mg) (D : DC K CD CN) {cb : Addr} (F : Fun K "_check_mark" "Document._check_mark" sDocument_check_mark f fd) (m__node : Met P W K mg base (L2.CX P W) 3 CD "_node" (spNode K CD CN ec)) (cis_name : Cal P W K mg base 2 "is_name" (spF K 1 preV (oneF nameD)))
    (x_InvalidArgument : Ex P W K mg base 1 "InvalidArgument" cb (spInit K cb "name")) : FnOk P W K mg base (L2.CX P W) 4 f fd ["self", "number", "name"] (spX K CD CN ec 2 arCm preCm fCm) := by
  refine fn_X F scDocument_check_mark rfl fun cdv A outer s H1 E hr => ⟨_, (pss_cons (ps_expr (pe_mX m__node hr (by omega) (passes_call (takes_of rfl rfl rfl rfl) (fun _ _ _ _ h => h)) (pv 0) (pa_cons (pv 1) pa_nil)))
      (pss_one (ps_if (pt_not (pt_tr (pe_k cis_name hr (by omega) (pa_cons (pv 2) pa_nil)))) (pss_one (ps_raise rfl (takes_of rfl rfl rfl rfl) (pmk_e x_InvalidArgument hr (by omega) (pa_cons pe_str pa_nil)))) pss_nil))), fun a us x H w Q hl dh o dv hp kq ke => ?_⟩
  obtain ⟨n, k⟩ := x
  obtain ⟨hn0, hk⟩ := hp
  obtain ⟨v, u, rfl, d1, d2⟩ := DvA.inv2 dv
  simp only at d1 d2 hn0 hk
  unfold fCm at kq ke
  simp only at kq ke
  refine e_node (ec := ec) (DP.refl dh) rfl (by omega) (gd_var rfl d1) (fun m hn hm G2 H2 q2 pu2 => ?_) fun hn dd H' s hx => ke (.no n) dd a H H' (by rw [if_neg hn]) ((DP.refl dh).test s) hx
  rw [if_pos hn] at kq
  dsimp only
  refine s_if (b := false) (G := G2) (gt_name (K := K) (σ := [some (.ref a.x), some v, some u]) (t := tVar 2) hk (gd_var (i := 2) rfl (d2.to pu2.hg))) q2.gh (fun z => nomatch z) fun _ H3 s3 => ?_
  exact kq w .none .non a G2 H3 rfl (q2.test s3) .non
end
end LW
end
section
set_option Elab.async false
set_option linter.all false
set_option maxRecDepth 100000
set_option maxHeartbeats 4000000
namespace LW
open PySem PySem.Spec PyProof.Rows L2 DL LM
section
variable {P : Program} {W : World} {K : PySem.W.Frag} {mg : Str → Option Value} {base : Heap} {f : Addr} {fd : FuncData} {CD CN : Addr} {ec : EC} {a a0 : DA} {A A2 H H1 H2 G G2 Hc : Hp} {w : Wm} {σ : L2.St} {t te tn tx : TE} {n i : Nat} {m : NAd} {tA : TA} {b : Addr} {l : List Nat}
theorem set_none {w w' : Wm} {x : ArK} {d : PyData} (h : fSet w x = .ret w' d) : Res.ret w' d = .ret w' .none := by
  unfold fSet at h
  split at h
  · cases h
  · cases h; rfl
/-- node.words = .. -/
theorem e_words {D : Ends} {s : Str} (p : DP K CD CN a0 H H1 a G Hc w) (C : DC K CD CN) (hm : a.L[i]? = some m) (ht : (nd w.ns i).txt = true) (go : GV te σ G Hc (.ref m.na)) (g : GD K t σ G Hc (.str s)) (k : ∀ G' H', DP K CD CN a0 H H1 a G' H' { w with ns := w.ns.set i { nd w.ns i with name := s } } → Same G G' → D.nx σ H') :
    sFld K te t "words" D σ Hc := g.to (.refl p.gh) fun v G2 H2 p2 dv => by
  have q2 := p.pub p2
  refine (go.mono p2).to (.refl q2.gh) fun G3 H3 p3 => ?_
  have q3 := q2.pub p3
  have N := q3.dh.nodes i m hm
  obtain ⟨n1, n2, n3⟩ := NodeAt.ne N
  have ev := Dv.str_inv dv
  subst ev
  refine ⟨m.na, CN, m.dx, _, rfl, N.i, C.cN, C.aN.2.1, by unfold nodeF; exact (by decide : 5 < 1000), ?_⟩
  refine k G3 _ (q3.write hm (.inl rfl) ⟨?_, ?_, ?_⟩) (p2.hg.trans p3.hg)
  · rw [upd_same]
    unfold nodeF nameV wordsV
    simp only [ht]
    rfl
  · obtain ⟨kvs, e, r⟩ := N.m
    exact ⟨kvs, by rw [upd_ne (Ne.symm n1)]; exact e, r⟩
  · rw [upd_ne (Ne.symm n2)]; exact N.b
def orNo (w : Wm) (n : Nat) (r : Res) : Res := if n < w.ns.length then r else .err (.no n)
/-! ### mark, unmark -/
abbrev sDocument_mark : Stmt := inClass (topS 18) 5
theorem scDocument_mark : FnScope ["self", "number", "name", "value"] ["self", "number", "name", "value"] (defScope sDocument_mark) := ⟨rfl, rfl, rfl, by decide +kernel, rfl, by decide +kernel, by decide +kernel⟩
def arMk : Nat × Str × Str → List PyData := fun x => [ofN x.1, .str x.2.1, .str x.2.2]
def preMk (w : Wm) (x : Nat × Str × Str) : Prop := x.1 < 100000 ∧ x.2.1 ∈ KS ∧ nameB x.2.1 = true ∧ plainT x.2.2 = true ∧ w.told.length < 1000000
def fMk (w : Wm) (x : Nat × Str × Str) : Res := orNo w x.1 (fSet w (x.1, x.2.1, some x.2.2))
theorem ok_dmark (T : Bt mg) (D : DC K CD CN) {cb : Addr} (F : Fun K "mark" "Document.mark" sDocument_mark f fd) (m__check_mark : Met P W K mg base (L2.CX P W) 4 CD "_check_mark" (spX K CD CN ec 2 arCm preCm fCm)) (m__set_mark : Met P W K mg base (L2.CX P W) 6 CD "_set_mark" (spX K CD CN ec 3 arK preSet fSet))
    (cis_plain : Cal P W K mg base 2 "is_plain" (spF K 1 preV (oneF plainD))) (x_InvalidArgument : Ex P W K mg base 1 "InvalidArgument" cb (spInit K cb "name")) : FnOk P W K mg base (L2.CX P W) 7 f fd ["self", "number", "name", "value"] (spX K CD CN ec 3 arMk preMk fMk) := by
  refine fn_X F scDocument_mark rfl fun cdv A outer s H1 E hr => ⟨_, (pss_cons (ps_expr (pe_mX m__check_mark hr (by omega) (passes_call (takes_of rfl rfl rfl rfl) (fun _ _ _ _ h => h)) (pv 0) (pa_cons (pv 1) (pa_cons (pv 2) pa_nil))))
      (pss_cons (ps_if (pt_not (pt_tr (pe_k cis_plain hr (by omega) (pa_cons (pv 3) pa_nil)))) (pss_one (ps_raise rfl (takes_of rfl rfl rfl rfl) (pmk_e x_InvalidArgument hr (by omega) (pa_cons pe_str pa_nil)))) pss_nil)
      (pss_one (ps_expr (pe_mX m__set_mark hr (by omega) (passes_call (takes_of rfl rfl rfl rfl) (fun _ _ _ _ h => h)) (pv 0) (pa_cons (pv 1) (pa_cons (pv 2) (pa_cons (pv 3) pa_nil)))))))), fun a us x H w Q hl dh o dv hp kq ke => ?_⟩
  obtain ⟨n, k, val⟩ := x
  obtain ⟨hn0, hk, hkn, hv, hrm⟩ := hp
  obtain ⟨v, u, z, rfl, d1, d2, d3⟩ := DvA.inv3 dv
  simp only at d1 d2 d3 hn0 hk hkn hv
  unfold fMk orNo at kq ke
  simp only at kq ke
  refine e_callX (ec := ec) (ar := arCm) (Pre := preCm) (f := fCm) (n, k) (DP.refl dh) o rfl (ga_cons (gd_var rfl d1) (ga_cons (gd_var rfl d2) ga_nil)) rfl ⟨hn0, hkn⟩ rfl (fun w2 d' v2 a2 G2 H2 hf2 q2 s2 hx2 dd2 => ?_) fun e dd a' G' H' hf q' s' hx' hx => ?_
  · unfold fCm at hf2
    simp only at hf2
    by_cases hn : n < w.ns.length
    · rw [if_pos hn] at hf2 kq ke
      cases hf2
      have d32 := d3.to s2
      dsimp only
      refine s_ifr (K := K) (b := false) (gt_plain (K := K) (σ := [some (.ref a.x), some v, some u, some z]) (t := tVar 3) hv (gd_var rfl d32)) q2.gh (fun z => nomatch z) fun _ H3 s3 => ?_
      have q3 := q2.test s3
      refine e_callX (ec := ec) (ar := arK) (Pre := preSet) (f := fSet) (n, k, some val) q3 o (by rw [hx2]; rfl) (ga_cons (gd_var rfl (d1.to s2)) (ga_cons (gd_var rfl (d2.to s2)) (ga_cons (gd_var rfl (d3.to s2)) ga_nil))) rfl ⟨hn, hk, hrm⟩ rfl (fun w4 d4 v4 a4 G4 H4 hf4 q4 s4 hx4 dd4 => ?_) fun e dd a' G' H' hf q' s' hx' hx => ke e dd a' G' H' hf q' hx
      exact kq w4 .none .non a4 G4 H4 (by rw [hf4, set_none hf4]) q4 .non
    · rw [if_neg hn] at hf2
      cases hf2
  · unfold fCm at hf
    simp only at hf
    by_cases hn : n < w.ns.length
    · rw [if_pos hn] at hf
      cases hf
    · rw [if_neg hn] at hf
      cases hf
      exact ke (.no n) dd a' G' H' (by rw [if_neg hn]) q' hx
abbrev sDocument_unmark : Stmt := inClass (topS 18) 6
theorem scDocument_unmark : FnScope ["self", "number", "name"] ["self", "number", "name"] (defScope sDocument_unmark) := ⟨rfl, rfl, rfl, by decide +kernel, rfl, by decide +kernel, by decide +kernel⟩
def preUm (w : Wm) (x : ArCm) : Prop := x.1 < 100000 ∧ x.2 ∈ KS ∧ nameB x.2 = true ∧ w.told.length < 1000000
def fUm (w : Wm) (x : ArCm) : Res := orNo w x.1 (fSet w (x.1, x.2, none))
theorem ok_dunmark (T : Bt mg) (D : DC K CD CN) (F : Fun K "unmark" "Document.unmark" sDocument_unmark f fd) (m__check_mark : Met P W K mg base (L2.CX P W) 4 CD "_check_mark" (spX K CD CN ec 2 arCm preCm fCm)) (m__set_mark : Met P W K mg base (L2.CX P W) 6 CD "_set_mark" (spX K CD CN ec 3 arK preSet fSet)) :
    FnOk P W K mg base (L2.CX P W) 7 f fd ["self", "number", "name"] (spX K CD CN ec 2 arCm preUm fUm) := by
  refine fn_X F scDocument_unmark rfl fun cdv A outer s H1 E hr => ⟨_, (pss_cons (ps_expr (pe_mX m__check_mark hr (by omega) (passes_call (takes_of rfl rfl rfl rfl) (fun _ _ _ _ h => h)) (pv 0) (pa_cons (pv 1) (pa_cons (pv 2) pa_nil))))
      (pss_one (ps_expr (pe_mX m__set_mark hr (by omega) (passes_call (takes_of rfl rfl rfl rfl) (fun _ _ _ _ h => h)) (pv 0) (pa_cons (pv 1) (pa_cons (pv 2) (pa_cons pe_non pa_nil))))))), fun a us x H w Q hl dh o dv hp kq ke => ?_⟩
  obtain ⟨n, k⟩ := x
  obtain ⟨hn0, hk, hkn, hrm⟩ := hp
  obtain ⟨v, u, rfl, d1, d2⟩ := DvA.inv2 dv
  simp only at d1 d2 hn0 hk hkn
  unfold fUm orNo at kq ke
  simp only at kq ke
  refine e_callX (ec := ec) (ar := arCm) (Pre := preCm) (f := fCm) (n, k) (DP.refl dh) o rfl (ga_cons (gd_var rfl d1) (ga_cons (gd_var rfl d2) ga_nil)) rfl ⟨hn0, hkn⟩ rfl (fun w2 d' v2 a2 G2 H2 hf2 q2 s2 hx2 dd2 => ?_) fun e dd a' G' H' hf q' s' hx' hx => ?_
  · unfold fCm at hf2
    simp only at hf2
    by_cases hn : n < w.ns.length
    · rw [if_pos hn] at hf2 kq ke
      cases hf2
      refine e_callX (ec := ec) (ar := arK) (Pre := preSet) (f := fSet) (n, k, none) q2 o (by rw [hx2]; rfl) (ga_cons (gd_var rfl (d1.to s2)) (ga_cons (gd_var rfl (d2.to s2)) (ga_cons gd_non ga_nil))) rfl ⟨hn, hk, hrm⟩ rfl (fun w4 d4 v4 a4 G4 H4 hf4 q4 s4 hx4 dd4 => ?_) fun e dd a' G' H' hf q' s' hx' hx => ke e dd a' G' H' hf q' hx
      exact kq w4 .none .non a4 G4 H4 (by rw [hf4, set_none hf4]) q4 .non
    · rw [if_neg hn] at hf2
      cases hf2
  · unfold fCm at hf
    simp only at hf
    by_cases hn : n < w.ns.length
    · rw [if_pos hn] at hf
      cases hf
    · rw [if_neg hn] at hf
      cases hf
      exact ke (.no n) dd a' G' H' (by rw [if_neg hn]) q' hx
/-! ### write -/
abbrev sDocument_write : Stmt := inClass (topS 18) 7
theorem scDocument_write : FnScope ["self", "number", "text", "node"] ["self", "number", "text"] (defScope sDocument_write) := ⟨rfl, rfl, rfl, by decide +kernel, rfl, by decide +kernel, by decide +kernel⟩
def fWr (w : Wm) (x : ArCm) : Res := orNo w x.1 (if (nd w.ns x.1).txt = false then .err (.rf "not a text") else .ret (writeA w x.1 x.2).1 .none)
def preWr (w : Wm) (x : ArCm) : Prop := x.1 < 100000 ∧ plainT x.2 = true ∧ w.told.length < 1000000
theorem ok_write (T : Bt mg) (D : DC K CD CN) (X : EF K ec) {cb : Addr} (F : Fun K "write" "Document.write" sDocument_write f fd) (m__node : Met P W K mg base (L2.CX P W) 3 CD "_node" (spNode K CD CN ec)) (m__tell : Met P W K mg base CX0 5 CD "_tell" (spX K CD CN ec 1 arDT preDT fDT))
    (cis_plain : Cal P W K mg base 2 "is_plain" (spF K 1 preV (oneF plainD))) (x_InvalidArgument : Ex P W K mg base 1 "InvalidArgument" cb (spInit K cb "name")) (x_RefusedError : Ex P W K mg base 1 "RefusedError" ec.rf (spInit K ec.rf "reason")) :
    FnOk P W K mg base (L2.CX P W) 6 f fd ["self", "number", "text"] (spX K CD CN ec 2 arCm preWr fWr) := by
  refine fn_X F scDocument_write rfl fun cdv A outer s H1 E hr => ⟨_, (pss_cons (ps_set (i := 3) scDocument_write.nd rfl (Or.inl rfl) (pe_mX m__node hr (by omega) (passes_call (takes_of rfl rfl rfl rfl) (fun _ _ _ _ h => h)) (pv 0) (pa_cons (pv 1) pa_nil)))
      (pss_cons (ps_if (pt_not (pt_tr (pe_k cis_plain hr (by omega) (pa_cons (pv 2) pa_nil)))) (pss_one (ps_raise rfl (takes_of rfl rfl rfl rfl) (pmk_e x_InvalidArgument hr (by omega) (pa_cons pe_str pa_nil)))) pss_nil)
      (pss_cons (ps_if (pt_cmpR op_isnot1 (pe_fld (pv 3) rfl) pe_non (nomark _)) (pss_one (ps_raise rfl (takes_of rfl rfl rfl rfl) (pmk_e x_RefusedError hr (by omega) (pa_cons pe_str pa_nil)))) pss_nil)
      (pss_cons (ps_if (pt_cmpR (op_eqA hr.units) (pe_fld (pv 3) rfl) (pv 2) (nomark _)) (pss_one ps_retN) pss_nil)
      (pss_cons (ps_fld (pv 3) (pv 2) rfl)
      (pss_one (ps_expr (pe_m m__tell hr (by omega) (pv 0) (pa_cons (RR.pe_tupF (pa_cons pe_str (pa_cons (pv 1) (pa_cons (pv 2) pa_nil)))) pa_nil))))))))), fun a us x H w Q hl dh o dv hp kq ke => ?_⟩
  obtain ⟨n, tx⟩ := x
  obtain ⟨hn0, htx, hrm⟩ := hp
  obtain ⟨v, u, rfl, d1, d2⟩ := DvA.inv2 dv
  simp only at d1 d2 hn0 htx
  unfold fWr orNo at kq ke
  simp only at kq ke
  refine e_node (ec := ec) (DP.refl dh) rfl (by omega) (gd_var rfl d1) (fun m hn hm G2 H2 q2 pu2 => ?_) fun hn dd H' s hx => ke (.no n) dd a H H' (by rw [if_neg hn]) ((DP.refl dh).test s) hx
  rw [if_pos hn] at kq ke
  have d12 := d1.to pu2.hg
  have d22 := d2.to pu2.hg
  dsimp only [gName]
  refine s_ifr (K := K) (b := false) (gt_plain (K := K) (σ := [some (.ref a.x), some v, some u, some (.ref m.na)]) (t := tVar 2) htx (gd_var rfl d22)) q2.gh (fun z => nomatch z) fun _ H3 s3 => ?_
  have q3 := q2.test s3
  have N3 := q3.dh.nodes n m hm
  have gN := gt_test (gdo ((NodeAt.fld N3 D (gv_var (σ := [some (.ref a.x), some v, some u, some (.ref m.na)]) (i := 3) (H := G2) rfl) D.aN.1 rfl).gd (dv_name (K := K))) gd_non go_notN)
  have eN : (!isNoneD (if (nd w.ns n).txt then PyData.none else .str (nd w.ns n).name)) = !(nd w.ns n).txt := by cases (nd w.ns n).txt <;> rfl
  rw [eN] at gN
  refine s_ifr (K := K) gN q3.gh (fun c H4 s4 => ?_) fun c H4 s4 => ?_
  · exact r_raise (v := .str "not a text") (H := H4) (.refl _) X.rf.1 X.rf.2 (.inl ⟨_, rfl, by decide⟩) (fun Q' q => q _ (.refl _)) fun dd H5 s5 hx => ke (.rf "not a text") dd a G2 H5 (by rw [if_pos (by simpa using c)]) ((q3.test s4).test s5) hx
  have ct : (nd w.ns n).txt = true := by simpa using c
  rw [if_neg (by rw [ct]; exact fun z => nomatch z)] at kq
  unfold writeA at kq
  rw [if_neg (by rw [ct]; exact fun z => nomatch z)] at kq
  have q4 := q3.test s4
  have N4 := q4.dh.nodes n m hm
  have gW : GD K (tFld K (tVar 3) "words") [some (.ref a.x), some v, some u, some (.ref m.na)] G2 H4 (.str (nd w.ns n).name) := (NodeAt.fld N4 D (gv_var (i := 3) rfl) D.aN.2.1 rfl).gd (by unfold wordsV; rw [ct]; exact .str _)
  refine s_ifr (K := K) (gt_test (gdo (K := K) gW (gd_var (i := 2) rfl d22) go_eqS)) q4.gh (fun c H5 s5 => ?_) fun c H5 s5 => ?_
  · rw [if_pos (of_decide_eq_true c)] at kq
    exact kq _ _ .non a G2 H5 rfl (q4.test s5) .non
  rw [if_neg (of_decide_eq_false c)] at kq
  have q5 := q4.test s5
  refine e_words (i := n) (m := m) (s := tx) q5 D hm ct (gv_var rfl) (gd_var rfl d22) fun G6 H6 q6 s6 => ?_
  have o6 : Ok (setName w.ns n tx) := o.write tx
  have hl6 : (setName w.ns n tx).length = w.ns.length := by simp [setName]
  refine e_callX (ec := ec) (ar := arDT) (Pre := preDT) (f := fDT) ([.str "text", ofN n, .str tx], n) q6 o6 rfl (ga_cons (gd_tup (ga_cons gd_str (ga_cons (gd_var rfl (d12.to s6)) (ga_cons (gd_var rfl (d22.to s6)) ga_nil)))) ga_nil) rfl ⟨rfl, by show n < (setName w.ns n tx).length; omega, hrm⟩ rfl (fun w9 d9 v9 a9 G9 H9 hf9 q9 s9 hx9 dd9 => ?_) fun e dd a' G' H7 hf7 => nomatch hf7
  unfold fDT at hf9
  cases hf9
  refine kq _ .none .non a9 G9 H9 rfl ?_ .non
  have q10 := q9.downs (ds := w.downs ++ [belowO w.ns none])
  have ea : aboveD (setName w.ns n tx) n = aboveD w.ns n := above_congr (fun m => by unfold setName; exact set_up (by rfl) m) n
  unfold tellD at q10
  simp only at q10
  unfold setName at ea
  rw [ea] at q10
  exact q10
end
end LW
end
section
set_option Elab.async false
set_option linter.all false
set_option maxRecDepth 100000
set_option maxHeartbeats 4000000
namespace LW
open PySem PySem.Spec PyProof.Rows L2 DL LM
section
variable {P : Program} {W : World} {K : PySem.W.Frag} {mg : Str → Option Value} {base : Heap} {f : Addr} {fd : FuncData} {CD CN : Addr} {ec : EC} {a a0 : DA} {A A2 H H1 H2 G G2 Hc : Hp} {w : Wm} {σ : L2.St} {t te tn tx t1 t2 : TE} {n i : Nat} {m : NAd} {tA : TA} {b : Addr} {l : List Nat}
/-- a class of one's own -/
structure Kl (P : Program) (W : World) (K : PySem.W.Frag) (mg : Str → Option Value) (base : Heap) (k : Nat) (x : Str) (C : Addr) (sp : Sp) : Prop where
  ex : ∃ f fd ps, Mk K C f ∧ FnOk P W K mg base CX0 k f fd ps sp ∧ Binds K fd ps [] ∧ mg x = some (.ref C)
theorem pe_mk {X : Cx} {k j : Nat} {x : Str} {C : Addr} {sp : Sp} {p pos : Pos} {e : Expr} {es : List Expr} {t : TA} (c : Kl X.prog X.w X.K X.mg X.base k x C sp) (hr : Room j X.A) (hk : k + 1 ≤ j) (ha : PA X (e :: es) t) (hg : Gl X x := by rfl)
    (hdb : (x == ("__debug__" : Str)) = false := by decide) (he : starEach (e :: es) X.env = (false, eval e X.env) :: starEach es X.env := by rfl) (hpl : (backTo pos (starEach es X.env)).any (·.1) = false := by rfl) :
    PE X (.Call (.Name x p) (e :: es) [] pos) (tMake C sp [] E0 t) := by
  obtain ⟨f, fd, ps, M, F, b, hm⟩ := c.ex
  exact pe_make M F (hr.mono hk) hg hm b .nil pass0 ha hdb he hpl
theorem pe_mk0 {X : Cx} {k j : Nat} {x : Str} {C : Addr} {sp : Sp} {p pos : Pos} (c : Kl X.prog X.w X.K X.mg X.base k x C sp) (hr : Room j X.A) (hk : k + 1 ≤ j) (hg : Gl X x := by rfl) (hdb : (x == ("__debug__" : Str)) = false := by decide) :
    PE X (.Call (.Name x p) [] [] pos) (tMake C sp [] E0 tNil) := by
  obtain ⟨f, fd, ps, M, F, b, hm⟩ := c.ex
  exact pe_make0 M F (hr.mono hk) hg hm b .nil pass0 hdb
abbrev sNode_init : Stmt := inClass (topS 17) 0
theorem scNode_init : FnScope ["self", "name", "words"] ["self", "name", "words"] (defScope sNode_init) := ⟨rfl, rfl, rfl, by decide +kernel, rfl, by decide +kernel, by decide +kernel⟩
def spNI (CN : Addr) : Sp := fun vs H Q _ => ∃ (x dx : Addr) (nv wv : V), vs = [.ref x, nv, wv] ∧ H x = some (.ins CN dx []) ∧ ∀ md bl H2, (∀ b o, b ≠ x → H b = some o → H2 b = some o) → H md = none → H bl = none → md ≠ bl →
  H2 x = some (.ins CN dx [("name", nv), ("words", wv), ("marks", .ref md), ("up", .non), ("below", .ref bl)]) → H2 md = some (.dK []) → H2 bl = some (.lst []) → Q .non H2
theorem ok_nodeInit (D : DC K CD CN) (F : Fun K "__init__" "Node.__init__" sNode_init f fd) : FnOk P W K mg base CX0 1 f fd ["self", "name", "words"] (spNI CN) := by
  refine F.ok scNode_init (fun vs H Q E h => ?_) (fun cdv A outer s H vs Q E hr h => ?_)
  · obtain ⟨x, dx, nv, wv, rfl, _⟩ := h
    rfl
  obtain ⟨x, dx, nv, wv, rfl, hx, q⟩ := h
  refine ⟨_, (pss_cons (ps_fld (pv 0) (pv 1) rfl)
      (pss_cons (ps_fld (pv 0) (pv 2) rfl)
      (pss_cons (ps_fld (pv 0) pe_dnewK rfl)
      (pss_cons (ps_fld (pv 0) pe_non rfl)
      (pss_one (ps_fld (pv 0) (pe_lst pa_nil) rfl)))))), ?_⟩
  refine ⟨nv, rfl, .ref x, rfl, x, CN, dx, [], rfl, hx, D.cN, D.aN.1, by decide, ?_⟩
  refine ⟨wv, rfl, .ref x, rfl, x, CN, dx, _, rfl, upd_same, D.cN, D.aN.2.1, by show 1 < 1000; decide, ?_⟩
  intro md hmd
  rw [upd_upd] at hmd ⊢
  have nx : md ≠ x := fun z => by rw [z, upd_same] at hmd; cases hmd
  have hmd0 : H md = none := by rw [upd_ne nx] at hmd; exact hmd
  refine ⟨.ref x, rfl, x, CN, dx, _, rfl, by rw [upd_ne (Ne.symm nx), upd_same], D.cN, D.aN.2.2.1, by show 2 < 1000; decide, ?_⟩
  refine ⟨.ref x, rfl, x, CN, dx, _, rfl, upd_same, D.cN, D.aN.2.2.2.1, by show 3 < 1000; decide, ?_⟩
  refine ⟨Nat.zero_le _, fun bl hbl => ?_⟩
  have nbx : bl ≠ x := fun z => by rw [z, upd_same] at hbl; cases hbl
  rw [upd_ne nbx, upd_ne nbx] at hbl
  have nbm : bl ≠ md := fun z => by rw [z, upd_same] at hbl; cases hbl
  rw [upd_ne nbm, upd_ne nbx] at hbl
  refine ⟨.ref x, rfl, x, CN, dx, _, rfl, by rw [upd_ne (Ne.symm nbx), upd_same], D.cN, D.aN.2.2.2.2, by show 4 < 1000; decide, ?_⟩
  refine q md bl _ (fun b o hb e => ?_) hmd0 hbl (Ne.symm nbm) ?_ ?_ ?_
  · have b1 : b ≠ md := ne_of_none e hmd0
    have b2 : b ≠ bl := ne_of_none e hbl
    rw [upd_ne hb, upd_ne b2, upd_ne hb, upd_ne hb, upd_ne b1, upd_ne hb]
    exact e
  · rw [upd_same]; rfl
  · rw [upd_ne nx, upd_ne (Ne.symm nbm), upd_ne nx, upd_ne nx, upd_same]
  · rw [upd_ne nbx, upd_same]
/-- self._kept.append(Node(name, words)) -/
theorem e_keep {D : Ends} {tt : Bool} {s : Str} (p : DP K CD CN a0 H H1 a G Hc w) (C : DC K CD CN) (o : Ok w.ns) (h0 : σ[0]? = some (some (.ref a.x))) (g1 : GV t1 σ G Hc (nameV (mkNd tt s))) (g2 : GV t2 σ G Hc (wordsV (mkNd tt s)))
    (k : ∀ a' G' H', DP K CD CN a0 H H1 a' G' H' { w with ns := w.ns ++ [mkNd tt s] } → Same G G' → a'.x = a.x → D.nx σ H') :
    tDrop (tBM K "list" rAppend (tFld K (tVar 0) "_kept") (tCons (tMake CN (spNI CN) [] E0 (tCons t1 (tCons t2 tNil))) tNil)) D σ Hc := show tFld K (tVar 0) "_kept" σ Hc (fun x H1 => tyV K "list" x H1 ∧ tCons (tMake CN (spNI CN) [] E0 (tCons t1 (tCons t2 tNil))) tNil σ H1 fun xs H2 => rAppend x xs H2 fun _ H3 => D.nx σ H3) from (p.dh.kept C h0).to (.refl p.gh) fun G1 H1' p1 => by
  have q1 := p.pub p1
  refine ⟨.inl ⟨rfl, _, SqL.of q1.dh.k⟩, (g1.mono p1).to (.refl q1.gh) fun G2 H2 p2 => (g2.mono (p1.trans p2)).to (.refl (q1.pub p2).gh) fun G3 H3 p3 => fun x dx hx hdx hne => ?_⟩
  have q3 := (q1.pub p2).pub p3
  have h := q3.dh
  refine ⟨x, dx, nameV (mkNd tt s), wordsV (mkNd tt s), rfl, upd_same, fun md bl H4 hk hmd hbl hmb e1 e2 e3 => ⟨rfl, ?_⟩⟩
  have md1 : md ≠ x := fun z => by rw [z, upd_same] at hmd; cases hmd
  rw [upd_ne md1] at hmd
  have md2 : md ≠ dx := fun z => by rw [z, upd_same] at hmd; cases hmd
  rw [upd_ne md2] at hmd
  have bl1 : bl ≠ x := fun z => by rw [z, upd_same] at hbl; cases hbl
  rw [upd_ne bl1] at hbl
  have bl2 : bl ≠ dx := fun z => by rw [z, upd_same] at hbl; cases hbl
  rw [upd_ne bl2] at hbl
  have s34 : Same H3 H4 := fun b u hb => hk b u (ne_of_none hb hx) (by rw [upd_ne (ne_of_none hb hx), upd_ne (ne_of_none hb hdx)]; exact hb)
  have hkp := s34 _ _ h.k
  have hlen := o.len
  refine ⟨a.kp, _, .ref x, rfl, rfl, hkp, by rw [List.length_map, h.len, sizeLine_eq]; omega, ?_⟩
  let nn : NAd := ⟨x, dx, md, bl⟩
  let a' : DA := { a with L := a.L ++ [nn] }
  have newS : ∀ b, dS a' b → dS a b ∨ H3 b = none := by
    rintro b (z | z | z | ⟨j, n, hj, hb⟩)
    · exact .inl (.inl z)
    · exact .inl (.inr (.inl z))
    · exact .inl (.inr (.inr (.inl z)))
    · by_cases hjl : j < a.L.length
      · rw [show a'.L = a.L ++ [nn] from rfl, List.getElem?_append_left hjl] at hj
        exact .inl (.inr (.inr (.inr ⟨j, n, hj, hb⟩)))
      · rw [show a'.L = a.L ++ [nn] from rfl, List.getElem?_append_right (by omega)] at hj
        have z : j - a.L.length = 0 := by
          have := (List.getElem?_eq_some_iff.mp hj).1
          simp at this
          omega
        rw [z] at hj
        cases hj
        rcases hb with rfl | rfl | rfl
        · exact .inr hx
        · exact .inr hmd
        · exact .inr hbl
  have oldS : ∀ b, dS a b → dS a' b := by
    rintro b (z | z | z | ⟨j, n, hj, hb⟩)
    · exact .inl z
    · exact .inr (.inl z)
    · exact .inr (.inr (.inl z))
    · exact .inr (.inr (.inr ⟨j, n, by rw [show a'.L = a.L ++ [nn] from rfl, List.getElem?_append_left (List.getElem?_eq_some_iff.mp hj).1]; exact hj, hb⟩))
  have kpx : ∀ b, b ≠ a.kp → upd H4 a.kp (.lst ((a.L.map fun n => V.ref n.na) ++ [.ref x])) b = H4 b := fun b hb => upd_ne hb
  have st : Step (dS a) G3 H3 (dS a') G3 (upd H4 a.kp (.lst ((a.L.map fun n => V.ref n.na) ++ [.ref x]))) := by
    refine ⟨.refl _, same_upd2 (h.gh.trans s34) _ h.pk _, fun b u hS hb => ?_, fun b hb _ => hb, fun b hb => ?_, newS, oldS⟩
    · rw [kpx b (fun z => hS (z ▸ .inr (.inl rfl)))]
      exact s34 _ _ hb
    · by_cases z : b = a.kp
      · rw [z, upd_same]; exact fun y => nomatch y
      · rw [kpx b z]
        exact there_of s34 hb
  have cases_ : ∀ {j : Nat} {n : NAd}, a'.L[j]? = some n → (j < a.L.length ∧ a.L[j]? = some n) ∨ (j = a.L.length ∧ n = nn) := by
    intro j n hj
    by_cases hjl : j < a.L.length
    · rw [show a'.L = a.L ++ [nn] from rfl, List.getElem?_append_left hjl] at hj
      exact .inl ⟨hjl, hj⟩
    · rw [show a'.L = a.L ++ [nn] from rfl, List.getElem?_append_right (by omega)] at hj
      have z : j - a.L.length = 0 := by
        have := (List.getElem?_eq_some_iff.mp hj).1
        simp at this
        omega
      rw [z] at hj
      cases hj
      exact .inr ⟨by omega, rfl⟩
  have oldNe : ∀ {j : Nat} {n : NAd}, a.L[j]? = some n → n.na ≠ x ∧ n.md ≠ md ∧ n.bl ≠ bl := fun {j n} hj => by
    have N := h.nodes j n hj
    obtain ⟨kvs, ek, _⟩ := N.m
    exact ⟨ne_of_none N.i hx, ne_of_none ek hmd, ne_of_none N.b hbl⟩
  have hpub : ∀ b, H3 b = none → G3 b = none := fun b hb => h.gh.free hb
  have DHn : DH K CD CN a' G3 (upd H4 a.kp (.lst ((a.L.map fun n => V.ref n.na) ++ [.ref x]))) { w with ns := w.ns ++ [mkNd tt s] } := by
    refine ⟨st.gh, ?_, ?_, ?_, ?_, fun j n hj => ?_, fun i j m n hi hj he => ?_, h.kt, fun j n hj => ?_, h.px, h.pk, h.pt, fun j n hj => ?_⟩
    · rw [kpx _ (ins_ne_lst h.o h.k)]
      exact s34 _ _ h.o
    · rw [upd_same]
      show _ = some (HO.lst ((a.L ++ [nn]).map fun n => V.ref n.na))
      rw [List.map_append]
      rfl
    · obtain ⟨ys, et, rt⟩ := h.t
      exact ⟨ys, by rw [kpx _ (Ne.symm h.kt)]; exact s34 _ _ et, rt⟩
    · show (a.L ++ [nn]).length = _
      rw [List.length_append, List.length_append, h.len]; rfl
    · rcases cases_ hj with ⟨hl, hj⟩ | ⟨rfl, rfl⟩
      · have N := h.nodes j n hj
        show NodeAt CN _ n (nd (w.ns ++ [mkNd tt s]) j)
        rw [nd_app (by rw [← h.len]; exact hl)]
        obtain ⟨kvs, ek, rk⟩ := N.m
        exact ⟨by rw [kpx _ (ins_ne_lst N.i h.k)]; exact s34 _ _ N.i, ⟨kvs, by rw [kpx _ (dk_ne_lst ek h.k)]; exact s34 _ _ ek, rk⟩, by rw [kpx _ (h.kb j n hj).1]; exact s34 _ _ N.b⟩
      · show NodeAt CN _ nn (nd (w.ns ++ [mkNd tt s]) a.L.length)
        rw [h.len, nd_last]
        refine ⟨?_, ⟨[], ?_, List.nodup_nil, fun _ => rfl, fun _ z => nomatch z⟩, ?_⟩
        · rw [kpx x (fun z => by rw [z, h.k] at hx; cases hx)]
          exact e1
        · rw [kpx md (fun z => by rw [z, h.k] at hmd; cases hmd)]
          exact e2
        · rw [kpx bl (fun z => by rw [z, h.k] at hbl; cases hbl)]
          exact e3
    · rcases cases_ hi with ⟨hl, hi'⟩ | ⟨rfl, rfl⟩ <;> rcases cases_ hj with ⟨hl', hj'⟩ | ⟨rfl, rfl⟩
      · exact h.inj i j m n hi' hj' he
      · obtain ⟨n1, n2, n3⟩ := oldNe hi'
        rcases he with z | z | z
        · exact absurd z n1
        · exact absurd z n2
        · exact absurd z n3
      · obtain ⟨n1, n2, n3⟩ := oldNe hj'
        rcases he with z | z | z
        · exact absurd z.symm n1
        · exact absurd z.symm n2
        · exact absurd z.symm n3
      · rfl
    · rcases cases_ hj with ⟨hl, hj⟩ | ⟨rfl, rfl⟩
      · exact h.kb j n hj
      · obtain ⟨ys, et, _⟩ := h.t
        exact ⟨(ne_of_none h.k hbl).symm, (ne_of_none et hbl).symm, (ne_of_none h.o hx).symm⟩
    · rcases cases_ hj with ⟨hl, hj⟩ | ⟨rfl, rfl⟩
      · exact h.pn j n hj
      · exact ⟨hpub _ hx, hpub _ hmd, hpub _ hbl⟩
  exact k a' G3 _ (q3.trans st DHn rfl) (p1.hg.trans (p2.hg.trans p3.hg)) rfl
/-! ### _make, element, text -/
abbrev sDocument_make : Stmt := inClass (topS 18) 15
theorem scDocument_make : FnScope ["self", "name", "words"] ["self", "name", "words"] (defScope sDocument_make) := ⟨rfl, rfl, rfl, by decide +kernel, rfl, by decide +kernel, by decide +kernel⟩
def arMd : ArM → List PyData := fun x => [if x.1 then .none else .str x.2, if x.1 then .str x.2 else .none]
def fMd (w : Wm) (x : ArM) : Res := if 60 ≤ w.ns.length then .err (.rf "full") else .ret { w with ns := w.ns ++ [mkNd x.1 x.2] } (ofN w.ns.length)
theorem ok_dmake (T : Bt mg) (D : DC K CD CN) (X : EF K ec) (F : Fun K "_make" "Document._make" sDocument_make f fd) (kNode : Kl P W K mg base 1 "Node" CN (spNI CN)) (x_RefusedError : Ex P W K mg base 1 "RefusedError" ec.rf (spInit K ec.rf "reason")) :
    FnOk P W K mg base (L2.CX P W) 3 f fd ["self", "name", "words"] (spX K CD CN ec 2 arMd preAny fMd) := by
  refine fn_X F scDocument_make rfl fun cdv A outer s H1 E hr => ⟨_, (pss_cons (ps_if (pt_cmpR op_ge (pe_callB cr_len (by rfl) T.len PySem.boot_len (pa_cons (pe_fld (pv 0) rfl) pa_nil)) (pe_gl T.MOST_NODES) (nomark _)) (pss_one (ps_raise rfl (takes_of rfl rfl rfl rfl) (pmk_e x_RefusedError hr (by omega) (pa_cons pe_str pa_nil)))) pss_nil)
      (pss_cons (ps_expr (pe_bm PySem.F.plainAttrs_list PySem.F.slot_list_append PySem.F.type_list_append mt_append (pe_fld (pv 0) rfl) (pa_cons (pe_mk kNode hr (by omega) (pa_cons (pv 1) (pa_cons (pv 2) pa_nil))) pa_nil)))
      (pss_one (ps_ret (pe_op op_sub (pe_callB cr_len (by rfl) T.len PySem.boot_len (pa_cons (pe_fld (pv 0) rfl) pa_nil)) pe_int))))), fun a us x H w Q hl dh o dv hp kq ke => ?_⟩
  obtain ⟨tt, s⟩ := x
  obtain ⟨v, u, rfl, d1, d2⟩ := DvA.inv2 dv
  have p0 := DP.refl dh
  unfold fMd at kq ke
  have g := gt_test (gdo (K := K) (dh.len' (σ := [some (.ref a.x), some v, some u]) D rfl) (gd_int (i := 60)) (go_b2 (f := fun i j => decide (j ≤ i))))
  rw [show decide ((60 : Int) ≤ (w.ns.length : Int)) = decide (60 ≤ w.ns.length) from decide_eq_decide.mpr (by omega)] at g
  refine s_ifr (K := K) g dh.gh (fun c H2 s2 => ?_) fun c H2 s2 => ?_
  · exact r_raise (v := .str "full") (H := H2) (.refl _) X.rf.1 X.rf.2 (.inl ⟨_, rfl, by decide⟩) (fun Q' q => q _ (.refl _)) fun dd H5 s5 hx => ke (.rf "full") dd a H H5 (by rw [if_pos (of_decide_eq_true c)]) ((p0.test s2).test s5) hx
  rw [if_neg (of_decide_eq_false c)] at kq
  have q2 := p0.test s2
  have e1 : v = nameV (mkNd tt s) := by
    cases tt
    · exact Dv.str_inv d1
    · exact Dv.non_inv d1
  have e2 : u = wordsV (mkNd tt s) := by
    cases tt
    · exact Dv.non_inv d2
    · exact Dv.str_inv d2
  refine e_keep (tt := tt) (s := s) q2 D o rfl (gv_var (by rw [← e1]; rfl)) (gv_var (by rw [← e2]; rfl)) fun a' G' H' q3 s3 hx3 => ?_
  have g3 := q3.dh.len' (σ := [some (.ref a.x), some v, some u]) D (by rw [hx3]; rfl)
  rw [show ({ w with ns := w.ns ++ [mkNd tt s] } : Wm).ns.length = w.ns.length + 1 by simp] at g3
  refine s_ret (K := K) (gdo g3 gd_int go_subN) q3.gh fun v9 G9 H9 p9 d9 => ?_
  exact kq _ _ v9 a' G9 H9 rfl (q3.pub p9) d9
def arS : Str → List PyData := fun s => [.str s]
abbrev sDocument_element : Stmt := inClass (topS 18) 1
theorem scDocument_element : FnScope ["self", "name"] ["self", "name"] (defScope sDocument_element) := ⟨rfl, rfl, rfl, by decide +kernel, rfl, by decide +kernel, by decide +kernel⟩
theorem ok_element (T : Bt mg) (D : DC K CD CN) {cb : Addr} (F : Fun K "element" "Document.element" sDocument_element f fd) (m__make : Met P W K mg base (L2.CX P W) 3 CD "_make" (spX K CD CN ec 2 arMd preAny fMd)) (cis_name : Cal P W K mg base 2 "is_name" (spF K 1 preV (oneF nameD)))
    (x_InvalidArgument : Ex P W K mg base 1 "InvalidArgument" cb (spInit K cb "name")) : FnOk P W K mg base (L2.CX P W) 4 f fd ["self", "name"] (spX K CD CN ec 1 arS (fun _ s => nameB s = true) fun w s => fMd w (false, s)) := by
  refine fn_X F scDocument_element rfl fun cdv A outer s H1 E hr => ⟨_, (pss_cons (ps_if (pt_not (pt_tr (pe_k cis_name hr (by omega) (pa_cons (pv 1) pa_nil)))) (pss_one (ps_raise rfl (takes_of rfl rfl rfl rfl) (pmk_e x_InvalidArgument hr (by omega) (pa_cons pe_str pa_nil)))) pss_nil)
      (pss_one (ps_ret (pe_mX m__make hr (by omega) (passes_call (takes_of rfl rfl rfl rfl) (fun _ _ _ _ h => h)) (pv 0) (pa_cons (pv 1) (pa_cons pe_non pa_nil)))))), fun a us x H w Q hl dh o dv hp kq ke => ?_⟩
  obtain ⟨v, rfl, d1⟩ := DvA.inv1 dv
  refine s_ifr (K := K) (b := false) (gt_name (K := K) (σ := [some (.ref a.x), some v]) (t := tVar 1) hp (gd_var rfl d1)) dh.gh (fun z => nomatch z) fun _ H2 s2 => ?_
  have q2 := (DP.refl dh).test s2
  exact e_callX (ec := ec) (ar := arMd) (Pre := preAny) (f := fMd) (false, x) q2 o rfl (ga_cons (gd_var rfl d1) (ga_cons gd_non ga_nil)) rfl trivial rfl (fun w2 d' v2 a2 G2 H2 hf2 q2 s2 hx2 dd2 => kq w2 d' v2 a2 G2 H2 hf2 q2 dd2) fun e dd a' G' H' hf q' s' hx' hx => ke e dd a' G' H' hf q' hx
abbrev sDocument_text : Stmt := inClass (topS 18) 2
theorem scDocument_text : FnScope ["self", "text"] ["self", "text"] (defScope sDocument_text) := ⟨rfl, rfl, rfl, by decide +kernel, rfl, by decide +kernel, by decide +kernel⟩
theorem ok_text (T : Bt mg) (D : DC K CD CN) {cb : Addr} (F : Fun K "text" "Document.text" sDocument_text f fd) (m__make : Met P W K mg base (L2.CX P W) 3 CD "_make" (spX K CD CN ec 2 arMd preAny fMd)) (cis_plain : Cal P W K mg base 2 "is_plain" (spF K 1 preV (oneF plainD)))
    (x_InvalidArgument : Ex P W K mg base 1 "InvalidArgument" cb (spInit K cb "name")) : FnOk P W K mg base (L2.CX P W) 4 f fd ["self", "text"] (spX K CD CN ec 1 arS (fun _ s => plainT s = true) fun w s => fMd w (true, s)) := by
  refine fn_X F scDocument_text rfl fun cdv A outer s H1 E hr => ⟨_, (pss_cons (ps_if (pt_not (pt_tr (pe_k cis_plain hr (by omega) (pa_cons (pv 1) pa_nil)))) (pss_one (ps_raise rfl (takes_of rfl rfl rfl rfl) (pmk_e x_InvalidArgument hr (by omega) (pa_cons pe_str pa_nil)))) pss_nil)
      (pss_one (ps_ret (pe_mX m__make hr (by omega) (passes_call (takes_of rfl rfl rfl rfl) (fun _ _ _ _ h => h)) (pv 0) (pa_cons pe_non (pa_cons (pv 1) pa_nil)))))), fun a us x H w Q hl dh o dv hp kq ke => ?_⟩
  obtain ⟨v, rfl, d1⟩ := DvA.inv1 dv
  refine s_ifr (K := K) (b := false) (gt_plain (K := K) (σ := [some (.ref a.x), some v]) (t := tVar 1) hp (gd_var rfl d1)) dh.gh (fun z => nomatch z) fun _ H2 s2 => ?_
  have q2 := (DP.refl dh).test s2
  exact e_callX (ec := ec) (ar := arMd) (Pre := preAny) (f := fMd) (true, x) q2 o rfl (ga_cons gd_non (ga_cons (gd_var rfl d1) ga_nil)) rfl trivial rfl (fun w2 d' v2 a2 G2 H2 hf2 q2 s2 hx2 dd2 => kq w2 d' v2 a2 G2 H2 hf2 q2 dd2) fun e dd a' G' H' hf q' s' hx' hx => ke e dd a' G' H' hf q' hx
end
end LW
end
section
set_option Elab.async false
set_option linter.all false
set_option maxRecDepth 100000
set_option maxHeartbeats 4000000
namespace LW
open PySem PySem.Spec PyProof.Rows L2 DL LM
section
variable {P : Program} {W : World} {K : PySem.W.Frag} {mg : Str → Option Value} {base : Heap} {f : Addr} {fd : FuncData} {CD CN : Addr} {ec : EC} {a a0 : DA} {A A2 H H1 H2 G G2 Hc : Hp} {w : Wm} {σ : L2.St}
def w0 : Wm := ⟨[mkNd false "top"], [], []⟩
theorem ok_w0 : Ok w0.ns := by
  have e : ∀ m, m < 1 → m = 0 := fun m h => by omega
  refine ⟨by decide, by decide, rfl, rfl, fun n p hn h => ?_, fun p k hp hk => ?_, fun p hp => ?_, fun n hn => ?_, fun n hn k _ => ?_, fun n hn h => ?_⟩
  · rw [e n hn] at h; cases h
  · rw [e p hp] at hk; cases hk
  · rw [e p hp]; exact List.nodup_nil
  · rw [e n hn]; exact ⟨_, .top rfl⟩
  · rw [e n hn]; rfl
  · rw [e n hn] at h; cases h
abbrev sDocument_init : Stmt := inClass (topS 18) 0
theorem scDocument_init : FnScope ["self"] ["self"] (defScope sDocument_init) := ⟨rfl, rfl, rfl, by decide +kernel, rfl, by decide +kernel, by decide +kernel⟩
def spDI (K : PySem.W.Frag) (CD CN : Addr) : Sp := fun vs H Q _ => ∃ (x dx : Addr), vs = [.ref x] ∧ H x = some (.ins CD dx []) ∧ ∀ a H2, a.x = x → (∀ b o, b ≠ x → H b = some o → H2 b = some o) → (∀ b, dS a b → b = x ∨ H b = none) → (∀ G, Same G H → G x = none → DH K CD CN a G H2 w0) → Q .non H2
theorem ok_docInit (D : DC K CD CN) (F : Fun K "__init__" "Document.__init__" sDocument_init f fd) (kNode : Kl P W K mg base 1 "Node" CN (spNI CN)) : FnOk P W K mg base CX0 3 f fd ["self"] (spDI K CD CN) := by
  refine F.ok scDocument_init (fun vs H Q E h => ?_) (fun cdv A outer s H vs Q E hr h => ?_)
  · obtain ⟨x, dx, rfl, _⟩ := h
    rfl
  obtain ⟨x, dx, rfl, hx, q⟩ := h
  refine ⟨_, (pss_cons (ps_fld (pv 0) (pe_lst (pa_cons (pe_mk kNode hr (by omega) (pa_cons pe_str (pa_cons pe_non pa_nil))) pa_nil)) rfl)
      (pss_one (ps_fld (pv 0) (pe_lst pa_nil) rfl))), ?_⟩
  intro y dy hy hdy hne
  refine ⟨y, dy, .str "top", .non, rfl, upd_same, fun md bl H4 hk hmd hbl hmb e1 e2 e3 => ⟨rfl, ?_⟩⟩
  have md1 : md ≠ y := fun z => by rw [z, upd_same] at hmd; cases hmd
  rw [upd_ne md1] at hmd
  have md2 : md ≠ dy := fun z => by rw [z, upd_same] at hmd; cases hmd
  rw [upd_ne md2] at hmd
  have bl1 : bl ≠ y := fun z => by rw [z, upd_same] at hbl; cases hbl
  rw [upd_ne bl1] at hbl
  have bl2 : bl ≠ dy := fun z => by rw [z, upd_same] at hbl; cases hbl
  rw [upd_ne bl2] at hbl
  have s4 : Same H H4 := fun b u hb => hk b u (ne_of_none hb hy) (by rw [upd_ne (ne_of_none hb hy), upd_ne (ne_of_none hb hdy)]; exact hb)
  refine ⟨by rw [sizeLine_eq]; show 1 ≤ _; decide, fun kp hkp => ?_⟩
  have s5 : Same H4 (upd H4 kp (.lst [.ref y])) := same_new hkp _
  have hx4 := s4 _ _ hx
  have hx5 := s5 _ _ hx4
  refine ⟨.ref x, rfl, x, CD, dx, [], rfl, hx5, D.cD, D.aD.1, by decide, ?_⟩
  refine ⟨Nat.zero_le _, fun tl htl => ?_⟩
  have tx : tl ≠ x := fun z => by rw [z, upd_same] at htl; cases htl
  rw [upd_ne tx] at htl
  have tk : tl ≠ kp := fun z => by rw [z, upd_same] at htl; cases htl
  rw [upd_ne tk] at htl
  refine ⟨.ref x, rfl, x, CD, dx, _, rfl, by rw [upd_ne (Ne.symm tx), upd_same], D.cD, D.aD.2, by show 1 < 1000; decide, ?_⟩
  have kx : kp ≠ x := (ne_of_none hx4 hkp).symm
  have yx : y ≠ x := (ne_of_none hx hy).symm
  have mx : md ≠ x := (ne_of_none hx hmd).symm
  have bx : bl ≠ x := (ne_of_none hx hbl).symm
  have yk : y ≠ kp := ne_of_none e1 hkp
  have mk_ : md ≠ kp := ne_of_none e2 hkp
  have bk : bl ≠ kp := ne_of_none e3 hkp
  have yt : y ≠ tl := ne_of_none e1 htl
  have mt : md ≠ tl := ne_of_none e2 htl
  have bt : bl ≠ tl := ne_of_none e3 htl
  have kH : H kp = none := by
    cases h : H kp with
    | none => rfl
    | some u => rw [s4 _ _ h] at hkp; cases hkp
  have tH : H tl = none := by
    cases h : H tl with
    | none => rfl
    | some u => rw [s4 _ _ h] at htl; cases htl
  have fin : ∀ b, b ≠ x → b ≠ tl → b ≠ kp → upd (upd (upd (upd H4 kp (.lst [.ref y])) x (.ins CD dx (putF "_kept" (.ref kp) []))) tl (.lst [])) x (.ins CD dx (putF "_told" (.ref tl) (putF "_kept" (.ref kp) []))) b = H4 b := fun b h1 h2 h3 => by
    rw [upd_ne h1, upd_ne h2, upd_ne h1, upd_ne h3]
  refine q ⟨x, dx, kp, tl, [⟨y, dy, md, bl⟩]⟩ _ rfl (fun b o hb e => ?_) ?_ fun G hG hGx => ?_
  · rw [fin b hb (ne_of_none e tH) (ne_of_none e kH)]
    exact s4 _ _ e
  · rintro b (z | z | z | ⟨j, n, hj, hb⟩)
    · exact .inl z
    · have z : b = kp := z
      exact .inr (z ▸ kH)
    · have z : b = tl := z
      exact .inr (z ▸ tH)
    · cases j with
      | zero =>
        cases hj
        rcases hb with z | z | z
        · have z : b = y := z
          exact .inr (z ▸ hy)
        · have z : b = md := z
          exact .inr (z ▸ hmd)
        · have z : b = bl := z
          exact .inr (z ▸ hbl)
      | succ j => cases hj
  · have gn : ∀ b, H b = none → G b = none := fun b hb => hG.free hb
    have one : ∀ {j : Nat} {n : NAd}, ([⟨y, dy, md, bl⟩] : List NAd)[j]? = some n → j = 0 ∧ n = ⟨y, dy, md, bl⟩ := by
      intro j n hj
      cases j with
      | zero => cases hj; exact ⟨rfl, rfl⟩
      | succ j => cases hj
    refine ⟨fun b u hb => ?_, ?_, ?_, ⟨[], ?_, .nil⟩, rfl, fun j n hj => ?_, fun i j m n hi hj _ => ?_, Ne.symm tk, fun j n hj => ?_, hGx, gn _ kH, gn _ tH, fun j n hj => ?_⟩
    · have hb' := hG _ _ hb
      rw [fin b (fun z => by rw [z, hGx] at hb; cases hb) (ne_of_none hb' tH) (ne_of_none hb' kH)]
      exact s4 _ _ hb'
    · show upd _ x _ x = _
      rw [upd_same]; rfl
    · show upd _ x _ kp = _
      rw [upd_ne kx, upd_ne (Ne.symm tk), upd_ne kx, upd_same]; rfl
    · show upd _ x _ tl = _
      rw [upd_ne tx, upd_same]
    · obtain ⟨rfl, rfl⟩ := one hj
      refine ⟨?_, ⟨[], ?_, List.nodup_nil, fun _ => rfl, fun _ z => nomatch z⟩, ?_⟩
      · show upd _ x _ y = _
        rw [fin y yx yt yk]; exact e1
      · show upd _ x _ md = _
        rw [fin md mx mt mk_]; exact e2
      · show upd _ x _ bl = _
        rw [fin bl bx bt bk]; exact e3
    · rw [(one hi).1, (one hj).1]
    · obtain ⟨rfl, rfl⟩ := one hj
      exact ⟨bk, bt, yx⟩
    · obtain ⟨rfl, rfl⟩ := one hj
      exact ⟨gn _ hy, gn _ hmd, gn _ hbl⟩
/-! ### _law_blank -/
abbrev s_law_blank : Stmt := topS 22
theorem sc_law_blank : FnScope [] [] (defScope s_law_blank) := ⟨rfl, rfl, rfl, by decide +kernel, rfl, by decide +kernel, by decide +kernel⟩
def spBl (K : PySem.W.Frag) : Sp := fun vs H Q _ => vs = [] ∧ ∀ wd fl H2, (∀ G, Same G H → ∃ G', Pub G H G' H2 ∧ WH K wd fl G' H2 w0) → (∀ b, wS wd fl b → H b = none) → Q (.ref wd) H2
theorem ok_blank (F : Fun K "_law_blank" "_law_blank" s_law_blank f fd) : FnOk P W K mg base CX0 1 f fd [] (spBl K) := by
  refine F.ok sc_law_blank (fun vs H Q E h => by rw [h.1]; rfl) (fun cdv A outer s H vs Q E hr h => ?_)
  obtain ⟨rfl, q⟩ := h
  refine ⟨_, (pss_one (ps_ret (pe_disp (pps_cons pe_str (pe_lst (pa_cons pe_str pa_nil)) (pps_cons pe_str (pe_lst (pa_cons pe_str pa_nil)) (pps_cons pe_str (pe_lst (pa_cons pe_dnewK pa_nil)) (pps_cons pe_str (pe_lst (pa_cons (pe_lst pa_nil) pa_nil)) (pps_cons pe_str (pe_lst (pa_cons pe_non pa_nil)) (pps_cons pe_str (pe_lst pa_nil) (pps_cons pe_str (pe_lst pa_nil) pps_nil))))))) (by rfl) (by rfl) (fun z => by cases z) (by decide)))), ?_⟩
  have hz : ∀ {v : V}, [v].length ≤ sizeLine := fun {v} => by rw [sizeLine_eq]; show 1 ≤ _; decide
  intro wd hwd
  have s1 := same_new hwd (.dK [])
  refine ⟨hz, fun f0 h0 => ?_⟩
  have s2 := same_new h0 (.lst [.str "e"])
  refine ⟨hz, fun f1 h1 => ?_⟩
  have s3 := same_new h1 (.lst [.str "top"])
  intro md hmd
  have s4 := same_new hmd (.dK [])
  refine ⟨hz, fun f2 h2 => ?_⟩
  have s5 := same_new h2 (.lst [.ref md])
  refine ⟨Nat.zero_le _, fun kd hkd => ?_⟩
  have s6 := same_new hkd (.lst [])
  refine ⟨hz, fun f3 h3 => ?_⟩
  have s7 := same_new h3 (.lst [.ref kd])
  refine ⟨hz, fun f4 h4 => ?_⟩
  have s8 := same_new h4 (.lst [.non])
  refine ⟨Nat.zero_le _, fun f5 h5 => ?_⟩
  have s9 := same_new h5 (.lst [])
  refine ⟨Nat.zero_le _, fun f6 h6 => ?_⟩
  have s10 := same_new h6 (.lst [])
  have z1 : (upd H wd (.dK [])) wd = some (.dK []) := upd_same
  have y_wd : (upd H wd (.dK [])) wd = some (.dK []) := upd_same
  have y_wd_2 := s2 _ _ y_wd
  have y_wd_3 := s3 _ _ y_wd_2
  have y_wd_4 := s4 _ _ y_wd_3
  have y_wd_5 := s5 _ _ y_wd_4
  have y_wd_6 := s6 _ _ y_wd_5
  have y_wd_7 := s7 _ _ y_wd_6
  have y_wd_8 := s8 _ _ y_wd_7
  have y_wd_9 := s9 _ _ y_wd_8
  have y_wd_10 := s10 _ _ y_wd_9
  have y_f0 : (upd (upd H wd (.dK [])) f0 (.lst [.str "e"])) f0 = some (.lst [.str "e"]) := upd_same
  have y_f0_3 := s3 _ _ y_f0
  have y_f0_4 := s4 _ _ y_f0_3
  have y_f0_5 := s5 _ _ y_f0_4
  have y_f0_6 := s6 _ _ y_f0_5
  have y_f0_7 := s7 _ _ y_f0_6
  have y_f0_8 := s8 _ _ y_f0_7
  have y_f0_9 := s9 _ _ y_f0_8
  have y_f0_10 := s10 _ _ y_f0_9
  have y_f1 : (upd (upd (upd H wd (.dK [])) f0 (.lst [.str "e"])) f1 (.lst [.str "top"])) f1 = some (.lst [.str "top"]) := upd_same
  have y_f1_4 := s4 _ _ y_f1
  have y_f1_5 := s5 _ _ y_f1_4
  have y_f1_6 := s6 _ _ y_f1_5
  have y_f1_7 := s7 _ _ y_f1_6
  have y_f1_8 := s8 _ _ y_f1_7
  have y_f1_9 := s9 _ _ y_f1_8
  have y_f1_10 := s10 _ _ y_f1_9
  have y_md : (upd (upd (upd (upd H wd (.dK [])) f0 (.lst [.str "e"])) f1 (.lst [.str "top"])) md (.dK [])) md = some (.dK []) := upd_same
  have y_md_5 := s5 _ _ y_md
  have y_md_6 := s6 _ _ y_md_5
  have y_md_7 := s7 _ _ y_md_6
  have y_md_8 := s8 _ _ y_md_7
  have y_md_9 := s9 _ _ y_md_8
  have y_md_10 := s10 _ _ y_md_9
  have y_f2 : (upd (upd (upd (upd (upd H wd (.dK [])) f0 (.lst [.str "e"])) f1 (.lst [.str "top"])) md (.dK [])) f2 (.lst [.ref md])) f2 = some (.lst [.ref md]) := upd_same
  have y_f2_6 := s6 _ _ y_f2
  have y_f2_7 := s7 _ _ y_f2_6
  have y_f2_8 := s8 _ _ y_f2_7
  have y_f2_9 := s9 _ _ y_f2_8
  have y_f2_10 := s10 _ _ y_f2_9
  have y_kd : (upd (upd (upd (upd (upd (upd H wd (.dK [])) f0 (.lst [.str "e"])) f1 (.lst [.str "top"])) md (.dK [])) f2 (.lst [.ref md])) kd (.lst [])) kd = some (.lst []) := upd_same
  have y_kd_7 := s7 _ _ y_kd
  have y_kd_8 := s8 _ _ y_kd_7
  have y_kd_9 := s9 _ _ y_kd_8
  have y_kd_10 := s10 _ _ y_kd_9
  have y_f3 : (upd (upd (upd (upd (upd (upd (upd H wd (.dK [])) f0 (.lst [.str "e"])) f1 (.lst [.str "top"])) md (.dK [])) f2 (.lst [.ref md])) kd (.lst [])) f3 (.lst [.ref kd])) f3 = some (.lst [.ref kd]) := upd_same
  have y_f3_8 := s8 _ _ y_f3
  have y_f3_9 := s9 _ _ y_f3_8
  have y_f3_10 := s10 _ _ y_f3_9
  have y_f4 : (upd (upd (upd (upd (upd (upd (upd (upd H wd (.dK [])) f0 (.lst [.str "e"])) f1 (.lst [.str "top"])) md (.dK [])) f2 (.lst [.ref md])) kd (.lst [])) f3 (.lst [.ref kd])) f4 (.lst [.non])) f4 = some (.lst [.non]) := upd_same
  have y_f4_9 := s9 _ _ y_f4
  have y_f4_10 := s10 _ _ y_f4_9
  have y_f5 : (upd (upd (upd (upd (upd (upd (upd (upd (upd H wd (.dK [])) f0 (.lst [.str "e"])) f1 (.lst [.str "top"])) md (.dK [])) f2 (.lst [.ref md])) kd (.lst [])) f3 (.lst [.ref kd])) f4 (.lst [.non])) f5 (.lst [])) f5 = some (.lst []) := upd_same
  have y_f5_10 := s10 _ _ y_f5
  have y_f6 : (upd (upd (upd (upd (upd (upd (upd (upd (upd (upd H wd (.dK [])) f0 (.lst [.str "e"])) f1 (.lst [.str "top"])) md (.dK [])) f2 (.lst [.ref md])) kd (.lst [])) f3 (.lst [.ref kd])) f4 (.lst [.non])) f5 (.lst [])) f6 (.lst [])) f6 = some (.lst []) := upd_same
  have n_wd_f0 : wd ≠ f0 := ne_of_none y_wd h0
  have n_wd_f1 : wd ≠ f1 := ne_of_none y_wd_2 h1
  have n_wd_md : wd ≠ md := ne_of_none y_wd_3 hmd
  have n_wd_f2 : wd ≠ f2 := ne_of_none y_wd_4 h2
  have n_wd_kd : wd ≠ kd := ne_of_none y_wd_5 hkd
  have n_wd_f3 : wd ≠ f3 := ne_of_none y_wd_6 h3
  have n_wd_f4 : wd ≠ f4 := ne_of_none y_wd_7 h4
  have n_wd_f5 : wd ≠ f5 := ne_of_none y_wd_8 h5
  have n_wd_f6 : wd ≠ f6 := ne_of_none y_wd_9 h6
  have n_f0_f1 : f0 ≠ f1 := ne_of_none y_f0 h1
  have n_f0_md : f0 ≠ md := ne_of_none y_f0_3 hmd
  have n_f0_f2 : f0 ≠ f2 := ne_of_none y_f0_4 h2
  have n_f0_kd : f0 ≠ kd := ne_of_none y_f0_5 hkd
  have n_f0_f3 : f0 ≠ f3 := ne_of_none y_f0_6 h3
  have n_f0_f4 : f0 ≠ f4 := ne_of_none y_f0_7 h4
  have n_f0_f5 : f0 ≠ f5 := ne_of_none y_f0_8 h5
  have n_f0_f6 : f0 ≠ f6 := ne_of_none y_f0_9 h6
  have n_f1_md : f1 ≠ md := ne_of_none y_f1 hmd
  have n_f1_f2 : f1 ≠ f2 := ne_of_none y_f1_4 h2
  have n_f1_kd : f1 ≠ kd := ne_of_none y_f1_5 hkd
  have n_f1_f3 : f1 ≠ f3 := ne_of_none y_f1_6 h3
  have n_f1_f4 : f1 ≠ f4 := ne_of_none y_f1_7 h4
  have n_f1_f5 : f1 ≠ f5 := ne_of_none y_f1_8 h5
  have n_f1_f6 : f1 ≠ f6 := ne_of_none y_f1_9 h6
  have n_md_f2 : md ≠ f2 := ne_of_none y_md h2
  have n_md_kd : md ≠ kd := ne_of_none y_md_5 hkd
  have n_md_f3 : md ≠ f3 := ne_of_none y_md_6 h3
  have n_md_f4 : md ≠ f4 := ne_of_none y_md_7 h4
  have n_md_f5 : md ≠ f5 := ne_of_none y_md_8 h5
  have n_md_f6 : md ≠ f6 := ne_of_none y_md_9 h6
  have n_f2_kd : f2 ≠ kd := ne_of_none y_f2 hkd
  have n_f2_f3 : f2 ≠ f3 := ne_of_none y_f2_6 h3
  have n_f2_f4 : f2 ≠ f4 := ne_of_none y_f2_7 h4
  have n_f2_f5 : f2 ≠ f5 := ne_of_none y_f2_8 h5
  have n_f2_f6 : f2 ≠ f6 := ne_of_none y_f2_9 h6
  have n_kd_f3 : kd ≠ f3 := ne_of_none y_kd h3
  have n_kd_f4 : kd ≠ f4 := ne_of_none y_kd_7 h4
  have n_kd_f5 : kd ≠ f5 := ne_of_none y_kd_8 h5
  have n_kd_f6 : kd ≠ f6 := ne_of_none y_kd_9 h6
  have n_f3_f4 : f3 ≠ f4 := ne_of_none y_f3 h4
  have n_f3_f5 : f3 ≠ f5 := ne_of_none y_f3_8 h5
  have n_f3_f6 : f3 ≠ f6 := ne_of_none y_f3_9 h6
  have n_f4_f5 : f4 ≠ f5 := ne_of_none y_f4 h5
  have n_f4_f6 : f4 ≠ f6 := ne_of_none y_f4_9 h6
  have n_f5_f6 : f5 ≠ f6 := ne_of_none y_f5 h6
  have o_wd : H wd = none := by
    have z := hwd
    exact z
  have o_f0 : H f0 = none := by
    have z := h0
    rw [upd_ne (Ne.symm n_wd_f0)] at z
    exact z
  have o_f1 : H f1 = none := by
    have z := h1
    rw [upd_ne (Ne.symm n_f0_f1)] at z
    rw [upd_ne (Ne.symm n_wd_f1)] at z
    exact z
  have o_md : H md = none := by
    have z := hmd
    rw [upd_ne (Ne.symm n_f1_md)] at z
    rw [upd_ne (Ne.symm n_f0_md)] at z
    rw [upd_ne (Ne.symm n_wd_md)] at z
    exact z
  have o_f2 : H f2 = none := by
    have z := h2
    rw [upd_ne (Ne.symm n_md_f2)] at z
    rw [upd_ne (Ne.symm n_f1_f2)] at z
    rw [upd_ne (Ne.symm n_f0_f2)] at z
    rw [upd_ne (Ne.symm n_wd_f2)] at z
    exact z
  have o_kd : H kd = none := by
    have z := hkd
    rw [upd_ne (Ne.symm n_f2_kd)] at z
    rw [upd_ne (Ne.symm n_md_kd)] at z
    rw [upd_ne (Ne.symm n_f1_kd)] at z
    rw [upd_ne (Ne.symm n_f0_kd)] at z
    rw [upd_ne (Ne.symm n_wd_kd)] at z
    exact z
  have o_f3 : H f3 = none := by
    have z := h3
    rw [upd_ne (Ne.symm n_kd_f3)] at z
    rw [upd_ne (Ne.symm n_f2_f3)] at z
    rw [upd_ne (Ne.symm n_md_f3)] at z
    rw [upd_ne (Ne.symm n_f1_f3)] at z
    rw [upd_ne (Ne.symm n_f0_f3)] at z
    rw [upd_ne (Ne.symm n_wd_f3)] at z
    exact z
  have o_f4 : H f4 = none := by
    have z := h4
    rw [upd_ne (Ne.symm n_f3_f4)] at z
    rw [upd_ne (Ne.symm n_kd_f4)] at z
    rw [upd_ne (Ne.symm n_f2_f4)] at z
    rw [upd_ne (Ne.symm n_md_f4)] at z
    rw [upd_ne (Ne.symm n_f1_f4)] at z
    rw [upd_ne (Ne.symm n_f0_f4)] at z
    rw [upd_ne (Ne.symm n_wd_f4)] at z
    exact z
  have o_f5 : H f5 = none := by
    have z := h5
    rw [upd_ne (Ne.symm n_f4_f5)] at z
    rw [upd_ne (Ne.symm n_f3_f5)] at z
    rw [upd_ne (Ne.symm n_kd_f5)] at z
    rw [upd_ne (Ne.symm n_f2_f5)] at z
    rw [upd_ne (Ne.symm n_md_f5)] at z
    rw [upd_ne (Ne.symm n_f1_f5)] at z
    rw [upd_ne (Ne.symm n_f0_f5)] at z
    rw [upd_ne (Ne.symm n_wd_f5)] at z
    exact z
  have o_f6 : H f6 = none := by
    have z := h6
    rw [upd_ne (Ne.symm n_f5_f6)] at z
    rw [upd_ne (Ne.symm n_f4_f6)] at z
    rw [upd_ne (Ne.symm n_f3_f6)] at z
    rw [upd_ne (Ne.symm n_kd_f6)] at z
    rw [upd_ne (Ne.symm n_f2_f6)] at z
    rw [upd_ne (Ne.symm n_md_f6)] at z
    rw [upd_ne (Ne.symm n_f1_f6)] at z
    rw [upd_ne (Ne.symm n_f0_f6)] at z
    rw [upd_ne (Ne.symm n_wd_f6)] at z
    exact z
  let fl : Nat → Addr := fun i => match i with | 0 => f0 | 1 => f1 | 2 => f2 | 3 => f3 | 4 => f4 | 5 => f5 | _ => f6
  refine ⟨y_wd_10, wdk fl, rfl, by show 7 ≤ 15; decide, ?_⟩
  have em : mergeK [] (wdk fl) = wdk fl := rfl
  rw [em]
  refine q wd fl _ (fun G hG => ?_) ?_
  · have gn : ∀ b, H b = none → G b = none := fun b hb => hG.free hb
    have P1 := (Pub.refl hG).newP hwd (.dK [])
    have P2 := P1.newP h0 (.lst [.str "e"])
    have P3 := P2.newP h1 (.lst [.str "top"])
    have P4 := P3.new hmd (.dK [])
    have P5 := P4.newP h2 (.lst [.ref md])
    have P6 := P5.new hkd (.lst [])
    have P7 := P6.newP h3 (.lst [.ref kd])
    have P8 := P7.newP h4 (.lst [.non])
    have P9 := P8.newP h5 (.lst [])
    have P10 := P9.newP h6 (.lst [])
    have gw : (upd (upd G md (.dK [])) kd (.lst [])) wd = none := by rw [upd_ne n_wd_kd, upd_ne n_wd_md]; exact gn _ o_wd
    have P11 := P10.put o_wd gw (.dK (wdk fl))
    have gmd : (upd (upd G md (.dK [])) kd (.lst [])) md = some (.dK []) := by rw [upd_ne n_md_kd, upd_same]
    have gkd : (upd (upd G md (.dK [])) kd (.lst [])) kd = some (.lst []) := upd_same
    have one : ∀ {R : V → Nd → Prop} {v : V}, R v (mkNd false "top") → LR R [v] w0.ns := fun r => ⟨rfl, fun i x hx => by
      cases i with
      | zero => cases hx; exact ⟨_, rfl, r⟩
      | succ i => cases hx⟩
    refine ⟨_, P11, ⟨P11.gh, upd_same, fun i hi => ?_, ⟨[], ?_, .nil⟩, ⟨[], ?_, .nil⟩, fun i j hi hj e => ?_, fun i hi => ?_, gw⟩⟩
    · match i, hi with
      | 0, _ => exact ⟨_, (upd_ne (Ne.symm n_wd_f0)).trans y_f0_10, one (.str _)⟩
      | 1, _ => exact ⟨_, (upd_ne (Ne.symm n_wd_f1)).trans y_f1_10, one (.str _)⟩
      | 2, _ => exact ⟨_, (upd_ne (Ne.symm n_wd_f2)).trans y_f2_10, one ⟨md, rfl, [], gmd, List.nodup_nil, fun _ => rfl, fun _ z => nomatch z⟩⟩
      | 3, _ => exact ⟨_, (upd_ne (Ne.symm n_wd_f3)).trans y_f3_10, one (.lst (.inl gkd) .nil)⟩
      | 4, _ => exact ⟨_, (upd_ne (Ne.symm n_wd_f4)).trans y_f4_10, one .non⟩
    · exact (upd_ne (Ne.symm n_wd_f5)).trans y_f5_10
    · exact (upd_ne (Ne.symm n_wd_f6)).trans y_f6
    · match i, j, hi, hj, e with
      | 0, 0, _, _, _ => rfl
      | 0, 1, _, _, e => exact absurd e n_f0_f1
      | 0, 2, _, _, e => exact absurd e n_f0_f2
      | 0, 3, _, _, e => exact absurd e n_f0_f3
      | 0, 4, _, _, e => exact absurd e n_f0_f4
      | 0, 5, _, _, e => exact absurd e n_f0_f5
      | 0, 6, _, _, e => exact absurd e n_f0_f6
      | 1, 0, _, _, e => exact absurd e.symm n_f0_f1
      | 1, 1, _, _, _ => rfl
      | 1, 2, _, _, e => exact absurd e n_f1_f2
      | 1, 3, _, _, e => exact absurd e n_f1_f3
      | 1, 4, _, _, e => exact absurd e n_f1_f4
      | 1, 5, _, _, e => exact absurd e n_f1_f5
      | 1, 6, _, _, e => exact absurd e n_f1_f6
      | 2, 0, _, _, e => exact absurd e.symm n_f0_f2
      | 2, 1, _, _, e => exact absurd e.symm n_f1_f2
      | 2, 2, _, _, _ => rfl
      | 2, 3, _, _, e => exact absurd e n_f2_f3
      | 2, 4, _, _, e => exact absurd e n_f2_f4
      | 2, 5, _, _, e => exact absurd e n_f2_f5
      | 2, 6, _, _, e => exact absurd e n_f2_f6
      | 3, 0, _, _, e => exact absurd e.symm n_f0_f3
      | 3, 1, _, _, e => exact absurd e.symm n_f1_f3
      | 3, 2, _, _, e => exact absurd e.symm n_f2_f3
      | 3, 3, _, _, _ => rfl
      | 3, 4, _, _, e => exact absurd e n_f3_f4
      | 3, 5, _, _, e => exact absurd e n_f3_f5
      | 3, 6, _, _, e => exact absurd e n_f3_f6
      | 4, 0, _, _, e => exact absurd e.symm n_f0_f4
      | 4, 1, _, _, e => exact absurd e.symm n_f1_f4
      | 4, 2, _, _, e => exact absurd e.symm n_f2_f4
      | 4, 3, _, _, e => exact absurd e.symm n_f3_f4
      | 4, 4, _, _, _ => rfl
      | 4, 5, _, _, e => exact absurd e n_f4_f5
      | 4, 6, _, _, e => exact absurd e n_f4_f6
      | 5, 0, _, _, e => exact absurd e.symm n_f0_f5
      | 5, 1, _, _, e => exact absurd e.symm n_f1_f5
      | 5, 2, _, _, e => exact absurd e.symm n_f2_f5
      | 5, 3, _, _, e => exact absurd e.symm n_f3_f5
      | 5, 4, _, _, e => exact absurd e.symm n_f4_f5
      | 5, 5, _, _, _ => rfl
      | 5, 6, _, _, e => exact absurd e n_f5_f6
      | 6, 0, _, _, e => exact absurd e.symm n_f0_f6
      | 6, 1, _, _, e => exact absurd e.symm n_f1_f6
      | 6, 2, _, _, e => exact absurd e.symm n_f2_f6
      | 6, 3, _, _, e => exact absurd e.symm n_f3_f6
      | 6, 4, _, _, e => exact absurd e.symm n_f4_f6
      | 6, 5, _, _, e => exact absurd e.symm n_f5_f6
      | 6, 6, _, _, _ => rfl
    · match i, hi with
      | 0, _ => show (upd (upd G md _) kd _) f0 = none; rw [upd_ne n_f0_kd, upd_ne n_f0_md]; exact gn _ o_f0
      | 1, _ => show (upd (upd G md _) kd _) f1 = none; rw [upd_ne n_f1_kd, upd_ne n_f1_md]; exact gn _ o_f1
      | 2, _ => show (upd (upd G md _) kd _) f2 = none; rw [upd_ne n_f2_kd, upd_ne (Ne.symm n_md_f2)]; exact gn _ o_f2
      | 3, _ => show (upd (upd G md _) kd _) f3 = none; rw [upd_ne (Ne.symm n_kd_f3), upd_ne (Ne.symm n_md_f3)]; exact gn _ o_f3
      | 4, _ => show (upd (upd G md _) kd _) f4 = none; rw [upd_ne (Ne.symm n_kd_f4), upd_ne (Ne.symm n_md_f4)]; exact gn _ o_f4
      | 5, _ => show (upd (upd G md _) kd _) f5 = none; rw [upd_ne (Ne.symm n_kd_f5), upd_ne (Ne.symm n_md_f5)]; exact gn _ o_f5
      | 6, _ => show (upd (upd G md _) kd _) f6 = none; rw [upd_ne (Ne.symm n_kd_f6), upd_ne (Ne.symm n_md_f6)]; exact gn _ o_f6
  · rintro b (rfl | ⟨i, hi, rfl⟩)
    · exact o_wd
    · match i, hi with
      | 0, _ => exact o_f0
      | 1, _ => exact o_f1
      | 2, _ => exact o_f2
      | 3, _ => exact o_f3
      | 4, _ => exact o_f4
      | 5, _ => exact o_f5
      | 6, _ => exact o_f6
end
end LW
end
section
set_option Elab.async false
set_option linter.all false
set_option maxRecDepth 100000
set_option maxHeartbeats 4000000
/-! try with several clauses, each with a name of its own -/
namespace LW
open PySem PySem.Spec PyProof.Rows L2
/-- the ends behind a clause whose name stands at slot i: the name goes -/
def forget (i : Nat) (D : Ends) : Ends where
  nx := fun σ H => D.nx (σ.set i none) H
  rt := D.rt
  bk := fun σ H => D.bk (σ.set i none) H
  ct := fun σ H => D.ct (σ.set i none) H
abbrev Clause := Value × Nat × (Addr → Value → Option Addr → TS)
/-- what the clauses want, from the first on -/
def wNamed (K : PySem.W.Frag) (Wo : WX) (D : Ends) : List Clause → WX
  | [] => Wo
  | (c, i, ts) :: r => fun cls d σ H => ∃ y, PySem.W.exmOne K cls c = some y ∧ (y = true → ∀ a, H a = none → ts a cls d (forget i D) (σ.set i (some (.ref a))) H) ∧ (y = false → wNamed K Wo D r cls d σ H)
inductive Named (X : Cx) : List ExceptHandler → List Clause → Prop
  | nil : Named X [] []
  | cons {x n : Str} {c : Value} {i : Nat} {ts : Addr → Value → Option Addr → TS} {s1 : Stmt} {ss : List Stmt} {np pp : Pos} {hds : List ExceptHandler} {l : List Clause} (hc : Names X x c) (hi : X.N[i]? = some n) (hn : X.env.kindOf n = some .local)
      (hs : ∀ a oe cls d pn, Zc cls d oe → (∃ vs, oe.data = .fields vs) → PSs (X.suite a ((a, oe) :: pn)) (s1 :: ss) (ts a cls d)) (r : Named X hds l) :
      Named X (.ExceptHandler (some (.Name x np)) (some n) (s1 :: ss) pp :: hds) ((c, i, ts) :: l)
section
variable {X : Cx} {body : List Stmt} {h1 : ExceptHandler} {hds : List ExceptHandler} {l : List Clause} {pos : Pos} {tb : WX → TS} {Wo : WX}
theorem ps_try_named (st : X.stack = X.env :: X.outer) (fr : X.env.frame = some X.env.locals) (nd : X.N.Nodup) (tk : Takes X Wo)
    (hb : ∀ (W : WX) (pn : List (Addr × Obj)) (xe : Value → Shared → Prop), Takes (X.tr pn xe) W → PassesOwn (model X.prog X.w) X.A X.env xe → PSs (X.tr pn xe) body (tb W))
    (hh : Named X (h1 :: hds) l) : PS X (.Try body (h1 :: hds) [] [] pos) (fun D σ H => tb (wNamed X.K Wo D l) D σ H) := by
  refine ⟨fun pins s0 σ0 H0 D I0 start => ?_⟩
  have okX := I0.ok
  have frs_ : X.A.frames = some (X.env :: X.outer) := by rw [okX.frames, st]
  -- what the exception meets
  let meet : Value → Shared → Prop := fun e sA => wpAny (model X.prog X.w) X.A (noteFrame e X.env)
    (fun _ sB => wpAny (model X.prog X.w) X.A (setFlight e none)
      (fun _ sC => wpAny (model X.prog X.w) X.A (handleBy e X.env (h1 :: hds)) (SP X pins D) X.xe sC) X.xe sB) X.xe sA
  have catch_ : Takes (X.tr (X.pn ++ pins) meet) (wNamed X.K Wo D l) := by
    intro u sX xx
    obtain ⟨e, B, sI, pn', σ, H, cls, d, rfl, JI, nb, up0, sky, na, os, ag, want⟩ := xx
    have J : Inv X pins σ H sI := JI.ofTry okX
    have sky2 : Sky B (X.env :: X.outer) e (Zc cls d) X.env.locals sX.heap := by rw [← st]; exact sky
    show wpAny (model X.prog X.w) X.A (noteFrame (.ref e) X.env) _ _ _
    refine Sky.land Zc.steady frs_ fr sky2 fun hp fly upA => ?_
    have JA : Inv X pins σ H { sX with heap := hp } := J.landed nb fly.1 (up0.trans upA) os ag
    obtain ⟨oe, fs, hoe, zoe, doe⟩ := fly.there
    have apart : e ∉ frs (X.env :: X.outer) := fun hm => by
      obtain ⟨_, o2, e2, nf⟩ := fly.2.2.1.mem hm
      rw [hoe] at e2
      cases e2
      exact nf _ doe
    have eL : e ≠ X.env.locals := fun z => apart (List.mem_filterMap.mpr ⟨X.env, .head _, by rw [fr, z]⟩)
    have eF : e ∉ X.fs := fun hm => by
      obtain ⟨v, hv, q⟩ := List.mem_filterMap.mp hm
      exact apart (List.mem_filterMap.mpr ⟨v, .tail _ hv, q⟩)
    have SA := JA.suite hoe doe na eL eF
    suffices walk : ∀ (hds2 : List ExceptHandler) (l2 : List Clause), Named X hds2 l2 → wNamed X.K Wo D l2 cls d σ H → wpAny (model X.prog X.w) X.A (handleBy (.ref e) X.env hds2) (SP X pins D) X.xe { sX with heap := hp } from walk _ _ hh want
    intro hds2 l2 hN
    induction hN with
    | nil =>
      intro wo
      refine wpAny_handleBy_nil ?_
      obtain ⟨_, _, _, oe', vs, T, _, _, he, _, hd, hv1, _⟩ := id fly
      unfold PySem.passOn
      refine wpAny_bind (wpAny_field he hd hv1 ?_)
      rw [if_neg (show ¬ ((Value.ref T == Value.none) = true) by simp)]
      have up_ : wpAny (model X.prog X.w) X.A (setFlight (.ref e) X.env.frame)
          (fun _ sZ => wpAny (model X.prog X.w) X.A (throw (.ref e) : Sem Flow) (SP X pins D) X.xe sZ) X.xe { sX with heap := hp } := by
        rw [fr]
        exact HandSPX.setFlight_upZ fly fun hq held upB => wpAny_throw (tk _ _ ⟨e, B, sI, pins, σ, H, cls, d, rfl, J, nb, (up0.trans upA).trans upB, .inr (.inr (by rw [st]; exact held)), na, os, ag, wo⟩)
      first
        | exact wpAny_bind (wpAny_pure (wpAny_bind up_))
        | exact wpAny_bind up_
    | @cons x n c i ts s1 ss np pp hds3 l3 hc hi hn hs r ih =>
      intro wo
      obtain ⟨y, hy, yes, no⟩ := wo
      refine wpAny_handleBy_cons (codeAny_handlers_test ?_) (by intro q; cases q)
      have looks := PySem.W.exm_one (M := model X.prog X.w) JA.kIn (fun A Q E s k q => wpAny_typeOf_ref (k _ _ hoe) (by rw [zoe.1]; exact q)) hy
      have name : ∀ {Q : Value → Shared → Prop} {E : Value → Shared → Prop}, Q c { sX with heap := hp } →
          wpAny (model X.prog X.w) (X.A.mark (some (.ref e))) (eval (.Name x np) X.env) Q E { sX with heap := hp } := by
        intro Q E q
        obtain ⟨g1, g2, g3⟩ := hc
        rcases g3 with g3 | ⟨g3, g4, g5⟩
        · exact ld_glob (X := X.suite e ((e, oe) :: (X.pn ++ pins))) SA g1 g3 q g2
        · exact ld_blt (X := X.suite e ((e, oe) :: (X.pn ++ pins))) SA g1 g3 g4 q g5 g2
      refine name (looks.here ?_)
      cases y with
      | false =>
        show wpAny _ X.A (handleBy (.ref e) X.env hds3) _ _ _
        exact ih (no rfl)
      | true =>
        refine codeAny_handlers_suite_as ?_
        refine HandSPX.lands_againZ fly fun hp2 fly2 upB => ?_
        have JB : Inv X pins σ H { sX with heap := hp2 } := J.landed nb fly2.1 ((up0.trans upA).trans upB) os ag
        obtain ⟨oe2, fs2, hoe2, zoe2, doe2⟩ := fly2.there
        refine store_ok (X := X.suite e ((e, oe2) :: (X.pn ++ pins))) (v := .ref e) (JB.suite hoe2 doe2 na eL eF) nd hi (.inl hn) rfl (fun sC SC => ?_) (.inr hn)
        have ran := (hs e oe2 cls d (X.pn ++ pins) zoe2 ⟨_, doe2⟩).run [] sC _ H _ SC (yes rfl e na)
        refine wpAny_mono ran (fun fl sD out => ?_) fun _ _ z => z.elim
        have leave : ∀ {σD : L2.St} {HD : Hp} {Q : Shared → Prop}, Inv (X.suite e ((e, oe2) :: (X.pn ++ pins))) [] σD HD sD → (∀ sE, Inv X pins (σD.set i none) HD sE → Q sE) →
            wpAny (model X.prog X.w) X.A (do bindName X.env n .none; unbindBehindTheSuite X.env n pp) (fun _ sE => Q sE) X.xe sD :=
          fun SD q => gone_ok (SD.unsuite okX) nd hi hn q
        cases fl with
        | ret v =>
          obtain ⟨x1, x2, x3, x4, x5, x6⟩ := out
          exact leave x4 fun sE JE => ⟨_, _, _, JE, x5, x6⟩
        | next =>
          obtain ⟨x2, x3, x4, x6⟩ := out
          exact leave x4 fun sE JE => ⟨_, _, JE, x6⟩
        | brk =>
          obtain ⟨x2, x3, x4, x6⟩ := out
          exact leave x4 fun sE JE => ⟨_, _, JE, x6⟩
        | cont =>
          obtain ⟨x2, x3, x4, x6⟩ := out
          exact leave x4 fun sE JE => ⟨_, _, JE, x6⟩
  refine wpAny_Try_except ?_
  have runs := (hb (wNamed X.K Wo D l) (X.pn ++ pins) meet catch_ PassesOwn.looking).run [] s0 σ0 H0 D (I0.toTry _) start
  refine wpAny_mono runs (fun fl sZ out => ?_) fun e sZ he => he
  cases fl with
  | ret v =>
    obtain ⟨x1, x2, x3, x4, x5, x6⟩ := out
    exact ⟨x1, x2, x3, x4.ofTry okX, x5, x6⟩
  | next =>
    obtain ⟨x2, x3, x4, x6⟩ := out
    exact wpAny_execs_nil ⟨x2, x3, x4.ofTry okX, x6⟩
  | brk =>
    obtain ⟨x2, x3, x4, x6⟩ := out
    exact ⟨x2, x3, x4.ofTry okX, x6⟩
  | cont =>
    obtain ⟨x2, x3, x4, x6⟩ := out
    exact ⟨x2, x3, x4.ofTry okX, x6⟩
end
end LW
end
section
set_option Elab.async false
set_option linter.all false
set_option maxRecDepth 100000
set_option maxHeartbeats 4000000
namespace LW
open PySem PySem.Spec PyProof.Rows L2 DL LM
/-! ### the program's answer and the tables' -/
def resA (w : Wm) : Deed → Res
  | .element s => fMd w (false, s)
  | .text s => fMd w (true, s)
  | .insert p n b => fIns w (p, n, b)
  | .remove n => fRm w n
  | .mark n k v => fMk w (n, k, v)
  | .unmark n k => fUm w (n, k)
  | .write n t => fWr w (n, t)
def outR (w : Wm) : Res → Wm × PyData
  | .ret w' d => (w', d)
  | .err (.no m) => (w, .tuple [.str "no", ofN m])
  | .err (.rf s) => (w, .str s)
theorem orNo_out {w : Wm} {n : Nat} {r : Res} {q : Wm × PyData} (h : outR w r = q) : outR w (orNo w n r) = orMiss w [some n] q := by
  unfold orNo
  by_cases hn : n < w.ns.length
  · have z : miss w.ns.length [some n] = none := by rw [miss_b hn]; rfl
    rw [if_pos hn, orMiss_none z, h]
  · have z : miss w.ns.length [some n] = some n := miss_a hn
    rw [if_neg hn, orMiss_some z]; rfl
theorem set_out {w : Wm} {x : ArK} : outR w (fSet w x) = markA w x.1 x.2.1 x.2.2 := by
  unfold fSet markA
  by_cases h : (nd w.ns x.1).txt = true
  · rw [if_pos h, if_pos h]; rfl
  · rw [if_neg h, if_neg h]
    show ((if _ then _ else _ : Wm × PyData).1, PyData.none) = _
    split <;> rfl
theorem res_out (w : Wm) (d : Deed) : outR w (resA w d) = doA w d := by
  have mk : ∀ t s, outR w (fMd w (t, s)) = makeA w t s := fun t s => by
    unfold fMd makeA
    by_cases h : 60 ≤ w.ns.length
    · rw [if_pos h, if_pos h]; rfl
    · rw [if_neg h, if_neg h]; rfl
  cases d with
  | element s => exact mk false s
  | text s => exact mk true s
  | insert p n b =>
    show outR w (fIns w (p, n, b)) = orMiss w [some p, some n, b] (putA w p n b)
    unfold fIns fChk
    cases hm : miss w.ns.length [some p, some n, b] with
    | some m =>
      rw [orMiss_some hm]
      simp only [hm]
      rfl
    | none =>
      rw [orMiss_none hm]
      simp only [hm]
      unfold putA
      by_cases h1 : (nd w.ns p).txt = true
      · rw [if_pos h1, if_pos h1]; rfl
      rw [if_neg h1, if_neg h1]
      by_cases h2 : n = 0
      · rw [if_pos h2, if_pos h2]; rfl
      rw [if_neg h2, if_neg h2]
      by_cases h3 : n ∈ above w.ns p
      · rw [if_pos h3, if_pos h3]; rfl
      rw [if_neg h3, if_neg h3]
      by_cases h4 : badB w.ns p n b = true
      · rw [if_pos h4, if_pos h4]; rfl
      rw [if_neg h4, if_neg h4]
      by_cases h5 : isAt w.ns p n b = true
      · simp only [h5, if_true]; rfl
      · simp only [h5]; rfl
  | remove n =>
    show outR w (fRm w n) = orMiss w [some n] (removeA w n)
    unfold fRm removeA
    refine orNo_out (w := w) (n := n) (r := if (nd w.ns n).up = none then .err (.rf "no parent") else .ret (outA w n) .none) ?_
    by_cases h : (nd w.ns n).up = none
    · rw [if_pos h, if_pos h]; rfl
    · rw [if_neg h, if_neg h]; rfl
  | mark n k v => exact orNo_out set_out
  | unmark n k => exact orNo_out set_out
  | write n t =>
    refine orNo_out (w := w) (n := n) ?_
    unfold writeA
    by_cases h : (nd w.ns n).txt = false
    · rw [if_pos h, if_pos h]; rfl
    · rw [if_neg h, if_neg h]
      show ((if _ then _ else _ : Wm × PyData).1, PyData.none) = _
      split <;> rfl
section
variable {P : Program} {W : World} {K : PySem.W.Frag} {mg : Str → Option Value} {base : Heap} {f : Addr} {fd : FuncData} {CD CN : Addr} {ec : EC} {a a0 : DA} {A A2 H H1 H2 G G2 Hc : Hp} {w : Wm} {σ : L2.St} {t te tn : TE} {tr : TS} {ts : TS} {Dd : Ends}
def preCall (w : Wm) (d : Deed) : Prop := deedGood d ∧ deedNear d ∧ w.told.length + 2 < 1000000
abbrev s_law_call : Stmt := topS 35
theorem sc_law_call : FnScope ["document", "deed", "kind"] ["document", "deed"] (defScope s_law_call) := ⟨rfl, rfl, rfl, by decide +kernel, rfl, by decide +kernel, by decide +kernel⟩
theorem ok_call (F : Fun K "_law_call" "_law_call" s_law_call f fd) (m_element : Met P W K mg base (L2.CX P W) 4 CD "element" (spX K CD CN ec 1 arS (fun _ s => nameB s = true) fun w s => fMd w (false, s))) (m_text : Met P W K mg base (L2.CX P W) 4 CD "text" (spX K CD CN ec 1 arS (fun _ s => plainT s = true) fun w s => fMd w (true, s)))
    (m_insert : Met P W K mg base (L2.CX P W) 65 CD "insert" (spX K CD CN ec 3 arP preIns fIns)) (m_remove : Met P W K mg base (L2.CX P W) 6 CD "remove" (spX K CD CN ec 1 ar1 preR fRm)) (m_mark : Met P W K mg base (L2.CX P W) 7 CD "mark" (spX K CD CN ec 3 arMk preMk fMk))
    (m_unmark : Met P W K mg base (L2.CX P W) 7 CD "unmark" (spX K CD CN ec 2 arCm preUm fUm)) (m_write : Met P W K mg base (L2.CX P W) 6 CD "write" (spX K CD CN ec 2 arCm preWr fWr)) :
    FnOk P W K mg base (L2.CX P W) 66 f fd ["document", "deed"] (spX K CD CN ec 1 arD preCall resA) := by
  refine fn_X F sc_law_call rfl fun cdv A outer s H1 E hr => ⟨_, (pss_cons (ps_set (i := 2) sc_law_call.nd rfl (Or.inl rfl) (pe_ix ix_seq (pv 1) pe_int (fun _ _ => rfl)))
      (pss_cons (ps_if (pt_cmpR (op_eqA hr.units) (pv 2) pe_str (nomark _)) (pss_one (ps_ret (pe_mX m_element hr (by omega) (passes_call (takes_of rfl rfl rfl rfl) (fun _ _ _ _ h => h)) (pv 0) (pa_cons (pe_ix ix_seq (pv 1) pe_int (fun _ _ => rfl)) pa_nil)))) pss_nil)
      (pss_cons (ps_if (pt_cmpR (op_eqA hr.units) (pv 2) pe_str (nomark _)) (pss_one (ps_ret (pe_mX m_text hr (by omega) (passes_call (takes_of rfl rfl rfl rfl) (fun _ _ _ _ h => h)) (pv 0) (pa_cons (pe_ix ix_seq (pv 1) pe_int (fun _ _ => rfl)) pa_nil)))) pss_nil)
      (pss_cons (ps_if (pt_cmpR (op_eqA hr.units) (pv 2) pe_str (nomark _)) (pss_one (ps_ret (pe_mX m_insert hr (by omega) (passes_call (takes_of rfl rfl rfl rfl) (fun _ _ _ _ h => h)) (pv 0) (pa_cons (pe_ix ix_seq (pv 1) pe_int (fun _ _ => rfl)) (pa_cons (pe_ix ix_seq (pv 1) pe_int (fun _ _ => rfl)) (pa_cons (pe_ix ix_seq (pv 1) pe_int (fun _ _ => rfl)) pa_nil)))))) pss_nil)
      (pss_cons (ps_if (pt_cmpR (op_eqA hr.units) (pv 2) pe_str (nomark _)) (pss_one (ps_ret (pe_mX m_remove hr (by omega) (passes_call (takes_of rfl rfl rfl rfl) (fun _ _ _ _ h => h)) (pv 0) (pa_cons (pe_ix ix_seq (pv 1) pe_int (fun _ _ => rfl)) pa_nil)))) pss_nil)
      (pss_cons (ps_if (pt_cmpR (op_eqA hr.units) (pv 2) pe_str (nomark _)) (pss_one (ps_ret (pe_mX m_mark hr (by omega) (passes_call (takes_of rfl rfl rfl rfl) (fun _ _ _ _ h => h)) (pv 0) (pa_cons (pe_ix ix_seq (pv 1) pe_int (fun _ _ => rfl)) (pa_cons (pe_ix ix_seq (pv 1) pe_int (fun _ _ => rfl)) (pa_cons (pe_ix ix_seq (pv 1) pe_int (fun _ _ => rfl)) pa_nil)))))) pss_nil)
      (pss_cons (ps_if (pt_cmpR (op_eqA hr.units) (pv 2) pe_str (nomark _)) (pss_one (ps_ret (pe_mX m_unmark hr (by omega) (passes_call (takes_of rfl rfl rfl rfl) (fun _ _ _ _ h => h)) (pv 0) (pa_cons (pe_ix ix_seq (pv 1) pe_int (fun _ _ => rfl)) (pa_cons (pe_ix ix_seq (pv 1) pe_int (fun _ _ => rfl)) pa_nil))))) pss_nil)
      (pss_one (ps_ret (pe_mX m_write hr (by omega) (passes_call (takes_of rfl rfl rfl rfl) (fun _ _ _ _ h => h)) (pv 0) (pa_cons (pe_ix ix_seq (pv 1) pe_int (fun _ _ => rfl)) (pa_cons (pe_ix ix_seq (pv 1) pe_int (fun _ _ => rfl)) pa_nil)))))))))))), fun a us d H w Q hl dh o dv hp kq ke => ?_⟩
  obtain ⟨hg, hnr, hrm⟩ := hp
  obtain ⟨v, rfl, d1⟩ := DvA.inv1 dv
  have p0 := DP.refl dh
  have kk : ∀ (kd : Str), (∀ v2 G2 H2, DP K CD CN a H H1 a G2 H2 w → Same H G2 → Dv K G2 v2 (.str kd) → True) → True := fun _ _ => trivial
  cases d with
  | element s =>
    refine s_set (K := K) (d := .str "element") (gdo (gd_var rfl d1) gd_int (go_ixT rfl)) p0.gh fun v2 G2 H2 p2 d2 => ?_
    have q2 := p0.pub p2
    refine s_strY (K := K) (gd_var rfl d2) q2.gh fun H3 s3 => ?_
    exact e_callX (ec := ec) (ar := arS) (Pre := fun _ s => nameB s = true) (f := fun w s => fMd w (false, s)) s (q2.test s3) o rfl (ga_cons (gdo (gd_var rfl (d1.to p2.hg)) gd_int (go_ixT rfl)) ga_nil) rfl hg rfl (fun w2 d' v2 a2 G2 H2 hf q s hx dd => kq w2 d' v2 a2 G2 H2 hf q dd) fun e dd a' G' H' hf q' s' hx' hx => ke e dd a' G' H' hf q' hx
  | text s =>
    refine s_set (K := K) (d := .str "text") (gdo (gd_var rfl d1) gd_int (go_ixT rfl)) p0.gh fun v2 G2 H2 p2 d2 => ?_
    have q2 := p0.pub p2
    refine s_strN (K := K) (gd_var rfl d2) q2.gh fun H3 s3 => ?_
    refine s_strY (K := K) (gd_var rfl d2) (q2.test s3).gh fun H4 s4 => ?_
    exact e_callX (ec := ec) (ar := arS) (Pre := fun _ s => plainT s = true) (f := fun w s => fMd w (true, s)) s ((q2.test s3).test s4) o rfl (ga_cons (gdo (gd_var rfl (d1.to p2.hg)) gd_int (go_ixT rfl)) ga_nil) rfl hg rfl (fun w2 d' v2 a2 G2 H2 hf q s hx dd => kq w2 d' v2 a2 G2 H2 hf q dd) fun e dd a' G' H' hf q' s' hx' hx => ke e dd a' G' H' hf q' hx
  | insert p n b =>
    refine s_set (K := K) (d := .str "insert") (gdo (gd_var rfl d1) gd_int (go_ixT rfl)) p0.gh fun v2 G2 H2 p2 d2 => ?_
    have q2 := p0.pub p2
    have d12 := d1.to p2.hg
    refine s_strN (K := K) (gd_var rfl d2) q2.gh fun H3 s3 => ?_
    refine s_strN (K := K) (gd_var rfl d2) (q2.test s3).gh fun H4 s4 => ?_
    refine s_strY (K := K) (gd_var rfl d2) ((q2.test s3).test s4).gh fun H5 s5 => ?_
    exact e_callX (ec := ec) (ar := arP) (Pre := preIns) (f := fIns) (p, n, b) (((q2.test s3).test s4).test s5) o rfl (ga_cons (gdo (gd_var rfl d12) gd_int (go_ixT rfl)) (ga_cons (gdo (gd_var rfl d12) gd_int (go_ixT rfl)) (ga_cons (gdo (gd_var rfl d12) gd_int (go_ixT rfl)) ga_nil))) rfl ⟨hnr, hrm⟩ rfl (fun w2 d' v2 a2 G2 H2 hf q s hx dd => kq w2 d' v2 a2 G2 H2 hf q dd) fun e dd a' G' H' hf q' s' hx' hx => ke e dd a' G' H' hf q' hx
  | remove n =>
    refine s_set (K := K) (d := .str "remove") (gdo (gd_var rfl d1) gd_int (go_ixT rfl)) p0.gh fun v2 G2 H2 p2 d2 => ?_
    have q2 := p0.pub p2
    have d12 := d1.to p2.hg
    refine s_strN (K := K) (gd_var rfl d2) q2.gh fun H3 s3 => ?_
    refine s_strN (K := K) (gd_var rfl d2) (q2.test s3).gh fun H4 s4 => ?_
    refine s_strN (K := K) (gd_var rfl d2) ((q2.test s3).test s4).gh fun H5 s5 => ?_
    refine s_strY (K := K) (gd_var rfl d2) (((q2.test s3).test s4).test s5).gh fun H6 s6 => ?_
    exact e_callX (ec := ec) (ar := ar1) (Pre := preR) (f := fRm) n ((((q2.test s3).test s4).test s5).test s6) o rfl (ga_cons (gdo (gd_var rfl d12) gd_int (go_ixT rfl)) ga_nil) rfl ⟨hnr, by omega⟩ rfl (fun w2 d' v2 a2 G2 H2 hf q s hx dd => kq w2 d' v2 a2 G2 H2 hf q dd) fun e dd a' G' H' hf q' s' hx' hx => ke e dd a' G' H' hf q' hx
  | mark n k val =>
    refine s_set (K := K) (d := .str "mark") (gdo (gd_var rfl d1) gd_int (go_ixT rfl)) p0.gh fun v2 G2 H2 p2 d2 => ?_
    have q2 := p0.pub p2
    have d12 := d1.to p2.hg
    refine s_strN (K := K) (gd_var rfl d2) q2.gh fun H3 s3 => ?_
    refine s_strN (K := K) (gd_var rfl d2) (q2.test s3).gh fun H4 s4 => ?_
    refine s_strN (K := K) (gd_var rfl d2) ((q2.test s3).test s4).gh fun H5 s5 => ?_
    refine s_strN (K := K) (gd_var rfl d2) (((q2.test s3).test s4).test s5).gh fun H6 s6 => ?_
    refine s_strY (K := K) (gd_var rfl d2) ((((q2.test s3).test s4).test s5).test s6).gh fun H7 s7 => ?_
    exact e_callX (ec := ec) (ar := arMk) (Pre := preMk) (f := fMk) (n, k, val) (((((q2.test s3).test s4).test s5).test s6).test s7) o rfl (ga_cons (gdo (gd_var rfl d12) gd_int (go_ixT rfl)) (ga_cons (gdo (gd_var rfl d12) gd_int (go_ixT rfl)) (ga_cons (gdo (gd_var rfl d12) gd_int (go_ixT rfl)) ga_nil))) rfl ⟨hnr, hg.1, hg.2.1, hg.2.2, by omega⟩ rfl (fun w2 d' v2 a2 G2 H2 hf q s hx dd => kq w2 d' v2 a2 G2 H2 hf q dd) fun e dd a' G' H' hf q' s' hx' hx => ke e dd a' G' H' hf q' hx
  | unmark n k =>
    refine s_set (K := K) (d := .str "unmark") (gdo (gd_var rfl d1) gd_int (go_ixT rfl)) p0.gh fun v2 G2 H2 p2 d2 => ?_
    have q2 := p0.pub p2
    have d12 := d1.to p2.hg
    refine s_strN (K := K) (gd_var rfl d2) q2.gh fun H3 s3 => ?_
    refine s_strN (K := K) (gd_var rfl d2) (q2.test s3).gh fun H4 s4 => ?_
    refine s_strN (K := K) (gd_var rfl d2) ((q2.test s3).test s4).gh fun H5 s5 => ?_
    refine s_strN (K := K) (gd_var rfl d2) (((q2.test s3).test s4).test s5).gh fun H6 s6 => ?_
    refine s_strN (K := K) (gd_var rfl d2) ((((q2.test s3).test s4).test s5).test s6).gh fun H7 s7 => ?_
    refine s_strY (K := K) (gd_var rfl d2) (((((q2.test s3).test s4).test s5).test s6).test s7).gh fun H8 s8 => ?_
    exact e_callX (ec := ec) (ar := arCm) (Pre := preUm) (f := fUm) (n, k) ((((((q2.test s3).test s4).test s5).test s6).test s7).test s8) o rfl (ga_cons (gdo (gd_var rfl d12) gd_int (go_ixT rfl)) (ga_cons (gdo (gd_var rfl d12) gd_int (go_ixT rfl)) ga_nil)) rfl ⟨hnr, hg.1, hg.2, by omega⟩ rfl (fun w2 d' v2 a2 G2 H2 hf q s hx dd => kq w2 d' v2 a2 G2 H2 hf q dd) fun e dd a' G' H' hf q' s' hx' hx => ke e dd a' G' H' hf q' hx
  | write n tx =>
    refine s_set (K := K) (d := .str "write") (gdo (gd_var rfl d1) gd_int (go_ixT rfl)) p0.gh fun v2 G2 H2 p2 d2 => ?_
    have q2 := p0.pub p2
    have d12 := d1.to p2.hg
    refine s_strN (K := K) (gd_var rfl d2) q2.gh fun H3 s3 => ?_
    refine s_strN (K := K) (gd_var rfl d2) (q2.test s3).gh fun H4 s4 => ?_
    refine s_strN (K := K) (gd_var rfl d2) ((q2.test s3).test s4).gh fun H5 s5 => ?_
    refine s_strN (K := K) (gd_var rfl d2) (((q2.test s3).test s4).test s5).gh fun H6 s6 => ?_
    refine s_strN (K := K) (gd_var rfl d2) ((((q2.test s3).test s4).test s5).test s6).gh fun H7 s7 => ?_
    refine s_strN (K := K) (gd_var rfl d2) (((((q2.test s3).test s4).test s5).test s6).test s7).gh fun H8 s8 => ?_
    exact e_callX (ec := ec) (ar := arCm) (Pre := preWr) (f := fWr) (n, tx) ((((((q2.test s3).test s4).test s5).test s6).test s7).test s8) o rfl (ga_cons (gdo (gd_var rfl d12) gd_int (go_ixT rfl)) (ga_cons (gdo (gd_var rfl d12) gd_int (go_ixT rfl)) ga_nil)) rfl ⟨hnr, hg, by omega⟩ rfl (fun w2 d' v2 a2 G2 H2 hf q s hx dd => kq w2 d' v2 a2 G2 H2 hf q dd) fun e dd a' G' H' hf q' s' hx' hx => ke e dd a' G' H' hf q' hx
end
end LW
end
section
set_option Elab.async false
set_option linter.all false
set_option maxRecDepth 100000
set_option maxHeartbeats 4000000
namespace LW
open PySem PySem.Spec PyProof.Rows L2 DL LM
section
variable {P : Program} {W : World} {K : PySem.W.Frag} {mg : Str → Option Value} {base : Heap} {f : Addr} {fd : FuncData} {CD CN : Addr} {ec : EC} {a a0 : DA} {A A2 H H1 H2 G G2 Hc : Hp} {w : Wm} {σ : L2.St} {t te tn : TE} {tr : TS} {ts : TS} {Dd : Ends} {tA : TA}
/-- a def that may raise, by its name -/
structure CalX (P : Program) (w : World) (K : PySem.W.Frag) (mg : Str → Option Value) (base : Heap) (k : Nat) (x : Str) (sp : Sp) : Prop where
  ex : ∃ f fd ps, FnOk P w K mg base (L2.CX P w) k f fd ps sp ∧ mg x = some (.ref f) ∧ PySem.W.keepIn K (.ref f) = true ∧ Binds K fd ps []
theorem pe_kS {X : Cx} {W : WX} {k j : Nat} {x : Str} {sp : Sp} {p pos : Pos} {e : Expr} {es : List Expr} {t : TA} (c : CalX X.prog X.w X.K X.mg X.base k x sp) (hr : Room j X.A) (hk : k ≤ j) (tk : Takes X W) (ha : PA X (e :: es) t) (hg : Gl X x := by rfl)
    (hdb : (x == ("__debug__" : Str)) = false := by decide) (he : starEach (e :: es) X.env = (false, eval e X.env) :: starEach es X.env := by rfl) (hpl : (backTo pos (starEach es X.env)).any (·.1) = false := by rfl) :
    PE X (.Call (.Name x p) (e :: es) [] pos) (tCallS sp (WE W) t) := by
  obtain ⟨f, fd, ps, F, hm, kp, b⟩ := c.ex
  exact pe_callS F (hr.mono hk) hg hm kp b (passAt tk) ha hdb he hpl
/-- how the classes of errors stand to one another -/
structure EM (K : PySem.W.Frag) (mg : Str → Option Value) (ec : EC) : Prop where
  mn : mg "NoSuchNode" = some (.ref ec.no)
  mr : mg "RefusedError" = some (.ref ec.rf)
  nn : PySem.W.exmOne K (.ref ec.no) (.ref ec.no) = some true
  rn : PySem.W.exmOne K (.ref ec.rf) (.ref ec.no) = some false
  rr : PySem.W.exmOne K (.ref ec.rf) (.ref ec.rf) = some true
  xn : XfC K ec.no
  xr : XfC K ec.rf
abbrev s_law_told : Stmt := topS 36
theorem sc_law_told : FnScope ["document", "deed", "e"] ["document", "deed"] (defScope s_law_told) := ⟨rfl, rfl, rfl, by decide +kernel, rfl, by decide +kernel, by decide +kernel⟩
def fTold (w : Wm) (d : Deed) : Res := .ret (doA w d).1 (doA w d).2
theorem gv_xf {b dd C : Addr} {fs : List (Str × V)} {fld : Str} {v : V} {i : Nat} (h : σ[i]? = some (some (.ref b))) (e : A dd = some (.xd fs)) (hl : fs.lookup fld = some v) : GV (tXf b (.ref C) (some dd) C fld (tVar i)) σ H A v := fun H0 H1 p Q q =>
  ⟨.ref b, h, rfl, rfl, dd, fs, v, rfl, p.hh _ _ e, hl, q H0 H1 (.refl p.gh)⟩
theorem ok_told (X : EF K ec) (M : EM K mg ec) (F : Fun K "_law_told" "_law_told" s_law_told f fd) (c_law_call : CalX P W K mg base 66 "_law_call" (spX K CD CN ec 1 arD preCall resA)) :
    FnOk P W K mg base CX0 67 f fd ["document", "deed"] (spX K CD CN ec 1 arD preCall fTold) := by
  refine fn_X0 F sc_law_told rfl fun cdv A outer s H1 E hr => ⟨_, (pss_one (ps_try_named (Wo := fun _ _ _ _ => False) rfl rfl sc_law_told.nd takes_none5
    (fun W pn xe tkW po => pss_one (ps_ret (pe_kS c_law_call hr (by omega) tkW (pa_cons (pv 0) (pa_cons (pv 1) pa_nil)))))
    (.cons (i := 2) ⟨rfl, by decide, .inl M.mn⟩ rfl rfl (fun b oe cls d pn hz hf => pss_one (ps_ret (RR.pe_tupF (pa_cons pe_str (pa_cons (pe_xf M.xn X.no.2 hz hf (pv 2)) pa_nil)))))
    (.cons (i := 2) ⟨rfl, by decide, .inl M.mr⟩ rfl rfl (fun b oe cls d pn hz hf => pss_one (ps_ret (pe_xf M.xr X.rf.2 hz hf (pv 2)))) .nil)))), fun a us d H w Q hl dh o dv hp kq => ?_⟩
  obtain ⟨v, rfl, d1⟩ := DvA.inv1 dv
  have ho := res_out w d
  refine ⟨.ref a.x, rfl, v, rfl, ?_⟩
  refine ⟨a, [v], d, H, w, rfl, rfl, dh, o, .cons d1 .nil, hp, fun w' d' v2 a' G2 H2 hf hx st h dv2 => ?_, fun e dd a' G2 H2 hf hx st h hE => ?_⟩
  · rw [hf] at ho
    refine kq _ _ v2 a' G2 H2 (by unfold fTold; rw [← ho]; rfl) ⟨st, h, hx⟩ dv2
  · have q2 : DP K CD CN a H H1 a' G2 H2 w := ⟨st, h, hx⟩
    rw [hf] at ho
    obtain ⟨fs, hdd, hfl⟩ := hE
    cases e with
    | no m =>
      refine ⟨true, M.nn, fun _ b hb => ?_, fun z => nomatch z⟩
      refine s_ret (K := K) (gd_tup (ga_cons gd_str (ga_cons ((gv_xf (i := 2) rfl hdd hfl).gd (.int _)) ga_nil))) q2.gh fun v3 G3 H3 p3 d3 => ?_
      exact kq _ _ v3 a' G3 H3 (by unfold fTold; rw [← ho]; rfl) (q2.pub p3) d3
    | rf s =>
      refine ⟨false, M.rn, (fun z => nomatch z), fun _ => ⟨true, M.rr, fun _ b hb => ?_, fun z => nomatch z⟩⟩
      refine s_ret (K := K) ((gv_xf (i := 2) rfl hdd hfl).gd (.str _)) q2.gh fun v3 G3 H3 p3 d3 => ?_
      exact kq _ _ v3 a' G3 H3 (by unfold fTold; rw [← ho]; rfl) (q2.pub p3) d3
end
end LW
end
section
set_option Elab.async false
set_option linter.all false
set_option maxRecDepth 100000
set_option maxHeartbeats 4000000
namespace LW
open PySem PySem.Spec PyProof.Rows L2 DL LM
section
variable {P : Program} {W : World} {K : PySem.W.Frag} {mg : Str → Option Value} {base : Heap} {f : Addr} {fd : FuncData} {CD CN : Addr} {ec : EC} {a a0 : DA} {A A2 H H1 H2 G G2 Hc : Hp} {w : Wm} {σ : L2.St} {t te tn t1 t2 : TE} {tr : TS} {ts : TS} {Dd : Ends} {tA : TA} {wd : Addr} {fl : Nat → Addr} {n j : Nat}
/-! ### the rules with the tables, the document at any slot -/
theorem WH.keyJ (h : WH K wd fl H A w) {nm : Str} {b : Addr} (h0 : σ[j]? = some (some (.ref wd))) (e : valV (wdk fl) (.inr nm) = some (.ref b)) : GV (tDGet (tVar j) (tC (.str nm))) σ H A (.ref b) := fun H0 H1 p Q q =>
  ⟨.ref wd, h0, wd, .ref b, rfl, by rw [← e]; exact DGet.k (k := .inr nm) (h.pub p).d, q H0 H1 (.refl p.gh)⟩
theorem WH.colJ (h : WH K wd fl H A w) {i : Nat} {nm : Str} (hi : i < 5) (h2 : i ≠ 2) (h0 : σ[j]? = some (some (.ref wd))) (e : valV (wdk fl) (.inr nm) = some (.ref (fl i))) (hn : n < w.ns.length) (gn : GD K tn σ H A (ofN n)) :
    GD K (tOp (rIx K) (tDGet (tVar j) (tC (.str nm))) tn) σ H A (colD i (nd w.ns n)) := by
  obtain ⟨xs, h1, r⟩ := h.c i hi
  obtain ⟨v, e2, rv⟩ := r.2 n _ (nd_get hn)
  exact (gv_ixP (WH.keyJ h h0 e) h1 gn e2).gd (colR_D rv h2)
theorem WH.kidsJ (h : WH K wd fl H A w) (h0 : σ[j]? = some (some (.ref wd))) (hn : n < w.ns.length) (gn : GD K tn σ H A (ofN n)) : GD K (tOp (rIx K) (tDGet (tVar j) (tC (.str "kids"))) tn) σ H A (natsD (nd w.ns n).kids) := WH.colJ h (i := 3) (by omega) (by omega) h0 rfl hn gn
theorem WH.upJ (h : WH K wd fl H A w) (h0 : σ[j]? = some (some (.ref wd))) (hn : n < w.ns.length) (gn : GD K tn σ H A (ofN n)) : GD K (tOp (rIx K) (tDGet (tVar j) (tC (.str "up"))) tn) σ H A (upD (nd w.ns n).up) := WH.colJ h (i := 4) (by omega) (by omega) h0 rfl hn gn
theorem WH.lenJ (h : WH K wd fl H A w) (h0 : σ[j]? = some (some (.ref wd))) : GD K (tCB (DL.rLen K) (tCons (tDGet (tVar j) (tC (.str "kind"))) tNil)) σ H A (ofN w.ns.length) := fun H0 H1 p Q q => by
  obtain ⟨xs, h1, r⟩ := h.c 0 (by omega)
  refine (WH.keyJ h (nm := "kind") h0 rfl).to p fun G H2 p2 => ⟨.ref (fl 0), xs.length, rfl, .inl ⟨xs, SqL.of (p2.hh _ _ (p.hh _ _ h1)), rfl⟩, ?_⟩
  rw [r.1]
  exact q _ G H2 p2 (.int _)
theorem gd_callRJ {α : Type} {n : Nat} {ar : α → List PyData} {Pre : Wm → α → Prop} {f : Wm → α → PyData} (x : α) (wh : WH K wd fl H A w) (o : Ok w.ns) (h0 : σ[j]? = some (some (.ref wd))) (ga : GA K tA σ H A (ar x)) (hn : (ar x).length = n) (hp : Pre w x) :
    GD K (tCall (spR K n ar Pre f) [] E0 (tCons (tVar j) tA)) σ H A (f w x) := fun H0 H1 p Q q => ⟨.ref wd, h0, ga.to p fun vs G H2 p2 dv => by
  show spR K n ar Pre f ((.ref wd :: vs) ++ []) H2 Q E0
  rw [List.append_nil]
  exact ⟨wd, fl, vs, x, G, w, rfl, (DvA.len dv).trans hn, wh.pub (p.trans p2), o, dv, hp, fun v G' H3 p3 dw => q v G' H3 (p2.trans p3) dw⟩⟩
theorem gr_callJ {α : Type} {n : Nat} {ar : α → List PyData} {Pre : Wm → α → Prop} {R : Wm → α → PyData → Prop} (x : α) (wh : WH K wd fl H A w) (o : Ok w.ns) (h0 : σ[j]? = some (some (.ref wd))) (ga : GA K tA σ H A (ar x)) (hn : (ar x).length = n) (hp : Pre w x) :
    GR K (tCall (spRR K n ar Pre R) [] E0 (tCons (tVar j) tA)) σ H A (R w x) := fun H0 H1 p Q q => ⟨.ref wd, h0, ga.to p fun vs G H2 p2 dv => by
  show spRR K n ar Pre R ((.ref wd :: vs) ++ []) H2 Q E0
  rw [List.append_nil]
  exact ⟨wd, fl, vs, x, G, w, rfl, (DvA.len dv).trans hn, wh.pub (p.trans p2), o, dv, hp, fun d v G' H3 r p3 dw => q d v G' H3 r (p2.trans p3) dw⟩⟩
theorem e_callJ {α : Type} {n : Nat} {ar : α → List PyData} {Pre : Wm → α → Prop} {f : Wm → α → Wm × PyData} {Q : VK} (x : α) (wh : WH K wd fl G Hc w) (o : Ok w.ns) (h0 : σ[j]? = some (some (.ref wd))) (ga : GA K tA σ G Hc (ar x)) (hn : (ar x).length = n) (hp : Pre w x)
    (k : ∀ v G' H', WA K wd fl G Hc G' H' (f w x).1 → Dv K G' v (f w x).2 → Q v H') : tCall (spM K n ar Pre f) [] E0 (tCons (tVar j) tA) σ Hc Q := ⟨.ref wd, h0, ga.to (.refl wh.gh) fun vs G2 H2 p2 dv => by
  show spM K n ar Pre f ((.ref wd :: vs) ++ []) H2 Q E0
  rw [List.append_nil]
  exact ⟨wd, fl, vs, x, G2, w, rfl, (DvA.len dv).trans hn, wh.pub p2, o, dv, hp, fun v G' H3 st h dw => k v G' H3 (((WA.refl wh).pub p2).trans st h) dw⟩⟩
theorem gd_callNJ {α : Type} {n : Nat} {ar : α → List PyData} {Pre : Wm → α → Prop} {f : Wm → α → PyData} {mn : Str} (x : α) (dh : DH K CD CN a H A w) (o : Ok w.ns) (h0 : σ[j]? = some (some (.ref a.x))) (ga : GA K tA σ H A (ar x)) (hn : (ar x).length = n) (hp : Pre w x) (hm : (docF a).lookup mn = none) :
    GD K (tMeth CD mn (spN K CD CN n ar Pre f) [] E0 (tVar j) tA) σ H A (f w x) := fun H0 H1 p Q q => ⟨.ref a.x, h0, a.x, a.dx, docF a, rfl, (dh.pub p).o, hm, ga.to p fun vs G H2 p2 dv => by
  show spN K CD CN n ar Pre f (.ref a.x :: (vs ++ [])) H2 Q E0
  rw [List.append_nil]
  exact ⟨a, vs, x, G, w, rfl, (DvA.len dv).trans hn, dh.pub (p.trans p2), o, dv, hp, fun v G' H3 p3 dw => q v G' H3 (p2.trans p3) dw⟩⟩
/-- document.shape() -/
theorem gd_shape0 {k : Nat} (dh : DH K CD CN a H A w) (o : Ok w.ns) (h0 : σ[j]? = some (some (.ref a.x))) (hp : preShape k w 0) :
    GD K (tMeth CD "shape" (spN K CD CN 1 ar1 (preShape k) fun w n => shapeF k w.ns n) [.int 0] E0 (tVar j) tNil) σ H A (shapeF k w.ns 0) := fun H0 H1 p Q q => ⟨.ref a.x, h0, a.x, a.dx, docF a, rfl, (dh.pub p).o, rfl, by
  exact ⟨a, [.int 0], 0, H0, w, rfl, rfl, dh.pub p, o, .cons (.int 0) .nil, hp, fun v G' H3 p3 dw => q v G' H3 p3 dw⟩⟩
/-- _law_told(document, deed) -/
theorem e_toldJ {Q : VK} (d : Deed) (dh : DH K CD CN a G Hc w) (o : Ok w.ns) (h0 : σ[j]? = some (some (.ref a.x))) (g : GD K te σ G Hc (deedD d)) (hp : preCall w d)
    (k : ∀ v a' G' H', DP K CD CN a G Hc a' G' H' (doA w d).1 → Dv K G' v (doA w d).2 → Q v H') : tCall (spX K CD CN ec 1 arD preCall fTold) [] E0 (tCons (tVar j) (tCons te tNil)) σ Hc Q := ⟨.ref a.x, h0, g.to (.refl dh.gh) fun v G2 H2 p2 dv => by
  refine ⟨a, [v], d, G2, w, rfl, rfl, dh.pub p2, o, .cons dv .nil, hp, fun w' d' v2 a' G' H' hf hx st h dw => ?_, fun e dd a' G' H' hf => nomatch hf⟩
  unfold fTold at hf
  cases hf
  exact k v2 a' G' H' (((DP.refl dh).pub p2).trans st h hx) dw⟩
/-! ### depths -/
theorem dlt_str {n : Nat} {s : Str} : DLt (n + 1) (.str s) := trivial
theorem dlt_int {n : Nat} {s : Int} : DLt (n + 1) (.int s) := trivial
theorem dlt_up {n : Nat} {u : Option Nat} : DLt (n + 1) (upD u) := by cases u <;> trivial
theorem dlt_marks {n : Nat} {g : Str → Option Str} : DLt (n + 3) (marksD g) := by
  refine ⟨?_, fun x hx => ?_⟩
  · rw [List.length_map]
    exact Nat.le_trans (List.length_filterMap_le _ _) (by decide)
  · obtain ⟨p, _, rfl⟩ := List.mem_map.mp hx
    exact ⟨by show 2 ≤ 1000000; decide, fun y hy => by
      simp at hy
      rcases hy with rfl | rfl <;> trivial⟩
theorem dlt_shape {ns : List Nd} (o : Ok ns) : ∀ (j n : Nat), DLt (2 * j + 4) (shapeF j ns n)
  | 0, _ => trivial
  | j + 1, n => by
    unfold shapeF
    have e : 2 * (j + 1) + 4 = (2 * j + 5) + 1 := by omega
    rw [e]
    split
    · exact ⟨by show 3 ≤ 1000000; decide, fun y hy => by
        simp at hy
        rcases hy with rfl | rfl | rfl <;> trivial⟩
    · refine ⟨by show 5 ≤ 1000000; decide, fun y hy => ?_⟩
      simp only [List.mem_cons, List.mem_nil_iff, or_false] at hy
      rcases hy with rfl | rfl | rfl | rfl | rfl
      · trivial
      · trivial
      · trivial
      · exact DLt.mono (dlt_marks (n := 0)) (by omega)
      · refine ⟨?_, fun z hz => ?_⟩
        · rw [List.length_map]
          by_cases hn : n < ns.length
          · have := o.kidLe hn
            have := o.len
            omega
          · have : nd ns n = d0 := by
              unfold nd
              rw [List.getD_eq_getElem?_getD, List.getElem?_eq_none (by omega)]; rfl
            rw [this]
            show 0 ≤ _
            omega
        · obtain ⟨c, _, rfl⟩ := List.mem_map.mp hz
          exact dlt_shape o j c
theorem dlt_nats {n : Nat} {l : List Nat} (h : l.length ≤ 1000000) : DLt (n + 2) (natsD l) := ⟨by rw [List.length_map]; exact h, fun x hx => by
  obtain ⟨k, _, rfl⟩ := List.mem_map.mp hx
  trivial⟩
theorem dlt_above {n : Nat} {ns : List Nd} {k : Nat} (h : (above ns k).length ≤ 1000000) : DLt (n + 2) (aboveD ns k) := ⟨by rw [List.length_map]; exact h, fun x hx => by
  obtain ⟨k, _, rfl⟩ := List.mem_map.mp hx
  trivial⟩
theorem dlt_do (w : Wm) (d : Deed) : DLt 3 (doA w d).2 := by
  have no : ∀ m : Nat, DLt 3 (.tuple [.str "no", ofN m]) := fun m => ⟨by show 2 ≤ 1000000; decide, fun y hy => by
    simp at hy
    rcases hy with rfl | rfl <;> trivial⟩
  have om : ∀ l (r : Wm × PyData), DLt 3 r.2 → DLt 3 (orMiss w l r).2 := fun l r h => by
    unfold orMiss
    split
    · exact no _
    · exact h
  have mk : ∀ t s, DLt 3 (makeA w t s).2 := fun t s => by unfold makeA; split <;> trivial
  have mm : ∀ n k v, DLt 3 (markA w n k v).2 := fun n k v => by
    unfold markA
    split
    · trivial
    split <;> trivial
  cases d with
  | element s => exact mk _ _
  | text s => exact mk _ _
  | insert p n b =>
    refine om _ _ ?_
    unfold putA
    repeat (first | trivial | split)
  | remove n =>
    refine om _ _ ?_
    unfold removeA
    split <;> trivial
  | mark n k v => exact om _ _ (mm _ _ _)
  | unmark n k => exact om _ _ (mm _ _ _)
  | write n t =>
    refine om _ _ ?_
    unfold writeA
    split
    · trivial
    split <;> trivial
/-- the same data compared -/
theorem gt_same {k : Nat} {d : PyData} (g1 : GD K t1 σ H A d) (g2 : GD K t2 σ H A d) (h : DLt k d) : GT (tTr K (tCall (spF K 2 (preSame k) fSame) [] E0 (tCons t1 (tCons t2 tNil)))) σ H A true := by
  have g := gt_tr (gd_call (f := fSame) (Pre := preSame k) (ga_cons g1 (ga_cons g2 ga_nil)) rfl ⟨d, d, rfl, h⟩)
  have e : truD (fSame [d, d]) = true := sameD_eq rfl
  rw [e] at g
  exact g
end
end LW
end
section
set_option Elab.async false
set_option linter.all false
set_option maxRecDepth 100000
set_option maxHeartbeats 8000000
namespace LW
open PySem PySem.Spec PyProof.Rows L2 DL LM
section
variable {P : Program} {W : World} {K : PySem.W.Frag} {mg : Str → Option Value} {base : Heap} {f : Addr} {fd : FuncData} {CD CN : Addr} {ec : EC} {a a0 : DA} {A A2 H H1 H2 G G2 Hc : Hp} {w : Wm} {σ : L2.St} {t te tn t1 t2 : TE} {tr : TS} {ts : TS} {Dd : Ends} {tA : TA} {wd : Addr} {fl : Nat → Addr} {n j : Nat}
theorem s_setR {i : Nat} {R : PyData → Prop} {D : Ends} (g : GR K t σ G H R) (s : Same G H) (k : ∀ d v G' H', R d → Pub G H G' H' → Dv K G' v d → tr D (σ.set i (some v)) H') : tSeq (tAsg t (gName i)) tr D σ H := g G H (.refl s) _ k
/-- list(script) -/
theorem gd_listS {i : Nat} {s : Addr} {ns : List Int} (h : σ[i]? = some (some (.ref s))) (e : SqL K A s (ns.map V.int)) : GD K (tCB (rListOf K) (tCons (tVar i) tNil)) σ H A (.list (ns.map .int)) := fun H0 H1 p Q q =>
  ⟨.ref s, h, s, _, rfl, .inl (p.hh.seq e), fun l hl => q (.ref l) _ _ ((Pub.refl p.gh).new hl _) (.lst (.inl upd_same) DvA.ints)⟩
structure MetD (P : Program) (w : World) (K : PySem.W.Frag) (mg : Str → Option Value) (base : Heap) (k : Nat) (C : Addr) (m : Str) (dvs : List V) (sp : Sp) : Prop where
  ex : ∃ f fd ps ds, Cls K C ∧ Meth K C m f ∧ FnOk P w K mg base CX0 k f fd ps sp ∧ Binds K fd ps ds ∧ Vals dvs ds
theorem pe_mD {X : Cx} {k j : Nat} {C : Addr} {m : Str} {dvs : List V} {sp : Sp} {apos pos : Pos} {o : Expr} {ta : TE} {pl : Sem Bool} (M : MetD X.prog X.w X.K X.mg X.base k C m dvs sp) (hr : Room j X.A) (hk : k ≤ j) (ho : PE X o ta)
    (ht : eval (.Call (.Attribute o m apos) [] [] pos) X.env = (do
      let ov ← eval o X.env
      standAt apos.atName
      let (f, first) ← holding [ov] (getMethod ov m pl)
      callWith pos f first (backTo pos (starEach [] X.env)) (backToKw pos (keywordEach [] X.env))) := by rfl) : PE X (.Call (.Attribute o m apos) [] [] pos) (tMeth C m sp dvs E0 ta tNil) := by
  obtain ⟨f, fd, ps, ds, hc, hm, F, b, hv⟩ := M.ex
  exact pe_meth0 (pl := pl) ho hc hm F (hr.mono hk) b hv pass0 ht
def cells0 : List Int := [0, 17, 34, 51, 68, 85]
def spLaw (K : PySem.W.Frag) : Sp := fun vs H Q _ => ∃ (s : Addr) (ns : List Int), vs = [.ref s] ∧ SqL K H s (ns.map V.int) ∧ ns.length ≤ 63 ∧ ∀ H', Q (.bl true) H'
end
end LW
end
section
set_option Elab.async false
set_option linter.all false
set_option maxRecDepth 100000
set_option maxHeartbeats 4000000
namespace LW
open PySem PySem.Spec PyProof.Rows L2 DL LM
section
variable {K : PySem.W.Frag} {A H : Hp} {σ : L2.St} {te : TE} {b : Addr} {xs : List V} {ds : List PyData}
/-- a slice of a private row that bears plain data: a public list -/
theorem gd_slQ {tl th : TO} {lo hi : Option Int} (g : GV te σ H A (.ref b)) (e : A b = some (.lst xs)) (r : DvA K H xs ds) (gl : GP tl σ H A lo) (gh : GP th σ H A hi) : GD K (tSl (rSlD K) te tl th) σ H A (.list (DL.cutD ds lo hi)) := fun H0 H1 p Q q =>
  g.to p fun G H2 p2 => gl G H2 (p.trans p2) _ fun H3 p3 => gh G H3 (p.trans (p2.trans p3)) _ fun H4 p4 => by
    have pp := p2.trans (p3.trans p4)
    have r4 := DvA.cut (r.to (p.trans pp).hg) lo hi
    refine .inl ⟨b, xs, rfl, .inl (pp.hh _ _ (p.hh _ _ e)), fun c hc => q (.ref c) _ _ (pp.new hc _) (.lst (.inl upd_same) ?_)⟩
    exact r4.to (same_new (pp.gh.free hc) _)
end
end LW
end
section
set_option Elab.async false
set_option linter.all false
set_option maxRecDepth 100000
set_option maxHeartbeats 4000000
namespace LW
open PySem PySem.Spec PyProof.Rows L2 DL LM
/-! ### what is told is not deep -/
theorem chainF_len : ∀ (j : Nat) (ns : List Nd) (n : Nat), (chainF j ns n).length ≤ j + 1
  | 0, _, _ => Nat.le_refl _
  | j + 1, ns, n => by
    unfold chainF
    rw [List.length_cons]
    split
    · exact Nat.succ_le_succ (Nat.zero_le _)
    · exact Nat.succ_le_succ (chainF_len j ns _)
theorem dlt_aboveA {n : Nat} {ns : List Nd} {k : Nat} : DLt (n + 2) (aboveD ns k) := dlt_above (Nat.le_trans (chainF_len 60 ns k) (by decide))
def ToldOk (w : Wm) : Prop := ∀ d ∈ w.told, DLt 126 d
theorem toldOk_w0 : ToldOk w0 := fun _ h => nomatch h
theorem tell_dlt {w : Wm} {r : PyData} {n : Nat} {b : Option Nat} (h : ToldOk w) (hr : DLt 125 r) : ∀ d ∈ (tell w r n b).told, DLt 126 d := by
  intro d hd
  unfold tell at hd
  rcases List.mem_append.mp hd with h1 | h1
  · exact h d h1
  · rw [List.mem_singleton] at h1
    subst h1
    refine ⟨by show 2 ≤ 1000000; decide, fun y hy => ?_⟩
    simp only [List.mem_cons, List.mem_nil_iff, or_false] at hy
    rcases hy with rfl | rfl
    · exact hr
    · exact dlt_aboveA
theorem dlt_strO {n : Nat} {v : Option Str} : DLt (n + 1) (strO v) := by cases v <;> trivial
theorem outA_dlt {w : Wm} {n : Nat} (h : ToldOk w) : ToldOk (outA w n) := by
  unfold outA
  split
  · exact h
  · refine fun d hd => tell_dlt (b := none) h ?_ d hd
    refine ⟨by show 3 ≤ 1000000; decide, fun y hy => ?_⟩
    simp only [List.mem_cons, List.mem_nil_iff, or_false] at hy
    rcases hy with rfl | rfl | rfl <;> trivial
theorem insA_dlt {w : Wm} {p n : Nat} {b : Option Nat} (h : ToldOk w) (o : Ok w.ns) (hn : n < w.ns.length) : ToldOk (insA w p n b) := by
  unfold insA
  refine fun d hd => tell_dlt (b := none) (outA_dlt h) ?_ d hd
  refine ⟨by show 4 ≤ 1000000; decide, fun y hy => ?_⟩
  simp only [List.mem_cons, List.mem_nil_iff, or_false] at hy
  rcases hy with rfl | rfl | rfl | rfl
  · trivial
  · trivial
  · exact dlt_shape (outA_ok o hn) 60 n
  · exact dlt_up
theorem markA_dlt {w : Wm} {n : Nat} {k : Str} {v : Option Str} (h : ToldOk w) : ToldOk (markA w n k v).1 := by
  unfold markA
  split
  · exact h
  split
  · exact h
  · refine fun d hd => tell_dlt (b := none) h ?_ d hd
    refine ⟨by show 4 ≤ 1000000; decide, fun y hy => ?_⟩
    simp only [List.mem_cons, List.mem_nil_iff, or_false] at hy
    rcases hy with rfl | rfl | rfl | rfl
    · trivial
    · trivial
    · trivial
    · exact dlt_strO
theorem orMiss_dlt {w : Wm} {l : List (Option Nat)} {r : Wm × PyData} (h : ToldOk w) (k : miss w.ns.length l = none → ToldOk r.1) : ToldOk (orMiss w l r).1 := by
  unfold orMiss
  split
  · exact h
  · exact k (by assumption)
theorem doA_dlt {w : Wm} {d : Deed} (h : ToldOk w) (o : Ok w.ns) : ToldOk (doA w d).1 := by
  have mk : ∀ t s, ToldOk (makeA w t s).1 := fun t s => by
    unfold makeA
    split <;> exact h
  cases d with
  | element s => exact mk _ _
  | text s => exact mk _ _
  | insert p n b =>
    refine orMiss_dlt h fun hm => ?_
    have hn := (miss3 hm).2.1
    unfold putA
    split
    · exact h
    split
    · exact h
    split
    · exact h
    split
    · exact h
    split
    · exact h
    · exact insA_dlt h o hn
  | remove n =>
    refine orMiss_dlt h fun hm => ?_
    unfold removeA
    split
    · exact h
    · exact outA_dlt h
  | mark n k v => exact orMiss_dlt h fun _ => markA_dlt h
  | unmark n k => exact orMiss_dlt h fun _ => markA_dlt h
  | write n t =>
    refine orMiss_dlt h fun _ => ?_
    unfold writeA
    split
    · exact h
    split
    · exact h
    · refine fun d hd => tell_dlt (b := none) h ?_ d hd
      refine ⟨by show 3 ≤ 1000000; decide, fun y hy => ?_⟩
      simp only [List.mem_cons, List.mem_nil_iff, or_false] at hy
      rcases hy with rfl | rfl | rfl <;> trivial
theorem cutD_zero {ds : List PyData} : DL.cutD ds (some 0) none = ds := by
  unfold DL.cutD
  rw [HT.sIx_none, show (0 : Int) = ((0 : Nat) : Int) from rfl, HT.sIx_nat, Nat.min_eq_left (Nat.zero_le _), List.drop_zero, Nat.sub_zero, List.take_length]
theorem cutD_mem {ds : List PyData} {lo hi : Option Int} {d : PyData} (h : d ∈ DL.cutD ds lo hi) : d ∈ ds := List.mem_of_mem_drop (List.mem_of_mem_take h)
theorem cutD_len {ds : List PyData} {lo hi : Option Int} : (DL.cutD ds lo hi).length ≤ ds.length := by
  unfold DL.cutD
  rw [List.length_take, List.length_drop]
  omega
section
variable {P : Program} {W : World} {K : PySem.W.Frag} {mg : Str → Option Value} {base : Heap} {f : Addr} {fd : FuncData} {CD CN : Addr} {ec : EC} {a a0 : DA} {A A2 H H1 H2 G G2 Hc : Hp} {w : Wm} {σ : L2.St} {t te tn t1 t2 : TE} {tr : TS} {ts : TS} {Dd : Ends} {tA : TA} {wd : Addr} {fl : Nat → Addr} {n j : Nat} {b : Addr} {xs : List V} {ds : List PyData}
/-! ### the changes -/
theorem r_slO {tl th : TO} {lo hi : Option Int} {Q : VK} (s : Same H A) (g : GV te σ H A (.ref b)) (e : A b = some (.lst xs)) (r : DvA K H xs ds) (gl : GP tl σ H A lo) (gh : GP th σ H A hi) (k : ∀ c ys G H2, Own H A G H2 c (.lst ys) → DvA K G ys (DL.cutD ds lo hi) → Q (.ref c) H2) : tSl (rSlD K) te tl th σ A Q :=
  g.to (.refl s) fun G H2 p2 => gl G H2 p2 _ fun H3 p3 => gh G H3 (p2.trans p3) _ fun H4 p4 => by
    have pp := p2.trans (p3.trans p4)
    exact .inl ⟨b, xs, rfl, .inl (pp.hh _ _ e), fun c hc => k c _ _ _ (Own.new pp hc _) ((DvA.cut r lo hi).to pp.hg)⟩
def spCh (K : PySem.W.Frag) (CD CN : Addr) : Sp := fun vs H1 Q _ => ∃ (a : DA) (i : Int) (H : Hp) (w : Wm), vs = [.ref a.x, .int i] ∧ DH K CD CN a H H1 w ∧ ∀ c xs G H2, Own H H1 G H2 c (.lst xs) → DvA K G xs (DL.cutD w.told (some i) none) → Q (.ref c) H2
theorem fnD_raw {dvs : List V} {x qual : Str} {st : Stmt} {N ps : List Str} {k : Nat} {sp : Sp} (F : FunD K x qual (defArgs st) (defBody st) (defScope st) dvs [] f fd) (S : FnScope N ps (defScope st)) (hl : ∀ vs H Q E, sp vs H Q E → vs.length = ps.length)
    (hbody : ∀ (cdv : Value) (A : Around) (outer : List Env) (s : Shared) (H1 : Hp) (E : XK), Room k (A.deeper (envOfC qual (defScope st) s.heap.objs.size f cdv)) →
      ∃ t, PSs (cxOf CX0 P W K mg base N qual (defScope st) f cdv A outer s H1 E).nox (defBody st) t ∧ ∀ vs Q, sp vs H1 Q E → t { nx := fun _ H' => Q .non H', rt := Q } (start N vs) H1) : FnOk P W K mg base CX0 (k + 1) f fd ps sp := by
  refine FunD.ok F S hl (fun cdv A outer s H vs Q E hr h => ?_)
  obtain ⟨t, h1, h2⟩ := hbody cdv A outer s H E hr
  exact ⟨t, h1.nox, h2 vs Q h⟩
abbrev sDocument_changes : Stmt := inClass (topS 18) 13
theorem scDocument_changes : FnScope ["self", "start"] ["self", "start"] (defScope sDocument_changes) := ⟨rfl, rfl, rfl, by decide +kernel, rfl, by decide +kernel, by decide +kernel⟩
theorem ok_changes (D : DC K CD CN) (F : FunD K "changes" "Document.changes" (defArgs sDocument_changes) (defBody sDocument_changes) (defScope sDocument_changes) [.int 0] [] f fd) : FnOk P W K mg base CX0 1 f fd ["self", "start"] (spCh K CD CN) := by
  refine fnD_raw F scDocument_changes (fun vs H Q E h => ?_) fun cdv A outer s H1 E hr => ⟨_, (pss_one (ps_ret (pe_slice sl_D (pe_fld (pv 0) rfl) (po_some (pv 1)) po_none))), fun vs Q h => ?_⟩
  · obtain ⟨_, _, _, _, rfl, _⟩ := h
    rfl
  obtain ⟨a, i, H, w, rfl, dh, q⟩ := h
  obtain ⟨xs, e, r⟩ := dh.t
  exact r_slO (K := K) dh.gh (dh.told D rfl) e r (gp_some (K := K) (gd_var (i := 1) rfl (.int i))) gp_none fun c ys G H2 o dv => q c ys G H2 o dv
theorem Own.ofPub {p : Addr} {o : HO} (p1 : Pub H H1 G H2) (w : Own G H2 G2 A2 p o) : Own H H1 G2 A2 p o := ⟨p1.trans w.pub, w.at_, w.pg, p1.hh.free w.p1⟩
theorem r_ch {Q : VK} {i : Int} (dh : DH K CD CN a G Hc w) (h0 : σ[j]? = some (some (.ref a.x))) (g : GD K te σ G Hc (.int i)) (k : ∀ c xs G' H', Own G Hc G' H' c (.lst xs) → DvA K G' xs (DL.cutD w.told (some i) none) → Q (.ref c) H') :
    tMeth CD "changes" (spCh K CD CN) [] E0 (tVar j) (tCons te tNil) σ Hc Q := ⟨.ref a.x, h0, a.x, a.dx, docF a, rfl, dh.o, rfl, g.to (.refl dh.gh) fun v G2 H2 p2 dv => by
  have ev := Dv.int_inv dv
  subst ev
  exact ⟨a, i, G2, w, rfl, dh.pub p2, fun c xs G' H' o dx => k c xs G' H' (Own.ofPub p2 o) dx⟩⟩
theorem r_ch0 {Q : VK} (dh : DH K CD CN a G Hc w) (h0 : σ[j]? = some (some (.ref a.x))) (k : ∀ c xs G' H', Own G Hc G' H' c (.lst xs) → DvA K G' xs w.told → Q (.ref c) H') :
    tMeth CD "changes" (spCh K CD CN) [.int 0] E0 (tVar j) tNil σ Hc Q := ⟨.ref a.x, h0, a.x, a.dx, docF a, rfl, dh.o, rfl, by
  exact ⟨a, 0, G, w, rfl, dh, fun c xs G' H' o dx => k c xs G' H' o (by rw [cutD_zero] at dx; exact dx)⟩⟩
theorem gd_ch {i : Int} (dh : DH K CD CN a H A w) (h0 : σ[j]? = some (some (.ref a.x))) (g : GD K te σ H A (.int i)) : GD K (tMeth CD "changes" (spCh K CD CN) [] E0 (tVar j) (tCons te tNil)) σ H A (.list (DL.cutD w.told (some i) none)) := fun H0 H1 p Q q =>
  r_ch (dh.pub p) h0 (g.mono p) fun c xs G' H' o dx => q (.ref c) _ _ o.open_ (Own.dv o dx)
theorem gd_ch0 (dh : DH K CD CN a H A w) (h0 : σ[j]? = some (some (.ref a.x))) : GD K (tMeth CD "changes" (spCh K CD CN) [.int 0] E0 (tVar j) tNil) σ H A (.list w.told) := fun H0 H1 p Q q =>
  r_ch0 (dh.pub p) h0 fun c xs G' H' o dx => q (.ref c) _ _ o.open_ (Own.dv o dx)
/-! ### the law's own list of them -/
theorem WH.toldSl (h : WH K wd fl H A w) {tl th : TO} {lo hi : Option Int} (h0 : σ[j]? = some (some (.ref wd))) (gl : GP tl σ H A lo) (gh : GP th σ H A hi) : GD K (tSl (rSlD K) (tDGet (tVar j) (tC (.str "told"))) tl th) σ H A (.list (DL.cutD w.told lo hi)) := by
  obtain ⟨xs, e, r⟩ := h.t
  exact gd_slQ (WH.keyJ h h0 rfl) e r gl gh
theorem WH.toldLen (h : WH K wd fl H A w) (h0 : σ[j]? = some (some (.ref wd))) : GD K (tCB (DL.rLen K) (tCons (tDGet (tVar j) (tC (.str "told"))) tNil)) σ H A (ofN w.told.length) := fun H0 H1 p Q q => by
  obtain ⟨xs, h1, r⟩ := h.t
  refine (WH.keyJ h (nm := "told") h0 rfl).to p fun G H2 p2 => ⟨.ref (fl 5), xs.length, rfl, .inl ⟨xs, SqL.of (p2.hh _ _ (p.hh _ _ h1)), rfl⟩, ?_⟩
  rw [DvA.len r]
  exact q _ G H2 p2 (.int _)
/-- the heap with a private row seen as public -/
theorem DH.see {c : Addr} {o : HO} (h : DH K CD CN a H A w) (hb : ¬ dS a c) (e : A c = some o) (hc : H c = none) : DH K CD CN a (upd H c o) A w := by
  have ne : ∀ b, dS a b → b ≠ c := fun b hd z => hb (z ▸ hd)
  have s : Same H (upd H c o) := same_new hc o
  refine ⟨fun b u q => ?_, h.o, h.k, ?_, h.len, h.nodes, h.inj, h.kt, h.kb, ?_, ?_, ?_, fun i n hn => ?_⟩
  · by_cases z : b = c
    · subst z; rw [upd_same] at q; rw [e]; exact q
    · rw [upd_ne z] at q; exact h.gh b u q
  · obtain ⟨xs, h1, r⟩ := h.t
    exact ⟨xs, h1, r.to s⟩
  · rw [upd_ne (ne _ (.inl rfl))]; exact h.px
  · rw [upd_ne (ne _ (.inr (.inl rfl)))]; exact h.pk
  · rw [upd_ne (ne _ (.inr (.inr (.inl rfl))))]; exact h.pt
  · obtain ⟨p1, p2, p3⟩ := h.pn i n hn
    refine ⟨?_, ?_, ?_⟩
    · rw [upd_ne (ne _ (.inr (.inr (.inr ⟨i, n, hn, .inl rfl⟩))))]; exact p1
    · rw [upd_ne (ne _ (.inr (.inr (.inr ⟨i, n, hn, .inr (.inl rfl)⟩))))]; exact p2
    · rw [upd_ne (ne _ (.inr (.inr (.inr ⟨i, n, hn, .inr (.inr rfl)⟩))))]; exact p3
/-- world["told"] as data, in a heap where it is seen -/
theorem gd_toldSeen {c : Addr} (hd : A wd = some (.dK (wdk fl))) (h0 : σ[j]? = some (some (.ref wd))) (dv : Dv K H (.ref (fl 5)) (.list ds)) : GD K (tDGet (tVar j) (tC (.str "told"))) σ H A (.list ds) := fun H0 H1 p Q q =>
  ⟨.ref wd, h0, wd, .ref (fl 5), rfl, DGet.k (k := .inr "told") (p.hh _ _ hd), q _ H0 H1 (.refl p.gh) (dv.to p.hg)⟩
theorem s_setO {i : Nat} {D : Ends} (h : t σ H (fun v H' => tr D (σ.set i (some v)) H')) : tSeq (tAsg t (gName i)) tr D σ H := h
end
end LW
end
section
set_option Elab.async false
set_option linter.all false
set_option maxRecDepth 100000
set_option maxHeartbeats 4000000
namespace LW
open PySem PySem.Spec PyProof.Rows L2 DL LM
/-! ### calls of the document with wrong arguments -/
inductive Er
  | arg (s : Str)
  | no (z : Int)
  | rf (s : Str)
def Er.cls (ec : EC) (Cbd : Addr) : Er → Value
  | .arg _ => .ref Cbd
  | .no _ => .ref ec.no
  | .rf _ => .ref ec.rf
def Er.fld : Er → Str
  | .arg _ => "name"
  | .no _ => "number"
  | .rf _ => "reason"
def Er.val : Er → V
  | .arg s => .str s
  | .no z => .int z
  | .rf s => .str s
def ExB (e : Er) (H : Hp) (dd : Addr) : Prop := ∃ fs, H dd = some (.xd fs) ∧ fs.lookup e.fld = some e.val
section
variable {P : Program} {W : World} {K : PySem.W.Frag} {mg : Str → Option Value} {base : Heap} {f : Addr} {fd : FuncData} {CD CN Cbd : Addr} {ec : EC} {a a0 : DA} {A A2 H H0 H1 H2 G G2 Hc : Hp} {w w' : Wm} {σ : L2.St} {t te tn t1 t2 t3 : TE} {tr : TS} {ts : TS} {D : Ends} {tA : TA} {n j : Nat} {d : PyData} {v : V} {ds : List PyData}
abbrev BadR := Wm → List PyData → Er → Prop
def spB (K : PySem.W.Frag) (CD CN : Addr) (ec : EC) (Cbd : Addr) (n : Nat) (Bad : BadR) : Sp := fun vs H1 Q E => ∃ (a : DA) (us : List V) (ds : List PyData) (H : Hp) (w : Wm) (e : Er), vs = .ref a.x :: us ∧ us.length = n ∧ DH K CD CN a H H1 w ∧ Ok w.ns ∧ DvA K H us ds ∧ Bad w ds e ∧ ∀ dd H2, Same H1 H2 → ExB e H2 dd → E (e.cls ec Cbd) (some dd) H2
theorem fn_B {x qual : Str} {st : Stmt} {N ps : List Str} {k n : Nat} {Bad : BadR} (F : Fun K x qual st f fd) (S : FnScope N ps (defScope st)) (hn : n + 1 = ps.length)
    (hbody : ∀ (cdv : Value) (A : Around) (outer : List Env) (s : Shared) (H1 : Hp) (E : XK), Room k (A.deeper (envOfC qual (defScope st) s.heap.objs.size f cdv)) →
      ∃ t, PSs (cxOf (L2.CX P W) P W K mg base N qual (defScope st) f cdv A outer s H1 E) (defBody st) t ∧ ∀ a us ds H w e (Q : VK), us.length = n → DH K CD CN a H H1 w → Ok w.ns → DvA K H us ds → Bad w ds e →
        (∀ dd H2, Same H1 H2 → ExB e H2 dd → E (e.cls ec Cbd) (some dd) H2) → t { nx := fun _ H' => Q .non H', rt := Q } (start N (.ref a.x :: us)) H1) :
    FnOk P W K mg base (L2.CX P W) (k + 1) f fd ps (spB K CD CN ec Cbd n Bad) := by
  refine F.okX S (fun vs H Q E h => ?_) (fun cdv A outer s H vs Q E hr h => ?_)
  · obtain ⟨_, us, _, _, _, _, rfl, hl, _⟩ := h
    rw [List.length_cons, hl, hn]
  obtain ⟨a, us, ds, H0, w, e, rfl, hl, dh, o, dv, hp, ke⟩ := h
  obtain ⟨t, h1, h2⟩ := hbody cdv A outer s H E hr
  exact ⟨t, h1, h2 a us ds H0 w e Q hl dh o dv hp ke⟩
theorem fnD_B {dvs : List V} {x qual : Str} {st : Stmt} {N ps : List Str} {k n : Nat} {Bad : BadR} (F : FunD K x qual (defArgs st) (defBody st) (defScope st) dvs [] f fd) (S : FnScope N ps (defScope st)) (hn : n + 1 = ps.length)
    (hbody : ∀ (cdv : Value) (A : Around) (outer : List Env) (s : Shared) (H1 : Hp) (E : XK), Room k (A.deeper (envOfC qual (defScope st) s.heap.objs.size f cdv)) →
      ∃ t, PSs (cxOf (L2.CX P W) P W K mg base N qual (defScope st) f cdv A outer s H1 E) (defBody st) t ∧ ∀ a us ds H w e (Q : VK), us.length = n → DH K CD CN a H H1 w → Ok w.ns → DvA K H us ds → Bad w ds e →
        (∀ dd H2, Same H1 H2 → ExB e H2 dd → E (e.cls ec Cbd) (some dd) H2) → t { nx := fun _ H' => Q .non H', rt := Q } (start N (.ref a.x :: us)) H1) :
    FnOk P W K mg base (L2.CX P W) (k + 1) f fd ps (spB K CD CN ec Cbd n Bad) := by
  refine FunD.ok F S (fun vs H Q E h => ?_) (fun cdv A outer s H vs Q E hr h => ?_)
  · obtain ⟨_, us, _, _, _, _, rfl, hl, _⟩ := h
    rw [List.length_cons, hl, hn]
  obtain ⟨a, us, ds, H0, w, e, rfl, hl, dh, o, dv, hp, ke⟩ := h
  obtain ⟨t, h1, h2⟩ := hbody cdv A outer s H E hr
  exact ⟨t, h1, h2 a us ds H0 w e Q hl dh o dv hp ke⟩
def spO2 (sp sp' : Sp) : Sp := fun vs H Q E => sp vs H Q E ∨ sp' vs H Q E
theorem fn_o2 {CX : CXT} {k : Nat} {ps : List Str} {sp sp' : Sp} (F : FnOk P W K mg base CX k f fd ps sp) (G : FnOk P W K mg base CX k f fd ps sp') : FnOk P W K mg base CX k f fd ps (spO2 sp sp') :=
  ⟨fun vs H Q E q => q.elim (F.len vs H Q E) (G.len vs H Q E), fun A outer s H args us vs Q E hr he hb hv hs => hs.elim (F.run A outer s H args us vs Q E hr he hb hv) (G.run A outer s H args us vs Q E hr he hb hv)⟩
/-! _node -/
def BadN : BadR := fun w ds e => ∃ z : Int, ds = [.int z] ∧ e = .no z ∧ z.natAbs < 100000 ∧ ¬ (0 ≤ z ∧ z < (w.ns.length : Int))
theorem okV_int {z : Int} (h : z.natAbs < 1000000) : okV (.int z) := .inr ⟨_, rfl, Nat.lt_trans h (Nat.le_of_ble_eq_true rfl)⟩
theorem ok_nodeB (T : Bt mg) (D : DC K CD CN) (X : EF K ec) (F : Fun K "_node" "Document._node" sDocument_node f fd) (cis_number : Cal P W K mg base 1 "is_number" (spF K 1 preV (oneF numD))) (x_NoSuchNode : Ex P W K mg base 1 "NoSuchNode" ec.no (spInit K ec.no "number")) :
    FnOk P W K mg base (L2.CX P W) 3 f fd ["self", "number"] (spB K CD CN ec Cbd 1 BadN) := by
  refine fn_B F scDocument_node rfl fun cdv A outer s H1 E hr => ⟨_, (pss_cons (ps_if (PW.pt (pw_or (pt_not (pt_tr (pe_k cis_number hr (by omega) (pa_cons (pv 1) pa_nil)))) (pw_or1 (pt_cmpR op_ge (pv 1) (pe_callB cr_len (by rfl) T.len PySem.boot_len (pa_cons (pe_fld (pv 0) rfl) pa_nil)) (nomark _))))) (pss_one (ps_raise rfl (takes_of rfl rfl rfl rfl) (pmk_e x_NoSuchNode hr (by omega) (pa_cons (pv 1) pa_nil)))) pss_nil)
      (pss_one (ps_ret (pe_ix ix_seq (pe_fld (pv 0) rfl) (pv 1) (fun _ _ => rfl))))), fun a us ds H w e Q hl dh o dv hp ke => ?_⟩
  obtain ⟨z, rfl, rfl, hz, hn⟩ := hp
  obtain ⟨v, rfl, d1⟩ := DvA.inv1 dv
  have ev := Dv.int_inv d1
  subst ev
  have gC : GD K (tCall (spF K 1 preV (oneF numD)) [] E0 (tCons (tVar 1) tNil)) [some (.ref a.x), some (.int z)] H H1 (.bool (decide (0 ≤ z))) := gd_call (K := K) (A := H1) (f := oneF numD) (Pre := preV) (ga_cons (gd_var rfl d1) ga_nil) rfl ⟨.int z, rfl, fun s z => nomatch z⟩
  refine s_ifr (K := K) (b := true) (by
    have g := gt_or (gt_not (gt_tr (d := .bool (decide (0 ≤ z))) gC)) fun _ => gt_test (gdo (K := K) (gd_var (i := 1) rfl d1) (dh.len' D rfl) (go_b2 (f := fun i j => decide (j ≤ i))))
    have zz : (!truD (.bool (decide (0 ≤ z))) || decide ((w.ns.length : Int) ≤ z)) = true := by
      show (!decide (0 ≤ z) || decide ((w.ns.length : Int) ≤ z)) = true
      by_cases h0 : 0 ≤ z
      · rw [decide_eq_true h0, decide_eq_true (show (w.ns.length : Int) ≤ z by omega)]; rfl
      · rw [decide_eq_false h0]; rfl
    rw [zz] at g
    exact g) dh.gh (fun c H2 s2 => ?_) fun z => nomatch z
  exact r_raise (H := H1) s2 X.no.1 X.no.2 (okV_int (by omega)) (fun Q' q => ⟨_, rfl, q _ (.refl _)⟩) fun dd H3 s3 hx => ke dd H3 s3 hx
abbrev spN2 (K : PySem.W.Frag) (CD CN : Addr) (ec : EC) (Cbd : Addr) : Sp := spO2 (spNode K CD CN ec) (spB K CD CN ec Cbd 1 BadN)
/-- a number that is there -/
theorem e_nodeG {Q : VK} {E : XK} {k : Nat} (p : DP K CD CN a0 H H1 a G Hc w) (h0 : σ[0]? = some (some (.ref a.x))) (hk : k < w.ns.length) (hz : k < 1000000) (gn : GD K tn σ G Hc (ofN k)) (kq : ∀ m, a.L[k]? = some m → ∀ G' H', DP K CD CN a0 H H1 a G' H' w → Pub G Hc G' H' → Q (.ref m.na) H') :
    tMeth CD "_node" (spN2 K CD CN ec Cbd) [] E (tVar 0) (tCons tn tNil) σ Hc Q :=
  ⟨.ref a.x, h0, a.x, a.dx, docF a, rfl, p.dh.o, rfl, gn.to (.refl p.gh) fun v G2 H2 p2 dv => .inl ⟨a, v, k, G2, w, rfl, p.dh.pub p2, hz, dv, fun m hm G3 H3 p3 => kq m hm G3 H3 (p.pub (p2.trans p3)) (p2.trans p3), fun hn => absurd hk hn⟩⟩
/-- one that is not -/
theorem e_nodeB {Q : VK} {E : XK} {z : Int} (p : DP K CD CN a0 H H1 a G Hc w) (o : Ok w.ns) (h0 : σ[0]? = some (some (.ref a.x))) (hz : z.natAbs < 100000) (hn : ¬ (0 ≤ z ∧ z < (w.ns.length : Int))) (gn : GD K tn σ G Hc (.int z)) (ke : ∀ dd H2, Same Hc H2 → ExB (.no z) H2 dd → E (.ref ec.no) (some dd) H2) :
    tMeth CD "_node" (spN2 K CD CN ec Cbd) [] E (tVar 0) (tCons tn tNil) σ Hc Q :=
  ⟨.ref a.x, h0, a.x, a.dx, docF a, rfl, p.dh.o, rfl, gn.to (.refl p.gh) fun v G2 H2 p2 dv => .inr ⟨a, [v], [.int z], G2, w, .no z, rfl, rfl, p.dh.pub p2, o, .cons dv .nil, ⟨z, rfl, rfl, hz, hn⟩, fun dd H3 s3 hx => ke dd H3 (p2.hh.trans s3) hx⟩⟩
/-- a call that is refused -/
theorem e_bad {Q : VK} {E : XK} {mn : Str} {Bad : BadR} {e : Er} (p : DP K CD CN a0 H H1 a G Hc w) (o : Ok w.ns) (h0 : σ[0]? = some (some (.ref a.x))) (ga : GA K tA σ G Hc ds) (hn : ds.length = n) (hb : Bad w ds e) (hm : (docF a).lookup mn = none) (ke : ∀ dd H2, Same Hc H2 → ExB e H2 dd → E (e.cls ec Cbd) (some dd) H2) :
    tMeth CD mn (spB K CD CN ec Cbd n Bad) [] E (tVar 0) tA σ Hc Q := ⟨.ref a.x, h0, a.x, a.dx, docF a, rfl, p.dh.o, hm, ga.to (.refl p.gh) fun vs G2 H2 p2 dv => by
  show spB K CD CN ec Cbd n Bad (.ref a.x :: (vs ++ [])) H2 Q E
  rw [List.append_nil]
  exact ⟨a, vs, ds, G2, w, e, rfl, (DvA.len dv).trans hn, p.dh.pub p2, o, dv, hb, fun dd H3 s3 hx => ke dd H3 (p2.hh.trans s3) hx⟩⟩
theorem e_badO {Q : VK} {E : XK} {mn : Str} {Bad : BadR} {e : Er} {sp : Sp} (p : DP K CD CN a0 H H1 a G Hc w) (o : Ok w.ns) (h0 : σ[0]? = some (some (.ref a.x))) (ga : GA K tA σ G Hc ds) (hn : ds.length = n) (hb : Bad w ds e) (hm : (docF a).lookup mn = none) (ke : ∀ dd H2, Same Hc H2 → ExB e H2 dd → E (e.cls ec Cbd) (some dd) H2) :
    tMeth CD mn (spO2 sp (spB K CD CN ec Cbd n Bad)) [] E (tVar 0) tA σ Hc Q := ⟨.ref a.x, h0, a.x, a.dx, docF a, rfl, p.dh.o, hm, ga.to (.refl p.gh) fun vs G2 H2 p2 dv => by
  show spO2 sp (spB K CD CN ec Cbd n Bad) (.ref a.x :: (vs ++ [])) H2 Q E
  rw [List.append_nil]
  exact .inr ⟨a, vs, ds, G2, w, e, rfl, (DvA.len dv).trans hn, p.dh.pub p2, o, dv, hb, fun dd H3 s3 hx => ke dd H3 (p2.hh.trans s3) hx⟩⟩
/-! _check_insert, insert -/
def badZ (w : Wm) (z : Int) : Prop := z.natAbs < 100000 ∧ ¬ (0 ≤ z ∧ z < (w.ns.length : Int))
inductive BadIns : BadR
  | p {w : Wm} {z : Int} {x y : PyData} : badZ w z → BadIns w [.int z, x, y] (.no z)
  | n {w : Wm} {p : Nat} {z : Int} {y : PyData} : p < w.ns.length → badZ w z → BadIns w [ofN p, .int z, y] (.no z)
  | b {w : Wm} {p n : Nat} {z : Int} : p < w.ns.length → n < w.ns.length → badZ w z → BadIns w [ofN p, ofN n, .int z] (.no z)
  | t {w : Wm} {p n : Nat} : p < w.ns.length → n < w.ns.length → (nd w.ns p).txt = true → BadIns w [ofN p, ofN n, .none] (.rf "not an element")
  | o {w : Wm} {p : Nat} : p < w.ns.length → (nd w.ns p).txt = false → BadIns w [ofN p, ofN 0, .none] (.rf "top")
theorem ok_checkB (T : Bt mg) (D : DC K CD CN) (X : EF K ec) (F : Fun K "_check_insert" "Document._check_insert" sDocument_check_insert f fd) (m__node : Met P W K mg base (L2.CX P W) 3 CD "_node" (spN2 K CD CN ec Cbd)) (m_above : Met P W K mg base CX0 4 CD "above" (spN K CD CN 1 ar1 preN fun w n => aboveD w.ns n))
    (x_RefusedError : Ex P W K mg base 1 "RefusedError" ec.rf (spInit K ec.rf "reason")) : FnOk P W K mg base (L2.CX P W) 6 f fd ["self", "parent", "child", "before"] (spB K CD CN ec Cbd 3 BadIns) := by
  refine fn_B F scDocument_check_insert rfl fun cdv A outer s H1 E hr => ⟨_, (pss_cons (ps_set (i := 4) scDocument_check_insert.nd rfl (Or.inl rfl) (pe_mX m__node hr (by omega) (passes_call (takes_of rfl rfl rfl rfl) (fun _ _ _ _ h => h)) (pv 0) (pa_cons (pv 1) pa_nil)))
      (pss_cons (ps_expr (pe_mX m__node hr (by omega) (passes_call (takes_of rfl rfl rfl rfl) (fun _ _ _ _ h => h)) (pv 0) (pa_cons (pv 2) pa_nil)))
      (pss_cons (ps_if (pt_cmpR op_isnot1 (pv 3) pe_non (nomark _)) (pss_one (ps_expr (pe_mX m__node hr (by omega) (passes_call (takes_of rfl rfl rfl rfl) (fun _ _ _ _ h => h)) (pv 0) (pa_cons (pv 3) pa_nil)))) pss_nil)
      (pss_cons (ps_if (pt_cmpR op_is1 (pe_fld (pv 4) rfl) pe_non (nomark _)) (pss_one (ps_raise rfl (takes_of rfl rfl rfl rfl) (pmk_e x_RefusedError hr (by omega) (pa_cons pe_str pa_nil)))) pss_nil)
      (pss_cons (ps_if (pt_cmpR (op_eqA hr.units) (pv 2) pe_int (nomark _)) (pss_one (ps_raise rfl (takes_of rfl rfl rfl rfl) (pmk_e x_RefusedError hr (by omega) (pa_cons pe_str pa_nil)))) pss_nil)
      (pss_cons (ps_if (pt_cmpR op_in_seq (pv 2) (pe_m m_above hr (by omega) (pv 0) (pa_cons (pv 1) pa_nil)) (by rfl)) (pss_one (ps_raise rfl (takes_of rfl rfl rfl rfl) (pmk_e x_RefusedError hr (by omega) (pa_cons pe_str pa_nil)))) pss_nil)
      (pss_one (ps_if (PW.pt (pw_and (pt_cmpR op_isnot1 (pv 3) pe_non (nomark _)) (pw_and1 (PW.pt (pw_or (pt_cmpR (op_eqA hr.units) (pv 3) (pv 2) (nomark _)) (pw_or1 (pt_cmpR op_notIn_seq (pv 3) (pe_fld (pv 4) rfl) (by rfl)))))))) (pss_one (ps_raise rfl (takes_of rfl rfl rfl rfl) (pmk_e x_RefusedError hr (by omega) (pa_cons pe_str pa_nil)))) pss_nil)))))))), fun a us ds H w e Q hl dh o dv hp ke => ?_⟩
  have p0 := DP.refl dh
  have hlen := o.len
  have rf : ∀ {σ : L2.St} {Hx : Hp} (s : Str), s.length ≤ 1000 → Same H1 Hx → e = .rf s → tMkO ec.rf (spInit K ec.rf "reason") [] (tCons (tC (.str s)) tNil) σ Hx E := fun s hs sx he => r_raise (v := .str s) (H := H1) sx X.rf.1 X.rf.2 (.inl ⟨_, rfl, hs⟩) (fun Q' q => q _ (.refl _)) fun dd H5 s5 hx => by subst he; exact ke dd H5 s5 hx
  obtain ⟨x, y, u, rfl⟩ : ∃ x y u, us = [x, y, u] := by
    match us, hl with
    | [x, y, u], _ => exact ⟨x, y, u, rfl⟩
  cases hp with
  | p hz =>
    obtain ⟨v, v2, v3, e, d1, d2, d3⟩ := DvA.inv3 dv
    cases e
    exact e_nodeB p0 o rfl hz.1 hz.2 (gd_var rfl d1) fun dd H2 s2 hx => ke dd H2 s2 hx
  | n hp hz =>
    obtain ⟨v, v2, v3, e, d1, d2, d3⟩ := DvA.inv3 dv
    cases e
    refine e_nodeG p0 rfl hp (by omega) (gd_var rfl d1) fun m hm G2 H2 q2 pu2 => ?_
    exact e_nodeB q2 o rfl hz.1 hz.2 (gd_var rfl (d2.to pu2.hg)) fun dd H2 s2 hx => ke dd H2 (pu2.hh.trans s2) hx
  | b hp hn hz =>
    obtain ⟨v, v2, v3, e, d1, d2, d3⟩ := DvA.inv3 dv
    cases e
    refine e_nodeG p0 rfl hp (by omega) (gd_var rfl d1) fun m hm G2 H2 q2 pu2 => ?_
    refine e_nodeG q2 rfl hn (by omega) (gd_var rfl (d2.to pu2.hg)) fun m2 hm2 G3 H3 q3 pu3 => ?_
    show tSeq (tIfS (tTest (tOp rIsNot1 (tVar 3) (tC .non))) _ tNext) _ _ _ _
    have d33 := d3.to (pu2.hg.trans pu3.hg)
    refine s_if (b := true) (gt_test (gdo (K := K) (gd_var (i := 3) rfl d33) gd_non go_notN)) q3.gh (fun _ H4 s4 => ?_) fun z => nomatch z
    exact e_nodeB (q3.test s4) o rfl hz.1 hz.2 (gd_var (i := 3) rfl d33) fun dd H5 s5 hx => ke dd H5 ((pu2.hh.trans pu3.hh).trans (s4.trans s5)) hx
  | t hp hn ht =>
    obtain ⟨v, v2, v3, e, d1, d2, d3⟩ := DvA.inv3 dv
    cases e
    refine e_nodeG p0 rfl hp (by omega) (gd_var rfl d1) fun m hm G2 H2 q2 pu2 => ?_
    refine e_nodeG q2 rfl hn (by omega) (gd_var rfl (d2.to pu2.hg)) fun m2 hm2 G3 H3 q3 pu3 => ?_
    show tSeq (tIfS (tTest (tOp rIsNot1 (tVar 3) (tC .non))) _ tNext) _ _ _ _
    have d33 := d3.to (pu2.hg.trans pu3.hg)
    refine s_if (b := false) (gt_test (gdo (K := K) (gd_var (i := 3) rfl d33) gd_non go_notN)) q3.gh (fun z => nomatch z) fun _ H4 s4 => ?_
    have q4 := q3.test s4
    have N4 := q4.dh.nodes _ m hm
    unfold tNext
    dsimp only
    refine s_ifr (K := K) (b := true) (by
      have g := gt_isText K (NodeAt.fld N4 D (gv_var (σ := [some (.ref a.x), some x, some y, some u, some (.ref m.na)]) (i := 4) (H := G3) rfl) D.aN.1 rfl)
      rw [ht] at g
      exact g) q4.gh (fun _ H5 s5 => rf "not an element" (by decide) ((pu2.hh.trans pu3.hh).trans (s4.trans s5)) rfl) fun z => nomatch z
  | o hp ht =>
    obtain ⟨v, v2, v3, e, d1, d2, d3⟩ := DvA.inv3 dv
    cases e
    refine e_nodeG p0 rfl hp (by omega) (gd_var rfl d1) fun m hm G2 H2 q2 pu2 => ?_
    refine e_nodeG (k := 0) q2 rfl o.pos (by omega) (gd_var rfl (d2.to pu2.hg)) fun m2 hm2 G3 H3 q3 pu3 => ?_
    show tSeq (tIfS (tTest (tOp rIsNot1 (tVar 3) (tC .non))) _ tNext) _ _ _ _
    have d33 := d3.to (pu2.hg.trans pu3.hg)
    have d23 := d2.to (pu2.hg.trans pu3.hg)
    refine s_if (b := false) (gt_test (gdo (K := K) (gd_var (i := 3) rfl d33) gd_non go_notN)) q3.gh (fun z => nomatch z) fun _ H4 s4 => ?_
    have q4 := q3.test s4
    have N4 := q4.dh.nodes _ m hm
    unfold tNext
    dsimp only
    refine s_ifr (K := K) (b := false) (by
      have g := gt_isText K (NodeAt.fld N4 D (gv_var (σ := [some (.ref a.x), some x, some y, some u, some (.ref m.na)]) (i := 4) (H := G3) rfl) D.aN.1 rfl)
      rw [ht] at g
      exact g) q4.gh (fun z => nomatch z) fun _ H5 s5 => ?_
    have q5 := q4.test s5
    refine s_ifr (K := K) (b := true) (gt_test (gdo (K := K) (gd_var (i := 2) rfl d23) (gd_int (i := 0)) (go_eqN (a := 0) (b := 0)))) q5.gh (fun _ H6 s6 => rf "top" (by decide) ((pu2.hh.trans pu3.hh).trans (s4.trans (s5.trans s6))) rfl) fun z => nomatch z
theorem ok_insertB (T : Bt mg) (D : DC K CD CN) (X : EF K ec) (F : FunD K "insert" "Document.insert" (defArgs sDocument_insert) (defBody sDocument_insert) (defScope sDocument_insert) [.non] [] f fd) (m__check_insert : Met P W K mg base (L2.CX P W) 6 CD "_check_insert" (spB K CD CN ec Cbd 3 BadIns)) (m__is_there : Met P W K mg base CX0 1 CD "_is_there" (spN K CD CN 3 arP prePI fun w x => .bool (isAt w.ns x.1 x.2.1 x.2.2)))
    (m_remove : Met P W K mg base (L2.CX P W) 6 CD "remove" (spX K CD CN ec 1 ar1 preR fRm)) (m__tell : Met P W K mg base CX0 5 CD "_tell" (spX K CD CN ec 1 arDT preDT fDT)) (m_shape : Met P W K mg base CX0 64 CD "shape" (spN K CD CN 1 ar1 (preShape 60) fun w n => shapeF 60 w.ns n)) :
    FnOk P W K mg base (L2.CX P W) 65 f fd ["self", "parent", "child", "before"] (spB K CD CN ec Cbd 3 BadIns) := by
  refine fnD_B F scDocument_insert rfl fun cdv A outer s H1 E hr => ⟨_, (pss_cons (ps_expr (pe_mX m__check_insert hr (by omega) (passes_call (takes_of rfl rfl rfl rfl) (fun _ _ _ _ h => h)) (pv 0) (pa_cons (pv 1) (pa_cons (pv 2) (pa_cons (pv 3) pa_nil)))))
      (pss_cons (ps_if (pt_tr (pe_m m__is_there hr (by omega) (pv 0) (pa_cons (pv 1) (pa_cons (pv 2) (pa_cons (pv 3) pa_nil))))) (pss_one ps_retN) pss_nil)
      (pss_cons (ps_if (pt_cmpR op_isnot1 (pe_fld (pe_ix ix_seq (pe_fld (pv 0) rfl) (pv 2) (fun _ _ => rfl)) rfl) pe_non (nomark _)) (pss_one (ps_expr (pe_mX m_remove hr (by omega) (passes_call (takes_of rfl rfl rfl rfl) (fun _ _ _ _ h => h)) (pv 0) (pa_cons (pv 2) pa_nil)))) pss_nil)
      (pss_cons (ps_set (i := 4) scDocument_insert.nd rfl (Or.inl rfl) (pe_fld (pe_ix ix_seq (pe_fld (pv 0) rfl) (pv 1) (fun _ _ => rfl)) rfl))
      (pss_cons (ps_set (i := 5) scDocument_insert.nd rfl (Or.inl rfl) (pe_ifExp (pt_cmpR op_is1 (pv 3) pe_non (nomark _)) (pe_callB cr_len (by rfl) T.len PySem.boot_len (pa_cons (pv 4) pa_nil)) (pe_bm PySem.F.plainAttrs_list PySem.F.slot_list_index PySem.F.type_list_index mt_index (pv 4) (pa_cons (pv 3) pa_nil))))
      (pss_cons (ps_expr (pe_bm PySem.F.plainAttrs_list PySem.F.slot_list_insert PySem.F.type_list_insert mt_insert (pv 4) (pa_cons (pv 5) (pa_cons (pv 2) pa_nil))))
      (pss_cons (ps_fld (pe_ix ix_seq (pe_fld (pv 0) rfl) (pv 2) (fun _ _ => rfl)) (pv 1) rfl)
      (pss_one (ps_expr (pe_m m__tell hr (by omega) (pv 0) (pa_cons (RR.pe_tupF (pa_cons pe_str (pa_cons (pv 1) (pa_cons (pe_m m_shape hr (by omega) (pv 0) (pa_cons (pv 2) pa_nil)) (pa_cons (pv 3) pa_nil))))) pa_nil))))))))))), fun a us ds H w e Q hl dh o dv hp ke => ?_⟩
  obtain ⟨x, y, u, rfl⟩ : ∃ x y u, us = [x, y, u] := by
    match us, hl with
    | [x, y, u], _ => exact ⟨x, y, u, rfl⟩
  have hd : ∃ d1 d2 d3, ds = [d1, d2, d3] := by
    match ds, DvA.len dv with
    | [a, b, c], _ => exact ⟨a, b, c, rfl⟩
  obtain ⟨c1, c2, c3, rfl⟩ := hd
  obtain ⟨v, v2, v3, e, d1, d2, d3⟩ := DvA.inv3 dv
  cases e
  exact e_bad (Bad := BadIns) (DP.refl dh) o rfl (ga_cons (gd_var (i := 1) rfl d1) (ga_cons (gd_var (i := 2) rfl d2) (ga_cons (gd_var (i := 3) rfl d3) ga_nil))) rfl hp rfl ke
/-! remove -/
inductive BadRm : BadR
  | n {w : Wm} {z : Int} : badZ w z → BadRm w [.int z] (.no z)
  | o {w : Wm} : BadRm w [ofN 0] (.rf "no parent")
theorem ok_removeB (T : Bt mg) (D : DC K CD CN) (X : EF K ec) (F : Fun K "remove" "Document.remove" sDocument_remove f fd) (m__node : Met P W K mg base (L2.CX P W) 3 CD "_node" (spN2 K CD CN ec Cbd)) (m__tell : Met P W K mg base CX0 5 CD "_tell" (spX K CD CN ec 1 arDT preDT fDT)) (x_RefusedError : Ex P W K mg base 1 "RefusedError" ec.rf (spInit K ec.rf "reason")) :
    FnOk P W K mg base (L2.CX P W) 6 f fd ["self", "child"] (spB K CD CN ec Cbd 1 BadRm) := by
  refine fn_B F scDocument_remove rfl fun cdv A outer s H1 E hr => ⟨_, (pss_cons (ps_set (i := 2) scDocument_remove.nd rfl (Or.inl rfl) (pe_mX m__node hr (by omega) (passes_call (takes_of rfl rfl rfl rfl) (fun _ _ _ _ h => h)) (pv 0) (pa_cons (pv 1) pa_nil)))
      (pss_cons (ps_set (i := 3) scDocument_remove.nd rfl (Or.inl rfl) (pe_fld (pv 2) rfl))
      (pss_cons (ps_if (pt_cmpR op_is1 (pv 3) pe_non (nomark _)) (pss_one (ps_raise rfl (takes_of rfl rfl rfl rfl) (pmk_e x_RefusedError hr (by omega) (pa_cons pe_str pa_nil)))) pss_nil)
      (pss_cons (ps_expr (pe_bm PySem.F.plainAttrs_list PySem.F.slot_list_remove PySem.F.type_list_remove mt_remove (pe_fld (pe_ix ix_seq (pe_fld (pv 0) rfl) (pv 3) (fun _ _ => rfl)) rfl) (pa_cons (pv 1) pa_nil)))
      (pss_cons (ps_fld (pv 2) pe_non rfl)
      (pss_one (ps_expr (pe_m m__tell hr (by omega) (pv 0) (pa_cons (RR.pe_tupF (pa_cons pe_str (pa_cons (pv 3) (pa_cons (pv 1) pa_nil)))) pa_nil))))))))), fun a us ds H w e Q hl dh o dv hp ke => ?_⟩
  have p0 := DP.refl dh
  cases hp with
  | n hz =>
    obtain ⟨v, rfl, d1⟩ := DvA.inv1 dv
    exact e_nodeB p0 o rfl hz.1 hz.2 (gd_var rfl d1) fun dd H2 s2 hx => ke dd H2 s2 hx
  | o =>
    obtain ⟨v, rfl, d1⟩ := DvA.inv1 dv
    refine e_nodeG (k := 0) p0 rfl o.pos (by omega) (gd_var rfl d1) fun m hm G2 H2 q2 pu2 => ?_
    have N2 := q2.dh.nodes _ m hm
    refine s_set (K := K) (d := .none) ((NodeAt.fld N2 D (gv_var (i := 2) rfl) D.aN.2.2.2.1 rfl).gd (by rw [o.top]; exact .non)) q2.gh fun v3 G3 H3 p3 d3 => ?_
    refine s_ifr (K := K) (b := true) (gt_test (gdo (K := K) (gd_var (i := 3) rfl d3) gd_non go_isN)) (q2.pub p3).gh (fun _ H4 s4 => ?_) fun z => nomatch z
    exact r_raise (v := .str "no parent") (H := H1) ((pu2.hh.trans p3.hh).trans s4) X.rf.1 X.rf.2 (.inl ⟨_, rfl, by decide⟩) (fun Q' q => q _ (.refl _)) fun dd H5 s5 hx => ke dd H5 s5 hx
/-! _check_mark, mark, unmark -/
inductive BadCm : BadR
  | n {w : Wm} {z : Int} {y : PyData} : badZ w z → BadCm w [.int z, y] (.no z)
  | k {w : Wm} {n : Nat} {s : Str} : n < w.ns.length → nameB s = false → s.length ≤ 1000 → BadCm w [ofN n, .str s] (.arg "name")
theorem gt_nameF {s : Str} (h : nameB s = false) (z : s.length ≤ 1000) (g : GD K t σ H A (.str s)) : GT (tNot (tTr K (tCall (spF K 1 preV (oneF nameD)) [] E0 (tCons t tNil)))) σ H A true := by
  have g2 := gd_call (K := K) (f := oneF nameD) (Pre := preV) (ga_cons g ga_nil) rfl ⟨.str s, rfl, fun x e => by cases e; omega⟩
  rw [show oneF nameD [.str s] = .bool (nameB s) from rfl, h] at g2
  exact gt_not (b := false) (gt_tr g2)
theorem gt_plainF {s : Str} (h : plainT s = false) (z : s.length ≤ 1000) (g : GD K t σ H A (.str s)) : GT (tNot (tTr K (tCall (spF K 1 preV (oneF plainD)) [] E0 (tCons t tNil)))) σ H A true := by
  have g2 := gd_call (K := K) (f := oneF plainD) (Pre := preV) (ga_cons g ga_nil) rfl ⟨.str s, rfl, fun x e => by cases e; omega⟩
  rw [show oneF plainD [.str s] = .bool (plainT s) from rfl, h] at g2
  exact gt_not (b := false) (gt_tr g2)
theorem ok_checkmarkB (T : Bt mg) (D : DC K CD CN) (X : OexC K Cbd ∧ PySem.W.findIn K (.ref Cbd) "name" = some none) (F : Fun K "_check_mark" "Document._check_mark" sDocument_check_mark f fd) (m__node : Met P W K mg base (L2.CX P W) 3 CD "_node" (spN2 K CD CN ec Cbd)) (cis_name : Cal P W K mg base 2 "is_name" (spF K 1 preV (oneF nameD)))
    (x_InvalidArgument : Ex P W K mg base 1 "InvalidArgument" Cbd (spInit K Cbd "name")) : FnOk P W K mg base (L2.CX P W) 4 f fd ["self", "number", "name"] (spB K CD CN ec Cbd 2 BadCm) := by
  refine fn_B F scDocument_check_mark rfl fun cdv A outer s H1 E hr => ⟨_, (pss_cons (ps_expr (pe_mX m__node hr (by omega) (passes_call (takes_of rfl rfl rfl rfl) (fun _ _ _ _ h => h)) (pv 0) (pa_cons (pv 1) pa_nil)))
      (pss_one (ps_if (pt_not (pt_tr (pe_k cis_name hr (by omega) (pa_cons (pv 2) pa_nil)))) (pss_one (ps_raise rfl (takes_of rfl rfl rfl rfl) (pmk_e x_InvalidArgument hr (by omega) (pa_cons pe_str pa_nil)))) pss_nil))), fun a us ds H w e Q hl dh o dv hp ke => ?_⟩
  have p0 := DP.refl dh
  have hlen := o.len
  cases hp with
  | n hz =>
    obtain ⟨v, v2, rfl, d1, d2⟩ := DvA.inv2 dv
    exact e_nodeB p0 o rfl hz.1 hz.2 (gd_var rfl d1) fun dd H2 s2 hx => ke dd H2 s2 hx
  | k hn hs hz =>
    obtain ⟨v, v2, rfl, d1, d2⟩ := DvA.inv2 dv
    refine e_nodeG p0 rfl hn (by omega) (gd_var rfl d1) fun m hm G2 H2 q2 pu2 => ?_
    dsimp only
    refine s_if (b := true) (G := G2) (gt_nameF (K := K) (σ := [some (.ref a.x), some v, some v2]) (t := tVar 2) hs hz (gd_var (i := 2) rfl (d2.to pu2.hg))) q2.gh (fun _ H3 s3 => ?_) fun z => nomatch z
    exact r_raise (v := .str "name") (H := H1) (pu2.hh.trans s3) X.1 X.2 (.inl ⟨_, rfl, by decide⟩) (fun Q' q => q _ (.refl _)) fun dd H5 s5 hx => ke dd H5 s5 hx
/-- good arguments: nothing happens -/
def spCmG (K : PySem.W.Frag) (CD CN : Addr) : Sp := fun vs H1 Q _ => ∃ (a : DA) (v u : V) (n : Nat) (s : Str) (H : Hp) (w : Wm), vs = [.ref a.x, v, u] ∧ DH K CD CN a H H1 w ∧ n < w.ns.length ∧ w.ns.length ≤ 60 ∧ nameB s = true ∧ Dv K H v (ofN n) ∧ Dv K H u (.str s) ∧ ∀ G H2, Pub H H1 G H2 → Q .non H2
theorem ok_checkmarkG (T : Bt mg) (D : DC K CD CN) (F : Fun K "_check_mark" "Document._check_mark" sDocument_check_mark f fd) (m__node : Met P W K mg base (L2.CX P W) 3 CD "_node" (spN2 K CD CN ec Cbd)) (cis_name : Cal P W K mg base 2 "is_name" (spF K 1 preV (oneF nameD)))
    (x_InvalidArgument : Ex P W K mg base 1 "InvalidArgument" Cbd (spInit K Cbd "name")) : FnOk P W K mg base (L2.CX P W) 4 f fd ["self", "number", "name"] (spCmG K CD CN) := by
  refine F.okX scDocument_check_mark (fun vs H Q E h => ?_) (fun cdv A outer s H1 vs Q E hr h => ?_)
  · obtain ⟨_, _, _, _, _, _, _, rfl, _⟩ := h
    rfl
  obtain ⟨a, v, u, n, x, H, w, rfl, dh, hn, hz, hx, d1, d2, kq⟩ := h
  refine ⟨_, (pss_cons (ps_expr (pe_mX m__node hr (by omega) (passes_call (takes_of rfl rfl rfl rfl) (fun _ _ _ _ h => h)) (pv 0) (pa_cons (pv 1) pa_nil)))
      (pss_one (ps_if (pt_not (pt_tr (pe_k cis_name hr (by omega) (pa_cons (pv 2) pa_nil)))) (pss_one (ps_raise rfl (takes_of rfl rfl rfl rfl) (pmk_e x_InvalidArgument hr (by omega) (pa_cons pe_str pa_nil)))) pss_nil))), ?_⟩
  refine e_nodeG (DP.refl dh) rfl hn (by omega) (gd_var rfl d1) fun m hm G2 H2 q2 pu2 => ?_
  dsimp only
  refine s_if (b := false) (G := G2) (gt_name (K := K) (σ := [some (.ref a.x), some v, some u]) (t := tVar 2) hx (gd_var (i := 2) rfl (d2.to pu2.hg))) q2.gh (fun z => nomatch z) fun _ H3 s3 => ?_
  exact kq G2 H3 (pu2.trans (.idle q2.gh s3))
abbrev spCm2 (K : PySem.W.Frag) (CD CN : Addr) (ec : EC) (Cbd : Addr) : Sp := spO2 (spCmG K CD CN) (spB K CD CN ec Cbd 2 BadCm)
inductive BadMk : BadR
  | c {w : Wm} {x y z : PyData} {e : Er} : BadCm w [x, y] e → BadMk w [x, y, z] e
  | v {w : Wm} {n : Nat} {s t : Str} : n < w.ns.length → nameB s = true → plainT t = false → t.length ≤ 1000 → BadMk w [ofN n, .str s, .str t] (.arg "value")
theorem ok_dmarkB (T : Bt mg) (D : DC K CD CN) (X : OexC K Cbd ∧ PySem.W.findIn K (.ref Cbd) "name" = some none) (F : Fun K "mark" "Document.mark" sDocument_mark f fd) (m__check_mark : Met P W K mg base (L2.CX P W) 4 CD "_check_mark" (spCm2 K CD CN ec Cbd)) (m__set_mark : Met P W K mg base (L2.CX P W) 6 CD "_set_mark" (spX K CD CN ec 3 arK preSet fSet)) (cis_plain : Cal P W K mg base 2 "is_plain" (spF K 1 preV (oneF plainD)))
    (x_InvalidArgument : Ex P W K mg base 1 "InvalidArgument" Cbd (spInit K Cbd "name")) : FnOk P W K mg base (L2.CX P W) 7 f fd ["self", "number", "name", "value"] (spB K CD CN ec Cbd 3 BadMk) := by
  refine fn_B F scDocument_mark rfl fun cdv A outer s H1 E hr => ⟨_, (pss_cons (ps_expr (pe_mX m__check_mark hr (by omega) (passes_call (takes_of rfl rfl rfl rfl) (fun _ _ _ _ h => h)) (pv 0) (pa_cons (pv 1) (pa_cons (pv 2) pa_nil))))
      (pss_cons (ps_if (pt_not (pt_tr (pe_k cis_plain hr (by omega) (pa_cons (pv 3) pa_nil)))) (pss_one (ps_raise rfl (takes_of rfl rfl rfl rfl) (pmk_e x_InvalidArgument hr (by omega) (pa_cons pe_str pa_nil)))) pss_nil)
      (pss_one (ps_expr (pe_mX m__set_mark hr (by omega) (passes_call (takes_of rfl rfl rfl rfl) (fun _ _ _ _ h => h)) (pv 0) (pa_cons (pv 1) (pa_cons (pv 2) (pa_cons (pv 3) pa_nil)))))))), fun a us ds H w e Q hl dh o dv hp ke => ?_⟩
  have p0 := DP.refl dh
  have hlen := o.len
  cases hp with
  | c hb =>
    obtain ⟨v, v2, v3, rfl, d1, d2, d3⟩ := DvA.inv3 dv
    exact e_badO (Bad := BadCm) p0 o rfl (ga_cons (gd_var (i := 1) rfl d1) (ga_cons (gd_var (i := 2) rfl d2) ga_nil)) rfl hb rfl ke
  | v hn hs ht hz =>
    obtain ⟨v, v2, v3, rfl, d1, d2, d3⟩ := DvA.inv3 dv
    refine ⟨.ref a.x, rfl, a.x, a.dx, docF a, rfl, dh.o, rfl, v, rfl, v2, rfl, .inl ⟨a, v, v2, _, _, H, w, rfl, dh, hn, hlen, hs, d1, d2, fun G2 H2 p2 => ?_⟩⟩
    dsimp only
    have q2 := p0.pub p2
    refine s_ifr (K := K) (b := true) (G := G2) (gt_plainF (K := K) (σ := [some (.ref a.x), some v, some v2, some v3]) (t := tVar 3) ht hz (gd_var (i := 3) rfl (d3.to p2.hg))) q2.gh (fun _ H3 s3 => ?_) fun z => nomatch z
    exact r_raise (v := .str "value") (H := H1) (p2.hh.trans s3) X.1 X.2 (.inl ⟨_, rfl, by decide⟩) (fun Q' q => q _ (.refl _)) fun dd H5 s5 hx => ke dd H5 s5 hx
theorem ok_dunmarkB (T : Bt mg) (D : DC K CD CN) (F : Fun K "unmark" "Document.unmark" sDocument_unmark f fd) (m__check_mark : Met P W K mg base (L2.CX P W) 4 CD "_check_mark" (spCm2 K CD CN ec Cbd)) (m__set_mark : Met P W K mg base (L2.CX P W) 6 CD "_set_mark" (spX K CD CN ec 3 arK preSet fSet)) :
    FnOk P W K mg base (L2.CX P W) 7 f fd ["self", "number", "name"] (spB K CD CN ec Cbd 2 BadCm) := by
  refine fn_B F scDocument_unmark rfl fun cdv A outer s H1 E hr => ⟨_, (pss_cons (ps_expr (pe_mX m__check_mark hr (by omega) (passes_call (takes_of rfl rfl rfl rfl) (fun _ _ _ _ h => h)) (pv 0) (pa_cons (pv 1) (pa_cons (pv 2) pa_nil))))
      (pss_one (ps_expr (pe_mX m__set_mark hr (by omega) (passes_call (takes_of rfl rfl rfl rfl) (fun _ _ _ _ h => h)) (pv 0) (pa_cons (pv 1) (pa_cons (pv 2) (pa_cons pe_non pa_nil))))))), fun a us ds H w e Q hl dh o dv hp ke => ?_⟩
  have hd : ∃ d1 d2, ds = [d1, d2] := by
    match ds, (DvA.len dv).symm.trans hl with
    | [a, b], _ => exact ⟨a, b, rfl⟩
  obtain ⟨c1, c2, rfl⟩ := hd
  obtain ⟨v, v2, rfl, d1, d2⟩ := DvA.inv2 dv
  exact e_badO (Bad := BadCm) (DP.refl dh) o rfl (ga_cons (gd_var (i := 1) rfl d1) (ga_cons (gd_var (i := 2) rfl d2) ga_nil)) rfl hp rfl ke
/-! write -/
inductive BadWr : BadR
  | n {w : Wm} {z : Int} {y : PyData} : badZ w z → BadWr w [.int z, y] (.no z)
  | t {w : Wm} {n : Nat} {s : Str} : n < w.ns.length → plainT s = false → s.length ≤ 1000 → BadWr w [ofN n, .str s] (.arg "text")
theorem ok_writeB (T : Bt mg) (D : DC K CD CN) (X : OexC K Cbd ∧ PySem.W.findIn K (.ref Cbd) "name" = some none) (F : Fun K "write" "Document.write" sDocument_write f fd) (m__node : Met P W K mg base (L2.CX P W) 3 CD "_node" (spN2 K CD CN ec Cbd)) (m__tell : Met P W K mg base CX0 5 CD "_tell" (spX K CD CN ec 1 arDT preDT fDT)) (cis_plain : Cal P W K mg base 2 "is_plain" (spF K 1 preV (oneF plainD)))
    (x_InvalidArgument : Ex P W K mg base 1 "InvalidArgument" Cbd (spInit K Cbd "name")) (x_RefusedError : Ex P W K mg base 1 "RefusedError" ec.rf (spInit K ec.rf "reason")) : FnOk P W K mg base (L2.CX P W) 6 f fd ["self", "number", "text"] (spB K CD CN ec Cbd 2 BadWr) := by
  refine fn_B F scDocument_write rfl fun cdv A outer s H1 E hr => ⟨_, (pss_cons (ps_set (i := 3) scDocument_write.nd rfl (Or.inl rfl) (pe_mX m__node hr (by omega) (passes_call (takes_of rfl rfl rfl rfl) (fun _ _ _ _ h => h)) (pv 0) (pa_cons (pv 1) pa_nil)))
      (pss_cons (ps_if (pt_not (pt_tr (pe_k cis_plain hr (by omega) (pa_cons (pv 2) pa_nil)))) (pss_one (ps_raise rfl (takes_of rfl rfl rfl rfl) (pmk_e x_InvalidArgument hr (by omega) (pa_cons pe_str pa_nil)))) pss_nil)
      (pss_cons (ps_if (pt_cmpR op_isnot1 (pe_fld (pv 3) rfl) pe_non (nomark _)) (pss_one (ps_raise rfl (takes_of rfl rfl rfl rfl) (pmk_e x_RefusedError hr (by omega) (pa_cons pe_str pa_nil)))) pss_nil)
      (pss_cons (ps_if (pt_cmpR (op_eqA hr.units) (pe_fld (pv 3) rfl) (pv 2) (nomark _)) (pss_one ps_retN) pss_nil)
      (pss_cons (ps_fld (pv 3) (pv 2) rfl)
      (pss_one (ps_expr (pe_m m__tell hr (by omega) (pv 0) (pa_cons (RR.pe_tupF (pa_cons pe_str (pa_cons (pv 1) (pa_cons (pv 2) pa_nil)))) pa_nil))))))))), fun a us ds H w e Q hl dh o dv hp ke => ?_⟩
  have p0 := DP.refl dh
  have hlen := o.len
  cases hp with
  | n hz =>
    obtain ⟨v, v2, rfl, d1, d2⟩ := DvA.inv2 dv
    exact e_nodeB p0 o rfl hz.1 hz.2 (gd_var rfl d1) fun dd H2 s2 hx => ke dd H2 s2 hx
  | t hn hs hz =>
    obtain ⟨v, v2, rfl, d1, d2⟩ := DvA.inv2 dv
    refine e_nodeG p0 rfl hn (by omega) (gd_var rfl d1) fun m hm G2 H2 q2 pu2 => ?_
    dsimp only [gName]
    refine s_ifr (K := K) (b := true) (G := G2) (gt_plainF (K := K) (σ := [some (.ref a.x), some v, some v2, some (.ref m.na)]) (t := tVar 2) hs hz (gd_var (i := 2) rfl (d2.to pu2.hg))) q2.gh (fun _ H3 s3 => ?_) fun z => nomatch z
    exact r_raise (v := .str "text") (H := H1) (pu2.hh.trans s3) X.1 X.2 (.inl ⟨_, rfl, by decide⟩) (fun Q' q => q _ (.refl _)) fun dd H5 s5 hx => ke dd H5 s5 hx
/-! element, text -/
def BadMe : BadR := fun w ds e => (∃ x y, ds = [x, y]) ∧ 60 ≤ w.ns.length ∧ e = .rf "full"
theorem ok_dmakeB (T : Bt mg) (D : DC K CD CN) (X : EF K ec) (F : Fun K "_make" "Document._make" sDocument_make f fd) (kNode : Kl P W K mg base 1 "Node" CN (spNI CN)) (x_RefusedError : Ex P W K mg base 1 "RefusedError" ec.rf (spInit K ec.rf "reason")) :
    FnOk P W K mg base (L2.CX P W) 3 f fd ["self", "name", "words"] (spB K CD CN ec Cbd 2 BadMe) := by
  refine fn_B F scDocument_make rfl fun cdv A outer s H1 E hr => ⟨_, (pss_cons (ps_if (pt_cmpR op_ge (pe_callB cr_len (by rfl) T.len PySem.boot_len (pa_cons (pe_fld (pv 0) rfl) pa_nil)) (pe_gl T.MOST_NODES) (nomark _)) (pss_one (ps_raise rfl (takes_of rfl rfl rfl rfl) (pmk_e x_RefusedError hr (by omega) (pa_cons pe_str pa_nil)))) pss_nil)
      (pss_cons (ps_expr (pe_bm PySem.F.plainAttrs_list PySem.F.slot_list_append PySem.F.type_list_append mt_append (pe_fld (pv 0) rfl) (pa_cons (pe_mk kNode hr (by omega) (pa_cons (pv 1) (pa_cons (pv 2) pa_nil))) pa_nil)))
      (pss_one (ps_ret (pe_op op_sub (pe_callB cr_len (by rfl) T.len PySem.boot_len (pa_cons (pe_fld (pv 0) rfl) pa_nil)) pe_int))))), fun a us ds H w e Q hl dh o dv hp ke => ?_⟩
  obtain ⟨⟨x, y, rfl⟩, hw, rfl⟩ := hp
  obtain ⟨v, u, rfl, d1, d2⟩ := DvA.inv2 dv
  have g := gt_test (gdo (K := K) (dh.len' (σ := [some (.ref a.x), some v, some u]) D rfl) (gd_int (i := 60)) (go_b2 (f := fun i j => decide (j ≤ i))))
  rw [show decide ((60 : Int) ≤ (w.ns.length : Int)) = true from decide_eq_true (by omega)] at g
  refine s_ifr (K := K) g dh.gh (fun _ H2 s2 => ?_) fun z => nomatch z
  exact r_raise (v := .str "full") (H := H1) s2 X.rf.1 X.rf.2 (.inl ⟨_, rfl, by decide⟩) (fun Q' q => q _ (.refl _)) fun dd H5 s5 hx => ke dd H5 s5 hx
def BadEl (ok : Str → Bool) (wd : Str) : BadR := fun w ds e => ∃ s, ds = [.str s] ∧ s.length ≤ 1000 ∧ ((ok s = false ∧ e = .arg wd) ∨ (ok s = true ∧ 60 ≤ w.ns.length ∧ e = .rf "full"))
theorem ok_elementB (T : Bt mg) (D : DC K CD CN) (X : OexC K Cbd ∧ PySem.W.findIn K (.ref Cbd) "name" = some none) (F : Fun K "element" "Document.element" sDocument_element f fd) (m__make : Met P W K mg base (L2.CX P W) 3 CD "_make" (spB K CD CN ec Cbd 2 BadMe)) (cis_name : Cal P W K mg base 2 "is_name" (spF K 1 preV (oneF nameD)))
    (x_InvalidArgument : Ex P W K mg base 1 "InvalidArgument" Cbd (spInit K Cbd "name")) : FnOk P W K mg base (L2.CX P W) 4 f fd ["self", "name"] (spB K CD CN ec Cbd 1 (BadEl nameB "name")) := by
  refine fn_B F scDocument_element rfl fun cdv A outer s H1 E hr => ⟨_, (pss_cons (ps_if (pt_not (pt_tr (pe_k cis_name hr (by omega) (pa_cons (pv 1) pa_nil)))) (pss_one (ps_raise rfl (takes_of rfl rfl rfl rfl) (pmk_e x_InvalidArgument hr (by omega) (pa_cons pe_str pa_nil)))) pss_nil)
      (pss_one (ps_ret (pe_mX m__make hr (by omega) (passes_call (takes_of rfl rfl rfl rfl) (fun _ _ _ _ h => h)) (pv 0) (pa_cons (pv 1) (pa_cons pe_non pa_nil)))))), fun a us ds H w e Q hl dh o dv hp ke => ?_⟩
  obtain ⟨x, rfl, hz, hb⟩ := hp
  obtain ⟨v, rfl, d1⟩ := DvA.inv1 dv
  rcases hb with ⟨hs, rfl⟩ | ⟨hs, hw, rfl⟩
  · refine s_ifr (K := K) (b := true) (gt_nameF (K := K) (σ := [some (.ref a.x), some v]) (t := tVar 1) hs hz (gd_var rfl d1)) dh.gh (fun _ H2 s2 => ?_) fun z => nomatch z
    exact r_raise (v := .str "name") (H := H1) s2 X.1 X.2 (.inl ⟨_, rfl, by decide⟩) (fun Q' q => q _ (.refl _)) fun dd H5 s5 hx => ke dd H5 s5 hx
  · refine s_ifr (K := K) (b := false) (gt_name (K := K) (σ := [some (.ref a.x), some v]) (t := tVar 1) hs (gd_var rfl d1)) dh.gh (fun z => nomatch z) fun _ H2 s2 => ?_
    exact e_bad (Bad := BadMe) ((DP.refl dh).test s2) o rfl (ga_cons (gd_var rfl d1) (ga_cons gd_non ga_nil)) rfl ⟨⟨_, _, rfl⟩, hw, rfl⟩ rfl fun dd H3 s3 hx => ke dd H3 (s2.trans s3) hx
theorem ok_textB (T : Bt mg) (D : DC K CD CN) (X : OexC K Cbd ∧ PySem.W.findIn K (.ref Cbd) "name" = some none) (F : Fun K "text" "Document.text" sDocument_text f fd) (m__make : Met P W K mg base (L2.CX P W) 3 CD "_make" (spB K CD CN ec Cbd 2 BadMe)) (cis_plain : Cal P W K mg base 2 "is_plain" (spF K 1 preV (oneF plainD)))
    (x_InvalidArgument : Ex P W K mg base 1 "InvalidArgument" Cbd (spInit K Cbd "name")) : FnOk P W K mg base (L2.CX P W) 4 f fd ["self", "text"] (spB K CD CN ec Cbd 1 (BadEl plainT "text")) := by
  refine fn_B F scDocument_text rfl fun cdv A outer s H1 E hr => ⟨_, (pss_cons (ps_if (pt_not (pt_tr (pe_k cis_plain hr (by omega) (pa_cons (pv 1) pa_nil)))) (pss_one (ps_raise rfl (takes_of rfl rfl rfl rfl) (pmk_e x_InvalidArgument hr (by omega) (pa_cons pe_str pa_nil)))) pss_nil)
      (pss_one (ps_ret (pe_mX m__make hr (by omega) (passes_call (takes_of rfl rfl rfl rfl) (fun _ _ _ _ h => h)) (pv 0) (pa_cons pe_non (pa_cons (pv 1) pa_nil)))))), fun a us ds H w e Q hl dh o dv hp ke => ?_⟩
  obtain ⟨x, rfl, hz, hb⟩ := hp
  obtain ⟨v, rfl, d1⟩ := DvA.inv1 dv
  rcases hb with ⟨hs, rfl⟩ | ⟨hs, hw, rfl⟩
  · refine s_ifr (K := K) (b := true) (gt_plainF (K := K) (σ := [some (.ref a.x), some v]) (t := tVar 1) hs hz (gd_var rfl d1)) dh.gh (fun _ H2 s2 => ?_) fun z => nomatch z
    exact r_raise (v := .str "text") (H := H1) s2 X.1 X.2 (.inl ⟨_, rfl, by decide⟩) (fun Q' q => q _ (.refl _)) fun dd H5 s5 hx => ke dd H5 s5 hx
  · refine s_ifr (K := K) (b := false) (gt_plain (K := K) (σ := [some (.ref a.x), some v]) (t := tVar 1) hs (gd_var rfl d1)) dh.gh (fun z => nomatch z) fun _ H2 s2 => ?_
    exact e_bad (Bad := BadMe) ((DP.refl dh).test s2) o rfl (ga_cons gd_non (ga_cons (gd_var rfl d1) ga_nil)) rfl ⟨⟨_, _, rfl⟩, hw, rfl⟩ rfl fun dd H3 s3 hx => ke dd H3 (s2.trans s3) hx
/-! _law_call -/
inductive BadD (w : Wm) : List PyData → Er → Prop
  | element {x : PyData} {e : Er} : BadEl nameB "name" w [x] e → BadD w [.str "element", x] e
  | text {x : PyData} {e : Er} : BadEl plainT "text" w [x] e → BadD w [.str "text", x] e
  | insert {x y z : PyData} {e : Er} : BadIns w [x, y, z] e → BadD w [.str "insert", x, y, z] e
  | remove {x : PyData} {e : Er} : BadRm w [x] e → BadD w [.str "remove", x] e
  | mark {x y z : PyData} {e : Er} : BadMk w [x, y, z] e → BadD w [.str "mark", x, y, z] e
  | unmark {x y : PyData} {e : Er} : BadCm w [x, y] e → BadD w [.str "unmark", x, y] e
  | write {x y : PyData} {e : Er} : BadWr w [x, y] e → BadD w [.str "write", x, y] e
def BadC : BadR := fun w ds e => ∃ xs, ds = [.tuple xs] ∧ BadD w xs e
theorem ok_callB (F : Fun K "_law_call" "_law_call" s_law_call f fd) (m_element : Met P W K mg base (L2.CX P W) 4 CD "element" (spB K CD CN ec Cbd 1 (BadEl nameB "name"))) (m_text : Met P W K mg base (L2.CX P W) 4 CD "text" (spB K CD CN ec Cbd 1 (BadEl plainT "text")))
    (m_insert : Met P W K mg base (L2.CX P W) 65 CD "insert" (spB K CD CN ec Cbd 3 BadIns)) (m_remove : Met P W K mg base (L2.CX P W) 6 CD "remove" (spB K CD CN ec Cbd 1 BadRm)) (m_mark : Met P W K mg base (L2.CX P W) 7 CD "mark" (spB K CD CN ec Cbd 3 BadMk))
    (m_unmark : Met P W K mg base (L2.CX P W) 7 CD "unmark" (spB K CD CN ec Cbd 2 BadCm)) (m_write : Met P W K mg base (L2.CX P W) 6 CD "write" (spB K CD CN ec Cbd 2 BadWr)) :
    FnOk P W K mg base (L2.CX P W) 66 f fd ["document", "deed"] (spB K CD CN ec Cbd 1 BadC) := by
  refine fn_B F sc_law_call rfl fun cdv A outer s H1 E hr => ⟨_, (pss_cons (ps_set (i := 2) sc_law_call.nd rfl (Or.inl rfl) (pe_ix ix_seq (pv 1) pe_int (fun _ _ => rfl)))
      (pss_cons (ps_if (pt_cmpR (op_eqA hr.units) (pv 2) pe_str (nomark _)) (pss_one (ps_ret (pe_mX m_element hr (by omega) (passes_call (takes_of rfl rfl rfl rfl) (fun _ _ _ _ h => h)) (pv 0) (pa_cons (pe_ix ix_seq (pv 1) pe_int (fun _ _ => rfl)) pa_nil)))) pss_nil)
      (pss_cons (ps_if (pt_cmpR (op_eqA hr.units) (pv 2) pe_str (nomark _)) (pss_one (ps_ret (pe_mX m_text hr (by omega) (passes_call (takes_of rfl rfl rfl rfl) (fun _ _ _ _ h => h)) (pv 0) (pa_cons (pe_ix ix_seq (pv 1) pe_int (fun _ _ => rfl)) pa_nil)))) pss_nil)
      (pss_cons (ps_if (pt_cmpR (op_eqA hr.units) (pv 2) pe_str (nomark _)) (pss_one (ps_ret (pe_mX m_insert hr (by omega) (passes_call (takes_of rfl rfl rfl rfl) (fun _ _ _ _ h => h)) (pv 0) (pa_cons (pe_ix ix_seq (pv 1) pe_int (fun _ _ => rfl)) (pa_cons (pe_ix ix_seq (pv 1) pe_int (fun _ _ => rfl)) (pa_cons (pe_ix ix_seq (pv 1) pe_int (fun _ _ => rfl)) pa_nil)))))) pss_nil)
      (pss_cons (ps_if (pt_cmpR (op_eqA hr.units) (pv 2) pe_str (nomark _)) (pss_one (ps_ret (pe_mX m_remove hr (by omega) (passes_call (takes_of rfl rfl rfl rfl) (fun _ _ _ _ h => h)) (pv 0) (pa_cons (pe_ix ix_seq (pv 1) pe_int (fun _ _ => rfl)) pa_nil)))) pss_nil)
      (pss_cons (ps_if (pt_cmpR (op_eqA hr.units) (pv 2) pe_str (nomark _)) (pss_one (ps_ret (pe_mX m_mark hr (by omega) (passes_call (takes_of rfl rfl rfl rfl) (fun _ _ _ _ h => h)) (pv 0) (pa_cons (pe_ix ix_seq (pv 1) pe_int (fun _ _ => rfl)) (pa_cons (pe_ix ix_seq (pv 1) pe_int (fun _ _ => rfl)) (pa_cons (pe_ix ix_seq (pv 1) pe_int (fun _ _ => rfl)) pa_nil)))))) pss_nil)
      (pss_cons (ps_if (pt_cmpR (op_eqA hr.units) (pv 2) pe_str (nomark _)) (pss_one (ps_ret (pe_mX m_unmark hr (by omega) (passes_call (takes_of rfl rfl rfl rfl) (fun _ _ _ _ h => h)) (pv 0) (pa_cons (pe_ix ix_seq (pv 1) pe_int (fun _ _ => rfl)) (pa_cons (pe_ix ix_seq (pv 1) pe_int (fun _ _ => rfl)) pa_nil))))) pss_nil)
      (pss_one (ps_ret (pe_mX m_write hr (by omega) (passes_call (takes_of rfl rfl rfl rfl) (fun _ _ _ _ h => h)) (pv 0) (pa_cons (pe_ix ix_seq (pv 1) pe_int (fun _ _ => rfl)) (pa_cons (pe_ix ix_seq (pv 1) pe_int (fun _ _ => rfl)) pa_nil)))))))))))), fun a us ds H w e Q hl dh o dv hp ke => ?_⟩
  obtain ⟨xs, rfl, hb⟩ := hp
  obtain ⟨v, rfl, d1⟩ := DvA.inv1 dv
  have p0 := DP.refl dh
  have ke' : ∀ {Hx : Hp}, Same H1 Hx → ∀ dd H2, Same Hx H2 → ExB e H2 dd → E (e.cls ec Cbd) (some dd) H2 := fun s dd H2 s2 hx => ke dd H2 (s.trans s2) hx
  cases hb with
  | element hb =>
    refine s_set (K := K) (d := .str "element") (gdo (gd_var rfl d1) gd_int (go_ixT rfl)) p0.gh fun v2 G2 H2 p2 d2 => ?_
    have q2 := p0.pub p2
    have d12 := d1.to p2.hg
    refine s_strY (K := K) (gd_var rfl d2) q2.gh fun H3 s3 => ?_
    exact e_bad (Bad := BadEl nameB "name") (q2.test s3) o rfl (ga_cons (gdo (gd_var rfl d12) gd_int (go_ixT rfl)) ga_nil) rfl hb rfl (ke' (p2.hh.trans s3))
  | text hb =>
    refine s_set (K := K) (d := .str "text") (gdo (gd_var rfl d1) gd_int (go_ixT rfl)) p0.gh fun v2 G2 H2 p2 d2 => ?_
    have q2 := p0.pub p2
    have d12 := d1.to p2.hg
    refine s_strN (K := K) (gd_var rfl d2) q2.gh fun H3 s3 => ?_
    refine s_strY (K := K) (gd_var rfl d2) (q2.test s3).gh fun H4 s4 => ?_
    exact e_bad (Bad := BadEl plainT "text") ((q2.test s3).test s4) o rfl (ga_cons (gdo (gd_var rfl d12) gd_int (go_ixT rfl)) ga_nil) rfl hb rfl (ke' ((p2.hh.trans s3).trans s4))
  | insert hb =>
    refine s_set (K := K) (d := .str "insert") (gdo (gd_var rfl d1) gd_int (go_ixT rfl)) p0.gh fun v2 G2 H2 p2 d2 => ?_
    have q2 := p0.pub p2
    have d12 := d1.to p2.hg
    refine s_strN (K := K) (gd_var rfl d2) q2.gh fun H3 s3 => ?_
    refine s_strN (K := K) (gd_var rfl d2) (q2.test s3).gh fun H4 s4 => ?_
    refine s_strY (K := K) (gd_var rfl d2) ((q2.test s3).test s4).gh fun H5 s5 => ?_
    exact e_bad (Bad := BadIns) (((q2.test s3).test s4).test s5) o rfl (ga_cons (gdo (gd_var rfl d12) gd_int (go_ixT rfl)) (ga_cons (gdo (gd_var rfl d12) gd_int (go_ixT rfl)) (ga_cons (gdo (gd_var rfl d12) gd_int (go_ixT rfl)) ga_nil))) rfl hb rfl (ke' (((p2.hh.trans s3).trans s4).trans s5))
  | remove hb =>
    refine s_set (K := K) (d := .str "remove") (gdo (gd_var rfl d1) gd_int (go_ixT rfl)) p0.gh fun v2 G2 H2 p2 d2 => ?_
    have q2 := p0.pub p2
    have d12 := d1.to p2.hg
    refine s_strN (K := K) (gd_var rfl d2) q2.gh fun H3 s3 => ?_
    refine s_strN (K := K) (gd_var rfl d2) (q2.test s3).gh fun H4 s4 => ?_
    refine s_strN (K := K) (gd_var rfl d2) ((q2.test s3).test s4).gh fun H5 s5 => ?_
    refine s_strY (K := K) (gd_var rfl d2) (((q2.test s3).test s4).test s5).gh fun H6 s6 => ?_
    exact e_bad (Bad := BadRm) ((((q2.test s3).test s4).test s5).test s6) o rfl (ga_cons (gdo (gd_var rfl d12) gd_int (go_ixT rfl)) ga_nil) rfl hb rfl (ke' ((((p2.hh.trans s3).trans s4).trans s5).trans s6))
  | mark hb =>
    refine s_set (K := K) (d := .str "mark") (gdo (gd_var rfl d1) gd_int (go_ixT rfl)) p0.gh fun v2 G2 H2 p2 d2 => ?_
    have q2 := p0.pub p2
    have d12 := d1.to p2.hg
    refine s_strN (K := K) (gd_var rfl d2) q2.gh fun H3 s3 => ?_
    refine s_strN (K := K) (gd_var rfl d2) (q2.test s3).gh fun H4 s4 => ?_
    refine s_strN (K := K) (gd_var rfl d2) ((q2.test s3).test s4).gh fun H5 s5 => ?_
    refine s_strN (K := K) (gd_var rfl d2) (((q2.test s3).test s4).test s5).gh fun H6 s6 => ?_
    refine s_strY (K := K) (gd_var rfl d2) ((((q2.test s3).test s4).test s5).test s6).gh fun H7 s7 => ?_
    exact e_bad (Bad := BadMk) (((((q2.test s3).test s4).test s5).test s6).test s7) o rfl (ga_cons (gdo (gd_var rfl d12) gd_int (go_ixT rfl)) (ga_cons (gdo (gd_var rfl d12) gd_int (go_ixT rfl)) (ga_cons (gdo (gd_var rfl d12) gd_int (go_ixT rfl)) ga_nil))) rfl hb rfl (ke' (((((p2.hh.trans s3).trans s4).trans s5).trans s6).trans s7))
  | unmark hb =>
    refine s_set (K := K) (d := .str "unmark") (gdo (gd_var rfl d1) gd_int (go_ixT rfl)) p0.gh fun v2 G2 H2 p2 d2 => ?_
    have q2 := p0.pub p2
    have d12 := d1.to p2.hg
    refine s_strN (K := K) (gd_var rfl d2) q2.gh fun H3 s3 => ?_
    refine s_strN (K := K) (gd_var rfl d2) (q2.test s3).gh fun H4 s4 => ?_
    refine s_strN (K := K) (gd_var rfl d2) ((q2.test s3).test s4).gh fun H5 s5 => ?_
    refine s_strN (K := K) (gd_var rfl d2) (((q2.test s3).test s4).test s5).gh fun H6 s6 => ?_
    refine s_strN (K := K) (gd_var rfl d2) ((((q2.test s3).test s4).test s5).test s6).gh fun H7 s7 => ?_
    refine s_strY (K := K) (gd_var rfl d2) (((((q2.test s3).test s4).test s5).test s6).test s7).gh fun H8 s8 => ?_
    exact e_bad (Bad := BadCm) ((((((q2.test s3).test s4).test s5).test s6).test s7).test s8) o rfl (ga_cons (gdo (gd_var rfl d12) gd_int (go_ixT rfl)) (ga_cons (gdo (gd_var rfl d12) gd_int (go_ixT rfl)) ga_nil)) rfl hb rfl (ke' ((((((p2.hh.trans s3).trans s4).trans s5).trans s6).trans s7).trans s8))
  | write hb =>
    refine s_set (K := K) (d := .str "write") (gdo (gd_var rfl d1) gd_int (go_ixT rfl)) p0.gh fun v2 G2 H2 p2 d2 => ?_
    have q2 := p0.pub p2
    have d12 := d1.to p2.hg
    refine s_strN (K := K) (gd_var rfl d2) q2.gh fun H3 s3 => ?_
    refine s_strN (K := K) (gd_var rfl d2) (q2.test s3).gh fun H4 s4 => ?_
    refine s_strN (K := K) (gd_var rfl d2) ((q2.test s3).test s4).gh fun H5 s5 => ?_
    refine s_strN (K := K) (gd_var rfl d2) (((q2.test s3).test s4).test s5).gh fun H6 s6 => ?_
    refine s_strN (K := K) (gd_var rfl d2) ((((q2.test s3).test s4).test s5).test s6).gh fun H7 s7 => ?_
    refine s_strN (K := K) (gd_var rfl d2) (((((q2.test s3).test s4).test s5).test s6).test s7).gh fun H8 s8 => ?_
    exact e_bad (Bad := BadWr) ((((((q2.test s3).test s4).test s5).test s6).test s7).test s8) o rfl (ga_cons (gdo (gd_var rfl d12) gd_int (go_ixT rfl)) (ga_cons (gdo (gd_var rfl d12) gd_int (go_ixT rfl)) ga_nil)) rfl hb rfl (ke' ((((((p2.hh.trans s3).trans s4).trans s5).trans s6).trans s7).trans s8))
end
end LW
end
section
set_option Elab.async false
set_option linter.all false
namespace LM
open PySem DL
/-! ### shapes as trees -/
inductive Sh
  | t (n : Nat) (s : Str)
  | e (n : Nat) (nm : Str) (ms : List (Str × Str)) (ks : List Sh)
def mpairD (p : Str × Str) : PyData := .tuple [.str p.1, .str p.2]
def pairsD (ms : List (Str × Str)) : PyData := .tuple (ms.map mpairD)
namespace Sh
def num : Sh → Nat
  | t n _ => n
  | e n _ _ _ => n
def kids : Sh → List Sh
  | t _ _ => []
  | e _ _ _ ks => ks
def isE : Sh → Bool
  | t _ _ => false
  | e _ _ _ _ => true
def tag (s : Sh) : Str := if s.isE then "e" else "t"
mutual
def toD : Sh → PyData
  | t n s => .tuple [.str "t", ofN n, .str s]
  | e n nm ms ks => .tuple [.str "e", ofN n, .str nm, pairsD ms, .tuple (toDs ks)]
def toDs : List Sh → List PyData
  | [] => []
  | k :: ks => toD k :: toDs ks
end
theorem toDs_eq : ∀ ks : List Sh, toDs ks = ks.map toD
  | [] => rfl
  | k :: ks => by rw [toDs, toDs_eq ks]; rfl
theorem toD_e {n : Nat} {nm : Str} {ms : List (Str × Str)} {ks : List Sh} : toD (e n nm ms ks) = .tuple [.str "e", ofN n, .str nm, pairsD ms, .tuple (ks.map toD)] := by rw [toD, toDs_eq]
theorem toD_t {n : Nat} {s : Str} : toD (t n s) = .tuple [.str "t", ofN n, .str s] := by rw [toD]
mutual
def pre : Sh → List Sh
  | t n s => [t n s]
  | e n nm ms ks => e n nm ms ks :: pres ks
def pres : List Sh → List Sh
  | [] => []
  | k :: ks => pre k ++ pres ks
end
theorem pres_eq : ∀ ks : List Sh, pres ks = ks.flatMap pre
  | [] => rfl
  | k :: ks => by rw [pres, pres_eq ks]; rfl
theorem pre_eq (s : Sh) : pre s = s :: s.kids.flatMap pre := by
  cases s with
  | t n x => rw [pre]; rfl
  | e n nm ms ks => rw [pre, pres_eq]; rfl
theorem pre_self (s : Sh) : s ∈ pre s := by rw [pre_eq]; exact List.mem_cons_self
/-- induction over the children -/
theorem ind {P : Sh → Prop} (ht : ∀ n s, P (t n s)) (he : ∀ n nm ms ks, (∀ k ∈ ks, P k) → P (e n nm ms ks)) : ∀ s, P s := fun s => by
  refine Sh.rec (motive_1 := P) (motive_2 := fun ks => ∀ k ∈ ks, P k) ht he (fun k h => nomatch h) (fun k ks h1 h2 x hx => ?_) s
  rcases List.mem_cons.mp hx with rfl | hx
  · exact h1
  · exact h2 x hx
theorem indk {P : Sh → Prop} (h : ∀ s, (∀ k ∈ s.kids, P k) → P s) : ∀ s, P s := ind (fun n s => h _ fun k hk => nomatch hk) (fun n nm ms ks hk => h _ hk)
def nums (s : Sh) : List Nat := s.pre.map num
/-- each number once -/
def Uni (s : Sh) : Prop := s.nums.Nodup
theorem pre_trans : ∀ s : Sh, ∀ p ∈ s.pre, ∀ q ∈ p.pre, q ∈ s.pre := indk fun s ih p hp q hq => by
  rw [pre_eq] at hp ⊢
  rcases List.mem_cons.mp hp with rfl | hp
  · rw [pre_eq] at hq; exact hq
  · obtain ⟨k, hk, hp⟩ := List.mem_flatMap.mp hp
    exact List.mem_cons_of_mem _ (List.mem_flatMap.mpr ⟨k, hk, ih k hk p hp q hq⟩)
theorem kid_pre {s k : Sh} (h : k ∈ s.kids) : k ∈ s.pre := by
  rw [pre_eq]
  exact List.mem_cons_of_mem _ (List.mem_flatMap.mpr ⟨k, h, pre_self k⟩)
theorem kid_sub {s k : Sh} (h : k ∈ s.kids) : k.pre.Sublist s.pre := by
  rw [pre_eq s]
  refine List.Sublist.cons _ ?_
  obtain ⟨a, b, e⟩ := List.append_of_mem h
  rw [e, List.flatMap_append, List.flatMap_cons]
  exact List.Sublist.trans (List.sublist_append_left _ _) (List.sublist_append_right _ _)
theorem Uni.kid {s k : Sh} (u : Uni s) (h : k ∈ s.kids) : Uni k := u.sublist ((kid_sub h).map _)
theorem Uni.part : ∀ {s : Sh}, Uni s → ∀ p ∈ s.pre, Uni p := fun {s} => (indk (P := fun s => Uni s → ∀ p ∈ s.pre, Uni p) fun s ih u p hp => by
  rw [pre_eq] at hp
  rcases List.mem_cons.mp hp with rfl | hp
  · exact u
  · obtain ⟨k, hk, hp⟩ := List.mem_flatMap.mp hp
    exact ih k hk (u.kid hk) p hp) s
theorem Uni.eq {s p q : Sh} (u : Uni s) (hp : p ∈ s.pre) (hq : q ∈ s.pre) (e : p.num = q.num) : p = q := by
  obtain ⟨i, hi, e1⟩ := List.getElem_of_mem hp
  obtain ⟨j, hj, e2⟩ := List.getElem_of_mem hq
  have z := (List.getElem_inj (xs := s.nums) (i := i) (j := j) (h₀ := by unfold nums; rw [List.length_map]; exact hi) (h₁ := by unfold nums; rw [List.length_map]; exact hj) u).mp (by
    unfold nums
    rw [List.getElem_map, List.getElem_map, e1, e2, e])
  subst z
  exact e1.symm.trans e2
mutual
def dep : Sh → Nat
  | t _ _ => 1
  | e _ _ _ ks => deps ks + 1
def deps : List Sh → Nat
  | [] => 0
  | k :: ks => max (dep k) (deps ks)
end
theorem dep_pos : ∀ s : Sh, 0 < dep s
  | t _ _ => by rw [dep]; omega
  | e _ _ _ ks => by rw [dep]; omega
theorem deps_kid : ∀ {ks : List Sh} {k : Sh}, k ∈ ks → dep k ≤ deps ks
  | x :: ks, k, h => by
    rw [deps]
    rcases List.mem_cons.mp h with rfl | h
    · omega
    · have := deps_kid h
      omega
theorem dep_kid {s k : Sh} (h : k ∈ s.kids) : dep k < dep s := by
  cases s with
  | t _ _ => cases h
  | e n nm ms ks => rw [dep]; have := deps_kid h; exact Nat.lt_succ_of_le this
theorem deps_le : ∀ {ks : List Sh} {m : Nat}, (∀ k ∈ ks, dep k ≤ m) → deps ks ≤ m
  | [], _, _ => Nat.zero_le _
  | x :: ks, m, h => by
    rw [deps]
    have h1 := h x List.mem_cons_self
    have h2 := deps_le (ks := ks) (m := m) fun k hk => h k (List.mem_cons_of_mem _ hk)
    omega
def size (s : Sh) : Nat := s.pre.length
theorem size_pos (s : Sh) : 0 < size s := by unfold size; rw [pre_eq]; exact Nat.succ_pos _
/-- bounds that all of ours keep -/
def msB (s : Sh) : Bool := match s with
  | t _ x => decide (x.length ≤ 1000)
  | e _ nm ms _ => decide (nm.length ≤ 1000) && decide (ms.length ≤ 1000) && ms.all fun p => decide (p.1.length ≤ 1000) && decide (p.2.length ≤ 1000)
structure Fit (s : Sh) : Prop where
  uni : Uni s
  size : s.size ≤ 1000
  dep : s.dep ≤ 60
  ms : ∀ p ∈ s.pre, p.msB = true
theorem dep_pre : ∀ s : Sh, ∀ p ∈ s.pre, p.dep ≤ s.dep := indk fun s ih p hp => by
  rw [pre_eq] at hp
  rcases List.mem_cons.mp hp with rfl | hp
  · exact Nat.le_refl _
  · obtain ⟨k, hk, hp⟩ := List.mem_flatMap.mp hp
    have h1 := ih k hk p hp
    have h2 := dep_kid hk
    omega
theorem sub_pre : ∀ s : Sh, ∀ p ∈ s.pre, p.pre.Sublist s.pre := indk fun s ih p hp => by
  have hp' := hp
  rw [pre_eq] at hp
  rcases List.mem_cons.mp hp with rfl | hp
  · exact List.Sublist.refl _
  · obtain ⟨k, hk, hp⟩ := List.mem_flatMap.mp hp
    exact (ih k hk p hp).trans (kid_sub hk)
theorem Fit.part {s p : Sh} (f : Fit s) (hp : p ∈ s.pre) : Fit p :=
  ⟨f.uni.part p hp, Nat.le_trans (sub_pre s p hp).length_le f.size, Nat.le_trans (dep_pre s p hp) f.dep, fun q hq => f.ms q (pre_trans s p hp q hq)⟩
theorem kids_le (s : Sh) : s.kids.length ≤ s.size := by
  have h : ∀ ks : List Sh, ks.length ≤ (ks.flatMap pre).length := fun ks => by
    induction ks with
    | nil => exact Nat.le_refl _
    | cons k ks ih =>
      rw [List.flatMap_cons, List.length_append, List.length_cons]
      have := size_pos k
      unfold size at this
      omega
  unfold size
  rw [pre_eq, List.length_cons]
  exact Nat.le_succ_of_le (h s.kids)
theorem Fit.kid {s k : Sh} (f : Fit s) (h : k ∈ s.kids) : Fit k := f.part (kid_pre h)
theorem Fit.kl {s : Sh} (f : Fit s) : s.kids.length ≤ 1000 := Nat.le_trans (kids_le s) f.size
theorem kids_nums_nodup {s : Sh} (u : Uni s) : (s.kids.map num).Nodup := by
  have h : ∀ ks : List Sh, (ks.map num).Sublist ((ks.flatMap pre).map num) := fun ks => by
    induction ks with
    | nil => exact List.Sublist.refl _
    | cons k ks ih =>
      rw [List.flatMap_cons, List.map_append, List.map_cons, pre_eq k, List.map_cons, List.cons_append]
      exact List.Sublist.cons_cons _ (ih.trans (List.sublist_append_right _ _))
  unfold Uni nums at u
  rw [pre_eq, List.map_cons] at u
  exact (List.nodup_cons.mp u).2.sublist (h s.kids)
end Sh
/-! ### finding -/
namespace Sh
def findS (s : Sh) (n : Nat) : Option Sh := s.pre.find? fun p => decide (p.num = n)
theorem findS_some {s p : Sh} {n : Nat} (h : s.findS n = some p) : p ∈ s.pre ∧ p.num = n := ⟨List.mem_of_find?_eq_some h, by simpa using List.find?_some h⟩
theorem Uni.find {s p : Sh} (u : Uni s) (hp : p ∈ s.pre) : s.findS p.num = some p := by
  cases h : s.findS p.num with
  | none =>
    have := List.find?_eq_none.mp h p hp
    simp at this
  | some q =>
    obtain ⟨h1, h2⟩ := findS_some h
    rw [u.eq h1 hp h2]
end Sh
/-! ### the shapes of a document -/
def pairsOf (f : Str → Option Str) : List (Str × Str) := KS.filterMap fun k => (f k).map fun v => (k, v)
theorem marksD_eq (f : Str → Option Str) : marksD f = pairsD (pairsOf f) := rfl
def shF : Nat → List Nd → Nat → Sh
  | 0, _, _ => .t 0 ""
  | j + 1, ns, n => if (nd ns n).txt then .t n (nd ns n).name else .e n (nd ns n).name (pairsOf (nd ns n).marks) ((nd ns n).kids.map (shF j ns))
theorem shF_D {ns : List Nd} : ∀ {j n : Nat}, Ht ns j n → (shF j ns n).toD = shapeF j ns n
  | 0, _, h => h.elim
  | j + 1, n, h => by
    unfold shF shapeF
    split
    · rw [Sh.toD_t]
    · rw [Sh.toD_e, marksD_eq]
      have z : ((nd ns n).kids.map (shF j ns)).map Sh.toD = (nd ns n).kids.map (shapeF j ns) := by
        rw [List.map_map]
        exact List.map_congr_left fun c hc => shF_D (h.2 c hc)
      rw [z]
theorem shF_num {ns : List Nd} {j n : Nat} (h : Ht ns j n) : (shF j ns n).num = n := by
  cases j with
  | zero => exact h.elim
  | succ j => unfold shF; split <;> rfl
def sh (ns : List Nd) (n : Nat) : Sh := shF 60 ns n
end LM
end
section
set_option Elab.async false
set_option linter.all false
namespace LM
open PySem DL
/-! ### a document's shapes fit -/
section
variable {ns : List Nd}
theorem pre_shF (o : Ok ns) : ∀ (j n : Nat), Ht ns j n → ∀ p ∈ (shF j ns n).pre, ∃ i, Ht ns i p.num ∧ p = shF i ns p.num ∧ ∃ l, Ch ns p.num l ∧ n ∈ l
  | 0, _, h, _, _ => h.elim
  | j + 1, n, h, p, hp => by
    obtain ⟨l, c⟩ := o.ch n h.1
    rw [Sh.pre_eq] at hp
    rcases List.mem_cons.mp hp with rfl | hp
    · rw [shF_num h]
      exact ⟨j + 1, h, rfl, l, c, c.self⟩
    · obtain ⟨k, hk, hp⟩ := List.mem_flatMap.mp hp
      have hks : (shF (j + 1) ns n).kids = if (nd ns n).txt then [] else (nd ns n).kids.map (shF j ns) := by unfold shF; split <;> rfl
      rw [hks] at hk
      split at hk
      · cases hk
      · obtain ⟨m, hm, rfl⟩ := List.mem_map.mp hk
        obtain ⟨i, h1, h2, l1, c1, hl1⟩ := pre_shF o j m (h.2 m hm) p hp
        refine ⟨i, h1, h2, l1, c1, ?_⟩
        obtain ⟨l2, c2, _, hs⟩ := c1.sub hl1
        have e := c2.uniq (.step (o.kup n m h.1 hm).2 c)
        exact hs n (by rw [e]; exact List.mem_cons_of_mem _ c.self)
theorem nums_shF (o : Ok ns) : ∀ (j n : Nat), Ht ns j n → (shF j ns n).nums.Nodup
  | 0, _, h => h.elim
  | j + 1, n, h => by
    have hks : (shF (j + 1) ns n).kids = if (nd ns n).txt then [] else (nd ns n).kids.map (shF j ns) := by unfold shF; split <;> rfl
    unfold Sh.nums
    rw [Sh.pre_eq, List.map_cons, shF_num h, hks]
    split
    · exact List.nodup_cons.mpr ⟨(fun z => nomatch z), List.nodup_nil⟩
    · have e : (((nd ns n).kids.map (shF j ns)).flatMap Sh.pre).map Sh.num = (nd ns n).kids.flatMap fun c => (shF j ns c).nums := by
        rw [List.flatMap_map, List.map_flatMap]
        rfl
      rw [e]
      obtain ⟨ln, cn⟩ := o.ch n h.1
      have mem : ∀ c ∈ (nd ns n).kids, ∀ m ∈ (shF j ns c).nums, ∃ l, Ch ns m l ∧ c ∈ l := fun c hc m hm => by
        obtain ⟨p, hp, rfl⟩ := List.mem_map.mp hm
        obtain ⟨_, _, _, l, cl, hl⟩ := pre_shF o j c (h.2 c hc) p hp
        exact ⟨l, cl, hl⟩
      refine List.nodup_cons.mpr ⟨fun z => ?_, nodup_flat _ (o.nod n h.1) (fun c hc => nums_shF o j c (h.2 c hc)) fun c c' hc hc' hne m hm hm' => ?_⟩
      · obtain ⟨c, hc, hm⟩ := List.mem_flatMap.mp z
        obtain ⟨l, cl, hcl⟩ := mem c hc n hm
        obtain ⟨l', c', hlen, _⟩ := cl.sub hcl
        rw [c'.uniq (.step (o.kup n c h.1 hc).2 cn), cl.uniq cn, List.length_cons] at hlen
        omega
      · obtain ⟨l, cl, hcl⟩ := mem c hc m hm
        obtain ⟨l', cl', hcl'⟩ := mem c' hc' m hm'
        rw [← cl.uniq cl'] at hcl'
        exact hne (cl.same_len hcl hcl' (.step (o.kup n c h.1 hc).2 cn) (.step (o.kup n c' h.1 hc').2 cn) rfl)
theorem dep_shF : ∀ (j n : Nat), Ht ns j n → (shF j ns n).dep ≤ j
  | 0, _, h => h.elim
  | j + 1, n, h => by
    unfold shF
    split
    · rw [Sh.dep]; omega
    · rw [Sh.dep]
      have z := Sh.deps_le (ks := (nd ns n).kids.map (shF j ns)) (m := j) fun k hk => by
        obtain ⟨m, hm, rfl⟩ := List.mem_map.mp hk
        exact dep_shF j m (h.2 m hm)
      omega
theorem size_shF (o : Ok ns) {j n : Nat} (h : Ht ns j n) : (shF j ns n).size ≤ 60 := by
  have e := nums_shF o j n h
  have z := nodup_le ns.length _ e fun x hx => by
    obtain ⟨p, hp, rfl⟩ := List.mem_map.mp hx
    obtain ⟨i, hi, _⟩ := pre_shF o j n h p hp
    exact hi.lt
  unfold Sh.nums at z
  rw [List.length_map] at z
  exact Nat.le_trans z o.len
/-- names, texts and marks are short -/
def Shorts (ns : List Nd) : Prop := ∀ n, (nd ns n).name.length ≤ 1000 ∧ ∀ k v, (nd ns n).marks k = some v → v.length ≤ 1000
theorem pairsOf_len (f : Str → Option Str) : (pairsOf f).length ≤ 3 := Nat.le_trans (List.length_filterMap_le _ _) (by decide)
theorem pairsOf_mem {f : Str → Option Str} {p : Str × Str} (h : p ∈ pairsOf f) : p.1 ∈ KS ∧ f p.1 = some p.2 := by
  obtain ⟨k, hk, e⟩ := List.mem_filterMap.mp h
  cases z : f k with
  | none => rw [z] at e; cases e
  | some v => rw [z] at e; cases e; exact ⟨hk, z⟩
theorem KS_len {k : Str} (h : k ∈ KS) : k.length ≤ 1000 := by
  unfold KS at h
  simp only [List.mem_cons, List.mem_nil_iff, or_false] at h
  rcases h with rfl | rfl | rfl <;> decide
theorem msB_shF (s : Shorts ns) {j n : Nat} (h : Ht ns j n) : (shF j ns n).msB = true := by
  cases j with
  | zero => exact h.elim
  | succ j =>
    obtain ⟨h1, h2⟩ := s n
    unfold shF
    split
    · exact decide_eq_true h1
    · have z : ((pairsOf (nd ns n).marks).all fun p => decide (p.1.length ≤ 1000) && decide (p.2.length ≤ 1000)) = true := List.all_eq_true.mpr fun p hp => by
        obtain ⟨a, b⟩ := pairsOf_mem hp
        rw [decide_eq_true (KS_len a), decide_eq_true (h2 _ _ b)]; rfl
      show (decide (_ ≤ 1000) && decide (_ ≤ 1000) && _) = true
      rw [decide_eq_true h1, decide_eq_true (Nat.le_trans (pairsOf_len _) (by decide)), z]; rfl
theorem fit_shF (o : Ok ns) (s : Shorts ns) {j n : Nat} (h : Ht ns j n) (hj : j ≤ 60) : Sh.Fit (shF j ns n) :=
  ⟨nums_shF o j n h, Nat.le_trans (size_shF o h) (by decide), Nat.le_trans (dep_shF j n h) hj, fun p hp => by
    obtain ⟨i, hi, e, _⟩ := pre_shF o j n h p hp
    rw [e]
    exact msB_shF s hi⟩
theorem fit_sh (o : Ok ns) (s : Shorts ns) {n : Nat} (hn : n < ns.length) : Sh.Fit (sh ns n) := fit_shF o s (o.ht hn) (Nat.le_refl _)
theorem sh_D (o : Ok ns) {n : Nat} (hn : n < ns.length) : (sh ns n).toD = shape ns n := shF_D (o.ht hn)
end
/-! ### options and views -/
structure Op where
  scope : Str
  marks : Option (List Str)
  texts : Bool
def Op.toD (o : Op) : PyData := .tuple [.str o.scope, (match o.marks with | none => .none | some l => .tuple (l.map .str)), .bool o.texts]
def SC : List Str := ["own", "list", "all"]
structure Op.Good (o : Op) : Prop where
  sc : o.scope ∈ SC
  ml : ∀ l, o.marks = some l → l.length ≤ 1000
def Op.wants (o : Op) (k : Str) : Bool := match o.marks with
  | none => true
  | some l => decide (k ∈ l)
namespace Sh
def seen (o : Op) (s : Sh) (ks : List Sh) : Sh := match s with
  | t n x => t n (if o.texts then x else "")
  | e n nm ms _ => e n nm (ms.filter fun p => o.wants p.1) ks
def bare : Sh → Sh
  | t n _ => t n ""
  | e n nm _ _ => e n nm [] []
mutual
def viewA (o : Op) : Sh → Sh
  | t n x => seen o (t n x) []
  | e n nm ms ks => seen o (e n nm ms ks) (viewAs o ks)
def viewAs (o : Op) : List Sh → List Sh
  | [] => []
  | k :: ks => viewA o k :: viewAs o ks
end
theorem viewAs_eq {o : Op} : ∀ ks : List Sh, viewAs o ks = ks.map (viewA o)
  | [] => rfl
  | k :: ks => by rw [viewAs, viewAs_eq ks]; rfl
theorem viewA_eq {o : Op} (s : Sh) : viewA o s = seen o s (s.kids.map (viewA o)) := by
  cases s with
  | t n x => rw [viewA]; rfl
  | e n nm ms ks => rw [viewA, viewAs_eq]; rfl
def view (o : Op) (s : Sh) : Sh := if o.scope = "own" then seen o s [] else if o.scope = "list" then seen o s (s.kids.map bare) else viewA o s
theorem seen_num {o : Op} {s : Sh} {ks : List Sh} : (seen o s ks).num = s.num := by cases s <;> rfl
theorem bare_num {s : Sh} : (bare s).num = s.num := by cases s <;> rfl
theorem viewA_num {o : Op} {s : Sh} : (viewA o s).num = s.num := by rw [viewA_eq, seen_num]
theorem seen_kids {o : Op} {s : Sh} {ks : List Sh} : (seen o s ks).kids = if s.isE then ks else [] := by cases s <;> rfl
theorem viewA_kids {o : Op} {s : Sh} : (viewA o s).kids = s.kids.map (viewA o) := by
  rw [viewA_eq, seen_kids]
  cases s <;> rfl
theorem seen_isE {o : Op} {s : Sh} {ks : List Sh} : (seen o s ks).isE = s.isE := by cases s <;> rfl
theorem viewA_isE {o : Op} {s : Sh} : (viewA o s).isE = s.isE := by rw [viewA_eq, seen_isE]
theorem pre_viewA {o : Op} : ∀ s : Sh, (viewA o s).pre = s.pre.map (viewA o) := indk fun s ih => by
  rw [pre_eq, pre_eq s, List.map_cons, viewA_kids, List.flatMap_map, List.map_flatMap]
  congr 1
  have h : ∀ ks : List Sh, (∀ k ∈ ks, (viewA o k).pre = k.pre.map (viewA o)) → (ks.flatMap fun k => (viewA o k).pre) = ks.flatMap fun k => k.pre.map (viewA o) := fun ks => by
    induction ks with
    | nil => intro _; rfl
    | cons k ks ih2 =>
      intro h
      rw [List.flatMap_cons, List.flatMap_cons, h k List.mem_cons_self, ih2 fun x hx => h x (List.mem_cons_of_mem _ hx)]
  exact h _ ih
theorem find_viewA {o : Op} {s : Sh} {n : Nat} : (viewA o s).findS n = (s.findS n).map (viewA o) := by
  unfold findS
  rw [pre_viewA, List.find?_map]
  congr 1
  congr 1
  funext p
  show decide ((viewA o p).num = n) = _
  rw [viewA_num]
/-- at least as wide -/
def rank (x : Str) : Nat := SC.idxOf x
def wider (a b : Op) : Bool := decide (rank b.scope ≤ rank a.scope) && (!b.texts || a.texts) && (match b.marks with | none => a.marks.isNone | some l => l.all a.wants)
end Sh
theorem wider_wants {a b : Op} (h : Sh.wider a b = true) (k : Str) (hk : b.wants k = true) : a.wants k = true := by
  unfold Sh.wider at h
  simp only [Bool.and_eq_true] at h
  obtain ⟨_, h⟩ := h
  unfold Op.wants at hk ⊢
  cases hb : b.marks with
  | none =>
    rw [hb] at h
    cases ha : a.marks with
    | none => rfl
    | some l => rw [ha] at h; cases h
  | some l =>
    rw [hb] at h hk
    have z := List.all_eq_true.mp h k (of_decide_eq_true hk)
    unfold Op.wants at z
    exact z
namespace Sh
theorem seen_seen {a b : Op} (h : wider a b = true) {s : Sh} {ks ls : List Sh} : seen b (seen a s ks) ls = seen b s ls := by
  cases s with
  | t n x =>
    show t n (if b.texts then (if a.texts then x else "") else "") = t n (if b.texts then x else "")
    have z : b.texts = true → a.texts = true := fun hb => by
      unfold wider at h
      simp only [Bool.and_eq_true] at h
      have := h.1.2
      rw [hb] at this
      exact this
    by_cases hb : b.texts = true
    · rw [if_pos hb, if_pos hb, if_pos (z hb)]
    · rw [if_neg hb, if_neg hb]
  | e n nm ms _ =>
    show e n nm ((ms.filter fun p => a.wants p.1).filter fun p => b.wants p.1) ls = e n nm (ms.filter fun p => b.wants p.1) ls
    rw [List.filter_filter]
    congr 1
    refine List.filter_congr fun p _ => ?_
    cases hb : b.wants p.1 with
    | false => rfl
    | true => rw [wider_wants h p.1 hb]; rfl
theorem bare_seen {a : Op} {s : Sh} {ks : List Sh} : bare (seen a s ks) = bare s := by cases s <;> rfl
theorem bare_bare {s : Sh} : bare (bare s) = bare s := by cases s <;> rfl
theorem seen_t {b : Op} {s : Sh} {ks ls : List Sh} (h : s.isE = false) : seen b s ks = seen b s ls := by
  cases s with
  | t _ _ => rfl
  | e _ _ _ _ => cases h
theorem viewA_viewA {a b : Op} (h : wider a b = true) : ∀ s : Sh, viewA b (viewA a s) = viewA b s := indk fun s ih => by
  rw [viewA_eq (viewA a s), viewA_eq (o := b) s, viewA_kids, List.map_map]
  have z : s.kids.map (viewA b ∘ viewA a) = s.kids.map (viewA b) := List.map_congr_left ih
  rw [z, viewA_eq (o := a) s, seen_seen h]
theorem wider_scope {a b : Op} (h : wider a b = true) : rank b.scope ≤ rank a.scope := by
  unfold wider at h
  simp only [Bool.and_eq_true] at h
  exact of_decide_eq_true h.1.1
theorem scope_cases {o : Op} (g : o.Good) : o.scope = "own" ∨ o.scope = "list" ∨ o.scope = "all" := by
  have h := g.sc
  unfold SC at h
  simpa using h
theorem view_view {a b : Op} (ga : a.Good) (gb : b.Good) (h : wider a b = true) (s : Sh) : view b (view a s) = view b s := by
  have hr := wider_scope h
  have mb : ∀ {ks : List Sh}, (seen a s ks).kids.map bare = (if s.isE then ks else []).map bare := fun {ks} => by rw [seen_kids]
  rcases scope_cases gb with e | e | e
  · have vb : ∀ x, view b x = seen b x [] := fun x => by unfold view; rw [if_pos e]
    rw [vb, vb]
    rcases scope_cases ga with e2 | e2 | e2
    · have : view a s = seen a s [] := by unfold view; rw [if_pos e2]
      rw [this, seen_seen h]
    · have : view a s = seen a s (s.kids.map bare) := by unfold view; rw [e2]; rfl
      rw [this, seen_seen h]
    · have : view a s = viewA a s := by unfold view; rw [e2]; rfl
      rw [this, viewA_eq, seen_seen h]
  · have vb : ∀ x, view b x = seen b x (x.kids.map bare) := fun x => by unfold view; rw [e]; rfl
    rw [vb, vb]
    rcases scope_cases ga with e2 | e2 | e2
    · rw [e, e2] at hr; exact absurd hr (by decide)
    · have : view a s = seen a s (s.kids.map bare) := by unfold view; rw [e2]; rfl
      rw [this, seen_seen h, mb]
      cases s with
      | t _ _ => rfl
      | e n nm ms ks =>
        show seen b _ ((ks.map bare).map bare) = seen b _ (ks.map bare)
        rw [List.map_map]
        congr 1
        exact List.map_congr_left fun k _ => bare_bare
    · have : view a s = viewA a s := by unfold view; rw [e2]; rfl
      rw [this, viewA_kids, viewA_eq, seen_seen h, List.map_map]
      congr 1
      exact List.map_congr_left fun k _ => by show bare (viewA a k) = _; rw [viewA_eq, bare_seen]
  · have vb : ∀ x, view b x = viewA b x := fun x => by unfold view; rw [e]; rfl
    rw [vb, vb]
    rcases scope_cases ga with e2 | e2 | e2
    · rw [e, e2] at hr; exact absurd hr (by decide)
    · rw [e, e2] at hr; exact absurd hr (by decide)
    · have : view a s = viewA a s := by unfold view; rw [e2]; rfl
      rw [this, viewA_viewA h]
theorem wider_self (o : Op) : wider o o = true := by
  unfold wider
  rw [decide_eq_true (Nat.le_refl _)]
  cases ht : o.texts <;> cases hm : o.marks
  · rfl
  · rename_i l
    show (l.all o.wants) = true
    refine List.all_eq_true.mpr fun k hk => ?_
    unfold Op.wants; rw [hm]; exact decide_eq_true hk
  · rfl
  · rename_i l
    show (l.all o.wants) = true
    refine List.all_eq_true.mpr fun k hk => ?_
    unfold Op.wants; rw [hm]; exact decide_eq_true hk
def full : Op := ⟨"all", none, true⟩
theorem full_good : full.Good := ⟨by decide, fun _ h => nomatch h⟩
theorem wider_full {o : Op} (g : o.Good) : wider full o = true := by
  unfold wider
  have h : rank o.scope ≤ rank full.scope := by rcases scope_cases g with e | e | e <;> rw [e] <;> decide
  rw [decide_eq_true h]
  cases hm : o.marks with
  | none => cases o.texts <;> rfl
  | some l =>
    have z : l.all full.wants = true := List.all_eq_true.mpr fun _ _ => rfl
    show (true && (!o.texts || true) && l.all full.wants) = true
    rw [z]; cases o.texts <;> rfl
theorem view_full : ∀ s : Sh, view full s = s := fun s => by
  have : ∀ s : Sh, viewA full s = s := indk fun s ih => by
    rw [viewA_eq]
    have z : s.kids.map (viewA full) = s.kids := by
      conv => rhs; rw [← List.map_id s.kids]
      exact List.map_congr_left ih
    rw [z]
    cases s with
    | t _ _ => rfl
    | e n nm ms ks =>
      show e n nm (ms.filter fun _ => true) ks = _
      rw [List.filter_eq_self.mpr fun _ _ => rfl]
  exact this s
end Sh
end LM
end
section
set_option Elab.async false
set_option linter.all false
set_option maxRecDepth 100000
set_option maxHeartbeats 4000000
namespace LM
open PySem DL
theorem nd_set_or {ns : List Nd} {n m : Nat} {x : Nd} : nd (ns.set n x) m = x ∨ nd (ns.set n x) m = nd ns m := by
  by_cases h : m = n
  · subst h
    by_cases hm : m < ns.length
    · exact .inl (nd_same hm)
    · rw [List.set_eq_of_length_le (by omega)]
      exact .inr rfl
  · exact .inr (nd_ne h)
theorem nd_app_or {ns : List Nd} {m : Nat} {x : Nd} : nd (ns ++ [x]) m = x ∨ nd (ns ++ [x]) m = nd ns m := by
  by_cases h : m < ns.length
  · exact .inr (nd_app h)
  · by_cases h2 : m = ns.length
    · subst h2
      exact .inl nd_last
    · refine .inr ?_
      unfold nd
      rw [List.getD_eq_getElem?_getD, List.getD_eq_getElem?_getD, List.getElem?_eq_none (by rw [List.length_append]; show ns.length + 1 ≤ m; omega), List.getElem?_eq_none (by omega)]
end LM
namespace LW
open PySem PySem.Spec PyProof.Rows L2 DL LM
/-! ### short names and texts -/
theorem nameB_len {s : Str} (h : nameB s = true) : s.length ≤ 1000 := by
  unfold nameB at h
  simp only [Bool.and_eq_true] at h
  have := of_decide_eq_true h.1.2
  omega
theorem plainT_len {s : Str} (h : plainT s = true) : s.length ≤ 1000 := by
  unfold plainT at h
  simp only [Bool.and_eq_true] at h
  have := of_decide_eq_true h.1
  omega
theorem shorts_w0 : Shorts w0.ns := fun n => by
  by_cases h : n = 0
  · subst h
    exact ⟨by decide, fun k v z => nomatch z⟩
  · have e : nd w0.ns n = d0 := by
      unfold nd
      rw [List.getD_eq_getElem?_getD, List.getElem?_eq_none (by show 1 ≤ n; omega)]; rfl
    rw [e]
    exact ⟨by decide, fun k v z => nomatch z⟩
theorem shorts_at {ns : List Nd} {p n : Nat} {ks : List Nat} {u : Option Nat} (s : Shorts ns) : Shorts (setUp (setKids ns p ks) n u) := fun m => by
  obtain ⟨_, h2, h3⟩ := rest_at (ns := ns) (p := p) (ks := ks) (n := n) (u := u) m
  rw [h2, h3]
  exact s m
theorem shorts_out {w : Wm} {n : Nat} (s : Shorts w.ns) : Shorts (outA w n).ns := by
  unfold outA
  split
  · exact s
  · exact shorts_at s
theorem shorts_mark {w : Wm} {n : Nat} {k : Str} {v : Option Str} (s : Shorts w.ns) (hv : ∀ x, v = some x → x.length ≤ 1000) : Shorts (markA w n k v).1.ns := by
  unfold markA
  split
  · exact s
  split
  · exact s
  · intro m
    rcases nd_set_or (ns := w.ns) (n := n) (m := m) (x := { nd w.ns n with marks := setM (nd w.ns n).marks k v }) with e | e
    · show (nd (setMarks w.ns n (setM (nd w.ns n).marks k v)) m).name.length ≤ 1000 ∧ _
      unfold setMarks
      rw [e]
      refine ⟨(s n).1, fun j x hx => ?_⟩
      have hx : (if j = k then v else (nd w.ns n).marks j) = some x := hx
      by_cases z : j = k
      · rw [if_pos z] at hx; exact hv x hx
      · rw [if_neg z] at hx; exact (s n).2 j x hx
    · show (nd (setMarks w.ns n (setM (nd w.ns n).marks k v)) m).name.length ≤ 1000 ∧ _
      unfold setMarks
      rw [e]
      exact s m
theorem shorts_miss {w : Wm} {l : List (Option Nat)} {r : Wm × PyData} (s : Shorts w.ns) (h : Shorts r.1.ns) : Shorts (orMiss w l r).1.ns := by
  unfold orMiss
  split
  · exact s
  · exact h
theorem doA_shorts {w : Wm} {d : Deed} (s : Shorts w.ns) (hg : deedGood d) : Shorts (doA w d).1.ns := by
  have mk : ∀ t x, x.length ≤ 1000 → Shorts (makeA w t x).1.ns := fun t x hx => by
    unfold makeA
    split
    · exact s
    · intro m
      rcases nd_app_or (ns := w.ns) (m := m) (x := mkNd t x) with e | e
      · show (nd (w.ns ++ [mkNd t x]) m).name.length ≤ 1000 ∧ _
        rw [e]
        exact ⟨hx, fun _ _ z => nomatch z⟩
      · show (nd (w.ns ++ [mkNd t x]) m).name.length ≤ 1000 ∧ _
        rw [e]
        exact s m
  cases d with
  | element x => exact mk _ _ (nameB_len hg)
  | text x => exact mk _ _ (plainT_len hg)
  | insert p n b =>
    refine shorts_miss s ?_
    unfold putA
    repeat (first | exact s | split)
    · unfold insA
      exact shorts_at (shorts_out s)
  | remove n =>
    refine shorts_miss s ?_
    unfold removeA
    split
    · exact s
    · exact shorts_out s
  | mark n k v => exact shorts_miss s (shorts_mark s fun x e => by cases e; exact plainT_len hg.2.2)
  | unmark n k => exact shorts_miss s (shorts_mark s fun x e => nomatch e)
  | write n x =>
    refine shorts_miss s ?_
    unfold writeA
    split
    · exact s
    split
    · exact s
    · intro m
      rcases nd_set_or (ns := w.ns) (n := n) (m := m) (x := { nd w.ns n with name := x }) with e | e
      · show (nd (setName w.ns n x) m).name.length ≤ 1000 ∧ _
        unfold setName
        rw [e]
        exact ⟨plainT_len hg, (s n).2⟩
      · show (nd (setName w.ns n x) m).name.length ≤ 1000 ∧ _
        unfold setName
        rw [e]
        exact s m
/-- names and texts are such -/
def NdV (x : Nd) : Prop := (x.txt = true → plainT x.name = true) ∧ (x.txt = false → nameB x.name = true) ∧ ∀ k v, x.marks k = some v → plainT v = true
def Vd (ns : List Nd) : Prop := ∀ n, n < ns.length → NdV (nd ns n)
theorem vd_w0 : Vd w0.ns := fun n hn => by
  have e : n = 0 := by
    have : n < 1 := hn
    omega
  subst e
  exact ⟨(fun z => nomatch z), (fun _ => by show nameB "top" = true; decide +kernel), (fun k v z => nomatch z)⟩
theorem ndv_set {ns : List Nd} {n : Nat} {x : Nd} (v : Vd ns) (hx : n < ns.length → NdV x) : Vd (ns.set n x) := fun m hm => by
  rw [List.length_set] at hm
  by_cases h : m = n
  · subst h
    rw [nd_same hm]
    exact hx hm
  · rw [nd_ne h]
    exact v m hm
theorem vd_at {ns : List Nd} {p n : Nat} {ks : List Nat} {u : Option Nat} (v : Vd ns) : Vd (setUp (setKids ns p ks) n u) := fun m hm => by
  rw [len_setUp, len_setKids] at hm
  obtain ⟨h1, h2, h3⟩ := rest_at (ns := ns) (p := p) (ks := ks) (n := n) (u := u) m
  unfold NdV
  rw [h1, h2, h3]
  exact v m hm
theorem vd_out {w : Wm} {n : Nat} (v : Vd w.ns) : Vd (outA w n).ns := by
  unfold outA
  split
  · exact v
  · exact vd_at v
theorem vd_mark {w : Wm} {n : Nat} {k : Str} {x : Option Str} (v : Vd w.ns) (hx : ∀ y, x = some y → plainT y = true) : Vd (markA w n k x).1.ns := by
  unfold markA
  split
  · exact v
  split
  · exact v
  · refine ndv_set v fun hn => ?_
    obtain ⟨h1, h2, h3⟩ := v n hn
    refine ⟨h1, h2, fun j y hy => ?_⟩
    have hy : (if j = k then x else (nd w.ns n).marks j) = some y := hy
    by_cases z : j = k
    · rw [if_pos z] at hy; exact hx y hy
    · rw [if_neg z] at hy; exact h3 j y hy
theorem vd_miss {w : Wm} {l : List (Option Nat)} {r : Wm × PyData} (v : Vd w.ns) (h : Vd r.1.ns) : Vd (orMiss w l r).1.ns := by
  unfold orMiss
  split
  · exact v
  · exact h
theorem doA_vd {w : Wm} {d : Deed} (v : Vd w.ns) (hg : deedGood d) : Vd (doA w d).1.ns := by
  have mk : ∀ t x, NdV (mkNd t x) → Vd (makeA w t x).1.ns := fun t x hx => by
    unfold makeA
    split
    · exact v
    · intro m hm
      have hm : m < (w.ns ++ [mkNd t x]).length := hm
      rw [List.length_append] at hm
      show NdV (nd (w.ns ++ [mkNd t x]) m)
      by_cases h : m < w.ns.length
      · rw [nd_app h]; exact v m h
      · have e : m = w.ns.length := by
          have : m < w.ns.length + 1 := hm
          omega
        subst e
        rw [nd_last]; exact hx
  cases d with
  | element x => exact mk _ _ ⟨(fun z => nomatch z), (fun _ => hg), (fun _ _ z => nomatch z)⟩
  | text x => exact mk _ _ ⟨(fun _ => hg), (fun z => nomatch z), (fun _ _ z => nomatch z)⟩
  | insert p n b =>
    refine vd_miss v ?_
    unfold putA
    repeat (first | exact v | split)
    · unfold insA
      exact vd_at (vd_out v)
  | remove n =>
    refine vd_miss v ?_
    unfold removeA
    split
    · exact v
    · exact vd_out v
  | mark n k x => exact vd_miss v (vd_mark v fun y e => by cases e; exact hg.2.2)
  | unmark n k => exact vd_miss v (vd_mark v fun y e => nomatch e)
  | write n x =>
    refine vd_miss v ?_
    unfold writeA
    split
    · exact v
    split
    · exact v
    · rename_i h1 h2
      have ht : (nd w.ns n).txt = true := by
        cases z : (nd w.ns n).txt with
        | true => rfl
        | false => exact absurd z h1
      refine ndv_set v fun hn => ?_
      obtain ⟨_, _, h3⟩ := v n hn
      exact ⟨fun _ => hg, (fun z => by have z : (nd w.ns n).txt = false := z; rw [ht] at z; cases z), h3⟩
/-! ### what is told, typed -/
inductive Rc
  | put (p : Nat) (s : Sh) (b : Option Nat)
  | out (p n : Nat)
  | mark (n : Nat) (k : Str) (v : Option Str)
  | text (n : Nat) (t : Str)
def Rc.toD : Rc → PyData
  | .put p s b => recPut p s.toD b
  | .out p n => recOut p n
  | .mark n k v => recMark n k v
  | .text n t => recText n t
def Rc.tg : Rc → Nat
  | .put p _ _ => p
  | .out p _ => p
  | .mark n _ _ => n
  | .text n _ => n
structure Chg where
  r : Rc
  ab : List Nat
def Chg.toD (c : Chg) : PyData := .tuple [c.r.toD, .tuple (c.ab.map ofN)]
def ShOf (s : Sh) : Prop := ∃ ns n, Ok ns ∧ Shorts ns ∧ Vd ns ∧ n < ns.length ∧ s = sh ns n
def Rc.Good : Rc → Prop
  | .put _ s _ => ShOf s
  | .out _ _ => True
  | .mark _ k v => nameB k = true ∧ ∀ x, v = some x → plainT x = true
  | .text _ t => plainT t = true
def ToldSh (l : List PyData) : Prop := ∃ cs : List Chg, l = cs.map Chg.toD ∧ ∀ c ∈ cs, c.r.Good
theorem toldSh_nil : ToldSh [] := ⟨[], rfl, fun _ h => nomatch h⟩
theorem tell_tsh {w : Wm} {r : Rc} {n : Nat} {b : Option Nat} (h : ToldSh w.told) (g : r.Good) : ToldSh (tell w r.toD n b).told := by
  obtain ⟨cs, e, hc⟩ := h
  refine ⟨cs ++ [⟨r, above w.ns n⟩], ?_, fun c hm => ?_⟩
  · show w.told ++ [_] = _
    rw [e, List.map_append]; rfl
  · rcases List.mem_append.mp hm with z | z
    · exact hc c z
    · rw [List.mem_singleton.mp z]; exact g
theorem outA_tsh {w : Wm} {n : Nat} (h : ToldSh w.told) : ToldSh (outA w n).told := by
  unfold outA
  split
  · exact h
  · rename_i q _
    exact tell_tsh (r := .out q n) (n := q) (b := some n) h trivial
theorem miss_tsh {w : Wm} {l : List (Option Nat)} {r : Wm × PyData} (h : ToldSh w.told) (k : miss w.ns.length l = none → ToldSh r.1.told) : ToldSh (orMiss w l r).1.told := by
  unfold orMiss
  split
  · exact h
  · exact k (by assumption)
theorem mark_tsh {w : Wm} {n : Nat} {k : Str} {x : Option Str} (h : ToldSh w.told) (hk : nameB k = true) (hx : ∀ y, x = some y → plainT y = true) : ToldSh (markA w n k x).1.told := by
  unfold markA
  split
  · exact h
  split
  · exact h
  · exact tell_tsh (r := .mark n k x) (b := none) h ⟨hk, hx⟩
theorem doA_tsh {w : Wm} {d : Deed} (h : ToldSh w.told) (o : Ok w.ns) (s : Shorts w.ns) (v : Vd w.ns) (hg : deedGood d) : ToldSh (doA w d).1.told := by
  have mk : ∀ t x, ToldSh (makeA w t x).1.told := fun t x => by
    unfold makeA
    split <;> exact h
  cases d with
  | element x => exact mk _ _
  | text x => exact mk _ _
  | insert p n b =>
    refine miss_tsh h fun hm => ?_
    have hn := (miss3 hm).2.1
    unfold putA
    repeat (first | exact h | split)
    · unfold insA
      have o' := outA_ok o hn
      have hl : n < (outA w n).ns.length := by
        unfold outA
        split
        · exact hn
        · show n < (outN w.ns _ n).length
          rw [len_outN]; exact hn
      have e : shape (outA w n).ns n = (sh (outA w n).ns n).toD := (sh_D o' hl).symm
      show ToldSh (tell (outA w n) (recPut p (shape (outA w n).ns n) b) p none).told
      rw [e]
      exact tell_tsh (r := .put p (sh (outA w n).ns n) b) (b := none) (outA_tsh h) ⟨_, n, o', shorts_out s, vd_out v, hl, rfl⟩
  | remove n =>
    refine miss_tsh h fun _ => ?_
    unfold removeA
    split
    · exact h
    · exact outA_tsh h
  | mark n k x => exact miss_tsh h fun _ => mark_tsh h hg.2.1 fun y e => by cases e; exact hg.2.2
  | unmark n k => exact miss_tsh h fun _ => mark_tsh h hg.2 fun y e => nomatch e
  | write n x =>
    refine miss_tsh h fun _ => ?_
    unfold writeA
    split
    · exact h
    split
    · exact h
    · exact tell_tsh (r := .text n x) (b := none) h hg
theorem good_ok {d : Deed} (h : deedGood d) : deedOk d := by
  cases d with
  | mark n k v => exact h.1
  | unmark n k => exact h.1
  | _ => trivial
/-! ### the tables and the document, side by side -/
section
variable {P : Program} {W : World} {K : PySem.W.Frag} {mg : Str → Option Value} {base : Heap} {f : Addr} {fd : FuncData} {CD CN : Addr} {ec : EC} {a a0 : DA} {A A2 H H1 H2 G G2 Hc : Hp} {w : Wm} {σ : L2.St} {t te tn t1 t2 : TE} {tr : TS} {ts : TS} {D : Ends} {tA : TA} {wd : Addr} {fl : Nat → Addr} {n j : Nat} {S S' T : Addr → Prop}
theorem Step.orL (p : Step S H H1 S' G H2) : Step (fun b => S b ∨ T b) H H1 (fun b => S' b ∨ T b) G H2 :=
  ⟨p.hg, p.gh, fun b o hb h => p.hh b o (fun z => hb (.inl z)) h, p.pr, p.th, fun b h => h.elim (fun z => (p.nw b z).elim (fun y => .inl (.inl y)) .inr) (fun z => .inl (.inr z)), fun b h => h.imp (p.sb b) id⟩
theorem Step.orR (p : Step S H H1 S' G H2) : Step (fun b => T b ∨ S b) H H1 (fun b => T b ∨ S' b) G H2 :=
  ⟨p.hg, p.gh, fun b o hb h => p.hh b o (fun z => hb (.inr z)) h, p.pr, p.th, fun b h => h.elim (fun z => .inl (.inl z)) (fun z => (p.nw b z).elim (fun y => .inl (.inr y)) .inr), fun b h => h.imp id (p.sb b)⟩
theorem WH.ownW (h : WH K wd fl G H w) : ∀ b, wS wd fl b → H b ≠ none := by
  rintro b (rfl | ⟨i, hi, rfl⟩)
  · exact some_ne h.d
  · by_cases z : i < 5
    · obtain ⟨xs, h1, _⟩ := h.c i z
      exact some_ne h1
    · by_cases y : i = 5
      · subst y; obtain ⟨xs, h1, _⟩ := h.t; exact some_ne h1
      · have : i = 6 := by omega
        subst this; obtain ⟨xs, h1, _⟩ := h.b; exact some_ne h1
def tS (wd : Addr) (fl : Nat → Addr) (a : DA) : Addr → Prop := fun b => wS wd fl b ∨ dS a b
structure Two (K : PySem.W.Frag) (CD CN : Addr) (wd : Addr) (fl : Nat → Addr) (a : DA) (G H : Hp) (w : Wm) : Prop where
  wh : WH K wd fl G H w
  dh : DH K CD CN a G H w
  dis : ∀ b, wS wd fl b → ¬ dS a b
  ok : Ok w.ns
  tk : ToldOk w
  sh : Shorts w.ns
  vd : Vd w.ns
  ts : ToldSh w.told
theorem Two.pub (h : Two K CD CN wd fl a G H w) (p : Pub G H G2 H2) : Two K CD CN wd fl a G2 H2 w := ⟨h.wh.pub p, h.dh.pub p, h.dis, h.ok, h.tk, h.sh, h.vd, h.ts⟩
theorem Two.gh (h : Two K CD CN wd fl a G H w) : Same G H := h.wh.gh
theorem Two.idle (h : Two K CD CN wd fl a G H w) (s : Same H H2) : Two K CD CN wd fl a G H2 w := h.pub (.idle h.gh s)
theorem Two.other (h : Two K CD CN wd fl a G H w) (st : Step S G H S' G2 H2) (dis : ∀ b, S b → ¬ tS wd fl a b) : Two K CD CN wd fl a G2 H2 w :=
  ⟨h.wh.other st fun b h1 h2 => dis b h1 (.inl h2), h.dh.other st fun b h1 h2 => dis b h1 (.inr h2), h.dis, h.ok, h.tk, h.sh, h.vd, h.ts⟩
/-- _law_do(world, deed); _law_told(document, deed) -/
theorem e_edit2 {R : Hp → Prop} {j1 j2 j3 : Nat} {v : V} (h : Two K CD CN wd fl a G H w) (dd : Deed) (h1 : σ[j1]? = some (some (.ref wd))) (h2 : σ[j2]? = some (some (.ref a.x))) (h3 : σ[j3]? = some (some v)) (dv : Dv K G v (deedD dd)) (hg : deedGood dd) (hn : deedNear dd)
    (rm : w.told.length + 2 < 1000000 ∧ w.downs.length + 2 < 1000000) (k : ∀ a' G' H', Two K CD CN wd fl a' G' H' (doA w dd).1 → a'.x = a.x → Step (tS wd fl a) G H (tS wd fl a') G' H' → R H') :
    tCall (spM K 1 arD preD doA) [] E0 (tCons (tVar j1) (tCons (tVar j3) tNil)) σ H (fun _ H1 => tCall (spX K CD CN ec 1 arD preCall fTold) [] E0 (tCons (tVar j2) (tCons (tVar j3) tNil)) σ H1 (fun _ H2 => R H2)) := by
  refine e_callJ (ar := arD) (Pre := preD) (f := doA) dd h.wh h.ok h1 (ga_cons (gd_var h3 dv) ga_nil) rfl ⟨good_ok hg, rm⟩ fun v5 G5 H5 a5 dv5 => ?_
  have dh5 : DH K CD CN a G5 H5 w := h.dh.other a5.st h.dis
  refine e_toldJ (ec := ec) dd dh5 h.ok h2 (gd_var h3 (dv.to a5.st.hg)) ⟨hg, hn, rm.1⟩ fun v6 a6 G6 H6 q6 dv6 => ?_
  have wh6 : WH K wd fl G6 H6 (doA w dd).1 := a5.wh.other q6.st fun b h1 h2 => h.dis b h2 h1
  refine k a6 G6 H6 ⟨wh6, q6.dh, fun b hb hd => (q6.st.nw b hd).elim (h.dis b hb) fun z => WH.ownW a5.wh b hb z, doA_ok h.ok (good_ok hg), doA_dlt h.tk h.ok, doA_shorts h.sh hg, doA_vd h.vd hg, doA_tsh h.ts h.ok h.sh h.vd hg⟩ q6.ax ?_
  exact (Step.orL a5.st).trans (Step.orR q6.st)
/-- world = _law_blank(); document = Document() -/
theorem r_start {iw idd : Nat} (k : ∀ wd fl a G H', Two K CD CN wd fl a G H' w0 → (∀ b, tS wd fl a b → H b = none) → Same H H' → tr D ((σ.set iw (some (.ref wd))).set idd (some (.ref a.x))) H') :
    tSeq (tAsg (tCall (spBl K) [] E0 tNil) (gName iw)) (tSeq (tAsg (tMake CD (spDI K CD CN) [] E0 tNil) (gName idd)) tr) D σ H := by
  refine ⟨rfl, fun wd fl Ha hw hf => ?_⟩
  obtain ⟨G1, P1, wh1⟩ := hw (fun _ => none) (fun _ _ z => nomatch z)
  have sHa : Same H Ha := P1.hh
  intro x dx hx hdx hne
  refine ⟨x, dx, rfl, upd_same, fun a Hb hax hkeep hfr hdh => ⟨rfl, ?_⟩⟩
  have sab : Same Ha Hb := fun b o hb => hkeep b o (ne_of_none hb hx) (by rw [upd_ne (ne_of_none hb hx), upd_ne (ne_of_none hb hdx)]; exact hb)
  have g1x : G1 x = none := wh1.gh.free hx
  have g1s : Same G1 (upd (upd Ha dx (.own x)) x (.ins CD dx [])) := fun b o hb => by
    have hb' := wh1.gh _ _ hb
    rw [upd_ne (ne_of_none hb' hx), upd_ne (ne_of_none hb' hdx)]
    exact hb'
  have dh1 := hdh G1 g1s g1x
  have wh2 := wh1.pub (.idle wh1.gh sab)
  have fr : ∀ b, dS a b → Ha b = none := fun b hd => by
    rcases hfr b hd with rfl | z
    · exact hx
    · by_cases e1 : b = x
      · subst e1; exact hx
      · rw [upd_ne e1] at z
        by_cases e2 : b = dx
        · subst e2; exact hdx
        · rw [upd_ne e2] at z
          exact z
  have dis1 : ∀ b, wS wd fl b → ¬ dS a b := fun b hb hd => WH.ownW wh1 b hb (fr b hd)
  have kk := k wd fl a G1 Hb ⟨wh2, dh1, dis1, ok_w0, toldOk_w0, shorts_w0, vd_w0, toldSh_nil⟩ (fun b hb => hb.elim (hf b) fun hd => sHa.free (fr b hd)) (sHa.trans sab)
  rw [hax] at kk
  exact kk
end
end LW
end
section
set_option Elab.async false
set_option linter.all false
set_option maxRecDepth 100000
set_option maxHeartbeats 4000000
namespace LW
open PySem PySem.Spec PyProof.Rows L2 DL LM
section
variable {P : Program} {W : World} {K : PySem.W.Frag} {mg : Str → Option Value} {base : Heap} {f : Addr} {fd : FuncData} {CD CN : Addr} {ec : EC} {a a0 : DA} {A A2 H H1 H2 G G2 Hc : Hp} {w : Wm} {σ : L2.St} {t te tn t1 t2 : TE} {tr : TS} {ts : TS} {D : Ends} {tA : TA} {wd : Addr} {fl : Nat → Addr} {n j : Nat} {S S' T : Addr → Prop}
/-- from one state of the tables by edits to another one -/
inductive Reach (w : Wm) : Wm → Prop
  | refl : Reach w w
  | step {w' : Wm} {d : Deed} : Reach w w' → deedGood d → Reach w (doA w' d).1
def gk (w w' : Wm) (k : Nat) : Prop := w'.told.length ≤ w.told.length + 2 * k ∧ w'.downs.length ≤ w.downs.length + 2 * k ∧ Reach w w'
theorem gk_do {w0 w : Wm} {d : Deed} {k : Nat} (h : gk w0 w k) (hg : deedGood d) : gk w0 (doA w d).1 (k + 1) := by
  obtain ⟨h1, h2, h5⟩ := h
  obtain ⟨h3, h4⟩ := doA_told (w := w) (d := d)
  exact ⟨by omega, by omega, .step h5 hg⟩
def spGr (K : PySem.W.Frag) (CD CN : Addr) : Sp := fun vs H1 Q _ => ∃ (wd : Addr) (fl : Nat → Addr) (a : DA) (v : V) (G : Hp) (w : Wm) (ns : List Int), vs = [.ref wd, .ref a.x, v] ∧ Two K CD CN wd fl a G H1 w ∧ Dv K G v (.list (ns.map .int)) ∧ ns.length ≤ 1000 ∧ w.told.length ≤ 100000 ∧ w.downs.length ≤ 100000 ∧
  ∀ a' G' H' w', Two K CD CN wd fl a' G' H' w' → a'.x = a.x → Step (tS wd fl a) G H1 (tS wd fl a') G' H' → gk w w' ns.length → Q .non H'
abbrev s_law_grown : Stmt := topS 37
theorem sc_law_grown : FnScope ["world", "document", "cells", "cell", "deed"] ["world", "document", "cells"] (defScope s_law_grown) := ⟨rfl, rfl, rfl, by decide +kernel, rfl, by decide +kernel, by decide +kernel⟩
theorem ok_grown (F : Fun K "_law_grown" "_law_grown" s_law_grown f fd) (c_law_deed : Cal P W K mg base 2 "_law_deed" (spRR K 1 arC preAny resDeed)) (c_law_do : Cal P W K mg base 64 "_law_do" (spM K 1 arD preD doA)) (c_law_told : Cal P W K mg base 67 "_law_told" (spX K CD CN ec 1 arD preCall fTold)) :
    FnOk P W K mg base CX0 68 f fd ["world", "document", "cells"] (spGr K CD CN) := by
  refine F.ok sc_law_grown (fun vs H Q E h => ?_) (fun cdv A outer s H vs Q E hr h => ?_)
  · obtain ⟨_, _, _, _, _, _, _, rfl, _⟩ := h
    rfl
  obtain ⟨wd, fl, a, v, G, w, ns, rfl, two, dv, hns, ht, hd, q⟩ := h
  refine ⟨_, (pss_cons (ps_for PassesOwn.never rfl (pi_seq (pv 2)) (pg_name (i := 3) sc_law_grown.nd rfl (Or.inl rfl)) (pss_cons (ps_set (i := 4) sc_law_grown.nd rfl (Or.inl rfl) (pe_k c_law_deed hr (by omega) (pa_cons (pv 0) (pa_cons (pv 3) pa_nil))))
      (pss_cons (ps_expr (pe_k c_law_do hr (by omega) (pa_cons (pv 0) (pa_cons (pv 4) pa_nil))))
      (pss_one (ps_expr (pe_k c_law_told hr (by omega) (pa_cons (pv 1) (pa_cons (pv 4) pa_nil))))))))
      (pss_one (ps_ret pe_non))), ?_⟩
  refine for_run (gi_seqL (gd_var (i := 2) rfl dv)) (.refl two.gh) fun B HB PB => ?_
  refine ⟨fun i σ' G' H' => ∃ (w' : Wm) (a' : DA) (x3 x4 : Option V), σ' = [some (.ref wd), some (.ref a.x), some v, x3, x4] ∧ a'.x = a.x ∧ Two K CD CN wd fl a' G' H' w' ∧ Step (tS wd fl a) G H (tS wd fl a') G' H' ∧ Same B G' ∧ gk w w' i,
    ⟨w, a, none, none, rfl, rfl, two.pub PB, .of_pub PB, .refl _, ⟨Nat.le_refl _, Nat.le_refl _, .refl⟩⟩, fun i σ' G' H' ⟨_, _, _, _, _, _, h, _, sB, _⟩ => ⟨sB, h.gh⟩, ?_, ?_⟩
  · rintro i d σ' G' H' hdd ⟨w', a', x3, x4, rfl, hax, h, st, sB, hk⟩ v5 G5 H5 P5 dv5
    have hi : i < ns.length := by
      have z := (List.getElem?_eq_some_iff.mp hdd).1
      rwa [List.length_map] at z
    rw [List.getElem?_map] at hdd
    obtain ⟨c, hc, rfl⟩ := Option.map_eq_some_iff.mp hdd
    have h5 := h.pub P5
    refine s_setR (K := K) (gr_callJ (j := 0) (ar := arC) (Pre := preAny) (R := resDeed) c h5.wh h5.ok rfl (ga_cons (gd_var rfl dv5) ga_nil) rfl trivial) h5.gh fun d v6 G6 H6 hres P6 dv6 => ?_
    obtain ⟨dd, rfl, hgood, hnear⟩ := hres
    have h6 := h5.pub P6
    obtain ⟨hk1, hk2⟩ := hk
    refine e_edit2 (ec := ec) (j1 := 0) (j2 := 1) (j3 := 4) h6 dd rfl (by rw [hax]; rfl) rfl dv6 hgood hnear ⟨by omega, by omega⟩ fun a7 G7 H7 h7 e7 st7 => ?_
    exact ⟨G7, _, a7, some v5, some v6, rfl, e7.trans hax, h7, ((st.pub P5).pub P6).trans st7, sB.trans (P5.hg.trans (P6.hg.trans st7.hg)), gk_do ⟨hk1, hk2⟩ hgood⟩
  · rintro σ' G' H' ⟨w', a', x3, x4, rfl, hax, h, st, sB, hk⟩
    rw [List.length_map] at hk
    exact q a' G' H' w' h hax st hk
def deeds0 : List Deed := [.element "a", .insert 0 1 none, .element "b", .insert 1 2 none, .text "t", .insert 1 3 (some 2)]
def spSt (K : PySem.W.Frag) (CD CN : Addr) : Sp := fun vs H1 Q _ => ∃ (s : Addr) (ns : List Int) (m : Nat), vs = [.ref s, .int (m : Int)] ∧ SqL K H1 s (ns.map V.int) ∧ ns.length ≤ 63 ∧
  ∀ wd fl a G H2 w r, Two K CD CN wd fl a G H2 w → (∀ b, tS wd fl a b → H1 b = none) → SqL K H2 r [.ref wd, .ref a.x] → Same H1 H2 → w.told.length ≤ 200 → w.downs.length ≤ 200 → Q (.ref r) H2
abbrev s_law_started : Stmt := topS 38
theorem sc_law_started : FnScope ["script", "last", "world", "document", "deed"] ["script", "last"] (defScope s_law_started) := ⟨rfl, rfl, rfl, by decide +kernel, rfl, by decide +kernel, by decide +kernel⟩
theorem ok_started (F : Fun K "_law_started" "_law_started" s_law_started f fd) (c_law_blank : Cal P W K mg base 1 "_law_blank" (spBl K)) (kDocument : Kl P W K mg base 3 "Document" CD (spDI K CD CN)) (c_law_do : Cal P W K mg base 64 "_law_do" (spM K 1 arD preD doA)) (c_law_told : Cal P W K mg base 67 "_law_told" (spX K CD CN ec 1 arD preCall fTold))
    (c_law_grown : Cal P W K mg base 68 "_law_grown" (spGr K CD CN)) : FnOk P W K mg base CX0 69 f fd ["script", "last"] (spSt K CD CN) := by
  refine F.ok sc_law_started (fun vs H Q E h => ?_) (fun cdv A outer s H vs Q E hr h => ?_)
  · obtain ⟨_, _, _, rfl, _⟩ := h
    rfl
  obtain ⟨s0, ns, m, rfl, hs, hns, q⟩ := h
  refine ⟨_, (pss_cons (ps_set (i := 2) sc_law_started.nd rfl (Or.inl rfl) (pe_k0 c_law_blank hr (by omega)))
      (pss_cons (ps_set (i := 3) sc_law_started.nd rfl (Or.inl rfl) (pe_mk0 kDocument hr (by omega)))
      (pss_cons (ps_for PassesOwn.never rfl (pi_seq (pe_lst (pa_cons (RR.pe_tupF (pa_cons pe_str (pa_cons pe_str pa_nil))) (pa_cons (RR.pe_tupF (pa_cons pe_str (pa_cons pe_int (pa_cons pe_int (pa_cons pe_non pa_nil))))) (pa_cons (RR.pe_tupF (pa_cons pe_str (pa_cons pe_str pa_nil))) (pa_cons (RR.pe_tupF (pa_cons pe_str (pa_cons pe_int (pa_cons pe_int (pa_cons pe_non pa_nil))))) (pa_cons (RR.pe_tupF (pa_cons pe_str (pa_cons pe_str pa_nil))) (pa_cons (RR.pe_tupF (pa_cons pe_str (pa_cons pe_int (pa_cons pe_int (pa_cons pe_int pa_nil))))) pa_nil)))))))) (pg_name (i := 4) sc_law_started.nd rfl (Or.inl rfl)) (pss_cons (ps_expr (pe_k c_law_do hr (by omega) (pa_cons (pv 2) (pa_cons (pv 4) pa_nil))))
      (pss_one (ps_expr (pe_k c_law_told hr (by omega) (pa_cons (pv 3) (pa_cons (pv 4) pa_nil)))))))
      (pss_cons (ps_expr (pe_k c_law_grown hr (by omega) (pa_cons (pv 2) (pa_cons (pv 3) (pa_cons (pe_slice sl_list (pv 0) po_none (po_some (pv 1))) pa_nil)))))
      (pss_one (ps_ret (pe_lst (pa_cons (pv 2) (pa_cons (pv 3) pa_nil))))))))), ?_⟩
  refine r_start fun wd fl a G H1 two fr sH => ?_
  have gdeeds : GD K (tLst (tCons (RR.tTupF (tCons (tC (.str "element")) (tCons (tC (.str "a")) tNil))) (tCons (RR.tTupF (tCons (tC (.str "insert")) (tCons (tC (.int 0)) (tCons (tC (.int 1)) (tCons (tC .non) tNil))))) (tCons (RR.tTupF (tCons (tC (.str "element")) (tCons (tC (.str "b")) tNil))) (tCons (RR.tTupF (tCons (tC (.str "insert")) (tCons (tC (.int 1)) (tCons (tC (.int 2)) (tCons (tC .non) tNil))))) (tCons (RR.tTupF (tCons (tC (.str "text")) (tCons (tC (.str "t")) tNil))) (tCons (RR.tTupF (tCons (tC (.str "insert")) (tCons (tC (.int 1)) (tCons (tC (.int 3)) (tCons (tC (.int 2)) tNil))))) tNil)))))))
      [some (.ref s0), some (.int (m : Int)), some (.ref wd), some (.ref a.x), none] G H1 (.list (deeds0.map deedD)) :=
    gd_lst (ga_cons (gd_tup (ga_cons gd_str (ga_cons gd_str ga_nil))) (ga_cons (gd_tup (ga_cons gd_str (ga_cons (gd_int (i := 0)) (ga_cons (gd_int (i := 1)) (ga_cons gd_non ga_nil))))) (ga_cons (gd_tup (ga_cons gd_str (ga_cons gd_str ga_nil))) (ga_cons (gd_tup (ga_cons gd_str (ga_cons (gd_int (i := 1)) (ga_cons (gd_int (i := 2)) (ga_cons gd_non ga_nil))))) (ga_cons (gd_tup (ga_cons gd_str (ga_cons gd_str ga_nil))) (ga_cons (gd_tup (ga_cons gd_str (ga_cons (gd_int (i := 1)) (ga_cons (gd_int (i := 3)) (ga_cons (gd_int (i := 2)) ga_nil))))) ga_nil)))))) (by decide)
  refine for_run (gi_seqL gdeeds) (.refl two.gh) fun B HB PB => ?_
  refine ⟨fun i σ' G' H' => ∃ (w' : Wm) (a' : DA) (x4 : Option V), σ' = [some (.ref s0), some (.int (m : Int)), some (.ref wd), some (.ref a.x), x4] ∧ a'.x = a.x ∧ Two K CD CN wd fl a' G' H' w' ∧ Step (tS wd fl a) G H1 (tS wd fl a') G' H' ∧ Same B G' ∧ gk w0 w' i,
    ⟨w0, a, none, rfl, rfl, two.pub PB, .of_pub PB, .refl _, ⟨Nat.le_refl _, Nat.le_refl _, .refl⟩⟩, fun i σ' G' H' ⟨_, _, _, _, _, h, _, sB, _⟩ => ⟨sB, h.gh⟩, ?_, ?_⟩
  · rintro i d σ' G' H' hdd ⟨w', a', x4, rfl, hax, h, st, sB, hk⟩ v5 G5 H5 P5 dv5
    have hi : i < 6 := by
      have z := (List.getElem?_eq_some_iff.mp hdd).1
      rwa [List.length_map] at z
    rw [List.getElem?_map] at hdd
    obtain ⟨dd, hc, rfl⟩ := Option.map_eq_some_iff.mp hdd
    have hm := List.mem_of_getElem? hc
    have hgn : deedGood dd ∧ deedNear dd := by
      unfold deeds0 at hm
      simp only [List.mem_cons, List.mem_nil_iff, or_false] at hm
      rcases hm with rfl | rfl | rfl | rfl | rfl | rfl
      · exact ⟨by show _ = true; decide +kernel, trivial⟩
      · exact ⟨trivial, by decide, by decide, fun x z => nomatch z⟩
      · exact ⟨by show _ = true; decide +kernel, trivial⟩
      · exact ⟨trivial, by decide, by decide, fun x z => nomatch z⟩
      · exact ⟨by show _ = true; decide +kernel, trivial⟩
      · exact ⟨trivial, by decide, by decide, fun x z => by cases z; decide⟩
    have h5 := h.pub P5
    obtain ⟨hk1, hk2⟩ := hk
    have w00 : w0.told.length = 0 ∧ w0.downs.length = 0 := ⟨rfl, rfl⟩
    refine e_edit2 (ec := ec) (j1 := 2) (j2 := 3) (j3 := 4) h5 dd rfl (by rw [hax]; rfl) rfl dv5 hgn.1 hgn.2 ⟨by omega, by omega⟩ fun a7 G7 H7 h7 e7 st7 => ?_
    exact ⟨G7, _, a7, some v5, rfl, e7.trans hax, h7, (st.pub P5).trans st7, sB.trans (P5.hg.trans st7.hg), gk_do ⟨hk1, hk2⟩ hgn.1⟩
  · rintro σ' G' H' ⟨w', a', x4, rfl, hax, h, st, sB, hk⟩
    have hk : gk w0 w' 6 := hk
    have w00 : w0.told.length = 0 ∧ w0.downs.length = 0 := ⟨rfl, rfl⟩
    obtain ⟨hk1, hk2⟩ := hk
    have sH2 : Same H H' := fun b o hb => st.hh b o (fun z => by rw [fr b z] at hb; cases hb) (sH b o hb)
    have fr' : ∀ b, tS wd fl a' b → H b = none := fun b hb => (st.nw b hb).elim (fr b) fun z => sH.free z
    have hs' : SqL K H' s0 (ns.map V.int) := sH2.seq hs
    refine ⟨.ref wd, rfl, .ref a.x, rfl, .ref s0, rfl, .int (m : Int), rfl, m, rfl, s0, _, rfl, hs', fun p hp => ?_⟩
    obtain ⟨ks, hkl, ek⟩ : ∃ ks : List Int, ks.length ≤ 63 ∧ cutV (ns.map V.int) none (some (m : Int)) = ks.map V.int := by
      refine ⟨(ns.drop (HT.sIx (ns.map V.int).length 0 none)).take (HT.sIx (ns.map V.int).length (ns.map V.int).length (some (m : Int)) - HT.sIx (ns.map V.int).length 0 none), ?_, ?_⟩
      · rw [List.length_take, List.length_drop]; omega
      · unfold cutV
        rw [← List.map_drop, ← List.map_take]
    rw [ek]
    have P5 := (Pub.refl h.gh).new hp (.lst (ks.map V.int))
    have h5 := h.pub P5
    have dv5 : Dv K (upd G' p (.lst (ks.map V.int))) (.ref p) (.list (ks.map .int)) := .lst (.inl upd_same) DvA.ints
    refine ⟨wd, fl, a', .ref p, _, w', _, by rw [hax]; rfl, h5, dv5, by omega, by omega, by omega, fun a8 G8 H8 w8 h8 e8 st8 hk8 => ?_⟩
    refine ⟨.ref wd, rfl, .ref a.x, rfl, by rw [sizeLine_eq]; show 2 ≤ _; decide, fun r hr => ?_⟩
    have st58 := (st.pub P5).trans st8
    have s8 : Same H H8 := fun b o hb => st58.hh b o (fun z => by rw [fr b z] at hb; cases hb) (sH b o hb)
    have P9 := (Pub.refl h8.gh).newP hr (.lst [.ref wd, .ref a.x])
    obtain ⟨hk3, hk4⟩ := hk8
    refine q wd fl a8 _ _ w8 r (h8.pub P9) (fun b hb => (st8.nw b hb).elim (fun z => fr' b z) fun z => (sH2.trans P5.hh).free z) ?_ (s8.trans (same_new hr _)) (by omega) (by omega)
    have e9 : a8.x = a.x := e8.trans hax
    rw [e9]
    exact SqL.of upd_same
/-- world, document = _law_started(script, m) -/
theorem s_started {i1 i2 m : Nat} {s0 : Addr} {ns : List Int} (h0 : σ[0]? = some (some (.ref s0))) (hs : SqL K H s0 (ns.map V.int)) (hl : ns.length ≤ 63)
    (k : ∀ wd fl a G H2 w, Two K CD CN wd fl a G H2 w → Same H H2 → w.told.length ≤ 200 → w.downs.length ≤ 200 → tr D ((σ.set i1 (some (.ref wd))).set i2 (some (.ref a.x))) H2) :
    tSeq (tAsg (tCall (spSt K CD CN) [] E0 (tCons (tVar 0) (tCons (tC (.int (m : Int))) tNil))) (gLst K 2 (gCons (gName i1) (gCons (gName i2) gNil)))) tr D σ H :=
  ⟨.ref s0, h0, s0, ns, m, rfl, hs, hl, fun wd fl a G H2 w r two _ sq sH ht hd => ⟨r, _, rfl, sq, rfl, .ref wd, _, rfl, .ref a.x, _, rfl, rfl, k wd fl a G H2 w two sH ht hd⟩⟩
end
end LW
end
section
set_option Elab.async false
set_option linter.all false
set_option maxRecDepth 100000
set_option maxHeartbeats 4000000
/-! two rules that the hand layer lacks: t[::-1] of a tuple, xs.extend(t) by a tuple -/
namespace RR
open PySem PySem.Spec PyProof.Rows L2
section
variable {prog : Program} {w : World} {A : Around} {E : Value → Shared → Prop} {s : Shared}
theorem places_back (n : Nat) : Builtin.Slice.slicePlaces ((n : Int) - 1) (-1) (-1) = n := by
  unfold Builtin.Slice.slicePlaces
  rw [if_neg (by omega : ¬ ((-1 : Int) > 0))]
  have e : (-(-1) : Int) = 1 := by omega
  rw [e]
  by_cases h : ((n : Int) - 1) > -1
  · rw [if_pos h, Int.ediv_one]; omega
  · rw [if_neg h]; omega
theorem applied_back {sl : Addr} {t : Tok} {n : Nat} {Q : Int × Int × Nat → Shared → Prop} (hs : s.heap.IsSliceOf sl .none .none (.int (-1) t)) (h : Q ((n : Int) - 1, -1, n) s) :
    wpAny (model prog w) A (Builtin.Slice.sliceApplied (.ref sl) (pure (n : Int))) Q E s := by
  obtain ⟨o, ho, hc, hd⟩ := id hs
  unfold Builtin.Slice.sliceApplied Builtin.Slice.sliceFields
  refine wpAny_bind (wpAny_bind (wpAny_field ho hd (x := .none) rfl (wpAny_bind (wpAny_field ho hd (x := .none) rfl (wpAny_bind (wpAny_field ho hd (x := .int (-1) t) rfl (wpAny_pure ?_)))))))
  refine wpAny_bind (slicePart_int (i := -1) (u := t) ?_)
  show wpAny _ _ (if ((-1 : Int) == 0) = true then _ else _) _ _ s
  rw [if_neg (by decide : ¬ ((-1 : Int) == 0) = true)]
  refine wpAny_bind (slicePart_none (wpAny_bind (slicePart_none (wpAny_bind (wpAny_pure ?_)))))
  show wpAny _ _ (pure (((n : Int) - 1), (-1 : Int), Builtin.Slice.slicePlaces ((n : Int) - 1) (-1) (-1))) _ _ s
  rw [places_back]
  exact wpAny_pure h
theorem pick_back (xs : Array Value) : ((List.range xs.size).filterMap fun (m : Nat) => xs[(((xs.size : Int) - 1) + (m : Int) * (-1)).toNat]?).toArray = xs.toList.reverse.toArray := by
  congr 1
  have e : (fun (m : Nat) => xs[(((xs.size : Int) - 1) + (m : Int) * (-1)).toNat]?) = fun m => xs.toList[xs.size - 1 - m]? := by
    funext m
    have : (((xs.size : Int) - 1) + (m : Int) * (-1)).toNat = xs.size - 1 - m := by omega
    rw [this, Array.getElem?_toList]
  rw [e]
  apply List.ext_getElem?
  intro i
  have hl : xs.toList.length = xs.size := Array.length_toList
  generalize xs.toList = l at hl ⊢
  rw [← hl]
  clear e hl
  have h : ∀ (k : Nat), k ≤ l.length → (List.range k).filterMap (fun m => l[l.length - 1 - m]?) = l.reverse.take k := fun k => by
    induction k with
    | zero => intro _; rfl
    | succ k ih =>
      intro hk
      rw [List.range_succ, List.filterMap_append, ih (by omega), List.take_add_one, List.getElem?_reverse (by omega)]
      congr 1
  rw [h l.length (Nat.le_refl _), List.take_of_length_le (by rw [List.length_reverse]; exact Nat.le_refl _)]
theorem item_back {t sl : Addr} {items : Array Value} {k : Tok} {Q : Value → Shared → Prop} (ht : IsTup s.heap t items) (hs : s.heap.IsSliceOf sl .none .none (.int (-1) k))
    (h : Q (.ref s.heap.objs.size) { s with heap := s.heap.push { cls := .type "tuple", data := .seq items.toList.reverse.toArray } }) (hsz : items.size ≤ sizeLine) : wpAny (model prog w) A (getItem (.ref t) (.ref sl)) Q E s := by
  have room : sizeOk (.seq items.toList.reverse.toArray) := by
    show items.toList.reverse.toArray.size ≤ sizeLine
    rw [List.size_toArray, List.length_reverse, Array.length_toList]
    exact hsz
  obtain ⟨o, ho, hc, hd⟩ := id hs
  have ts : s.TypeIs (.ref sl) "slice" := ⟨o, ho, hc⟩
  unfold getItem
  try with_reducible refine wpAny_holding ?_
  first | refine wpAny_bind (wpAny_pure ?_) | skip
  refine wpAny_bind (wpAny_sequenceKey ht.typeIs (by decide) (wpAny_bind (wpAny_callSpecial?_slot (name := Str.ofString "__getitem__") ht.typeIs PyProof.Rows.slot_tuple_getitem
    (wpAny_call_entry PyProof.Rows.slot_tuple_getitem ht.typeIs entry_tuple_getitem ?_ (args_tuple_getitem _ _)))))
  show wpAny _ _ (Builtin.Tuple.tupleItemsOf (.ref t) >>= _) _ _ s
  refine wpAny_bind (tupleItemsOf_ ht (wpAny_bind (wpAny_typeOf ts ?_)))
  rw [if_pos (by decide)]
  refine wpAny_bind (applied_back (n := items.size) hs ?_)
  show wpAny _ _ (if (((items.size : Int) - 1) == 0 && (-1 : Int) == 1 && items.size == items.size) = true then _ else _) _ _ s
  have no : ¬ ((((items.size : Int) - 1) == 0 && (-1 : Int) == 1 && items.size == items.size) = true) := by
    rw [show ((-1 : Int) == 1) = false from rfl, Bool.and_false, Bool.false_and]
    exact Bool.false_ne_true
  rw [if_neg no, pick_back]
  first
    | exact wpAny_bind (m := Builtin.Tuple.tupleExact _) (wpAny_newObj_type (wpAny_pure ⟨_, rfl, wpAny_pure h⟩) room)
    | exact wpAny_bind (m := Builtin.Tuple.tupleExact _) (wpAny_newObj_type (wpAny_bind (wpAny_pure (wpAny_pure ⟨_, rfl, wpAny_pure h⟩))) room)
    | exact wpAny_bind (wpAny_bind (m := Builtin.Tuple.tupleExact _) (wpAny_newObj_type (wpAny_pure (wpAny_pure ⟨_, rfl, wpAny_pure h⟩)) room))
    | exact wpAny_bind (wpAny_bind (m := Builtin.Tuple.tupleExact _) (wpAny_newObj_type (wpAny_pure ⟨_, rfl, wpAny_pure h⟩) room))
end
/-- t[::-1] -/
def tRevT (K : PySem.W.Frag) (te : TE) : TE := fun σ H Q => te σ H fun x H1 => ∃ a xs, x = .ref a ∧ SqT K H1 a xs ∧ ∀ p ob, H1 p = none → ob.dict = none → Q (.ref p) (upd H1 p (.frz ob (.tup xs.reverse)))
theorem pe_revT {X : Cx} {e : Expr} {te : TE} {k : Nat} {p1 p2 p3 pos : Pos} (he : PE X e te) : PE X (.Subscript e (.Slice none none (some (.UnaryOp .USub (.Constant (.int 1) k p1) p2)) p3) pos) (tRevT X.K te) := by
  refine ⟨fun pins s σ H Q I h => Subscript_ (thn (he.run pins s σ H _ I h) fun v s1 ⟨x, H1, I1, r1, q1⟩ => ?_)⟩
  obtain ⟨a, xs, rfl, hx, q⟩ := q1
  cases r1
  have ho : PO X (some (.UnaryOp .USub (.Constant (.int 1) k p1) p2)) (tPart (tUn (rU fun i => .int (-i)) (tC (.int 1)))) := po_some (pe_un un_neg pe_int)
  refine wpAny_Slice (thn (po_none.run pins s1 σ H1 (fun o G => o = none ∧ G = H1) I1 ⟨rfl, rfl⟩) fun vl s2 ⟨l, H2, I2, pl, el, e2⟩ => thn (po_none.run pins s2 σ H2 (fun o G => o = none ∧ G = H2) I2 ⟨rfl, rfl⟩) fun vu s3 ⟨u, H3, I3, pu, eu, e3⟩ =>
    thn (ho.run pins s3 σ H3 (fun o G => o = some (-1) ∧ G = H3) I3 ⟨1, rfl, -1, rfl, rfl, rfl⟩) fun vs s4 ⟨o, H4, I4, ps, eo, e4⟩ => ?_)
  subst el e2 eu e3 eo e4
  cases pl
  cases pu
  obtain ⟨tk, rfl⟩ : ∃ tk, vs = .int (-1) tk := by cases ps; exact ⟨_, rfl⟩
  have I5 : L2.Inv X pins σ H4 { s4 with heap := s4.heap.push { cls := .type "slice", data := .fields #[.none, .none, .int (-1) tk] } } := I4.kept (t' := s4.toks) fun b ob q => Heap.get?_push_of_some _ q
  obtain ⟨its, r, ht, hz⟩ := I5.tuple hx
  have hlen := r.length
  show wpAny (model X.prog X.w) X.A (subscriptTail e (.Slice none none (some (.UnaryOp .USub (.Constant (.int 1) k p1) p2)) p3) (.ref a) (.ref s4.heap.objs.size)) (EP X pins σ Q) X.xe { s4 with heap := s4.heap.push { cls := .type "slice", data := .fields #[.none, .none, .int (-1) tk] } }
  refine tail_any (ops := [.ref a, .ref s4.heap.objs.size]) ht.typeIs (PyProof.Rows.slot_tuple_getitem.lookup) ?_ (by with_unfolding_all rfl)
  refine item_back ht (Heap.IsSliceOf.new _ _ _ _) ?_ (by rw [List.size_toArray]; omega)
  obtain ⟨ob, e, hd, hf, J⟩ := frz_new (n := 0) I5 r.reverse (by rw [List.length_reverse]; exact hz)
  rw [e] at J hd
  exact ⟨.ref _, _, J, rfl, q _ _ hf hd⟩
end RR
end
section
set_option Elab.async false
set_option linter.all false
set_option maxRecDepth 100000
set_option maxHeartbeats 4000000
namespace PySem.AutoSeq1
theorem ext_by_tup (l : Addr) (xs : Array Value) (m : Nat) (b : Addr) (ys : Array Value) (k : Nat) (db : Option Addr) (ob : Array (Option Value)) (door : ¬(!xs.isEmpty && Builtin.List.listTooLong (xs.size + ys.size)) = true) (z1 : xs.size ≤ sizeLine) (z2 : xs.size + ys.size ≤ sizeLine + 1) :
    Meets (Builtin.«list.extend» ⟨[.ref l, .ref b], []⟩) (fun _ R s => s.heap.get? l = some { cls := .type "list", dict := none, data := .seq xs m, slots := #[] } ∧ s.heap.get? b = some { cls := .type "tuple", dict := db, data := .seq ys k, slots := ob } ∧ R (.ok (.ret Value.none)) { s with heap := s.heap.update l (Obj.mapSeq fun x => x ++ ys), toks := s.toks }) := .of_wp fun prog w A R s q => by
  obtain ⟨h0, g0, d0, t0, o0⟩ := s
  obtain ⟨el, eb, q⟩ := q
  have i1 := idx_int
  have i2 := sub_tuple_tuple
  have i3 := sub_list_list
  have i4 := sub_tuple_list
  have i5 := sub_list_tuple
  have z3 : (xs ++ ys).size ≤ sizeLine + 1 := by rw [Array.size_append]; exact z2
  wp_walk using (wpAny_updateSeq el rfl (hz := z1) (_hz' := z3)), wpAny_loadPart' el, wpAny_loadPart' eb
  exact ⟨_, rfl, q⟩
end PySem.AutoSeq1
namespace RR
open PySem PySem.Spec PyProof.Rows L2
def rExtT (K : PySem.W.Frag) : V → List V → Hp → VK → Prop := fun x vs H Q => ∃ l b xs zs, x = .ref l ∧ vs = [.ref b] ∧ H l = some (.lst xs) ∧ SqT K H b zs ∧ xs.length + zs.length ≤ sizeLine ∧ Q .non (upd H l (.lst (xs ++ zs)))
theorem mt_extT {X : Cx} : MtM X "list.extend" (rExtT X.K) := by
  intro pins s σ H x vs v us Q I rx rv h
  obtain ⟨l, b, xs, zs, rfl, rfl, hl, hb, hz, q⟩ := h
  cases rx
  obtain ⟨u, rfl, ru⟩ := rv.one
  cases ru
  obtain ⟨z, its, n, r, hlen, e⟩ := I.lstM hl
  obtain ⟨ys, r2, ⟨⟨oc, od, oa, os⟩, eb, hc, k, hd⟩, hy⟩ := I.tuple hb
  cases hc
  cases hd
  have l2 := r2.length
  have room : its.toArray.size + ys.toArray.size ≤ sizeLine := by rw [List.size_toArray, List.size_toArray]; omega
  have door : ¬ (!its.toArray.isEmpty && Builtin.List.listTooLong (its.toArray.size + ys.toArray.size)) = true := by rw [notLongL room, Bool.and_false]; exact Bool.false_ne_true
  refine call_meets F.slot_list_extend ⟨_, e, rfl⟩ F.entry_list_extend (F.args_list_extend_2 _ _) (PySem.AutoSeq1.ext_by_tup l its.toArray n b ys.toArray k od os door (by rw [List.size_toArray]; omega) (by omega)) ⟨e, eb, ?_⟩
  refine ⟨.non, _, I.lset (its' := its ++ ys) hl e (by simp) (r.append r2) ?_, rfl, q⟩
  rw [List.length_append]; omega
end RR
end
section
set_option Elab.async false
set_option linter.all false
set_option maxRecDepth 100000
set_option maxHeartbeats 4000000
namespace LW
open PySem PySem.Spec PyProof.Rows L2 DL LM
/-- more of what is built in -/
structure Bx (mg : Str → Option Value) : Prop extends Bt mg where
  zip : mg "zip" = none
  reversed : mg "reversed" = none
  set : mg "set" = none
  any : mg "any" = none
section
variable {P : Program} {W : World} {K : PySem.W.Frag} {mg : Str → Option Value} {base : Heap} {f : Addr} {fd : FuncData} {A A2 H H' H0 H1 H2 G G2 Hc : Hp} {σ : L2.St} {t te td tn tv t1 t2 : TE} {tr : TS} {ts : TS} {D : Ends} {tA : TA} {n i j : Nat} {p b : Addr} {xs ys : List V} {v : V} {d : PyData} {ds es : List PyData} {kvs : List (Key × V)}
/-! ### a def over data that are told by something -/
def spA (K : PySem.W.Frag) (n : Nat) {α : Type} (ar : α → List PyData) (Pre : α → Prop) (f : α → PyData) : Sp := fun vs H1 Q _ => ∃ (x : α) (H : Hp), vs.length = n ∧ Same H H1 ∧ DvA K H vs (ar x) ∧ Pre x ∧ ∀ v G H2, Pub H H1 G H2 → Dv K G v (f x) → Q v H2
theorem gd_callA {α : Type} {ar : α → List PyData} {Pre : α → Prop} {f : α → PyData} (x : α) (ga : GA K tA σ H A (ar x)) (hn : (ar x).length = n) (hp : Pre x) : GD K (tCall (spA K n ar Pre f) [] E0 tA) σ H A (f x) := fun H0 H1 p Q q => ga.to p fun vs G H2 p2 dv => by
  show spA K n ar Pre f (vs ++ []) H2 Q E0
  rw [List.append_nil]
  exact ⟨x, G, (DvA.len dv).trans hn, p2.gh, dv, hp, fun v G' H3 p3 dw => q v G' H3 (p2.trans p3) dw⟩
theorem fn_A {x qual : Str} {st : Stmt} {N ps : List Str} {k n : Nat} {α : Type} {ar : α → List PyData} {Pre : α → Prop} {g : α → PyData} (F : Fun K x qual st f fd) (S : FnScope N ps (defScope st)) (hn : n = ps.length)
    (hbody : ∀ (cdv : Value) (A : Around) (outer : List Env) (s : Shared) (H1 : Hp) (E : XK), Room k (A.deeper (envOfC qual (defScope st) s.heap.objs.size f cdv)) →
      ∃ t, PSs (cxOf CX0 P W K mg base N qual (defScope st) f cdv A outer s H1 E).nox (defBody st) t ∧ ∀ vs x H A, vs.length = n → Same H A → DvA K H vs (ar x) → Pre x → GB K t (start N vs) H A (fun d => d = g x)) : FnOk P W K mg base CX0 (k + 1) f fd ps (spA K n ar Pre g) := by
  refine F.ok S (fun vs H Q E h => ?_) (fun cdv A outer s H vs Q E hr h => ?_)
  · obtain ⟨_, _, hl, _⟩ := h
    rw [hl, hn]
  obtain ⟨x, H0, hl, sm, dv, hp, q⟩ := h
  obtain ⟨t, h1, h2⟩ := hbody cdv A outer s H E hr
  exact ⟨t, h1, h2 vs x H0 H hl sm dv hp H0 H (.refl sm) _ fun d v G H2 r p dv => by subst r; exact q v G H2 p dv⟩
theorem pt_trK {X : Cx} (K : PySem.W.Frag) {a : Expr} {ta : TE} (ha : PE X a ta) (hK : X.K = K := by rfl) (he : ∀ whole, isTrue a X.env whole = (do let v ← whole; standAt a.pos; holding [v] (truthy v)) := by intro _; rfl) : PT X a (tTr K ta) := by subst hK; exact pt_tr ha he
theorem pi_seqK {X : Cx} (K : PySem.W.Frag) {tg e : Expr} {te : TE} (h : PE X e te) (hK : X.K = K := by rfl) : PI X tg e (iSeq K te) := by subst hK; exact pi_seq h
theorem pe_fldK {X : Cx} (K : PySem.W.Frag) {e : Expr} {f : Str} {pos : Pos} {ta : TE} (he : PE X e ta) (hb : attributeBase e f X.env (eval e X.env) = eval e X.env) (hK : X.K = K := by rfl) : PE X (.Attribute e f pos) (tFld K ta f) := by subst hK; exact pe_fld he hb
theorem op_inK {X : Cx} (K : PySem.W.Frag) (hK : X.K = K := by rfl) : OpR X (compareOp .In) (rIn K false) := by subst hK; exact op_in_seq
theorem op_ninK {X : Cx} (K : PySem.W.Frag) (hK : X.K = K := by rfl) : OpR X (compareOp .NotIn) (rIn K true) := by subst hK; exact op_notIn_seq
theorem pg_tupK {X : Cx} (K : PySem.W.Frag) {es : List Expr} {k : Nat} {t : TGs} {n : Nat} {pos : Pos} (hc : X.calm = true) (h : PGs X es t) (hK : X.K = K := by rfl) (hn : (assignEach es X.env).length = n := by rfl) (hst : (assignEach es X.env).findIdx? (·.1) = none := by rfl) : PG X (.Tuple es k pos) (gTup K n t) := by subst hK; exact pg_tup hc h hn hst
/-! ### rows -/
theorem DvA.rev {vs : List V} {ds : List PyData} (h : DvA K H vs ds) : DvA K H vs.reverse ds.reverse := by
  induction vs generalizing ds with
  | nil => cases h; exact .nil
  | cons v vs ih =>
    cases h with
    | cons a r =>
      rw [List.reverse_cons, List.reverse_cons]
      exact DvA.app (ih r) (.cons a .nil)
theorem DvA.snoc {vs : List V} {ds : List PyData} {d : PyData} (h : DvA K H vs (ds ++ [d])) : ∃ us u, vs = us ++ [u] ∧ DvA K H us ds ∧ Dv K H u d := by
  induction ds generalizing vs with
  | nil =>
    obtain ⟨v, rfl, dv⟩ := DvA.inv1 h
    exact ⟨[], v, rfl, .nil, dv⟩
  | cons e es ih =>
    cases h with
    | cons a r =>
      obtain ⟨us, u, rfl, h1, h2⟩ := ih r
      exact ⟨_ :: us, u, rfl, .cons a h1, h2⟩
theorem gd_revT (g : GD K te σ H A (.tuple ds)) : GD K (RR.tRevT K te) σ H A (.tuple ds.reverse) := fun H0 H1 e Q q => g.to e fun v G H2 p dv => by
  obtain ⟨a, xs, rfl, s, da⟩ := Dv.tup_inv dv
  exact ⟨a, xs, rfl, seqT p.gh s, fun b ob hb hd => q (.ref b) _ _ (p.new hb _) (.tupF upd_same hd ((DvA.rev da).to (same_new (p.gh.free hb) _)))⟩
/-- a list from its end -/
theorem runs_rev {a : Addr} (s : SqL K G a xs) (h : DvA K G xs ds) : Runs K (Itv K a xs.length) G ds.reverse where
  go := fun i H e hi => by
    rw [List.length_reverse] at hi
    have hl := DvA.len h
    exact ⟨by omega, xs, xs[xs.length - 1 - i]'(by omega), e.seq s, List.getElem?_eq_getElem _⟩
  stop := fun i H e hi => by
    rw [List.length_reverse] at hi
    have hl := DvA.len h
    show xs.length ≤ i
    omega
  yld := fun i H x H' G' e e2 hi hy => by
    rw [List.length_reverse] at hi
    obtain ⟨rfl, hx⟩ := hy
    obtain ⟨d, hd, dx⟩ := DvA.getv h (hx xs ((e.trans e2).seq s))
    rw [DvA.len h] at hd
    exact ⟨d, G', by rw [List.getElem?_reverse hi]; exact hd, .refl e2, dx.to e⟩
theorem gi_rev (ga : GA K tA σ H A [.list ds]) : GI K (iRev K tA) σ H A ds.reverse := fun H0 H1 e R q => ga.to e fun vs G H2 p dv => by
  obtain ⟨v, rfl, d1⟩ := DvA.inv1 dv
  obtain ⟨a, xs, rfl, s, da⟩ := Dv.lst_inv d1
  exact ⟨a, xs, rfl, .inl (rd_same p.gh s), q _ G H2 p (runs_rev (.inl s) da)⟩
/-! ### one's own lists -/
theorem gt_own (g : GV te σ H A (.ref b)) (e : A b = some (.lst xs)) : GT (tTr K te) σ H A (!xs.isEmpty) := fun H0 H1 p Q q => g.to p fun G H2 p2 => ⟨_, .inl ⟨xs, .inl (.inl (p2.hh _ _ (p.hh _ _ e))), rfl⟩, q H2 (.idle p.gh p2.hh)⟩
theorem s_pop (w : Own H0 H1 G H p (.lst (xs ++ [v]))) (ho : σ[j]? = some (some (.ref p))) (k : ∀ H', Own H0 H1 G H' p (.lst xs) → H' = upd H p (.lst xs) → tr D (σ.set i (some v)) H') : tSeq (tAsg (tBM0 K "list" rPop (tVar j)) (gName i)) tr D σ H :=
  ⟨.ref p, ho, .inl ⟨rfl, _, SqL.of w.at_⟩, p, xs ++ [v], v, rfl, rfl, w.at_, by simp, by
    rw [List.dropLast_concat]
    exact k _ (w.put _) rfl⟩
theorem s_extT (w : Own H0 H1 G H p (.lst xs)) (ho : σ[j]? = some (some (.ref p))) (g : GD K te σ G H (.tuple ds)) (z : xs.length + ds.length ≤ sizeLine)
    (k : ∀ vs G' H' Hx, Pub G H G' Hx → H' = upd Hx p (.lst (xs ++ vs)) → Own H0 H1 G' H' p (.lst (xs ++ vs)) → DvA K G' vs ds → D.nx σ H') : tDrop (tBM K "list" (RR.rExtT K) (tVar j) (tCons te tNil)) D σ H :=
  ⟨.ref p, ho, .inl ⟨rfl, xs, SqL.of w.at_⟩, g.to (.refl w.gh) fun v G' H' P dv => by
    obtain ⟨a, zs, rfl, s, da⟩ := Dv.tup_inv dv
    exact ⟨p, a, xs, zs, rfl, rfl, (w.step P).at_, seqT P.gh s, by rw [DvA.len da]; exact z, k zs G' _ H' P rfl ((w.step P).put _) da⟩⟩
theorem s_appendX (w : Own H0 H1 G H p (.lst xs)) (ho : σ[j]? = some (some (.ref p))) (g : GD K te σ G H d) (z : xs.length < sizeLine) (k : ∀ v G' H' Hx, Pub G H G' Hx → H' = upd Hx p (.lst (xs ++ [v])) → Own H0 H1 G' H' p (.lst (xs ++ [v])) → Dv K G' v d → D.nx σ H') :
    tDrop (tBM K "list" rAppend (tVar j) (tCons te tNil)) D σ H := ⟨.ref p, ho, .inl ⟨rfl, xs, SqL.of w.at_⟩, g.to (.refl w.gh) fun v G' H' P dv => ⟨p, xs, v, rfl, rfl, (w.step P).at_, z, k v G' _ H' P rfl ((w.step P).put _) dv⟩⟩
/-- another own object stays -/
theorem Own.stay {o u : HO} (w : Own H0 H1 G Hc p o) (w2 : Own H0 H1 G (upd Hc b u) b u) (h : p ≠ b) : Own H0 H1 G (upd Hc b u) p o := ⟨w2.pub, by rw [upd_ne h]; exact w.at_, w.pg, w.p1⟩
/-! ### one's own dict of data by numbers -/
theorem gd_dnum (g : GV td σ H A (.ref b)) (e : A b = some (.dK kvs)) (gn : GD K tn σ H A (ofN n)) (hv : valV kvs (.inl (n : Int)) = some v) (dv : Dv K H v d) : GD K (tDGet td tn) σ H A d := fun H0 H1 p Q q => g.to p fun G H2 p2 => gn.to (p.trans p2) fun u G3 H3 p3 du => by
  have eu := Dv.int_inv du
  subst eu
  exact ⟨b, v, rfl, by rw [← hv]; exact DGet.k (k := .inl (n : Int)) (p3.hh _ _ (p2.hh _ _ (p.hh _ _ e))), q v G3 H3 (p2.trans p3) (dv.to (p.hg.trans (p2.hg.trans p3.hg)))⟩
theorem s_dnum (w : Own H0 H1 G H p (.dK kvs)) (ho : σ[j]? = some (some (.ref p))) (gv : GD K tv σ G H d) (gn : ∀ G' H', Pub G H G' H' → GD K tn σ G' H' (ofN n)) (z : kvs.length < sizeLine)
    (k : ∀ v G' H', Own H0 H1 G' H' p (.dK (putK kvs (.inl (n : Int)) v)) → Same G G' → Dv K G' v d → D.nx σ H') : sDPut (tVar j) tn tv D σ H := gv.to (.refl w.gh) fun v G2 H2 p2 dv => ⟨.ref p, ho, (gn G2 H2 p2).to (.refl (w.step p2).gh) fun u G3 H3 p3 du => by
  have eu := Dv.int_inv du
  subst eu
  have w3 := (w.step p2).step p3
  exact ⟨p, _, rfl, DPut.k (k := .inl (n : Int)) w3.at_ z, k v G3 _ (w3.put _) (p2.hg.trans p3.hg) (dv.to p3.hg)⟩⟩
end
end LW
end
section
set_option Elab.async false
set_option linter.all false
set_option maxRecDepth 100000
set_option maxHeartbeats 4000000
/-! zip of a tuple and a text -/
namespace RR
open PySem PySem.Spec PyProof.Rows L2 DL
/-- the items of the tuple at a and the signs of the text, in new pairs -/
def ItzTS (K : PySem.W.Frag) (a : Addr) (m : Nat) (z : Str) : It :=
  ⟨fun i H => ∃ (xs : List V) (x : V), SqT K H a xs ∧ xs.length = m ∧ xs[i]? = some x ∧ i < z.cps.size,
    fun i H v H' => ∃ T x c, v = .ref T ∧ H T = none ∧ z.cps[i]? = some c ∧ H' = upd H T (.tup [x, .str ⟨#[c]⟩]) ∧ (∀ xs, SqT K H a xs → xs[i]? = some x),
    fun i H => ∃ xs : List V, SqT K H a xs ∧ xs.length = m ∧ min m z.cps.size ≤ i⟩
theorem sepTS {a i1 i2 z TI TO : Addr} (D : PySem.ZipSep2 z TI TO i1 i2 [i1] [i2]) (h1 : a ≠ z) (h2 : a ≠ TO) (h3 : a ≠ i2) : PySem.ZipSep2 z TI TO i1 i2 [i1, a] [i2] :=
  { D with zf1 := by have := D.zf1; simp at this ⊢; exact ⟨this, fun q => h1 q.symm⟩, Tf1 := by have := D.Tf1; simp at this ⊢; exact ⟨this, fun q => h2 q.symm⟩, mem1 := by simp, sep2_1 := by have := D.sep2_1; simp at this ⊢; exact ⟨this, fun q => h3 q.symm⟩ }
theorem turn_zipTS {P : Program} {w : World} {K : PySem.W.Frag} {elts : List Expr} {kk : Nat} {tpos : Pos} {a z TI TO i1 i2 : Addr} {m : Nat} {x : Str} {tk : Tok} (D : PySem.ZipSep2 z TI TO i1 i2 [i1] [i2]) (da : a ≠ z ∧ a ≠ TI ∧ a ≠ TO ∧ a ≠ i1 ∧ a ≠ i2) :
    Turn P w K (.Tuple elts kk tpos) (ItzTS K a m x) [z, TI, TO, i1, i2] z (fun i h => i ≤ min m x.cps.size ∧ IsZip h z TI TO .none ∧ IsTupOf2 h TI (.ref i1) (.ref i2) ∧ (∃ x y, IsTupOf2 h TO x y) ∧ h.IsTupleIter i1 a i ∧ h.IsStrIter i2 (strIterType x) x tk i) where
  mem := by simp
  obj := fun i h st c hc => by
    obtain ⟨_, hz, hTI, ⟨x, y, hTO⟩, ⟨o1, e1, _, d1⟩, ⟨o2, e2, _, d2⟩⟩ := st
    have e' : c = z ∨ c = TI ∨ c = TO ∨ c = i1 ∨ c = i2 := by simpa using hc
    rcases e' with q | q | q | q | q
    · rw [q]; exact ⟨_, hz, fun v q => nomatch q⟩
    · rw [q]; exact ⟨_, hTI, fun v q => nomatch q⟩
    · rw [q]; exact ⟨_, hTO, fun v q => nomatch q⟩
    · rw [q]; exact ⟨o1, e1, fun v q => by rw [d1] at q; cases q⟩
    · rw [q]; exact ⟨o2, e2, fun v q => by rw [d2] at q; cases q⟩
  keep := fun i h h' st k => by
    obtain ⟨him, hz, hTI, ⟨x, y, hTO⟩, h1, ⟨o2, e2, r2⟩⟩ := st
    exact ⟨him, k z (by simp) _ hz, k TI (by simp) _ hTI, ⟨x, y, k TO (by simp) _ hTO⟩, h1.at fun o q => k i1 (by simp) o q, ⟨o2, k i2 (by simp) _ e2, r2⟩⟩
  item := by
    intro X hP hw hK hc i pins s σ H E I hf st hg
    subst hP hw hK
    obtain ⟨him, hz, hTI, hTO, h1, h2⟩ := st
    obtain ⟨xs, x0, hq, hm, hx, hi⟩ := hg
    obtain ⟨its, rv, p, _⟩ := I.tuple hq
    obtain ⟨u, hu, ru⟩ := rv.get hx
    have hil : i < its.toArray.size := by
      have := (List.getElem?_eq_some_iff.mp hu).1
      simpa using this
    have hd : X.A.in1.handled = none := I.ok.hd hc
    have W := PySem.GoesN.zip2 (elts := elts) (x1 := kk) (pos := tpos) (sepTS D da.1 da.2.2.1 da.2.2.2.2) (PySem.Draws.tuple (prog := X.prog) (w := X.w) hd i1 a da.2.2.2.1 its.toArray) (PySem.Draws.text (prog := X.prog) (w := X.w) hd i2 x tk)
    refine W.goes i s (fun v s2 => ∃ x', ∃ H', Inv X pins σ H' s2 ∧ RelV x' v ∧ (ItzTS X.K a m x).yld i H x' H' ∧ (i + 1 ≤ min m x.cps.size ∧ IsZip s2.heap z TI TO .none ∧ IsTupOf2 s2.heap TI (.ref i1) (.ref i2) ∧ (∃ x y, IsTupOf2 s2.heap TO x y) ∧ s2.heap.IsTupleIter i1 a (i + 1) ∧ s2.heap.IsStrIter i2 (strIterType x) x tk (i + 1)) ∧ ∀ b ∈ [z, TI, TO, i1, i2], H' b = none) E (Nat.lt_min.mpr ⟨hil, hi⟩) ⟨hz, hTI, hTO, ⟨h1, p⟩, h2⟩ fun v h' t' hY st' hk ht => ?_
    obtain ⟨T, y1, y2, rfl, hT, hy1, ⟨c, t2, hc2, rfl⟩, hTup⟩ := hY
    have hlt : ∀ b ∈ [z, TI, TO, i1, i2], b < s.heap.objs.size := fun b hb => by
      obtain ⟨o1, e1, _⟩ := h1
      obtain ⟨o2, e2, _⟩ := h2
      obtain ⟨x1, x2, e3⟩ := hTO
      have e' : b = z ∨ b = TI ∨ b = TO ∨ b = i1 ∨ b = i2 := by simpa using hb
      rcases e' with q | q | q | q | q
      · rw [q]; exact Heap.lt_size hz
      · rw [q]; exact Heap.lt_size hTI
      · rw [q]; exact Heap.lt_size e3
      · rw [q]; exact Heap.lt_size e1
      · rw [q]; exact Heap.lt_size e2
    have hy1' : its[i]? = some y1 := by simpa using hy1
    rw [hu] at hy1'
    cases hy1'
    have new : ObjOk X.prog X.w (upd H T (.tup [x0, .str ⟨#[c]⟩])) h' T (.tup [x0, .str ⟨#[c]⟩]) := ⟨by show 2 ≤ sizeLine; rw [sizeLine_eq]; decide, [u, .str ⟨#[c]⟩ t2], .cons ru (.cons ⟨_, rfl⟩ .nil), hTup⟩
    have I1 : Inv X pins σ (upd H T (.tup [x0, .str ⟨#[c]⟩])) { s with heap := h', toks := t' } :=
      I.turnedNew (t' := t') (ch := [z, TI, TO, i1, i2]) (fun b o hb q => hk b o (fun z => hb (by simp at z ⊢; rcases z with z | z | z | z <;> simp [z])) q) hf hT new
    refine ⟨.ref T, _, I1, rfl, ⟨T, x0, c, rfl, I.hok.fresh hT, hc2, rfl, fun l hl => by rw [I.tuple_inj hl hq]; exact hx⟩, ⟨by have := (List.getElem?_eq_some_iff.mp hx).1; omega, st'.1, st'.2.1, st'.2.2.1, st'.2.2.2.1.1, st'.2.2.2.2⟩, fun b hb => ?_⟩
    rw [upd_ne (Nat.ne_of_lt (Nat.lt_of_lt_of_le (hlt b hb) hT))]
    exact (hf b hb).1
  done := by
    intro X hP hw hK hc i pins s σ H E I hf st hg
    subst hP hw hK
    obtain ⟨him, hz, hTI, hTO, h1, h2⟩ := st
    obtain ⟨xs, hq, hm, hi⟩ := hg
    obtain ⟨its, rv, p, _⟩ := I.tuple hq
    have hlen := rv.length
    have hn : i = min its.toArray.size x.cps.size := by rw [List.size_toArray, ← hlen]; omega
    have hd : X.A.in1.handled = none := I.ok.hd hc
    have W := PySem.GoesN.zip2 (elts := elts) (x1 := kk) (pos := tpos) (sepTS D da.1 da.2.2.1 da.2.2.2.2) (PySem.Draws.tuple (prog := X.prog) (w := X.w) hd i1 a da.2.2.2.1 its.toArray) (PySem.Draws.text (prog := X.prog) (w := X.w) hd i2 x tk)
    subst hn
    exact W.stops s _ E ⟨hz, hTI, hTO, ⟨h1, p⟩, h2⟩ fun h' t' hk ht => I.turnedL (t' := t') (ch := [z, TI, TO, i1, i2]) (fun b o hb q => hk b o (fun z => hb (by simp at z ⊢; rcases z with z | z | z | z <;> simp [z])) q) hf
  self := fun A i s Q E st h => wpAny_pyIter_zip st.2.1 h
def iZipTS (K : PySem.W.Frag) (ta : TA) : TI := fun σ H R => ta σ H fun vs H1 => ∃ a x xs, vs = [.ref a, .str x] ∧ SqT K H1 a xs ∧ R (ItzTS K a xs.length x) H1
theorem pi_zipTS {X : Cx} {e e2 : Expr} {ta : TA} {p pos tpos : Pos} {elts : List Expr} {kk : Nat} (hg : Gl X "zip") (hm : X.mg "zip" = none) (ha : PA X [e, e2] ta)
    (hs : starEach [e, e2] X.env = (false, eval e X.env) :: starEach [e2] X.env := by rfl) (hpl : (backTo pos (starEach [e2] X.env)).any (·.1) = false := by rfl) :
    PI X (.Tuple elts kk tpos) (.Call (.Name "zip" p) [e, e2] [] pos) (iZipTS X.K ta) := by
  refine ⟨fun pins s σ H R I h => ?_⟩
  refine Call_ (ld_blt I hg hm PyProof.Rows.boot_zip (PyProof.Rows.callWith_type1 (thn (ha.run pos pins s σ H _ I h) fun us s1 ⟨vs, H1, I1, r1, q1⟩ => ?_) hs hpl))
  obtain ⟨a, x, xs, ex, hq, q⟩ := q1
  subst ex
  cases r1 with
  | cons r rr =>
    cases rr with
    | cons r' rr =>
      cases rr
      cases r
      obtain ⟨t, rfl⟩ := r'
      obtain ⟨its, rv, p1, _⟩ := I1.tuple hq
      obtain ⟨o1, ho1, _⟩ := id p1
      have hal : a < s1.heap.objs.size := Heap.lt_size ho1
      have fresh5 : ∀ c, c ∈ [s1.heap.objs.size + 4, s1.heap.objs.size + 2, s1.heap.objs.size + 3, s1.heap.objs.size, s1.heap.objs.size + 1] → FpOk X pins H1 c := fun c hcm => by
        have e' : c = s1.heap.objs.size + 4 ∨ c = s1.heap.objs.size + 2 ∨ c = s1.heap.objs.size + 3 ∨ c = s1.heap.objs.size ∨ c = s1.heap.objs.size + 1 := by simpa using hcm
        have hle : s1.heap.objs.size ≤ c := by
          rcases e' with z | z | z | z | z
          · rw [z]; exact Nat.le_add_right _ _
          · rw [z]; exact Nat.le_add_right _ _
          · rw [z]; exact Nat.le_add_right _ _
          · rw [z]; exact Nat.le_refl _
          · rw [z]; exact Nat.le_add_right _ _
        exact I1.fpOk hle (I1.hok.fresh hle)
      refine PySem.zip_begins2 (PySem.begins_tuple a its.toArray) (PySem.begins_text x t) p1 trivial fun h' hz hTI hTO h1 h2 hsz hk => wpAny_pyIter_zip hz ?_
      have I2 : Inv X pins σ H1 { s1 with heap := h' } := I1.kept (t' := s1.toks) hk
      have ne : ∀ k : Nat, a ≠ s1.heap.objs.size + k := fun k => Nat.ne_of_lt (Nat.lt_of_lt_of_le hal (Nat.le_add_right _ _))
      exact ⟨s1.heap.objs.size + 4, [s1.heap.objs.size + 4, s1.heap.objs.size + 2, s1.heap.objs.size + 3, s1.heap.objs.size, s1.heap.objs.size + 1], _, _, H1, rfl, I2, turn_zipTS (m := xs.length) (tk := t) (PySem.zip_sep2 (N := s1.heap.objs.size) (fp1 := []) (fp2 := []) (fun b hb => by cases hb) fun b hb => by cases hb) ⟨ne 4, ne 2, ne 3, ne 0, ne 1⟩, ⟨Nat.zero_le _, hz, hTI, ⟨_, _, hTO⟩, ⟨_, h1, rfl, rfl⟩, ⟨_, h2, rfl, rfl⟩⟩, fresh5, q⟩
/-- the data of such a walk -/
theorem runs_zipTS {K : PySem.W.Frag} {G : Hp} {a : Addr} {x : Str} {xs : List V} {ds : List PyData} (s : SqT K G a xs) (h : DvA K G xs ds) : DL.Runs K (ItzTS K a xs.length x) G (zipD ds ((sgs x).map .str)) where
  go := fun i H e hi => by
    have z : i < ds.length ∧ i < x.cps.size := by simp [zipD, sgs] at hi; omega
    exact ⟨xs, xs[i]'(by rw [DvA.len h]; exact z.1), seqT e s, rfl, List.getElem?_eq_getElem _, z.2⟩
  stop := fun i H e hi => by
    have z : min ds.length x.cps.size ≤ i := by simpa [zipD, sgs] using hi
    exact ⟨xs, seqT e s, rfl, by rw [DvA.len h]; exact z⟩
  yld := fun i H v H' G' e e2 hi hy => by
    obtain ⟨T, y, c, rfl, hn, hc, rfl, hx⟩ := hy
    obtain ⟨da, e3, dx⟩ := DvA.getv h (hx xs (seqT (e.trans e2) s))
    obtain ⟨p, dz⟩ := zip_yld e2 hn (dx.to e) (Dv.str ⟨#[c]⟩) (pairs_no2 rfl)
    refine ⟨_, _, zipD_get e3 ?_, p, dz⟩
    have hc' : x.cps.toList[i]? = some c := by rw [Array.getElem?_toList]; exact hc
    unfold sgs
    rw [List.getElem?_map, List.getElem?_map, hc']
    rfl
end RR
namespace DL
open PySem PySem.Spec PyProof.Rows L2
theorem gi_zipTS {K : PySem.W.Frag} {A H : Hp} {σ : L2.St} {tA : TA} {ds : List PyData} {x : Str} (ga : GA K tA σ H A [.tuple ds, .str x]) : GI K (RR.iZipTS K tA) σ H A (zipD ds ((sgs x).map .str)) := fun H0 H1 e R q => ga.to e fun vs G H2 p dv => by
  obtain ⟨v, w, rfl, d1, d2⟩ := DvA.inv2 dv
  obtain ⟨a, xs, rfl, s1, da⟩ := Dv.tup_inv d1
  have e2 := Dv.str_inv d2
  subst e2
  exact ⟨a, x, xs, rfl, seqT p.gh s1, q _ G H2 p (RR.runs_zipTS s1 da)⟩
end DL
end
section
set_option Elab.async false
set_option linter.all false
set_option maxRecDepth 100000
set_option maxHeartbeats 4000000
/-! d.get(k) of a written dict with text keys -/
namespace RR
open PySem PySem.Spec PyProof.Rows L2 DL
/-- the written dict at a holds (none: lacks) r at x -/
def WDct (K : PySem.W.Frag) (w : World) (a : Addr) (x : Str) (r : Option V) : Prop :=
  ∃ es n ru, K.lookup a = some ⟨.type "dict", none, .dict es n, #[]⟩ ∧ PySem.W.KeysLit w.params es.toList ∧ (a == sysModules) = false ∧ PySem.W.nsIn K a x = some ru ∧ RelO r ru
def tWGet1 (K : PySem.W.Frag) (w : World) (td ty : TE) : TE := fun σ H Q => td σ H fun x H1 => ∃ a, x = .ref a ∧ (∃ es n, K.lookup a = some ⟨.type "dict", none, .dict es n, #[]⟩ ∧ (a == sysModules) = false) ∧ ty σ H1 fun y H2 => ∃ z o, y = .str z ∧ WDct K w a z o ∧ Q (o.getD .non) H2
theorem pe_wget1 {X : Cx} {o e : Expr} {apos cpos : Pos} {td ty : TE} (ho : PE X o td) (he : PE X e ty) (m : M1 X o "get" apos e cpos) : PE X (.Call (.Attribute o "get" apos) [e] [] cpos) (tWGet1 X.K X.w td ty) := by
  refine ⟨fun pins s σ H Q I h => ?_⟩
  refine wpAny_Call_method m.base m.few m.line PySem.F.plainAttrs_dict PySem.F.slot_dict_get PySem.F.type_dict_get (thn (ho.run pins s σ H _ I h) fun u s1 ⟨x, H1, I1, rx, a, ex, ⟨es, n, hl, hd⟩, q1⟩ => ?_)
  subst ex
  obtain rfl : u = Value.ref a := rx
  have g := I1.kIn _ _ hl
  refine ⟨⟨_, g, rfl⟩, fun b q => by cases q; exact ⟨_, g, rfl⟩, ?_⟩
  rw [m.trees]
  refine Calls.callWith_builtin rfl (Calls.evalArgs_plain (Calls.spliced_cons (thn (he.run pins s1 σ H1 _ I1 q1) fun iv s2 ⟨y, H2, I2, ry, z, ov, ey, ⟨es2, n2, ru, hl2, hk, hd2, hf, rr⟩, q2⟩ => Calls.spliced_nil ?_)))
  subst ey
  obtain ⟨t, rfl⟩ := ry
  have hm := PySem.W.mapOf_K (prog := X.prog) (w := X.w) I2.kIn hl2 hk
  refine call_meetsIn PySem.F.slot_dict_get hm.typeIs PySem.F.entry_dict_get (PySem.F.args_dict_get_2 _ _) (meets_dict_get (strKind X.prog X.w) a (strKind_is X.prog X.w z t) hd2) ⟨_, hm, ?_⟩
  rw [PySem.W.find_K hl2 hf]
  exact ⟨_, H2, I2.tok _, RelO.getD (d := .non) (d' := .none) rr (show RelV V.non Value.none from rfl), q2⟩
end RR
namespace DL
open PySem PySem.Spec PyProof.Rows L2
section
variable {K : PySem.W.Frag} {w : World} {A H : Hp} {σ : L2.St} {t te : TE}
/-- a table of texts by texts -/
def tabO (l : List (Str × Str)) (x : Str) : Option Str := (l.find? fun p => decide (p.1 = x)).map (·.2)
def oD : Option Str → PyData
  | none => .none
  | some x => .str x
/-- the written dict at a is the table -/
def IsTab (K : PySem.W.Frag) (w : World) (a : Addr) (l : List (Str × Str)) : Prop := ∃ es n, K.lookup a = some ⟨.type "dict", none, .dict es n, #[]⟩ ∧ PySem.W.KeysLit w.params es.toList ∧ (a == sysModules) = false ∧ Paired (fun (e : DictEntry) (p : Str × Str) => (∃ t, e.key = .str p.1 t) ∧ ∃ t, e.val = .str p.2 t) es.toList l
theorem isTab_find : ∀ {es : List DictEntry} {l : List (Str × Str)}, Paired (fun (e : DictEntry) (p : Str × Str) => (∃ t, e.key = .str p.1 t) ∧ ∃ t, e.val = .str p.2 t) es l → ∀ x, RelO ((tabO l x).map V.str) ((es.find? fun d => d.key.isStr x).map (·.val)) := fun {es l} h x => by
  induction h with
  | nil => exact True.intro
  | @cons e p es l hp h ih =>
    obtain ⟨⟨t, e1⟩, ⟨u, e2⟩⟩ := hp
    have k : e.key.isStr x = decide (p.1 = x) := by
      rw [e1]
      show (p.1 == x) = _
      rw [Bool.eq_iff_iff]; simp
    unfold tabO
    rw [List.find?_cons, List.find?_cons, k]
    cases hc : decide (p.1 = x) with
    | true => exact (show RelV (.str p.2) e.val from ⟨u, e2⟩)
    | false => exact ih
theorem isTab_w {a : Addr} {l : List (Str × Str)} (h : IsTab K w a l) (x : Str) : RR.WDct K w a x ((tabO l x).map V.str) := by
  obtain ⟨es, n, hl, hk, hd, hp⟩ := h
  refine ⟨es, n, _, hl, hk, hd, ?_, isTab_find hp x⟩
  unfold PySem.W.nsIn
  rw [hl]
  have hr : es.toList.any (fun e => e.refKey) = false := List.any_eq_false.mpr fun e he => by
    obtain ⟨y, t, e1, _⟩ := hk.all e he
    unfold DictEntry.refKey
    rw [e1]
    exact Bool.false_ne_true
  show (match es.toList.find? (fun e => e.key.isStr x) with | some e => some (some e.val) | none => if es.toList.any (fun e => e.refKey) = true then none else some none) = some ((es.toList.find? fun d => d.key.isStr x).map (·.val))
  cases es.toList.find? (fun e => e.key.isStr x) with
  | some e => rfl
  | none => rw [hr]; rfl
theorem gd_wget {a : Addr} {l : List (Str × Str)} {x : Str} (h : IsTab K w a l) (g : GD K te σ H A (.str x)) : GD K (RR.tWGet1 K w (tC (.ref a)) te) σ H A (oD (tabO l x)) := fun H0 H1 e Q q => by
  obtain ⟨es, n, hl, hk, hd, hp⟩ := id h
  refine ⟨a, rfl, ⟨es, n, hl, hd⟩, g.to e fun v G H2 p dv => ⟨x, _, Dv.str_inv dv, isTab_w h x, ?_⟩⟩
  have e2 : Dv K G ((Option.map V.str (tabO l x)).getD V.non) (oD (tabO l x)) := by
    cases tabO l x with
    | none => exact .non
    | some y => exact .str y
  exact q _ G H2 p e2
end
end DL
end
section
set_option Elab.async false
set_option linter.all false
set_option maxRecDepth 100000
set_option maxHeartbeats 4000000
/-! tests of queries as data -/
namespace LM
open PySem DL
inductive Tst
  | leaf (w : Str) (as : List Str)
  | un (w : Str) (t : Tst)
  | many (w : Str) (ts : List Tst)
namespace Tst
mutual
def toD : Tst → PyData
  | leaf w as => .tuple (.str w :: as.map .str)
  | un w t => .tuple [.str w, toD t]
  | many w ts => .tuple [.str w, .tuple (toDs ts)]
def toDs : List Tst → List PyData
  | [] => []
  | t :: ts => toD t :: toDs ts
end
theorem toDs_eq : ∀ ts : List Tst, toDs ts = ts.map toD
  | [] => rfl
  | t :: ts => by rw [toDs, toDs_eq ts]; rfl
theorem toD_leaf {w : Str} {as : List Str} : toD (leaf w as) = .tuple (.str w :: as.map .str) := by rw [toD]
theorem toD_un {w : Str} {t : Tst} : toD (un w t) = .tuple [.str w, toD t] := by rw [toD]
theorem toD_many {w : Str} {ts : List Tst} : toD (many w ts) = .tuple [.str w, .tuple (ts.map toD)] := by rw [toD, toDs_eq]
end Tst
def dAt (ds : List Int) (i : Nat) : Int := ds.getD i 0
def sAt (l : List Str) (i : Int) : Str := l.getD i.toNat ""
theorem sAt_all {l : List Str} {p : Str → Prop} (h : ∀ x ∈ l, p x) (hd : p "") (i : Int) : p (sAt l i) := by
  unfold sAt
  rw [List.getD_eq_getElem?_getD]
  cases e : l[i.toNat]? with
  | none => exact hd
  | some x => exact h x (List.mem_of_getElem? e)
def ownT (ds : List Int) : Tst :=
  let way := dAt ds 0 % 9
  if way < 3 then .leaf "name" [sAt ["a", "b", "c"] (dAt ds 1 % 3)]
  else if way = 3 then .leaf "mark" [sAt ["m", "n"] (dAt ds 1 % 2)]
  else if way < 6 then .leaf "value" [sAt ["m", "n"] (dAt ds 1 % 2), sAt ["", "1", "x"] (dAt ds 2 % 3)]
  else if way = 6 then .leaf "text" [sAt ["x", "y", ""] (dAt ds 1 % 3)]
  else if way = 7 then .leaf "any" [] else .leaf "first" []
def rot (k : Nat) (ds : List Int) : List Int := ds.drop k ++ ds.take k
def lawT : Nat → List Int → Bool → Tst
  | 0, ds, _ => ownT ds
  | n + 1, ds, back =>
    let way := dAt ds 3 % 14
    if way < 3 then ownT ds
    else if way < 5 then .un "not" (lawT n (rot 5 ds) back)
    else if way < 9 then .un (sAt ["under", "in", "next", "behind"] (way - 5)) (lawT n (rot 5 ds) back)
    else if way < 12 then .many (if way < 11 then "both" else "one") [lawT n (rot 5 ds) back, lawT n (rot 3 (rot 5 ds)) back]
    else if back = true then ownT ds
    else if way = 12 then .un (sAt ["over", "has"] (dAt ds 4 % 2)) (lawT n (rot 5 ds) back)
    else .leaf (sAt ["last", "empty"] (dAt ds 4 % 2)) []
theorem rot_len (k : Nat) (ds : List Int) (h : k ≤ ds.length) : (rot k ds).length = ds.length := by
  unfold rot
  rw [List.length_append, List.length_drop, List.length_take]
  omega
/-! ### what a test is -/
def ARGS : List (Str × Str) := [("any", ""), ("name", "n"), ("mark", "n"), ("value", "ns"), ("text", "s"), ("first", ""), ("last", ""), ("empty", ""), ("not", "t"), ("both", "p"), ("one", "p"), ("under", "t"), ("in", "t"), ("next", "t"), ("behind", "t"), ("over", "t"), ("has", "t")]
def lawL0 : List Str := ["any", "first", "last", "empty"]
def lawL1 : List Str := ["name", "mark"]
def lawL4 : List Str := ["both", "one"]
def lawL5 : List Str := ["not", "under", "in", "next", "behind", "over", "has"]
def lawKind (w : Str) : Nat := if w ∈ lawL0 then 0 else if w ∈ lawL1 then 1 else if w = "text" then 2 else if w = "value" then 3 else if w ∈ lawL4 then 4 else if w ∈ lawL5 then 5 else 6
def kindSig : Nat → Option Str
  | 0 => some ""
  | 1 => some "n"
  | 2 => some "s"
  | 3 => some "ns"
  | 4 => some "p"
  | 5 => some "t"
  | _ => none
theorem tab_kind (w : Str) : tabO ARGS w = kindSig (lawKind w) := by
  by_cases h : w ∈ ARGS.map (·.1)
  · simp only [ARGS, List.map_cons, List.map_nil, List.mem_cons, List.mem_nil_iff, or_false] at h
    rcases h with h | h | h | h | h | h | h | h | h | h | h | h | h | h | h | h | h <;> subst h <;> decide +kernel
  · have e1 : tabO ARGS w = none := by
      unfold tabO
      rw [List.find?_eq_none.mpr fun p hp => ?_]; rfl
      intro z
      exact h (List.mem_map.mpr ⟨p, hp, of_decide_eq_true z⟩)
    have m : ∀ l : List Str, (∀ x ∈ l, x ∈ ARGS.map (·.1)) → w ∉ l := fun l hl z => h (hl w z)
    have e2 : lawKind w = 6 := by
      unfold lawKind
      rw [if_neg (m lawL0 (by decide +kernel)), if_neg (m lawL1 (by decide +kernel)), if_neg (fun z => m ["text"] (by decide +kernel) (by rw [z]; simp)), if_neg (fun z => m ["value"] (by decide +kernel) (by rw [z]; simp)), if_neg (m lawL4 (by decide +kernel)), if_neg (m lawL5 (by decide +kernel))]
    rw [e1, e2]; rfl
/-- of a text: short, without the percent sign -/
def clS (s : Str) : Prop := s.length ≤ 1000 ∧ ∀ c ∈ s.cps.toList, c ≠ 37 ∧ c < 0x110000
def strOk (d : PyData) : Prop := ∀ s, d = .str s → clS s
def Cl : Nat → PyData → Prop
  | 0, _ => True
  | n + 1, d => strOk d ∧ match d with
    | .none => True
    | .bool _ => True
    | .int _ => True
    | .str _ => True
    | .list ds => ds.length ≤ 1000
    | .tuple [] => True
    | .tuple (.str w :: r) => clS w ∧ r.length ≤ 1000 ∧ ∀ x ∈ r, strOk x ∧ if lawKind w = 4 then ∀ ys, x = .tuple ys → ys.length ≤ 1000 ∧ ∀ y ∈ ys, Cl n y else Cl n x
    | .tuple (.int _ :: r) => r.length ≤ 1000
    | _ => False
instance (s : Str) : Decidable (clS s) := inferInstanceAs (Decidable (s.length ≤ 1000 ∧ ∀ c ∈ s.cps.toList, c ≠ 37 ∧ c < 0x110000))
def Clean0 (d : PyData) : Prop := ∀ n, Cl n d
theorem clean0_un {w : Str} {d : PyData} (hw : clS w) (h4 : lawKind w ≠ 4) (hd : Clean0 d) : Clean0 (.tuple [.str w, d])
  | 0 => trivial
  | n + 1 => ⟨(fun s e => nomatch e), hw, by show 1 ≤ 1000; decide, fun x hx => by
    rw [List.mem_singleton.mp hx, if_neg h4]
    refine ⟨fun s e => ?_, hd n⟩
    exact (hd 1).1 s e⟩
theorem clean0_strs {w : Str} {as : List Str} (hw : clS w) (h4 : lawKind w ≠ 4) (hl : as.length ≤ 1000) (ha : ∀ a ∈ as, clS a) : Clean0 (.tuple (.str w :: as.map .str))
  | 0 => trivial
  | n + 1 => ⟨(fun s e => nomatch e), hw, by rw [List.length_map]; exact hl, fun x hx => by
    obtain ⟨a, h, rfl⟩ := List.mem_map.mp hx
    have z : strOk (.str a) := fun s e => by cases e; exact ha a h
    rw [if_neg h4]
    refine ⟨z, ?_⟩
    cases n with
    | zero => trivial
    | succ n => exact ⟨z, trivial⟩⟩
theorem clean0_many {w : Str} {ds : List PyData} (hw : clS w) (h4 : lawKind w = 4) (hl : ds.length ≤ 1000) (ha : ∀ a ∈ ds, Clean0 a) : Clean0 (.tuple [.str w, .tuple ds])
  | 0 => trivial
  | n + 1 => ⟨(fun s e => nomatch e), hw, by show 1 ≤ 1000; decide, fun x hx => by
    rw [List.mem_singleton.mp hx, if_pos h4]
    exact ⟨(fun s e => nomatch e), fun ys e => by cases e; exact ⟨hl, fun y hy => ha y hy n⟩⟩⟩
theorem clean0_str {s : Str} (h : clS s) : Clean0 (.str s)
  | 0 => trivial
  | n + 1 => ⟨fun s e => by cases e; exact h, trivial⟩
theorem clean0_int {i : Int} : Clean0 (.int i)
  | 0 => trivial
  | n + 1 => ⟨fun s e => (nomatch e), trivial⟩
theorem clean0_lst {ds : List PyData} (h : ds.length ≤ 1000) : Clean0 (.list ds)
  | 0 => trivial
  | n + 1 => ⟨fun s e => (nomatch e), h⟩
theorem clean0_nil : Clean0 (.tuple [])
  | 0 => trivial
  | n + 1 => ⟨fun s e => (nomatch e), trivial⟩
def Clean (d : PyData) : Prop := Clean0 d ∧ d.canLay0 = true
theorem lay_str {s : Str} (h : clS s) : (PyData.str s).canLay0 = true := by
  unfold PyData.canLay0 PyData.strOk
  rw [← Array.all_toList]
  exact List.all_eq_true.mpr fun c hc => decide_eq_true (h.2 c hc).2
theorem lay_all : ∀ {ds : List PyData}, (∀ d ∈ ds, d.canLay0 = true) → PyData.canLayAll0 ds = true
  | [], _ => by unfold PyData.canLayAll0; rfl
  | d :: ds, h => by
    unfold PyData.canLayAll0
    rw [h d List.mem_cons_self, lay_all fun x hx => h x (List.mem_cons_of_mem _ hx)]; rfl
theorem lay_tup {ds : List PyData} (h : ∀ d ∈ ds, d.canLay0 = true) : (PyData.tuple ds).canLay0 = true := by unfold PyData.canLay0; exact lay_all h
theorem lay_lst {ds : List PyData} (h : ∀ d ∈ ds, d.canLay0 = true) : (PyData.list ds).canLay0 = true := by unfold PyData.canLay0; exact lay_all h
theorem lay_inv : ∀ {ds : List PyData}, PyData.canLayAll0 ds = true → ∀ d ∈ ds, d.canLay0 = true
  | [], _, _, h => nomatch h
  | d :: ds, h, x, hx => by
    unfold PyData.canLayAll0 at h
    rw [Bool.and_eq_true] at h
    rcases List.mem_cons.mp hx with rfl | hx
    · exact h.1
    · exact lay_inv h.2 x hx
theorem lay_tup_inv {ds : List PyData} (h : (PyData.tuple ds).canLay0 = true) : ∀ d ∈ ds, d.canLay0 = true := by unfold PyData.canLay0 at h; exact lay_inv h
theorem clean_un {w : Str} {d : PyData} (hw : clS w) (h4 : lawKind w ≠ 4) (hd : Clean d) : Clean (.tuple [.str w, d]) := ⟨clean0_un hw h4 hd.1, lay_tup fun x hx => by
  simp only [List.mem_cons, List.mem_nil_iff, or_false] at hx
  rcases hx with rfl | rfl
  · exact lay_str hw
  · exact hd.2⟩
theorem clean_strs {w : Str} {as : List Str} (hw : clS w) (h4 : lawKind w ≠ 4) (hl : as.length ≤ 1000) (ha : ∀ a ∈ as, clS a) : Clean (.tuple (.str w :: as.map .str)) := ⟨clean0_strs hw h4 hl ha, lay_tup fun x hx => by
  rcases List.mem_cons.mp hx with rfl | hx
  · exact lay_str hw
  · obtain ⟨a, h, rfl⟩ := List.mem_map.mp hx
    exact lay_str (ha a h)⟩
theorem clean_many {w : Str} {ds : List PyData} (hw : clS w) (h4 : lawKind w = 4) (hl : ds.length ≤ 1000) (ha : ∀ a ∈ ds, Clean a) : Clean (.tuple [.str w, .tuple ds]) := ⟨clean0_many hw h4 hl fun a h => (ha a h).1, lay_tup fun x hx => by
  simp only [List.mem_cons, List.mem_nil_iff, or_false] at hx
  rcases hx with rfl | rfl
  · exact lay_str hw
  · exact lay_tup fun a h => (ha a h).2⟩
theorem clean_str {s : Str} (h : clS s) : Clean (.str s) := ⟨clean0_str h, lay_str h⟩
theorem clean_int {i : Int} : Clean (.int i) := ⟨clean0_int, by unfold PyData.canLay0; rfl⟩
theorem clean_lst {ds : List PyData} (h : ds.length ≤ 1000) (ha : ∀ a ∈ ds, a.canLay0 = true) : Clean (.list ds) := ⟨clean0_lst h, lay_lst ha⟩
theorem clean_nil : Clean (.tuple []) := ⟨clean0_nil, lay_tup fun _ h => nomatch h⟩
theorem clean_own (ds : List Int) : Clean (ownT ds).toD := by
  have p : ∀ {l : List Str} {i : Int}, (∀ x ∈ l, clS x) → clS (sAt l i) := fun h => sAt_all h (by decide +kernel) _
  unfold ownT
  dsimp only
  split
  · rw [Tst.toD_leaf]
    exact clean_strs (by decide +kernel) (by decide +kernel) (by show 1 ≤ 1000; decide) fun a ha => by rw [List.mem_singleton.mp ha]; exact p (by decide +kernel)
  split
  · rw [Tst.toD_leaf]
    exact clean_strs (by decide +kernel) (by decide +kernel) (by show 1 ≤ 1000; decide) fun a ha => by rw [List.mem_singleton.mp ha]; exact p (by decide +kernel)
  split
  · rw [Tst.toD_leaf]
    refine clean_strs (by decide +kernel) (by decide +kernel) (by show 2 ≤ 1000; decide) fun a ha => ?_
    simp only [List.mem_cons, List.mem_nil_iff, or_false] at ha
    rcases ha with rfl | rfl
    · exact p (by decide +kernel)
    · exact p (by decide +kernel)
  split
  · rw [Tst.toD_leaf]
    exact clean_strs (by decide +kernel) (by decide +kernel) (by show 1 ≤ 1000; decide) fun a ha => by rw [List.mem_singleton.mp ha]; exact p (by decide +kernel)
  split
  · rw [Tst.toD_leaf]
    exact clean_strs (by decide +kernel) (by decide +kernel) (by show 0 ≤ 1000; decide) fun a ha => nomatch ha
  · rw [Tst.toD_leaf]
    exact clean_strs (by decide +kernel) (by decide +kernel) (by show 0 ≤ 1000; decide) fun a ha => nomatch ha
theorem clean_lawT : ∀ (n : Nat) (ds : List Int) (b : Bool), Clean (lawT n ds b).toD
  | 0, ds, _ => clean_own ds
  | n + 1, ds, b => by
    have p : ∀ {l : List Str} {i : Int}, (∀ x ∈ l, clS x) → clS (sAt l i) := fun h => sAt_all h (by decide +kernel) _
    have q : ∀ {l : List Str} {i : Int}, (∀ x ∈ l, lawKind x ≠ 4) → lawKind (sAt l i) ≠ 4 := fun h => sAt_all (p := fun x => lawKind x ≠ 4) h (by decide +kernel) _
    have ih := clean_lawT n
    unfold lawT
    dsimp only
    split
    · exact clean_own ds
    split
    · rw [Tst.toD_un]; exact clean_un (by decide +kernel) (by decide +kernel) (ih _ _)
    split
    · rw [Tst.toD_un]; exact clean_un (p (by decide +kernel)) (q (by decide +kernel)) (ih _ _)
    split
    · rw [Tst.toD_many]
      refine clean_many ?_ ?_ (by show 2 ≤ 1000; decide) fun a ha => ?_
      · split <;> decide +kernel
      · split <;> decide +kernel
      · obtain ⟨t, ht, rfl⟩ := List.mem_map.mp ha
        simp only [List.mem_cons, List.mem_nil_iff, or_false] at ht
        rcases ht with rfl | rfl <;> exact ih _ _
    split
    · exact clean_own ds
    split
    · rw [Tst.toD_un]; exact clean_un (p (by decide +kernel)) (q (by decide +kernel)) (ih _ _)
    · rw [Tst.toD_leaf]; exact clean_strs (p (by decide +kernel)) (q (by decide +kernel)) (by show 0 ≤ 1000; decide) fun a ha => nomatch ha
end LM
end
section
set_option Elab.async false
set_option linter.all false
set_option maxRecDepth 100000
set_option maxHeartbeats 4000000
namespace RR
open PySem PySem.Spec PyProof.Rows L2
/-- a text times an int -/
def rMulS : R2 := fun x y H Q => ∃ z n, x = .str z ∧ y = .int n ∧ MulOk z n ∧ Q (.str (Txt.mul z n)) H
theorem op_mulS {X : Cx} : OpR X (binaryOp .Mult) rMulS := by
  intro pins s σ H x y v u Q I rx ry h
  obtain ⟨z, n, rfl, rfl, ok, q⟩ := h
  obtain ⟨t, rfl⟩ := rx
  obtain ⟨t', rfl⟩ := ry
  exact SB.mul ok fun t2 k => ⟨.str _, H, I.tok _, ⟨t2, rfl⟩, q⟩
end RR
namespace DL
open PySem PySem.Spec PyProof.Rows L2
section
variable {K : PySem.W.Frag} {A H : Hp} {σ : L2.St} {te tn : TE} {ds : List PyData}
theorem go_mulS {z : Str} {n : Int} (h : MulOk z n) : GO K RR.rMulS (.str z) (.int n) (.str (Txt.mul z n)) := fun H H1 G H2 v w Q p dx dy q => ⟨z, n, Dv.str_inv dx, Dv.int_inv dy, h, q _ G H2 p (.str _)⟩
theorem DvA.rep {G : Hp} {vs : List V} {es : List PyData} (h : DvA K G vs es) : ∀ k : Nat, DvA K G (List.replicate k vs).flatten (List.replicate k es).flatten
  | 0 => .nil
  | k + 1 => by
    rw [List.replicate_succ, List.replicate_succ, List.flatten_cons, List.flatten_cons]
    exact h.app (DvA.rep h k)
theorem go_repT {k : Int} (hn : ds ≠ []) (h1 : 2 ≤ k) (h2 : k ≤ 1000) (hl : ds.length ≤ 1000) (hp : pairsB (List.replicate k.toNat ds).flatten = false) : GO K (rRepT K) (.tuple ds) (.int k) (.tuple (List.replicate k.toNat ds).flatten) := fun H H1 G H2 v w Q p dx dy q => by
  obtain ⟨a, xs, rfl, s, da⟩ := Dv.tup_inv dx
  have l := DvA.len da
  exact ⟨a, k, xs, rfl, Dv.int_inv dy, seqT p.gh s, fun z => hn (by subst z; cases da; rfl), h1, h2, by omega, fun b hb => q (.ref b) _ _ (p.new hb _) (.tup (SqT.of upd_same) ((DvA.rep da _).to (same_new (p.gh.free hb) _)) hp)⟩
/-- one sign of a text -/
theorem go_ixS {x : Str} {i : Int} {c : Nat} (z : x.length ≤ sizeLine) (h : atI x.cps.toList i = some c) : GO K (rIx K) (.str x) (.int i) (.str ⟨#[c]⟩) := fun H H1 G H2 v w Q p dx dy q => .inr (.inr ⟨x, i, c, Dv.str_inv dx, Dv.int_inv dy, z, h, q _ G H2 p (.str _)⟩)
/-- == of data, one of which is not deep -/
def rEqN (K : PySem.W.Frag) : R2 := fun x y H Q => ∃ d e, Dp K H x d ∧ Dp K H y e ∧ d.canLay0 = true ∧ e.canLay0 = true ∧ min d.depth e.depth ≤ 64 ∧ Q (.bl (PyData.eqv d e)) H
theorem op_eqN {X : Cx} (hu : X.A.units + 64 < cLine) : OpR X (compareOp .Eq) (rEqN X.K) := by
  intro pins s σ H x y v u Q I rx ry h
  obtain ⟨d, e, hd, he, sd, se, hm, q⟩ := h
  obtain ⟨as, r1⟩ := Dp.reads I d x v hd rx
  obtain ⟨bs, r2⟩ := Dp.reads I e y u he ry
  exact SeqAt.compareEq_reads r1 r2 sd se (by omega) ⟨.bl _, H, I, rfl, q⟩
def rNeN (K : PySem.W.Frag) : R2 := fun x y H Q => ∃ d e, Dp K H x d ∧ Dp K H y e ∧ d.canLay0 = true ∧ e.canLay0 = true ∧ min d.depth e.depth ≤ 64 ∧ Q (.bl (!PyData.eqv d e)) H
theorem go_eqN_ {d1 d2 : PyData} (s1 : d1.canLay0 = true) (s2 : d2.canLay0 = true) (hm : min d1.depth d2.depth ≤ 64) : GO K (rEqN K) d1 d2 (.bool (PyData.eqv d1 d2)) := fun H H1 G H2 v w Q p dx dy q =>
  ⟨d1, d2, dv_dp _ _ (Dv.to dx p.gh), dv_dp _ _ (Dv.to dy p.gh), s1, s2, hm, q _ G H2 p (.bl _)⟩
def rNinS : R2 := fun x y H Q => ∃ (c : Nat) (z : Str), x = .str ⟨#[c]⟩ ∧ y = .str z ∧ Q (.bl (!decide (c ∈ z.cps.toList))) H
theorem op_ninS {X : Cx} : OpR X (compareOp .NotIn) rNinS := op_notIn_sign
theorem go_ninS {c : Nat} {z : Str} : GO K rNinS (.str ⟨#[c]⟩) (.str z) (.bool (!decide (c ∈ z.cps.toList))) := fun H H1 G H2 v w Q p dx dy q => ⟨c, z, Dv.str_inv dx, Dv.str_inv dy, q _ G H2 p (.bl _)⟩
end
end DL
end
section
set_option Elab.async false
set_option linter.all false
set_option maxRecDepth 100000
set_option maxHeartbeats 4000000
namespace LW
open PySem PySem.Spec PyProof.Rows L2 DL LM
section
variable {P : Program} {W : World} {K : PySem.W.Frag} {mg : Str → Option Value} {base : Heap} {f : Addr} {fd : FuncData} {A A2 H H' H0 H1 H2 G G2 Hc : Hp} {σ : L2.St} {t te td tn tv t1 t2 : TE} {tr : TS} {ts : TS} {D : Ends} {tA : TA} {n i j : Nat} {p b : Addr} {xs ys : List V} {v : V} {d : PyData} {ds es : List PyData}
def intsD (ds : List Int) : PyData := .list (ds.map .int)
theorem qatI {l : List PyData} {k : Int} {d : PyData} (h0 : 0 ≤ k) (h : l[k.toNat]? = some d) : atI l k = some d := by
  have e : k = ((k.toNat : Nat) : Int) := by omega
  rw [e]
  exact atI_nat h
theorem gd_pickS {l : List Str} {k : Int} (g : GD K t1 σ H A (.list (l.map .str))) (g2 : GD K t2 σ H A (.int k)) (h0 : 0 ≤ k) (h1 : k < (l.length : Int)) : GD K (tOp (rIx K) t1 t2) σ H A (.str (sAt l k)) := by
  refine gdo g g2 (go_ixL (qatI h0 ?_))
  unfold sAt
  rw [List.getElem?_map, List.getD_eq_getElem?_getD, List.getElem?_eq_getElem (by omega : k.toNat < l.length)]
  rfl
theorem gd_sgn {x : Str} {l : List Str} {k : Int} (hl : sgs x = l) (z : x.length ≤ 1000) (g2 : GD K t2 σ H A (.int k)) (h0 : 0 ≤ k) (h1 : k < (l.length : Int)) : GD K (tOp (rIx K) (tC (.str x)) t2) σ H A (.str (sAt l k)) := by
  subst hl
  have hn : k.toNat < x.cps.toList.length := by
    have : (sgs x).length = x.cps.toList.length := by unfold sgs; rw [List.length_map]
    omega
  have e : sAt (sgs x) k = ⟨#[x.cps.toList[k.toNat]]⟩ := by
    unfold sAt sgs
    rw [List.getD_eq_getElem?_getD, List.getElem?_map, List.getElem?_eq_getElem hn]
    rfl
  rw [e]
  refine gdo gd_str g2 (go_ixS (Nat.le_trans z (by rw [sizeLine_eq]; decide)) ?_)
  have e2 : ((k.toNat : Nat) : Int) = k := by omega
  have h := atI_nat (xs := x.cps.toList) (j := k.toNat) (List.getElem?_eq_getElem hn)
  rw [e2] at h
  exact h
theorem gd_draw {ds : List Int} {j : Nat} (i : Nat) (h2 : σ[j]? = some (some v)) (d2 : Dv K H v (intsD ds)) (h : i < ds.length) : GD K (tOp (rIx K) (tVar j) (tC (.int (i : Int)))) σ H A (.int (dAt ds i)) := by
  refine gdo (gd_var h2 d2) gd_int (go_ixL (qatI (by omega) ?_))
  unfold dAt
  rw [List.getElem?_map, List.getD_eq_getElem?_getD, Int.toNat_natCast, List.getElem?_eq_getElem h]
  rfl
theorem gd_drawI {ds : List Int} {j : Nat} (i : Nat) (h2 : σ[j]? = some (some v)) (d2 : Dv K H v (intsD ds)) (h : i < ds.length) : GD K (tCB rInt (tCons (tOp (rIx K) (tVar j) (tC (.int (i : Int)))) tNil)) σ H A (.int (dAt ds i)) := gd_cb (ga_cons (gd_draw i h2 d2 h) ga_nil) gc_int
theorem gd_mod {c : Int} {b : Int} (g : GD K te σ H A (.int c)) (hb : 0 < b) : GD K (tOp (rI (fun _ j => 0 < j) fun i j => .int (i % j)) te (tC (.int b))) σ H A (.int (c % b)) := gdo g gd_int (go_ic hb)
theorem qcut_to {l : List Int} {a : Nat} (h : a ≤ l.length) : DL.cutD (l.map PyData.int) none (some (a : Int)) = (l.take a).map .int := by
  unfold DL.cutD
  rw [HT.sIx_none, HT.sIx_nat, List.length_map, Nat.min_eq_left h, List.drop_zero, Nat.sub_zero, List.map_take]
theorem qcut_from {l : List Int} {a : Nat} (h : a ≤ l.length) : DL.cutD (l.map PyData.int) (some (a : Int)) none = (l.drop a).map .int := by
  unfold DL.cutD
  rw [HT.sIx_none, HT.sIx_nat, List.length_map, Nat.min_eq_left h, ← List.map_drop, List.take_of_length_le (by rw [List.length_map, List.length_drop]; omega)]
/-- draws[k:] + draws[:k] -/
theorem gd_rot {ds : List Int} {j : Nat} (k : Nat) (h2 : σ[j]? = some (some v)) (d2 : Dv K H v (intsD ds)) (h : k ≤ ds.length) (z : ds.length ≤ 1000) : GD K (tOp (rAddA K) (tSl (rSlD K) (tVar j) (tPart (tC (.int (k : Int)))) tNoPart) (tSl (rSlD K) (tVar j) tNoPart (tPart (tC (.int (k : Int)))))) σ H A (intsD (rot k ds)) := by
  have g1 := gd_slL (K := K) (σ := σ) (H := H) (A := A) (gd_var h2 d2) (gp_some (K := K) (gd_int (i := (k : Int)))) gp_none
  have g2 := gd_slL (K := K) (σ := σ) (H := H) (A := A) (gd_var h2 d2) gp_none (gp_some (K := K) (gd_int (i := (k : Int))))
  rw [qcut_from h] at g1
  rw [qcut_to h] at g2
  have g := gdo g1 g2 (go_addL (by rw [List.length_map, List.length_map, List.length_drop, List.length_take, sizeLine_eq]; omega))
  rw [← List.map_append] at g
  exact g
def arDw : List Int → List PyData := fun ds => [intsD ds]
def preDw (ds : List Int) : Prop := 9 ≤ ds.length ∧ ds.length ≤ 100
def arLt : List Int × Nat × Bool → List PyData := fun x => [intsD x.1, ofN x.2.1, .bool x.2.2]
def preLt (j : Nat) (x : List Int × Nat × Bool) : Prop := preDw x.1 ∧ x.2.1 < j
/-! ### the script of a law -/
def spLw (K : PySem.W.Frag) : Sp := fun vs H Q _ => ∃ (s : Addr) (ns : List Int), vs = [.ref s] ∧ SqL K H s (ns.map V.int) ∧ ns.length ≤ 63 ∧ ∀ H', Q (.bl true) H'
theorem gi_scr {s : Addr} {ns : List Int} (h : σ[i]? = some (some (.ref s))) (e : SqL K H s (ns.map V.int)) : GI K (iSeq K (tVar i)) σ H A (ns.map .int) := gi_l fun H0 H1 p R q => ⟨.ref s, h, s, rfl, ⟨_, p.same.seq e⟩, q _ H0 H1 (.refl p.gh) (runs_list (p.hg.seq e) DvA.ints)⟩
/-- draws = _law_draws(cell, m) -/
theorem s_draws {i : Nat} {m : Nat} {c : Int} {G : Hp} (g : GD K te σ G H (.int c)) (s : Same G H) (hm : m ≤ 100) (k : ∀ ds v G' H', ds.length = m → (∀ x ∈ ds, 0 ≤ x ∧ x < 1000) → Pub G H G' H' → Dv K G' v (intsD ds) → tr D (σ.set i (some v)) H') :
    tSeq (tAsg (tCall (spD K 2 preDraws resDraws) [] E0 (tCons te (tCons (tC (.int (m : Int))) tNil))) (gName i)) tr D σ H := g.to (.refl s) fun u G1 H1 p1 du => by
  refine ⟨by rfl, G1, [.int c, .int (m : Int)], p1.gh, .cons du (.cons (.int _) .nil), ⟨c, m, rfl, by omega, by omega⟩, ?_⟩
  intro d r v G2 H2 p2 dv
  obtain ⟨c', m', e, ds, rfl, hl, hb⟩ := r
  have e2 : m' = (m : Int) := by
    simp at e
    exact e.2.symm
  subst e2
  exact k ds v G2 H2 (by omega) hb (p1.trans p2) dv
end
end LW
end
section
set_option Elab.async false
set_option linter.all false
set_option maxRecDepth 100000
set_option maxHeartbeats 4000000
namespace LW
open PySem PySem.Spec PyProof.Rows L2 DL LM
section
variable {P : Program} {W : World} {K : PySem.W.Frag} {mg : Str → Option Value} {base : Heap} {f : Addr} {fd : FuncData} {CD CN Cbd : Addr} {ec : EC} {a a0 : DA} {A A2 H H0 H1 H2 G G2 Hc : Hp} {w w' : Wm} {σ : L2.St} {t te tn ti : TE} {tr : TS} {ts : TS} {D : Ends} {tA : TA} {wd : Addr} {fl : Nat → Addr} {n j : Nat} {d : PyData} {v : V} {p : Addr} {ds ds' : List PyData}
/-! ### _law_word -/
def erD : Er → PyData
  | .arg s => .tuple [.str "argument", .str s]
  | .no z => .tuple [.str "node", .int z]
  | .rf s => .tuple [.str "refused", .str s]
def duD : Er → PyData
  | .arg s => .str s
  | .no z => .int z
  | .rf s => .str s
structure EB3 (K : PySem.W.Frag) (mg : Str → Option Value) (ec : EC) (Cbd : Addr) : Prop where
  mb : mg "InvalidArgument" = some (.ref Cbd)
  mn : mg "NoSuchNode" = some (.ref ec.no)
  mr : mg "RefusedError" = some (.ref ec.rf)
  bb : PySem.W.exmOne K (.ref Cbd) (.ref Cbd) = some true
  nb : PySem.W.exmOne K (.ref ec.no) (.ref Cbd) = some false
  nn : PySem.W.exmOne K (.ref ec.no) (.ref ec.no) = some true
  rb : PySem.W.exmOne K (.ref ec.rf) (.ref Cbd) = some false
  rn : PySem.W.exmOne K (.ref ec.rf) (.ref ec.no) = some false
  rr : PySem.W.exmOne K (.ref ec.rf) (.ref ec.rf) = some true
  xb : XfC K Cbd
  xn : XfC K ec.no
  xr : XfC K ec.rf
  fb : PySem.W.findIn K (.ref Cbd) "name" = some none
  fn : PySem.W.findIn K (.ref ec.no) "number" = some none
  fr : PySem.W.findIn K (.ref ec.rf) "reason" = some none
def spLq (K : PySem.W.Frag) (CD CN : Addr) : Sp := fun vs H1 Q _ => ∃ (a : DA) (u : V) (xs : List PyData) (H : Hp) (w : Wm) (e : Er), vs = [.ref a.x, u] ∧ DH K CD CN a H H1 w ∧ Ok w.ns ∧ Dv K H u (.tuple xs) ∧ BadD w xs e ∧ ∀ v G H2, Pub H H1 G H2 → Dv K G v (erD e) → Q v H2
abbrev s_law_word : Stmt := topS 39
theorem sc_law_word : FnScope ["document", "deed", "e"] ["document", "deed"] (defScope s_law_word) := ⟨rfl, rfl, rfl, by decide +kernel, rfl, by decide +kernel, by decide +kernel⟩
theorem ok_lawword (M : EB3 K mg ec Cbd) (F : Fun K "_law_word" "_law_word" s_law_word f fd) (c_law_call : CalX P W K mg base 66 "_law_call" (spB K CD CN ec Cbd 1 BadC)) : FnOk P W K mg base CX0 67 f fd ["document", "deed"] (spLq K CD CN) := by
  refine F.ok sc_law_word (fun vs H Q E h => ?_) (fun cdv A outer s H1 vs Q E hr h => ?_)
  · obtain ⟨_, _, _, _, _, _, rfl, _⟩ := h
    rfl
  obtain ⟨a, u, xs, H, w, e, rfl, dh, o, d1, hb, kq⟩ := h
  refine ⟨_, (pss_cons (ps_try_named (Wo := fun _ _ _ _ => False) rfl rfl sc_law_word.nd takes_none5
    (fun W pn xe tkW po => pss_one (ps_expr (pe_kS c_law_call hr (by omega) tkW (pa_cons (pv 0) (pa_cons (pv 1) pa_nil)))))
    (.cons (i := 2) ⟨rfl, by decide, .inl M.mb⟩ rfl rfl (fun b oe cls d pn hz hf => pss_one (ps_ret (RR.pe_tupF (pa_cons pe_str (pa_cons (pe_xf M.xb M.fb hz hf (pv 2)) pa_nil)))))
    (.cons (i := 2) ⟨rfl, by decide, .inl M.mn⟩ rfl rfl (fun b oe cls d pn hz hf => pss_one (ps_ret (RR.pe_tupF (pa_cons pe_str (pa_cons (pe_xf M.xn M.fn hz hf (pv 2)) pa_nil)))))
    (.cons (i := 2) ⟨rfl, by decide, .inl M.mr⟩ rfl rfl (fun b oe cls d pn hz hf => pss_one (ps_ret (RR.pe_tupF (pa_cons pe_str (pa_cons (pe_xf M.xr M.fr hz hf (pv 2)) pa_nil))))) .nil)))) (pss_one (ps_ret pe_non))), ?_⟩
  refine ⟨.ref a.x, rfl, u, rfl, ?_⟩
  refine ⟨a, [u], [.tuple xs], H, w, e, rfl, rfl, dh, o, .cons d1 .nil, ⟨xs, rfl, hb⟩, fun dd H2 s2 hx => ?_⟩
  obtain ⟨fs, hdd, hfl⟩ := hx
  have p2 : Pub H H1 H H2 := .idle dh.gh s2
  cases e with
  | arg x =>
    refine ⟨true, M.bb, fun _ b hb => ?_, fun z => nomatch z⟩
    refine s_ret (K := K) (gd_tup (ga_cons gd_str (ga_cons ((gv_xf (i := 2) rfl hdd hfl).gd (.str _)) ga_nil))) p2.gh fun v3 G3 H3 p3 d3 => ?_
    exact kq v3 G3 H3 (p2.trans p3) d3
  | no z =>
    refine ⟨false, M.nb, (fun z => nomatch z), fun _ => ⟨true, M.nn, fun _ b hb => ?_, fun z => nomatch z⟩⟩
    refine s_ret (K := K) (gd_tup (ga_cons gd_str (ga_cons ((gv_xf (i := 2) rfl hdd hfl).gd (.int _)) ga_nil))) p2.gh fun v3 G3 H3 p3 d3 => ?_
    exact kq v3 G3 H3 (p2.trans p3) d3
  | rf x =>
    refine ⟨false, M.rb, (fun z => nomatch z), fun _ => ⟨false, M.rn, (fun z => nomatch z), fun _ => ⟨true, M.rr, fun _ b hb => ?_, fun z => nomatch z⟩⟩⟩
    refine s_ret (K := K) (gd_tup (ga_cons gd_str (ga_cons ((gv_xf (i := 2) rfl hdd hfl).gd (.str _)) ga_nil))) p2.gh fun v3 G3 H3 p3 d3 => ?_
    exact kq v3 G3 H3 (p2.trans p3) d3
theorem gd_word {xs : List PyData} {e : Er} (dh : DH K CD CN a H A w) (o : Ok w.ns) (h0 : σ[j]? = some (some (.ref a.x))) (g : GD K te σ H A (.tuple xs)) (hb : BadD w xs e) : GD K (tCall (spLq K CD CN) [] E0 (tCons (tVar j) (tCons te tNil))) σ H A (erD e) := fun H0 H1 p Q q =>
  ⟨.ref a.x, h0, g.to p fun v G2 H2 p2 dv => ⟨a, v, xs, G2, w, e, rfl, (dh.pub p).pub p2, o, dv, hb, fun v3 G3 H3 p3 d3 => q v3 G3 H3 (p2.trans p3) d3⟩⟩
/-! ### _law_kind -/
def kdOk : Er → Prop
  | .arg s => s = "name" ∨ s = "text" ∨ s = "value"
  | .no _ => True
  | .rf s => s ≠ "name" ∧ s ≠ "text" ∧ s ≠ "value"
def arEr : Er → List PyData := fun e => [duD e]
abbrev s_law_kind : Stmt := topS 40
theorem sc_law_kind : FnScope ["due"] ["due"] (defScope s_law_kind) := ⟨rfl, rfl, rfl, by decide +kernel, rfl, by decide +kernel, by decide +kernel⟩
theorem ok_lawkind (T : Bt mg) (F : Fun K "_law_kind" "_law_kind" s_law_kind f fd) : FnOk P W K mg base CX0 1 f fd ["due"] (spA K 1 arEr kdOk erD) := by
  refine fn_A F sc_law_kind rfl fun cdv A outer s H1 E hr => ⟨_, (pss_cons (ps_if (pt_tr (pe_callB call_isi (by rfl) T.isinstance (by decide +kernel) (pa_cons (pv 0) (pa_cons (pe_bltn (v := .ty "int") rfl T.int (by decide +kernel) rfl) pa_nil)))) (pss_one (ps_ret (RR.pe_tupF (pa_cons pe_str (pa_cons (pv 0) pa_nil))))) pss_nil)
      (pss_one (ps_ret (RR.pe_tupF (pa_cons (pe_ifExp (pt_cmpR op_in_seq (pv 0) (RR.pe_tupF (pa_cons pe_str (pa_cons pe_str (pa_cons pe_str pa_nil)))) (by rfl)) pe_str pe_str) (pa_cons (pv 0) pa_nil)))))), fun vs e H A hl sm dv hp => ?_⟩
  obtain ⟨v, rfl, d1⟩ := DvA.inv1 dv
  have gin : ∀ {A' : Hp} (x : Str), Dv K H v (.str x) → GT (tTest (tOp (rIn K false) (tVar 0) (RR.tTupF (tCons (tC (.str "name")) (tCons (tC (.str "text")) (tCons (tC (.str "value")) tNil)))))) [some v] H A' (inV (.str x) [.str "name", .str "text", .str "value"]) := fun x dx => gt_test (gdo (K := K) (gd_var (i := 0) rfl dx) (gd_tup (ga_cons gd_str (ga_cons gd_str (ga_cons gd_str ga_nil)))) (go_inT (x := .str x) (xs := [.str "name", .str "text", .str "value"]) rfl rfl))
  have ein : ∀ x : Str, inV (.str x) [.str "name", .str "text", .str "value"] = decide (x = "name" ∨ x = "text" ∨ x = "value") := fun x => by
    unfold inV
    rw [Bool.eq_iff_iff, decide_eq_true_iff, List.any_eq_true]
    constructor
    · rintro ⟨y, hy, e⟩
      simp only [List.mem_cons, List.mem_nil_iff, or_false] at hy
      rcases hy with rfl | rfl | rfl
      · exact .inl (of_decide_eq_true e).symm
      · exact .inr (.inl (of_decide_eq_true e).symm)
      · exact .inr (.inr (of_decide_eq_true e).symm)
    · rintro (h | h | h)
      · exact ⟨_, List.mem_cons_self, decide_eq_true h.symm⟩
      · exact ⟨_, List.mem_cons_of_mem _ List.mem_cons_self, decide_eq_true h.symm⟩
      · exact ⟨_, List.mem_cons_of_mem _ (List.mem_cons_of_mem _ List.mem_cons_self), decide_eq_true h.symm⟩
  cases e with
  | no z =>
    have d1 : Dv K H v (.int z) := d1
    exact gb_if (b := true) (gt_tr (d := .bool true) (gd_isI (gd_var (i := 0) rfl d1))) (fun _ => gb_ret (gd_tup (ga_cons gd_str (ga_cons (gd_var (i := 0) rfl d1) ga_nil))) rfl) fun z => nomatch z
  | arg x =>
    have d1 : Dv K H v (.str x) := d1
    refine gb_if (b := false) (gt_tr (d := .bool false) (gd_isI (gd_var (i := 0) rfl d1))) (fun z => nomatch z) fun _ => ?_
    have g := gin (A' := A) x d1
    have hp : x = "name" ∨ x = "text" ∨ x = "value" := hp
    rw [ein, decide_eq_true hp] at g
    exact gb_ret (gd_tup (ga_cons (gd_if (b := true) g (fun _ => gd_str (i := "argument")) fun z => nomatch z) (ga_cons (gd_var (i := 0) rfl d1) ga_nil))) rfl
  | rf x =>
    have d1 : Dv K H v (.str x) := d1
    refine gb_if (b := false) (gt_tr (d := .bool false) (gd_isI (gd_var (i := 0) rfl d1))) (fun z => nomatch z) fun _ => ?_
    have g := gin (A' := A) x d1
    have hp : x ≠ "name" ∧ x ≠ "text" ∧ x ≠ "value" := hp
    rw [ein, decide_eq_false (fun z => z.elim hp.1 fun z => z.elim hp.2.1 hp.2.2)] at g
    exact gb_ret (gd_tup (ga_cons (gd_if (b := false) g (fun z => nomatch z) fun _ => gd_str (i := "refused")) (ga_cons (gd_var (i := 0) rfl d1) ga_nil))) rfl
/-! ### _law_wrong -/
theorem mod_lt9 {c : Int} {m : Nat} (hm : 0 < m) : (c % (m : Int)).toNat < m := by
  have h1 := Int.emod_nonneg c (show (m : Int) ≠ 0 by omega)
  have h2 := Int.emod_lt_of_pos c (show (0 : Int) < m by omega)
  omega
theorem gd_modN9 {c : Int} {m : Nat} (g : GD K te σ H A (.int c)) (gm : GD K tn σ H A (ofN m)) (hm : 0 < m) : GD K (tOp (rI (fun _ j => 0 < j) fun i j => .int (i % j)) te tn) σ H A (ofN (c % (m : Int)).toNat) := by
  have h := gdo g gm (go_ic (K := K) (C := fun _ j => 0 < j) (f := fun i j => i % j) (i := c) (j := (m : Int)) (by omega))
  have e : PyData.int (c % (m : Int)) = ofN (c % (m : Int)).toNat := by
    have : 0 ≤ c % (m : Int) := Int.emod_nonneg _ (by omega)
    show _ = PyData.int (((c % (m : Int)).toNat : Nat) : Int)
    rw [Int.toNat_of_nonneg this]
  rw [e] at h
  exact h
structure PL5 (K : PySem.W.Frag) (p : Addr) (G H : Hp) (ds : List PyData) : Prop where
  ex : ∃ xs, H p = some (.lst xs) ∧ DvA K G xs ds
  pg : G p = none
theorem PL5.pub (h : PL5 K p G H ds) (q : Pub G H G2 H2) : PL5 K p G2 H2 ds := by
  obtain ⟨xs, e, dx⟩ := h.ex
  exact ⟨⟨xs, q.hh _ _ e, dx.to q.hg⟩, q.pr p h.pg (some_ne e)⟩
theorem PL5.ix {i : Int} (h : PL5 K p G H ds) (h0 : σ[j]? = some (some (.ref p))) (g : GD K te σ G H (.int i)) (e : atI ds i = some d) : GD K (tOp (rIx K) (tVar j) te) σ G H d := fun H0 H1 q Q k => by
  obtain ⟨xs, ex, dx⟩ := h.ex
  refine ⟨.ref p, h0, g.to q fun v G2 H2 q2 dv => ?_⟩
  obtain ⟨u, e2, du⟩ := DvA.at_ dx e
  exact .inl ⟨p, xs, i, u, rfl, Dv.int_inv dv, SqL.of (q2.hh _ _ (q.hh _ _ ex)), e2, k u G2 H2 q2 (du.to (q.hg.trans q2.hg))⟩
theorem dva_set {d : PyData} (dv : Dv K G v d) : ∀ {ws : List V} {es : List PyData} (i : Nat), DvA K G ws es → DvA K G (ws.set i v) (es.set i d) := fun {ws} => by
  induction ws with
  | nil => intro es i r; cases r; exact .nil
  | cons x ws ih =>
    intro es i r
    cases r with
    | cons a r =>
      cases i with
      | zero => exact .cons dv r
      | succ i => exact .cons a (ih i r)
/-- row[i] = e -/
theorem s_pl5set {i : Nat} {B0 B1 : Hp} (h : PL5 K p G H ds) (pb : Pub B0 B1 G H) (hB : B1 p = none) (h0 : σ[j]? = some (some (.ref p))) (g : GD K te σ G H d) (gi : ∀ G' H', Pub G H G' H' → GD K ti σ G' H' (ofN i)) (hi : i < ds.length)
    (k : ∀ G' H', PL5 K p G' H' (ds.set i d) → Pub B0 B1 G' H' → Same G G' → D.nx σ H') : tAsg te (gSub (tVar j) ti rSetL) D σ H := by
  obtain ⟨xs, e, dx⟩ := h.ex
  refine g.to (.refl pb.gh) fun v G2 H2 q dv => ⟨.ref p, h0, (gi G2 H2 q).to (.refl q.gh) fun u G3 H3 q3 du => ?_⟩
  have eu := Dv.int_inv du
  subst eu
  have h3 := (h.pub q).pub q3
  have e3 := q3.hh _ _ (q.hh _ _ e)
  have dx3 := dx.to (q.hg.trans q3.hg)
  refine ⟨p, xs, (i : Int), i, rfl, rfl, e3, ?_, k G3 _ ⟨⟨_, upd_same, dva_set (dv.to q3.hg) i dx3⟩, h3.pg⟩ ((pb.trans (q.trans q3)).put hB h3.pg _) (q.hg.trans q3.hg)⟩
  have hl := DvA.len dx
  unfold ixN
  rw [if_pos (by omega), if_pos (by omega)]; simp
theorem PL5.open_ {B0 B1 : Hp} (h : PL5 K p G H ds) (pb : Pub B0 B1 G H) (hB : B1 p = none) : ∃ G', Pub B0 B1 G' H ∧ Dv K G' (.ref p) (.list ds) := by
  obtain ⟨xs, e, dx⟩ := h.ex
  exact ⟨_, pb.open_ hB h.pg e, .lst (.inl upd_same) (dx.to (same_new h.pg _))⟩
theorem ga_16 {t1 t2 t3 t4 t5 t6 t7 t8 t9 t10 t11 t12 t13 t14 t15 t16 : TE} {tA : TA} {K' : List V → Hp → Prop} (ga : GA K (tCons t1 (tCons t2 (tCons t3 (tCons t4 (tCons t5 (tCons t6 (tCons t7 (tCons t8 (tCons t9 (tCons t10 (tCons t11 (tCons t12 (tCons t13 (tCons t14 (tCons t15 (tCons t16 tNil)))))))))))))))) σ G H ds) (s : Same G H)
    (k : ∀ vs G' H', Pub G H G' H' → DvA K G' vs ds → tA σ H' (fun ws H2 => K' (vs ++ ws) H2)) : tCons t1 (tCons t2 (tCons t3 (tCons t4 (tCons t5 (tCons t6 (tCons t7 (tCons t8 (tCons t9 (tCons t10 (tCons t11 (tCons t12 (tCons t13 (tCons t14 (tCons t15 (tCons t16 tA))))))))))))))) σ H K' :=
  ga.to (.refl s) k
theorem s_rows {i : Nat} {t1 t2 t3 t4 t5 t6 t7 t8 t9 t10 t11 t12 t13 t14 t15 t16 tq : TE} (ga : GA K (tCons t1 (tCons t2 (tCons t3 (tCons t4 (tCons t5 (tCons t6 (tCons t7 (tCons t8 (tCons t9 (tCons t10 (tCons t11 (tCons t12 (tCons t13 (tCons t14 (tCons t15 (tCons t16 tNil)))))))))))))))) σ G H ds) (gq : GD K tq σ G H d) (s : Same G H) (z : ds.length ≤ 1000)
    (k : ∀ vs vt pr pp G' H8, Pub G H G' H8 → DvA K G' vs ds → Dv K G' vt d → H8 pr = none → (upd H8 pr (.lst [vt, .non])) pp = none → tr D (σ.set i (some (.ref pp))) (upd (upd H8 pr (.lst [vt, .non])) pp (.lst (vs ++ [.ref pr])))) :
    tSeq (tAsg (tLst (tCons t1 (tCons t2 (tCons t3 (tCons t4 (tCons t5 (tCons t6 (tCons t7 (tCons t8 (tCons t9 (tCons t10 (tCons t11 (tCons t12 (tCons t13 (tCons t14 (tCons t15 (tCons t16 (tCons (tLst (tCons tq (tCons (tC .non) tNil))) tNil)))))))))))))))))) (gName i)) tr D σ H := by
  show (tCons t1 (tCons t2 (tCons t3 (tCons t4 (tCons t5 (tCons t6 (tCons t7 (tCons t8 (tCons t9 (tCons t10 (tCons t11 (tCons t12 (tCons t13 (tCons t14 (tCons t15 (tCons t16 (tCons (tLst (tCons tq (tCons (tC .non) tNil))) tNil))))))))))))))))) σ H (fun vs H1 => vs.length ≤ sizeLine ∧ ∀ p, H1 p = none → tr D (σ.set i (some (.ref p))) (upd H1 p (.lst vs)))
  refine ga_16 ga s fun vs G' H' P dvs => ?_
  refine (gq.mono P).to (.refl P.gh) fun vt G8 H8 P8 dvt => ?_
  refine ⟨by rw [sizeLine_eq]; show 2 ≤ _; decide, fun pr hpr => ?_⟩
  refine ⟨by rw [List.length_append, DvA.len dvs, sizeLine_eq]; show ds.length + 1 ≤ _; omega, fun pp hpp => ?_⟩
  exact k vs vt pr pp G8 H8 (P.trans P8) (dvs.to P8.hg) dvt hpr hpp
def rows16 (n : Nat) (z : Int) (b lg : Str) : List (List PyData × Er) := [([.str "element", .str b], .arg "name"), ([.str "text", .str lg], .arg "text"), ([.str "text", .str "a\n"], .arg "text"), ([.str "text", .str "\n"], .arg "text"), ([.str "insert", .int z, ofN n, .none], .no z), ([.str "insert", ofN n, .int z, .int (z + 100)], .no z), ([.str "insert", ofN n, ofN n, .int z], .no z),
  ([.str "insert", .int z, .int (z + 100), .int 0], .no z), ([.str "remove", .int z], .no z), ([.str "mark", .int z, .str b, .str lg], .no z), ([.str "mark", ofN n, .str b, .str lg], .arg "name"), ([.str "mark", ofN n, .str "k", .str lg], .arg "value"), ([.str "unmark", ofN n, .str b], .arg "name"), ([.str "unmark", .int z, .str b], .no z), ([.str "write", .int z, .str lg], .no z), ([.str "write", ofN n, .str lg], .arg "text")]
def long : Str := "123456789012345678901"
theorem rows_bad {w : Wm} {n : Nat} {z : Int} {b : Str} (hn : n < w.ns.length) (hz : badZ w z) (hb : nameB b = false ∧ b.length ≤ 1000) : ∀ p ∈ rows16 n z b long, BadD w p.1 p.2 ∧ kdOk p.2 := fun p hp => by
  have hl : plainT long = false := by decide +kernel
  have ll : long.length ≤ 1000 := by decide +kernel
  have cm : BadCm w [ofN n, .str b] (.arg "name") := .k hn hb.1 hb.2
  unfold rows16 at hp
  simp only [List.mem_cons, List.mem_nil_iff, or_false] at hp
  rcases hp with rfl | rfl | rfl | rfl | rfl | rfl | rfl | rfl | rfl | rfl | rfl | rfl | rfl | rfl | rfl | rfl
  · exact ⟨.element ⟨b, rfl, hb.2, .inl ⟨hb.1, rfl⟩⟩, .inl rfl⟩
  · exact ⟨.text ⟨_, rfl, ll, .inl ⟨hl, rfl⟩⟩, .inr (.inl rfl)⟩
  · exact ⟨.text ⟨_, rfl, by decide +kernel, .inl ⟨by decide +kernel, rfl⟩⟩, .inr (.inl rfl)⟩
  · exact ⟨.text ⟨_, rfl, by decide +kernel, .inl ⟨by decide +kernel, rfl⟩⟩, .inr (.inl rfl)⟩
  · exact ⟨.insert (.p hz), trivial⟩
  · exact ⟨.insert (.n hn hz), trivial⟩
  · exact ⟨.insert (.b hn hn hz), trivial⟩
  · exact ⟨.insert (.p hz), trivial⟩
  · exact ⟨.remove (.n hz), trivial⟩
  · exact ⟨.mark (.c (.n hz)), trivial⟩
  · exact ⟨.mark (.c cm), .inl rfl⟩
  · exact ⟨.mark (.v hn (by decide +kernel) hl ll), .inr (.inr rfl)⟩
  · exact ⟨.unmark cm, .inl rfl⟩
  · exact ⟨.unmark (.n hz), trivial⟩
  · exact ⟨.write (.n hz), trivial⟩
  · exact ⟨.write (.t hn hl ll), .inr (.inl rfl)⟩
def rowsD (n : Nat) (z : Int) (b lg : Str) : List PyData := [.list [.tuple [.str "element", .str b], .str "name"], .list [.tuple [.str "text", .str lg], .str "text"], .list [.tuple [.str "text", .str "a\n"], .str "text"], .list [.tuple [.str "text", .str "\n"], .str "text"], .list [.tuple [.str "insert", .int z, ofN n, .none], .int z], .list [.tuple [.str "insert", ofN n, .int z, .int (z + 100)], .int z], .list [.tuple [.str "insert", ofN n, ofN n, .int z], .int z], .list [.tuple [.str "insert", .int z, .int (z + 100), .int 0], .int z], .list [.tuple [.str "remove", .int z], .int z], .list [.tuple [.str "mark", .int z, .str b, .str lg], .int z], .list [.tuple [.str "mark", ofN n, .str b, .str lg], .str "name"], .list [.tuple [.str "mark", ofN n, .str "k", .str lg], .str "value"], .list [.tuple [.str "unmark", ofN n, .str b], .str "name"], .list [.tuple [.str "unmark", .int z, .str b], .int z], .list [.tuple [.str "write", .int z, .str lg], .int z], .list [.tuple [.str "write", ofN n, .str lg], .str "text"]]
theorem rowsD_eq {n : Nat} {z : Int} {b lg : Str} : rowsD n z b lg = (rows16 n z b lg).map fun p => .list [.tuple p.1, duD p.2] := rfl
theorem ga_r0 {tB tL tZ tN tZ1 : TE} {n : Nat} {z : Int} {b lg : Str} (gB : GD K tB σ G H (.str b)) (gL : GD K tL σ G H (.str lg)) (gZ : GD K tZ σ G H (.int z)) (gN : GD K tN σ G H (ofN n)) (gZ1 : GD K tZ1 σ G H (.int (z + 100))) : GD K (tLst (tCons (RR.tTupF (tCons (tC (.str "element")) (tCons tB tNil))) (tCons (tC (.str "name")) tNil))) σ G H (.list [.tuple [.str "element", .str b], .str "name"]) := (gd_lst (ga_cons (gd_tup (ga_cons gd_str (ga_cons gB ga_nil))) (ga_cons gd_str ga_nil)))
theorem ga_r1 {tB tL tZ tN tZ1 : TE} {n : Nat} {z : Int} {b lg : Str} (gB : GD K tB σ G H (.str b)) (gL : GD K tL σ G H (.str lg)) (gZ : GD K tZ σ G H (.int z)) (gN : GD K tN σ G H (ofN n)) (gZ1 : GD K tZ1 σ G H (.int (z + 100))) : GD K (tLst (tCons (RR.tTupF (tCons (tC (.str "text")) (tCons tL tNil))) (tCons (tC (.str "text")) tNil))) σ G H (.list [.tuple [.str "text", .str lg], .str "text"]) := (gd_lst (ga_cons (gd_tup (ga_cons gd_str (ga_cons gL ga_nil))) (ga_cons gd_str ga_nil)))
theorem ga_r2 {tB tL tZ tN tZ1 : TE} {n : Nat} {z : Int} {b lg : Str} (gB : GD K tB σ G H (.str b)) (gL : GD K tL σ G H (.str lg)) (gZ : GD K tZ σ G H (.int z)) (gN : GD K tN σ G H (ofN n)) (gZ1 : GD K tZ1 σ G H (.int (z + 100))) : GD K (tLst (tCons (RR.tTupF (tCons (tC (.str "text")) (tCons (tC (.str "a\n")) tNil))) (tCons (tC (.str "text")) tNil))) σ G H (.list [.tuple [.str "text", .str "a\n"], .str "text"]) := (gd_lst (ga_cons (gd_tup (ga_cons gd_str (ga_cons gd_str ga_nil))) (ga_cons gd_str ga_nil)))
theorem ga_r3 {tB tL tZ tN tZ1 : TE} {n : Nat} {z : Int} {b lg : Str} (gB : GD K tB σ G H (.str b)) (gL : GD K tL σ G H (.str lg)) (gZ : GD K tZ σ G H (.int z)) (gN : GD K tN σ G H (ofN n)) (gZ1 : GD K tZ1 σ G H (.int (z + 100))) : GD K (tLst (tCons (RR.tTupF (tCons (tC (.str "text")) (tCons (tC (.str "\n")) tNil))) (tCons (tC (.str "text")) tNil))) σ G H (.list [.tuple [.str "text", .str "\n"], .str "text"]) := (gd_lst (ga_cons (gd_tup (ga_cons gd_str (ga_cons gd_str ga_nil))) (ga_cons gd_str ga_nil)))
theorem ga_r4 {tB tL tZ tN tZ1 : TE} {n : Nat} {z : Int} {b lg : Str} (gB : GD K tB σ G H (.str b)) (gL : GD K tL σ G H (.str lg)) (gZ : GD K tZ σ G H (.int z)) (gN : GD K tN σ G H (ofN n)) (gZ1 : GD K tZ1 σ G H (.int (z + 100))) : GD K (tLst (tCons (RR.tTupF (tCons (tC (.str "insert")) (tCons tZ (tCons tN (tCons (tC .non) tNil))))) (tCons tZ tNil))) σ G H (.list [.tuple [.str "insert", .int z, ofN n, .none], .int z]) := (gd_lst (ga_cons (gd_tup (ga_cons gd_str (ga_cons gZ (ga_cons gN (ga_cons gd_non ga_nil))))) (ga_cons gZ ga_nil)))
theorem ga_r5 {tB tL tZ tN tZ1 : TE} {n : Nat} {z : Int} {b lg : Str} (gB : GD K tB σ G H (.str b)) (gL : GD K tL σ G H (.str lg)) (gZ : GD K tZ σ G H (.int z)) (gN : GD K tN σ G H (ofN n)) (gZ1 : GD K tZ1 σ G H (.int (z + 100))) : GD K (tLst (tCons (RR.tTupF (tCons (tC (.str "insert")) (tCons tN (tCons tZ (tCons tZ1 tNil))))) (tCons tZ tNil))) σ G H (.list [.tuple [.str "insert", ofN n, .int z, .int (z + 100)], .int z]) := (gd_lst (ga_cons (gd_tup (ga_cons gd_str (ga_cons gN (ga_cons gZ (ga_cons gZ1 ga_nil))))) (ga_cons gZ ga_nil)))
theorem ga_r6 {tB tL tZ tN tZ1 : TE} {n : Nat} {z : Int} {b lg : Str} (gB : GD K tB σ G H (.str b)) (gL : GD K tL σ G H (.str lg)) (gZ : GD K tZ σ G H (.int z)) (gN : GD K tN σ G H (ofN n)) (gZ1 : GD K tZ1 σ G H (.int (z + 100))) : GD K (tLst (tCons (RR.tTupF (tCons (tC (.str "insert")) (tCons tN (tCons tN (tCons tZ tNil))))) (tCons tZ tNil))) σ G H (.list [.tuple [.str "insert", ofN n, ofN n, .int z], .int z]) := (gd_lst (ga_cons (gd_tup (ga_cons gd_str (ga_cons gN (ga_cons gN (ga_cons gZ ga_nil))))) (ga_cons gZ ga_nil)))
theorem ga_r7 {tB tL tZ tN tZ1 : TE} {n : Nat} {z : Int} {b lg : Str} (gB : GD K tB σ G H (.str b)) (gL : GD K tL σ G H (.str lg)) (gZ : GD K tZ σ G H (.int z)) (gN : GD K tN σ G H (ofN n)) (gZ1 : GD K tZ1 σ G H (.int (z + 100))) : GD K (tLst (tCons (RR.tTupF (tCons (tC (.str "insert")) (tCons tZ (tCons tZ1 (tCons (tC (.int 0)) tNil))))) (tCons tZ tNil))) σ G H (.list [.tuple [.str "insert", .int z, .int (z + 100), .int 0], .int z]) := (gd_lst (ga_cons (gd_tup (ga_cons gd_str (ga_cons gZ (ga_cons gZ1 (ga_cons gd_int ga_nil))))) (ga_cons gZ ga_nil)))
theorem ga_r8 {tB tL tZ tN tZ1 : TE} {n : Nat} {z : Int} {b lg : Str} (gB : GD K tB σ G H (.str b)) (gL : GD K tL σ G H (.str lg)) (gZ : GD K tZ σ G H (.int z)) (gN : GD K tN σ G H (ofN n)) (gZ1 : GD K tZ1 σ G H (.int (z + 100))) : GD K (tLst (tCons (RR.tTupF (tCons (tC (.str "remove")) (tCons tZ tNil))) (tCons tZ tNil))) σ G H (.list [.tuple [.str "remove", .int z], .int z]) := (gd_lst (ga_cons (gd_tup (ga_cons gd_str (ga_cons gZ ga_nil))) (ga_cons gZ ga_nil)))
theorem ga_r9 {tB tL tZ tN tZ1 : TE} {n : Nat} {z : Int} {b lg : Str} (gB : GD K tB σ G H (.str b)) (gL : GD K tL σ G H (.str lg)) (gZ : GD K tZ σ G H (.int z)) (gN : GD K tN σ G H (ofN n)) (gZ1 : GD K tZ1 σ G H (.int (z + 100))) : GD K (tLst (tCons (RR.tTupF (tCons (tC (.str "mark")) (tCons tZ (tCons tB (tCons tL tNil))))) (tCons tZ tNil))) σ G H (.list [.tuple [.str "mark", .int z, .str b, .str lg], .int z]) := (gd_lst (ga_cons (gd_tup (ga_cons gd_str (ga_cons gZ (ga_cons gB (ga_cons gL ga_nil))))) (ga_cons gZ ga_nil)))
theorem ga_r10 {tB tL tZ tN tZ1 : TE} {n : Nat} {z : Int} {b lg : Str} (gB : GD K tB σ G H (.str b)) (gL : GD K tL σ G H (.str lg)) (gZ : GD K tZ σ G H (.int z)) (gN : GD K tN σ G H (ofN n)) (gZ1 : GD K tZ1 σ G H (.int (z + 100))) : GD K (tLst (tCons (RR.tTupF (tCons (tC (.str "mark")) (tCons tN (tCons tB (tCons tL tNil))))) (tCons (tC (.str "name")) tNil))) σ G H (.list [.tuple [.str "mark", ofN n, .str b, .str lg], .str "name"]) := (gd_lst (ga_cons (gd_tup (ga_cons gd_str (ga_cons gN (ga_cons gB (ga_cons gL ga_nil))))) (ga_cons gd_str ga_nil)))
theorem ga_r11 {tB tL tZ tN tZ1 : TE} {n : Nat} {z : Int} {b lg : Str} (gB : GD K tB σ G H (.str b)) (gL : GD K tL σ G H (.str lg)) (gZ : GD K tZ σ G H (.int z)) (gN : GD K tN σ G H (ofN n)) (gZ1 : GD K tZ1 σ G H (.int (z + 100))) : GD K (tLst (tCons (RR.tTupF (tCons (tC (.str "mark")) (tCons tN (tCons (tC (.str "k")) (tCons tL tNil))))) (tCons (tC (.str "value")) tNil))) σ G H (.list [.tuple [.str "mark", ofN n, .str "k", .str lg], .str "value"]) := (gd_lst (ga_cons (gd_tup (ga_cons gd_str (ga_cons gN (ga_cons gd_str (ga_cons gL ga_nil))))) (ga_cons gd_str ga_nil)))
theorem ga_r12 {tB tL tZ tN tZ1 : TE} {n : Nat} {z : Int} {b lg : Str} (gB : GD K tB σ G H (.str b)) (gL : GD K tL σ G H (.str lg)) (gZ : GD K tZ σ G H (.int z)) (gN : GD K tN σ G H (ofN n)) (gZ1 : GD K tZ1 σ G H (.int (z + 100))) : GD K (tLst (tCons (RR.tTupF (tCons (tC (.str "unmark")) (tCons tN (tCons tB tNil)))) (tCons (tC (.str "name")) tNil))) σ G H (.list [.tuple [.str "unmark", ofN n, .str b], .str "name"]) := (gd_lst (ga_cons (gd_tup (ga_cons gd_str (ga_cons gN (ga_cons gB ga_nil)))) (ga_cons gd_str ga_nil)))
theorem ga_r13 {tB tL tZ tN tZ1 : TE} {n : Nat} {z : Int} {b lg : Str} (gB : GD K tB σ G H (.str b)) (gL : GD K tL σ G H (.str lg)) (gZ : GD K tZ σ G H (.int z)) (gN : GD K tN σ G H (ofN n)) (gZ1 : GD K tZ1 σ G H (.int (z + 100))) : GD K (tLst (tCons (RR.tTupF (tCons (tC (.str "unmark")) (tCons tZ (tCons tB tNil)))) (tCons tZ tNil))) σ G H (.list [.tuple [.str "unmark", .int z, .str b], .int z]) := (gd_lst (ga_cons (gd_tup (ga_cons gd_str (ga_cons gZ (ga_cons gB ga_nil)))) (ga_cons gZ ga_nil)))
theorem ga_r14 {tB tL tZ tN tZ1 : TE} {n : Nat} {z : Int} {b lg : Str} (gB : GD K tB σ G H (.str b)) (gL : GD K tL σ G H (.str lg)) (gZ : GD K tZ σ G H (.int z)) (gN : GD K tN σ G H (ofN n)) (gZ1 : GD K tZ1 σ G H (.int (z + 100))) : GD K (tLst (tCons (RR.tTupF (tCons (tC (.str "write")) (tCons tZ (tCons tL tNil)))) (tCons tZ tNil))) σ G H (.list [.tuple [.str "write", .int z, .str lg], .int z]) := (gd_lst (ga_cons (gd_tup (ga_cons gd_str (ga_cons gZ (ga_cons gL ga_nil)))) (ga_cons gZ ga_nil)))
theorem ga_r15 {tB tL tZ tN tZ1 : TE} {n : Nat} {z : Int} {b lg : Str} (gB : GD K tB σ G H (.str b)) (gL : GD K tL σ G H (.str lg)) (gZ : GD K tZ σ G H (.int z)) (gN : GD K tN σ G H (ofN n)) (gZ1 : GD K tZ1 σ G H (.int (z + 100))) : GD K (tLst (tCons (RR.tTupF (tCons (tC (.str "write")) (tCons tN (tCons tL tNil)))) (tCons (tC (.str "text")) tNil))) σ G H (.list [.tuple [.str "write", ofN n, .str lg], .str "text"]) := (gd_lst (ga_cons (gd_tup (ga_cons gd_str (ga_cons gN (ga_cons gL ga_nil)))) (ga_cons gd_str ga_nil)))
theorem ga_rows {tB tL tZ tN tZ1 : TE} {n : Nat} {z : Int} {b lg : Str} (gB : GD K tB σ G H (.str b)) (gL : GD K tL σ G H (.str lg)) (gZ : GD K tZ σ G H (.int z)) (gN : GD K tN σ G H (ofN n)) (gZ1 : GD K tZ1 σ G H (.int (z + 100))) :
    GA K (tCons (tLst (tCons (RR.tTupF (tCons (tC (.str "element")) (tCons tB tNil))) (tCons (tC (.str "name")) tNil))) (tCons (tLst (tCons (RR.tTupF (tCons (tC (.str "text")) (tCons tL tNil))) (tCons (tC (.str "text")) tNil))) (tCons (tLst (tCons (RR.tTupF (tCons (tC (.str "text")) (tCons (tC (.str "a\n")) tNil))) (tCons (tC (.str "text")) tNil))) (tCons (tLst (tCons (RR.tTupF (tCons (tC (.str "text")) (tCons (tC (.str "\n")) tNil))) (tCons (tC (.str "text")) tNil))) (tCons (tLst (tCons (RR.tTupF (tCons (tC (.str "insert")) (tCons tZ (tCons tN (tCons (tC .non) tNil))))) (tCons tZ tNil))) (tCons (tLst (tCons (RR.tTupF (tCons (tC (.str "insert")) (tCons tN (tCons tZ (tCons tZ1 tNil))))) (tCons tZ tNil))) (tCons (tLst (tCons (RR.tTupF (tCons (tC (.str "insert")) (tCons tN (tCons tN (tCons tZ tNil))))) (tCons tZ tNil))) (tCons (tLst (tCons (RR.tTupF (tCons (tC (.str "insert")) (tCons tZ (tCons tZ1 (tCons (tC (.int 0)) tNil))))) (tCons tZ tNil))) (tCons (tLst (tCons (RR.tTupF (tCons (tC (.str "remove")) (tCons tZ tNil))) (tCons tZ tNil))) (tCons (tLst (tCons (RR.tTupF (tCons (tC (.str "mark")) (tCons tZ (tCons tB (tCons tL tNil))))) (tCons tZ tNil))) (tCons (tLst (tCons (RR.tTupF (tCons (tC (.str "mark")) (tCons tN (tCons tB (tCons tL tNil))))) (tCons (tC (.str "name")) tNil))) (tCons (tLst (tCons (RR.tTupF (tCons (tC (.str "mark")) (tCons tN (tCons (tC (.str "k")) (tCons tL tNil))))) (tCons (tC (.str "value")) tNil))) (tCons (tLst (tCons (RR.tTupF (tCons (tC (.str "unmark")) (tCons tN (tCons tB tNil)))) (tCons (tC (.str "name")) tNil))) (tCons (tLst (tCons (RR.tTupF (tCons (tC (.str "unmark")) (tCons tZ (tCons tB tNil)))) (tCons tZ tNil))) (tCons (tLst (tCons (RR.tTupF (tCons (tC (.str "write")) (tCons tZ (tCons tL tNil)))) (tCons tZ tNil))) (tCons (tLst (tCons (RR.tTupF (tCons (tC (.str "write")) (tCons tN (tCons tL tNil)))) (tCons (tC (.str "text")) tNil))) tNil)))))))))))))))) σ G H (rowsD n z b lg) := (ga_cons (ga_r0 gB gL gZ gN gZ1) (ga_cons (ga_r1 gB gL gZ gN gZ1) (ga_cons (ga_r2 gB gL gZ gN gZ1) (ga_cons (ga_r3 gB gL gZ gN gZ1) (ga_cons (ga_r4 gB gL gZ gN gZ1) (ga_cons (ga_r5 gB gL gZ gN gZ1) (ga_cons (ga_r6 gB gL gZ gN gZ1) (ga_cons (ga_r7 gB gL gZ gN gZ1) (ga_cons (ga_r8 gB gL gZ gN gZ1) (ga_cons (ga_r9 gB gL gZ gN gZ1) (ga_cons (ga_r10 gB gL gZ gN gZ1) (ga_cons (ga_r11 gB gL gZ gN gZ1) (ga_cons (ga_r12 gB gL gZ gN gZ1) (ga_cons (ga_r13 gB gL gZ gN gZ1) (ga_cons (ga_r14 gB gL gZ gN gZ1) (ga_cons (ga_r15 gB gL gZ gN gZ1) ga_nil))))))))))))))))
def resWr (w : Wm) (_ : List Int) (d : PyData) : Prop := ∃ xs e, BadD w xs e ∧ kdOk e ∧ d = .list [.tuple xs, duD e]
def arDr : List Int → List PyData := fun dw => [intsD dw]
def preDr (_ : Wm) (dw : List Int) : Prop := dw.length = 4 ∧ ∀ x ∈ dw, 0 ≤ x ∧ x < 1000
theorem gd_pick9 {l : List PyData} {k : Nat} {tm tl : TE} {c : Int} (g : GD K tl σ H A (.list l)) (g2 : GD K te σ H A (.int c)) (gm : GD K tm σ H A (ofN k)) (hk : k = l.length) (h0 : 0 < k) : ∃ d, d ∈ l ∧ GD K (tOp (rIx K) tl (tOp (rI (fun _ j => 0 < j) fun i j => .int (i % j)) te tm)) σ H A d := by
  have hi : (c % (k : Int)).toNat < l.length := by rw [← hk]; exact mod_lt9 h0
  exact ⟨l[(c % (k : Int)).toNat], List.getElem_mem hi, gdo g (gd_modN9 g2 gm h0) (go_ixL (atI_nat (List.getElem?_eq_getElem hi)))⟩
abbrev s_law_wrong : Stmt := topS 41
theorem sc_law_wrong : FnScope ["world", "draws", "many", "n", "gone", "long", "bad", "rows", "row"] ["world", "draws"] (defScope s_law_wrong) := ⟨rfl, rfl, rfl, by decide +kernel, rfl, by decide +kernel, by decide +kernel⟩
theorem ok_lawwrong (T : Bt mg) (F : Fun K "_law_wrong" "_law_wrong" s_law_wrong f fd) : FnOk P W K mg base CX0 1 f fd ["world", "draws"] (spRR K 1 arDr preDr resWr) := by
  refine fn_RR F sc_law_wrong rfl fun cdv A outer s H1 E hr => ⟨_, (pss_cons (ps_set (i := 2) sc_law_wrong.nd rfl (Or.inl rfl) (pe_callB cr_len (by rfl) T.len PySem.boot_len (pa_cons (pe_dget (hu_of hr) (pv 0) pe_str (fun _ _ => rfl)) pa_nil)))
      (pss_cons (ps_set (i := 3) sc_law_wrong.nd rfl (Or.inl rfl) (pe_op op_mod (pe_callTy cr_int (by rfl) T.int (by decide +kernel) (pa_cons (pe_ix ix_seq (pv 1) pe_int (fun _ _ => rfl)) pa_nil)) (pv 2)))
      (pss_cons (ps_set (i := 4) sc_law_wrong.nd rfl (Or.inl rfl) (pe_ix ix_seq (pe_lst (pa_cons (pv 2) (pa_cons (pe_un un_neg pe_int) (pa_cons (pe_op op_addA (pv 2) pe_int) pa_nil)))) (pe_op op_mod (pe_callTy cr_int (by rfl) T.int (by decide +kernel) (pa_cons (pe_ix ix_seq (pv 1) pe_int (fun _ _ => rfl)) pa_nil)) pe_int) (fun _ _ => rfl)))
      (pss_cons (ps_set (i := 5) sc_law_wrong.nd rfl (Or.inl rfl) pe_str)
      (pss_cons (ps_set (i := 6) sc_law_wrong.nd rfl (Or.inl rfl) (pe_ix ix_seq (pe_lst (pa_cons pe_str (pa_cons pe_str (pa_cons pe_str (pa_cons pe_str pa_nil))))) (pe_op op_mod (pe_callTy cr_int (by rfl) T.int (by decide +kernel) (pa_cons (pe_ix ix_seq (pv 1) pe_int (fun _ _ => rfl)) pa_nil)) pe_int) (fun _ _ => rfl)))
      (pss_cons (ps_set (i := 7) sc_law_wrong.nd rfl (Or.inl rfl) (pe_lst (pa_cons (pe_lst (pa_cons (RR.pe_tupF (pa_cons pe_str (pa_cons (pv 6) pa_nil))) (pa_cons pe_str pa_nil))) (pa_cons (pe_lst (pa_cons (RR.pe_tupF (pa_cons pe_str (pa_cons (pv 5) pa_nil))) (pa_cons pe_str pa_nil))) (pa_cons (pe_lst (pa_cons (RR.pe_tupF (pa_cons pe_str (pa_cons pe_str pa_nil))) (pa_cons pe_str pa_nil))) (pa_cons (pe_lst (pa_cons (RR.pe_tupF (pa_cons pe_str (pa_cons pe_str pa_nil))) (pa_cons pe_str pa_nil))) (pa_cons (pe_lst (pa_cons (RR.pe_tupF (pa_cons pe_str (pa_cons (pv 4) (pa_cons (pv 3) (pa_cons pe_non pa_nil))))) (pa_cons (pv 4) pa_nil))) (pa_cons (pe_lst (pa_cons (RR.pe_tupF (pa_cons pe_str (pa_cons (pv 3) (pa_cons (pv 4) (pa_cons (pe_op op_addA (pv 4) pe_int) pa_nil))))) (pa_cons (pv 4) pa_nil))) (pa_cons (pe_lst (pa_cons (RR.pe_tupF (pa_cons pe_str (pa_cons (pv 3) (pa_cons (pv 3) (pa_cons (pv 4) pa_nil))))) (pa_cons (pv 4) pa_nil))) (pa_cons (pe_lst (pa_cons (RR.pe_tupF (pa_cons pe_str (pa_cons (pv 4) (pa_cons (pe_op op_addA (pv 4) pe_int) (pa_cons pe_int pa_nil))))) (pa_cons (pv 4) pa_nil))) (pa_cons (pe_lst (pa_cons (RR.pe_tupF (pa_cons pe_str (pa_cons (pv 4) pa_nil))) (pa_cons (pv 4) pa_nil))) (pa_cons (pe_lst (pa_cons (RR.pe_tupF (pa_cons pe_str (pa_cons (pv 4) (pa_cons (pv 6) (pa_cons (pv 5) pa_nil))))) (pa_cons (pv 4) pa_nil))) (pa_cons (pe_lst (pa_cons (RR.pe_tupF (pa_cons pe_str (pa_cons (pv 3) (pa_cons (pv 6) (pa_cons (pv 5) pa_nil))))) (pa_cons pe_str pa_nil))) (pa_cons (pe_lst (pa_cons (RR.pe_tupF (pa_cons pe_str (pa_cons (pv 3) (pa_cons pe_str (pa_cons (pv 5) pa_nil))))) (pa_cons pe_str pa_nil))) (pa_cons (pe_lst (pa_cons (RR.pe_tupF (pa_cons pe_str (pa_cons (pv 3) (pa_cons (pv 6) pa_nil)))) (pa_cons pe_str pa_nil))) (pa_cons (pe_lst (pa_cons (RR.pe_tupF (pa_cons pe_str (pa_cons (pv 4) (pa_cons (pv 6) pa_nil)))) (pa_cons (pv 4) pa_nil))) (pa_cons (pe_lst (pa_cons (RR.pe_tupF (pa_cons pe_str (pa_cons (pv 4) (pa_cons (pv 5) pa_nil)))) (pa_cons (pv 4) pa_nil))) (pa_cons (pe_lst (pa_cons (RR.pe_tupF (pa_cons pe_str (pa_cons (pv 3) (pa_cons (pv 5) pa_nil)))) (pa_cons pe_str pa_nil))) (pa_cons (pe_lst (pa_cons (RR.pe_tupF (pa_cons pe_str (pa_cons (pv 3) (pa_cons pe_int (pa_cons pe_non pa_nil))))) (pa_cons pe_non pa_nil))) pa_nil)))))))))))))))))))
      (pss_cons (ps_set (i := 8) sc_law_wrong.nd rfl (Or.inl rfl) (pe_ix ix_seq (pv 7) (pe_op op_mod (pe_callTy cr_int (by rfl) T.int (by decide +kernel) (pa_cons (pe_ix ix_seq (pv 1) pe_int (fun _ _ => rfl)) pa_nil)) pe_int) (fun _ _ => rfl)))
      (pss_cons (ps_if (pt_cmpR op_is1 (pe_ix ix_seq (pv 8) pe_int (fun _ _ => rfl)) pe_non (nomark _)) (pss_cons (ps_asg pe_str (pg_sub (pv 8) pe_int set_list))
      (pss_one (ps_if (pt_cmpR (op_eqA hr.units) (pe_ix ix_seq (pe_dget (hu_of hr) (pv 0) pe_str (fun _ _ => rfl)) (pv 3) (fun _ _ => rfl)) pe_str (nomark _)) (pss_one (ps_asg pe_str (pg_sub (pv 8) pe_int set_list))) (pss_one (ps_if (pt_cmpR (op_eqA hr.units) (pe_op op_mod (pe_callTy cr_int (by rfl) T.int (by decide +kernel) (pa_cons (pe_ix ix_seq (pv 1) pe_int (fun _ _ => rfl)) pa_nil)) pe_int) pe_int (nomark _)) (pss_one (ps_set (i := 8) sc_law_wrong.nd rfl (Or.inl rfl) (pe_lst (pa_cons (RR.pe_tupF (pa_cons pe_str (pa_cons pe_int pa_nil))) (pa_cons pe_str pa_nil))))) pss_nil))))) pss_nil)
      (pss_one (ps_ret (pv 8))))))))))), fun wd fl us dw H A w hl wh o dv hp => ?_⟩
  obtain ⟨v, rfl, d1⟩ := DvA.inv1 dv
  obtain ⟨hdl, hdr⟩ := hp
  intro B0 B1 PB D q
  have wh := wh.pub PB
  have d1 := d1.to PB.hg
  have hpos := o.pos
  have hlen := o.len
  refine s_set (K := K) (WH.lenJ wh (j := 0) rfl) wh.gh fun v2 G2 H2 P2 dv2 => ?_
  have wh2 := wh.pub P2
  have d12 := d1.to P2.hg
  refine s_set (K := K) (gd_modN9 (gd_drawI 1 rfl d12 (by omega)) (gd_var (i := 2) rfl dv2) hpos) wh2.gh fun v3 G3 H3 P3 dv3 => ?_
  obtain ⟨n, hn⟩ : ∃ n, n = (dAt dw 1 % ((w.ns.length : Nat) : Int)).toNat := ⟨_, rfl⟩
  have hnl : n < w.ns.length := by rw [hn]; exact mod_lt9 hpos
  rw [← hn] at dv3
  have wh3 := wh2.pub P3
  have d13 := d12.to P3.hg
  have d23 := dv2.to P3.hg
  obtain ⟨dz, hdz, gz⟩ := gd_pick9 (K := K) (A := H3) (H := G3) (σ := [some (.ref wd), some v, some v2, some v3, none, none, none, none, none]) (l := [.int (w.ns.length : Int), .int (-1), .int ((w.ns.length : Int) + 5)]) (k := 3) (gd_lst (ga_cons (gd_var (i := 2) rfl d23) (ga_cons (gd_neg (gd_int (i := 1))) (ga_cons (gdo (gd_var (i := 2) rfl d23) (gd_int (i := 5)) go_addI) ga_nil)))) (gd_drawI (j := 1) 2 rfl d13 (by omega)) gd_int rfl (by decide)
  obtain ⟨z, rfl, hz⟩ : ∃ z, dz = .int z ∧ badZ w z := by
    simp only [List.mem_cons, List.mem_nil_iff, or_false] at hdz
    rcases hdz with rfl | rfl | rfl
    · exact ⟨_, rfl, by constructor <;> omega⟩
    · exact ⟨_, rfl, by constructor <;> omega⟩
    · exact ⟨_, rfl, by constructor <;> omega⟩
  refine s_set (K := K) gz wh3.gh fun v4 G4 H4 P4 dv4 => ?_
  have wh4 := wh3.pub P4
  refine s_set (K := K) (d := .str long) gd_str wh4.gh fun v5 G5 H5 P5 dv5 => ?_
  have wh5 := wh4.pub P5
  have d15 := (d13.to P4.hg).to P5.hg
  obtain ⟨db, hdb, gb⟩ := gd_pick9 (K := K) (A := H5) (H := G5) (σ := [some (.ref wd), some v, some v2, some v3, some v4, some v5, none, none, none]) (l := [.str "A", .str "", .str "abcdefghi", .str "a b"]) (k := 4) (gd_lst (ga_cons gd_str (ga_cons gd_str (ga_cons gd_str (ga_cons gd_str ga_nil))))) (gd_drawI (j := 1) 3 rfl d15 (by omega)) gd_int rfl (by decide)
  obtain ⟨b, rfl, hb⟩ : ∃ b, db = .str b ∧ nameB b = false ∧ b.length ≤ 1000 := by
    simp only [List.mem_cons, List.mem_nil_iff, or_false] at hdb
    rcases hdb with rfl | rfl | rfl | rfl
    · exact ⟨_, rfl, by decide +kernel, by decide +kernel⟩
    · exact ⟨_, rfl, by decide +kernel, by decide +kernel⟩
    · exact ⟨_, rfl, by decide +kernel, by decide +kernel⟩
    · exact ⟨_, rfl, by decide +kernel, by decide +kernel⟩
  refine s_set (K := K) gb wh5.gh fun v6 G6 H6 P6 dv6 => ?_
  have wh6 := wh5.pub P6
  have d16 := d15.to P6.hg
  have d36 := ((dv3.to P4.hg).to P5.hg).to P6.hg
  have d46 := (dv4.to P5.hg).to P6.hg
  have d56 := dv5.to P6.hg
  have P06 := ((((P2.trans P3).trans P4).trans P5).trans P6)
  have gB : GD K (tVar 6) [some (.ref wd), some v, some v2, some v3, some v4, some v5, some v6, none, none] G6 H6 (.str b) := gd_var rfl dv6
  have gL : GD K (tVar 5) [some (.ref wd), some v, some v2, some v3, some v4, some v5, some v6, none, none] G6 H6 (.str long) := gd_var rfl d56
  have gZ : GD K (tVar 4) [some (.ref wd), some v, some v2, some v3, some v4, some v5, some v6, none, none] G6 H6 (.int z) := gd_var rfl d46
  have gN : GD K (tVar 3) [some (.ref wd), some v, some v2, some v3, some v4, some v5, some v6, none, none] G6 H6 (ofN n) := gd_var rfl d36
  have gZ1 : GD K (tOp (rAddA K) (tVar 4) (tC (.int 100))) [some (.ref wd), some v, some v2, some v3, some v4, some v5, some v6, none, none] G6 H6 (.int (z + 100)) := gdo gZ (gd_int (i := 100)) go_addI
  refine s_rows (K := K) (ds := rowsD n z b long) (d := .tuple [.str "insert", ofN n, ofN 0, .none]) (ga_rows gB gL gZ gN gZ1) (gd_tup (ga_cons gd_str (ga_cons gN (ga_cons (show GD K (tC (.int 0)) _ _ _ (ofN 0) from gd_int) (ga_cons gd_non ga_nil))))) wh6.gh (by show 16 ≤ 1000; decide) fun vs vt pr pp G8 H8 P7 dvs dvt hpr hpp => ?_
  have P8' := P06.trans P7
  have hprB : B1 pr = none := P8'.hh.free hpr
  have hpr0 : G8 pr = none := P7.gh.free hpr
  have sa : Same H8 (upd H8 pr (.lst [vt, .non])) := same_new hpr _
  have sb : Same (upd H8 pr (.lst [vt, .non])) (upd (upd H8 pr (.lst [vt, .non])) pp (.lst (vs ++ [.ref pr]))) := same_new hpp _
  have npp : pr ≠ pp := fun z => by rw [← z, upd_same] at hpp; cases hpp
  have pl0 : PL5 K pr G8 (upd (upd H8 pr (.lst [vt, .non])) pp (.lst (vs ++ [.ref pr]))) [.tuple [.str "insert", ofN n, ofN 0, .none], .none] := ⟨⟨_, by rw [upd_ne npp, upd_same], .cons dvt (.cons .non .nil)⟩, hpr0⟩
  have hpp2 : (upd (upd H8 pr (.lst [vt, .non])) pp (.lst (vs ++ [.ref pr]))) pp = some (.lst (vs ++ [.ref pr])) := upd_same
  have P9 : Pub B0 B1 G8 (upd (upd H8 pr (.lst [vt, .non])) pp (.lst (vs ++ [.ref pr]))) := P8'.test (sa.trans sb)
  generalize (upd (upd H8 pr (.lst [vt, .non])) pp (.lst (vs ++ [.ref pr]))) = H9 at pl0 hpp2 P9
  have s18 : Same G6 G8 := P7.hg
  have d18 := d16.to s18
  obtain ⟨k, hk⟩ : ∃ k, k = (dAt dw 0 % ((17 : Nat) : Int)).toNat := ⟨_, rfl⟩
  have hk17 : k < 17 := by rw [hk]; exact mod_lt9 (by decide)
  have ge := fun {σ : L2.St} (h1 : σ[1]? = some (some v)) => gd_modN9 (K := K) (A := H9) (H := G8) (m := 17) (gd_drawI (j := 1) 0 h1 d18 (by omega)) (show GD K (tC (.int 17)) σ G8 H9 (ofN 17) from gd_int) (by decide)
  refine ⟨.ref pp, rfl, (ge rfl).to (.refl P9.gh) fun vi G10 H10 P10 dvi => ?_⟩
  rw [← hk] at dvi
  have P10' := P9.trans P10
  by_cases h16 : k < 16
  · obtain ⟨p0, hp0⟩ : ∃ p, (rows16 n z b long)[k]? = some p := ⟨_, List.getElem?_eq_getElem (show k < 16 from h16)⟩
    obtain ⟨u, eu, du⟩ := DvA.at_ dvs (i := (k : Int)) (d := .list [.tuple p0.1, duD p0.2]) (atI_nat (by rw [rowsD_eq, List.getElem?_map, hp0]; rfl))
    have eu' : vs[k]? = some u := by
      obtain ⟨u0, hu0⟩ : ∃ u0, vs[k]? = some u0 := ⟨_, List.getElem?_eq_getElem (by rw [DvA.len dvs]; show k < 16; exact h16)⟩
      have z := atI_nat hu0
      rw [eu] at z
      rw [hu0, Option.some.inj z]
    refine .inl ⟨pp, vs ++ [.ref pr], (k : Int), u, rfl, Dv.int_inv dvi, SqL.of (P10.hh _ _ hpp2), atI_nat (by rw [List.getElem?_append_left (List.getElem?_eq_some_iff.mp eu').1]; exact eu'), ?_⟩
    have du : Dv K G10 u (.list [.tuple p0.1, duD p0.2]) := du.to P10.hg
    refine s_ifr (K := K) (b := false) (G := G10) (by
      have g := gt_test (gdo (K := K) (A := H10) (gdo (gd_var (H := G10) (σ := [some (.ref wd), some v, some v2, some v3, some v4, some v5, some v6, some (.ref pp), some u]) (i := 8) rfl du) (gd_int (i := 1)) (go_ixL rfl)) gd_non go_isN)
      have e : isNoneD (duD p0.2) = false := by cases p0.2 <;> rfl
      rw [e] at g
      exact g) P10'.gh (fun z => nomatch z) fun _ H11 s11 => ?_
    refine s_ret (K := K) (gd_var (i := 8) rfl du) (P10'.gh.trans s11) fun v12 G12 H12 P12 dv12 => ?_
    obtain ⟨hb1, hb2⟩ := rows_bad hnl hz hb p0 (List.mem_of_getElem? hp0)
    exact q _ v12 G12 H12 ⟨_, _, hb1, hb2, rfl⟩ ((P10'.test s11).trans P12) dv12
  · have ek : k = 16 := by omega
    subst ek
    have lv : vs.length = 16 := by rw [DvA.len dvs]; rfl
    refine .inl ⟨pp, vs ++ [.ref pr], (16 : Int), .ref pr, rfl, Dv.int_inv dvi, SqL.of (P10.hh _ _ hpp2), atI_nat (xs := vs ++ [.ref pr]) (j := 16) (by rw [List.getElem?_append_right (by omega), lv]; rfl), ?_⟩
    have pl := pl0.pub P10
    have d1x := d18.to P10.hg
    refine s_ifr (K := K) (b := true) (G := G10) (gt_test (gdo (K := K) (pl.ix (j := 8) (d := .none) rfl (gd_int (i := 1)) rfl) gd_non go_isN)) P10'.gh (fun _ H11 s11 => ?_) fun z => nomatch z
    have ev3 := Dv.int_inv d36
    subst ev3
    refine s_pl5set (K := K) (i := 1) (j := 8) (d := .str "top") (pl.pub (.idle P10'.gh s11)) (P10'.test s11) hprB rfl gd_str (fun G' H' p => gd_int) (by show 1 < 2; decide) fun G12 H12 pl12 P12 s12 => ?_
    have wh12 : WH K wd fl B0 H12 w := wh.pub (.idle wh.gh P12.hh)
    have gk := WH.kindG (σ := [some (.ref wd), some v, some v2, some (.int (n : Int)), some v4, some v5, some v6, some (.ref pp), some (.ref pr)]) (tn := tVar 3) wh12 rfl hnl (gd_var (i := 3) rfl (.int (n : Int)))
    refine s_if (b := decide (kindS (nd w.ns n).txt = "t")) (gt_test (gdo (K := K) gk gd_str go_eqS)) wh12.gh (fun hc H13 s13 => ?_) fun hc H13 s13 => ?_
    · have ht : (nd w.ns n).txt = true := by
        cases z : (nd w.ns n).txt with
        | true => rfl
        | false => rw [z] at hc; exact absurd hc (by decide +kernel)
      refine s_pl5set (K := K) (i := 1) (j := 8) (d := .str "not an element") (pl12.pub (.idle P12.gh s13)) (P12.test s13) hprB rfl gd_str (fun G' H' p => gd_int) (by show 1 < 2; decide) fun G14 H14 pl14 P14 s14 => ?_
      obtain ⟨G15, P15, dv15⟩ := pl14.open_ P14 hprB
      exact ⟨.ref pr, rfl, q _ (.ref pr) G15 H14 ⟨_, .rf "not an element", .insert (.t hnl o.pos ht), ⟨by decide +kernel, by decide +kernel, by decide +kernel⟩, rfl⟩ P15 dv15⟩
    · have ht : (nd w.ns n).txt = false := by
        cases z : (nd w.ns n).txt with
        | false => rfl
        | true => rw [z] at hc; exact absurd hc (by decide +kernel)
      have P13 := P12.test s13
      have d113 := d1x.to s12
      refine s_if (G := G12) (gt_test (gdo (K := K) (gdo (gd_drawI (j := 1) 2 rfl d113 (by omega)) (gd_int (i := 2)) (go_ic (C := fun _ j => 0 < j) (f := fun i j => i % j) (by omega))) (gd_int (i := 1)) go_eqI)) P13.gh (fun _ H14 s14 => ?_) fun _ H14 s14 => ?_
      · refine s_setE (K := K) (d := .list [.tuple [.str "remove", ofN 0], .str "no parent"]) (gd_lst (ga_cons (gd_tup (ga_cons gd_str (ga_cons (show GD K (tC (.int 0)) _ _ _ (ofN 0) from gd_int) ga_nil))) (ga_cons gd_str ga_nil))) (P13.test s14).gh fun v8 G15 H15 P15 dv15 => ?_
        refine s_ret (K := K) (gd_var (i := 8) rfl dv15) P15.gh fun v12 G16 H16 P16 dv16 => ?_
        exact q _ v12 G16 H16 ⟨_, .rf "no parent", .remove .o, ⟨by decide +kernel, by decide +kernel, by decide +kernel⟩, rfl⟩ (((P13.test s14).trans P15).trans P16) dv16
      · obtain ⟨G15, P15, dv15⟩ := (pl12.pub (.idle P12.gh (s13.trans s14))).open_ (P13.test s14) hprB
        exact ⟨.ref pr, rfl, q _ (.ref pr) G15 H14 ⟨_, .rf "top", .insert (.o hnl ht), ⟨by decide +kernel, by decide +kernel, by decide +kernel⟩, rfl⟩ P15 dv15⟩
end
end LW
end
section
set_option Elab.async false
set_option linter.all false
set_option maxRecDepth 100000
set_option maxHeartbeats 8000000
namespace LW
open PySem PySem.Spec PyProof.Rows L2 DL LM
section
variable {P : Program} {W : World} {K : PySem.W.Frag} {mg : Str → Option Value} {base : Heap} {f : Addr} {fd : FuncData} {CD CN Cbd : Addr} {ec : EC} {a a0 : DA} {A A2 H H0 H1 H2 G G2 Hc : Hp} {w w' : Wm} {σ : L2.St} {t te tn ti t1 t2 : TE} {tr : TS} {ts : TS} {Dd : Ends} {tA : TA} {wd : Addr} {fl : Nat → Addr} {n j : Nat} {d : PyData} {v : V} {p : Addr} {ds ds' : List PyData}
theorem gt_nsame9 {k : Nat} {d e : PyData} (g1 : GD K t1 σ H A d) (g2 : GD K t2 σ H A e) (z : d = e) (h : DLt k e) : GT (tNot (tTr K (tCall (spF K 2 (preSame k) fSame) [] E0 (tCons t1 (tCons t2 tNil))))) σ H A false := by
  subst z
  have g := gd_call (K := K) (f := fSame) (Pre := preSame k) (ga_cons g1 (ga_cons g2 ga_nil)) rfl ⟨d, d, rfl, h⟩
  have e1 : fSame [d, d] = .bool true := congrArg PyData.bool (sameD_eq rfl)
  rw [e1] at g
  exact gt_not (b := true) (gt_tr g)
def bD49 (w : Wm) : PyData := .list [shapeF 60 w.ns 0, ofN w.told.length, ofN w.ns.length]
theorem gd_b49 (dh : DH K CD CN a H A w) (o : Ok w.ns) (h0 : σ[2]? = some (some (.ref a.x))) : GD K (tLst (tCons (tMeth CD "shape" (spN K CD CN 1 ar1 (preShape 60) fun w n => shapeF 60 w.ns n) [.int 0] E0 (tVar 2) tNil) (tCons (tCB (DL.rLen K) (tCons (tMeth CD "changes" (spCh K CD CN) [.int 0] E0 (tVar 2) tNil) tNil)) (tCons (tMeth CD "nodes" (spN K CD CN 0 ar0 preAny fun w _ => ofN w.ns.length) [] E0 (tVar 2) tNil) tNil)))) σ H A (bD49 w) :=
  gd_lst (ga_cons (gd_shape0 dh o h0 (o.ht o.pos)) (ga_cons (gd_cb (ga_cons (gd_ch0 dh h0) ga_nil) gc_lenL) (ga_cons (gd_callNJ (mn := "nodes") (CD := CD) (ar := ar0) (tA := tNil) (Pre := preAny) (f := fun w _ => ofN w.ns.length) () dh o h0 ga_nil rfl trivial rfl) ga_nil)))
theorem dlt_b49 (o : Ok w.ns) (s : Shorts w.ns) : DLt 130 (bD49 w) := by
  refine DLt.mono (n := 125) ⟨by show 3 ≤ 1000000; decide, fun y hy => ?_⟩ (by decide)
  simp only [List.mem_cons, List.mem_nil_iff, or_false] at hy
  rcases hy with rfl | rfl | rfl
  · exact DLt.mono (dlt_shape o 60 0) (by decide)
  · trivial
  · trivial
/-- document.text("t") where there is room -/
theorem e_text9 {Q : VK} (dh : DH K CD CN a G H w) (o : Ok w.ns) (h0 : σ[j]? = some (some (.ref a.x))) (g : GD K te σ G H (.str "t")) (hl : w.ns.length < 60)
    (k : ∀ v a' G' H', DH K CD CN a' G' H' { w with ns := w.ns ++ [mkNd true "t"] } → a'.x = a.x → Same G G' → Dv K G' v (ofN w.ns.length) → Q v H') :
    tMeth CD "text" (spX K CD CN ec 1 arS (fun _ s => plainT s = true) fun w s => fMd w (true, s)) [] E0 (tVar j) (tCons te tNil) σ H Q := ⟨.ref a.x, h0, a.x, a.dx, docF a, rfl, dh.o, rfl, g.to (.refl dh.gh) fun v G2 H2 p2 dv => by
  refine ⟨a, [v], "t", G2, w, rfl, rfl, dh.pub p2, o, .cons dv .nil, by show plainT "t" = true; decide +kernel, fun w' d' v2 a' G' H' hf hx st h dw => ?_, fun e dd a' G' H' hf => ?_⟩
  · unfold fMd at hf
    dsimp only at hf
    rw [if_neg (by omega)] at hf
    cases hf
    exact k v2 a' G' H' h hx (p2.hg.trans st.hg) dw
  · unfold fMd at hf
    dsimp only at hf
    rw [if_neg (by omega)] at hf
    cases hf⟩
theorem ok_add9 {ns : List Nd} (o : Ok ns) (hl : ns.length < 60) : Ok (ns ++ [mkNd true "t"]) := o.make hl true "t"
abbrev σ49 (s wd ax : Addr) (x3 x4 x5 x6 x7 x8 : Option V) : L2.St := [some (.ref s), some (.ref wd), some (.ref ax), x3, x4, x5, x6, x7, x8]
abbrev slaw : Stmt := topS 42
theorem sclaw : FnScope ["script", "world", "document", "before", "cell", "deed", "due", "k", "told"] ["script"] (defScope slaw) := ⟨rfl, rfl, rfl, by decide +kernel, rfl, by decide +kernel, by decide +kernel⟩
theorem ok_law (T : Bt mg) (F : Fun K "law" "law" slaw f fd) (c_law_started : Cal P W K mg base 69 "_law_started" (spSt K CD CN)) (c_law_draws : Cal P W K mg base 1 "_law_draws" (spD K 2 preDraws resDraws)) (c_law_wrong : Cal P W K mg base 1 "_law_wrong" (spRR K 1 arDr preDr resWr)) (c_law_word : Cal P W K mg base 67 "_law_word" (spLq K CD CN)) (c_law_kind : Cal P W K mg base 1 "_law_kind" (spA K 1 arEr kdOk erD))
    (c_law_same : Cal P W K mg base 130 "_law_same" (spF K 2 (preSame 130) fSame)) (m_shape0 : MetD P W K mg base 64 CD "shape" [.int 0] (spN K CD CN 1 ar1 (preShape 60) fun w n => shapeF 60 w.ns n)) (m_changes0 : MetD P W K mg base 1 CD "changes" [.int 0] (spCh K CD CN)) (m_nodes : Met P W K mg base CX0 1 CD "nodes" (spN K CD CN 0 ar0 preAny fun w _ => ofN w.ns.length))
    (m_text : Met P W K mg base (L2.CX P W) 4 CD "text" (spX K CD CN ec 1 arS (fun _ s => plainT s = true) fun w s => fMd w (true, s))) : FnOk P W K mg base CX0 131 f fd ["script"] (spLaw K) := by
  refine F.ok sclaw (fun vs H Q E h => ?_) (fun cdv A outer s H vs Q E hr h => ?_)
  · obtain ⟨_, _, rfl, _⟩ := h
    rfl
  obtain ⟨s, ns, rfl, hs, hns, q⟩ := h
  refine ⟨_, (pss_cons (ps_asg (pe_k c_law_started hr (by omega) (pa_cons (pv 0) (pa_cons pe_int pa_nil))) (pg_lst rfl (pgs_cons (pg_name (i := 1) sclaw.nd rfl (Or.inl rfl)) (pgs_cons (pg_name (i := 2) sclaw.nd rfl (Or.inl rfl)) pgs_nil))))
      (pss_cons (ps_set (i := 3) sclaw.nd rfl (Or.inl rfl) (pe_lst (pa_cons (pe_mD m_shape0 hr (by omega) (pv 2)) (pa_cons (pe_callB cr_len (by rfl) T.len PySem.boot_len (pa_cons (pe_mD m_changes0 hr (by omega) (pv 2)) pa_nil)) (pa_cons (pe_m0 m_nodes hr (by omega) (pv 2)) pa_nil)))))
      (pss_cons (ps_for PassesOwn.never rfl (pi_seq (pe_op op_addA (pe_lst (pa_cons pe_int (pa_cons pe_int (pa_cons pe_int (pa_cons pe_int (pa_cons pe_int (pa_cons pe_int (pa_cons pe_int (pa_cons pe_int pa_nil))))))))) (pe_callTy cr_listOf (by rfl) T.list (by decide +kernel) (pa_cons (pv 0) pa_nil)))) (pg_name (i := 4) sclaw.nd rfl (Or.inl rfl)) (pss_cons (ps_asg (pe_k c_law_wrong hr (by omega) (pa_cons (pv 1) (pa_cons (pe_k c_law_draws hr (by omega) (pa_cons (pv 4) (pa_cons pe_int pa_nil))) pa_nil))) (pg_lst rfl (pgs_cons (pg_name (i := 5) sclaw.nd rfl (Or.inl rfl)) (pgs_cons (pg_name (i := 6) sclaw.nd rfl (Or.inl rfl)) pgs_nil))))
      (pss_cons (ps_if (pt_not (pt_tr (pe_k c_law_same hr (by omega) (pa_cons (pe_k c_law_word hr (by omega) (pa_cons (pv 2) (pa_cons (pv 5) pa_nil))) (pa_cons (pe_k c_law_kind hr (by omega) (pa_cons (pv 6) pa_nil)) pa_nil))))) (pss_one (ps_ret pe_bl)) pss_nil)
      (pss_one (ps_if (pt_not (pt_tr (pe_k c_law_same hr (by omega) (pa_cons (pe_lst (pa_cons (pe_mD m_shape0 hr (by omega) (pv 2)) (pa_cons (pe_callB cr_len (by rfl) T.len PySem.boot_len (pa_cons (pe_mD m_changes0 hr (by omega) (pv 2)) pa_nil)) (pa_cons (pe_m0 m_nodes hr (by omega) (pv 2)) pa_nil)))) (pa_cons (pv 3) pa_nil))))) (pss_one (ps_ret pe_bl)) pss_nil)))))
      (pss_cons (ps_for PassesOwn.never rfl (pi_range2 (by rfl) T.range (pa_cons (pe_m0 m_nodes hr (by omega) (pv 2)) (pa_cons pe_int pa_nil))) (pg_name (i := 7) sclaw.nd rfl (Or.inl rfl)) (pss_one (ps_if (pt_not (pt_tr (pe_k c_law_same hr (by omega) (pa_cons (pe_mX m_text hr (by omega) passE0 (pv 2) (pa_cons pe_str pa_nil)) (pa_cons (pv 7) pa_nil))))) (pss_one (ps_ret pe_bl)) pss_nil)))
      (pss_cons (ps_set (i := 8) sclaw.nd rfl (Or.inl rfl) (pe_lst (pa_cons (pe_k c_law_word hr (by omega) (pa_cons (pv 2) (pa_cons (RR.pe_tupF (pa_cons pe_str (pa_cons pe_str pa_nil))) pa_nil))) (pa_cons (pe_k c_law_word hr (by omega) (pa_cons (pv 2) (pa_cons (RR.pe_tupF (pa_cons pe_str (pa_cons pe_str pa_nil))) pa_nil))) (pa_cons (pe_k c_law_word hr (by omega) (pa_cons (pv 2) (pa_cons (RR.pe_tupF (pa_cons pe_str (pa_cons pe_str pa_nil))) pa_nil))) (pa_cons (pe_m0 m_nodes hr (by omega) (pv 2)) pa_nil))))))
      (pss_one (ps_ret (pe_k c_law_same hr (by omega) (pa_cons (pv 8) (pa_cons (pe_lst (pa_cons (RR.pe_tupF (pa_cons pe_str (pa_cons pe_str pa_nil))) (pa_cons (RR.pe_tupF (pa_cons pe_str (pa_cons pe_str pa_nil))) (pa_cons (RR.pe_tupF (pa_cons pe_str (pa_cons pe_str pa_nil))) (pa_cons pe_int pa_nil))))) pa_nil)))))))))), ?_⟩
  refine s_started (m := 30) rfl hs hns fun wd fl a G1 H1 w two sH ht hdn => ?_
  have ok := two.ok
  have hpos := ok.pos
  have hlen := ok.len
  refine s_set (K := K) (d := bD49 w) (gd_b49 two.dh ok rfl) two.gh fun v3 G3 H3 P3 dv3 => ?_
  have two3 := two.pub P3
  have hs3 : SqL K H3 s (ns.map V.int) := P3.hh.seq (sH.seq hs)
  obtain ⟨cl, hcl⟩ : ∃ l : List Int, l = [0, 1, 2, 3, 4, 5, 6, 7] := ⟨_, rfl⟩
  have gcells : GD K (tOp (rAddA K) (tLst (tCons (tC (.int 0)) (tCons (tC (.int 1)) (tCons (tC (.int 2)) (tCons (tC (.int 3)) (tCons (tC (.int 4)) (tCons (tC (.int 5)) (tCons (tC (.int 6)) (tCons (tC (.int 7)) tNil))))))))) (tCB (rListOf K) (tCons (tVar 0) tNil)))
      (σ49 s wd a.x (some v3) none none none none none) G3 H3 (.list ((cl ++ ns).map .int)) := by
    rw [hcl, List.map_append]
    exact gdo (gd_lst (ga_cons (gd_int (i := 0)) (ga_cons (gd_int (i := 1)) (ga_cons (gd_int (i := 2)) (ga_cons (gd_int (i := 3)) (ga_cons (gd_int (i := 4)) (ga_cons (gd_int (i := 5)) (ga_cons (gd_int (i := 6)) (ga_cons (gd_int (i := 7)) ga_nil))))))))) (gd_listS (i := 0) rfl hs3) (go_addL (by rw [List.length_map, sizeLine_eq]; show 8 + _ ≤ _; omega))
  refine for_run (gi_seqL gcells) (.refl two3.gh) fun B HB PB => ?_
  refine ⟨fun i σ' G H' => ∃ (x4 x5 x6 : Option V), σ' = σ49 s wd a.x (some v3) x4 x5 x6 none none ∧ Two K CD CN wd fl a G H' w ∧ Same B G,
    ⟨none, none, none, rfl, two3.pub PB, .refl _⟩, fun i σ' G H' ⟨_, _, _, _, h, sB⟩ => ⟨sB, h.gh⟩, ?_, ?_⟩
  · rintro i d σ' G H' hd' ⟨x4, x5, x6, rfl, h, sB⟩ v4 G4 H4 P4 dv4
    rw [List.getElem?_map] at hd'
    obtain ⟨c, hc, rfl⟩ := Option.map_eq_some_iff.mp hd'
    have h4 := h.pub P4
    refine ⟨.ref wd, rfl, (gr_call (K := K) (H := G4) (A := H4) (ga_cons (gd_var (i := 4) rfl dv4) (ga_cons (gd_int (i := 4)) ga_nil)) rfl ⟨c, 4, rfl, by decide, by decide⟩) G4 H4 (.refl h4.gh) _ fun d v5 G5 H5 rd P5 dv5 => ?_⟩
    obtain ⟨c', m', em, dw, rfl, hl, hb⟩ := rd
    have em : m' = 4 := by
      simp at em
      exact em.2.symm
    subst em
    have h5 := h4.pub P5
    refine ⟨wd, fl, [v5], dw, G5, w, rfl, rfl, h5.wh, ok, .cons dv5 .nil, ⟨by omega, hb⟩, fun d v6 G6 H6 rw P6 dv6 => ?_⟩
    obtain ⟨xs, e, hbad, hk, rfl⟩ := rw
    have h6 := h5.pub P6
    obtain ⟨pr, ws, rfl, sq, da⟩ := Dv.lst_inv dv6
    obtain ⟨x, y, rfl, dx, dy⟩ := DvA.inv2 da
    refine ⟨pr, _, rfl, .inl (rd_same P6.gh sq), rfl, x, _, rfl, y, _, rfl, rfl, ?_⟩
    have sB6 := sB.trans (P4.hg.trans (P5.hg.trans P6.hg))
    have d36 := dv3.to (PB.hg.trans sB6)
    refine s_ifr (K := K) (b := false) (G := G6) (gt_nsame9 (K := K) (k := 130) (gd_word (CD := CD) (CN := CN) (j := 2) h6.dh ok rfl (gd_var (i := 5) rfl dx) hbad) (gd_callA (K := K) (ar := arEr) (Pre := kdOk) (f := erD) (n := 1) e (ga_cons (gd_var (i := 6) rfl dy) ga_nil) rfl hk) rfl (by
      refine DLt.mono (n := 126) ?_ (by decide)
      cases e with
      | arg z => exact ⟨by show 2 ≤ 1000000; decide, fun y hy => by simp only [List.mem_cons, List.mem_nil_iff, or_false] at hy; rcases hy with rfl | rfl <;> trivial⟩
      | no z => exact ⟨by show 2 ≤ 1000000; decide, fun y hy => by simp only [List.mem_cons, List.mem_nil_iff, or_false] at hy; rcases hy with rfl | rfl <;> trivial⟩
      | rf z => exact ⟨by show 2 ≤ 1000000; decide, fun y hy => by simp only [List.mem_cons, List.mem_nil_iff, or_false] at hy; rcases hy with rfl | rfl <;> trivial⟩)) h6.gh (fun z => nomatch z) fun _ H7 s7 => ?_
    have h7 := h6.idle s7
    refine s_if (b := false) (G := G6) (gt_nsame9 (K := K) (k := 130) (gd_b49 h7.dh ok rfl) (gd_var (i := 3) rfl d36) rfl (dlt_b49 ok two.sh)) h7.gh (fun z => nomatch z) fun _ H8 s8 => ?_
    exact ⟨G6, _, _, _, rfl, h7.idle s8, sB6⟩
  · rintro σ' G H' ⟨x4, x5, x6, rfl, h, sB⟩
    have gr0 := gi_rng2 (K := K) (i := (w.ns.length : Int)) (n := (60 : Int)) (σ := σ49 s wd a.x (some v3) x4 x5 x6 none none) (A := H') (H := G) (ga_cons (gd_callNJ (j := 2) (mn := "nodes") (CD := CD) (ar := ar0) (tA := tNil) (Pre := preAny) (f := fun w _ => ofN w.ns.length) () h.dh ok rfl ga_nil rfl trivial rfl) (ga_cons (gd_int (i := 60)) ga_nil)) (by omega)
    have eup : ((60 : Int) - (w.ns.length : Int)).toNat = 60 - w.ns.length := by omega
    rw [eup] at gr0
    refine for_run gr0 (.refl h.gh) fun B3 HB3 PB3 => ?_
    refine ⟨fun i σ' G H' => ∃ (w' : Wm) (a' : DA) (x7 : Option V), σ' = σ49 s wd a.x (some v3) x4 x5 x6 x7 none ∧ a'.x = a.x ∧ DH K CD CN a' G H' w' ∧ Ok w'.ns ∧ w'.ns.length = w.ns.length + i ∧ Same B3 G,
      ⟨w, a, none, rfl, rfl, h.dh.pub PB3, ok, rfl, .refl _⟩, fun i σ' G H' ⟨_, _, _, _, _, h, _, _, sB⟩ => ⟨sB, h.gh⟩, ?_, ?_⟩
    · rintro i d σ' G H' hd' ⟨w', a', x7, rfl, hx, dh, ok', hl', sB3⟩ v7 G4 H4 P4 dv7
      have hi : i < 60 - w.ns.length := by
        have z := (List.getElem?_eq_some_iff.mp hd').1
        rwa [List.length_map, upto_len] at z
      have ed : d = ofN (w.ns.length + i) := by
        rw [List.getElem?_map, upto_get hi] at hd'
        rw [← Option.some.inj hd']
        show PyData.int _ = PyData.int _
        congr 1
      subst ed
      have dh4 := dh.pub P4
      show tCall _ _ _ (tCons (tMeth _ _ _ _ _ _ _) _) _ _ _
      refine e_text9 (ec := ec) dh4 ok' (by rw [hx]; rfl) gd_str (by omega) fun v8 a8 G8 H8 dh8 hx8 s8 dv8 => ?_
      refine (gd_var (K := K) (i := 7) rfl (dv7.to s8)).to (.refl dh8.gh) fun u G9 H9 P9 du => ?_
      refine ⟨rfl, G9, [_, _], P9.gh, .cons (dv8.to P9.hg) (.cons du .nil), ⟨_, _, rfl, trivial⟩, fun d he y G10 H10 P10 dy => ?_⟩
      subst he
      have e1 : fSame [ofN w'.ns.length, ofN (w.ns.length + i)] = .bool true := congrArg PyData.bool (sameD_eq (by rw [hl']))
      rw [e1] at dy
      refine ⟨true, truV_of (d := .bool true) (dy.to P10.gh) rfl, ?_⟩
      refine iteF ?_
      exact ⟨G10, _, a8, some v7, rfl, hx8.trans hx, (dh8.pub P9).pub P10, ok_add9 ok' (by omega), by show (w'.ns ++ _).length = _; rw [List.length_append, hl']; rfl, sB3.trans (P4.hg.trans (s8.trans (P9.hg.trans P10.hg)))⟩
    · rintro σ' G H' ⟨w', a', x7, rfl, hx, dh, ok', hl', sB3⟩
      rw [List.length_map, upto_len] at hl'
      have hl' : w'.ns.length = 60 := by omega
      have h2 : (σ49 s wd a.x (some v3) x4 x5 x6 x7 none)[2]? = some (some (.ref a'.x)) := by rw [hx]; rfl
      have gword : ∀ {k : Str} {x : Str} {e : Er}, BadD w' [.str k, .str x] e → GD K (tCall (spLq K CD CN) [] E0 (tCons (tVar 2) (tCons (RR.tTupF (tCons (tC (.str k)) (tCons (tC (.str x)) tNil))) tNil))) (σ49 s wd a.x (some v3) x4 x5 x6 x7 none) G H' (erD e) := fun hb => gd_word (j := 2) dh ok' h2 (gd_tup (ga_cons gd_str (ga_cons gd_str ga_nil))) hb
      dsimp only
      refine s_set (K := K) (d := .list [erD (.rf "full"), erD (.rf "full"), erD (.arg "name"), ofN 60]) (gd_lst (ga_cons (gword (.element ⟨"a", rfl, by decide +kernel, .inr ⟨by decide +kernel, by omega, rfl⟩⟩)) (ga_cons (gword (.text ⟨"t", rfl, by decide +kernel, .inr ⟨by decide +kernel, by omega, rfl⟩⟩)) (ga_cons (gword (.element ⟨"A", rfl, by decide +kernel, .inl ⟨by decide +kernel, rfl⟩⟩)) (ga_cons (by
        have g := gd_callNJ (K := K) (A := H') (H := G) (σ := σ49 s wd a.x (some v3) x4 x5 x6 x7 none) (j := 2) (mn := "nodes") (CD := CD) (CN := CN) (ar := ar0) (tA := tNil) (Pre := preAny) (f := fun w _ => ofN w.ns.length) () dh ok' h2 ga_nil rfl trivial rfl
        rw [hl'] at g
        exact g) ga_nil))))) dh.gh fun v8 G8 H8 P8 dv8 => ?_
      have g := gd_call (K := K) (A := H8) (f := fSame) (Pre := preSame 130) (σ := σ49 s wd a.x (some v3) x4 x5 x6 x7 (some v8)) (ga_cons (gd_var (i := 8) rfl dv8) (ga_cons (gd_lst (ga_cons (gd_tup (ga_cons (gd_str (i := "refused")) (ga_cons (gd_str (i := "full")) ga_nil))) (ga_cons (gd_tup (ga_cons (gd_str (i := "refused")) (ga_cons (gd_str (i := "full")) ga_nil))) (ga_cons (gd_tup (ga_cons (gd_str (i := "argument")) (ga_cons (gd_str (i := "name")) ga_nil))) (ga_cons (gd_int (i := 60)) ga_nil))))) ga_nil)) rfl ⟨_, _, rfl, DLt.mono (n := 10) ⟨by show 4 ≤ 1000000; decide, fun y hy => by
        simp only [List.mem_cons, List.mem_nil_iff, or_false] at hy
        rcases hy with rfl | rfl | rfl | rfl
        · exact ⟨by show 2 ≤ 1000000; decide, fun y hy => by simp only [List.mem_cons, List.mem_nil_iff, or_false] at hy; rcases hy with rfl | rfl <;> trivial⟩
        · exact ⟨by show 2 ≤ 1000000; decide, fun y hy => by simp only [List.mem_cons, List.mem_nil_iff, or_false] at hy; rcases hy with rfl | rfl <;> trivial⟩
        · exact ⟨by show 2 ≤ 1000000; decide, fun y hy => by simp only [List.mem_cons, List.mem_nil_iff, or_false] at hy; rcases hy with rfl | rfl <;> trivial⟩
        · trivial⟩ (by decide)⟩
      refine s_ret g P8.gh fun v9 G9 H9 P9 dv9 => ?_
      have e1 : fSame [PyData.list [erD (.rf "full"), erD (.rf "full"), erD (.arg "name"), ofN 60], PyData.list [.tuple [.str "refused", .str "full"], .tuple [.str "refused", .str "full"], .tuple [.str "argument", .str "name"], .int 60]] = .bool true := congrArg PyData.bool (sameD_eq rfl)
      rw [e1] at dv9
      have e9 := Dv.bl_inv dv9
      subst e9
      exact q _
end
end LW
end
section
set_option Elab.async false
set_option linter.all false
set_option maxRecDepth 100000
set_option maxHeartbeats 4000000
/-! a written dict of numbers by texts -/
namespace DL
open PySem PySem.Spec PyProof.Rows L2
section
variable {K : PySem.W.Frag} {w : World} {A H : Hp} {σ : L2.St} {t te : TE}
/-- a table of numbers by texts -/
def tabI (l : List (Str × Int)) (x : Str) : Option Int := (l.find? fun p => decide (p.1 = x)).map (·.2)
def oI : Option Int → PyData
  | none => .none
  | some x => .int x
/-- the written dict at a is the table -/
def IsTabI (K : PySem.W.Frag) (w : World) (a : Addr) (l : List (Str × Int)) : Prop := ∃ es n, K.lookup a = some ⟨.type "dict", none, .dict es n, #[]⟩ ∧ PySem.W.KeysLit w.params es.toList ∧ (a == sysModules) = false ∧ Paired (fun (e : DictEntry) (p : Str × Int) => (∃ t, e.key = .str p.1 t) ∧ ∃ t, e.val = .int p.2 t) es.toList l
theorem isTabI_find : ∀ {es : List DictEntry} {l : List (Str × Int)}, Paired (fun (e : DictEntry) (p : Str × Int) => (∃ t, e.key = .str p.1 t) ∧ ∃ t, e.val = .int p.2 t) es l → ∀ x, RelO ((tabI l x).map V.int) ((es.find? fun d => d.key.isStr x).map (·.val)) := fun {es l} h x => by
  induction h with
  | nil => exact True.intro
  | @cons e p es l hp h ih =>
    obtain ⟨⟨t, e1⟩, ⟨u, e2⟩⟩ := hp
    have k : e.key.isStr x = decide (p.1 = x) := by
      rw [e1]
      show (p.1 == x) = _
      rw [Bool.eq_iff_iff]; simp
    unfold tabI
    rw [List.find?_cons, List.find?_cons, k]
    cases hc : decide (p.1 = x) with
    | true => exact (show RelV (.int p.2) e.val from ⟨u, e2⟩)
    | false => exact ih
theorem isTabI_w {a : Addr} {l : List (Str × Int)} (h : IsTabI K w a l) (x : Str) : RR.WDct K w a x ((tabI l x).map V.int) := by
  obtain ⟨es, n, hl, hk, hd, hp⟩ := h
  refine ⟨es, n, _, hl, hk, hd, ?_, isTabI_find hp x⟩
  unfold PySem.W.nsIn
  rw [hl]
  have hr : es.toList.any (fun e => e.refKey) = false := List.any_eq_false.mpr fun e he => by
    obtain ⟨y, t, e1, _⟩ := hk.all e he
    unfold DictEntry.refKey
    rw [e1]
    exact Bool.false_ne_true
  show (match es.toList.find? (fun e => e.key.isStr x) with | some e => some (some e.val) | none => if es.toList.any (fun e => e.refKey) = true then none else some none) = some ((es.toList.find? fun d => d.key.isStr x).map (·.val))
  cases es.toList.find? (fun e => e.key.isStr x) with
  | some e => rfl
  | none => rw [hr]; rfl
theorem gd_wgetI {a : Addr} {l : List (Str × Int)} {x : Str} (h : IsTabI K w a l) (g : GD K te σ H A (.str x)) : GD K (RR.tWGet1 K w (tC (.ref a)) te) σ H A (oI (tabI l x)) := fun H0 H1 e Q q => by
  obtain ⟨es, n, hl, hk, hd, hp⟩ := id h
  refine ⟨a, rfl, ⟨es, n, hl, hd⟩, g.to e fun v G H2 p dv => ⟨x, _, Dv.str_inv dv, isTabI_w h x, ?_⟩⟩
  have e2 : Dv K G ((Option.map V.int (tabI l x)).getD V.non) (oI (tabI l x)) := by
    cases tabI l x with
    | none => exact .non
    | some y => exact .int y
  exact q _ G H2 p e2
end
end DL
end
section
set_option Elab.async false
set_option linter.all false
set_option maxRecDepth 100000
set_option maxHeartbeats 4000000
namespace LW
open PySem PySem.Spec PyProof.Rows L2 DL LM
/-! ### what the top leaves, read by one Hook -/
section
variable {K : PySem.W.Frag} {C f : Addr}
theorem fun_ofD {x q : Str} {st : Stmt} {fd : FuncData} (F : FunD K x q (defArgs st) (defBody st) (defScope st) [] [] f fd) : Fun K x q st f fd := by
  obtain ⟨⟨oc, od, dV, kV, doc, pm, an, cdv, ct, osl, rfl, lk, hcd, hd, _⟩, kp⟩ := F
  have e : dV = .none := by
    rcases hd with ⟨_, z⟩ | ⟨z, _⟩
    · exact z
    · exact absurd rfl z
  subst e
  exact ⟨⟨oc, od, kV, doc, pm, an, cdv, ct, osl, rfl, lk, hcd⟩, kp⟩
def oexB1 (K : PySem.W.Frag) (C : Addr) : Bool := match K.lookup C with
  | some ⟨.type c, _, .cls cd, sl⟩ => decide (c = "type") && (match cd.mro, sl.toList with
    | .ref C' :: bm, [_, _, _, _, some (.builtin n), _] => C' == C && n == "ValueError.__new__" && !cd.hasDel && cd.hasDict && PySem.HandSPX.refsVE bm
    | _, _ => false)
  | _ => false
def oexB (K : PySem.W.Frag) (C : Addr) : Bool := oexB1 K C && (decide (PySem.W.findIn K (.ref C) "__setattr__" = some (some (.builtin "object.__setattr__"))) && (decide (PySem.W.subIn K (.ref C) (.type "BaseException") = some true) && (decide (PySem.W.typeIn K (.ref C) = some (.type "type")) && PySem.W.keepIn K (.ref C))))
theorem oexB_ok (h : oexB K C = true) : OexC K C := by
  obtain ⟨h1, h⟩ := He.ba h
  obtain ⟨h2, h⟩ := He.ba h
  obtain ⟨h3, h⟩ := He.ba h
  obtain ⟨h4, h5⟩ := He.ba h
  refine ⟨?_, of_decide_eq_true h2, of_decide_eq_true h3, of_decide_eq_true h4, h5⟩
  unfold oexB1 at h1
  split at h1
  · rename_i c dd cd sl ho
    obtain ⟨hc, h1⟩ := He.ba h1
    have hc := of_decide_eq_true hc
    subst hc
    split at h1
    · rename_i C' bm k0 k1 k2 k3 n k5 hm hs
      obtain ⟨nm, bs, mro, ns, qn, hd, sn, sub, ab, col, del⟩ := cd
      have hm : mro = .ref C' :: bm := hm
      have h1 : (C' == C && n == "ValueError.__new__" && !del && hd && PySem.HandSPX.refsVE bm) = true := h1
      simp only [Bool.and_eq_true, beq_iff_eq, Bool.not_eq_true'] at h1
      obtain ⟨⟨⟨⟨e1, e2⟩, e3⟩, e4⟩, ht⟩ := h1
      subst e1 e2 e3 e4 hm
      have hsl : sl = #[k0, k1, k2, k3, some (.builtin "ValueError.__new__"), k5] := by
        obtain ⟨l⟩ := sl
        simp only at hs
        rw [hs]
      subst hsl
      exact ⟨nm, qn, ns, bs, bm, sn, sub, ab, col, dd, k0, k1, k2, k3, k5, ho, ht⟩
    · cases h1
  · cases h1
def baseB (K : PySem.W.Frag) (C : Addr) : Bool := decide (PySem.W.specialIn K (.ref C) "__getattribute__" = some (some (.builtin "type.__getattribute__"))) && (PySem.W.readsIn K C (.type "type") && (match PySem.W.findCls K (.ref C) (.type "type") "__init__" with
  | some (.val (.builtin n)) => decide (n = "ValueError.__init__")
  | _ => false))
theorem baseB_ok {mg : Str → Option Value} (hm : mg "LookError" = some (.ref C)) (h : baseB K C = true) : Base K mg C := by
  obtain ⟨h1, h⟩ := He.ba h
  obtain ⟨h2, h3⟩ := He.ba h
  refine ⟨hm, of_decide_eq_true h1, h2, ?_⟩
  split at h3
  · rename_i n e
    rw [e, of_decide_eq_true h3]
  · cases h3
def tyB (K : PySem.W.Frag) (f : Addr) : Bool := decide (PySem.W.typeIn K (.ref f) = some (.type "function"))
def pairB : List DictEntry → List (Str × Int) → Bool
  | [], [] => true
  | e :: es, p :: ps => (match e.key, e.val with
    | .str k _, .int i _ => decide (k = p.1) && decide (i = p.2)
    | _, _ => false) && pairB es ps
  | _, _ => false
theorem pairB_ok : ∀ {es : List DictEntry} {l : List (Str × Int)}, pairB es l = true → Paired (fun (e : DictEntry) (p : Str × Int) => (∃ t, e.key = .str p.1 t) ∧ ∃ t, e.val = .int p.2 t) es l
  | [], [], _ => .nil
  | [], _ :: _, h => by cases h
  | _ :: _, [], h => by cases h
  | e :: es, p :: ps, h => by
    obtain ⟨h1, h2⟩ := He.ba (show ((match e.key, e.val with
      | .str k _, .int i _ => decide (k = p.1) && decide (i = p.2)
      | _, _ => false) && pairB es ps) = true from h)
    refine .cons ?_ (pairB_ok h2)
    split at h1
    · rename_i k t i u ek ev
      obtain ⟨a, b⟩ := He.ba h1
      rw [ek, ev, of_decide_eq_true a, of_decide_eq_true b]
      exact ⟨⟨_, rfl⟩, _, rfl⟩
    · cases h1
def tabB (K : PySem.W.Frag) (a : Addr) (l : List (Str × Int)) : Bool := match K.lookup a with
  | some ⟨_, _, .dict es _, _⟩ => pairB es.toList l
  | _ => false
theorem tabB_ok {w : World} {a : Addr} {l : List (Str × Int)} {es : Array DictEntry} {n : Nat} (h : KDict K w a es n) (q : tabB K a l = true) : IsTabI K w a l := by
  unfold tabB at q
  rw [h.at_] at q
  exact ⟨es, n, h.at_, h.lit, h.low, pairB_ok q⟩
def tupB0 (K : PySem.W.Frag) (a : Addr) (vs : List V) : Bool := match K.lookup a with
  | some ⟨.type c, none, .seq its _, _⟩ => decide (c = "tuple") && (decide (its.size ≤ sizeLine) && He.relAll vs its.toList)
  | _ => false
theorem tupB0_ok {a : Addr} {vs : List V} (h : tupB0 K a vs = true) : ∃ o its n, K.lookup a = some o ∧ o.cls = .type "tuple" ∧ o.dict = none ∧ o.data = .seq its n ∧ its.size ≤ sizeLine ∧ Vals vs its.toList := by
  unfold tupB0 at h
  split at h
  · rename_i c its n sl e
    obtain ⟨h1, h⟩ := He.ba h
    obtain ⟨h2, h3⟩ := He.ba h
    exact ⟨_, its, n, e, congrArg Value.type (of_decide_eq_true h1), rfl, rfl, of_decide_eq_true h2, He.relAll_ok h3⟩
  · cases h
end
def vvB (K : PySem.W.Frag) (x y : Str) : Bool := decide (He.ga K x = He.ga K y)
theorem vv_eq {K : PySem.W.Frag} {x y : Str} (h : vvB K x y = true) : He.ga K x = He.ga K y := of_decide_eq_true h
/-! the Hook: facts, defs, tables, and tests of one's own -/
abbrev AlM : Type := He.AlT × Bool
def obsM (fa : List He.Fa) (fn : List He.DefD) (ts : List He.Tab) (cb : List (PySem.W.Frag → Bool)) (K : PySem.W.Frag) : AlM := (He.obsT fa fn ts K, cb.all fun f => f K)
/-- where the objects stand: the latest first -/
def downL : Nat → List Addr
  | 0 => [0]
  | n + 1 => (n + 1) :: downL n
def asR (n : Nat) : List Addr := mainGlobals :: cStatics :: downL n
def obsMG (n : Nat) (fa : List He.Fa) (fn : List He.DefD) (ts : List He.Tab) (cb : List (PySem.W.Frag → Bool)) (g : Addr → Option Obj) : AlM := obsM fa fn ts cb (He.frG g (asR n))
def SaysM (fa : List He.Fa) (fn : List He.DefD) (ts : List He.Tab) (cb : List (PySem.W.Frag → Bool)) (w : World) (K : PySem.W.Frag) : Prop := obsM fa fn ts cb K = (He.valT fn ts w, true)
def hookM (n : Nat) (fa : List He.Fa) (fn : List He.DefD) (ts : List He.Tab) (cb : List (PySem.W.Frag → Bool)) : PySem.W.Hook where
  α := AlM
  obs := fun s => obsMG n fa fn ts cb s.heap.get?
  val := fun w => (He.valT fn ts w, true)
  says := fun w h => ∃ K : PySem.W.Frag, K.In h ∧ SaysM fa fn ts cb w K
  of := fun _ _ e => ⟨_, He.frG_in, e⟩
  keeps := fun _ _ _ ⟨K, hK, c⟩ k => ⟨K, PySem.W.Frag.In.keeps hK k, c⟩
theorem obsMG_eq {n : Nat} {fa : List He.Fa} {fn : List He.DefD} {ts : List He.Tab} {cb : List (PySem.W.Frag → Bool)} {g : Addr → Option Obj} {s : Shared} (h : ∀ a, g a = s.heap.get? a) : obsMG n fa fn ts cb g = (hookM n fa fn ts cb).obs s := by
  have e : g = s.heap.get? := funext h
  rw [e] <;> rfl
section
variable {fa : List He.Fa} {fn : List He.DefD} {ts : List He.Tab} {cb : List (PySem.W.Frag → Bool)} {w : World} {K : PySem.W.Frag}
theorem SaysM.t (c : SaysM fa fn ts cb w K) : He.SaysT fa fn ts w K := congrArg (fun z : AlM => z.1) c
theorem SaysM.b (c : SaysM fa fn ts cb w K) (i : Nat) {f : PySem.W.Frag → Bool} (h : cb[i]? = some f := by rfl) : f K = true :=
  List.all_eq_true.mp (show (cb.all fun f => f K) = true from congrArg (fun z : AlM => z.2) c) f (List.mem_of_getElem? h)
end
/-! in parts: one run each -/
abbrev Part : Type := List He.Fa × List He.DefD × List He.Tab × List (PySem.W.Frag → Bool)
def obP (n : Nat) (p : Part) (g : Addr → Option Obj) : AlM := obsMG n p.1 p.2.1 p.2.2.1 p.2.2.2 g
abbrev hookQ (n : Nat) (p : Part) : PySem.W.Hook := hookM n p.1 p.2.1 p.2.2.1 p.2.2.2
abbrev obQ (n : Nat) (p : Part) (s : PySem.W.SharedT) : AlM := obP n p (HandSHeadRun.getT s)
abbrev hookP (n : Nat) (ps : List Part) : PySem.W.Hook where
  α := List AlM
  obs := fun s => ps.map fun p => obP n p s.heap.get?
  val := fun w => ps.map fun p => (He.valT p.2.1 p.2.2.1 w, true)
  says := fun w h => ∃ K : PySem.W.Frag, K.In h ∧ ∀ p ∈ ps, SaysM p.1 p.2.1 p.2.2.1 p.2.2.2 w K
  of := fun w s e => by
    have e : (ps.map fun p => obP n p s.heap.get?) = ps.map fun p => (He.valT p.2.1 p.2.2.1 w, true) := e
    exact ⟨He.frG s.heap.get? (asR n), He.frG_in, fun p hp => List.map_inj_left.mp e p hp⟩
  keeps := fun _ _ _ ⟨K, hK, c⟩ k => ⟨K, PySem.W.Frag.In.keeps hK k, c⟩
theorem obP_eq {n : Nat} {ps : List Part} (s : PySem.W.SharedT) : (show (hookP n ps).α from ps.map fun p => obQ n p s) = (hookP n ps).obs s.abs := by
  have e : HandSHeadRun.getT s = s.abs.heap.get? := funext (HandSHeadRun.getT_eq s)
  show (ps.map fun p => obP n p (HandSHeadRun.getT s)) = ps.map fun p => obP n p s.abs.heap.get?
  rw [e]
theorem run_parts {r : PySem.W.OpenRow} {q : Program} {M n : Nat} {loose : List Str} {w : World} {ps : List Part} (hne : ps ≠ []) (h : ∀ p ∈ ps, HandSHeadRun.RunEq r q (hookQ n p) (obQ n p) M loose w) : HandSHeadRun.RunEq r q (hookP n ps) (fun s => ps.map fun p => obQ n p s) M loose w := fun os => by
  obtain ⟨p0, hp0⟩ := List.exists_mem_of_ne_nil _ hne
  obtain ⟨s, hs, e⟩ := Option.map_eq_some_iff.mp (h p0 hp0 os)
  refine Option.map_eq_some_iff.mpr ⟨s, hs, ?_⟩
  have all : ∀ p ∈ ps, obQ n p s = (He.valT p.2.1 p.2.2.1 w, true) := fun p hp => by
    obtain ⟨s', hs', e'⟩ := Option.map_eq_some_iff.mp (h p hp os)
    have es : s' = s := Option.some.inj (hs'.symm.trans hs)
    subst es
    exact (Prod.mk.inj (Prod.mk.inj e').2).2
  obtain ⟨e1, e2⟩ := Prod.mk.inj e
  obtain ⟨e3, _⟩ := Prod.mk.inj e2
  show (_, _, ps.map fun p => obQ n p s) = (true, _, ps.map fun p => (He.valT p.2.1 p.2.2.1 w, true))
  rw [List.map_congr_left all, e1, e3]
end LW
end
section
set_option Elab.async false
set_option linter.all false
set_option maxRecDepth 100000
set_option maxHeartbeats 0
namespace LW
open PySem PySem.Spec PyProof.Rows L2 DL LM
section
variable {P : Program} {W : World} {K : PySem.W.Frag} {mg : Str → Option Value} {base : Heap} {f : Addr} {fd : FuncData} {CD CN : Addr} {ec : EC}
theorem ok_dshape (T : Bt mg) (D : DC K CD CN) (F : FunD K "shape" "Document.shape" (defArgs sDocument_shape) (defBody sDocument_shape) (defScope sDocument_shape) [.int 0] [] f fd) (m__node : Met P W K mg base (L2.CX P W) 3 CD "_node" (spNode K CD CN ec)) (hM : Meth K CD "shape" f) (b : Binds K fd ["self", "number"] []) :
    ∀ j, FnOk P W K mg base CX0 (4 + j) f fd ["self", "number"] (spN K CD CN 1 ar1 (preShape j) fun w n => shapeF j w.ns n)
  | 0 => fn_none fun vs H Q E h => by
      obtain ⟨_, _, _, _, _, _, _, _, _, _, hb, _⟩ := h
      exact hb
  | j + 1 => ok_dshape_step T D F m__node ⟨f, fd, _, D.cD, hM, ok_dshape T D F m__node hM b j, b⟩
/-- an error of the class at S is (not) what «except C» names -/
theorem exm_of {S C : Addr} {y : Bool} (h1 : PySem.W.subIn K (.ref S) (.type "BaseException") = some true) (h2 : PySem.W.isClsIn K C = true) (h3 : PySem.W.typeIn K (.ref C) = some (.type "type")) (hb : PySem.W.subIn K (.ref C) (.type "BaseException") = some true) (h4 : PySem.W.subIn K (.ref S) (.ref C) = some y) : PySem.W.exmOne K (.ref S) (.ref C) = some y := by
  have e1 : (PySem.W.subIn K (.ref C) (.type "BaseException") == some true) = true := by rw [hb]; rfl
  have e2 : ((PySem.W.clsIn K C).isSome && PySem.W.typeIn K (.ref C) == some (.type "type")) = true := by
    have h2' : (PySem.W.clsIn K C).isSome = true := h2
    rw [h2', h3]; rfl
  show (if (PySem.W.subIn K (.ref C) (.type "BaseException") == some true) = true then (if ((PySem.W.clsIn K C).isSome && PySem.W.typeIn K (.ref C) == some (.type "type")) = true then PySem.W.subIn K (.ref S) (.ref C) else none) else none) = some y
  rw [if_pos e1, if_pos e2]
  exact h4
end
theorem all_core {P : Program} {w : World} {K : PySem.W.Frag} {mg : Str → Option Value}
    {CD CN Cno Crf Cbd CB f_is_letter f_is_plain_sign f_is_name f_is_plain f_is_number f__law_draws f__law_same f__law_blank f__law_shape f__law_above f__law_tell f__law_below f__law_make f__law_next f__law_out f__law_put f__law_mark f__law_missing f__law_do f__law_deed f__law_call f__law_told f__law_grown f__law_started f__law_word f__law_kind f__law_wrong f_law f_InvalidArgument_init f_NoSuchNode_init f_RefusedError_init f_Node_init f_Document_init f_Document_element f_Document_text f_Document_insert f_Document_remove f_Document_mark f_Document_unmark f_Document_write f_Document_shape f_Document_parent f_Document_above f_Document_nodes f_Document_changes f_Document_node f_Document_make f_Document_tell f_Document_check_insert f_Document_is_there f_Document_check_mark f_Document_set_mark : Addr}
    {fd_is_letter fd_is_plain_sign fd_is_name fd_is_plain fd_is_number fd__law_draws fd__law_same fd__law_blank fd__law_shape fd__law_above fd__law_tell fd__law_below fd__law_make fd__law_next fd__law_out fd__law_put fd__law_mark fd__law_missing fd__law_do fd__law_deed fd__law_call fd__law_told fd__law_grown fd__law_started fd__law_word fd__law_kind fd__law_wrong fd_law fd_InvalidArgument_init fd_NoSuchNode_init fd_RefusedError_init fd_Node_init fd_Document_init fd_Document_element fd_Document_text fd_Document_insert fd_Document_remove fd_Document_mark fd_Document_unmark fd_Document_write fd_Document_shape fd_Document_parent fd_Document_above fd_Document_nodes fd_Document_changes fd_Document_node fd_Document_make fd_Document_tell fd_Document_check_insert fd_Document_is_there fd_Document_check_mark fd_Document_set_mark : FuncData}
    (F_is_letter : Fun K "is_letter" "is_letter" sis_letter f_is_letter fd_is_letter)
    (H_is_letter : mg "is_letter" = some (.ref f_is_letter))
    (F_is_plain_sign : Fun K "is_plain_sign" "is_plain_sign" sis_plain_sign f_is_plain_sign fd_is_plain_sign)
    (H_is_plain_sign : mg "is_plain_sign" = some (.ref f_is_plain_sign))
    (F_is_name : Fun K "is_name" "is_name" sis_name f_is_name fd_is_name)
    (H_is_name : mg "is_name" = some (.ref f_is_name))
    (F_is_plain : Fun K "is_plain" "is_plain" sis_plain f_is_plain fd_is_plain)
    (H_is_plain : mg "is_plain" = some (.ref f_is_plain))
    (F_is_number : Fun K "is_number" "is_number" sis_number f_is_number fd_is_number)
    (H_is_number : mg "is_number" = some (.ref f_is_number))
    (F__law_draws : Fun K "_law_draws" "_law_draws" s_law_draws f__law_draws fd__law_draws)
    (H__law_draws : mg "_law_draws" = some (.ref f__law_draws))
    (F__law_same : Fun K "_law_same" "_law_same" s_law_same f__law_same fd__law_same)
    (H__law_same : mg "_law_same" = some (.ref f__law_same))
    (F__law_blank : Fun K "_law_blank" "_law_blank" s_law_blank f__law_blank fd__law_blank)
    (H__law_blank : mg "_law_blank" = some (.ref f__law_blank))
    (F__law_shape : Fun K "_law_shape" "_law_shape" s_law_shape f__law_shape fd__law_shape)
    (H__law_shape : mg "_law_shape" = some (.ref f__law_shape))
    (F__law_above : Fun K "_law_above" "_law_above" s_law_above f__law_above fd__law_above)
    (H__law_above : mg "_law_above" = some (.ref f__law_above))
    (F__law_tell : Fun K "_law_tell" "_law_tell" s_law_tell f__law_tell fd__law_tell)
    (H__law_tell : mg "_law_tell" = some (.ref f__law_tell))
    (F__law_below : Fun K "_law_below" "_law_below" s_law_below f__law_below fd__law_below)
    (H__law_below : mg "_law_below" = some (.ref f__law_below))
    (F__law_make : Fun K "_law_make" "_law_make" s_law_make f__law_make fd__law_make)
    (H__law_make : mg "_law_make" = some (.ref f__law_make))
    (F__law_next : Fun K "_law_next" "_law_next" s_law_next f__law_next fd__law_next)
    (H__law_next : mg "_law_next" = some (.ref f__law_next))
    (F__law_out : Fun K "_law_out" "_law_out" s_law_out f__law_out fd__law_out)
    (H__law_out : mg "_law_out" = some (.ref f__law_out))
    (F__law_put : Fun K "_law_put" "_law_put" s_law_put f__law_put fd__law_put)
    (H__law_put : mg "_law_put" = some (.ref f__law_put))
    (F__law_mark : Fun K "_law_mark" "_law_mark" s_law_mark f__law_mark fd__law_mark)
    (H__law_mark : mg "_law_mark" = some (.ref f__law_mark))
    (F__law_missing : Fun K "_law_missing" "_law_missing" s_law_missing f__law_missing fd__law_missing)
    (H__law_missing : mg "_law_missing" = some (.ref f__law_missing))
    (F__law_do : Fun K "_law_do" "_law_do" s_law_do f__law_do fd__law_do)
    (H__law_do : mg "_law_do" = some (.ref f__law_do))
    (F__law_deed : Fun K "_law_deed" "_law_deed" s_law_deed f__law_deed fd__law_deed)
    (H__law_deed : mg "_law_deed" = some (.ref f__law_deed))
    (F__law_call : Fun K "_law_call" "_law_call" s_law_call f__law_call fd__law_call)
    (H__law_call : mg "_law_call" = some (.ref f__law_call))
    (F__law_told : Fun K "_law_told" "_law_told" s_law_told f__law_told fd__law_told)
    (H__law_told : mg "_law_told" = some (.ref f__law_told))
    (F__law_grown : Fun K "_law_grown" "_law_grown" s_law_grown f__law_grown fd__law_grown)
    (H__law_grown : mg "_law_grown" = some (.ref f__law_grown))
    (F__law_started : Fun K "_law_started" "_law_started" s_law_started f__law_started fd__law_started)
    (H__law_started : mg "_law_started" = some (.ref f__law_started))
    (F__law_word : Fun K "_law_word" "_law_word" s_law_word f__law_word fd__law_word)
    (H__law_word : mg "_law_word" = some (.ref f__law_word))
    (F__law_kind : Fun K "_law_kind" "_law_kind" s_law_kind f__law_kind fd__law_kind)
    (H__law_kind : mg "_law_kind" = some (.ref f__law_kind))
    (F__law_wrong : Fun K "_law_wrong" "_law_wrong" s_law_wrong f__law_wrong fd__law_wrong)
    (H__law_wrong : mg "_law_wrong" = some (.ref f__law_wrong))
    (F_law : Fun K "law" "law" slaw f_law fd_law)
    (H_law : mg "law" = some (.ref f_law))
    (H_CD : mg "Document" = some (.ref CD))
    (H_CN : mg "Node" = some (.ref CN))
    (H_Cno : mg "NoSuchNode" = some (.ref Cno))
    (H_Crf : mg "RefusedError" = some (.ref Crf))
    (H_Cbd : mg "InvalidArgument" = some (.ref Cbd))
    (hL : Base K mg CB)
    (F_InvalidArgument_init : Fun K "__init__" "InvalidArgument.__init__" sInvalidArgument_init f_InvalidArgument_init fd_InvalidArgument_init)
    (a_InvalidArgument_init : PySem.W.findIn K (.ref Cbd) "__init__" = some (some (.ref f_InvalidArgument_init)))
    (y_InvalidArgument_init : PySem.W.typeIn K (.ref f_InvalidArgument_init) = some (.type "function"))
    (F_NoSuchNode_init : Fun K "__init__" "NoSuchNode.__init__" sNoSuchNode_init f_NoSuchNode_init fd_NoSuchNode_init)
    (a_NoSuchNode_init : PySem.W.findIn K (.ref Cno) "__init__" = some (some (.ref f_NoSuchNode_init)))
    (y_NoSuchNode_init : PySem.W.typeIn K (.ref f_NoSuchNode_init) = some (.type "function"))
    (F_RefusedError_init : Fun K "__init__" "RefusedError.__init__" sRefusedError_init f_RefusedError_init fd_RefusedError_init)
    (a_RefusedError_init : PySem.W.findIn K (.ref Crf) "__init__" = some (some (.ref f_RefusedError_init)))
    (y_RefusedError_init : PySem.W.typeIn K (.ref f_RefusedError_init) = some (.type "function"))
    (F_Node_init : Fun K "__init__" "Node.__init__" sNode_init f_Node_init fd_Node_init)
    (Mk_CN : Mk K CN f_Node_init)
    (F_Document_init : Fun K "__init__" "Document.__init__" sDocument_init f_Document_init fd_Document_init)
    (Mk_CD : Mk K CD f_Document_init)
    (F_Document_element : Fun K "element" "Document.element" sDocument_element f_Document_element fd_Document_element)
    (M_Document_element : Meth K CD "element" f_Document_element)
    (F_Document_text : Fun K "text" "Document.text" sDocument_text f_Document_text fd_Document_text)
    (M_Document_text : Meth K CD "text" f_Document_text)
    (F_Document_insert : FunD K "insert" "Document.insert" (defArgs sDocument_insert) (defBody sDocument_insert) (defScope sDocument_insert) [.non] [] f_Document_insert fd_Document_insert)
    (M_Document_insert : Meth K CD "insert" f_Document_insert)
    (F_Document_remove : Fun K "remove" "Document.remove" sDocument_remove f_Document_remove fd_Document_remove)
    (M_Document_remove : Meth K CD "remove" f_Document_remove)
    (F_Document_mark : Fun K "mark" "Document.mark" sDocument_mark f_Document_mark fd_Document_mark)
    (M_Document_mark : Meth K CD "mark" f_Document_mark)
    (F_Document_unmark : Fun K "unmark" "Document.unmark" sDocument_unmark f_Document_unmark fd_Document_unmark)
    (M_Document_unmark : Meth K CD "unmark" f_Document_unmark)
    (F_Document_write : Fun K "write" "Document.write" sDocument_write f_Document_write fd_Document_write)
    (M_Document_write : Meth K CD "write" f_Document_write)
    (F_Document_shape : FunD K "shape" "Document.shape" (defArgs sDocument_shape) (defBody sDocument_shape) (defScope sDocument_shape) [.int 0] [] f_Document_shape fd_Document_shape)
    (M_Document_shape : Meth K CD "shape" f_Document_shape)
    (F_Document_parent : Fun K "parent" "Document.parent" sDocument_parent f_Document_parent fd_Document_parent)
    (M_Document_parent : Meth K CD "parent" f_Document_parent)
    (F_Document_above : Fun K "above" "Document.above" sDocument_above f_Document_above fd_Document_above)
    (M_Document_above : Meth K CD "above" f_Document_above)
    (F_Document_nodes : Fun K "nodes" "Document.nodes" sDocument_nodes f_Document_nodes fd_Document_nodes)
    (M_Document_nodes : Meth K CD "nodes" f_Document_nodes)
    (F_Document_changes : FunD K "changes" "Document.changes" (defArgs sDocument_changes) (defBody sDocument_changes) (defScope sDocument_changes) [.int 0] [] f_Document_changes fd_Document_changes)
    (M_Document_changes : Meth K CD "changes" f_Document_changes)
    (F_Document_node : Fun K "_node" "Document._node" sDocument_node f_Document_node fd_Document_node)
    (M_Document_node : Meth K CD "_node" f_Document_node)
    (F_Document_make : Fun K "_make" "Document._make" sDocument_make f_Document_make fd_Document_make)
    (M_Document_make : Meth K CD "_make" f_Document_make)
    (F_Document_tell : Fun K "_tell" "Document._tell" sDocument_tell f_Document_tell fd_Document_tell)
    (M_Document_tell : Meth K CD "_tell" f_Document_tell)
    (F_Document_check_insert : Fun K "_check_insert" "Document._check_insert" sDocument_check_insert f_Document_check_insert fd_Document_check_insert)
    (M_Document_check_insert : Meth K CD "_check_insert" f_Document_check_insert)
    (F_Document_is_there : Fun K "_is_there" "Document._is_there" sDocument_is_there f_Document_is_there fd_Document_is_there)
    (M_Document_is_there : Meth K CD "_is_there" f_Document_is_there)
    (F_Document_check_mark : Fun K "_check_mark" "Document._check_mark" sDocument_check_mark f_Document_check_mark fd_Document_check_mark)
    (M_Document_check_mark : Meth K CD "_check_mark" f_Document_check_mark)
    (F_Document_set_mark : Fun K "_set_mark" "Document._set_mark" sDocument_set_mark f_Document_set_mark fd_Document_set_mark)
    (M_Document_set_mark : Meth K CD "_set_mark" f_Document_set_mark)
    (cl_CD : Cls K CD)
    (cl_CN : Cls K CN)
    (n_CD__kept : NoAttr K CD "_kept")
    (n_CD__told : NoAttr K CD "_told")
    (n_CN_name : NoAttr K CN "name")
    (n_CN_words : NoAttr K CN "words")
    (n_CN_marks : NoAttr K CN "marks")
    (n_CN_up : NoAttr K CN "up")
    (n_CN_below : NoAttr K CN "below")
    (O_Cno : OexC K Cno)
    (nf_Cno : PySem.W.findIn K (.ref Cno) "number" = some none)
    (O_Crf : OexC K Crf)
    (nf_Crf : PySem.W.findIn K (.ref Crf) "reason" = some none)
    (O_Cbd : OexC K Cbd)
    (nf_Cbd : PySem.W.findIn K (.ref Cbd) "name" = some none)
    (xf_Cno : XfC K Cno)
    (xf_Crf : XfC K Crf)
    (xf_Cbd : XfC K Cbd)
    (e_bb : PySem.W.exmOne K (.ref Cbd) (.ref Cbd) = some true)
    (e_nb : PySem.W.exmOne K (.ref Cno) (.ref Cbd) = some false)
    (e_rb : PySem.W.exmOne K (.ref Crf) (.ref Cbd) = some false)
    (e_nn : PySem.W.exmOne K (.ref Cno) (.ref Cno) = some true)
    (e_rn : PySem.W.exmOne K (.ref Crf) (.ref Cno) = some false)
    (e_rr : PySem.W.exmOne K (.ref Crf) (.ref Crf) = some true)
    (z_len : mg "len" = none)
    (z_isinstance : mg "isinstance" = none)
    (z_all : mg "all" = none)
    (z_ord : mg "ord" = none)
    (z_range : mg "range" = none)
    (z_sorted : mg "sorted" = none)
    (z_str : mg "str" = none)
    (z_int : mg "int" = none)
    (z_bool : mg "bool" = none)
    (z_tuple : mg "tuple" = none)
    (z_list : mg "list" = none)
    (v_MOST_NODES : ∃ t, mg "MOST_NODES" = some (.int 60 t))
    (v_MOST_LETTERS : ∃ t, mg "MOST_LETTERS" = some (.int 8 t))
    (v_MOST_SIGNS : ∃ t, mg "MOST_SIGNS" = some (.int 20 t))
    (v_PERCENT : ∃ t, mg "PERCENT" = some (.int 37 t)) :
    ∀ base : Heap, FnOk P w K mg base CX0 131 f_law fd_law ["script"] (spLaw K) := by
  intro base
  have T : Bt mg := { len := z_len, isinstance := z_isinstance, all := z_all, ord := z_ord, range := z_range, sorted := z_sorted, str := z_str, int := z_int, bool := z_bool, tuple := z_tuple, list := z_list, MOST_NODES := let ⟨t, h⟩ := v_MOST_NODES; ⟨_, h, ⟨_, rfl⟩⟩, MOST_LETTERS := let ⟨t, h⟩ := v_MOST_LETTERS; ⟨_, h, ⟨_, rfl⟩⟩, MOST_SIGNS := let ⟨t, h⟩ := v_MOST_SIGNS; ⟨_, h, ⟨_, rfl⟩⟩, PERCENT := let ⟨t, h⟩ := v_PERCENT; ⟨_, h, ⟨_, rfl⟩⟩ }
  have D : DC K CD CN := ⟨cl_CD, cl_CN, ⟨n_CD__kept, n_CD__told⟩, ⟨n_CN_name, n_CN_words, n_CN_marks, n_CN_up, n_CN_below⟩⟩
  have B_is_letter := F_is_letter.binds (ps := ["sign"]) fun _ _ _ _ _ _ us hl => match us, hl with | [_], _ => rfl
  have k_is_letter := F_is_letter.kp
  have B_is_plain_sign := F_is_plain_sign.binds (ps := ["sign"]) fun _ _ _ _ _ _ us hl => match us, hl with | [_], _ => rfl
  have k_is_plain_sign := F_is_plain_sign.kp
  have B_is_name := F_is_name.binds (ps := ["value"]) fun _ _ _ _ _ _ us hl => match us, hl with | [_], _ => rfl
  have k_is_name := F_is_name.kp
  have B_is_plain := F_is_plain.binds (ps := ["value"]) fun _ _ _ _ _ _ us hl => match us, hl with | [_], _ => rfl
  have k_is_plain := F_is_plain.kp
  have B_is_number := F_is_number.binds (ps := ["value"]) fun _ _ _ _ _ _ us hl => match us, hl with | [_], _ => rfl
  have k_is_number := F_is_number.kp
  have B__law_draws := F__law_draws.binds (ps := ["cell", "many"]) fun _ _ _ _ _ _ us hl => match us, hl with | [_, _], _ => rfl
  have k__law_draws := F__law_draws.kp
  have B__law_same := F__law_same.binds (ps := ["told", "due"]) fun _ _ _ _ _ _ us hl => match us, hl with | [_, _], _ => rfl
  have k__law_same := F__law_same.kp
  have B__law_blank := F__law_blank.binds (ps := []) fun _ _ _ _ _ _ us hl => match us, hl with | [], _ => rfl
  have k__law_blank := F__law_blank.kp
  have B__law_shape := F__law_shape.binds (ps := ["world", "n"]) fun _ _ _ _ _ _ us hl => match us, hl with | [_, _], _ => rfl
  have k__law_shape := F__law_shape.kp
  have B__law_above := F__law_above.binds (ps := ["world", "n"]) fun _ _ _ _ _ _ us hl => match us, hl with | [_, _], _ => rfl
  have k__law_above := F__law_above.kp
  have B__law_tell := F__law_tell.binds (ps := ["world", "record", "below"]) fun _ _ _ _ _ _ us hl => match us, hl with | [_, _, _], _ => rfl
  have k__law_tell := F__law_tell.kp
  have B__law_below := F__law_below.binds (ps := ["world", "n"]) fun _ _ _ _ _ _ us hl => match us, hl with | [_, _], _ => rfl
  have k__law_below := F__law_below.kp
  have B__law_make := F__law_make.binds (ps := ["world", "kind", "name"]) fun _ _ _ _ _ _ us hl => match us, hl with | [_, _, _], _ => rfl
  have k__law_make := F__law_make.kp
  have B__law_next := F__law_next.binds (ps := ["world", "n"]) fun _ _ _ _ _ _ us hl => match us, hl with | [_, _], _ => rfl
  have k__law_next := F__law_next.kp
  have B__law_out := F__law_out.binds (ps := ["world", "n"]) fun _ _ _ _ _ _ us hl => match us, hl with | [_, _], _ => rfl
  have k__law_out := F__law_out.kp
  have B__law_put := F__law_put.binds (ps := ["world", "up", "n", "before"]) fun _ _ _ _ _ _ us hl => match us, hl with | [_, _, _, _], _ => rfl
  have k__law_put := F__law_put.kp
  have B__law_mark := F__law_mark.binds (ps := ["world", "n", "name", "value"]) fun _ _ _ _ _ _ us hl => match us, hl with | [_, _, _, _], _ => rfl
  have k__law_mark := F__law_mark.kp
  have B__law_missing := F__law_missing.binds (ps := ["world", "numbers"]) fun _ _ _ _ _ _ us hl => match us, hl with | [_, _], _ => rfl
  have k__law_missing := F__law_missing.kp
  have B__law_do := F__law_do.binds (ps := ["world", "deed"]) fun _ _ _ _ _ _ us hl => match us, hl with | [_, _], _ => rfl
  have k__law_do := F__law_do.kp
  have B__law_deed := F__law_deed.binds (ps := ["world", "cell"]) fun _ _ _ _ _ _ us hl => match us, hl with | [_, _], _ => rfl
  have k__law_deed := F__law_deed.kp
  have B__law_call := F__law_call.binds (ps := ["document", "deed"]) fun _ _ _ _ _ _ us hl => match us, hl with | [_, _], _ => rfl
  have k__law_call := F__law_call.kp
  have B__law_told := F__law_told.binds (ps := ["document", "deed"]) fun _ _ _ _ _ _ us hl => match us, hl with | [_, _], _ => rfl
  have k__law_told := F__law_told.kp
  have B__law_grown := F__law_grown.binds (ps := ["world", "document", "cells"]) fun _ _ _ _ _ _ us hl => match us, hl with | [_, _, _], _ => rfl
  have k__law_grown := F__law_grown.kp
  have B__law_started := F__law_started.binds (ps := ["script", "last"]) fun _ _ _ _ _ _ us hl => match us, hl with | [_, _], _ => rfl
  have k__law_started := F__law_started.kp
  have B__law_word := F__law_word.binds (ps := ["document", "deed"]) fun _ _ _ _ _ _ us hl => match us, hl with | [_, _], _ => rfl
  have k__law_word := F__law_word.kp
  have B__law_kind := F__law_kind.binds (ps := ["due"]) fun _ _ _ _ _ _ us hl => match us, hl with | [_], _ => rfl
  have k__law_kind := F__law_kind.kp
  have B__law_wrong := F__law_wrong.binds (ps := ["world", "draws"]) fun _ _ _ _ _ _ us hl => match us, hl with | [_, _], _ => rfl
  have k__law_wrong := F__law_wrong.kp
  have k_law := F_law.kp
  have B_InvalidArgument_init := F_InvalidArgument_init.binds (ps := ["self", "name"]) fun _ _ _ _ _ _ us hl => match us, hl with | [_, _], _ => rfl
  have B_NoSuchNode_init := F_NoSuchNode_init.binds (ps := ["self", "number"]) fun _ _ _ _ _ _ us hl => match us, hl with | [_, _], _ => rfl
  have B_RefusedError_init := F_RefusedError_init.binds (ps := ["self", "reason"]) fun _ _ _ _ _ _ us hl => match us, hl with | [_, _], _ => rfl
  have B_Node_init := F_Node_init.binds (ps := ["self", "name", "words"]) fun _ _ _ _ _ _ us hl => match us, hl with | [_, _, _], _ => rfl
  have B_Document_init := F_Document_init.binds (ps := ["self"]) fun _ _ _ _ _ _ us hl => match us, hl with | [_], _ => rfl
  have B_Document_element := F_Document_element.binds (ps := ["self", "name"]) fun _ _ _ _ _ _ us hl => match us, hl with | [_, _], _ => rfl
  have B_Document_text := F_Document_text.binds (ps := ["self", "text"]) fun _ _ _ _ _ _ us hl => match us, hl with | [_, _], _ => rfl
  have B_Document_insert : Binds K fd_Document_insert ["self", "parent", "child", "before"] [] := by
    obtain ⟨ds, hv, hb⟩ := F_Document_insert.binds1 (ps := ["self", "parent", "child", "before"]) 4 1 (fun z => nomatch z) rfl fun T kV doc pm an cdv ct us its hl hi => match us, its, hl, hi with | [_, _, _, _], [_], _, _ => ⟨_, rfl, rfl⟩
    cases hv
    exact hb
  have B_Document_remove := F_Document_remove.binds (ps := ["self", "child"]) fun _ _ _ _ _ _ us hl => match us, hl with | [_, _], _ => rfl
  have B_Document_mark := F_Document_mark.binds (ps := ["self", "number", "name", "value"]) fun _ _ _ _ _ _ us hl => match us, hl with | [_, _, _, _], _ => rfl
  have B_Document_unmark := F_Document_unmark.binds (ps := ["self", "number", "name"]) fun _ _ _ _ _ _ us hl => match us, hl with | [_, _, _], _ => rfl
  have B_Document_write := F_Document_write.binds (ps := ["self", "number", "text"]) fun _ _ _ _ _ _ us hl => match us, hl with | [_, _, _], _ => rfl
  have B_Document_shape : Binds K fd_Document_shape ["self", "number"] [] := by
    obtain ⟨ds, hv, hb⟩ := F_Document_shape.binds1 (ps := ["self", "number"]) 2 1 (fun z => nomatch z) rfl fun T kV doc pm an cdv ct us its hl hi => match us, its, hl, hi with | [_, _], [_], _, _ => ⟨_, rfl, rfl⟩
    cases hv
    exact hb
  have B_Document_parent := F_Document_parent.binds (ps := ["self", "number"]) fun _ _ _ _ _ _ us hl => match us, hl with | [_, _], _ => rfl
  have B_Document_above := F_Document_above.binds (ps := ["self", "number"]) fun _ _ _ _ _ _ us hl => match us, hl with | [_, _], _ => rfl
  have B_Document_nodes := F_Document_nodes.binds (ps := ["self"]) fun _ _ _ _ _ _ us hl => match us, hl with | [_], _ => rfl
  have B_Document_changes : Binds K fd_Document_changes ["self", "start"] [] := by
    obtain ⟨ds, hv, hb⟩ := F_Document_changes.binds1 (ps := ["self", "start"]) 2 1 (fun z => nomatch z) rfl fun T kV doc pm an cdv ct us its hl hi => match us, its, hl, hi with | [_, _], [_], _, _ => ⟨_, rfl, rfl⟩
    cases hv
    exact hb
  have B_Document_node := F_Document_node.binds (ps := ["self", "number"]) fun _ _ _ _ _ _ us hl => match us, hl with | [_, _], _ => rfl
  have B_Document_make := F_Document_make.binds (ps := ["self", "name", "words"]) fun _ _ _ _ _ _ us hl => match us, hl with | [_, _, _], _ => rfl
  have B_Document_tell := F_Document_tell.binds (ps := ["self", "record"]) fun _ _ _ _ _ _ us hl => match us, hl with | [_, _], _ => rfl
  have B_Document_check_insert := F_Document_check_insert.binds (ps := ["self", "parent", "child", "before"]) fun _ _ _ _ _ _ us hl => match us, hl with | [_, _, _, _], _ => rfl
  have B_Document_is_there := F_Document_is_there.binds (ps := ["self", "parent", "child", "before"]) fun _ _ _ _ _ _ us hl => match us, hl with | [_, _, _, _], _ => rfl
  have B_Document_check_mark := F_Document_check_mark.binds (ps := ["self", "number", "name"]) fun _ _ _ _ _ _ us hl => match us, hl with | [_, _, _], _ => rfl
  have B_Document_set_mark := F_Document_set_mark.binds (ps := ["self", "number", "name", "value"]) fun _ _ _ _ _ _ us hl => match us, hl with | [_, _, _, _], _ => rfl
  let ec : EC := ⟨Cno, Crf⟩
  have E : EF K ec := ⟨⟨O_Cno, nf_Cno⟩, ⟨O_Crf, nf_Crf⟩⟩
  have EMx : EM K mg ec := ⟨H_Cno, H_Crf, e_nn, e_rn, e_rr, xf_Cno, xf_Crf⟩
  have q_letter := cal_mk (P := P) (w := w) (base := base) F_is_letter (ok_is_letter F_is_letter) H_is_letter B_is_letter
  have q_sign := cal_mk (P := P) (w := w) (base := base) F_is_plain_sign (ok_is_plain_sign T F_is_plain_sign) H_is_plain_sign B_is_plain_sign
  have q_name := cal_mk (P := P) (w := w) (base := base) F_is_name (ok_is_name T F_is_name q_letter) H_is_name B_is_name
  have q_plain := cal_mk (P := P) (w := w) (base := base) F_is_plain (ok_is_plain T F_is_plain q_sign) H_is_plain B_is_plain
  have q_number := cal_mk (P := P) (w := w) (base := base) F_is_number (ok_is_number T F_is_number) H_is_number B_is_number
  have q_draws := cal_mk (P := P) (w := w) (base := base) F__law_draws (ok_draws T F__law_draws) H__law_draws B__law_draws
  have q_same := cal_same (P := P) (w := w) (base := base) T F__law_same H__law_same B__law_same 130
  have q_blank := cal_mk (P := P) (w := w) (base := base) F__law_blank (ok_blank F__law_blank) H__law_blank B__law_blank
  have q_shape := cal_shape (P := P) (W := w) (base := base) T F__law_shape H__law_shape B__law_shape 60
  have q_above := cal_mk (P := P) (w := w) (base := base) F__law_above (ok_above T F__law_above) H__law_above B__law_above
  have q_below := cal_below (P := P) (W := w) (base := base) F__law_below H__law_below B__law_below 60
  have q_tell := cal_mk (P := P) (w := w) (base := base) F__law_tell (ok_tell F__law_tell q_above q_below) H__law_tell B__law_tell
  have q_make := cal_mk (P := P) (w := w) (base := base) F__law_make (ok_make T F__law_make) H__law_make B__law_make
  have q_next := cal_mk (P := P) (w := w) (base := base) F__law_next (ok_next T F__law_next) H__law_next B__law_next
  have q_out := cal_mk (P := P) (w := w) (base := base) F__law_out (ok_out F__law_out q_tell) H__law_out B__law_out
  have q_put := cal_mk (P := P) (w := w) (base := base) F__law_put (ok_put T F__law_put q_tell q_out q_above q_next q_shape) H__law_put B__law_put
  have q_mark := cal_mk (P := P) (w := w) (base := base) F__law_mark (ok_mark F__law_mark q_tell) H__law_mark B__law_mark
  have q_missing := cal_mk (P := P) (w := w) (base := base) F__law_missing (ok_missing T F__law_missing) H__law_missing B__law_missing
  have q_do := cal_mk (P := P) (w := w) (base := base) F__law_do (ok_do T F__law_do q_tell q_out q_make q_missing q_put q_mark) H__law_do B__law_do
  have q_deed := cal_mk (P := P) (w := w) (base := base) F__law_deed (ok_deed T F__law_deed q_draws) H__law_deed B__law_deed
  have xNo : Ex P w K mg base 1 "NoSuchNode" Cno (spInit K Cno "number") := ⟨_, _, _, O_Cno, a_NoSuchNode_init, y_NoSuchNode_init, ok_noInit hL F_NoSuchNode_init, B_NoSuchNode_init, H_Cno⟩
  have xRf : Ex P w K mg base 1 "RefusedError" Crf (spInit K Crf "reason") := ⟨_, _, _, O_Crf, a_RefusedError_init, y_RefusedError_init, ok_rfInit hL F_RefusedError_init, B_RefusedError_init, H_Crf⟩
  have xBd : Ex P w K mg base 1 "InvalidArgument" Cbd (spInit K Cbd "name") := ⟨_, _, _, O_Cbd, a_InvalidArgument_init, y_InvalidArgument_init, ok_badInit hL F_InvalidArgument_init, B_InvalidArgument_init, H_Cbd⟩
  have kNode : Kl P w K mg base 1 "Node" CN (spNI CN) := ⟨_, _, _, Mk_CN, ok_nodeInit D F_Node_init, B_Node_init, H_CN⟩
  have kDoc : Kl P w K mg base 3 "Document" CD (spDI K CD CN) := ⟨_, _, _, Mk_CD, ok_docInit D F_Document_init kNode, B_Document_init, H_CD⟩
  have r_node : Met P w K mg base (L2.CX P w) 3 CD "_node" (spNode K CD CN ec) := ⟨_, _, _, D.cD, M_Document_node, ok_node T D E F_Document_node q_number xNo, B_Document_node⟩
  have r_parent : Met P w K mg base CX0 4 CD "parent" (spN K CD CN 1 ar1 preN fun w n => upD (nd w.ns n).up) := ⟨_, _, _, D.cD, M_Document_parent, ok_parent T D F_Document_parent r_node, B_Document_parent⟩
  have r_nodes : Met P w K mg base CX0 1 CD "nodes" (spN K CD CN 0 ar0 preAny fun w _ => ofN w.ns.length) := ⟨_, _, _, D.cD, M_Document_nodes, ok_nodes T D F_Document_nodes, B_Document_nodes⟩
  have r_above : Met P w K mg base CX0 4 CD "above" (spN K CD CN 1 ar1 preN fun w n => aboveD w.ns n) := ⟨_, _, _, D.cD, M_Document_above, ok_dabove T D F_Document_above r_node, B_Document_above⟩
  have S60 := ok_dshape T D F_Document_shape r_node M_Document_shape B_Document_shape 60
  have r_shape : Met P w K mg base CX0 64 CD "shape" (spN K CD CN 1 ar1 (preShape 60) fun w n => shapeF 60 w.ns n) := ⟨_, _, _, D.cD, M_Document_shape, S60, B_Document_shape⟩
  have r_shape0 : MetD P w K mg base 64 CD "shape" [.int 0] (spN K CD CN 1 ar1 (preShape 60) fun w n => shapeF 60 w.ns n) := by
    obtain ⟨ds, hv, hb⟩ := F_Document_shape.binds1 (ps := ["self", "number"]) 1 0 (fun z => nomatch z) rfl fun T kV doc pm an cdv ct us its hl hi => match us, its, hl, hi with | [_], [_], _, _ => ⟨_, rfl, rfl⟩
    exact ⟨_, _, _, ds, D.cD, M_Document_shape, S60, hb, hv⟩
  have r_tell : Met P w K mg base CX0 5 CD "_tell" (spX K CD CN ec 1 arDT preDT fDT) := ⟨_, _, _, D.cD, M_Document_tell, ok_dtell D F_Document_tell r_above, B_Document_tell⟩
  have r_remove : Met P w K mg base (L2.CX P w) 6 CD "remove" (spX K CD CN ec 1 ar1 preR fRm) := ⟨_, _, _, D.cD, M_Document_remove, ok_remove T D E F_Document_remove r_node r_tell xRf, B_Document_remove⟩
  have r_there : Met P w K mg base CX0 1 CD "_is_there" (spN K CD CN 3 arP prePI fun w x => .bool (isAt w.ns x.1 x.2.1 x.2.2)) := ⟨_, _, _, D.cD, M_Document_is_there, ok_isthere T D F_Document_is_there, B_Document_is_there⟩
  have r_check : Met P w K mg base (L2.CX P w) 6 CD "_check_insert" (spX K CD CN ec 3 arP preCk fChk) := ⟨_, _, _, D.cD, M_Document_check_insert, ok_check T D E F_Document_check_insert r_node r_above xRf, B_Document_check_insert⟩
  have r_insert : Met P w K mg base (L2.CX P w) 65 CD "insert" (spX K CD CN ec 3 arP preIns fIns) := ⟨_, _, _, D.cD, M_Document_insert, ok_insert T D E F_Document_insert r_check r_there r_remove r_tell r_shape, B_Document_insert⟩
  have r_setm : Met P w K mg base (L2.CX P w) 6 CD "_set_mark" (spX K CD CN ec 3 arK preSet fSet) := ⟨_, _, _, D.cD, M_Document_set_mark, ok_setmark T D E F_Document_set_mark r_tell xRf, B_Document_set_mark⟩
  have r_chkm : Met P w K mg base (L2.CX P w) 4 CD "_check_mark" (spX K CD CN ec 2 arCm preCm fCm) := ⟨_, _, _, D.cD, M_Document_check_mark, ok_checkmark T D F_Document_check_mark r_node q_name xBd, B_Document_check_mark⟩
  have r_mark : Met P w K mg base (L2.CX P w) 7 CD "mark" (spX K CD CN ec 3 arMk preMk fMk) := ⟨_, _, _, D.cD, M_Document_mark, ok_dmark T D F_Document_mark r_chkm r_setm q_plain xBd, B_Document_mark⟩
  have r_unmark : Met P w K mg base (L2.CX P w) 7 CD "unmark" (spX K CD CN ec 2 arCm preUm fUm) := ⟨_, _, _, D.cD, M_Document_unmark, ok_dunmark T D F_Document_unmark r_chkm r_setm, B_Document_unmark⟩
  have r_write : Met P w K mg base (L2.CX P w) 6 CD "write" (spX K CD CN ec 2 arCm preWr fWr) := ⟨_, _, _, D.cD, M_Document_write, ok_write T D E F_Document_write r_node r_tell q_plain xBd xRf, B_Document_write⟩
  have r_make : Met P w K mg base (L2.CX P w) 3 CD "_make" (spX K CD CN ec 2 arMd preAny fMd) := ⟨_, _, _, D.cD, M_Document_make, ok_dmake T D E F_Document_make kNode xRf, B_Document_make⟩
  have r_element : Met P w K mg base (L2.CX P w) 4 CD "element" (spX K CD CN ec 1 arS (fun _ s => nameB s = true) fun w s => fMd w (false, s)) := ⟨_, _, _, D.cD, M_Document_element, ok_element T D F_Document_element r_make q_name xBd, B_Document_element⟩
  have r_text : Met P w K mg base (L2.CX P w) 4 CD "text" (spX K CD CN ec 1 arS (fun _ s => plainT s = true) fun w s => fMd w (true, s)) := ⟨_, _, _, D.cD, M_Document_text, ok_text T D F_Document_text r_make q_plain xBd, B_Document_text⟩
  have q_call : CalX P w K mg base 66 "_law_call" (spX K CD CN ec 1 arD preCall resA) := ⟨_, _, _, ok_call F__law_call r_element r_text r_insert r_remove r_mark r_unmark r_write, H__law_call, k__law_call, B__law_call⟩
  have q_told := cal_mk (P := P) (w := w) (base := base) F__law_told (ok_told E EMx F__law_told q_call) H__law_told B__law_told
  have q_grown := cal_mk (P := P) (w := w) (base := base) F__law_grown (ok_grown F__law_grown q_deed q_do q_told) H__law_grown B__law_grown
  have q_started := cal_mk (P := P) (w := w) (base := base) F__law_started (ok_started F__law_started q_blank kDoc q_do q_told q_grown) H__law_started B__law_started
  have r_changes0 : MetD P w K mg base 1 CD "changes" [.int 0] (spCh K CD CN) := by
    obtain ⟨ds, hv, hb⟩ := F_Document_changes.binds1 (ps := ["self", "start"]) 1 0 (fun z => nomatch z) rfl fun T kV doc pm an cdv ct us its hl hi => match us, its, hl, hi with | [_], [_], _, _ => ⟨_, rfl, rfl⟩
    exact ⟨_, _, _, ds, D.cD, M_Document_changes, ok_changes D F_Document_changes, hb, hv⟩
  have q_nodeB : Met P w K mg base (L2.CX P w) 3 CD "_node" (spN2 K CD CN ec Cbd) := ⟨_, _, _, D.cD, M_Document_node, fn_o2 (ok_node T D E F_Document_node q_number xNo) (ok_nodeB T D E F_Document_node q_number xNo), B_Document_node⟩
  have XB : OexC K Cbd ∧ PySem.W.findIn K (.ref Cbd) "name" = some none := ⟨O_Cbd, nf_Cbd⟩
  have q_chkB : Met P w K mg base (L2.CX P w) 6 CD "_check_insert" (spB K CD CN ec Cbd 3 BadIns) := ⟨_, _, _, D.cD, M_Document_check_insert, ok_checkB T D E F_Document_check_insert q_nodeB r_above xRf, B_Document_check_insert⟩
  have q_insB : Met P w K mg base (L2.CX P w) 65 CD "insert" (spB K CD CN ec Cbd 3 BadIns) := ⟨_, _, _, D.cD, M_Document_insert, ok_insertB T D E F_Document_insert q_chkB r_there r_remove r_tell r_shape, B_Document_insert⟩
  have q_remB : Met P w K mg base (L2.CX P w) 6 CD "remove" (spB K CD CN ec Cbd 1 BadRm) := ⟨_, _, _, D.cD, M_Document_remove, ok_removeB T D E F_Document_remove q_nodeB r_tell xRf, B_Document_remove⟩
  have q_cmB : Met P w K mg base (L2.CX P w) 4 CD "_check_mark" (spCm2 K CD CN ec Cbd) := ⟨_, _, _, D.cD, M_Document_check_mark, fn_o2 (ok_checkmarkG T D F_Document_check_mark q_nodeB q_name xBd) (ok_checkmarkB T D XB F_Document_check_mark q_nodeB q_name xBd), B_Document_check_mark⟩
  have q_mkB : Met P w K mg base (L2.CX P w) 7 CD "mark" (spB K CD CN ec Cbd 3 BadMk) := ⟨_, _, _, D.cD, M_Document_mark, ok_dmarkB T D XB F_Document_mark q_cmB r_setm q_plain xBd, B_Document_mark⟩
  have q_umB : Met P w K mg base (L2.CX P w) 7 CD "unmark" (spB K CD CN ec Cbd 2 BadCm) := ⟨_, _, _, D.cD, M_Document_unmark, ok_dunmarkB T D F_Document_unmark q_cmB r_setm, B_Document_unmark⟩
  have q_wrB : Met P w K mg base (L2.CX P w) 6 CD "write" (spB K CD CN ec Cbd 2 BadWr) := ⟨_, _, _, D.cD, M_Document_write, ok_writeB T D XB F_Document_write q_nodeB r_tell q_plain xBd xRf, B_Document_write⟩
  have q_meB : Met P w K mg base (L2.CX P w) 3 CD "_make" (spB K CD CN ec Cbd 2 BadMe) := ⟨_, _, _, D.cD, M_Document_make, ok_dmakeB T D E F_Document_make kNode xRf, B_Document_make⟩
  have q_elB : Met P w K mg base (L2.CX P w) 4 CD "element" (spB K CD CN ec Cbd 1 (BadEl nameB "name")) := ⟨_, _, _, D.cD, M_Document_element, ok_elementB T D XB F_Document_element q_meB q_name xBd, B_Document_element⟩
  have q_txB : Met P w K mg base (L2.CX P w) 4 CD "text" (spB K CD CN ec Cbd 1 (BadEl plainT "text")) := ⟨_, _, _, D.cD, M_Document_text, ok_textB T D XB F_Document_text q_meB q_plain xBd, B_Document_text⟩
  have q_callB : CalX P w K mg base 66 "_law_call" (spB K CD CN ec Cbd 1 BadC) := ⟨_, _, _, ok_callB F__law_call q_elB q_txB q_insB q_remB q_mkB q_umB q_wrB, H__law_call, k__law_call, B__law_call⟩
  have EB3x : EB3 K mg ec Cbd := ⟨H_Cbd, H_Cno, H_Crf, e_bb, e_nb, e_nn, e_rb, e_rn, e_rr, xf_Cbd, xf_Cno, xf_Crf, nf_Cbd, nf_Cno, nf_Crf⟩
  have q_word := cal_mk (P := P) (w := w) (base := base) F__law_word (ok_lawword EB3x F__law_word q_callB) H__law_word B__law_word
  have q_kind := cal_mk (P := P) (w := w) (base := base) F__law_kind (ok_lawkind T F__law_kind) H__law_kind B__law_kind
  have q_wrong := cal_mk (P := P) (w := w) (base := base) F__law_wrong (ok_lawwrong T F__law_wrong) H__law_wrong B__law_wrong
  exact ok_law (ec := ec) T F_law q_started q_draws q_wrong q_word q_kind q_same r_shape0 r_changes0 r_nodes r_text
/-! the head -/
def dd_is_letter : He.DefD := ⟨("is_letter", none), "is_letter", "is_letter", defArgs sis_letter, defBody sis_letter, defScope sis_letter, [], []⟩
def dd_is_plain_sign : He.DefD := ⟨("is_plain_sign", none), "is_plain_sign", "is_plain_sign", defArgs sis_plain_sign, defBody sis_plain_sign, defScope sis_plain_sign, [], []⟩
def dd_is_name : He.DefD := ⟨("is_name", none), "is_name", "is_name", defArgs sis_name, defBody sis_name, defScope sis_name, [], []⟩
def dd_is_plain : He.DefD := ⟨("is_plain", none), "is_plain", "is_plain", defArgs sis_plain, defBody sis_plain, defScope sis_plain, [], []⟩
def dd_is_number : He.DefD := ⟨("is_number", none), "is_number", "is_number", defArgs sis_number, defBody sis_number, defScope sis_number, [], []⟩
def dd__law_draws : He.DefD := ⟨("_law_draws", none), "_law_draws", "_law_draws", defArgs s_law_draws, defBody s_law_draws, defScope s_law_draws, [], []⟩
def dd__law_same : He.DefD := ⟨("_law_same", none), "_law_same", "_law_same", defArgs s_law_same, defBody s_law_same, defScope s_law_same, [], []⟩
def dd__law_blank : He.DefD := ⟨("_law_blank", none), "_law_blank", "_law_blank", defArgs s_law_blank, defBody s_law_blank, defScope s_law_blank, [], []⟩
def dd__law_shape : He.DefD := ⟨("_law_shape", none), "_law_shape", "_law_shape", defArgs s_law_shape, defBody s_law_shape, defScope s_law_shape, [], []⟩
def dd__law_above : He.DefD := ⟨("_law_above", none), "_law_above", "_law_above", defArgs s_law_above, defBody s_law_above, defScope s_law_above, [], []⟩
def dd__law_tell : He.DefD := ⟨("_law_tell", none), "_law_tell", "_law_tell", defArgs s_law_tell, defBody s_law_tell, defScope s_law_tell, [], []⟩
def dd__law_below : He.DefD := ⟨("_law_below", none), "_law_below", "_law_below", defArgs s_law_below, defBody s_law_below, defScope s_law_below, [], []⟩
def dd__law_make : He.DefD := ⟨("_law_make", none), "_law_make", "_law_make", defArgs s_law_make, defBody s_law_make, defScope s_law_make, [], []⟩
def dd__law_next : He.DefD := ⟨("_law_next", none), "_law_next", "_law_next", defArgs s_law_next, defBody s_law_next, defScope s_law_next, [], []⟩
def dd__law_out : He.DefD := ⟨("_law_out", none), "_law_out", "_law_out", defArgs s_law_out, defBody s_law_out, defScope s_law_out, [], []⟩
def dd__law_put : He.DefD := ⟨("_law_put", none), "_law_put", "_law_put", defArgs s_law_put, defBody s_law_put, defScope s_law_put, [], []⟩
def dd__law_mark : He.DefD := ⟨("_law_mark", none), "_law_mark", "_law_mark", defArgs s_law_mark, defBody s_law_mark, defScope s_law_mark, [], []⟩
def dd__law_missing : He.DefD := ⟨("_law_missing", none), "_law_missing", "_law_missing", defArgs s_law_missing, defBody s_law_missing, defScope s_law_missing, [], []⟩
def dd__law_do : He.DefD := ⟨("_law_do", none), "_law_do", "_law_do", defArgs s_law_do, defBody s_law_do, defScope s_law_do, [], []⟩
def dd__law_deed : He.DefD := ⟨("_law_deed", none), "_law_deed", "_law_deed", defArgs s_law_deed, defBody s_law_deed, defScope s_law_deed, [], []⟩
def dd__law_call : He.DefD := ⟨("_law_call", none), "_law_call", "_law_call", defArgs s_law_call, defBody s_law_call, defScope s_law_call, [], []⟩
def dd__law_told : He.DefD := ⟨("_law_told", none), "_law_told", "_law_told", defArgs s_law_told, defBody s_law_told, defScope s_law_told, [], []⟩
def dd__law_grown : He.DefD := ⟨("_law_grown", none), "_law_grown", "_law_grown", defArgs s_law_grown, defBody s_law_grown, defScope s_law_grown, [], []⟩
def dd__law_started : He.DefD := ⟨("_law_started", none), "_law_started", "_law_started", defArgs s_law_started, defBody s_law_started, defScope s_law_started, [], []⟩
def dd__law_word : He.DefD := ⟨("_law_word", none), "_law_word", "_law_word", defArgs s_law_word, defBody s_law_word, defScope s_law_word, [], []⟩
def dd__law_kind : He.DefD := ⟨("_law_kind", none), "_law_kind", "_law_kind", defArgs s_law_kind, defBody s_law_kind, defScope s_law_kind, [], []⟩
def dd__law_wrong : He.DefD := ⟨("_law_wrong", none), "_law_wrong", "_law_wrong", defArgs s_law_wrong, defBody s_law_wrong, defScope s_law_wrong, [], []⟩
def dd_law : He.DefD := ⟨("law", none), "law", "law", defArgs slaw, defBody slaw, defScope slaw, [], []⟩
def dd_InvalidArgument_init : He.DefD := ⟨("InvalidArgument", some "__init__"), "__init__", "InvalidArgument.__init__", defArgs sInvalidArgument_init, defBody sInvalidArgument_init, defScope sInvalidArgument_init, [], []⟩
def dd_NoSuchNode_init : He.DefD := ⟨("NoSuchNode", some "__init__"), "__init__", "NoSuchNode.__init__", defArgs sNoSuchNode_init, defBody sNoSuchNode_init, defScope sNoSuchNode_init, [], []⟩
def dd_RefusedError_init : He.DefD := ⟨("RefusedError", some "__init__"), "__init__", "RefusedError.__init__", defArgs sRefusedError_init, defBody sRefusedError_init, defScope sRefusedError_init, [], []⟩
def dd_Node_init : He.DefD := ⟨("Node", some "__init__"), "__init__", "Node.__init__", defArgs sNode_init, defBody sNode_init, defScope sNode_init, [], []⟩
def dd_Document_init : He.DefD := ⟨("Document", some "__init__"), "__init__", "Document.__init__", defArgs sDocument_init, defBody sDocument_init, defScope sDocument_init, [], []⟩
def dd_Document_element : He.DefD := ⟨("Document", some "element"), "element", "Document.element", defArgs sDocument_element, defBody sDocument_element, defScope sDocument_element, [], []⟩
def dd_Document_text : He.DefD := ⟨("Document", some "text"), "text", "Document.text", defArgs sDocument_text, defBody sDocument_text, defScope sDocument_text, [], []⟩
def dd_Document_insert : He.DefD := ⟨("Document", some "insert"), "insert", "Document.insert", defArgs sDocument_insert, defBody sDocument_insert, defScope sDocument_insert, [.non], []⟩
def dd_Document_remove : He.DefD := ⟨("Document", some "remove"), "remove", "Document.remove", defArgs sDocument_remove, defBody sDocument_remove, defScope sDocument_remove, [], []⟩
def dd_Document_mark : He.DefD := ⟨("Document", some "mark"), "mark", "Document.mark", defArgs sDocument_mark, defBody sDocument_mark, defScope sDocument_mark, [], []⟩
def dd_Document_unmark : He.DefD := ⟨("Document", some "unmark"), "unmark", "Document.unmark", defArgs sDocument_unmark, defBody sDocument_unmark, defScope sDocument_unmark, [], []⟩
def dd_Document_write : He.DefD := ⟨("Document", some "write"), "write", "Document.write", defArgs sDocument_write, defBody sDocument_write, defScope sDocument_write, [], []⟩
def dd_Document_shape : He.DefD := ⟨("Document", some "shape"), "shape", "Document.shape", defArgs sDocument_shape, defBody sDocument_shape, defScope sDocument_shape, [.int 0], []⟩
def dd_Document_parent : He.DefD := ⟨("Document", some "parent"), "parent", "Document.parent", defArgs sDocument_parent, defBody sDocument_parent, defScope sDocument_parent, [], []⟩
def dd_Document_above : He.DefD := ⟨("Document", some "above"), "above", "Document.above", defArgs sDocument_above, defBody sDocument_above, defScope sDocument_above, [], []⟩
def dd_Document_nodes : He.DefD := ⟨("Document", some "nodes"), "nodes", "Document.nodes", defArgs sDocument_nodes, defBody sDocument_nodes, defScope sDocument_nodes, [], []⟩
def dd_Document_changes : He.DefD := ⟨("Document", some "changes"), "changes", "Document.changes", defArgs sDocument_changes, defBody sDocument_changes, defScope sDocument_changes, [.int 0], []⟩
def dd_Document_node : He.DefD := ⟨("Document", some "_node"), "_node", "Document._node", defArgs sDocument_node, defBody sDocument_node, defScope sDocument_node, [], []⟩
def dd_Document_make : He.DefD := ⟨("Document", some "_make"), "_make", "Document._make", defArgs sDocument_make, defBody sDocument_make, defScope sDocument_make, [], []⟩
def dd_Document_tell : He.DefD := ⟨("Document", some "_tell"), "_tell", "Document._tell", defArgs sDocument_tell, defBody sDocument_tell, defScope sDocument_tell, [], []⟩
def dd_Document_check_insert : He.DefD := ⟨("Document", some "_check_insert"), "_check_insert", "Document._check_insert", defArgs sDocument_check_insert, defBody sDocument_check_insert, defScope sDocument_check_insert, [], []⟩
def dd_Document_is_there : He.DefD := ⟨("Document", some "_is_there"), "_is_there", "Document._is_there", defArgs sDocument_is_there, defBody sDocument_is_there, defScope sDocument_is_there, [], []⟩
def dd_Document_check_mark : He.DefD := ⟨("Document", some "_check_mark"), "_check_mark", "Document._check_mark", defArgs sDocument_check_mark, defBody sDocument_check_mark, defScope sDocument_check_mark, [], []⟩
def dd_Document_set_mark : He.DefD := ⟨("Document", some "_set_mark"), "_set_mark", "Document._set_mark", defArgs sDocument_set_mark, defBody sDocument_set_mark, defScope sDocument_set_mark, [], []⟩
def fnP1_0 : List He.DefD := [dd_is_letter, dd_is_plain_sign, dd_is_name, dd_is_plain, dd_is_number, dd__law_draws, dd__law_same, dd__law_blank, dd__law_shape, dd__law_above, dd__law_tell, dd__law_below, dd__law_make, dd__law_next, dd__law_out, dd__law_put, dd__law_mark, dd__law_missing, dd__law_do, dd__law_deed, dd__law_call, dd__law_told, dd__law_grown, dd__law_started, dd__law_word, dd__law_kind, dd__law_wrong, dd_law, dd_InvalidArgument_init, dd_NoSuchNode_init]
def fnP1_1 : List He.DefD := [dd_RefusedError_init, dd_Node_init, dd_Document_init, dd_Document_element, dd_Document_text, dd_Document_insert, dd_Document_remove, dd_Document_mark, dd_Document_unmark, dd_Document_write, dd_Document_shape, dd_Document_parent, dd_Document_above, dd_Document_nodes, dd_Document_changes, dd_Document_node, dd_Document_make, dd_Document_tell, dd_Document_check_insert, dd_Document_is_there]
def fnP1_ : List He.DefD := fnP1_0 ++ fnP1_1
def fnP2_0 : List He.DefD := [dd_Document_check_mark, dd_Document_set_mark]
def fnP2_ : List He.DefD := fnP2_0
def faL0 : List He.Fa := [.glo "is_letter", .glo "is_plain_sign", .glo "is_name", .glo "is_plain", .glo "is_number", .glo "_law_draws", .glo "_law_same", .glo "_law_blank", .glo "_law_shape", .glo "_law_above", .glo "_law_tell", .glo "_law_below", .glo "_law_make", .glo "_law_next", .glo "_law_out", .glo "_law_put", .glo "_law_mark", .glo "_law_missing", .glo "_law_do", .glo "_law_deed", .glo "_law_call", .glo "_law_told", .glo "_law_grown", .glo "_law_started", .glo "_law_word", .glo "_law_kind", .glo "_law_wrong", .glo "law", .glo "Document", .glo "Node"]
def faL1 : List He.Fa := [.glo "NoSuchNode", .glo "RefusedError", .glo "InvalidArgument", .glo "LookError", .meth "InvalidArgument" "__init__", .meth "NoSuchNode" "__init__", .meth "RefusedError" "__init__", .mkr "Node", .mkr "Document", .meth "Document" "element", .meth "Document" "text", .meth "Document" "insert", .meth "Document" "remove", .meth "Document" "mark", .meth "Document" "unmark", .meth "Document" "write", .meth "Document" "shape", .meth "Document" "parent", .meth "Document" "above", .meth "Document" "nodes", .meth "Document" "changes", .meth "Document" "_node", .meth "Document" "_make", .meth "Document" "_tell", .meth "Document" "_check_insert", .meth "Document" "_is_there", .meth "Document" "_check_mark", .meth "Document" "_set_mark", .cls "Document", .cls "Node"]
def faL2 : List He.Fa := [.noat "Document" "_kept", .noat "Document" "_told", .noat "Node" "name", .noat "Node" "words", .noat "Node" "marks", .noat "Node" "up", .noat "Node" "below", .noat "NoSuchNode" "number", .noat "RefusedError" "reason", .noat "InvalidArgument" "name", .exm "InvalidArgument" "InvalidArgument" true, .exm "NoSuchNode" "InvalidArgument" false, .exm "RefusedError" "InvalidArgument" false, .exm "NoSuchNode" "NoSuchNode" true, .exm "RefusedError" "NoSuchNode" false, .exm "RefusedError" "RefusedError" true, .free "len", .free "isinstance", .free "all", .free "ord", .free "range", .free "sorted", .free "str", .free "int", .free "bool", .free "tuple", .free "list", .int "MOST_NODES" 60, .int "MOST_LETTERS" 8, .int "MOST_SIGNS" 20]
def faL3 : List He.Fa := [.int "PERCENT" 37]
def faL : List He.Fa := faL0 ++ faL1 ++ faL2 ++ faL3
def cbL0 : List (PySem.W.Frag → Bool) := [fun K => baseB K (He.ga K "LookError"), fun K => tyB K (He.ma K (He.ga K "InvalidArgument") "__init__"), fun K => tyB K (He.ma K (He.ga K "NoSuchNode") "__init__"), fun K => tyB K (He.ma K (He.ga K "RefusedError") "__init__"), fun K => oexB K (He.ga K "NoSuchNode"), fun K => oexB K (He.ga K "RefusedError"), fun K => oexB K (He.ga K "InvalidArgument"), fun K => xfB K (He.ga K "NoSuchNode"), fun K => xfB K (He.ga K "RefusedError"), fun K => xfB K (He.ga K "InvalidArgument")]
def cbL : List (PySem.W.Frag → Bool) := cbL0
def tsL0 : List He.Tab := []
def tsL : List He.Tab := tsL0
def nsL0 : List PySem.Str := ["_wall", "LookError", "InvalidArgument", "NoSuchNode", "RefusedError", "MOST_NODES", "MOST_LETTERS", "MOST_SIGNS", "PERCENT", "is_letter", "is_plain_sign", "is_name", "is_plain", "is_number", "Node", "Document", "_law_draws", "_law_same", "_law_blank", "_law_shape", "_law_above", "_law_tell", "_law_below", "_law_make", "_law_next", "_law_out", "_law_put", "_law_mark", "_law_missing", "_law_do"]
def nsL1 : List PySem.Str := ["_law_deed", "_law_call", "_law_told", "_law_grown", "_law_started", "_law_word", "_law_kind", "_law_wrong"]
def nsL : List PySem.Str := nsL0 ++ nsL1
abbrev RR_ : PySem.W.OpenRow := PySem.W.OpenLaw.row PySem.Challenge.rw_lookon_k49_documents_refuse
abbrev qv : Program := PySem.W.view RR_.prog [42]
abbrev P0 : Part := (faL, [], tsL, cbL)
abbrev P1 : Part := ([], fnP1_, [], [])
abbrev P2 : Part := ([], fnP2_, [], [])
abbrev psL : List Part := [P0, P1, P2]
abbrev hk : PySem.W.Hook := hookP 900 psL
def ob (s : PySem.W.SharedT) : hk.α := psL.map fun p => obQ 900 p s
theorem ob_eq (s : PySem.W.SharedT) : ob s = hk.obs s.abs := obP_eq s
theorem run_0_0 (w : World) : HandSHeadRun.RunEq RR_ qv (hookQ 900 P0) (obQ 900 P0) 12000 nsL (w.withFollow "special-get-raises" false) := by
  intro os
  kernel_rfl
theorem run_0_1 (w : World) : HandSHeadRun.RunEq RR_ qv (hookQ 900 P0) (obQ 900 P0) 12000 nsL (w.withFollow "special-get-raises" true) := by
  intro os
  kernel_rfl
theorem run_0 (w : World) : HandSHeadRun.RunEq RR_ qv (hookQ 900 P0) (obQ 900 P0) 12000 nsL w := PySem.W.byRow2 "special-get-raises" (P := fun w => HandSHeadRun.RunEq RR_ qv (hookQ 900 P0) (obQ 900 P0) 12000 nsL w) run_0_0 run_0_1 w
theorem run_1_0 (w : World) : HandSHeadRun.RunEq RR_ qv (hookQ 900 P1) (obQ 900 P1) 12000 nsL (w.withFollow "special-get-raises" false) := by
  intro os
  kernel_rfl
theorem run_1_1 (w : World) : HandSHeadRun.RunEq RR_ qv (hookQ 900 P1) (obQ 900 P1) 12000 nsL (w.withFollow "special-get-raises" true) := by
  intro os
  kernel_rfl
theorem run_1 (w : World) : HandSHeadRun.RunEq RR_ qv (hookQ 900 P1) (obQ 900 P1) 12000 nsL w := PySem.W.byRow2 "special-get-raises" (P := fun w => HandSHeadRun.RunEq RR_ qv (hookQ 900 P1) (obQ 900 P1) 12000 nsL w) run_1_0 run_1_1 w
theorem run_2_0 (w : World) : HandSHeadRun.RunEq RR_ qv (hookQ 900 P2) (obQ 900 P2) 12000 nsL (w.withFollow "special-get-raises" false) := by
  intro os
  kernel_rfl
theorem run_2_1 (w : World) : HandSHeadRun.RunEq RR_ qv (hookQ 900 P2) (obQ 900 P2) 12000 nsL (w.withFollow "special-get-raises" true) := by
  intro os
  kernel_rfl
theorem run_2 (w : World) : HandSHeadRun.RunEq RR_ qv (hookQ 900 P2) (obQ 900 P2) 12000 nsL w := PySem.W.byRow2 "special-get-raises" (P := fun w => HandSHeadRun.RunEq RR_ qv (hookQ 900 P2) (obQ 900 P2) 12000 nsL w) run_2_0 run_2_1 w
theorem head_run (w : World) : HandSHeadRun.RunEq RR_ qv hk ob 12000 nsL w := run_parts (fun z => nomatch z) fun p hp => by
  simp only [List.mem_cons, List.mem_nil_iff, or_false] at hp
  rcases hp with rfl | rfl | rfl
  · exact run_0 w
  · exact run_1 w
  · exact run_2 w
theorem facts {P : Program} {w : World} {K : PySem.W.Frag} {h : Heap} {mg : Str → Option Value} {f : Addr} (X : K.In h) (G : h.Ns mainGlobals mg) (hfa : mg ("law" : Str) = some (.ref f)) (c : ∀ p ∈ psL, SaysM p.1 p.2.1 p.2.2.1 p.2.2.2 w K) :
    ∃ fd : FuncData, (∀ (s : Shared) (v : Value), BindsTo s fd ⟨[v], []⟩ [("script", v)]) ∧ ∀ base : Heap, FnOk P w K mg base CX0 131 f fd ["script"] (spLaw K) := by
  have c0 : SaysM P0.1 P0.2.1 P0.2.2.1 P0.2.2.2 w K := c P0 (by simp)
  have c1 : SaysM P1.1 P1.2.1 P1.2.2.1 P1.2.2.2 w K := c P1 (by simp)
  have c2 : SaysM P2.1 P2.2.1 P2.2.2.1 P2.2.2.2 w K := c P2 (by simp)
  obtain ⟨fd_is_letter, D_is_letter⟩ := c1.t.d.def_ 0 (d := dd_is_letter) rfl
  obtain ⟨fd_is_plain_sign, D_is_plain_sign⟩ := c1.t.d.def_ 1 (d := dd_is_plain_sign) rfl
  obtain ⟨fd_is_name, D_is_name⟩ := c1.t.d.def_ 2 (d := dd_is_name) rfl
  obtain ⟨fd_is_plain, D_is_plain⟩ := c1.t.d.def_ 3 (d := dd_is_plain) rfl
  obtain ⟨fd_is_number, D_is_number⟩ := c1.t.d.def_ 4 (d := dd_is_number) rfl
  obtain ⟨fd__law_draws, D__law_draws⟩ := c1.t.d.def_ 5 (d := dd__law_draws) rfl
  obtain ⟨fd__law_same, D__law_same⟩ := c1.t.d.def_ 6 (d := dd__law_same) rfl
  obtain ⟨fd__law_blank, D__law_blank⟩ := c1.t.d.def_ 7 (d := dd__law_blank) rfl
  obtain ⟨fd__law_shape, D__law_shape⟩ := c1.t.d.def_ 8 (d := dd__law_shape) rfl
  obtain ⟨fd__law_above, D__law_above⟩ := c1.t.d.def_ 9 (d := dd__law_above) rfl
  obtain ⟨fd__law_tell, D__law_tell⟩ := c1.t.d.def_ 10 (d := dd__law_tell) rfl
  obtain ⟨fd__law_below, D__law_below⟩ := c1.t.d.def_ 11 (d := dd__law_below) rfl
  obtain ⟨fd__law_make, D__law_make⟩ := c1.t.d.def_ 12 (d := dd__law_make) rfl
  obtain ⟨fd__law_next, D__law_next⟩ := c1.t.d.def_ 13 (d := dd__law_next) rfl
  obtain ⟨fd__law_out, D__law_out⟩ := c1.t.d.def_ 14 (d := dd__law_out) rfl
  obtain ⟨fd__law_put, D__law_put⟩ := c1.t.d.def_ 15 (d := dd__law_put) rfl
  obtain ⟨fd__law_mark, D__law_mark⟩ := c1.t.d.def_ 16 (d := dd__law_mark) rfl
  obtain ⟨fd__law_missing, D__law_missing⟩ := c1.t.d.def_ 17 (d := dd__law_missing) rfl
  obtain ⟨fd__law_do, D__law_do⟩ := c1.t.d.def_ 18 (d := dd__law_do) rfl
  obtain ⟨fd__law_deed, D__law_deed⟩ := c1.t.d.def_ 19 (d := dd__law_deed) rfl
  obtain ⟨fd__law_call, D__law_call⟩ := c1.t.d.def_ 20 (d := dd__law_call) rfl
  obtain ⟨fd__law_told, D__law_told⟩ := c1.t.d.def_ 21 (d := dd__law_told) rfl
  obtain ⟨fd__law_grown, D__law_grown⟩ := c1.t.d.def_ 22 (d := dd__law_grown) rfl
  obtain ⟨fd__law_started, D__law_started⟩ := c1.t.d.def_ 23 (d := dd__law_started) rfl
  obtain ⟨fd__law_word, D__law_word⟩ := c1.t.d.def_ 24 (d := dd__law_word) rfl
  obtain ⟨fd__law_kind, D__law_kind⟩ := c1.t.d.def_ 25 (d := dd__law_kind) rfl
  obtain ⟨fd__law_wrong, D__law_wrong⟩ := c1.t.d.def_ 26 (d := dd__law_wrong) rfl
  obtain ⟨fd_law, D_law⟩ := c1.t.d.def_ 27 (d := dd_law) rfl
  obtain ⟨fd_InvalidArgument_init, D_InvalidArgument_init⟩ := c1.t.d.def_ 28 (d := dd_InvalidArgument_init) rfl
  obtain ⟨fd_NoSuchNode_init, D_NoSuchNode_init⟩ := c1.t.d.def_ 29 (d := dd_NoSuchNode_init) rfl
  obtain ⟨fd_RefusedError_init, D_RefusedError_init⟩ := c1.t.d.def_ 30 (d := dd_RefusedError_init) rfl
  obtain ⟨fd_Node_init, D_Node_init⟩ := c1.t.d.def_ 31 (d := dd_Node_init) rfl
  obtain ⟨fd_Document_init, D_Document_init⟩ := c1.t.d.def_ 32 (d := dd_Document_init) rfl
  obtain ⟨fd_Document_element, D_Document_element⟩ := c1.t.d.def_ 33 (d := dd_Document_element) rfl
  obtain ⟨fd_Document_text, D_Document_text⟩ := c1.t.d.def_ 34 (d := dd_Document_text) rfl
  obtain ⟨fd_Document_insert, D_Document_insert⟩ := c1.t.d.def_ 35 (d := dd_Document_insert) rfl
  obtain ⟨fd_Document_remove, D_Document_remove⟩ := c1.t.d.def_ 36 (d := dd_Document_remove) rfl
  obtain ⟨fd_Document_mark, D_Document_mark⟩ := c1.t.d.def_ 37 (d := dd_Document_mark) rfl
  obtain ⟨fd_Document_unmark, D_Document_unmark⟩ := c1.t.d.def_ 38 (d := dd_Document_unmark) rfl
  obtain ⟨fd_Document_write, D_Document_write⟩ := c1.t.d.def_ 39 (d := dd_Document_write) rfl
  obtain ⟨fd_Document_shape, D_Document_shape⟩ := c1.t.d.def_ 40 (d := dd_Document_shape) rfl
  obtain ⟨fd_Document_parent, D_Document_parent⟩ := c1.t.d.def_ 41 (d := dd_Document_parent) rfl
  obtain ⟨fd_Document_above, D_Document_above⟩ := c1.t.d.def_ 42 (d := dd_Document_above) rfl
  obtain ⟨fd_Document_nodes, D_Document_nodes⟩ := c1.t.d.def_ 43 (d := dd_Document_nodes) rfl
  obtain ⟨fd_Document_changes, D_Document_changes⟩ := c1.t.d.def_ 44 (d := dd_Document_changes) rfl
  obtain ⟨fd_Document_node, D_Document_node⟩ := c1.t.d.def_ 45 (d := dd_Document_node) rfl
  obtain ⟨fd_Document_make, D_Document_make⟩ := c1.t.d.def_ 46 (d := dd_Document_make) rfl
  obtain ⟨fd_Document_tell, D_Document_tell⟩ := c1.t.d.def_ 47 (d := dd_Document_tell) rfl
  obtain ⟨fd_Document_check_insert, D_Document_check_insert⟩ := c1.t.d.def_ 48 (d := dd_Document_check_insert) rfl
  obtain ⟨fd_Document_is_there, D_Document_is_there⟩ := c1.t.d.def_ 49 (d := dd_Document_is_there) rfl
  obtain ⟨fd_Document_check_mark, D_Document_check_mark⟩ := c2.t.d.def_ 0 (d := dd_Document_check_mark) rfl
  obtain ⟨fd_Document_set_mark, D_Document_set_mark⟩ := c2.t.d.def_ 1 (d := dd_Document_set_mark) rfl
  have e := hfa.symm.trans (He.glo_ok X G (c0.t.d.fact 27 (f := .glo "law") rfl))
  cases e
  have b := FunD.bindsA (ps := ["script"]) D_law fun _ _ _ _ _ _ us hl => match us, hl with | [_], _ => rfl
  exact ⟨fd_law, fun s v => b s [v] rfl, all_core (F_is_letter := fun_ofD D_is_letter)
    (H_is_letter := He.glo_ok X G (c0.t.d.fact 0 (f := .glo "is_letter") rfl))
    (F_is_plain_sign := fun_ofD D_is_plain_sign)
    (H_is_plain_sign := He.glo_ok X G (c0.t.d.fact 1 (f := .glo "is_plain_sign") rfl))
    (F_is_name := fun_ofD D_is_name)
    (H_is_name := He.glo_ok X G (c0.t.d.fact 2 (f := .glo "is_name") rfl))
    (F_is_plain := fun_ofD D_is_plain)
    (H_is_plain := He.glo_ok X G (c0.t.d.fact 3 (f := .glo "is_plain") rfl))
    (F_is_number := fun_ofD D_is_number)
    (H_is_number := He.glo_ok X G (c0.t.d.fact 4 (f := .glo "is_number") rfl))
    (F__law_draws := fun_ofD D__law_draws)
    (H__law_draws := He.glo_ok X G (c0.t.d.fact 5 (f := .glo "_law_draws") rfl))
    (F__law_same := fun_ofD D__law_same)
    (H__law_same := He.glo_ok X G (c0.t.d.fact 6 (f := .glo "_law_same") rfl))
    (F__law_blank := fun_ofD D__law_blank)
    (H__law_blank := He.glo_ok X G (c0.t.d.fact 7 (f := .glo "_law_blank") rfl))
    (F__law_shape := fun_ofD D__law_shape)
    (H__law_shape := He.glo_ok X G (c0.t.d.fact 8 (f := .glo "_law_shape") rfl))
    (F__law_above := fun_ofD D__law_above)
    (H__law_above := He.glo_ok X G (c0.t.d.fact 9 (f := .glo "_law_above") rfl))
    (F__law_tell := fun_ofD D__law_tell)
    (H__law_tell := He.glo_ok X G (c0.t.d.fact 10 (f := .glo "_law_tell") rfl))
    (F__law_below := fun_ofD D__law_below)
    (H__law_below := He.glo_ok X G (c0.t.d.fact 11 (f := .glo "_law_below") rfl))
    (F__law_make := fun_ofD D__law_make)
    (H__law_make := He.glo_ok X G (c0.t.d.fact 12 (f := .glo "_law_make") rfl))
    (F__law_next := fun_ofD D__law_next)
    (H__law_next := He.glo_ok X G (c0.t.d.fact 13 (f := .glo "_law_next") rfl))
    (F__law_out := fun_ofD D__law_out)
    (H__law_out := He.glo_ok X G (c0.t.d.fact 14 (f := .glo "_law_out") rfl))
    (F__law_put := fun_ofD D__law_put)
    (H__law_put := He.glo_ok X G (c0.t.d.fact 15 (f := .glo "_law_put") rfl))
    (F__law_mark := fun_ofD D__law_mark)
    (H__law_mark := He.glo_ok X G (c0.t.d.fact 16 (f := .glo "_law_mark") rfl))
    (F__law_missing := fun_ofD D__law_missing)
    (H__law_missing := He.glo_ok X G (c0.t.d.fact 17 (f := .glo "_law_missing") rfl))
    (F__law_do := fun_ofD D__law_do)
    (H__law_do := He.glo_ok X G (c0.t.d.fact 18 (f := .glo "_law_do") rfl))
    (F__law_deed := fun_ofD D__law_deed)
    (H__law_deed := He.glo_ok X G (c0.t.d.fact 19 (f := .glo "_law_deed") rfl))
    (F__law_call := fun_ofD D__law_call)
    (H__law_call := He.glo_ok X G (c0.t.d.fact 20 (f := .glo "_law_call") rfl))
    (F__law_told := fun_ofD D__law_told)
    (H__law_told := He.glo_ok X G (c0.t.d.fact 21 (f := .glo "_law_told") rfl))
    (F__law_grown := fun_ofD D__law_grown)
    (H__law_grown := He.glo_ok X G (c0.t.d.fact 22 (f := .glo "_law_grown") rfl))
    (F__law_started := fun_ofD D__law_started)
    (H__law_started := He.glo_ok X G (c0.t.d.fact 23 (f := .glo "_law_started") rfl))
    (F__law_word := fun_ofD D__law_word)
    (H__law_word := He.glo_ok X G (c0.t.d.fact 24 (f := .glo "_law_word") rfl))
    (F__law_kind := fun_ofD D__law_kind)
    (H__law_kind := He.glo_ok X G (c0.t.d.fact 25 (f := .glo "_law_kind") rfl))
    (F__law_wrong := fun_ofD D__law_wrong)
    (H__law_wrong := He.glo_ok X G (c0.t.d.fact 26 (f := .glo "_law_wrong") rfl))
    (F_law := fun_ofD D_law)
    (H_law := He.glo_ok X G (c0.t.d.fact 27 (f := .glo "law") rfl))
    (H_CD := He.glo_ok X G (c0.t.d.fact 28 (f := .glo "Document") rfl))
    (H_CN := He.glo_ok X G (c0.t.d.fact 29 (f := .glo "Node") rfl))
    (H_Cno := He.glo_ok X G (c0.t.d.fact 30 (f := .glo "NoSuchNode") rfl))
    (H_Crf := He.glo_ok X G (c0.t.d.fact 31 (f := .glo "RefusedError") rfl))
    (H_Cbd := He.glo_ok X G (c0.t.d.fact 32 (f := .glo "InvalidArgument") rfl))
    (hL := baseB_ok (He.glo_ok X G (c0.t.d.fact 33 (f := .glo "LookError") rfl)) (c0.b 0 (f := fun K => baseB K (He.ga K "LookError")) rfl))
    (F_InvalidArgument_init := fun_ofD D_InvalidArgument_init)
    (a_InvalidArgument_init := (He.meth_ok (c0.t.d.fact 34 (f := .meth "InvalidArgument" "__init__") rfl)).at_)
    (y_InvalidArgument_init := of_decide_eq_true (c0.b 1 (f := fun K => tyB K (He.ma K (He.ga K "InvalidArgument") "__init__")) rfl))
    (F_NoSuchNode_init := fun_ofD D_NoSuchNode_init)
    (a_NoSuchNode_init := (He.meth_ok (c0.t.d.fact 35 (f := .meth "NoSuchNode" "__init__") rfl)).at_)
    (y_NoSuchNode_init := of_decide_eq_true (c0.b 2 (f := fun K => tyB K (He.ma K (He.ga K "NoSuchNode") "__init__")) rfl))
    (F_RefusedError_init := fun_ofD D_RefusedError_init)
    (a_RefusedError_init := (He.meth_ok (c0.t.d.fact 36 (f := .meth "RefusedError" "__init__") rfl)).at_)
    (y_RefusedError_init := of_decide_eq_true (c0.b 3 (f := fun K => tyB K (He.ma K (He.ga K "RefusedError") "__init__")) rfl))
    (F_Node_init := fun_ofD D_Node_init)
    (Mk_CN := He.mkr_ok (c0.t.d.fact 37 (f := .mkr "Node") rfl))
    (F_Document_init := fun_ofD D_Document_init)
    (Mk_CD := He.mkr_ok (c0.t.d.fact 38 (f := .mkr "Document") rfl))
    (F_Document_element := fun_ofD D_Document_element)
    (M_Document_element := He.meth_ok (c0.t.d.fact 39 (f := .meth "Document" "element") rfl))
    (F_Document_text := fun_ofD D_Document_text)
    (M_Document_text := He.meth_ok (c0.t.d.fact 40 (f := .meth "Document" "text") rfl))
    (F_Document_insert := D_Document_insert)
    (M_Document_insert := He.meth_ok (c0.t.d.fact 41 (f := .meth "Document" "insert") rfl))
    (F_Document_remove := fun_ofD D_Document_remove)
    (M_Document_remove := He.meth_ok (c0.t.d.fact 42 (f := .meth "Document" "remove") rfl))
    (F_Document_mark := fun_ofD D_Document_mark)
    (M_Document_mark := He.meth_ok (c0.t.d.fact 43 (f := .meth "Document" "mark") rfl))
    (F_Document_unmark := fun_ofD D_Document_unmark)
    (M_Document_unmark := He.meth_ok (c0.t.d.fact 44 (f := .meth "Document" "unmark") rfl))
    (F_Document_write := fun_ofD D_Document_write)
    (M_Document_write := He.meth_ok (c0.t.d.fact 45 (f := .meth "Document" "write") rfl))
    (F_Document_shape := D_Document_shape)
    (M_Document_shape := He.meth_ok (c0.t.d.fact 46 (f := .meth "Document" "shape") rfl))
    (F_Document_parent := fun_ofD D_Document_parent)
    (M_Document_parent := He.meth_ok (c0.t.d.fact 47 (f := .meth "Document" "parent") rfl))
    (F_Document_above := fun_ofD D_Document_above)
    (M_Document_above := He.meth_ok (c0.t.d.fact 48 (f := .meth "Document" "above") rfl))
    (F_Document_nodes := fun_ofD D_Document_nodes)
    (M_Document_nodes := He.meth_ok (c0.t.d.fact 49 (f := .meth "Document" "nodes") rfl))
    (F_Document_changes := D_Document_changes)
    (M_Document_changes := He.meth_ok (c0.t.d.fact 50 (f := .meth "Document" "changes") rfl))
    (F_Document_node := fun_ofD D_Document_node)
    (M_Document_node := He.meth_ok (c0.t.d.fact 51 (f := .meth "Document" "_node") rfl))
    (F_Document_make := fun_ofD D_Document_make)
    (M_Document_make := He.meth_ok (c0.t.d.fact 52 (f := .meth "Document" "_make") rfl))
    (F_Document_tell := fun_ofD D_Document_tell)
    (M_Document_tell := He.meth_ok (c0.t.d.fact 53 (f := .meth "Document" "_tell") rfl))
    (F_Document_check_insert := fun_ofD D_Document_check_insert)
    (M_Document_check_insert := He.meth_ok (c0.t.d.fact 54 (f := .meth "Document" "_check_insert") rfl))
    (F_Document_is_there := fun_ofD D_Document_is_there)
    (M_Document_is_there := He.meth_ok (c0.t.d.fact 55 (f := .meth "Document" "_is_there") rfl))
    (F_Document_check_mark := fun_ofD D_Document_check_mark)
    (M_Document_check_mark := He.meth_ok (c0.t.d.fact 56 (f := .meth "Document" "_check_mark") rfl))
    (F_Document_set_mark := fun_ofD D_Document_set_mark)
    (M_Document_set_mark := He.meth_ok (c0.t.d.fact 57 (f := .meth "Document" "_set_mark") rfl))
    (cl_CD := He.cls_ok (c0.t.d.fact 58 (f := .cls "Document") rfl))
    (cl_CN := He.cls_ok (c0.t.d.fact 59 (f := .cls "Node") rfl))
    (n_CD__kept := He.noat_ok (c0.t.d.fact 60 (f := .noat "Document" "_kept") rfl))
    (n_CD__told := He.noat_ok (c0.t.d.fact 61 (f := .noat "Document" "_told") rfl))
    (n_CN_name := He.noat_ok (c0.t.d.fact 62 (f := .noat "Node" "name") rfl))
    (n_CN_words := He.noat_ok (c0.t.d.fact 63 (f := .noat "Node" "words") rfl))
    (n_CN_marks := He.noat_ok (c0.t.d.fact 64 (f := .noat "Node" "marks") rfl))
    (n_CN_up := He.noat_ok (c0.t.d.fact 65 (f := .noat "Node" "up") rfl))
    (n_CN_below := He.noat_ok (c0.t.d.fact 66 (f := .noat "Node" "below") rfl))
    (O_Cno := oexB_ok (c0.b 4 (f := fun K => oexB K (He.ga K "NoSuchNode")) rfl))
    (nf_Cno := He.noat_ok (c0.t.d.fact 67 (f := .noat "NoSuchNode" "number") rfl))
    (O_Crf := oexB_ok (c0.b 5 (f := fun K => oexB K (He.ga K "RefusedError")) rfl))
    (nf_Crf := He.noat_ok (c0.t.d.fact 68 (f := .noat "RefusedError" "reason") rfl))
    (O_Cbd := oexB_ok (c0.b 6 (f := fun K => oexB K (He.ga K "InvalidArgument")) rfl))
    (nf_Cbd := He.noat_ok (c0.t.d.fact 69 (f := .noat "InvalidArgument" "name") rfl))
    (xf_Cno := xfB_ok (c0.b 7 (f := fun K => xfB K (He.ga K "NoSuchNode")) rfl))
    (xf_Crf := xfB_ok (c0.b 8 (f := fun K => xfB K (He.ga K "RefusedError")) rfl))
    (xf_Cbd := xfB_ok (c0.b 9 (f := fun K => xfB K (He.ga K "InvalidArgument")) rfl))
    (e_bb := He.exm_ok (c0.t.d.fact 70 (f := .exm "InvalidArgument" "InvalidArgument" true) rfl))
    (e_nb := He.exm_ok (c0.t.d.fact 71 (f := .exm "NoSuchNode" "InvalidArgument" false) rfl))
    (e_rb := He.exm_ok (c0.t.d.fact 72 (f := .exm "RefusedError" "InvalidArgument" false) rfl))
    (e_nn := He.exm_ok (c0.t.d.fact 73 (f := .exm "NoSuchNode" "NoSuchNode" true) rfl))
    (e_rn := He.exm_ok (c0.t.d.fact 74 (f := .exm "RefusedError" "NoSuchNode" false) rfl))
    (e_rr := He.exm_ok (c0.t.d.fact 75 (f := .exm "RefusedError" "RefusedError" true) rfl))
    (z_len := He.free_ok X G (c0.t.d.fact 76 (f := .free "len") rfl))
    (z_isinstance := He.free_ok X G (c0.t.d.fact 77 (f := .free "isinstance") rfl))
    (z_all := He.free_ok X G (c0.t.d.fact 78 (f := .free "all") rfl))
    (z_ord := He.free_ok X G (c0.t.d.fact 79 (f := .free "ord") rfl))
    (z_range := He.free_ok X G (c0.t.d.fact 80 (f := .free "range") rfl))
    (z_sorted := He.free_ok X G (c0.t.d.fact 81 (f := .free "sorted") rfl))
    (z_str := He.free_ok X G (c0.t.d.fact 82 (f := .free "str") rfl))
    (z_int := He.free_ok X G (c0.t.d.fact 83 (f := .free "int") rfl))
    (z_bool := He.free_ok X G (c0.t.d.fact 84 (f := .free "bool") rfl))
    (z_tuple := He.free_ok X G (c0.t.d.fact 85 (f := .free "tuple") rfl))
    (z_list := He.free_ok X G (c0.t.d.fact 86 (f := .free "list") rfl))
    (v_MOST_NODES := He.int_ok X G (c0.t.d.fact 87 (f := .int "MOST_NODES" 60) rfl))
    (v_MOST_LETTERS := He.int_ok X G (c0.t.d.fact 88 (f := .int "MOST_LETTERS" 8) rfl))
    (v_MOST_SIGNS := He.int_ok X G (c0.t.d.fact 89 (f := .int "MOST_SIGNS" 20) rfl))
    (v_PERCENT := He.int_ok X G (c0.t.d.fact 90 (f := .int "PERCENT" 37) rfl))⟩
end LW
end
section
set_option Elab.async false
open PySem PySem.W PySem.Calls PyProof.Rows
set_option maxRecDepth 100000 in
set_option maxHeartbeats 0 in
theorem PySem.Challenge.cw_lookon_k49_documents_refuse_holds : PySem.Challenge.rw_lookon_k49_documents_refuse.Holds := by
  w_on; o_law
  refine HandSHeadRun.head_any (r := OpenLaw.row PySem.Challenge.rw_lookon_k49_documents_refuse) (q := LW.qv) (H := LW.hk) (ob := LW.ob) (M := 12000) (loose := LW.nsL) (d := HandSHeadRun.topDef (OpenLaw.row PySem.Challenge.rw_lookon_k49_documents_refuse).prog 42) (kwd := []) LW.ob_eq
    (by kernel_rfl) (fun s => by kernel_rfl) LW.head_run (by kernel_rfl) (by kernel_rfl) (by kernel_rfl) (by rfl) (by first | assumption | decide +kernel) (by decide +kernel) ⟨rfl, rfl, rfl, rfl, rfl, by decide +kernel⟩ ?hw ?hc
  case hw => w_witness2
  case hc =>
    refine L2.walk_ofE (l := PySem.Challenge.rw_lookon_k49_documents_refuse) (n := 63) (k := 131) (x := "script") (CX := L2.CX0) rfl (by decide) (by kernel_rfl) ⟨rfl, by decide, by decide⟩ ?F (fun _ _ _ _ z => z)
    intro w mg fa h Y G hmg0
    obtain ⟨K, KX, c⟩ := Y
    have hmg : mg ("law" : PySem.Str) = some (.ref fa) := by
      have e : (HandSHeadRun.topDef (OpenLaw.row PySem.Challenge.rw_lookon_k49_documents_refuse).prog 42).name = ("law" : PySem.Str) := by kernel_rfl
      rw [← e]
      exact hmg0
    obtain ⟨fd, hb, hF⟩ := LW.facts (P := (PySem.Challenge.rw_lookon_k49_documents_refuse).prog) (w := w) KX G hmg c
    exact ⟨K, fd, LW.spLaw K, KX, hb, fun H a ns hl _ hS => ⟨a, ns, rfl, hS, hl, fun _ => rfl⟩, fun base _ _ => hF base⟩
end
