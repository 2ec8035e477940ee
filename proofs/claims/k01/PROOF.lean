import PyProof.Rows.All
import HandS.ForMost
import HandS.ForExc
import HandS.IsInst
import HandS.TupAny
import HandS.Flow
import HandS.Codes
import HandS.Style
import HandS.RevTup
import HandS.TupMul
import HandS.Steps
import HandS.Zip
import HandS.ExcInit
import HandS.ExcField
import HandS.FStr
import PyProof.AutoSeq1
import KE.GoesNew
import HandS.WrittenGet
import PyProof.StrBlock2
import HandS.DictComp
import HandS.SortRule
import KE.KSortTupAny
import HandS.Keys
import PyProof.FString5
import KE.GoesSet
import HandS.Set
import HandS.SetTxt0
import PyProof.Rows.SortShellAny
import HandS.List
import PyProof.Rows.SortStr
import PyProof.Rows.StrMeet
import HandS.Deep
import HandS.ForSpec
import PySem.Challenge.RW_lookon_k01_queries_what_is_mentioned
set_option Elab.async false
section
set_option Elab.async false
set_option linter.all false
set_option maxRecDepth 100000
set_option maxHeartbeats 2000000
/-! tuples whose object is known to have no dict -/
namespace RR
open PySem PySem.Spec PyProof.Rows L2 HT
section
variable {X : Cx} {es : List Expr} {pos : Pos} {t : TA}
/-- a tuple's object is known to have no dict -/
def ND (H : Hp) (a : Addr) (xs : List V) : Prop := ∃ ob : Obj, H a = some (.frz ob (.tup xs)) ∧ ob.dict = none
theorem ND.same {H H' : Hp} {a : Addr} {xs : List V} (h : ND H a xs) (e : Same H H') : ND H' a xs := by
  obtain ⟨ob, h1, h2⟩ := h
  exact ⟨ob, e _ _ h1, h2⟩
theorem frz_new {X : Cx} {pins : List (Addr × Obj)} {σ : L2.St} {H : Hp} {s : Shared} {xs : List V} {us : List Value} (I : L2.Inv X pins σ H s) (r : Vals xs us) (z : xs.length ≤ sizeLine) {n : Nat} :
    ∃ ob : Obj, ob = { cls := .type "tuple", data := .seq us.toArray n } ∧ ob.dict = none ∧ H s.heap.objs.size = none ∧ L2.Inv X pins σ (upd H s.heap.objs.size (.frz ob (.tup xs))) { s with heap := s.heap.push ob } := by
  refine ⟨_, rfl, rfl, I.hok.fresh (Nat.le_refl _), I.laid (t' := s.toks) (fun b o e => Heap.get?_push_of_some _ e) (Nat.le_refl _) ?_⟩
  have hg : (s.heap.push { cls := .type "tuple", data := .seq us.toArray n }).get? s.heap.objs.size = some { cls := .type "tuple", data := .seq us.toArray n } := Heap.get?_push_size _ rfl
  exact ⟨hg, z, us, r, ⟨_, hg, rfl, _, rfl⟩⟩
def tTupF (t : TA) : TE := fun σ H Q => t σ H fun xs H1 => xs.length ≤ sizeLine ∧ ∀ p ob, H1 p = none → ob.dict = none → Q (.ref p) (upd H1 p (.frz ob (.tup xs)))
theorem pe_tupF {x1} (h : PA X es t) : PE X (.Tuple es x1 pos) (tTupF t) := by
  refine ⟨fun pins s σ H Q I hq => ?_⟩
  refine wpAny_Tuple_spliced (thn (h.run pos pins s σ H _ I hq) fun us s1 ⟨xs, H1, I1, r, z, q⟩ => ⟨by rw [← r.length]; exact z, ?_⟩)
  obtain ⟨ob, e, hd, hf, J⟩ := frz_new I1 r z
  rw [e] at J hd
  exact ⟨.ref s1.heap.objs.size, _, J, rfl, q _ _ hf hd⟩
def rCatF (K : PySem.W.Frag) : R2 := fun x y H Q => ∃ a b xs ys, x = .ref a ∧ y = .ref b ∧ SqT K H a xs ∧ SqT K H b ys ∧ xs.length + ys.length ≤ sizeLine ∧
  (xs = [] → Q (.ref b) H) ∧ (xs ≠ [] → ys = [] → Q (.ref a) H) ∧ (xs ≠ [] → ys ≠ [] → ∀ p ob, H p = none → ob.dict = none → Q (.ref p) (upd H p (.frz ob (.tup (xs ++ ys)))))
theorem op_catF : OpR X (binaryOp .Add) (rCatF X.K) := by
  intro pins s σ H x y v u Q I rx ry h
  obtain ⟨a, b, xs, ys, rfl, rfl, ha, hb, hz, q0, q1, q2⟩ := h
  cases rx
  cases ry
  obtain ⟨its, r1, p1, _⟩ := I.tuple ha
  obtain ⟨its2, r2, p2, _⟩ := I.tuple hb
  by_cases hx : xs = []
  · subst hx
    cases r1
    exact cat_tup0 p1 p2 ⟨.ref b, H, I, rfl, q0 rfl⟩
  · refine HT.cat_tup p1 p2 (fun z => hx (r1.nil_iff.mp z)) (fun z => ⟨.ref a, H, I, rfl, q1 hx (r2.nil_iff.mp z)⟩) (fun z => ?_) (by rw [← r1.length, ← r2.length]; exact hz)
    obtain ⟨ob, e, hd, hf, J⟩ := frz_new (n := 0) I (r1.append r2) (by rw [List.length_append]; exact hz)
    rw [e] at J hd
    exact ⟨.ref s.heap.objs.size, _, J, rfl, q2 hx (fun w => z (r2.nil_iff.mpr w)) _ _ hf hd⟩
def rSlF (K : PySem.W.Frag) : V → Option Int → Option Int → Hp → VK → Prop := fun x lo hi H Q => ∃ a xs, x = .ref a ∧ SqT K H a xs ∧
  (HT.sIx xs.length 0 lo = 0 ∧ HT.sIx xs.length xs.length hi = xs.length → Q (.ref a) H) ∧ (¬ (HT.sIx xs.length 0 lo = 0 ∧ HT.sIx xs.length xs.length hi = xs.length) → ∀ p ob, H p = none → ob.dict = none → Q (.ref p) (upd H p (.frz ob (.tup (cutV xs lo hi)))))
theorem sl_tupF : SlR X (rSlF X.K) := by
  intro pins s σ H x v vl vu lo hi sl Q I rx hs pl pu h
  obtain ⟨a, xs, rfl, hx, q1, q2⟩ := h
  cases rx
  obtain ⟨its, r, ht, hz⟩ := I.tuple hx
  have hlen : its.toArray.size = xs.length := by rw [List.size_toArray]; exact r.length.symm
  refine ⟨"tuple", _, PyProof.Rows.slot_tuple_getitem.lookup, ht.typeIs, ?_⟩
  by_cases hw : HT.sIx xs.length 0 lo = 0 ∧ HT.sIx xs.length xs.length hi = xs.length
  · exact getItem_tuple_whole ht hs pl pu (by rw [hlen]; exact hw) ⟨.ref a, H, I, rfl, q1 hw⟩
  · refine HT.getItem_tuple_cut ht hs pl pu (by rw [hlen]; exact hw) ?_ (by rw [hlen]; exact hz)
    rw [hlen]
    obtain ⟨ob, e, hd, hf, J⟩ := frz_new (n := 0) I ((r.drop (HT.sIx xs.length 0 lo)).take (HT.sIx xs.length xs.length hi - HT.sIx xs.length 0 lo)) (Nat.le_trans (cutV_length xs lo hi) hz)
    rw [e] at J hd
    exact ⟨.ref s.heap.objs.size, _, J, rfl, q2 hw _ _ hf hd⟩
/-- tuple(l) of a list -/
def rTupF (K : PySem.W.Frag) : List V → Hp → VK → Prop := fun xs H Q => ∃ p ys, xs = [.ref p] ∧ SqL K H p ys ∧ ∀ l ob, H l = none → ob.dict = none → Q (.ref l) (upd H l (.frz ob (.tup ys)))
theorem cr_tupF {X : Cx} : CallR X (.type "tuple") (rTupF X.K) := by
  intro pins s σ H xs us Q I r h
  obtain ⟨p, ys, rfl, hq, q⟩ := h
  obtain ⟨u, rfl, rx⟩ := vals1 r
  cases rx
  obtain ⟨its, rv, pl, hz⟩ := I.list hq
  have hlen := rv.length
  refine call_tuple_list pl.isList (fun h2 kp => ?_) (by simp only [List.size_toArray] <;> omega)
  have J : L2.Inv X pins σ H { s with heap := h2 } := I.kept (t' := s.toks) kp
  obtain ⟨ob, e, hd, hf, J2⟩ := frz_new (n := 0) J rv hz
  rw [e] at J2 hd
  exact ⟨.ref h2.objs.size, _, J2, rfl, q _ _ hf hd⟩
end
end RR
end
section
set_option Elab.async false
set_option linter.all false
set_option maxRecDepth 100000
set_option maxHeartbeats 2000000
/-! Data behind the hand layer: what a reading gives, as PyData; the heap has a public part, in which the data lie, and private objects beside it. -/
namespace DL
open PySem PySem.Spec PyProof.Rows L2

theorem seqT {K : PySem.W.Frag} {H H' : Hp} {a : Addr} {xs : List V} (e : Same H H') (h : SqT K H a xs) : SqT K H' a xs := by
  rcases h with (h | ⟨o, h⟩) | h
  · exact .inl (.inl (e _ _ h))
  · exact .inl (.inr ⟨o, e _ _ h⟩)
  · exact .inr h
/-- data at a value: the lists are tracked or locked -/
theorem rd_same {H H' : Hp} {a : Addr} {u : HO} (e : Same H H') (h : Rd H a u) : Rd H' a u := by
  rcases h with h | ⟨o, h⟩
  · exact .inl (e _ _ h)
  · exact .inr ⟨o, e _ _ h⟩
/-- rows of two texts: what dict(t) is asked of -/
def pairB : PyData → Bool
  | .tuple [.str _, .str _] => true
  | _ => false
def pairsB (ds : List PyData) : Bool := ds.all pairB
mutual
inductive Dv (K : PySem.W.Frag) (H : Hp) : V → PyData → Prop
  | non : Dv K H .non .none
  | bl (b : Bool) : Dv K H (.bl b) (.bool b)
  | int (i : Int) : Dv K H (.int i) (.int i)
  | str (x : Str) : Dv K H (.str x) (.str x)
  | lst {a : Addr} {xs : List V} {ds : List PyData} : Rd H a (.lst xs) → DvA K H xs ds → Dv K H (.ref a) (.list ds)
  | tup' {a : Addr} {xs : List V} {ds : List PyData} : SqT K H a xs → (pairsB ds = true → RR.ND H a xs) → DvA K H xs ds → Dv K H (.ref a) (.tuple ds)
inductive DvA (K : PySem.W.Frag) (H : Hp) : List V → List PyData → Prop
  | nil : DvA K H [] []
  | cons {v : V} {vs : List V} {d : PyData} {ds : List PyData} : Dv K H v d → DvA K H vs ds → DvA K H (v :: vs) (d :: ds)
end
mutual
theorem dv_dp {K : PySem.W.Frag} {H : Hp} : ∀ (d : PyData) (v : V), Dv K H v d → Dp K H v d
  | .none, _, h => by cases h; exact .non
  | .bool _, _, h => by cases h; exact .bl _
  | .int _, _, h => by cases h; exact .int _
  | .str _, _, h => by cases h; exact .str _
  | .list ds, _, h => by
    cases h with
    | lst s a => exact .lst (.inl s) (dv_dpA ds _ a)
  | .tuple ds, _, h => by
    cases h with
    | tup' s n a => exact .tup s (dv_dpA ds _ a)
  | .dict _, _, h => by cases h
theorem dv_dpA {K : PySem.W.Frag} {H : Hp} : ∀ (ds : List PyData) (vs : List V), DvA K H vs ds → DpAll K H vs ds
  | [], _, h => by cases h; exact .nil
  | d :: ds, _, h => by
    cases h with
    | cons a r => exact .cons (dv_dp d _ a) (dv_dpA ds _ r)
end
mutual
theorem dp_same {K : PySem.W.Frag} {H H' : Hp} (e : Same H H') : ∀ (d : PyData) (v : V), Dv K H v d → Dv K H' v d
  | .none, _, h => by cases h; exact .non
  | .bool _, _, h => by cases h; exact .bl _
  | .int _, _, h => by cases h; exact .int _
  | .str _, _, h => by cases h; exact .str _
  | .list ds, _, h => by
    cases h with
    | lst s a => exact .lst (rd_same e s) (dp_sameA e ds _ a)
  | .tuple ds, _, h => by
    cases h with
    | tup' s n a => exact .tup' (seqT e s) (fun z => (n z).same e) (dp_sameA e ds _ a)
  | .dict _, _, h => by cases h
theorem dp_sameA {K : PySem.W.Frag} {H H' : Hp} (e : Same H H') : ∀ (ds : List PyData) (vs : List V), DvA K H vs ds → DvA K H' vs ds
  | [], _, h => by cases h; exact .nil
  | d :: ds, _, h => by
    cases h with
    | cons a r => exact .cons (dp_same e d _ a) (dp_sameA e ds _ r)
end
section
variable {K : PySem.W.Frag} {H H' H1 H2 H3 G G1 G2 : Hp}
theorem Dv.to {v : V} {d : PyData} (h : Dv K H v d) (e : Same H H') : Dv K H' v d := dp_same e d v h
theorem DvA.to {v : List V} {d : List PyData} (h : DvA K H v d) (e : Same H H') : DvA K H' v d := dp_sameA e d v h
theorem DvA.len : ∀ {vs : List V} {ds : List PyData}, DvA K H vs ds → vs.length = ds.length
  | _, _, .nil => rfl
  | _, _, .cons _ r => congrArg (· + 1) (DvA.len r)
theorem DvA.get : ∀ {vs : List V} {ds : List PyData} {i : Nat} {d : PyData}, DvA K H vs ds → ds[i]? = some d → ∃ v, vs[i]? = some v ∧ Dv K H v d
  | _, _, _, _, .nil, e => by simp at e
  | _, _, 0, _, .cons a _, e => by simp at e; subst e; exact ⟨_, rfl, a⟩
  | _, _, i + 1, d, .cons _ r, e => by
    obtain ⟨v, h1, h2⟩ := DvA.get (i := i) (d := d) r (by simpa using e)
    exact ⟨v, by simpa using h1, h2⟩
theorem DvA.getv : ∀ {vs : List V} {ds : List PyData} {i : Nat} {v : V}, DvA K H vs ds → vs[i]? = some v → ∃ d, ds[i]? = some d ∧ Dv K H v d
  | _, _, _, _, .nil, e => by simp at e
  | _, _, 0, _, .cons a _, e => by simp at e; subst e; exact ⟨_, rfl, a⟩
  | _, _, i + 1, v, .cons _ r, e => by
    obtain ⟨d, h1, h2⟩ := DvA.getv (i := i) (v := v) r (by simpa using e)
    exact ⟨d, by simpa using h1, h2⟩
theorem DvA.app : ∀ {vs ws : List V} {ds es : List PyData}, DvA K H vs ds → DvA K H ws es → DvA K H (vs ++ ws) (ds ++ es)
  | _, _, _, _, .nil, s => s
  | _, _, _, _, .cons a r, s => .cons a (DvA.app r s)
theorem DvA.take : ∀ {vs : List V} {ds : List PyData} (n : Nat), DvA K H vs ds → DvA K H (vs.take n) (ds.take n)
  | _, _, 0, _ => .nil
  | _, _, _ + 1, .nil => .nil
  | _, _, n + 1, .cons a r => .cons a (DvA.take n r)
theorem DvA.drop : ∀ {vs : List V} {ds : List PyData} (n : Nat), DvA K H vs ds → DvA K H (vs.drop n) (ds.drop n)
  | _, _, 0, r => r
  | _, _, _ + 1, .nil => .nil
  | _, _, n + 1, .cons _ r => DvA.drop n r
theorem DvA.one {v : V} {d : PyData} (h : Dv K H v d) : DvA K H [v] [d] := .cons h .nil
theorem Dv.int_inv {v : V} {i : Int} (h : Dv K H v (.int i)) : v = .int i := by cases h; rfl
theorem Dv.str_inv {v : V} {i : Str} (h : Dv K H v (.str i)) : v = .str i := by cases h; rfl
theorem Dv.bl_inv {v : V} {i : Bool} (h : Dv K H v (.bool i)) : v = .bl i := by cases h; rfl
theorem Dv.non_inv {v : V} (h : Dv K H v .none) : v = .non := by cases h; rfl
theorem Dv.lst_inv {v : V} {ds : List PyData} (h : Dv K H v (.list ds)) : ∃ a xs, v = .ref a ∧ Rd H a (.lst xs) ∧ DvA K H xs ds := by
  cases h with
  | lst s a => exact ⟨_, _, rfl, s, a⟩
theorem Dv.tup_inv {v : V} {ds : List PyData} (h : Dv K H v (.tuple ds)) : ∃ a xs, v = .ref a ∧ SqT K H a xs ∧ DvA K H xs ds := by
  cases h with
  | tup' s n a => exact ⟨_, _, rfl, s, a⟩
theorem Dv.tup_invN {v : V} {ds : List PyData} (h : Dv K H v (.tuple ds)) : ∃ a xs, v = .ref a ∧ SqT K H a xs ∧ (pairsB ds = true → RR.ND H a xs) ∧ DvA K H xs ds := by
  cases h with
  | tup' s n a => exact ⟨_, _, rfl, s, n, a⟩
theorem SqT.frz {a : Addr} {ob : Obj} {xs : List V} (h : H a = some (.frz ob (.tup xs))) : SqT K H a xs := .inl (.inr ⟨ob, h⟩)
/-- a tuple that is new -/
theorem Dv.tupF {a : Addr} {ob : Obj} {xs : List V} {ds : List PyData} (h : H a = some (.frz ob (.tup xs))) (hd : ob.dict = none) (r : DvA K H xs ds) : Dv K H (.ref a) (.tuple ds) := .tup' (SqT.frz h) (fun _ => ⟨ob, h, hd⟩) r
/-- a tuple that is no row of rows of two texts -/
theorem Dv.tup {a : Addr} {xs : List V} {ds : List PyData} (s : SqT K H a xs) (r : DvA K H xs ds) (hp : pairsB ds = false := by rfl) : Dv K H (.ref a) (.tuple ds) := .tup' s (fun z => by rw [hp] at z; cases z) r
theorem DvA.inv1 {vs : List V} {d : PyData} (h : DvA K H vs [d]) : ∃ v, vs = [v] ∧ Dv K H v d := by
  cases h with
  | cons a r => cases r; exact ⟨_, rfl, a⟩
theorem DvA.inv2 {vs : List V} {d e : PyData} (h : DvA K H vs [d, e]) : ∃ v w, vs = [v, w] ∧ Dv K H v d ∧ Dv K H w e := by
  cases h with
  | cons a r =>
    obtain ⟨w, rfl, b⟩ := DvA.inv1 r
    exact ⟨_, _, rfl, a, b⟩
theorem DvA.inv3 {vs : List V} {d e f : PyData} (h : DvA K H vs [d, e, f]) : ∃ v w x, vs = [v, w, x] ∧ Dv K H v d ∧ Dv K H w e ∧ Dv K H x f := by
  cases h with
  | cons a r =>
    obtain ⟨w, x, rfl, b, c⟩ := DvA.inv2 r
    exact ⟨_, _, _, rfl, a, b, c⟩
theorem DvA.inv4 {vs : List V} {d e f g : PyData} (h : DvA K H vs [d, e, f, g]) : ∃ v w x y, vs = [v, w, x, y] ∧ Dv K H v d ∧ Dv K H w e ∧ Dv K H x f ∧ Dv K H y g := by
  cases h with
  | cons a r =>
    obtain ⟨w, x, y, rfl, b, c, d⟩ := DvA.inv3 r
    exact ⟨_, _, _, _, rfl, a, b, c, d⟩
theorem DvA.ints : ∀ {ns : List Int}, DvA K H (ns.map V.int) (ns.map PyData.int)
  | [] => .nil
  | _ :: _ => .cons (.int _) DvA.ints
theorem DvA.ints_inv : ∀ {ns : List Int} {vs : List V}, DvA K H vs (ns.map PyData.int) → vs = ns.map V.int
  | [], _, .nil => rfl
  | _ :: _, _, .cons a r => by rw [Dv.int_inv a, DvA.ints_inv r]; rfl
theorem DvA.strs : ∀ {ns : List Str}, DvA K H (ns.map V.str) (ns.map PyData.str)
  | [] => .nil
  | _ :: _ => .cons (.str _) DvA.strs
theorem DvA.strs_inv : ∀ {ns : List Str} {vs : List V}, DvA K H vs (ns.map PyData.str) → vs = ns.map V.str
  | [], _, .nil => rfl
  | _ :: _, _, .cons a r => by rw [Dv.str_inv a, DvA.strs_inv r]; rfl
theorem DvA.bls_inv : ∀ {ns : List Bool} {vs : List V}, DvA K H vs (ns.map PyData.bool) → vs = ns.map V.bl
  | [], _, .nil => rfl
  | _ :: _, _, .cons a r => by rw [Dv.bl_inv a, DvA.bls_inv r]; rfl

/-! ### the public heap -/
/-- from the public H within H1 to the public G within H2: what was private in H1 is so still -/
structure Pub (H H1 G H2 : Hp) : Prop where
  hg : Same H G
  gh : Same G H2
  hh : Same H1 H2
  pr : ∀ b, H b = none → H1 b ≠ none → G b = none
theorem some_ne {H : Hp} {a : Addr} {o : HO} (h : H a = some o) : H a ≠ none := by rw [h]; exact fun z => nomatch z
theorem Pub.refl (e : Same H H1) : Pub H H1 H H1 := ⟨.refl _, e, .refl _, fun _ h _ => h⟩
theorem there_of (e : Same H1 H2) {b : Addr} (h : H1 b ≠ none) : H2 b ≠ none := by
  cases q : H1 b with
  | none => exact absurd q h
  | some o => exact some_ne (e b o q)
theorem Pub.trans (p : Pub H H1 G H2) (q : Pub G H2 G2 H3) : Pub H H1 G2 H3 :=
  ⟨p.hg.trans q.hg, q.gh, p.hh.trans q.hh, fun b h h1 => q.pr b (p.pr b h h1) (there_of p.hh h1)⟩
theorem same_new {H : Hp} {p : Addr} (h : H p = none) (o : HO) : Same H (upd H p o) := fun b u q => by rw [upd_ne (ne_of_none q h)]; exact q
theorem same_upd2 (e : Same H H1) (p : Addr) (h : H p = none) (o : HO) : Same H (upd H1 p o) := fun b u q => by rw [upd_ne (ne_of_none q h)]; exact e b u q
theorem same_both (e : Same H H1) (p : Addr) (o : HO) : Same (upd H p o) (upd H1 p o) := fun b u q => by
  by_cases hb : b = p
  · subst hb; rw [upd_same] at q ⊢; exact q
  · rw [upd_ne hb] at q ⊢; exact e b u q
/-- a new public object -/
theorem Pub.new (p : Pub H H1 G H2) {a : Addr} (h : H2 a = none) (o : HO) : Pub H H1 (upd G a o) (upd H2 a o) := by
  have hG := p.gh.free h
  refine ⟨p.hg.trans (same_new hG o), same_both p.gh a o, p.hh.trans (same_new h o), fun b h0 h1 => ?_⟩
  have hb : b ≠ a := fun z => by subst z; exact there_of p.hh h1 h
  rw [upd_ne hb]
  exact p.pr b h0 h1
/-- a new private object -/
theorem Pub.newP (p : Pub H H1 G H2) {a : Addr} (h : H2 a = none) (o : HO) : Pub H H1 G (upd H2 a o) :=
  ⟨p.hg, p.gh.trans (same_new h o), p.hh.trans (same_new h o), p.pr⟩
/-- a private object of one's own is written -/
theorem Pub.put (p : Pub H H1 G H2) {a : Addr} (h1 : H1 a = none) (hg : G a = none) (o : HO) : Pub H H1 G (upd H2 a o) :=
  ⟨p.hg, same_upd2 p.gh a hg o, same_upd2 p.hh a h1 o, p.pr⟩
/-- a private object of one's own is made public -/
theorem Pub.open_ (p : Pub H H1 G H2) {a : Addr} {o : HO} (h1 : H1 a = none) (hg : G a = none) (h : H2 a = some o) : Pub H H1 (upd G a o) H2 := by
  refine ⟨p.hg.trans (same_new hg o), fun b u q => ?_, p.hh, fun b h0 hb1 => ?_⟩
  · by_cases hb : b = a
    · subst hb; rw [upd_same] at q; rw [h]; exact q
    · rw [upd_ne hb] at q; exact p.gh b u q
  · have hb : b ≠ a := fun z => by subst z; exact hb1 h1
    rw [upd_ne hb]; exact p.pr b h0 hb1
/-- a private object stays what it is, and private -/
theorem Pub.keepP (p : Pub H H1 G H2) {a : Addr} {o : HO} (hH : H a = none) (h : H1 a = some o) : H2 a = some o ∧ G a = none := ⟨p.hh a o h, p.pr a hH (some_ne h)⟩
theorem Pub.same (p : Pub H H1 G H2) : Same H H2 := p.hg.trans p.gh
/-! ### what a reading gives: H the public heap, A the actual one, at which it is known -/
def GD (K : PySem.W.Frag) (t : TE) (σ : L2.St) (H A : Hp) (d : PyData) : Prop := ∀ H0 H1, Pub H A H0 H1 → ∀ Q : VK, (∀ v G H2, Pub H0 H1 G H2 → Dv K G v d → Q v H2) → t σ H1 Q
/-- one of several -/
def GR (K : PySem.W.Frag) (t : TE) (σ : L2.St) (H A : Hp) (R : PyData → Prop) : Prop := ∀ H0 H1, Pub H A H0 H1 → ∀ Q : VK, (∀ d v G H2, R d → Pub H0 H1 G H2 → Dv K G v d → Q v H2) → t σ H1 Q
/-- a known value -/
def GV (t : TE) (σ : L2.St) (H A : Hp) (v : V) : Prop := ∀ H0 H1, Pub H A H0 H1 → ∀ Q : VK, (∀ G H2, Pub H0 H1 G H2 → Q v H2) → t σ H1 Q
def GA (K : PySem.W.Frag) (t : TA) (σ : L2.St) (H A : Hp) (ds : List PyData) : Prop := ∀ H0 H1, Pub H A H0 H1 → ∀ Q, (∀ vs G H2, Pub H0 H1 G H2 → DvA K G vs ds → Q vs H2) → t σ H1 Q
def GT (t : TT) (σ : L2.St) (H A : Hp) (b : Bool) : Prop := ∀ H0 H1, Pub H A H0 H1 → ∀ Q : Bool → Hp → Prop, (∀ H2, Pub H0 H1 H0 H2 → Q b H2) → t σ H1 Q
theorem Pub.test (p : Pub H H1 G H2) (e : Same H2 H3) : Pub H H1 G H3 := ⟨p.hg, p.gh.trans e, p.hh.trans e, p.pr⟩
theorem Pub.idle {A : Hp} (s : Same H A) (e : Same A H2) : Pub H A H H2 := ⟨.refl _, s.trans e, e, fun _ h _ => h⟩
variable {A : Hp} {σ : L2.St} {t ta tb tc te : TE} {tA : TA} {tt tu : TT} {d d1 d2 d3 : PyData} {ds es : List PyData}
theorem GD.mono (g : GD K t σ H A d) (p : Pub H A G G1) : GD K t σ G G1 d := fun H0 H1 e Q q => g H0 H1 (p.trans e) Q q
theorem GA.mono (g : GA K tA σ H A ds) (p : Pub H A G G1) : GA K tA σ G G1 ds := fun H0 H1 e Q q => g H0 H1 (p.trans e) Q q
theorem GV.mono {v : V} (g : GV t σ H A v) (p : Pub H A G G1) : GV t σ G G1 v := fun H0 H1 e Q q => g H0 H1 (p.trans e) Q q
theorem GT.mono {b : Bool} (g : GT tt σ H A b) (p : Pub H A G G1) : GT tt σ G G1 b := fun H0 H1 e Q q => g H0 H1 (p.trans e) Q q
theorem GD.to {H0 : Hp} {Q : VK} (g : GD K t σ H A d) (e : Pub H A H0 H1) (k : ∀ v G H2, Pub H0 H1 G H2 → Dv K G v d → Q v H2) : t σ H1 Q := g H0 H1 e Q k
theorem GA.to {H0 : Hp} {Q : List V → Hp → Prop} (g : GA K tA σ H A ds) (e : Pub H A H0 H1) (k : ∀ vs G H2, Pub H0 H1 G H2 → DvA K G vs ds → Q vs H2) : tA σ H1 Q := g H0 H1 e Q k
theorem GV.to {H0 : Hp} {v : V} {Q : VK} (g : GV t σ H A v) (e : Pub H A H0 H1) (k : ∀ G H2, Pub H0 H1 G H2 → Q v H2) : t σ H1 Q := g H0 H1 e Q k
theorem GT.to {H0 : Hp} {Q : Bool → Hp → Prop} {b : Bool} (g : GT tt σ H A b) (e : Pub H A H0 H1) (k : ∀ H2, Pub H0 H1 H0 H2 → Q b H2) : tt σ H1 Q := g H0 H1 e Q k
theorem GD.gr (g : GD K t σ H A d) : GR K t σ H A (· = d) := fun H0 H1 e Q q => g H0 H1 e Q fun v G H2 p dv => q d v G H2 rfl p dv
/-- data by a value that is known to bear them -/
theorem GV.gd {v : V} (g : GV t σ H A v) (h : Dv K H v d) : GD K t σ H A d := fun H0 H1 e Q q => g.to e fun G H2 p => q v G H2 p (h.to (e.hg.trans p.hg))
/-! ### names, constants -/
theorem gd_var {i : Nat} {v : V} (e : σ[i]? = some (some v)) (h : Dv K H v d) : GD K (tVar i) σ H A d := fun H0 H1 s Q q => ⟨v, e, q v H0 H1 (.refl s.gh) (h.to s.hg)⟩
theorem gv_var {i : Nat} {v : V} (e : σ[i]? = some (some v)) : GV (tVar i) σ H A v := fun H0 H1 s Q q => ⟨v, e, q H0 H1 (.refl s.gh)⟩
theorem gv_c {v : V} : GV (tC v) σ H A v := fun H0 H1 s Q q => q H0 H1 (.refl s.gh)
theorem gd_c {v : V} (h : ∀ H, Dv K H v d) : GD K (tC v) σ H A d := fun H0 H1 s Q q => q v H0 H1 (.refl s.gh) (h _)
theorem gd_int {i : Int} : GD K (tC (.int i)) σ H A (.int i) := gd_c fun _ => .int i
theorem gd_str {i : Str} : GD K (tC (.str i)) σ H A (.str i) := gd_c fun _ => .str i
theorem gd_bl {i : Bool} : GD K (tC (.bl i)) σ H A (.bool i) := gd_c fun _ => .bl i
theorem gd_non : GD K (tC .non) σ H A .none := gd_c fun _ => .non
/-! ### displays -/
theorem ga_nil : GA K tNil σ H A [] := fun H0 H1 s Q q => q [] H0 H1 (.refl s.gh) .nil
theorem ga_cons (h : GD K ta σ H A d) (r : GA K tA σ H A ds) : GA K (tCons ta tA) σ H A (d :: ds) := fun H0 H1 s Q q => h.to s fun v G H2 p dv =>
  r.to (s.trans p) fun vs G2 H3 p2 dvs => q (v :: vs) G2 H3 (p.trans p2) (.cons (Dv.to dv p2.hg) dvs)
theorem gd_tup (h : GA K tA σ H A ds) (z : ds.length ≤ 1000 := by first | decide | simp) : GD K (RR.tTupF tA) σ H A (.tuple ds) := fun H0 H1 s Q q => h.to s fun vs G H2 p dv =>
  ⟨by rw [DvA.len dv]; exact Nat.le_of_lt (small1000 z), fun a ob ha hd => q (.ref a) _ _ (p.new ha _) (.tupF upd_same hd (DvA.to dv (same_new (p.gh.free ha) _)))⟩
theorem gd_lst (h : GA K tA σ H A ds) (z : ds.length ≤ 1000 := by first | decide | simp) : GD K (tLst tA) σ H A (.list ds) := fun H0 H1 s Q q => h.to s fun vs G H2 p dv =>
  ⟨by rw [DvA.len dv]; exact Nat.le_of_lt (small1000 z), fun a ha => q (.ref a) _ _ (p.new ha _) (.lst (.inl upd_same) (DvA.to dv (same_new (p.gh.free ha) _)))⟩
/-! ### operators -/
/-- by values -/
def GO (K : PySem.W.Frag) (r : R2) (d1 d2 d : PyData) : Prop := ∀ (H H1 G H2 : Hp) (x y : V) (Q : VK), Pub H H1 G H2 → Dv K G x d1 → Dv K G y d2 → (∀ v G' H3, Pub H H1 G' H3 → Dv K G' v d → Q v H3) → r x y H2 Q
theorem gdo {r : R2} (ga : GD K ta σ H A d1) (gb : GD K tb σ H A d2) (o : GO K r d1 d2 d) : GD K (tOp r ta tb) σ H A d := fun H0 H1 s Q q =>
  ga.to s fun x G1 H2 p dx => gb.to (s.trans p) fun y G2 H3 p2 dy => o _ _ G2 H3 x y Q (p.trans p2) (Dv.to dx p2.hg) dy q
def rOr (r r' : R2) : R2 := fun x y H Q => r x y H Q ∨ r' x y H Q
theorem op_or' {X : Cx} {f : Value → Value → Sem Value} {r r' : R2} (h : OpR X f r) (h' : OpR X f r') : OpR X f (rOr r r') := by
  intro pins s σ H x y v u Q I rx ry q
  rcases q with q | q
  · exact h pins s σ H x y v u Q I rx ry q
  · exact h' pins s σ H x y v u Q I rx ry q
end
end DL
end
section
set_option Elab.async false
set_option linter.all false
set_option maxRecDepth 100000
set_option maxHeartbeats 2000000
namespace DL
open PySem PySem.Spec PyProof.Rows L2
section
variable {K : PySem.W.Frag} {H H' H1 H2 H3 G G1 G2 : Hp} {σ : L2.St} {t ta tb tc te : TE} {tA : TA} {tt tu : TT} {d d1 d2 d3 : PyData} {ds es : List PyData}
/-! ### operators by values -/
theorem go_l {r r' : R2} (o : GO K r d1 d2 d) : GO K (rOr r r') d1 d2 d := fun H H1 G H2 x y Q p dx dy q => .inl (o H H1 G H2 x y Q p dx dy q)
theorem go_r {r r' : R2} (o : GO K r' d1 d2 d) : GO K (rOr r r') d1 d2 d := fun H H1 G H2 x y Q p dx dy q => .inr (o H H1 G H2 x y Q p dx dy q)
theorem go_i2 {f : Int → Int → Int} {i j : Int} : GO K (rI0 fun i j => .int (f i j)) (.int i) (.int j) (.int (f i j)) := fun H H1 G H2 x y Q p dx dy q => ⟨i, j, Dv.int_inv dx, Dv.int_inv dy, q _ G H2 p (.int _)⟩
theorem go_b2 {f : Int → Int → Bool} {i j : Int} : GO K (rI0 fun i j => .bl (f i j)) (.int i) (.int j) (.bool (f i j)) := fun H H1 G H2 x y Q p dx dy q => ⟨i, j, Dv.int_inv dx, Dv.int_inv dy, q _ G H2 p (.bl _)⟩
theorem go_ic {C : Int → Int → Prop} {f : Int → Int → Int} {i j : Int} (c : C i j) : GO K (rI C fun i j => .int (f i j)) (.int i) (.int j) (.int (f i j)) := fun H H1 G H2 x y Q p dx dy q => ⟨i, j, Dv.int_inv dx, Dv.int_inv dy, c, q _ G H2 p (.int _)⟩
/-- flat data -/
def flatD : PyData → Option V
  | .none => some .non
  | .bool b => some (.bl b)
  | .int i => some (.int i)
  | .str x => some (.str x)
  | _ => none
theorem flatD_v {v x : V} (h : Dv K H v d) (e : flatD d = some x) : v = x := by
  cases d <;> first | (cases e; cases h; rfl) | cases e
def rEqA (K : PySem.W.Frag) : R2 := rOr rEq (rEqD K)
theorem op_eqA {X : Cx} (hu : X.A.units + 64 < cLine) : OpR X (compareOp .Eq) (rEqA X.K) := op_or' op_eq (op_eqD hu)
def rNeA (K : PySem.W.Frag) : R2 := rOr rNe (rNeD K)
theorem op_neA {X : Cx} (hu : X.A.units + 64 < cLine) : OpR X (compareOp .NotEq) (rNeA X.K) := op_or' op_ne (op_neD hu)
theorem go_eqF {x y : V} (e1 : flatD d1 = some x) (e2 : flatD d2 = some y) (s : scal x y = true) : GO K (rEqA K) d1 d2 (.bool (decide (x = y))) := fun H H1 G H2 v w Q p dx dy q => by
  have e1 := flatD_v dx e1
  have e2 := flatD_v dy e2
  subst e1 e2
  exact .inl ⟨s, q _ G H2 p (.bl _)⟩
theorem go_eqS {x y : Str} : GO K (rEqA K) (.str x) (.str y) (.bool (decide (x = y))) := fun H H1 G H2 v w Q p dx dy q => by
  have e1 := Dv.str_inv dx
  have e2 := Dv.str_inv dy
  subst e1 e2
  refine .inl ⟨rfl, ?_⟩
  have z : decide (V.str x = V.str y) = decide (x = y) := by simp
  rw [z]
  exact q _ G H2 p (.bl _)
theorem go_eqI {x y : Int} : GO K (rEqA K) (.int x) (.int y) (.bool (decide (x = y))) := fun H H1 G H2 v w Q p dx dy q => by
  have e1 := Dv.int_inv dx
  have e2 := Dv.int_inv dy
  subst e1 e2
  refine .inl ⟨rfl, ?_⟩
  have z : decide (V.int x = V.int y) = decide (x = y) := by simp
  rw [z]
  exact q _ G H2 p (.bl _)
theorem go_eqD (s1 : SeqAt.shaped d1 = true) (s2 : SeqAt.shaped d2 = true) : GO K (rEqA K) d1 d2 (.bool (PyData.eqv d1 d2)) := fun H H1 G H2 v w Q p dx dy q =>
  .inr ⟨d1, d2, dv_dp _ _ (Dv.to dx p.gh), dv_dp _ _ (Dv.to dy p.gh), s1, s2, q _ G H2 p (.bl _)⟩
theorem go_neS {x y : Str} : GO K (rNeA K) (.str x) (.str y) (.bool (!decide (x = y))) := fun H H1 G H2 v w Q p dx dy q => by
  have e1 := Dv.str_inv dx
  have e2 := Dv.str_inv dy
  subst e1 e2
  refine .inl ⟨rfl, ?_⟩
  have z : decide (V.str x = V.str y) = decide (x = y) := by simp
  rw [z]
  exact q _ G H2 p (.bl _)
theorem go_neI {x y : Int} : GO K (rNeA K) (.int x) (.int y) (.bool (!decide (x = y))) := fun H H1 G H2 v w Q p dx dy q => by
  have e1 := Dv.int_inv dx
  have e2 := Dv.int_inv dy
  subst e1 e2
  refine .inl ⟨rfl, ?_⟩
  have z : decide (V.int x = V.int y) = decide (x = y) := by simp
  rw [z]
  exact q _ G H2 p (.bl _)
theorem go_neD (s1 : SeqAt.shaped d1 = true) (s2 : SeqAt.shaped d2 = true) : GO K (rNeA K) d1 d2 (.bool (!PyData.eqv d1 d2)) := fun H H1 G H2 v w Q p dx dy q =>
  .inr ⟨d1, d2, dv_dp _ _ (Dv.to dx p.gh), dv_dp _ _ (Dv.to dy p.gh), s1, s2, q _ G H2 p (.bl _)⟩
/-! is, of None and of the truth values -/
def sing : V → Bool
  | .non => true
  | .bl _ => true
  | _ => false
def rIs1 : R2 := fun x y H Q => sing y = true ∧ Q (.bl (decide (x = y))) H
def rIsNot1 : R2 := fun x y H Q => sing y = true ∧ Q (.bl (!decide (x = y))) H
theorem rel_sing {x y : V} {v u : Value} (rx : RelV x v) (ry : RelV y u) (s : sing y = true) : plainIs v u = true ∧ (v == u) = decide (x = y) := by
  cases y with
  | non =>
    cases ry
    refine ⟨?_, rx.none_iff⟩
    cases x <;> first | (cases rx; rfl) | (obtain ⟨t, rfl⟩ := rx; rfl)
  | bl b =>
    cases ry
    cases x with
    | bl c =>
      cases rx
      refine ⟨rfl, ?_⟩
      cases b <;> cases c <;> rfl
    | non => cases rx; exact ⟨rfl, rfl⟩
    | ref _ => cases rx; exact ⟨rfl, rfl⟩
    | ty _ => cases rx; exact ⟨rfl, rfl⟩
    | int _ => obtain ⟨t, rfl⟩ := rx; exact ⟨rfl, rfl⟩
    | str _ => obtain ⟨t, rfl⟩ := rx; exact ⟨rfl, rfl⟩
    | byt _ => obtain ⟨t, rfl⟩ := rx; exact ⟨rfl, rfl⟩
    | flt _ => obtain ⟨t, rfl⟩ := rx; exact ⟨rfl, rfl⟩
  | _ => cases s
theorem op_is1 {X : Cx} : OpR X (compareOp .Is) rIs1 := by
  intro pins s σ H x y v u Q I rx ry h
  obtain ⟨sy, q⟩ := h
  obtain ⟨e1, e2⟩ := rel_sing rx ry sy
  exact wpAny_is_plain e1 (by rw [e2]; exact ⟨.bl _, H, I, rfl, q⟩)
theorem op_isnot1 {X : Cx} : OpR X (compareOp .IsNot) rIsNot1 := by
  intro pins s σ H x y v u Q I rx ry h
  obtain ⟨sy, q⟩ := h
  obtain ⟨e1, e2⟩ := rel_sing rx ry sy
  exact wpAny_isNot_plain e1 (by rw [e2]; exact ⟨.bl _, H, I, rfl, q⟩)
def isNoneD : PyData → Bool
  | .none => true
  | _ => false
def isBoolD (b : Bool) : PyData → Bool
  | .bool c => c == b
  | _ => false
theorem go_isN : GO K rIs1 d .none (.bool (isNoneD d)) := fun H H1 G H2 v w Q p dx dy q => by
  have e := Dv.non_inv dy
  subst e
  refine ⟨rfl, ?_⟩
  have z : decide (v = .non) = isNoneD d := by cases dx <;> rfl
  rw [z]
  exact q _ G H2 p (.bl _)
theorem go_isB {b : Bool} : GO K rIs1 d (.bool b) (.bool (isBoolD b d)) := fun H H1 G H2 v w Q p dx dy q => by
  have e := Dv.bl_inv dy
  subst e
  refine ⟨rfl, ?_⟩
  have z : decide (v = .bl b) = isBoolD b d := by
    cases dx with
    | bl c => cases b <;> cases c <;> rfl
    | _ => rfl
  rw [z]
  exact q _ G H2 p (.bl _)
theorem go_notN : GO K rIsNot1 d .none (.bool (!isNoneD d)) := fun H H1 G H2 v w Q p dx dy q => by
  have e := Dv.non_inv dy
  subst e
  refine ⟨rfl, ?_⟩
  have z : decide (v = .non) = isNoneD d := by cases dx <;> rfl
  rw [z]
  exact q _ G H2 p (.bl _)
theorem go_notB {b : Bool} : GO K rIsNot1 d (.bool b) (.bool (!isBoolD b d)) := fun H H1 G H2 v w Q p dx dy q => by
  have e := Dv.bl_inv dy
  subst e
  refine ⟨rfl, ?_⟩
  have z : decide (v = .bl b) = isBoolD b d := by
    cases dx with
    | bl c => cases b <;> cases c <;> rfl
    | _ => rfl
  rw [z]
  exact q _ G H2 p (.bl _)
/-! less, greater: ints and texts -/
def rLeA : R2 := rOr (rI0 fun i j => .bl (decide (i ≤ j))) (fun x y H Q => ∃ i j, x = .str i ∧ y = .str j ∧ Q (.bl (!decide (j.cps.toList < i.cps.toList))) H)
theorem op_leA {X : Cx} : OpR X (compareOp .LtE) rLeA := op_or' op_le op_le_str
def rLtA : R2 := rOr (rI0 fun i j => .bl (decide (i < j))) (fun x y H Q => ∃ i j, x = .str i ∧ y = .str j ∧ Q (.bl (decide (i.cps.toList < j.cps.toList))) H)
theorem op_ltA {X : Cx} : OpR X (compareOp .Lt) rLtA := op_or' op_lt op_lt_str
theorem go_leI {i j : Int} : GO K rLeA (.int i) (.int j) (.bool (decide (i ≤ j))) := go_l go_b2
theorem go_ltI {i j : Int} : GO K rLtA (.int i) (.int j) (.bool (decide (i < j))) := go_l go_b2
def sLe (i j : Str) : Bool := !decide (j.cps.toList < i.cps.toList)
def sLt (i j : Str) : Bool := decide (i.cps.toList < j.cps.toList)
theorem go_leS {i j : Str} : GO K rLeA (.str i) (.str j) (.bool (sLe i j)) := go_r fun H H1 G H2 v w Q p dx dy q => ⟨i, j, Dv.str_inv dx, Dv.str_inv dy, q _ G H2 p (.bl _)⟩
theorem go_ltS {i j : Str} : GO K rLtA (.str i) (.str j) (.bool (sLt i j)) := go_r fun H H1 G H2 v w Q p dx dy q => ⟨i, j, Dv.str_inv dx, Dv.str_inv dy, q _ G H2 p (.bl _)⟩
abbrev rGtI : R2 := rI0 fun i j => .bl (decide (j < i))
abbrev rGeI : R2 := rI0 fun i j => .bl (decide (j ≤ i))
/-! in, not in: flat items in lists and tuples -/
theorem flat_all : ∀ {ds : List PyData} {xs vs : List V}, ds.map flatD = xs.map some → DvA K G vs ds → vs = xs
  | [], [], _, _, h => by cases h; rfl
  | d :: ds, x :: xs, _, e, h => by
    cases h with
    | cons a r =>
      rw [List.map_cons, List.map_cons, List.cons.injEq] at e
      rw [flatD_v a e.1, flat_all e.2 r]
  | [], _ :: _, _, e, _ => by simp at e
  | _ :: _, [], _, e, _ => by simp at e
theorem flatD_flat {x : V} (e : flatD d = some x) : flatV x = true := by cases d <;> first | (cases e; rfl) | cases e
theorem flatD_flats : ∀ {ds : List PyData} {xs : List V}, ds.map flatD = xs.map some → xs.all flatV = true
  | [], [], _ => rfl
  | d :: ds, x :: xs, e => by
    rw [List.map_cons, List.map_cons, List.cons.injEq] at e
    rw [List.all_cons, flatD_flat e.1, flatD_flats e.2]; rfl
  | [], _ :: _, e => by simp at e
  | _ :: _, [], e => by simp at e
theorem go_inT {x : V} {xs : List V} (e : flatD d = some x) (es : ds.map flatD = xs.map some) : GO K (rIn K false) d (.tuple ds) (.bool (inV x xs)) := fun H H1 G H2 v w Q p dx dy q => by
  have e1 := flatD_v dx e
  subst e1
  obtain ⟨a, ws, rfl, s, da⟩ := Dv.tup_inv dy
  have e2 := flat_all es da
  subst e2
  exact ⟨a, ws, rfl, .inr (seqT p.gh s), flatD_flat e, flatD_flats es, q _ G H2 p (.bl _)⟩
theorem go_inL {x : V} {xs : List V} (e : flatD d = some x) (es : ds.map flatD = xs.map some) : GO K (rIn K false) d (.list ds) (.bool (inV x xs)) := fun H H1 G H2 v w Q p dx dy q => by
  have e1 := flatD_v dx e
  subst e1
  obtain ⟨a, ws, rfl, s, da⟩ := Dv.lst_inv dy
  have e2 := flat_all es da
  subst e2
  exact ⟨a, ws, rfl, .inl (.inl (rd_same p.gh s)), flatD_flat e, flatD_flats es, q _ G H2 p (.bl _)⟩
theorem go_ninT {x : V} {xs : List V} (e : flatD d = some x) (es : ds.map flatD = xs.map some) : GO K (rIn K true) d (.tuple ds) (.bool (!inV x xs)) := fun H H1 G H2 v w Q p dx dy q => by
  have e1 := flatD_v dx e
  subst e1
  obtain ⟨a, ws, rfl, s, da⟩ := Dv.tup_inv dy
  have e2 := flat_all es da
  subst e2
  exact ⟨a, ws, rfl, .inr (seqT p.gh s), flatD_flat e, flatD_flats es, q _ G H2 p (.bl _)⟩
theorem go_ninL {x : V} {xs : List V} (e : flatD d = some x) (es : ds.map flatD = xs.map some) : GO K (rIn K true) d (.list ds) (.bool (!inV x xs)) := fun H H1 G H2 v w Q p dx dy q => by
  have e1 := flatD_v dx e
  subst e1
  obtain ⟨a, ws, rfl, s, da⟩ := Dv.lst_inv dy
  have e2 := flat_all es da
  subst e2
  exact ⟨a, ws, rfl, .inl (.inl (rd_same p.gh s)), flatD_flat e, flatD_flats es, q _ G H2 p (.bl _)⟩
theorem inV_strs (x : Str) : ∀ xs : List Str, inV (.str x) (xs.map V.str) = decide (x ∈ xs)
  | [] => rfl
  | y :: xs => by
    have ih := inV_strs x xs
    unfold inV at ih ⊢
    rw [List.map_cons, List.any_cons, ih]
    show ((y == x) || decide (x ∈ xs)) = decide (x ∈ y :: xs)
    rw [Bool.eq_iff_iff]
    simp only [Bool.or_eq_true, beq_iff_eq, decide_eq_true_eq, List.mem_cons]
    constructor
    · rintro (h | h)
      · exact .inl h.symm
      · exact .inr h
    · rintro (h | h)
      · exact .inl h.symm
      · exact .inr h
theorem inV_ints (x : Int) : ∀ xs : List Int, inV (.int x) (xs.map V.int) = decide (x ∈ xs)
  | [] => rfl
  | y :: xs => by
    have ih := inV_ints x xs
    unfold inV at ih ⊢
    rw [List.map_cons, List.any_cons, ih]
    show ((y == x) || decide (x ∈ xs)) = decide (x ∈ y :: xs)
    rw [Bool.eq_iff_iff]
    simp only [Bool.or_eq_true, beq_iff_eq, decide_eq_true_eq, List.mem_cons]
    constructor
    · rintro (h | h)
      · exact .inl h.symm
      · exact .inr h
    · rintro (h | h)
      · exact .inl h.symm
      · exact .inr h
theorem flat_strs (xs : List Str) : (xs.map PyData.str).map flatD = (xs.map V.str).map some := by
  induction xs with
  | nil => rfl
  | cons x xs ih => rw [List.map_cons, List.map_cons, List.map_cons, List.map_cons, ih]; rfl
theorem flat_ints (xs : List Int) : (xs.map PyData.int).map flatD = (xs.map V.int).map some := by
  induction xs with
  | nil => rfl
  | cons x xs ih => rw [List.map_cons, List.map_cons, List.map_cons, List.map_cons, ih]; rfl
/-! items -/
theorem atI_get' {α : Type} {xs : List α} {i : Int} {v : α} (h : atI xs i = some v) : ∃ j, ixN xs.length i = some j ∧ xs[j]? = some v := by
  unfold atI at h
  exact Option.bind_eq_some_iff.mp h
theorem DvA.at_ {vs : List V} {i : Int} (h : DvA K G vs ds) (e : atI ds i = some d) : ∃ v, atI vs i = some v ∧ Dv K G v d := by
  obtain ⟨j, e1, e2⟩ := atI_get' e
  obtain ⟨v, e3, dv⟩ := DvA.get h e2
  refine ⟨v, ?_, dv⟩
  unfold atI
  rw [DvA.len h, e1]
  exact e3
theorem go_ixT {i : Int} (e : atI ds i = some d) : GO K (rIx K) (.tuple ds) (.int i) d := fun H H1 G H2 v w Q p dx dy q => by
  obtain ⟨a, ws, rfl, s, da⟩ := Dv.tup_inv dx
  obtain ⟨v, e2, dv⟩ := DvA.at_ da e
  exact .inr (.inl ⟨a, ws, i, v, rfl, Dv.int_inv dy, seqT p.gh s, e2, q _ G H2 p dv⟩)
theorem go_ixL {i : Int} (e : atI ds i = some d) : GO K (rIx K) (.list ds) (.int i) d := fun H H1 G H2 v w Q p dx dy q => by
  obtain ⟨a, ws, rfl, s, da⟩ := Dv.lst_inv dx
  obtain ⟨v, e2, dv⟩ := DvA.at_ da e
  exact .inl ⟨a, ws, i, v, rfl, Dv.int_inv dy, .inl (rd_same p.gh s), e2, q _ G H2 p dv⟩
/-! + -/
def rCatR : R2 := fun x y H Q => ∃ l b xs zs, x = .ref l ∧ y = .ref b ∧ Rd H l (.lst xs) ∧ Rd H b (.lst zs) ∧ xs.length + zs.length ≤ sizeLine ∧ ∀ p, H p = none → Q (.ref p) (upd H p (.lst (xs ++ zs)))
theorem op_catR {X : Cx} : OpR X (binaryOp .Add) rCatR := by
  intro pins s σ H x y v u Q I rx ry h
  obtain ⟨l, b, xs, zs, rfl, rfl, hH, hB, hz, q⟩ := h
  cases rx
  cases ry
  obtain ⟨z, its, n, r, e⟩ := (show ObjOk X.prog X.w H s.heap l (.lst xs) from hH.ok I.hok)
  obtain ⟨z2, its2, n2, r2, e2⟩ := (show ObjOk X.prog X.w H s.heap b (.lst zs) from hB.ok I.hok)
  have hl := r.length
  have hl2 := r2.length
  refine PySem.P.add_list e e2 ?_ (by rw [List.size_toArray, List.size_toArray]; omega)
  have ea : its.toArray ++ its2.toArray = (its ++ its2).toArray := by simp
  rw [ea]
  exact ⟨.ref _, _, I.lnew (t' := s.toks) (r.append r2) (by rw [List.length_append]; omega), rfl, q _ I.fresh⟩
def rAddS : R2 := fun x y H Q => ∃ i j, x = .str i ∧ y = .str j ∧ i.length + j.length ≤ sizeLine ∧ Q (.str (i ++ j)) H
def rAddA (K : PySem.W.Frag) : R2 := rOr (rI0 fun i j => .int (i + j)) (rOr rAddS (rOr rCatR (RR.rCatF K)))
theorem op_addA {X : Cx} : OpR X (binaryOp .Add) (rAddA X.K) := op_or' op_add (op_or' op_add_str (op_or' op_catR RR.op_catF))
theorem go_addI {i j : Int} : GO K (rAddA K) (.int i) (.int j) (.int (i + j)) := go_l go_i2
theorem go_addS {i j : Str} (z : i.length + j.length ≤ sizeLine) : GO K (rAddA K) (.str i) (.str j) (.str (i ++ j)) := go_r (go_l fun H H1 G H2 v w Q p dx dy q => ⟨i, j, Dv.str_inv dx, Dv.str_inv dy, z, q _ G H2 p (.str _)⟩)
theorem go_addL (z : ds.length + es.length ≤ sizeLine) : GO K (rAddA K) (.list ds) (.list es) (.list (ds ++ es)) := go_r (go_r (go_l fun H H1 G H2 v w Q p dx dy q => by
  obtain ⟨a, xs, rfl, s1, da⟩ := Dv.lst_inv dx
  obtain ⟨b, ys, rfl, s2, db⟩ := Dv.lst_inv dy
  exact ⟨a, b, xs, ys, rfl, rfl, rd_same p.gh s1, rd_same p.gh s2, by rw [DvA.len da, DvA.len db]; exact z, fun c hc => q (.ref c) _ _ (p.new hc _) (.lst (.inl upd_same) ((DvA.app da db).to (same_new (p.gh.free hc) _)))⟩))
end
end DL
end
section
set_option Elab.async false
set_option linter.all false
set_option maxRecDepth 100000
set_option maxHeartbeats 2000000
namespace DL
open PySem PySem.Spec PyProof.Rows L2
section
variable {K : PySem.W.Frag} {A H H' H1 H2 H3 G G1 G2 : Hp} {σ : L2.St} {t ta tb tc te : TE} {tA : TA} {tt tu : TT} {d d1 d2 d3 : PyData} {ds es : List PyData}
theorem go_addT (z : ds.length + es.length ≤ sizeLine) : GO K (rAddA K) (.tuple ds) (.tuple es) (.tuple (ds ++ es)) := go_r (go_r (go_r fun H H1 G H2 v w Q p dx dy q => by
  obtain ⟨a, xs, rfl, s1, n1, da⟩ := Dv.tup_invN dx
  obtain ⟨b, ys, rfl, s2, n2, db⟩ := Dv.tup_invN dy
  have l1 := DvA.len da
  have l2 := DvA.len db
  refine ⟨a, b, xs, ys, rfl, rfl, seqT p.gh s1, seqT p.gh s2, by omega, fun e => ?_, fun e1 e => ?_, fun _ _ c ob hc hd => q (.ref c) _ _ (p.new hc _) (.tupF upd_same hd ((DvA.app da db).to (same_new (p.gh.free hc) _)))⟩
  · subst e
    cases da
    exact q _ G H2 p (.tup' s2 n2 db)
  · subst e
    cases db
    rw [List.append_nil] at q
    exact q _ G H2 p (.tup' s1 n1 da)))
/-! ### slices -/
def GP (t : TO) (σ : L2.St) (H A : Hp) (o : Option Int) : Prop := ∀ H0 H1, Pub H A H0 H1 → ∀ Q : Option Int → Hp → Prop, (∀ H2, Pub H0 H1 H0 H2 → Q o H2) → t σ H1 Q
theorem gp_none : GP tNoPart σ H A none := fun H0 H1 e Q q => q H1 (.refl e.gh)
theorem gp_some {i : Int} (g : GD K t σ H A (.int i)) : GP (tPart t) σ H A (some i) := fun H0 H1 e Q q => g.to e fun v G H2 p dv => ⟨i, Dv.int_inv dv, q H2 (.idle e.gh p.hh)⟩
def cutD (ds : List PyData) (lo hi : Option Int) : List PyData := (ds.drop (HT.sIx ds.length 0 lo)).take (HT.sIx ds.length ds.length hi - HT.sIx ds.length 0 lo)
theorem DvA.cut {vs : List V} (h : DvA K G vs ds) (lo hi : Option Int) : DvA K G (cutV vs lo hi) (cutD ds lo hi) := by
  unfold cutV cutD
  rw [DvA.len h]
  exact (h.drop _).take _
def rSlR : V → Option Int → Option Int → Hp → VK → Prop := fun x lo hi H Q => ∃ a xs, x = .ref a ∧ Rd H a (.lst xs) ∧ ∀ p, H p = none → Q (.ref p) (upd H p (.lst (cutV xs lo hi)))
theorem sl_listR {X : Cx} : SlR X rSlR := fun pins s σ H x v vl vu lo hi sl Q I rx hs pl pu h => by
  obtain ⟨a, xs, e, r, q⟩ := h
  exact sl_list pins s σ H x v vl vu lo hi sl Q I rx hs pl pu ⟨a, xs, e, .inl r, q⟩
def sOr (r r' : V → Option Int → Option Int → Hp → VK → Prop) : V → Option Int → Option Int → Hp → VK → Prop := fun x lo hi H Q => r x lo hi H Q ∨ r' x lo hi H Q
theorem sl_or' {X : Cx} {r r' : V → Option Int → Option Int → Hp → VK → Prop} (h : SlR X r) (h' : SlR X r') : SlR X (sOr r r') := h.or h'
def rSlD (K : PySem.W.Frag) := sOr rSlR (sOr (RR.rSlF K) C8.rSlX)
theorem sl_D {X : Cx} : SlR X (rSlD X.K) := sl_or' sl_listR (sl_or' RR.sl_tupF C8.sl_txt)
theorem gd_sl {r : V → Option Int → Option Int → Hp → VK → Prop} {tl th : TO} {lo hi : Option Int} (g : GD K te σ H A d1) (gl : GP tl σ H A lo) (gh : GP th σ H A hi)
    (h : ∀ (H H1 G H2 : Hp) (x : V) (Q : VK), Pub H H1 G H2 → Dv K G x d1 → (∀ v G' H3, Pub H H1 G' H3 → Dv K G' v d → Q v H3) → r x lo hi H2 Q) : GD K (tSl r te tl th) σ H A d := fun H0 H1 e Q q =>
  g.to e fun x G H2 p dx => gl G H2 (e.trans p) _ fun H3 e3 => gh G H3 (e.trans (p.trans e3)) _ fun H4 e4 => h H0 H1 G H4 x Q (p.trans (e3.trans e4)) dx q
theorem gd_slL {tl th : TO} {lo hi : Option Int} (g : GD K te σ H A (.list ds)) (gl : GP tl σ H A lo) (gh : GP th σ H A hi) : GD K (tSl (rSlD K) te tl th) σ H A (.list (cutD ds lo hi)) :=
  gd_sl g gl gh fun H H1 G H2 x Q p dx q => by
    obtain ⟨a, xs, rfl, s, da⟩ := Dv.lst_inv dx
    exact .inl ⟨a, xs, rfl, rd_same p.gh s, fun b hb => q (.ref b) _ _ (p.new hb _) (.lst (.inl upd_same) ((DvA.cut da lo hi).to (same_new (p.gh.free hb) _)))⟩
theorem cutV_all {α : Type} (xs : List α) (a b : Nat) (h : a = 0 ∧ b = xs.length) : (xs.drop a).take (b - a) = xs := by
  obtain ⟨rfl, rfl⟩ := h
  simp
theorem gd_slT {tl th : TO} {lo hi : Option Int} (g : GD K te σ H A (.tuple ds)) (gl : GP tl σ H A lo) (gh : GP th σ H A hi) : GD K (tSl (rSlD K) te tl th) σ H A (.tuple (cutD ds lo hi)) :=
  gd_sl g gl gh fun H H1 G H2 x Q p dx q => by
    obtain ⟨a, xs, rfl, s, n, da⟩ := Dv.tup_invN dx
    refine .inr (.inl ⟨a, xs, rfl, seqT p.gh s, fun hz => ?_, fun _ b ob hb hd => q (.ref b) _ _ (p.new hb _) (.tupF upd_same hd ((DvA.cut da lo hi).to (same_new (p.gh.free hb) _)))⟩)
    refine q _ G H2 p ?_
    have l := DvA.len da
    rw [l] at hz
    have e : cutD ds lo hi = ds := cutV_all ds _ _ hz
    rw [e]
    exact .tup' s n da
theorem gd_slS {tl th : TO} {lo hi : Option Int} {x : Str} (g : GD K te σ H A (.str x)) (gl : GP tl σ H A lo) (gh : GP th σ H A hi) (z : x.length ≤ sizeLine) : GD K (tSl (rSlD K) te tl th) σ H A (.str (Txt.slice x lo hi)) :=
  gd_sl g gl gh fun H H1 G H2 v Q p dx q => .inr (.inr ⟨x, Dv.str_inv dx, z, q _ G H2 p (.str _)⟩)
/-! ### tests -/
theorem gt_test {b : Bool} (g : GD K t σ H A (.bool b)) : GT (tTest t) σ H A b := fun H0 H1 e Q q => g.to e fun v G H2 p dv => ⟨b, Dv.bl_inv dv, q H2 (.idle e.gh p.hh)⟩
theorem gt_tB {b : Bool} (g : GD K t σ H A (.bool b)) : GT (tB t) σ H A b := fun H0 H1 e Q q => g.to e fun v G H2 p dv => ⟨b, Dv.bl_inv dv, q H2 (.idle e.gh p.hh)⟩
theorem gt_not {b : Bool} (g : GT tt σ H A b) : GT (tNot tt) σ H A (!b) := fun H0 H1 e Q q => g.to e fun H2 e2 => q H2 e2
theorem gt_and {b c : Bool} (g : GT tt σ H A b) (h : b = true → GT tu σ H A c) : GT (tAnd tt tu) σ H A (b && c) := fun H0 H1 e Q q => g.to e fun H2 e2 => by
  cases b with
  | false => exact iteF (q H2 e2)
  | true => exact iteT ((h rfl).to (e.trans e2) fun H3 e3 => q H3 (e2.trans e3))
theorem gt_or {b c : Bool} (g : GT tt σ H A b) (h : b = false → GT tu σ H A c) : GT (tOr tt tu) σ H A (b || c) := fun H0 H1 e Q q => g.to e fun H2 e2 => by
  cases b with
  | true => exact iteT (q H2 e2)
  | false => exact iteF ((h rfl).to (e.trans e2) fun H3 e3 => q H3 (e2.trans e3))
/-- truth -/
def truD : PyData → Bool
  | .none => false
  | .bool b => b
  | .int i => i != 0
  | .str x => (x.length : Int) != 0
  | .list ds => !ds.isEmpty
  | .tuple ds => !ds.isEmpty
  | .dict _ => false
def truOk : PyData → Bool
  | .str x => decide (x.length ≤ sizeLine)
  | _ => true
theorem dva_empty {vs : List V} (h : DvA K G vs ds) : vs.isEmpty = ds.isEmpty := by cases h <;> rfl
theorem truV_of {v : V} (h : Dv K H v d) (z : truOk d = true) : TruV K v H (truD d) := by
  cases h with
  | non => exact (rfl : truD .none = false)
  | bl b => exact (rfl : truD (.bool b) = b)
  | int i => exact (rfl : truD (.int i) = (i != 0))
  | str x => exact ⟨of_decide_eq_true z, rfl⟩
  | lst s a => exact .inl ⟨_, .inl s, by rw [dva_empty a]; rfl⟩
  | tup' s _ a => exact .inr (.inl ⟨_, s, by rw [dva_empty a]; rfl⟩)
def tTr (K : PySem.W.Frag) (ta : TE) : TT := fun σ H Q => ta σ H fun x H' => ∃ k, TruV K x H' k ∧ Q k H'
theorem pt_tr {X : Cx} {a : Expr} {ta : TE} (ha : PE X a ta) (he : ∀ whole, isTrue a X.env whole = (do let v ← whole; standAt a.pos; holding [v] (truthy v)) := by intro _; rfl) : PT X a (tTr X.K ta) := pt_truth ha he
theorem gt_tr (g : GD K t σ H A d) (z : truOk d = true := by rfl) : GT (tTr K t) σ H A (truD d) := fun H0 H1 e Q q => g.to e fun v G H2 p dv => ⟨_, truV_of (Dv.to dv p.gh) z, q H2 (.idle e.gh p.hh)⟩
theorem gd_and {b : Bool} (g : GD K ta σ H A (.bool b)) (h : b = true → GD K tb σ H A d) (h0 : b = false → d = .bool false) : GD K (tAndV ta tb) σ H A d := fun H0 H1 e Q q => g.to e fun v G H2 p dv => ⟨b, Dv.bl_inv dv, by
  cases b with
  | false =>
    rw [h0 rfl] at q
    exact iteF (q _ G H2 p (.bl _))
  | true => exact iteT ((h rfl).to (e.trans p) fun w G2 H3 p2 dw => q w G2 H3 (p.trans p2) dw)⟩
theorem gd_andB {b c : Bool} (g : GD K ta σ H A (.bool b)) (h : b = true → GD K tb σ H A (.bool c)) : GD K (tAndV ta tb) σ H A (.bool (b && c)) := by
  cases b with
  | false => exact gd_and g (fun z => nomatch z) fun _ => rfl
  | true => exact gd_and g (fun _ => h rfl) fun z => nomatch z
theorem gd_orB {b c : Bool} (g : GD K ta σ H A (.bool b)) (h : b = false → GD K tb σ H A (.bool c)) : GD K (tOrV ta tb) σ H A (.bool (b || c)) := fun H0 H1 e Q q => g.to e fun v G H2 p dv => ⟨b, Dv.bl_inv dv, by
  cases b with
  | true => exact iteT (q _ G H2 p (.bl _))
  | false => exact iteF ((h rfl).to (e.trans p) fun w G2 H3 p2 dw => q w G2 H3 (p.trans p2) dw)⟩
theorem gd_notB {b : Bool} (g : GD K ta σ H A (.bool b)) : GD K (tNotV ta) σ H A (.bool (!b)) := fun H0 H1 e Q q => g.to e fun v G H2 p dv => ⟨b, Dv.bl_inv dv, q _ G H2 p (.bl _)⟩
theorem gd_notT (g : GD K ta σ H A d) (z : truOk d = true := by rfl) : GD K (tNotT K ta) σ H A (.bool (!truD d)) := fun H0 H1 e Q q => g.to e fun v G H2 p dv => ⟨_, truV_of (Dv.to dv p.gh) z, q _ G H2 p (.bl _)⟩
theorem gd_andT (g : GD K ta σ H A d1) (h : truD d1 = true → GD K tb σ H A d) (h0 : truD d1 = false → d = d1) (z : truOk d1 = true := by rfl) : GD K (tAndT K ta tb) σ H A d := fun H0 H1 e Q q => g.to e fun v G H2 p dv => ⟨_, truV_of (Dv.to dv p.gh) z, by
  cases c : truD d1 with
  | false =>
    rw [h0 c] at q
    exact iteF (q _ G H2 p dv)
  | true => exact iteT ((h c).to (e.trans p) fun w G2 H3 p2 dw => q w G2 H3 (p.trans p2) dw)⟩
theorem gd_orT (g : GD K ta σ H A d1) (h : truD d1 = false → GD K tb σ H A d) (h0 : truD d1 = true → d = d1) (z : truOk d1 = true := by rfl) : GD K (tOrT K ta tb) σ H A d := fun H0 H1 e Q q => g.to e fun v G H2 p dv => ⟨_, truV_of (Dv.to dv p.gh) z, by
  cases c : truD d1 with
  | true =>
    rw [h0 c] at q
    exact iteT (q _ G H2 p dv)
  | false => exact iteF ((h c).to (e.trans p) fun w G2 H3 p2 dw => q w G2 H3 (p.trans p2) dw)⟩
theorem gd_if {b : Bool} (g : GT tt σ H A b) (h1 : b = true → GD K ta σ H A d) (h2 : b = false → GD K tb σ H A d) : GD K (tIf tt ta tb) σ H A d := fun H0 H1 e Q q => g.to e fun H2 e2 => by
  have fin : ∀ {t : TE}, GD K t σ H A d → t σ H2 Q := fun {t} g => g.to (e.trans e2) fun w G2 H3 p2 dw => q w G2 H3 (e2.trans p2) dw
  cases b with
  | true => exact iteT (fin (h1 rfl))
  | false => exact iteF (fin (h2 rfl))
/-- a op1 b op2 c, the first true or not -/
theorem gd_chain {r r' : R2} {b c : Bool} (ga : GD K ta σ H A d1) (gb : GD K tb σ H A d2) (o : GO K r d1 d2 (.bool b)) (gc : GD K tc σ H A d3) (o2 : GO K r' d2 d3 (.bool c)) : GD K (tChain r r' ta tb tc) σ H A (.bool (b && c)) := fun H0 H1 e Q q =>
  ga.to e fun x G1 H2 p dx => gb.to (e.trans p) fun y G2 H3 p2 dy => o G2 H3 G2 H3 x y _ (.refl p2.gh) (Dv.to dx p2.hg) dy fun v G3 H4 p3 dv => ⟨b, Dv.bl_inv dv, by
    have p123 := (p.trans p2).trans p3
    cases b with
    | false => exact iteF (q _ G3 H4 p123 (.bl _))
    | true => exact iteT (gc.to (e.trans p123) fun z G4 H5 p4 dz => o2 H0 H1 G4 H5 y z Q (p123.trans p4) ((Dv.to dy p3.hg).to p4.hg) dz q)⟩
/-! ### calls of what is built in -/
def GC (K : PySem.W.Frag) (r : List V → Hp → VK → Prop) (ds : List PyData) (d : PyData) : Prop := ∀ (H H1 G H2 : Hp) (vs : List V) (Q : VK), Pub H H1 G H2 → DvA K G vs ds → (∀ v G' H3, Pub H H1 G' H3 → Dv K G' v d → Q v H3) → r vs H2 Q
theorem gd_cb {r : List V → Hp → VK → Prop} (ga : GA K tA σ H A ds) (o : GC K r ds d) : GD K (tCB r tA) σ H A d := fun H0 H1 e Q q => ga.to e fun vs G H2 p dv => o H0 H1 G H2 vs Q p dv q
def cOr (r r' : List V → Hp → VK → Prop) : List V → Hp → VK → Prop := fun xs H Q => r xs H Q ∨ r' xs H Q
theorem cr_or' {X : Cx} {f : Value} {r r' : List V → Hp → VK → Prop} (h : CallR X f r) (h' : CallR X f r') : CallR X f (cOr r r') := h.or h'
def rLen (K : PySem.W.Frag) : List V → Hp → VK → Prop := fun xs H Q => ∃ x n, xs = [x] ∧ LenV K x H n ∧ Q (.int n) H
theorem cr_len {X : Cx} : CallR X (.builtin "len") (rLen X.K) := call_len
theorem gc_lenL : GC K (rLen K) [.list ds] (.int ds.length) := fun H H1 G H2 vs Q p dv q => by
  obtain ⟨v, rfl, d1⟩ := DvA.inv1 dv
  obtain ⟨a, xs, rfl, s, da⟩ := Dv.lst_inv d1
  exact ⟨_, xs.length, rfl, .inl ⟨xs, .inl (rd_same p.gh s), rfl⟩, by rw [DvA.len da]; exact q _ G H2 p (.int _)⟩
theorem gc_lenT : GC K (rLen K) [.tuple ds] (.int ds.length) := fun H H1 G H2 vs Q p dv q => by
  obtain ⟨v, rfl, d1⟩ := DvA.inv1 dv
  obtain ⟨a, xs, rfl, s, da⟩ := Dv.tup_inv d1
  exact ⟨_, xs.length, rfl, .inr ⟨xs, seqT p.gh s, rfl⟩, by rw [DvA.len da]; exact q _ G H2 p (.int _)⟩
theorem gc_lenS {x : Str} (z : x.length ≤ sizeLine) : GC K (rLen K) [.str x] (.int x.length) := fun H H1 G H2 vs Q p dv q => by
  obtain ⟨v, rfl, d1⟩ := DvA.inv1 dv
  have e := Dv.str_inv d1
  subst e
  exact ⟨_, x.length, rfl, ⟨z, rfl⟩, q _ G H2 p (.int _)⟩
def rInt : List V → Hp → VK → Prop := fun xs H Q => (∃ i, xs = [.int i] ∧ Q (.int i) H) ∨ ∃ k, xs = [.bl k] ∧ Q (.int (if k then 1 else 0)) H
theorem cr_int {X : Cx} : CallR X (.type "int") rInt := call_int1
theorem gc_int {i : Int} : GC K rInt [.int i] (.int i) := fun H H1 G H2 vs Q p dv q => by
  obtain ⟨v, rfl, d1⟩ := DvA.inv1 dv
  have e := Dv.int_inv d1
  subst e
  exact .inl ⟨i, rfl, q _ G H2 p (.int _)⟩
def rAllB (K : PySem.W.Frag) : List V → Hp → VK → Prop := rAll K
theorem gc_all {bs : List Bool} : GC K (rAll K) [.list (bs.map .bool)] (.bool (bs.all id)) := fun H H1 G H2 vs Q p dv q => by
  obtain ⟨v, rfl, d1⟩ := DvA.inv1 dv
  obtain ⟨a, xs, rfl, s, da⟩ := Dv.lst_inv d1
  have e := DvA.bls_inv da
  subst e
  exact ⟨a, bs, rfl, .inl (rd_same p.gh s), q _ G H2 p (.bl _)⟩
theorem gc_any {bs : List Bool} : GC K (rAny K) [.list (bs.map .bool)] (.bool (bs.any id)) := fun H H1 G H2 vs Q p dv q => by
  obtain ⟨v, rfl, d1⟩ := DvA.inv1 dv
  obtain ⟨a, xs, rfl, s, da⟩ := Dv.lst_inv d1
  have e := DvA.bls_inv da
  subst e
  exact ⟨a, bs, rfl, .inl (rd_same p.gh s), q _ G H2 p (.bl _)⟩
theorem gc_sum {ns : List Int} : GC K (rSum K) [.list (ns.map .int)] (.int ns.sum) := fun H H1 G H2 vs Q p dv q => by
  obtain ⟨v, rfl, d1⟩ := DvA.inv1 dv
  obtain ⟨a, xs, rfl, s, da⟩ := Dv.lst_inv d1
  have e := DvA.ints_inv da
  subst e
  exact ⟨a, ns, rfl, .inl (rd_same p.gh s), q _ G H2 p (.int _)⟩
def rListOf (K : PySem.W.Frag) : List V → Hp → VK → Prop := fun xs H Q => ∃ p ys, xs = [.ref p] ∧ (SqL K H p ys ∨ SqT K H p ys) ∧ ∀ l, H l = none → Q (.ref l) (upd H l (.lst ys))
theorem cr_listOf {X : Cx} : CallR X (.type "list") (rListOf X.K) := call_list_of
theorem gc_listL : GC K (rListOf K) [.list ds] (.list ds) := fun H H1 G H2 vs Q p dv q => by
  obtain ⟨v, rfl, d1⟩ := DvA.inv1 dv
  obtain ⟨a, xs, rfl, s, da⟩ := Dv.lst_inv d1
  exact ⟨a, xs, rfl, .inl (.inl (rd_same p.gh s)), fun b hb => q (.ref b) _ _ (p.new hb _) (.lst (.inl upd_same) (da.to (same_new (p.gh.free hb) _)))⟩
theorem gc_listT : GC K (rListOf K) [.tuple ds] (.list ds) := fun H H1 G H2 vs Q p dv q => by
  obtain ⟨v, rfl, d1⟩ := DvA.inv1 dv
  obtain ⟨a, xs, rfl, s, da⟩ := Dv.tup_inv d1
  exact ⟨a, xs, rfl, .inr (seqT p.gh s), fun b hb => q (.ref b) _ _ (p.new hb _) (.lst (.inl upd_same) (da.to (same_new (p.gh.free hb) _)))⟩
theorem gc_tupL : GC K (RR.rTupF K) [.list ds] (.tuple ds) := fun H H1 G H2 vs Q p dv q => by
  obtain ⟨v, rfl, d1⟩ := DvA.inv1 dv
  obtain ⟨a, xs, rfl, s, da⟩ := Dv.lst_inv d1
  exact ⟨a, xs, rfl, .inl (rd_same p.gh s), fun b ob hb hd => q (.ref b) _ _ (p.new hb _) (.tupF upd_same hd (da.to (same_new (p.gh.free hb) _)))⟩
/-! isinstance, of a built-in class -/
def tyN : PyData → String
  | .none => "NoneType"
  | .bool _ => "bool"
  | .int _ => "int"
  | .str _ => "str"
  | .list _ => "list"
  | .tuple _ => "tuple"
  | .dict _ => "dict"
theorem tyX_of {v : V} (h : Dv K H v d) : TyX K H v (.type (tyN d)) := by
  cases h with
  | non => exact .base .non
  | bl b => exact .base (.bl b)
  | int i => exact .base (.int i)
  | str x => exact .base (.str x)
  | lst s a =>
    rcases s with s | ⟨o, s⟩
    · exact .base (.lst s)
    · exact .base (.frz s)
  | tup' s _ a =>
    rcases s with (s | ⟨o, s⟩) | ⟨o, its, n, hk, hc, _⟩
    · exact .base (.tup s)
    · exact .fTuple s
    · exact .kTuple hk hc
/-- isinstance(x, T): the second argument is the type itself -/
def tIsi (K : PySem.W.Frag) (T : String) (te : TE) : TE := tCB (rIsi K) (tCons te (tCons (tC (.ty T)) tNil))
theorem gd_isi {T : String} {b : Bool} (g : GD K te σ H A d) (h : kitB (tyN d) T = some b := by decide +kernel) : GD K (tCB (rIsi K) (tCons te (tCons (tC (.ty T)) tNil))) σ H A (.bool b) := fun H0 H1 e Q q =>
  g.to e fun v G H2 p dv => ⟨v, .ty T, .type (tyN d), .type T, b, rfl, .ty T, tyX_of (Dv.to dv p.gh), kit_ty h, q _ G H2 p (.bl _)⟩
/-! ### a written tuple of the top -/
end
end DL
end
section
set_option Elab.async false
set_option linter.all false
set_option maxRecDepth 100000
set_option maxHeartbeats 2000000
namespace DL
open PySem PySem.Spec PyProof.Rows L2
section
variable {K : PySem.W.Frag} {A H H' H1 H2 H3 G G1 G2 : Hp} {σ : L2.St} {t ta tb tc te : TE} {tA : TA} {tt tu : TT} {d d1 d2 d3 : PyData} {ds es : List PyData}
/-! ### what is walked -/
structure Runs (K : PySem.W.Frag) (J : It) (B : Hp) (ds : List PyData) : Prop where
  go : ∀ i H, Same B H → i < ds.length → J.go i H
  stop : ∀ i H, Same B H → ds.length ≤ i → J.stop i H
  yld : ∀ i H x H' G, Same B G → Same G H → i < ds.length → J.yld i H x H' → ∃ d G', ds[i]? = some d ∧ Pub G H G' H' ∧ Dv K G' x d
def GI (K : PySem.W.Frag) (wi : TI) (σ : L2.St) (H A : Hp) (ds : List PyData) : Prop := ∀ H0 H1, Pub H A H0 H1 → ∀ R : It → Hp → Prop, (∀ J G H2, Pub H0 H1 G H2 → Runs K J G ds → R J H2) → wi σ H1 R
theorem runs_list {a : Addr} {xs : List V} (s : SqL K G a xs) (h : DvA K G xs ds) : Runs K (Itl K a) G ds where
  go := fun i H e hi => ⟨xs, xs[i]'(by rw [DvA.len h]; exact hi), e.seq s, List.getElem?_eq_getElem _⟩
  stop := fun i H e hi => ⟨xs, e.seq s, by rw [DvA.len h]; exact hi⟩
  yld := fun i H x H' G' e e2 hi hy => by
    obtain ⟨rfl, hx⟩ := hy
    obtain ⟨d, hd, dx⟩ := DvA.getv h (hx xs ((e.trans e2).seq s))
    exact ⟨d, G', hd, .refl e2, dx.to e⟩
theorem runs_tup {a : Addr} {xs : List V} (s : SqT K G a xs) (h : DvA K G xs ds) : Runs K (Itt K a) G ds where
  go := fun i H e hi => ⟨xs, xs[i]'(by rw [DvA.len h]; exact hi), seqT e s, List.getElem?_eq_getElem _⟩
  stop := fun i H e hi => ⟨xs, seqT e s, by rw [DvA.len h]; exact hi⟩
  yld := fun i H x H' G' e e2 hi hy => by
    obtain ⟨rfl, hx⟩ := hy
    obtain ⟨d, hd, dx⟩ := DvA.getv h (hx xs (seqT (e.trans e2) s))
    exact ⟨d, G', hd, .refl e2, dx.to e⟩
theorem gi_list (g : GD K te σ H A (.list ds)) : GI K (iList K te) σ H A ds := fun H0 H1 e R q => g.to e fun v G H2 p dv => by
  obtain ⟨a, xs, rfl, s, da⟩ := Dv.lst_inv dv
  exact ⟨a, rfl, ⟨xs, .inl (rd_same p.gh s)⟩, q _ G H2 p (runs_list (.inl s) da)⟩
theorem gi_tup (g : GD K te σ H A (.tuple ds)) : GI K (iTup K te) σ H A ds := fun H0 H1 e R q => g.to e fun v G H2 p dv => by
  obtain ⟨a, xs, rfl, s, da⟩ := Dv.tup_inv dv
  exact ⟨a, rfl, ⟨xs, seqT p.gh s⟩, q _ G H2 p (runs_tup s da)⟩
/-- list or tuple -/
def iOr (w w' : TI) : TI := fun σ H R => w σ H R ∨ w' σ H R
theorem pi_or {X : Cx} {tg e : Expr} {w w' : TI} (h : PI X tg e w) (h' : PI X tg e w') : PI X tg e (iOr w w') := ⟨fun pins s σ H R I q => by
  rcases q with q | q
  · exact h.run pins s σ H R I q
  · exact h'.run pins s σ H R I q⟩
def iSeq (K : PySem.W.Frag) (te : TE) : TI := iOr (iList K te) (iOr (iTup K te) (iStr te))
theorem pi_seq {X : Cx} {tg e : Expr} {te : TE} (h : PE X e te) : PI X tg e (iSeq X.K te) := pi_or (pi_list h) (pi_or (pi_tup h) (pi_str h))
theorem gi_l {w w' : TI} (g : GI K w σ H A ds) : GI K (iOr w w') σ H A ds := fun H0 H1 e R q => .inl (g H0 H1 e R q)
theorem gi_r {w w' : TI} (g : GI K w' σ H A ds) : GI K (iOr w w') σ H A ds := fun H0 H1 e R q => .inr (g H0 H1 e R q)
theorem gi_seqL (g : GD K te σ H A (.list ds)) : GI K (iSeq K te) σ H A ds := gi_l (gi_list g)
theorem gi_seqT (g : GD K te σ H A (.tuple ds)) : GI K (iSeq K te) σ H A ds := gi_r (gi_l (gi_tup g))
/-- the sgs of a text -/
def sgs (x : Str) : List Str := x.cps.toList.map fun c => ⟨#[c]⟩
theorem runs_str {x : Str} : Runs K (Its x) G ((sgs x).map .str) where
  go := fun i H e hi => by
    have z : i < x.cps.size := by simpa [sgs] using hi
    exact z
  stop := fun i H e hi => by
    have z : x.cps.size ≤ i := by simpa [sgs] using hi
    exact z
  yld := fun i H v H' G' e e2 hi hy => by
    obtain ⟨rfl, c, hc, rfl⟩ := hy
    refine ⟨.str ⟨#[c]⟩, G', ?_, .refl e2, .str _⟩
    have hc' : x.cps.toList[i]? = some c := by rw [Array.getElem?_toList]; exact hc
    unfold sgs
    rw [List.getElem?_map, List.getElem?_map, hc']
    rfl
theorem gi_str {x : Str} (g : GD K te σ H A (.str x)) : GI K (iStr te) σ H A ((sgs x).map .str) := fun H0 H1 e R q => g.to e fun v G H2 p dv => ⟨x, Dv.str_inv dv, q _ G H2 p runs_str⟩
theorem gi_seqS {x : Str} (g : GD K te σ H A (.str x)) : GI K (iSeq K te) σ H A ((sgs x).map .str) := gi_r (gi_r (gi_str g))
/-- range -/
def upto (lo : Int) (n : Nat) : List Int := (List.range n).map fun (i : Nat) => lo + (i : Int)
theorem upto_len (lo : Int) (n : Nat) : (upto lo n).length = n := by simp [upto]
theorem upto_get {lo : Int} {n i : Nat} (h : i < n) : (upto lo n)[i]? = some (lo + (i : Int)) := by simp [upto, h]
theorem runs_rng {lo : Int} {n : Nat} : Runs K (Itr lo n) G ((upto lo n).map .int) where
  go := fun i H e hi => by
    rw [List.length_map, upto_len] at hi
    exact hi
  stop := fun i H e hi => by
    rw [List.length_map, upto_len] at hi
    exact hi
  yld := fun i H v H' G' e e2 hi hy => by
    obtain ⟨rfl, rfl⟩ := hy
    rw [List.length_map, upto_len] at hi
    exact ⟨.int (lo + i), G', by rw [List.getElem?_map, upto_get hi]; rfl, .refl e2, .int _⟩
/-- zip of two lists, of two tuples -/
def zipD (as bs : List PyData) : List PyData := (as.zip bs).map fun p => .tuple [p.1, p.2]
theorem zipD_get {as bs : List PyData} {i : Nat} {a b : PyData} (h1 : as[i]? = some a) (h2 : bs[i]? = some b) : (zipD as bs)[i]? = some (.tuple [a, b]) := by
  unfold zipD
  rw [List.getElem?_map, (List.getElem?_zip_eq_some (z := (a, b))).mpr ⟨h1, h2⟩]
  rfl
theorem pairs_no {a b : PyData} (h : pairB a = false) : pairsB [a, b] = false := by
  unfold pairsB
  rw [List.all_cons, h]; rfl
theorem pairs_no2 {a b : PyData} (h : pairB b = false) : pairsB [a, b] = false := by
  unfold pairsB
  rw [List.all_cons, List.all_cons, h]
  cases pairB a <;> rfl
theorem zip_yld {T : Addr} {x y : V} {a b : PyData} {H G : Hp} (e : Same G H) (hn : H T = none) (dx : Dv K G x a) (dy : Dv K G y b) (hp : pairsB [a, b] = false := by rfl) : Pub G H (upd G T (.tup [x, y])) (upd H T (.tup [x, y])) ∧ Dv K (upd G T (.tup [x, y])) (.ref T) (.tuple [a, b]) := by
  have s := same_new (e.free hn) (.tup [x, y])
  exact ⟨(Pub.refl e).new hn _, .tup (SqT.of upd_same) (.cons (dx.to s) (.cons (dy.to s) .nil)) hp⟩
theorem runs_zipT {a b : Addr} {xs ys : List V} {as bs : List PyData} (s1 : SqT K G a xs) (s2 : SqT K G b ys) (h1 : DvA K G xs as) (h2 : DvA K G ys bs) (hz : ∀ a ∈ as, pairB a = false) : Runs K (RZ.ItzT K a b) G (zipD as bs) where
  go := fun i H e hi => by
    have z : i < as.length ∧ i < bs.length := by simp [zipD] at hi; omega
    exact ⟨xs, ys, xs[i]'(by rw [DvA.len h1]; exact z.1), ys[i]'(by rw [DvA.len h2]; exact z.2), seqT e s1, seqT e s2, List.getElem?_eq_getElem _, List.getElem?_eq_getElem _⟩
  stop := fun i H e hi => by
    have z : as.length ≤ i ∨ bs.length ≤ i := by simp [zipD] at hi; omega
    exact ⟨xs, ys, seqT e s1, seqT e s2, by rw [DvA.len h1, DvA.len h2]; exact z⟩
  yld := fun i H v H' G' e e2 hi hy => by
    obtain ⟨T, x, y, rfl, hn, rfl, hx, hy⟩ := hy
    obtain ⟨da, e3, dx⟩ := DvA.getv h1 (hx xs (seqT (e.trans e2) s1))
    obtain ⟨db, e4, dy⟩ := DvA.getv h2 (hy ys (seqT (e.trans e2) s2))
    obtain ⟨p, dz⟩ := zip_yld e2 hn (dx.to e) (dy.to e) (pairs_no (hz _ (List.mem_of_getElem? e3)))
    exact ⟨_, _, zipD_get e3 e4, p, dz⟩
theorem runs_zipL {a b : Addr} {xs ys : List V} {as bs : List PyData} (s1 : SqL K G a xs) (s2 : SqL K G b ys) (h1 : DvA K G xs as) (h2 : DvA K G ys bs) (hz : ∀ a ∈ as, pairB a = false) : Runs K (Itz K a b) G (zipD as bs) where
  go := fun i H e hi => by
    have z : i < as.length ∧ i < bs.length := by simp [zipD] at hi; omega
    exact ⟨xs, ys, xs[i]'(by rw [DvA.len h1]; exact z.1), ys[i]'(by rw [DvA.len h2]; exact z.2), e.seq s1, e.seq s2, List.getElem?_eq_getElem _, List.getElem?_eq_getElem _⟩
  stop := fun i H e hi => by
    have z : as.length ≤ i ∨ bs.length ≤ i := by simp [zipD] at hi; omega
    exact ⟨xs, ys, e.seq s1, e.seq s2, by rw [DvA.len h1, DvA.len h2]; exact z⟩
  yld := fun i H v H' G' e e2 hi hy => by
    obtain ⟨T, x, y, rfl, hn, rfl, hx, hy⟩ := hy
    obtain ⟨da, e3, dx⟩ := DvA.getv h1 (hx xs ((e.trans e2).seq s1))
    obtain ⟨db, e4, dy⟩ := DvA.getv h2 (hy ys ((e.trans e2).seq s2))
    obtain ⟨p, dz⟩ := zip_yld e2 hn (dx.to e) (dy.to e) (pairs_no (hz _ (List.mem_of_getElem? e3)))
    exact ⟨_, _, zipD_get e3 e4, p, dz⟩
theorem gi_zipT {as bs : List PyData} (ga : GA K tA σ H A [.tuple as, .tuple bs]) (hz : ∀ a ∈ as, pairB a = false) : GI K (RZ.iZipA K tA) σ H A (zipD as bs) := fun H0 H1 e R q => ga.to e fun vs G H2 p dv => by
  obtain ⟨v, w, rfl, d1, d2⟩ := DvA.inv2 dv
  obtain ⟨a, xs, rfl, s1, da⟩ := Dv.tup_inv d1
  obtain ⟨b, ys, rfl, s2, db⟩ := Dv.tup_inv d2
  exact ⟨a, b, xs, ys, rfl, .inr ⟨seqT p.gh s1, seqT p.gh s2, q _ G H2 p (runs_zipT s1 s2 da db hz)⟩⟩
theorem gi_zipL {as bs : List PyData} (ga : GA K tA σ H A [.list as, .list bs]) (hz : ∀ a ∈ as, pairB a = false) : GI K (RZ.iZipA K tA) σ H A (zipD as bs) := fun H0 H1 e R q => ga.to e fun vs G H2 p dv => by
  obtain ⟨v, w, rfl, d1, d2⟩ := DvA.inv2 dv
  obtain ⟨a, xs, rfl, s1, da⟩ := Dv.lst_inv d1
  obtain ⟨b, ys, rfl, s2, db⟩ := Dv.lst_inv d2
  exact ⟨a, b, xs, ys, rfl, .inl ⟨.inl (rd_same p.gh s1), .inl (rd_same p.gh s2), q _ G H2 p (runs_zipL (.inl s1) (.inl s2) da db hz)⟩⟩
/-! ### a list comprehension -/
theorem wipe1 {k : Nat} {v : Option V} : wipe ((wipe σ [k]).set k v) [k] = wipe σ [k] := by
  show ((σ.set k none).set k v).set k none = σ.set k none
  rw [List.set_set, List.set_set]
theorem wipe2 {k j : Nat} {v w : Option V} (h : k ≠ j) : wipe (((wipe σ [k, j]).set k v).set j w) [k, j] = wipe σ [k, j] := by
  show (((((σ.set j none).set k none).set k v).set j w).set j none).set k none = (σ.set j none).set k none
  rw [List.set_set, List.set_set, List.set_comm (i := k) (j := j) _ _ h, List.set_set, List.set_set]
/-- the general one, over a list of anything: each turn keeps or not, and gives a datum -/
theorem lc_run {α : Type} {wi : TI} {g : TG} {tt : TT} {te : TE} {vs : List Nat} {xs : List α} (em : α → PyData) (p : α → Bool) (f : α → PyData) (gi : GI K wi σ H A (xs.map em)) (z : xs.length ≤ 1000000)
    (turn : ∀ (i : Nat) (a : α), xs[i]? = some a → ∀ v G H1, Pub H A G H1 → Dv K G v (em a) → ∀ Q : L2.St → Hp → Prop,
      (∀ σ2 G2 H2, Pub G H1 G2 H2 → wipe σ2 vs = wipe σ vs → GT tt σ2 G2 H2 (p a) → (p a = true → GD K te σ2 G2 H2 (f a)) → Q σ2 H2) → g v (wipe σ vs) H1 Q) :
    GD K (tLc wi g tt te vs) σ H A (.list ((xs.filter p).map f)) := fun H0 H1 e Q q => gi H0 H1 e _ fun J B H2 pb r D hD => by
  refine ⟨fun i m Hx => m = xs.length - i ∧ i ≤ xs.length ∧ ∃ G acc, Pub B H2 G Hx ∧ Hx D = some (.lst acc) ∧ G D = none ∧ DvA K G acc (((xs.take i).filter p).map f),
    ⟨xs.length, by simp, Nat.zero_le _, B, [], (Pub.refl pb.gh).newP hD _, upd_same, pb.gh.free hD, by rw [List.take_zero]; exact .nil⟩, ?_⟩
  rintro i m Hx ⟨rfl, hi, G, acc, pg, hacc, hGD, dacc⟩
  by_cases hlt : i < xs.length
  · have hlt' : i < (xs.map em).length := by rw [List.length_map]; exact hlt
    refine .inr ⟨r.go i Hx pg.same hlt', fun H' => ∃ G acc, Pub B H2 G H' ∧ H' D = some (.lst acc) ∧ G D = none ∧ DvA K G acc (((xs.take (i + 1)).filter p).map f), fun H' ⟨G', acc', h⟩ => ⟨xs.length - (i + 1), by omega, rfl, hlt, G', acc', h⟩, fun x H' hy => ?_⟩
    obtain ⟨d, G', hd, p1, dx⟩ := r.yld i Hx x H' G pg.hg pg.gh hlt' hy
    rw [List.getElem?_map] at hd
    obtain ⟨a, ha, rfl⟩ := Option.map_eq_some_iff.mp hd
    refine turn i a ha x G' H' (e.trans (pb.trans (pg.trans p1))) dx _ fun σ2 G2 H3 p2 hw gt gd => ⟨hw, ?_⟩
    have ht : xs.take (i + 1) = xs.take i ++ [a] := by rw [List.take_add_one, ha]; rfl
    have q12 := (pg.trans p1).trans p2
    have hD3 : H3 D = some (.lst acc) := p2.hh D _ (p1.hh D _ hacc)
    have hG2D : G2 D = none := (p1.trans p2).pr D hGD (some_ne hacc)
    refine gt.to (.refl p2.gh) fun H4 e4 => ?_
    have q4 : Pub B H2 G2 H4 := q12.trans e4
    cases hp : p a with
    | false =>
      refine iteF ⟨G2, acc, q4, e4.hh D _ hD3, hG2D, ?_⟩
      rw [ht, List.filter_append, List.filter_cons, hp, if_neg Bool.false_ne_true, List.filter_nil, List.append_nil]
      exact dacc.to (p1.hg.trans p2.hg)
    | true =>
      refine iteT ((gd hp).to e4 fun y G5 H5 p5 dy => ?_)
      have hD5 : H5 D = some (.lst acc) := p5.hh D _ (e4.hh D _ hD3)
      have hG5D : G5 D = none := p5.pr D hG2D (some_ne (e4.hh D _ hD3))
      have hl : acc.length ≤ xs.length := by
        rw [DvA.len dacc, List.length_map]
        exact Nat.le_trans (List.length_filter_le _ _) (by rw [List.length_take]; omega)
      have hs : acc.length < sizeLine := Nat.lt_of_le_of_lt (Nat.le_trans hl z) (by rw [sizeLine_eq]; decide)
      refine ⟨acc, hD5, hs, G5, acc ++ [y], (q4.trans p5).put hD hG5D _, upd_same, hG5D, ?_⟩
      rw [ht, List.filter_append, List.filter_cons, hp, if_pos rfl, List.filter_nil, List.map_append]
      exact DvA.app ((dacc.to (p1.hg.trans p2.hg)).to p5.hg) (.cons dy .nil)
  · have hn : i = xs.length := by omega
    subst hn
    rw [List.take_length] at dacc
    exact .inl ⟨r.stop _ Hx pg.same (by rw [List.length_map]; exact Nat.le_refl _), q _ _ Hx (pb.trans (pg.open_ hD hGD hacc)) (.lst (.inl upd_same) (dacc.to (same_new hGD _)))⟩
/-- one name, no test -/
theorem gd_lc {α : Type} {wi : TI} {k : Nat} {xs : List α} {em : α → PyData} {f : α → PyData} (gi : GI K wi σ H A (xs.map em)) (z : xs.length ≤ 1000000)
    (he : ∀ (i : Nat) (a : α), xs[i]? = some a → ∀ v G H1, Pub H A G H1 → Dv K G v (em a) → GD K te ((wipe σ [k]).set k (some v)) G H1 (f a)) : GD K (tLc wi (gName k) tYes te [k]) σ H A (.list (xs.map f)) := by
  have e := lc_run (te := te) (tt := tYes) (g := gName k) (vs := [k]) em (fun _ => true) f gi z fun i d hd v G H1 s dv Q q => q _ G H1 (.refl s.gh) wipe1 (fun H0 H1 e Q q => q H1 (.refl e.gh)) fun _ => he i d hd v G H1 s dv
  rw [List.filter_eq_self.mpr fun _ _ => rfl] at e
  exact e
/-- one name, a test -/
theorem gd_lcIf {α : Type} {wi : TI} {k : Nat} {xs : List α} {em : α → PyData} {p : α → Bool} {f : α → PyData} (gi : GI K wi σ H A (xs.map em)) (z : xs.length ≤ 1000000) (ht : ∀ (i : Nat) (a : α), xs[i]? = some a → ∀ v G H1, Pub H A G H1 → Dv K G v (em a) → GT tt ((wipe σ [k]).set k (some v)) G H1 (p a))
    (he : ∀ (i : Nat) (a : α), xs[i]? = some a → p a = true → ∀ v G H1, Pub H A G H1 → Dv K G v (em a) → GD K te ((wipe σ [k]).set k (some v)) G H1 (f a)) : GD K (tLc wi (gName k) tt te [k]) σ H A (.list ((xs.filter p).map f)) :=
  lc_run (te := te) (tt := tt) (g := gName k) (vs := [k]) em p f gi z fun i d hd v G H1 s dv Q q => q _ G H1 (.refl s.gh) wipe1 (ht i d hd v G H1 s dv) fun hp => he i d hd hp v G H1 s dv
/-- two names, the items tuples of two; no test -/
theorem gd_lc2 {α : Type} {wi : TI} {k j : Nat} {xs : List α} {ea eb : α → PyData} {f : α → PyData} (hkj : k ≠ j) (gi : GI K wi σ H A (xs.map fun x => .tuple [ea x, eb x])) (z : xs.length ≤ 1000000)
    (he : ∀ (i : Nat) (a : α), xs[i]? = some a → ∀ v w G H1, Pub H A G H1 → Dv K G v (ea a) → Dv K G w (eb a) → GD K te (((wipe σ [k, j]).set k (some v)).set j (some w)) G H1 (f a)) :
    GD K (tLc wi (gTup K 2 (gCons (gName k) (gCons (gName j) gNil))) tYes te [k, j]) σ H A (.list (xs.map f)) := by
  have e := lc_run (te := te) (tt := tYes) (g := gTup K 2 (gCons (gName k) (gCons (gName j) gNil))) (vs := [k, j]) (fun x => .tuple [ea x, eb x]) (fun _ => true) f gi z fun i d hd v G H1 s dv Q q => by
    obtain ⟨c, ws, rfl, sq, da⟩ := Dv.tup_inv dv
    obtain ⟨x, y, rfl, dx, dy⟩ := DvA.inv2 da
    exact ⟨c, _, rfl, seqT s.gh sq, rfl, x, _, rfl, y, _, rfl, rfl, q _ G H1 (.refl s.gh) (wipe2 hkj) (fun H0 H1 e Q q => q H1 (.refl e.gh)) fun _ => he i d hd x y G H1 s dx dy⟩
  rw [List.filter_eq_self.mpr fun _ _ => rfl] at e
  exact e
theorem gc_allM {α : Type} {xs : List α} {g : α → Bool} : GC K (rAll K) [.list (xs.map fun x => .bool (g x))] (.bool (xs.all g)) := by
  have e := gc_all (K := K) (bs := xs.map g)
  rw [List.map_map, List.all_map] at e
  exact e
theorem gc_anyM {α : Type} {xs : List α} {g : α → Bool} : GC K (rAny K) [.list (xs.map fun x => .bool (g x))] (.bool (xs.any g)) := by
  have e := gc_any (K := K) (bs := xs.map g)
  rw [List.map_map, List.any_map] at e
  exact e
end
end DL
end
section
set_option Elab.async false
set_option linter.all false
set_option maxRecDepth 100000
set_option maxHeartbeats 2000000
namespace DL
open PySem PySem.Spec PyProof.Rows L2
section
variable {K : PySem.W.Frag} {A H H' H1 H2 H3 G G1 G2 : Hp} {σ : L2.St} {t ta tb tc te : TE} {tA : TA} {tt tu : TT} {d d1 d2 d3 : PyData} {ds es : List PyData}
theorem gi_rng1 {n : Int} (ga : GA K tA σ H A [.int n]) (h : n < 2 ^ 62) (h0 : -(2 ^ 62) ≤ n) : GI K (iRng1 tA) σ H A ((upto 0 n.toNat).map .int) := fun H0 H1 e R q => ga.to e fun vs G H2 p dv => by
  obtain ⟨v, rfl, d1⟩ := DvA.inv1 dv
  have e1 := Dv.int_inv d1
  subst e1
  exact ⟨n, rfl, h0, h, q _ G H2 p runs_rng⟩
theorem gi_rng2 {i n : Int} (ga : GA K tA σ H A [.int i, .int n]) (h : -(2 ^ 62) ≤ i ∧ i < 2 ^ 62 ∧ -(2 ^ 62) ≤ n ∧ n < 2 ^ 62) : GI K (iRng2 tA) σ H A ((upto i (n - i).toNat).map .int) := fun H0 H1 e R q => ga.to e fun vs G H2 p dv => by
  obtain ⟨v, w, rfl, d1, d2⟩ := DvA.inv2 dv
  have e1 := Dv.int_inv d1
  have e2 := Dv.int_inv d2
  subst e1 e2
  exact ⟨i, n, rfl, h, q _ G H2 p runs_rng⟩
/-! ### a for loop: an invariant over the turn, the slots, the public and the actual heap -/
theorem for_run {wi : TI} {g : TG} {tb : TS} {D : Ends} (gi : GI K wi σ H A ds) {H0 : Hp} (e : Pub H A H0 H1)
    (h : ∀ B H2, Pub H0 H1 B H2 → ∃ Pv : Nat → L2.St → Hp → Hp → Prop, Pv 0 σ B H2 ∧ (∀ i σ' G H', Pv i σ' G H' → Same B G ∧ Same G H') ∧
      (∀ (i : Nat) (d : PyData) σ' G H', ds[i]? = some d → Pv i σ' G H' → ∀ v G2 H3, Pub G H' G2 H3 → Dv K G2 v d →
        g v σ' H3 fun σ2 H4 => tb { D with nx := fun σ' H' => ∃ G, Pv (i + 1) σ' G H', ct := fun σ' H' => ∃ G, Pv (i + 1) σ' G H', bk := D.nx } σ2 H4) ∧
      (∀ σ' G H', Pv ds.length σ' G H' → D.nx σ' H')) : tFor wi g tb D σ H1 := gi H0 H1 e _ fun J B H2 pb r => by
  obtain ⟨Pv, h0, hs, ht, hd⟩ := h B H2 pb
  refine ⟨fun i m σ' H' => m = ds.length - i ∧ i ≤ ds.length ∧ ∃ G, Pv i σ' G H', ⟨ds.length, by simp, Nat.zero_le _, B, h0⟩, ?_⟩
  rintro i m σ' H' ⟨rfl, hi, G, pv⟩
  obtain ⟨s1, s2⟩ := hs i σ' G H' pv
  by_cases hlt : i < ds.length
  · refine .inr ⟨r.go i H' (s1.trans s2) hlt, fun σ' H' => ∃ G, Pv (i + 1) σ' G H', fun σ2 H2 ⟨G', p'⟩ => ⟨ds.length - (i + 1), by omega, rfl, hlt, G', p'⟩, fun x H'' hy => ?_⟩
    obtain ⟨d, G', hdd, p1, dx⟩ := r.yld i H' x H'' G s1 s2 hlt hy
    exact ht i d σ' G H' hdd pv x G' H'' p1 dx
  · have hn : i = ds.length := by omega
    subst hn
    exact .inl ⟨r.stop _ H' (s1.trans s2) (Nat.le_refl _), hd σ' G H' pv⟩
/-! ### a def over data: what it asks of its arguments, what it may give -/
def spD (K : PySem.W.Frag) (n : Nat) (Pre : List PyData → Prop) (R : List PyData → PyData → Prop) : Sp := fun vs H1 Q _ => vs.length = n ∧ ∃ H ds, Same H H1 ∧ DvA K H vs ds ∧ Pre ds ∧ ∀ d, R ds d → ∀ v G H2, Pub H H1 G H2 → Dv K G v d → Q v H2
def spF (K : PySem.W.Frag) (n : Nat) (Pre : List PyData → Prop) (f : List PyData → PyData) : Sp := spD K n Pre fun ds d => d = f ds
theorem gr_call {n : Nat} {Pre : List PyData → Prop} {R : List PyData → PyData → Prop} (ga : GA K tA σ H A ds) (hn : ds.length = n) (hp : Pre ds) : GR K (tCall (spD K n Pre R) [] E0 tA) σ H A (R ds) := fun H0 H1 e Q q => ga.to e fun vs G H2 p dv => by
  show spD K n Pre R (vs ++ []) H2 Q E0
  rw [List.append_nil]
  exact ⟨(DvA.len dv).trans hn, G, ds, p.gh, dv, hp, fun d r v G' H3 p2 dw => q d v G' H3 r (p.trans p2) dw⟩
theorem gd_call {n : Nat} {Pre : List PyData → Prop} {f : List PyData → PyData} (ga : GA K tA σ H A ds) (hn : ds.length = n) (hp : Pre ds) : GD K (tCall (spF K n Pre f) [] E0 tA) σ H A (f ds) := fun H0 H1 e Q q =>
  gr_call (R := fun ds d => d = f ds) ga hn hp H0 H1 e Q fun d v G H2 r p dv => by
    subst r
    exact q v G H2 p dv
/-- a def that is called by its name -/
structure Cal (P : Program) (w : World) (K : PySem.W.Frag) (mg : Str → Option Value) (base : Heap) (k : Nat) (x : Str) (sp : Sp) : Prop where
  ex : ∃ f fd ps, FnOk P w K mg base CX0 k f fd ps sp ∧ mg x = some (.ref f) ∧ PySem.W.keepIn K (.ref f) = true ∧ Binds K fd ps []
theorem Cal.mono {P : Program} {w : World} {K : PySem.W.Frag} {mg : Str → Option Value} {base : Heap} {j k : Nat} {x : Str} {sp : Sp} (c : Cal P w K mg base j x sp) (h : j ≤ k) : Cal P w K mg base k x sp := by
  obtain ⟨f, fd, ps, F, h1, h2, h3⟩ := c.ex
  exact ⟨f, fd, ps, F.mono h, h1, h2, h3⟩
theorem Cal.imp {P : Program} {w : World} {K : PySem.W.Frag} {mg : Str → Option Value} {base : Heap} {k : Nat} {x : Str} {sp sp' : Sp} (c : Cal P w K mg base k x sp) (h : ∀ vs H Q E, sp' vs H Q E → sp vs H Q E) : Cal P w K mg base k x sp' := by
  obtain ⟨f, fd, ps, F, h1, h2, h3⟩ := c.ex
  exact ⟨f, fd, ps, F.imp h, h1, h2, h3⟩
theorem pe_k {X : Cx} {k j : Nat} {x : Str} {sp : Sp} {p pos : Pos} {e : Expr} {es : List Expr} {t : TA} (c : Cal X.prog X.w X.K X.mg X.base k x sp) (hr : Room j X.A) (hk : k ≤ j) (ha : PA X (e :: es) t) (hg : Gl X x := by rfl)
    (hdb : (x == ("__debug__" : Str)) = false := by decide) (he : starEach (e :: es) X.env = (false, eval e X.env) :: starEach es X.env := by rfl) (hpl : (backTo pos (starEach es X.env)).any (·.1) = false := by rfl) :
    PE X (.Call (.Name x p) (e :: es) [] pos) (tCall sp [] E0 t) := by
  obtain ⟨f, fd, ps, F, hm, kp, b⟩ := c.ex
  exact pe_call F (hr.mono hk) hg hm kp b .nil pass0 ha hdb he hpl
theorem pe_k0 {X : Cx} {k j : Nat} {x : Str} {sp : Sp} {p pos : Pos} (c : Cal X.prog X.w X.K X.mg X.base k x sp) (hr : Room j X.A) (hk : k ≤ j) (hg : Gl X x := by rfl)
    (hdb : (x == ("__debug__" : Str)) = false := by decide) : PE X (.Call (.Name x p) [] [] pos) (tCall sp [] E0 tNil) := by
  obtain ⟨f, fd, ps, F, hm, kp, b⟩ := c.ex
  exact pe_call0 F (hr.mono hk) hg hm kp b .nil pass0 hdb
/-- from a def's promise to its name -/
theorem cal_mk {P : Program} {w : World} {K : PySem.W.Frag} {mg : Str → Option Value} {base : Heap} {k : Nat} {x y qual : Str} {st : Stmt} {f : Addr} {fd : FuncData} {ps : List Str} {sp : Sp} (F : Fun K y qual st f fd) (ok : FnOk P w K mg base CX0 k f fd ps sp) (hm : mg x = some (.ref f)) (b : Binds K fd ps []) : Cal P w K mg base k x sp := ⟨f, fd, ps, ok, hm, F.kp, b⟩
/-! ### blocks that end in a return -/
def GB (K : PySem.W.Frag) (ts : TS) (σ : L2.St) (H A : Hp) (R : PyData → Prop) : Prop := ∀ H0 H1, Pub H A H0 H1 → ∀ D : Ends, (∀ d v G H2, R d → Pub H0 H1 G H2 → Dv K G v d → D.rt v H2) → ts D σ H1
variable {R : PyData → Prop} {ts tr tx : TS}
theorem gb_ret (g : GD K t σ H A d) (r : R d) : GB K (tRet t) σ H A R := fun H0 H1 e D q => g.to e fun v G H2 p dv => q d v G H2 r p dv
theorem gb_retN (r : R .none) : GB K tRetN σ H A R := fun H0 H1 e D q => q .none .non H0 H1 r (.refl e.gh) .non
theorem GB.pub {G1 H0 : Hp} (g : GB K ts σ G G1 R) (e : Pub G G1 G2 H2) {D : Ends} (p : Pub H0 H1 G2 H2) (q : ∀ d v G H2, R d → Pub H0 H1 G H2 → Dv K G v d → D.rt v H2) : ts D σ H2 := g G2 H2 e D fun d v G' H3 r p2 dv => q d v G' H3 r (p.trans p2) dv
/-- if t: (a block that returns); rest -/
theorem gb_if {b : Bool} (g : GT tt σ H A b) (h1 : b = true → GB K ts σ H A R) (h2 : b = false → GB K tr σ H A R) : GB K (tSeq (tIfS tt ts tNext) tr) σ H A R := fun H0 H1 e D q => g.to e fun H2 e2 => by
  cases b with
  | true => exact iteT (h1 rfl H0 H2 (e.trans e2) _ fun d v G H3 r p2 dv => q d v G H3 r (e2.trans p2) dv)
  | false => exact iteF (h2 rfl H0 H2 (e.trans e2) _ fun d v G H3 r p2 dv => q d v G H3 r (e2.trans p2) dv)
theorem gb_ifE {b : Bool} (g : GT tt σ H A b) (h1 : b = true → GB K ts σ H A R) (h2 : b = false → GB K tr σ H A R) : GB K (tIfS tt ts tr) σ H A R := fun H0 H1 e D q => g.to e fun H2 e2 => by
  cases b with
  | true => exact iteT (h1 rfl H0 H2 (e.trans e2) _ fun d v G H3 r p2 dv => q d v G H3 r (e2.trans p2) dv)
  | false => exact iteF (h2 rfl H0 H2 (e.trans e2) _ fun d v G H3 r p2 dv => q d v G H3 r (e2.trans p2) dv)
theorem gb_set {i : Nat} (g : GD K t σ H A d) (h : ∀ v G H2, Pub H A G H2 → Dv K G v d → GB K tr (σ.set i (some v)) G H2 R) : GB K (tSeq (tAsg t (gName i)) tr) σ H A R := fun H0 H1 e D q => g.to e fun v G H2 p dv => h v G H2 (e.trans p) dv G H2 (.refl p.gh) D fun d v G' H3 r p2 dv => q d v G' H3 r (p.trans p2) dv
theorem gb_setR {i : Nat} {S : PyData → Prop} (g : GR K t σ H A S) (h : ∀ d v G H2, S d → Pub H A G H2 → Dv K G v d → GB K tr (σ.set i (some v)) G H2 R) : GB K (tSeq (tAsg t (gName i)) tr) σ H A R := fun H0 H1 e D q => g H0 H1 e _ fun d v G H2 s p dv => h d v G H2 s (e.trans p) dv G H2 (.refl p.gh) D fun d v G' H3 r p2 dv => q d v G' H3 r (p.trans p2) dv
theorem gb_setV {i : Nat} {v : V} (g : GV t σ H A v) (h : ∀ G H2, Pub H A G H2 → GB K tr (σ.set i (some v)) G H2 R) : GB K (tSeq (tAsg t (gName i)) tr) σ H A R := fun H0 H1 e D q => g.to e fun G H2 p => h G H2 (e.trans p) G H2 (.refl p.gh) D fun d v G' H3 r p2 dv => q d v G' H3 r (p.trans p2) dv
theorem gb_imp {S : PyData → Prop} (g : GB K ts σ H A R) (h : ∀ d, R d → S d) : GB K ts σ H A S := fun H0 H1 e D q => g H0 H1 e D fun d v G H2 r p dv => q d v G H2 (h d r) p dv
/-- a, b, c = e -/
theorem gb_tup2 {i j : Nat} (g : GD K t σ H A (.tuple [d1, d2])) (h : ∀ u v G H2, Pub H A G H2 → Dv K G u d1 → Dv K G v d2 → GB K tr ((σ.set i (some u)).set j (some v)) G H2 R) :
    GB K (tSeq (tAsg t (gTup K 2 (gCons (gName i) (gCons (gName j) gNil)))) tr) σ H A R := fun H0 H1 e D q => g.to e fun v G H2 p dv => by
  obtain ⟨a, xs, rfl, s, da⟩ := Dv.tup_inv dv
  obtain ⟨x, y, rfl, dx, dy⟩ := DvA.inv2 da
  exact ⟨a, _, rfl, seqT p.gh s, rfl, x, _, rfl, y, _, rfl, rfl, h x y G H2 (e.trans p) dx dy G H2 (.refl p.gh) D fun d v G' H3 r p2 dv => q d v G' H3 r (p.trans p2) dv⟩
theorem gb_tup3 {i j k : Nat} (g : GD K t σ H A (.tuple [d1, d2, d3])) (h : ∀ u v w G H2, Pub H A G H2 → Dv K G u d1 → Dv K G v d2 → Dv K G w d3 → GB K tr (((σ.set i (some u)).set j (some v)).set k (some w)) G H2 R) :
    GB K (tSeq (tAsg t (gTup K 3 (gCons (gName i) (gCons (gName j) (gCons (gName k) gNil))))) tr) σ H A R := fun H0 H1 e D q => g.to e fun v G H2 p dv => by
  obtain ⟨a, xs, rfl, s, da⟩ := Dv.tup_inv dv
  obtain ⟨x, y, z, rfl, dx, dy, dz⟩ := DvA.inv3 da
  exact ⟨a, _, rfl, seqT p.gh s, rfl, x, _, rfl, y, _, rfl, z, _, rfl, rfl, h x y z G H2 (e.trans p) dx dy dz G H2 (.refl p.gh) D fun d v G' H3 r p2 dv => q d v G' H3 r (p.trans p2) dv⟩
/-- a def's body that ends in a return always: its promise -/
theorem fn_gb {P : Program} {w : World} {K : PySem.W.Frag} {mg : Str → Option Value} {base : Heap} {x qual : Str} {st : Stmt} {f : Addr} {fd : FuncData} {N ps : List Str} {k n : Nat} {Pre : List PyData → Prop} {R : List PyData → PyData → Prop} (F : Fun K x qual st f fd) (S : FnScope N ps (defScope st)) (hn : n = ps.length)
    (hbody : ∀ (cdv : Value) (A : Around) (outer : List Env) (s : Shared) (H1 : Hp) (E : XK), Room k (A.deeper (envOfC qual (defScope st) s.heap.objs.size f cdv)) →
      ∃ t, PSs (cxOf CX0 P w K mg base N qual (defScope st) f cdv A outer s H1 E).nox (defBody st) t ∧ ∀ vs ds H A, Same H A → vs.length = n → DvA K H vs ds → Pre ds → GB K t (start N vs) H A (R ds)) : FnOk P w K mg base CX0 (k + 1) f fd ps (spD K n Pre R) := by
  refine F.ok S (fun vs H Q E h => by rw [h.1, hn]) (fun cdv A outer s H vs Q E hr h => ?_)
  obtain ⟨hl, H0, ds, e, dv, hp, q⟩ := h
  obtain ⟨t, h1, h2⟩ := hbody cdv A outer s H E hr
  exact ⟨t, h1, h2 vs ds H0 H e hl dv hp H0 H (.refl e) _ fun d v G H2 r p dv => q d r v G H2 p dv⟩
end
end DL
end
section
set_option Elab.async false
set_option linter.all false
set_option maxRecDepth 100000
set_option maxHeartbeats 2000000
namespace DL
open PySem PySem.Spec PyProof.Rows L2
section
variable {K : PySem.W.Frag} {A H H' H1 H2 H3 G G1 G2 : Hp} {σ : L2.St} {t ta tb tc te : TE} {tA : TA} {tt tu : TT} {d d1 d2 d3 : PyData} {ds es : List PyData}
/-- a name of the top that holds a known thing -/
theorem pe_gl {X : Cx} {x : Str} {v : V} {pos : Pos} (h : ∃ u, X.mg x = some u ∧ RelV v u) (hg : Gl X x := by rfl) (hd : (x == ("__debug__" : Str)) = false := by decide) : PE X (.Name x pos) (tC v) := by
  obtain ⟨u, h1, h2⟩ := h
  exact pe_glob hg h1 h2 hd
def rOrd : List V → Hp → VK → Prop := fun xs H Q => ∃ x, xs = [.str x] ∧ x.length = 1 ∧ Q (.int (x.cps.getD 0 0 : Nat)) H
theorem cr_ord {X : Cx} : CallR X (.builtin "ord") rOrd := call_ord
theorem gc_ord {x : Str} (h : x.length = 1) : GC K rOrd [.str x] (.int (x.cps.getD 0 0 : Nat)) := fun H H1 G H2 vs Q p dv q => by
  obtain ⟨v, rfl, d1⟩ := DvA.inv1 dv
  have e := Dv.str_inv d1
  subst e
  exact ⟨x, rfl, h, q _ G H2 p (.int _)⟩
/-! ### methods of one's own -/
structure Met (P : Program) (w : World) (K : PySem.W.Frag) (mg : Str → Option Value) (base : Heap) (CX : CXT) (k : Nat) (C : Addr) (m : Str) (sp : Sp) : Prop where
  ex : ∃ f fd ps, Cls K C ∧ Meth K C m f ∧ FnOk P w K mg base CX k f fd ps sp ∧ Binds K fd ps []
theorem pe_m {X : Cx} {k j : Nat} {C : Addr} {m : Str} {sp : Sp} {apos pos : Pos} {o e : Expr} {es : List Expr} {ta : TE} {t : TA} {pl : Sem Bool} (M : Met X.prog X.w X.K X.mg X.base CX0 k C m sp) (hr : Room j X.A) (hk : k ≤ j) (ho : PE X o ta) (ha : PA X (e :: es) t)
    (hst : starEach (e :: es) X.env = (false, eval e X.env) :: starEach es X.env := by rfl) (hpl : (backTo pos (starEach es X.env)).any (·.1) = false := by rfl)
    (ht : eval (.Call (.Attribute o m apos) (e :: es) [] pos) X.env = (do
      let ov ← eval o X.env
      standAt apos.atName
      let (f, first) ← holding [ov] (getMethod ov m pl)
      callWith pos f first (backTo pos (starEach (e :: es) X.env)) (backToKw pos (keywordEach [] X.env))) := by rfl) : PE X (.Call (.Attribute o m apos) (e :: es) [] pos) (tMeth C m sp [] E0 ta t) := by
  obtain ⟨f, fd, ps, hc, hm, F, b⟩ := M.ex
  exact pe_meth (pl := pl) ho hc hm F (hr.mono hk) b .nil pass0 ha hst hpl ht
theorem pe_mX {X : Cx} {k j : Nat} {C : Addr} {m : Str} {sp : Sp} {apos pos : Pos} {o e : Expr} {es : List Expr} {ta : TE} {t : TA} {pl : Sem Bool} {E : XK} (M : Met X.prog X.w X.K X.mg X.base (L2.CX X.prog X.w) k C m sp) (hr : Room j X.A) (hk : k ≤ j) (hx : Passes (L2.CX X.prog X.w) X E) (ho : PE X o ta) (ha : PA X (e :: es) t)
    (hst : starEach (e :: es) X.env = (false, eval e X.env) :: starEach es X.env := by rfl) (hpl : (backTo pos (starEach es X.env)).any (·.1) = false := by rfl)
    (ht : eval (.Call (.Attribute o m apos) (e :: es) [] pos) X.env = (do
      let ov ← eval o X.env
      standAt apos.atName
      let (f, first) ← holding [ov] (getMethod ov m pl)
      callWith pos f first (backTo pos (starEach (e :: es) X.env)) (backToKw pos (keywordEach [] X.env))) := by rfl) : PE X (.Call (.Attribute o m apos) (e :: es) [] pos) (tMeth C m sp [] E ta t) := by
  obtain ⟨f, fd, ps, hc, hm, F, b⟩ := M.ex
  exact pe_meth (pl := pl) ho hc hm F (hr.mono hk) b .nil hx ha hst hpl ht
theorem pe_m0 {X : Cx} {k j : Nat} {C : Addr} {m : Str} {sp : Sp} {apos pos : Pos} {o : Expr} {ta : TE} {pl : Sem Bool} (M : Met X.prog X.w X.K X.mg X.base CX0 k C m sp) (hr : Room j X.A) (hk : k ≤ j) (ho : PE X o ta)
    (ht : eval (.Call (.Attribute o m apos) [] [] pos) X.env = (do
      let ov ← eval o X.env
      standAt apos.atName
      let (f, first) ← holding [ov] (getMethod ov m pl)
      callWith pos f first (backTo pos (starEach [] X.env)) (backToKw pos (keywordEach [] X.env))) := by rfl) : PE X (.Call (.Attribute o m apos) [] [] pos) (tMeth C m sp [] E0 ta tNil) := by
  obtain ⟨f, fd, ps, hc, hm, F, b⟩ := M.ex
  exact pe_meth0 (pl := pl) ho hc hm F (hr.mono hk) b .nil pass0 ht
/-! ### own errors over own errors: LookError.__init__(self, ..) -/
theorem pe_clsinit {X : Cx} {B : Addr} {x : Str} {e : Expr} {es : List Expr} {ta : TA} {p1 p2 pos : Pos} {pl : Sem Bool} (hm : X.mg x = some (.ref B)) (ga : PySem.W.specialIn X.K (.ref B) "__getattribute__" = some (some (.builtin "type.__getattribute__"))) (rd : PySem.W.readsIn X.K B (.type "type") = true)
    (vV : PySem.W.findCls X.K (.ref B) (.type "type") "__init__" = some (.val (.builtin "ValueError.__init__"))) (ha : PA X (e :: es) ta) (hg : Gl X x := by rfl) (hd : (x == ("__debug__" : Str)) = false := by decide)
    (hc : eval (.Call (.Attribute (.Name x p1) "__init__" p2) (e :: es) [] pos) X.env = (do
      let ov ← eval (.Name x p1) X.env
      standAt p2.atName
      let (f, first) ← holding [ov] (getMethod ov "__init__" pl)
      callWith pos f first (backTo pos (starEach (e :: es) X.env)) (backToKw pos (keywordEach [] X.env))) := by rfl)
    (he : starEach (e :: es) X.env = (false, eval e X.env) :: starEach es X.env := by rfl) (hpl : (backTo pos (starEach es X.env)).any (·.1) = false := by rfl) :
    PE X (.Call (.Attribute (.Name x p1) "__init__" p2) (e :: es) [] pos) (tVeI X.K ta) := by
  refine ⟨fun pins s σ H Q I h => ?_⟩
  refine PySem.W.methodCall_KW (ld_glob I hg hm ?_ hd) hc
  refine PySem.W.method_cls I.kIn ga (PySem.W.cls_value I.kIn rd vV (by decide +kernel) ?_)
  refine PyProof.Rows.callWith_method1 (thn (ha.run pos pins _ σ H _ (I.tok _) h) fun us s1 ⟨vs, H1, I1, r1, a, C, ws, ev, hl, T, ea, q⟩ => ?_) he hpl
  subst ev
  cases r1 with
  | @cons _ u0 _ ur ra rr =>
    obtain rfl : u0 = Value.ref a := ra
    have hlen : ur.length ≤ sizeLine := by
      rw [← Paired.length rr, sizeLine_eq]
      omega
    exact oinit_ok T I1 ea hlen fun s' J => ⟨.non, H1, J, rfl, q⟩
end
end DL
namespace DL
open PySem PySem.Spec PyProof.Rows L2
section
variable {K : PySem.W.Frag} {A H : Hp} {σ : L2.St} {te : TE} {d : PyData}
def isS : PyData → Bool
  | .str _ => true
  | _ => false
def isI : PyData → Bool
  | .int _ => true
  | .bool _ => true
  | _ => false
def isB : PyData → Bool
  | .bool _ => true
  | _ => false
def isT : PyData → Bool
  | .tuple _ => true
  | _ => false
def isL : PyData → Bool
  | .list _ => true
  | _ => false
theorem kit_S : ∀ d, kitB (tyN d) "str" = some (isS d)
  | .none => (by decide +kernel : kitB "NoneType" "str" = some false)
  | .bool _ => (by decide +kernel : kitB "bool" "str" = some false)
  | .int _ => (by decide +kernel : kitB "int" "str" = some false)
  | .str _ => (by decide +kernel : kitB "str" "str" = some true)
  | .list _ => (by decide +kernel : kitB "list" "str" = some false)
  | .tuple _ => (by decide +kernel : kitB "tuple" "str" = some false)
  | .dict _ => (by decide +kernel : kitB "dict" "str" = some false)
theorem kit_I : ∀ d, kitB (tyN d) "int" = some (isI d)
  | .none => (by decide +kernel : kitB "NoneType" "int" = some false)
  | .bool _ => (by decide +kernel : kitB "bool" "int" = some true)
  | .int _ => (by decide +kernel : kitB "int" "int" = some true)
  | .str _ => (by decide +kernel : kitB "str" "int" = some false)
  | .list _ => (by decide +kernel : kitB "list" "int" = some false)
  | .tuple _ => (by decide +kernel : kitB "tuple" "int" = some false)
  | .dict _ => (by decide +kernel : kitB "dict" "int" = some false)
theorem kit_B : ∀ d, kitB (tyN d) "bool" = some (isB d)
  | .none => (by decide +kernel : kitB "NoneType" "bool" = some false)
  | .bool _ => (by decide +kernel : kitB "bool" "bool" = some true)
  | .int _ => (by decide +kernel : kitB "int" "bool" = some false)
  | .str _ => (by decide +kernel : kitB "str" "bool" = some false)
  | .list _ => (by decide +kernel : kitB "list" "bool" = some false)
  | .tuple _ => (by decide +kernel : kitB "tuple" "bool" = some false)
  | .dict _ => (by decide +kernel : kitB "dict" "bool" = some false)
theorem kit_T : ∀ d, kitB (tyN d) "tuple" = some (isT d)
  | .none => (by decide +kernel : kitB "NoneType" "tuple" = some false)
  | .bool _ => (by decide +kernel : kitB "bool" "tuple" = some false)
  | .int _ => (by decide +kernel : kitB "int" "tuple" = some false)
  | .str _ => (by decide +kernel : kitB "str" "tuple" = some false)
  | .list _ => (by decide +kernel : kitB "list" "tuple" = some false)
  | .tuple _ => (by decide +kernel : kitB "tuple" "tuple" = some true)
  | .dict _ => (by decide +kernel : kitB "dict" "tuple" = some false)
theorem kit_L : ∀ d, kitB (tyN d) "list" = some (isL d)
  | .none => (by decide +kernel : kitB "NoneType" "list" = some false)
  | .bool _ => (by decide +kernel : kitB "bool" "list" = some false)
  | .int _ => (by decide +kernel : kitB "int" "list" = some false)
  | .str _ => (by decide +kernel : kitB "str" "list" = some false)
  | .list _ => (by decide +kernel : kitB "list" "list" = some true)
  | .tuple _ => (by decide +kernel : kitB "tuple" "list" = some false)
  | .dict _ => (by decide +kernel : kitB "dict" "list" = some false)
theorem gd_isS (g : GD K te σ H A d) : GD K (tCB (rIsi K) (tCons te (tCons (tC (.ty "str")) tNil))) σ H A (.bool (isS d)) := gd_isi g (kit_S d)
theorem gd_isI (g : GD K te σ H A d) : GD K (tCB (rIsi K) (tCons te (tCons (tC (.ty "int")) tNil))) σ H A (.bool (isI d)) := gd_isi g (kit_I d)
theorem gd_isB (g : GD K te σ H A d) : GD K (tCB (rIsi K) (tCons te (tCons (tC (.ty "bool")) tNil))) σ H A (.bool (isB d)) := gd_isi g (kit_B d)
theorem gd_isT (g : GD K te σ H A d) : GD K (tCB (rIsi K) (tCons te (tCons (tC (.ty "tuple")) tNil))) σ H A (.bool (isT d)) := gd_isi g (kit_T d)
theorem gd_isL (g : GD K te σ H A d) : GD K (tCB (rIsi K) (tCons te (tCons (tC (.ty "list")) tNil))) σ H A (.bool (isL d)) := gd_isi g (kit_L d)
end
end DL
namespace DL
open PySem PySem.Spec PyProof.Rows L2
section
variable {K : PySem.W.Frag} {A H H' H1 H2 H3 G G1 G2 : Hp} {σ : L2.St} {t ta tb tc te : TE} {tA : TA} {tt tu : TT} {d d1 d2 d3 : PyData} {ds es : List PyData}
/-! ### an object of one's own, private -/
structure Own (H H1 G Hc : Hp) (p : Addr) (o : HO) : Prop where
  pub : Pub H H1 G Hc
  at_ : Hc p = some o
  pg : G p = none
  p1 : H1 p = none
theorem Own.new {Hc : Hp} {p : Addr} (P : Pub H H1 G Hc) (h : Hc p = none) (o : HO) : Own H H1 G (upd Hc p o) p o := ⟨P.newP h o, upd_same, P.gh.free h, P.hh.free h⟩
theorem Own.step {Hc H' G' : Hp} {p : Addr} {o : HO} (w : Own H H1 G Hc p o) (P : Pub G Hc G' H') : Own H H1 G' H' p o := ⟨w.pub.trans P, P.hh _ _ w.at_, P.pr _ w.pg (some_ne w.at_), w.p1⟩
theorem Own.test {Hc H' : Hp} {p : Addr} {o : HO} (w : Own H H1 G Hc p o) (e : Same Hc H') : Own H H1 G H' p o := ⟨⟨w.pub.hg, w.pub.gh.trans e, w.pub.hh.trans e, w.pub.pr⟩, e _ _ w.at_, w.pg, w.p1⟩
theorem Own.put {Hc : Hp} {p : Addr} {o : HO} (w : Own H H1 G Hc p o) (u : HO) : Own H H1 G (upd Hc p u) p u := ⟨w.pub.put w.p1 w.pg u, upd_same, w.pg, w.p1⟩
theorem Own.open_ {Hc : Hp} {p : Addr} {o : HO} (w : Own H H1 G Hc p o) : Pub H H1 (upd G p o) Hc := w.pub.open_ w.p1 w.pg w.at_
theorem Own.gh {Hc : Hp} {p : Addr} {o : HO} (w : Own H H1 G Hc p o) : Same G Hc := w.pub.gh
/-! ### statements, one after another -/
theorem s_set {i : Nat} {tr : TS} {D : Ends} (g : GD K t σ G H d) (s : Same G H) (k : ∀ v G' H', Pub G H G' H' → Dv K G' v d → tr D (σ.set i (some v)) H') : tSeq (tAsg t (gName i)) tr D σ H := g G H (.refl s) _ k
theorem s_setE {i : Nat} {D : Ends} (g : GD K t σ G H d) (s : Same G H) (k : ∀ v G' H', Pub G H G' H' → Dv K G' v d → D.nx (σ.set i (some v)) H') : tAsg t (gName i) D σ H := g G H (.refl s) _ k
theorem s_if {b : Bool} {ts tr : TS} {D : Ends} (g : GT tt σ G H b) (s : Same G H) (h1 : b = true → ∀ H', Same H H' → ts D σ H') (h2 : b = false → ∀ H', Same H H' → tr D σ H') : tIfS tt ts tr D σ H := g.to (.refl s) fun H' e => by
  cases b with
  | true => exact iteT (h1 rfl H' e.hh)
  | false => exact iteF (h2 rfl H' e.hh)
/-- o.append(e), the list o one's own -/
theorem s_append {i : Nat} {p : Addr} {xs : List V} {D : Ends} {H0 H1 : Hp} (w : Own H0 H1 G H p (.lst xs)) (ho : σ[i]? = some (some (.ref p))) (g : GD K te σ G H d) (z : xs.length < sizeLine) (k : ∀ v G' H', Own H0 H1 G' H' p (.lst (xs ++ [v])) → Same G G' → Dv K G' v d → D.nx σ H') :
    tDrop (tBM K "list" rAppend (tVar i) (tCons te tNil)) D σ H := ⟨.ref p, ho, .inl ⟨rfl, xs, SqL.of w.at_⟩, g.to (.refl w.gh) fun v G' H' P dv => ⟨p, xs, v, rfl, rfl, (w.step P).at_, z, k v G' _ ((w.step P).put _) P.hg dv⟩⟩
end
end DL
namespace DL
open PySem PySem.Spec PyProof.Rows L2
theorem s_mid {t u : TS} {D : Ends} {σ : L2.St} {H : Hp} (Mid : L2.St → Hp → Prop) (rest : ∀ σ' H', Mid σ' H' → u D σ' H') (h : (∀ σ' H', Mid σ' H' → u D σ' H') → t { D with nx := u D } σ H) : tSeq t u D σ H := h rest
end DL
namespace DL
open PySem PySem.Spec PyProof.Rows L2
section
variable {K : PySem.W.Frag} {H H1 G Hc : Hp} {p : Addr}
/-- while nothing is written, one's own list may be read as public -/
theorem Own.see {xs : List V} (w : Own H H1 G Hc p (.lst xs)) : Same (upd G p (.lst xs)) Hc := w.open_.gh
theorem Own.dv {xs : List V} {ds : List PyData} (w : Own H H1 G Hc p (.lst xs)) (h : DvA K G xs ds) : Dv K (upd G p (.lst xs)) (.ref p) (.list ds) := .lst (.inl upd_same) (h.to (same_new w.pg _))
theorem Own.dvi {ns : List Int} (w : Own H H1 G Hc p (.lst (ns.map V.int))) : Dv K (upd G p (.lst (ns.map V.int))) (.ref p) (.list (ns.map .int)) := w.dv DvA.ints
end
end DL
namespace DL
open PySem PySem.Spec PyProof.Rows L2
/-! ### data that are the same -/
noncomputable def sameD (a b : PyData) : Bool := @decide (a = b) (Classical.propDecidable _)
theorem sameD_iff {a b : PyData} : sameD a b = true ↔ a = b := by unfold sameD; exact @decide_eq_true_iff _ (Classical.propDecidable _)
theorem sameD_ne {a b : PyData} (h : a ≠ b) : sameD a b = false := by
  cases q : sameD a b with
  | false => rfl
  | true => exact absurd (sameD_iff.mp q) h
theorem sameD_eq {a b : PyData} (h : a = b) : sameD a b = true := sameD_iff.mpr h
theorem sameD_nb {a b : PyData} {c : Bool} (h : a ≠ b) (hc : c = false) : PyData.bool c = PyData.bool (sameD a b) := by rw [sameD_ne h, hc]
theorem sameD_yb {a b : PyData} {c : Bool} (h : a = b) (hc : c = true) : PyData.bool c = PyData.bool (sameD a b) := by rw [sameD_eq h, hc]
def DLt : Nat → PyData → Prop
  | 0, _ => False
  | n + 1, .list ds => ds.length ≤ 1000000 ∧ ∀ x ∈ ds, DLt n x
  | n + 1, .tuple ds => ds.length ≤ 1000000 ∧ ∀ x ∈ ds, DLt n x
  | _ + 1, .dict _ => False
  | _ + 1, _ => True
theorem DLt.mono {m : Nat} : ∀ {n : Nat} {d : PyData}, DLt n d → n ≤ m → DLt m d := by
  induction m with
  | zero =>
    intro n d h hn
    have : n = 0 := by omega
    subst this
    exact h
  | succ m ih =>
    intro n d h hn
    cases n with
    | zero => exact h.elim
    | succ n =>
      cases d with
      | list ds => exact ⟨h.1, fun x hx => ih (h.2 x hx) (by omega)⟩
      | tuple ds => exact ⟨h.1, fun x hx => ih (h.2 x hx) (by omega)⟩
      | dict _ => exact h
      | _ => trivial
theorem fn_none {P : Program} {w : World} {K : PySem.W.Frag} {mg : Str → Option Value} {base : Heap} {CX : CXT} {k : Nat} {f : Addr} {fd : FuncData} {ps : List Str} {sp : Sp} (no : ∀ vs H Q E, ¬ sp vs H Q E) : FnOk P w K mg base CX k f fd ps sp :=
  ⟨fun vs H Q E h => absurd h (no vs H Q E), fun A outer s H args us vs Q E _ _ _ _ h => absurd h (no vs H Q E)⟩
end DL
end
section
set_option Elab.async false
set_option linter.all false
set_option maxRecDepth 100000
set_option maxHeartbeats 4000000
namespace LW
open PySem PySem.Spec PyProof.Rows L2 DL
def topS (i : Nat) : Stmt := PySem.Challenge.pw_lookon_k01_queries_what_is_mentioned.main.body.getD i (.Pass ⟨0, 0, 0, 0⟩)
/-- what is built in, and the numbers of the top -/
structure Bt (mg : Str → Option Value) : Prop where
  len : mg "len" = none
  isinstance : mg "isinstance" = none
  all : mg "all" = none
  ord : mg "ord" = none
  range : mg "range" = none
  sorted : mg "sorted" = none
  str : mg "str" = none
  int : mg "int" = none
  bool : mg "bool" = none
  tuple : mg "tuple" = none
  list : mg "list" = none
section
variable {P : Program} {w : World} {K : PySem.W.Frag} {mg : Str → Option Value} {base : Heap} {f : Addr} {fd : FuncData}
/-! ### names -/
def letB (s : Str) : Bool := sLe "a" s && sLe s "z"
def plainB (s : Str) : Bool := (sLe " " s && sLe s "~") && !decide (((s.cps.getD 0 0 : Nat) : Int) = 37)
def nameB (s : Str) : Bool := (decide (1 ≤ (s.length : Int)) && decide ((s.length : Int) ≤ 8)) && (sgs s).all letB
def plainT (s : Str) : Bool := decide ((s.length : Int) ≤ 20) && (sgs s).all plainB
def nameD : PyData → Bool
  | .str s => nameB s
  | _ => false
def plainD : PyData → Bool
  | .str s => plainT s
  | _ => false
def numD : PyData → Bool
  | .int i => decide (0 ≤ i)
  | _ => false
def strF (g : Str → Bool) : List PyData → PyData
  | [.str s] => .bool (g s)
  | _ => .none
def preS : List PyData → Prop := fun ds => ∃ s : Str, ds = [.str s]
def preC : List PyData → Prop := fun ds => ∃ s : Str, ds = [.str s] ∧ s.length = 1
def preV : List PyData → Prop := fun ds => ∃ d, ds = [d] ∧ ∀ s, d = .str s → s.length ≤ 1000000
def oneF (g : PyData → Bool) : List PyData → PyData
  | [d] => .bool (g d)
  | _ => .none
theorem sgs_one {x y : Str} (h : y ∈ sgs x) : y.length = 1 := by
  unfold sgs at h
  obtain ⟨c, _, rfl⟩ := List.mem_map.mp h
  rfl
theorem sgs_len (x : Str) : (sgs x).length = x.length := by simp [sgs, Str.length]
/-! ### draws -/
abbrev s_law_draws : Stmt := topS 13
theorem sc_law_draws : FnScope ["cell", "many", "rows", "rest", "k", "state"] ["cell", "many"] (defScope s_law_draws) := ⟨rfl, rfl, rfl, by decide +kernel, rfl, by decide +kernel, by decide +kernel⟩
def preDraws : List PyData → Prop := fun ds => ∃ c m : Int, ds = [.int c, .int m] ∧ 0 ≤ m ∧ m ≤ 100
def resDraws : List PyData → PyData → Prop := fun ds d => ∃ c m : Int, ds = [.int c, .int m] ∧ ∃ ns : List Int, d = .list (ns.map .int) ∧ (ns.length : Int) = m ∧ ∀ n ∈ ns, 0 ≤ n ∧ n < 1000
theorem ok_draws (T : Bt mg) (F : Fun K "_law_draws" "_law_draws" s_law_draws f fd) : FnOk P w K mg base CX0 1 f fd ["cell", "many"] (spD K 2 preDraws resDraws) := by
  refine F.ok sc_law_draws (fun vs H Q E h => h.1) (fun cdv A outer s H1 vs Q E hr h => ?_)
  obtain ⟨hl, H, ds, e, dv, ⟨c, m, rfl, hm0, hm⟩, q⟩ := h
  obtain ⟨v, u, rfl, d1, d2⟩ := DvA.inv2 dv
  have e1 := Dv.int_inv d1
  have e2 := Dv.int_inv d2
  subst e1 e2
  refine ⟨_, (pss_cons (ps_set (i := 2) sc_law_draws.nd rfl (Or.inl rfl) (pe_lst pa_nil))
      (pss_cons (ps_set (i := 3) sc_law_draws.nd rfl (Or.inl rfl) (pe_callTy cr_int (by rfl) T.int (by decide +kernel) (pa_cons (pv 0) pa_nil)))
      (pss_cons (ps_if (pt_cmpR op_ge (pv 3) (pe_op op_pow pe_int pe_int) (nomark _)) (pss_one (ps_for PassesOwn.never rfl (pi_range1 (by rfl) T.range (pa_cons (pv 1) pa_nil)) (pg_name (i := 4) sc_law_draws.nd rfl (Or.inl rfl)) (pss_one (ps_if (pt_cmpR op_gt (pv 3) pe_int (nomark _)) (pss_cons (ps_expr (pe_bm PySem.F.plainAttrs_list PySem.F.slot_list_append PySem.F.type_list_append mt_append (pv 2) (pa_cons (pe_op op_mod (pe_callTy cr_int (by rfl) T.int (by decide +kernel) (pa_cons (pv 3) pa_nil)) pe_int) pa_nil)))
      (pss_one (ps_set (i := 3) sc_law_draws.nd rfl (Or.inl rfl) (pe_op op_fdiv (pv 3) pe_int)))) pss_nil)))) pss_nil)
      (pss_cons (ps_set (i := 5) sc_law_draws.nd rfl (Or.inl rfl) (pe_op op_mod (pe_callTy cr_int (by rfl) T.int (by decide +kernel) (pa_cons (pe_op op_addA (pe_op op_mul (pe_callTy cr_int (by rfl) T.int (by decide +kernel) (pa_cons (pv 0) pa_nil)) pe_int) pe_int) pa_nil)) pe_int))
      (pss_cons (ps_for PassesOwn.never rfl (pi_range1 (by rfl) T.range (pa_cons (pv 1) pa_nil)) (pg_name (i := 4) sc_law_draws.nd rfl (Or.inl rfl)) (pss_cons (ps_set (i := 5) sc_law_draws.nd rfl (Or.inl rfl) (pe_op op_mod (pe_callTy cr_int (by rfl) T.int (by decide +kernel) (pa_cons (pe_op op_addA (pe_op op_addA (pe_op op_mul (pv 5) pe_int) (pe_op op_mul (pv 4) pe_int)) pe_int) pa_nil)) pe_int))
      (pss_one (ps_if (pt_cmpR op_ltA (pe_callB cr_len (by rfl) T.len PySem.boot_len (pa_cons (pv 2) pa_nil)) (pv 1) (nomark _)) (pss_one (ps_expr (pe_bm PySem.F.plainAttrs_list PySem.F.slot_list_append PySem.F.type_list_append mt_append (pv 2) (pa_cons (pe_op op_mod (pe_callTy cr_int (by rfl) T.int (by decide +kernel) (pa_cons (pe_op op_mod (pe_callTy cr_int (by rfl) T.int (by decide +kernel) (pa_cons (pe_op op_addA (pe_op op_mul (pv 5) pe_int) pe_int) pa_nil)) pe_int) pa_nil)) pe_int) pa_nil)))) pss_nil))))
      (pss_one (ps_ret (pv 2)))))))), ?_⟩
  refine ⟨Nat.zero_le _, fun p hp => ?_⟩
  have w0 := Own.new (Pub.refl e) hp (.lst [])
  refine s_set (K := K) (gd_cb (ga_cons (gd_var rfl (.int c)) ga_nil) gc_int) w0.gh fun v2 G2 H2 P2 dv2 => ?_
  have e2 := Dv.int_inv dv2
  subst e2
  have w1 := w0.step P2
  refine s_mid (fun σ' H' => ∃ (rest : Int) (ns : List Int) (x4 : Option V) (G3 : Hp), σ' = [some (.int c), some (.int m), some (.ref p), some (.int rest), x4, none] ∧ Own H H1 G3 H' p (.lst (ns.map V.int)) ∧ (ns.length : Int) ≤ m ∧ ∀ n ∈ ns, 0 ≤ n ∧ n < 1000) ?_ fun rest => ?_
  · rintro σ' H3 ⟨rest, ns, x4, G3, rfl, w3, hl3, hb3⟩
    refine s_set (K := K) (d := .int ((c * 48271 + 11) % 2147483647)) (gdo (gd_cb (ga_cons (gdo (gdo (gd_cb (ga_cons (gd_var rfl (.int c)) ga_nil) gc_int) gd_int (go_ic (.inr (by decide)))) gd_int go_addI) ga_nil) gc_int) gd_int (go_ic (by decide))) w3.gh fun v4 G4 H4 P4 dv4 => ?_
    have e4 := Dv.int_inv dv4
    subst e4
    have w4 := w3.step P4
    refine for_run (gi_rng1 (K := K) (ga_cons (gd_var rfl (.int m)) ga_nil) (by omega) (by omega)) (.refl w4.gh) fun B HB PB => ?_
    refine ⟨fun i σ' G H' => ∃ (st : Int) (ns : List Int) (x4 : Option V), σ' = [some (.int c), some (.int m), some (.ref p), some (.int rest), x4, some (.int st)] ∧ Own H H1 G H' p (.lst (ns.map V.int)) ∧ Same B G ∧ 0 ≤ st ∧ st < 2147483647 ∧ (ns.length : Int) ≤ m ∧ (i : Int) ≤ (ns.length : Int) ∧ ∀ n ∈ ns, 0 ≤ n ∧ n < 1000,
      ⟨_, ns, x4, rfl, w4.step PB, .refl _, Int.emod_nonneg _ (by decide), Int.emod_lt_of_pos _ (by decide), hl3, by omega, hb3⟩, fun i σ' G H' ⟨_, _, _, _, w, s, _⟩ => ⟨s, w.gh⟩, ?_, ?_⟩
    · rintro i d σ' G H' hd ⟨st, ns, x4, rfl, w, sB, hs0, hs1, hlm, hli, hb⟩ v G5 H5 P5 dv5
      have hi : i < m.toNat := by
        have z := (List.getElem?_eq_some_iff.mp hd).1
        rw [List.length_map, upto_len] at z
        exact z
      rw [List.getElem?_map, upto_get hi] at hd
      have hd' : d = .int (0 + (i : Int)) := (Option.some.inj hd).symm
      subst hd'
      have ev := Dv.int_inv dv5
      subst ev
      have w5 := w.step P5
      refine s_set (K := K) (d := .int ((st * 48271 + (0 + (i : Int)) * 69621 + 7) % 2147483647)) (gdo (gd_cb (ga_cons (gdo (gdo (gdo (gd_var rfl (.int st)) gd_int (go_ic (.inr (by decide)))) (gdo (gd_var rfl (.int (0 + (i : Int)))) gd_int (go_ic (.inr (by decide)))) go_addI) gd_int go_addI) ga_nil) gc_int) gd_int (go_ic (by decide))) w5.gh fun v6 G6 H6 P6 dv6 => ?_
      have e6 := Dv.int_inv dv6
      subst e6
      have w6 := w5.step P6
      have sB6 : Same B G6 := sB.trans (P5.hg.trans P6.hg)
      have b0 : 0 ≤ (st * 48271 + (0 + (i : Int)) * 69621 + 7) % 2147483647 := Int.emod_nonneg _ (by decide)
      have b1 : (st * 48271 + (0 + (i : Int)) * 69621 + 7) % 2147483647 < 2147483647 := Int.emod_lt_of_pos _ (by decide)
      refine s_if (gt_test (gdo (K := K) (gd_cb (ga_cons (gd_var rfl w6.dvi) ga_nil) gc_lenL) (gd_var rfl (.int m)) go_ltI)) w6.see (fun c7 H7 s7 => ?_) (fun c7 H7 s7 => ?_)
      · have w7 := w6.test s7
        have c8 := of_decide_eq_true c7
        rw [List.length_map] at c8
        refine s_append (K := K) (d := .int (((st * 48271 + (0 + (i : Int)) * 69621 + 7) % 2147483647 * 69621 + 5) % 2147483629 % 1000)) w7 rfl (gdo (gd_cb (ga_cons (gdo (gd_cb (ga_cons (gdo (gdo (gd_var rfl (.int _)) gd_int (go_ic (.inr (by decide)))) gd_int go_addI) ga_nil) gc_int) gd_int (go_ic (by decide))) ga_nil) gc_int) gd_int (go_ic (by decide))) (by rw [List.length_map, sizeLine_eq]; omega) fun v8 G8 H8 w8 s8 dv8 => ?_
        have e8 := Dv.int_inv dv8
        subst e8
        refine ⟨G8, _, ns ++ [_], some (.int _), rfl, by rw [List.map_append]; exact w8, sB6.trans s8, b0, b1, by rw [List.length_append, List.length_singleton]; omega, by rw [List.length_append, List.length_singleton]; omega, fun n hn => ?_⟩
        rcases List.mem_append.mp hn with h | h
        · exact hb n h
        · rw [List.mem_singleton.mp h]
          exact ⟨Int.emod_nonneg _ (by decide), Int.emod_lt_of_pos _ (by decide)⟩
      · have w7 := w6.test s7
        have c8 := of_decide_eq_false c7
        rw [List.length_map] at c8
        exact ⟨G6, _, ns, some (.int _), rfl, w7, sB6, b0, b1, hlm, by omega, hb⟩
    · rintro σ' G H' ⟨st, ns, x4, rfl, w, sB, hs0, hs1, hlm, hli, hb⟩
      rw [List.length_map, upto_len] at hli
      refine ⟨.ref p, rfl, q (.list (ns.map .int)) ⟨c, m, rfl, ns, rfl, by omega, hb⟩ _ _ _ w.open_ w.dvi⟩
  · refine s_if (b := decide ((10 : Int) ^ 18 ≤ c)) (gt_test (gdo (K := K) (gd_var rfl (.int c)) (gdo gd_int gd_int (go_ic ⟨by decide, by decide, by decide⟩)) go_b2)) w1.gh (fun c7 H7 s7 => ?_) (fun c7 H7 s7 => ?_)
    · have w7 := w1.test s7
      refine for_run (gi_rng1 (K := K) (ga_cons (gd_var rfl (.int m)) ga_nil) (by omega) (by omega)) (.refl w7.gh) fun B HB PB => ?_
      refine ⟨fun i σ' G H' => ∃ (r : Int) (ns : List Int) (x4 : Option V), σ' = [some (.int c), some (.int m), some (.ref p), some (.int r), x4, none] ∧ Own H H1 G H' p (.lst (ns.map V.int)) ∧ Same B G ∧ (ns.length : Int) ≤ (i : Int) ∧ ∀ n ∈ ns, 0 ≤ n ∧ n < 1000,
        ⟨c, [], none, rfl, w7.step PB, .refl _, Int.le_refl _, List.forall_mem_nil _⟩, fun i σ' G H' ⟨_, _, _, _, w, s, _⟩ => ⟨s, w.gh⟩, ?_, ?_⟩
      · rintro i d σ' G H' hd ⟨r, ns, x4, rfl, w, sB, hl, hb⟩ v G5 H5 P5 dv5
        have hi : i < m.toNat := by
          have z := (List.getElem?_eq_some_iff.mp hd).1
          rw [List.length_map, upto_len] at z
          exact z
        have w5 := w.step P5
        refine s_if (gt_test (gdo (K := K) (gd_var rfl (.int r)) gd_int go_b2)) w5.gh (fun c8 H8 s8 => ?_) (fun c8 H8 s8 => ?_)
        · have w8 := w5.test s8
          refine s_append (K := K) (d := .int (r % 1000)) w8 rfl (gdo (gd_cb (ga_cons (gd_var rfl (.int r)) ga_nil) gc_int) gd_int (go_ic (by decide))) (by rw [List.length_map, sizeLine_eq]; omega) fun v9 G9 H9 w9 s9 dv9 => ?_
          have e9 := Dv.int_inv dv9
          subst e9
          refine s_setE (K := K) (d := .int (r / 1000)) (gdo (gd_var rfl (.int r)) gd_int (go_ic ⟨by decide, by decide⟩)) w9.gh fun va Ga Ha Pa dva => ?_
          have ea := Dv.int_inv dva
          subst ea
          refine ⟨Ga, _, ns ++ [_], some v, rfl, by rw [List.map_append]; exact w9.step Pa, sB.trans (P5.hg.trans (s9.trans Pa.hg)), by rw [List.length_append, List.length_singleton]; omega, fun n hn => ?_⟩
          rcases List.mem_append.mp hn with h | h
          · exact hb n h
          · rw [List.mem_singleton.mp h]
            exact ⟨Int.emod_nonneg _ (by decide), Int.emod_lt_of_pos _ (by decide)⟩
        · exact ⟨G5, r, ns, some v, rfl, w5.test s8, sB.trans P5.hg, by omega, hb⟩
      · rintro σ' G H' ⟨r, ns, x4, rfl, w, sB, hl, hb⟩
        rw [List.length_map, upto_len] at hl
        exact rest _ _ ⟨r, ns, x4, G, rfl, w, by omega, hb⟩
    · exact rest _ _ ⟨c, [], none, G2, rfl, w1.test s7, by omega, List.forall_mem_nil _⟩
end
end LW
end
section
set_option Elab.async false
set_option linter.all false
set_option maxRecDepth 100000
set_option maxHeartbeats 2000000
namespace DL
open PySem PySem.Spec PyProof.Rows L2
section
variable {K : PySem.W.Frag} {A B C H H' H1 H2 H3 G G1 G2 : Hp} {σ : L2.St} {t ta tb tc te : TE} {tA : TA} {tt tu : TT} {d d1 d2 d3 : PyData} {ds es : List PyData}
/-! ### a comprehension over what is private: the actual heap C stays -/
structure RunsC (K : PySem.W.Frag) (J : It) (B C : Hp) (ds : List PyData) : Prop where
  go : ∀ i H, Same C H → i < ds.length → J.go i H
  stop : ∀ i H, Same C H → ds.length ≤ i → J.stop i H
  yld : ∀ i H x H' G, Same B G → Same G H → Same C H → i < ds.length → J.yld i H x H' → ∃ d G', ds[i]? = some d ∧ Pub G H G' H' ∧ Dv K G' x d
def GIc (K : PySem.W.Frag) (wi : TI) (σ : L2.St) (H A : Hp) (ds : List PyData) : Prop := ∀ H0 H1, Pub H A H0 H1 → ∀ R : It → Hp → Prop, (∀ J G H2, Pub H0 H1 G H2 → RunsC K J G H2 ds → R J H2) → wi σ H1 R
theorem lc_runC {α : Type} {wi : TI} {g : TG} {tt : TT} {te : TE} {vs : List Nat} {xs : List α} (em : α → PyData) (p : α → Bool) (f : α → PyData) (gi : GIc K wi σ H A (xs.map em)) (z : xs.length ≤ 1000000)
    (turn : ∀ (i : Nat) (a : α), xs[i]? = some a → ∀ v G H1, Pub H A G H1 → Dv K G v (em a) → ∀ Q : L2.St → Hp → Prop,
      (∀ σ2 G2 H2, Pub G H1 G2 H2 → wipe σ2 vs = wipe σ vs → GT tt σ2 G2 H2 (p a) → (p a = true → GD K te σ2 G2 H2 (f a)) → Q σ2 H2) → g v (wipe σ vs) H1 Q) :
    GD K (tLc wi g tt te vs) σ H A (.list ((xs.filter p).map f)) := fun H0 H1 e Q q => gi H0 H1 e _ fun J B H2 pb r D hD => by
  refine ⟨fun i m Hx => m = xs.length - i ∧ i ≤ xs.length ∧ ∃ G acc, Pub B H2 G Hx ∧ Hx D = some (.lst acc) ∧ G D = none ∧ DvA K G acc (((xs.take i).filter p).map f),
    ⟨xs.length, by simp, Nat.zero_le _, B, [], (Pub.refl pb.gh).newP hD _, upd_same, pb.gh.free hD, by rw [List.take_zero]; exact .nil⟩, ?_⟩
  rintro i m Hx ⟨rfl, hi, G, acc, pg, hacc, hGD, dacc⟩
  by_cases hlt : i < xs.length
  · have hlt' : i < (xs.map em).length := by rw [List.length_map]; exact hlt
    refine .inr ⟨r.go i Hx pg.hh hlt', fun H' => ∃ G acc, Pub B H2 G H' ∧ H' D = some (.lst acc) ∧ G D = none ∧ DvA K G acc (((xs.take (i + 1)).filter p).map f), fun H' ⟨G', acc', h⟩ => ⟨xs.length - (i + 1), by omega, rfl, hlt, G', acc', h⟩, fun x H' hy => ?_⟩
    obtain ⟨d, G', hd, p1, dx⟩ := r.yld i Hx x H' G pg.hg pg.gh pg.hh hlt' hy
    rw [List.getElem?_map] at hd
    obtain ⟨a, ha, rfl⟩ := Option.map_eq_some_iff.mp hd
    refine turn i a ha x G' H' (e.trans (pb.trans (pg.trans p1))) dx _ fun σ2 G2 H3 p2 hw gt gd => ⟨hw, ?_⟩
    have ht : xs.take (i + 1) = xs.take i ++ [a] := by rw [List.take_add_one, ha]; rfl
    have q12 := (pg.trans p1).trans p2
    have hD3 : H3 D = some (.lst acc) := p2.hh D _ (p1.hh D _ hacc)
    have hG2D : G2 D = none := (p1.trans p2).pr D hGD (some_ne hacc)
    refine gt.to (.refl p2.gh) fun H4 e4 => ?_
    have q4 : Pub B H2 G2 H4 := q12.trans e4
    cases hp : p a with
    | false =>
      refine iteF ⟨G2, acc, q4, e4.hh D _ hD3, hG2D, ?_⟩
      rw [ht, List.filter_append, List.filter_cons, hp, if_neg Bool.false_ne_true, List.filter_nil, List.append_nil]
      exact dacc.to (p1.hg.trans p2.hg)
    | true =>
      refine iteT ((gd hp).to e4 fun y G5 H5 p5 dy => ?_)
      have hD5 : H5 D = some (.lst acc) := p5.hh D _ (e4.hh D _ hD3)
      have hG5D : G5 D = none := p5.pr D hG2D (some_ne (e4.hh D _ hD3))
      have hl : acc.length ≤ xs.length := by
        rw [DvA.len dacc, List.length_map]
        exact Nat.le_trans (List.length_filter_le _ _) (by rw [List.length_take]; omega)
      have hs : acc.length < sizeLine := Nat.lt_of_le_of_lt (Nat.le_trans hl z) (by rw [sizeLine_eq]; decide)
      refine ⟨acc, hD5, hs, G5, acc ++ [y], (q4.trans p5).put hD hG5D _, upd_same, hG5D, ?_⟩
      rw [ht, List.filter_append, List.filter_cons, hp, if_pos rfl, List.filter_nil, List.map_append]
      exact DvA.app ((dacc.to (p1.hg.trans p2.hg)).to p5.hg) (.cons dy .nil)
  · have hn : i = xs.length := by omega
    subst hn
    rw [List.take_length] at dacc
    exact .inl ⟨r.stop _ Hx pg.hh (by rw [List.length_map]; exact Nat.le_refl _), q _ _ Hx (pb.trans (pg.open_ hD hGD hacc)) (.lst (.inl upd_same) (dacc.to (same_new hGD _)))⟩
/-- one name, no test -/
theorem gd_lcC {α : Type} {wi : TI} {k : Nat} {xs : List α} {em : α → PyData} {f : α → PyData} (gi : GIc K wi σ H A (xs.map em)) (z : xs.length ≤ 1000000)
    (he : ∀ (i : Nat) (a : α), xs[i]? = some a → ∀ v G H1, Pub H A G H1 → Dv K G v (em a) → GD K te ((wipe σ [k]).set k (some v)) G H1 (f a)) : GD K (tLc wi (gName k) tYes te [k]) σ H A (.list (xs.map f)) := by
  have e := lc_runC (te := te) (tt := tYes) (g := gName k) (vs := [k]) em (fun _ => true) f gi z fun i d hd v G H1 s dv Q q => q _ G H1 (.refl s.gh) wipe1 (fun H0 H1 e Q q => q H1 (.refl e.gh)) fun _ => he i d hd v G H1 s dv
  rw [List.filter_eq_self.mpr fun _ _ => rfl] at e
  exact e
/-- over a private row of numbers -/
theorem gi_rowP {b : Addr} {ns : List Int} (g : GV te σ H A (.ref b)) (e : A b = some (.lst (ns.map V.int))) : GIc K (iSeq K te) σ H A (ns.map PyData.int) := fun H0 H1 p R q => .inl (g.to p fun G H2 p2 => by
  have e2 := p2.hh _ _ (p.hh _ _ e)
  have sq : ∀ {Hx}, Same H2 Hx → SqL K Hx b (ns.map V.int) := fun s => SqL.of (s _ _ e2)
  refine ⟨b, rfl, ⟨_, SqL.of e2⟩, q _ G H2 p2 ⟨fun i Hx s hi => ?_, fun i Hx s hi => ?_, fun i Hx x H' G' s1 s2 s3 hi hy => ?_⟩⟩
  · rw [List.length_map] at hi
    exact ⟨_, .int ns[i], sq s, by rw [List.getElem?_map, List.getElem?_eq_getElem hi]; rfl⟩
  · rw [List.length_map] at hi
    exact ⟨_, sq s, by rw [List.length_map]; exact hi⟩
  · obtain ⟨rfl, hx⟩ := hy
    have h := hx _ (sq s3)
    rw [List.getElem?_map] at h
    obtain ⟨n, hn, rfl⟩ := Option.map_eq_some_iff.mp h
    exact ⟨.int n, G', by rw [List.getElem?_map, hn]; rfl, .refl s2, .int n⟩)
end
end DL
end
section
set_option Elab.async false
set_option linter.all false
set_option maxRecDepth 100000
set_option maxHeartbeats 4000000
/-! two rules that the hand layer lacks: t[::-1] of a tuple, xs.extend(t) by a tuple -/
namespace RR
open PySem PySem.Spec PyProof.Rows L2
section
variable {prog : Program} {w : World} {A : Around} {E : Value → Shared → Prop} {s : Shared}
theorem places_back (n : Nat) : Builtin.Slice.slicePlaces ((n : Int) - 1) (-1) (-1) = n := by
  unfold Builtin.Slice.slicePlaces
  rw [if_neg (by omega : ¬ ((-1 : Int) > 0))]
  have e : (-(-1) : Int) = 1 := by omega
  rw [e]
  by_cases h : ((n : Int) - 1) > -1
  · rw [if_pos h, Int.ediv_one]; omega
  · rw [if_neg h]; omega
theorem applied_back {sl : Addr} {t : Tok} {n : Nat} {Q : Int × Int × Nat → Shared → Prop} (hs : s.heap.IsSliceOf sl .none .none (.int (-1) t)) (h : Q ((n : Int) - 1, -1, n) s) :
    wpAny (model prog w) A (Builtin.Slice.sliceApplied (.ref sl) (pure (n : Int))) Q E s := by
  obtain ⟨o, ho, hc, hd⟩ := id hs
  unfold Builtin.Slice.sliceApplied Builtin.Slice.sliceFields
  refine wpAny_bind (wpAny_bind (wpAny_field ho hd (x := .none) rfl (wpAny_bind (wpAny_field ho hd (x := .none) rfl (wpAny_bind (wpAny_field ho hd (x := .int (-1) t) rfl (wpAny_pure ?_)))))))
  refine wpAny_bind (slicePart_int (i := -1) (u := t) ?_)
  show wpAny _ _ (if ((-1 : Int) == 0) = true then _ else _) _ _ s
  rw [if_neg (by decide : ¬ ((-1 : Int) == 0) = true)]
  refine wpAny_bind (slicePart_none (wpAny_bind (slicePart_none (wpAny_bind (wpAny_pure ?_)))))
  show wpAny _ _ (pure (((n : Int) - 1), (-1 : Int), Builtin.Slice.slicePlaces ((n : Int) - 1) (-1) (-1))) _ _ s
  rw [places_back]
  exact wpAny_pure h
theorem pick_back (xs : Array Value) : ((List.range xs.size).filterMap fun (m : Nat) => xs[(((xs.size : Int) - 1) + (m : Int) * (-1)).toNat]?).toArray = xs.toList.reverse.toArray := by
  congr 1
  have e : (fun (m : Nat) => xs[(((xs.size : Int) - 1) + (m : Int) * (-1)).toNat]?) = fun m => xs.toList[xs.size - 1 - m]? := by
    funext m
    have : (((xs.size : Int) - 1) + (m : Int) * (-1)).toNat = xs.size - 1 - m := by omega
    rw [this, Array.getElem?_toList]
  rw [e]
  apply List.ext_getElem?
  intro i
  have hl : xs.toList.length = xs.size := Array.length_toList
  generalize xs.toList = l at hl ⊢
  rw [← hl]
  clear e hl
  have h : ∀ (k : Nat), k ≤ l.length → (List.range k).filterMap (fun m => l[l.length - 1 - m]?) = l.reverse.take k := fun k => by
    induction k with
    | zero => intro _; rfl
    | succ k ih =>
      intro hk
      rw [List.range_succ, List.filterMap_append, ih (by omega), List.take_add_one, List.getElem?_reverse (by omega)]
      congr 1
  rw [h l.length (Nat.le_refl _), List.take_of_length_le (by rw [List.length_reverse]; exact Nat.le_refl _)]
theorem item_back {t sl : Addr} {items : Array Value} {k : Tok} {Q : Value → Shared → Prop} (ht : IsTup s.heap t items) (hs : s.heap.IsSliceOf sl .none .none (.int (-1) k))
    (h : Q (.ref s.heap.objs.size) { s with heap := s.heap.push { cls := .type "tuple", data := .seq items.toList.reverse.toArray } }) (hsz : items.size ≤ sizeLine) : wpAny (model prog w) A (getItem (.ref t) (.ref sl)) Q E s := by
  have room : sizeOk (.seq items.toList.reverse.toArray) := by
    show items.toList.reverse.toArray.size ≤ sizeLine
    rw [List.size_toArray, List.length_reverse, Array.length_toList]
    exact hsz
  obtain ⟨o, ho, hc, hd⟩ := id hs
  have ts : s.TypeIs (.ref sl) "slice" := ⟨o, ho, hc⟩
  unfold getItem
  try with_reducible refine wpAny_holding ?_
  first | refine wpAny_bind (wpAny_pure ?_) | skip
  refine wpAny_bind (wpAny_sequenceKey ht.typeIs (by decide) (wpAny_bind (wpAny_callSpecial?_slot (name := Str.ofString "__getitem__") ht.typeIs PyProof.Rows.slot_tuple_getitem
    (wpAny_call_entry PyProof.Rows.slot_tuple_getitem ht.typeIs entry_tuple_getitem ?_ (args_tuple_getitem _ _)))))
  show wpAny _ _ (Builtin.Tuple.tupleItemsOf (.ref t) >>= _) _ _ s
  refine wpAny_bind (tupleItemsOf_ ht (wpAny_bind (wpAny_typeOf ts ?_)))
  rw [if_pos (by decide)]
  refine wpAny_bind (applied_back (n := items.size) hs ?_)
  show wpAny _ _ (if (((items.size : Int) - 1) == 0 && (-1 : Int) == 1 && items.size == items.size) = true then _ else _) _ _ s
  have no : ¬ ((((items.size : Int) - 1) == 0 && (-1 : Int) == 1 && items.size == items.size) = true) := by
    rw [show ((-1 : Int) == 1) = false from rfl, Bool.and_false, Bool.false_and]
    exact Bool.false_ne_true
  rw [if_neg no, pick_back]
  first
    | exact wpAny_bind (m := Builtin.Tuple.tupleExact _) (wpAny_newObj_type (wpAny_pure ⟨_, rfl, wpAny_pure h⟩) room)
    | exact wpAny_bind (m := Builtin.Tuple.tupleExact _) (wpAny_newObj_type (wpAny_bind (wpAny_pure (wpAny_pure ⟨_, rfl, wpAny_pure h⟩))) room)
    | exact wpAny_bind (wpAny_bind (m := Builtin.Tuple.tupleExact _) (wpAny_newObj_type (wpAny_pure (wpAny_pure ⟨_, rfl, wpAny_pure h⟩)) room))
    | exact wpAny_bind (wpAny_bind (m := Builtin.Tuple.tupleExact _) (wpAny_newObj_type (wpAny_pure ⟨_, rfl, wpAny_pure h⟩) room))
end
/-- t[::-1] -/
def tRevT (K : PySem.W.Frag) (te : TE) : TE := fun σ H Q => te σ H fun x H1 => ∃ a xs, x = .ref a ∧ SqT K H1 a xs ∧ ∀ p ob, H1 p = none → ob.dict = none → Q (.ref p) (upd H1 p (.frz ob (.tup xs.reverse)))
theorem pe_revT {X : Cx} {e : Expr} {te : TE} {k : Nat} {p1 p2 p3 pos : Pos} (he : PE X e te) : PE X (.Subscript e (.Slice none none (some (.UnaryOp .USub (.Constant (.int 1) k p1) p2)) p3) pos) (tRevT X.K te) := by
  refine ⟨fun pins s σ H Q I h => Subscript_ (thn (he.run pins s σ H _ I h) fun v s1 ⟨x, H1, I1, r1, q1⟩ => ?_)⟩
  obtain ⟨a, xs, rfl, hx, q⟩ := q1
  cases r1
  have ho : PO X (some (.UnaryOp .USub (.Constant (.int 1) k p1) p2)) (tPart (tUn (rU fun i => .int (-i)) (tC (.int 1)))) := po_some (pe_un un_neg pe_int)
  refine wpAny_Slice (thn (po_none.run pins s1 σ H1 (fun o G => o = none ∧ G = H1) I1 ⟨rfl, rfl⟩) fun vl s2 ⟨l, H2, I2, pl, el, e2⟩ => thn (po_none.run pins s2 σ H2 (fun o G => o = none ∧ G = H2) I2 ⟨rfl, rfl⟩) fun vu s3 ⟨u, H3, I3, pu, eu, e3⟩ =>
    thn (ho.run pins s3 σ H3 (fun o G => o = some (-1) ∧ G = H3) I3 ⟨1, rfl, -1, rfl, rfl, rfl⟩) fun vs s4 ⟨o, H4, I4, ps, eo, e4⟩ => ?_)
  subst el e2 eu e3 eo e4
  cases pl
  cases pu
  obtain ⟨tk, rfl⟩ : ∃ tk, vs = .int (-1) tk := by cases ps; exact ⟨_, rfl⟩
  have I5 : L2.Inv X pins σ H4 { s4 with heap := s4.heap.push { cls := .type "slice", data := .fields #[.none, .none, .int (-1) tk] } } := I4.kept (t' := s4.toks) fun b ob q => Heap.get?_push_of_some _ q
  obtain ⟨its, r, ht, hz⟩ := I5.tuple hx
  have hlen := r.length
  show wpAny (model X.prog X.w) X.A (subscriptTail e (.Slice none none (some (.UnaryOp .USub (.Constant (.int 1) k p1) p2)) p3) (.ref a) (.ref s4.heap.objs.size)) (EP X pins σ Q) X.xe { s4 with heap := s4.heap.push { cls := .type "slice", data := .fields #[.none, .none, .int (-1) tk] } }
  refine tail_any (ops := [.ref a, .ref s4.heap.objs.size]) ht.typeIs (PyProof.Rows.slot_tuple_getitem.lookup) ?_ (by with_unfolding_all rfl)
  refine item_back ht (Heap.IsSliceOf.new _ _ _ _) ?_ (by rw [List.size_toArray]; omega)
  obtain ⟨ob, e, hd, hf, J⟩ := frz_new (n := 0) I5 r.reverse (by rw [List.length_reverse]; exact hz)
  rw [e] at J hd
  exact ⟨.ref _, _, J, rfl, q _ _ hf hd⟩
end RR
end
section
set_option Elab.async false
set_option linter.all false
set_option maxRecDepth 100000
set_option maxHeartbeats 4000000
namespace PySem.AutoSeq1
theorem ext_by_tup (l : Addr) (xs : Array Value) (m : Nat) (b : Addr) (ys : Array Value) (k : Nat) (db : Option Addr) (ob : Array (Option Value)) (door : ¬(!xs.isEmpty && Builtin.List.listTooLong (xs.size + ys.size)) = true) (z1 : xs.size ≤ sizeLine) (z2 : xs.size + ys.size ≤ sizeLine + 1) :
    Meets (Builtin.«list.extend» ⟨[.ref l, .ref b], []⟩) (fun _ R s => s.heap.get? l = some { cls := .type "list", dict := none, data := .seq xs m, slots := #[] } ∧ s.heap.get? b = some { cls := .type "tuple", dict := db, data := .seq ys k, slots := ob } ∧ R (.ok (.ret Value.none)) { s with heap := s.heap.update l (Obj.mapSeq fun x => x ++ ys), toks := s.toks }) := .of_wp fun prog w A R s q => by
  obtain ⟨h0, g0, d0, t0, o0⟩ := s
  obtain ⟨el, eb, q⟩ := q
  have i1 := idx_int
  have i2 := sub_tuple_tuple
  have i3 := sub_list_list
  have i4 := sub_tuple_list
  have i5 := sub_list_tuple
  have z3 : (xs ++ ys).size ≤ sizeLine + 1 := by rw [Array.size_append]; exact z2
  wp_walk using (wpAny_updateSeq el rfl (hz := z1) (_hz' := z3)), wpAny_loadPart' el, wpAny_loadPart' eb
  exact ⟨_, rfl, q⟩
end PySem.AutoSeq1
namespace RR
open PySem PySem.Spec PyProof.Rows L2
def rExtT (K : PySem.W.Frag) : V → List V → Hp → VK → Prop := fun x vs H Q => ∃ l b xs zs, x = .ref l ∧ vs = [.ref b] ∧ H l = some (.lst xs) ∧ SqT K H b zs ∧ xs.length + zs.length ≤ sizeLine ∧ Q .non (upd H l (.lst (xs ++ zs)))
theorem mt_extT {X : Cx} : MtM X "list.extend" (rExtT X.K) := by
  intro pins s σ H x vs v us Q I rx rv h
  obtain ⟨l, b, xs, zs, rfl, rfl, hl, hb, hz, q⟩ := h
  cases rx
  obtain ⟨u, rfl, ru⟩ := rv.one
  cases ru
  obtain ⟨z, its, n, r, hlen, e⟩ := I.lstM hl
  obtain ⟨ys, r2, ⟨⟨oc, od, oa, os⟩, eb, hc, k, hd⟩, hy⟩ := I.tuple hb
  cases hc
  cases hd
  have l2 := r2.length
  have room : its.toArray.size + ys.toArray.size ≤ sizeLine := by rw [List.size_toArray, List.size_toArray]; omega
  have door : ¬ (!its.toArray.isEmpty && Builtin.List.listTooLong (its.toArray.size + ys.toArray.size)) = true := by rw [notLongL room, Bool.and_false]; exact Bool.false_ne_true
  refine call_meets F.slot_list_extend ⟨_, e, rfl⟩ F.entry_list_extend (F.args_list_extend_2 _ _) (PySem.AutoSeq1.ext_by_tup l its.toArray n b ys.toArray k od os door (by rw [List.size_toArray]; omega) (by omega)) ⟨e, eb, ?_⟩
  refine ⟨.non, _, I.lset (its' := its ++ ys) hl e (by simp) (r.append r2) ?_, rfl, q⟩
  rw [List.length_append]; omega
end RR
end
section
set_option Elab.async false
set_option linter.all false
namespace LM
open PySem DL
/-! The trees of the law and of the program, plainly: nodes by their numbers. -/
structure Nd where
  txt : Bool
  name : Str
  marks : Str → Option Str
  kids : List Nat
  up : Option Nat
def d0 : Nd := ⟨false, "", fun _ => none, [], none⟩
def nd (ns : List Nd) (n : Nat) : Nd := ns.getD n d0
theorem nd_get {ns : List Nd} {n : Nat} (h : n < ns.length) : ns[n]? = some (nd ns n) := by
  unfold nd
  rw [List.getD_eq_getElem?_getD, List.getElem?_eq_getElem h]
  rfl
theorem nd_same {ns : List Nd} {n : Nat} {x : Nd} (h : n < ns.length) : nd (ns.set n x) n = x := by
  unfold nd
  rw [List.getD_eq_getElem?_getD, List.getElem?_set_self h]
  rfl
theorem nd_ne {ns : List Nd} {n m : Nat} {x : Nd} (h : m ≠ n) : nd (ns.set n x) m = nd ns m := by
  unfold nd
  rw [List.getD_eq_getElem?_getD, List.getElem?_set_ne (Ne.symm h), ← List.getD_eq_getElem?_getD]
theorem nd_app {ns : List Nd} {m : Nat} {x : Nd} (h : m < ns.length) : nd (ns ++ [x]) m = nd ns m := by
  unfold nd
  rw [List.getD_eq_getElem?_getD, List.getD_eq_getElem?_getD, List.getElem?_append_left h]
theorem nd_last {ns : List Nd} {x : Nd} : nd (ns ++ [x]) ns.length = x := by
  unfold nd
  rw [List.getD_eq_getElem?_getD, List.getElem?_append_right (Nat.le_refl _)]
  simp
def upD : Option Nat → PyData
  | none => .none
  | some p => .int (p : Int)
def ofN (n : Nat) : PyData := .int (n : Int)
def natsD (l : List Nat) : PyData := .list (l.map ofN)
def KS : List Str := ["k", "m", "z"]
def marksD (f : Str → Option Str) : PyData := .tuple ((KS.filterMap fun k => (f k).map fun v => (k, v)).map fun p => .tuple [.str p.1, .str p.2])
def shapeF : Nat → List Nd → Nat → PyData
  | 0, _, _ => .none
  | j + 1, ns, n => if (nd ns n).txt then .tuple [.str "t", ofN n, .str (nd ns n).name]
    else .tuple [.str "e", ofN n, .str (nd ns n).name, marksD (nd ns n).marks, .tuple ((nd ns n).kids.map (shapeF j ns))]
/-- the way from a node to its root -/
inductive Ch (ns : List Nd) : Nat → List Nat → Prop
  | top {n : Nat} : (nd ns n).up = none → Ch ns n [n]
  | step {n p : Nat} {l : List Nat} : (nd ns n).up = some p → Ch ns p l → Ch ns n (n :: l)
section
variable {ns ns' : List Nd} {n m p : Nat} {l l' : List Nat}
theorem Ch.uniq (h : Ch ns n l) : ∀ {l'}, Ch ns n l' → l = l' := by
  induction h with
  | top h =>
    intro l' h'
    cases h' with
    | top _ => rfl
    | step h2 _ => rw [h] at h2; cases h2
  | step h _ ih =>
    intro l' h'
    cases h' with
    | top h2 => rw [h] at h2; cases h2
    | step h2 c =>
      rw [h] at h2
      cases h2
      rw [ih c]
theorem Ch.self (h : Ch ns n l) : n ∈ l := by cases h <;> exact List.mem_cons_self
theorem Ch.pos (h : Ch ns n l) : 0 < l.length := by cases h <;> exact Nat.succ_pos _
theorem Ch.sub (h : Ch ns n l) : m ∈ l → ∃ l', Ch ns m l' ∧ l'.length ≤ l.length ∧ ∀ x, x ∈ l' → x ∈ l := by
  induction h with
  | top h =>
    intro hm
    rw [List.mem_singleton] at hm
    subst hm
    exact ⟨_, .top h, Nat.le_refl _, fun _ h => h⟩
  | step h c ih =>
    intro hm
    rcases List.mem_cons.mp hm with e | hm
    · subst e
      exact ⟨_, .step h c, Nat.le_refl _, fun _ h => h⟩
    · obtain ⟨l', a, b, d⟩ := ih hm
      exact ⟨l', a, Nat.le_succ_of_le b, fun x hx => List.mem_cons_of_mem _ (d x hx)⟩
theorem Ch.nodup (h : Ch ns n l) : l.Nodup := by
  induction h with
  | top h => simp
  | @step n p l h c ih =>
    refine List.nodup_cons.mpr ⟨fun hn => ?_, ih⟩
    obtain ⟨l', a, b, _⟩ := c.sub hn
    have e := a.uniq (.step h c)
    rw [e] at b
    simp at b
    omega
theorem Ch.congr (h : Ch ns n l) : (∀ m, m ∈ l → (nd ns' m).up = (nd ns m).up) → Ch ns' n l := by
  induction h with
  | top h => intro e; exact .top ((e _ List.mem_cons_self).trans h)
  | step h c ih => intro e; exact .step ((e _ List.mem_cons_self).trans h) (ih fun m hm => e m (List.mem_cons_of_mem _ hm))
end
theorem nodup_le : ∀ (N : Nat) (l : List Nat), l.Nodup → (∀ x, x ∈ l → x < N) → l.length ≤ N
  | 0, l, _, h => by
    cases l with
    | nil => exact Nat.le_refl _
    | cons x l => exact absurd (h x List.mem_cons_self) (Nat.not_lt_zero _)
  | N + 1, l, d, h => by
    by_cases hN : N ∈ l
    · have e := nodup_le N (l.erase N) (d.erase N) fun x hx => by
        have := (List.Nodup.mem_erase_iff d).mp hx
        have := h x this.2
        omega
      rw [List.length_erase_of_mem hN] at e
      omega
    · have e := nodup_le N l d fun x hx => by
        have := h x hx
        have : x ≠ N := fun z => hN (z ▸ hx)
        omega
      omega
structure Ok (ns : List Nd) : Prop where
  len : ns.length ≤ 60
  pos : 0 < ns.length
  top : (nd ns 0).up = none
  top2 : (nd ns 0).txt = false
  upk : ∀ n p, n < ns.length → (nd ns n).up = some p → p < ns.length ∧ n ∈ (nd ns p).kids
  kup : ∀ p k, p < ns.length → k ∈ (nd ns p).kids → k < ns.length ∧ (nd ns k).up = some p
  nod : ∀ p, p < ns.length → (nd ns p).kids.Nodup
  ch : ∀ n, n < ns.length → ∃ l, Ch ns n l
  mks : ∀ n, n < ns.length → ∀ k, k ∉ KS → (nd ns n).marks k = none
  tx : ∀ n, n < ns.length → (nd ns n).txt = true → (nd ns n).kids = []
section
variable {ns ns' : List Nd} {n m p : Nat} {l l' : List Nat}
theorem Ch.lt (o : Ok ns) (h : Ch ns n l) : n < ns.length → ∀ x, x ∈ l → x < ns.length := by
  induction h with
  | top h =>
    intro hn x hx
    rw [List.mem_singleton] at hx
    exact hx ▸ hn
  | step h c ih =>
    intro hn x hx
    rcases List.mem_cons.mp hx with e | hx
    · exact e ▸ hn
    · exact ih (o.upk _ _ hn h).1 x hx
theorem Ch.len (o : Ok ns) (h : Ch ns n l) (hn : n < ns.length) : l.length ≤ ns.length := nodup_le _ _ h.nodup (h.lt o hn)
theorem Ok.kidLe (o : Ok ns) (hp : p < ns.length) : (nd ns p).kids.length ≤ ns.length := nodup_le _ _ (o.nod p hp) fun x hx => (o.kup p x hp hx).1
/-- heights -/
def Ht (ns : List Nd) : Nat → Nat → Prop
  | 0, _ => False
  | j + 1, n => n < ns.length ∧ ∀ c, c ∈ (nd ns n).kids → Ht ns j c
theorem Ht.mono : ∀ {i j n : Nat}, Ht ns i n → i ≤ j → Ht ns j n
  | 0, _, _, h, _ => h.elim
  | i + 1, 0, _, _, e => by omega
  | i + 1, j + 1, n, h, e => ⟨h.1, fun c hc => Ht.mono (h.2 c hc) (by omega)⟩
theorem Ht.lt : ∀ {j n : Nat}, Ht ns j n → n < ns.length
  | 0, _, h => h.elim
  | _ + 1, _, h => h.1
theorem Ok.ht_at (o : Ok ns) : ∀ (j n : Nat) (l : List Nat), n < ns.length → Ch ns n l → l.length + j = 61 → Ht ns j n
  | 0, n, l, hn, c, e => by
    have := c.len o hn
    have := o.len
    omega
  | j + 1, n, l, hn, c, e => ⟨hn, fun k hk => by
    obtain ⟨a, b⟩ := o.kup n k hn hk
    exact Ok.ht_at o j k (k :: l) a (.step b c) (by rw [List.length_cons]; omega)⟩
theorem Ok.ht (o : Ok ns) (hn : n < ns.length) : Ht ns 60 n := by
  obtain ⟨l, c⟩ := o.ch n hn
  have h1 := c.pos
  have h2 := c.len o hn
  have h3 := o.len
  exact (o.ht_at (61 - l.length) n l hn c (by omega)).mono (by omega)
theorem shapeF_mono : ∀ {i j n : Nat}, Ht ns i n → i ≤ j → shapeF j ns n = shapeF i ns n
  | 0, _, _, h, _ => h.elim
  | i + 1, 0, _, _, e => by omega
  | i + 1, j + 1, n, h, e => by
    unfold shapeF
    have z : (nd ns n).kids.map (shapeF j ns) = (nd ns n).kids.map (shapeF i ns) := List.map_congr_left fun c hc => shapeF_mono (h.2 c hc) (by omega)
    rw [z]
def shape (ns : List Nd) (n : Nat) : PyData := shapeF 60 ns n
theorem Ok.shape (o : Ok ns) {j : Nat} (h : Ht ns j n) (hj : j ≤ 60) : shapeF j ns n = shape ns n := (shapeF_mono h hj).symm
theorem shape_congr (o : Ok ns) (same : ∀ m l, m < ns.length → Ch ns m l → n ∈ l → (nd ns' m).txt = (nd ns m).txt ∧ (nd ns' m).name = (nd ns m).name ∧ (nd ns' m).marks = (nd ns m).marks ∧ (nd ns' m).kids = (nd ns m).kids) :
    ∀ (j m : Nat) (l : List Nat), m < ns.length → Ch ns m l → n ∈ l → shapeF j ns' m = shapeF j ns m
  | 0, _, _, _, _, _ => rfl
  | j + 1, m, l, hm, c, hn => by
    obtain ⟨a, b, d, e⟩ := same m l hm c hn
    unfold shapeF
    rw [a, b, d, e]
    have z : (nd ns m).kids.map (shapeF j ns') = (nd ns m).kids.map (shapeF j ns) := List.map_congr_left fun k hk => by
      obtain ⟨h1, h2⟩ := o.kup m k hm hk
      exact shape_congr o same j k (k :: l) h1 (.step h2 c) (List.mem_cons_of_mem _ hn)
    rw [z]
/-- the way up, as numbers -/
def chainF : Nat → List Nd → Nat → List Nat
  | 0, _, n => [n]
  | j + 1, ns, n => n :: match (nd ns n).up with
    | none => []
    | some p => chainF j ns p
theorem Ch.chainF (h : Ch ns n l) : ∀ j, l.length ≤ j + 1 → chainF j ns n = l := by
  induction h with
  | top h =>
    intro j _
    cases j with
    | zero => rfl
    | succ j => unfold LM.chainF; rw [h]
  | step h c ih =>
    intro j hj
    cases j with
    | zero =>
      have := c.pos
      rw [List.length_cons] at hj
      omega
    | succ j =>
      unfold LM.chainF
      rw [h]
      show _ :: LM.chainF j ns _ = _
      rw [ih j (by rw [List.length_cons] at hj; omega)]
def above (ns : List Nd) (n : Nat) : List Nat := chainF 60 ns n
theorem Ok.above (o : Ok ns) (hn : n < ns.length) : Ch ns n (above ns n) := by
  obtain ⟨l, c⟩ := o.ch n hn
  have h := c.len o hn
  have := o.len
  have e := c.chainF 60 (by omega)
  unfold LM.above
  rw [e]
  exact c
end
end LM
end
section
set_option Elab.async false
set_option linter.all false
namespace LM
open PySem DL
/-! ### what the edits do -/
def setKids (ns : List Nd) (p : Nat) (ks : List Nat) : List Nd := ns.set p { nd ns p with kids := ks }
def setUp (ns : List Nd) (n : Nat) (u : Option Nat) : List Nd := ns.set n { nd ns n with up := u }
def setMarks (ns : List Nd) (n : Nat) (f : Str → Option Str) : List Nd := ns.set n { nd ns n with marks := f }
def setName (ns : List Nd) (n : Nat) (s : Str) : List Nd := ns.set n { nd ns n with name := s }
def mkNd (t : Bool) (s : Str) : Nd := ⟨t, s, fun _ => none, [], none⟩
def outN (ns : List Nd) (p n : Nat) : List Nd := setUp (setKids ns p ((nd ns p).kids.filter fun k => !decide (k = n))) n none
def insAt (ks : List Nat) (at_ n : Nat) : List Nat := ks.take at_ ++ [n] ++ ks.drop at_
def insN (ns : List Nd) (p n at_ : Nat) : List Nd := setUp (setKids ns p (insAt (nd ns p).kids at_ n)) n (some p)
def setM (f : Str → Option Str) (k : Str) (v : Option Str) : Str → Option Str := fun x => if x = k then v else f x
section
variable {ns : List Nd} {n m p a : Nat} {ks : List Nat} {u : Option Nat}
theorem len_setKids : (setKids ns p ks).length = ns.length := by simp [setKids]
theorem len_setUp : (setUp ns p u).length = ns.length := by simp [setUp]
theorem len_outN : (outN ns p n).length = ns.length := by simp [outN, len_setUp, len_setKids]
theorem len_insN : (insN ns p n a).length = ns.length := by simp [insN, len_setUp, len_setKids]
theorem kids_at (hp : p < ns.length) (m : Nat) : (nd (setUp (setKids ns p ks) n u) m).kids = if m = p then ks else (nd ns m).kids := by
  have h2 : p < (setKids ns p ks).length := by rw [len_setKids]; exact hp
  have h1 : (nd (setKids ns p ks) m).kids = if m = p then ks else (nd ns m).kids := by
    by_cases h : m = p
    · subst h
      rw [if_pos rfl]
      unfold setKids
      rw [nd_same hp]
    · rw [if_neg h]
      unfold setKids
      rw [nd_ne h]
  rw [← h1]
  unfold setUp
  by_cases h : m = n
  · subst h
    by_cases hm : m < (setKids ns p ks).length
    · rw [nd_same hm]
    · rw [List.set_eq_of_length_le (by omega)]
  · rw [nd_ne h]
theorem up_at (hn : n < ns.length) (m : Nat) : (nd (setUp (setKids ns p ks) n u) m).up = if m = n then u else (nd ns m).up := by
  have h2 : n < (setKids ns p ks).length := by rw [len_setKids]; exact hn
  unfold setUp
  by_cases h : m = n
  · subst h
    rw [nd_same h2, if_pos rfl]
  · rw [nd_ne h, if_neg h]
    unfold setKids
    by_cases hp : m = p
    · subst hp
      by_cases hm : m < ns.length
      · rw [nd_same hm]
      · rw [List.set_eq_of_length_le (by omega)]
    · rw [nd_ne hp]
theorem rest_at (m : Nat) : (nd (setUp (setKids ns p ks) n u) m).txt = (nd ns m).txt ∧ (nd (setUp (setKids ns p ks) n u) m).name = (nd ns m).name ∧ (nd (setUp (setKids ns p ks) n u) m).marks = (nd ns m).marks := by
  have h1 : (nd (setKids ns p ks) m).txt = (nd ns m).txt ∧ (nd (setKids ns p ks) m).name = (nd ns m).name ∧ (nd (setKids ns p ks) m).marks = (nd ns m).marks := by
    unfold setKids
    by_cases hp : m = p
    · subst hp
      by_cases hm : m < ns.length
      · rw [nd_same hm]; exact ⟨rfl, rfl, rfl⟩
      · rw [List.set_eq_of_length_le (by omega)]; exact ⟨rfl, rfl, rfl⟩
    · rw [nd_ne hp]; exact ⟨rfl, rfl, rfl⟩
  unfold setUp
  by_cases hp : m = n
  · subst hp
    by_cases hm : m < (setKids ns p ks).length
    · rw [nd_same hm]; exact h1
    · rw [List.set_eq_of_length_le (by omega)]; exact h1
  · rw [nd_ne hp]; exact h1
end
section
variable {ns : List Nd} {n m p a : Nat}
theorem Ok.ne_up (o : Ok ns) (hn : n < ns.length) (h : (nd ns n).up = some p) : p ≠ n := by
  rintro rfl
  obtain ⟨l, c⟩ := o.ch p hn
  cases c with
  | top z => rw [h] at z; cases z
  | step z c =>
    rw [h] at z
    cases z
    have e := c.uniq (.step h c)
    have e2 := congrArg List.length e
    simp at e2
theorem Ch.cut {l : List Nat} (hn : n < ns.length) (hp : p < ns.length) (ks : List Nat) (h : Ch ns m l) : ∃ l', Ch (setUp (setKids ns p ks) n none) m l' ∧ (n ∉ l → l' = l) := by
  induction h with
  | @top m h =>
    refine ⟨[m], .top ?_, fun _ => rfl⟩
    rw [up_at hn, h]
    split <;> rfl
  | @step m q l h c ih =>
    by_cases e : m = n
    · subst e
      exact ⟨[m], .top (by rw [up_at hn, if_pos rfl]), fun z => absurd List.mem_cons_self z⟩
    · obtain ⟨l', c', k⟩ := ih
      exact ⟨m :: l', .step (by rw [up_at hn, if_neg e]; exact h) c', fun z => by rw [k fun y => z (List.mem_cons_of_mem _ y)]⟩
theorem Ok.out (o : Ok ns) (hn : n < ns.length) (h : (nd ns n).up = some p) : Ok (outN ns p n) := by
  obtain ⟨hp, hk⟩ := o.upk n p hn h
  have hl : (outN ns p n).length = ns.length := len_outN
  have hK : ∀ m, (nd (outN ns p n) m).kids = if m = p then (nd ns p).kids.filter (fun k => !decide (k = n)) else (nd ns m).kids := fun m => kids_at hp m
  have hU : ∀ m, (nd (outN ns p n) m).up = if m = n then none else (nd ns m).up := fun m => up_at hn m
  have hR : ∀ m, (nd (outN ns p n) m).txt = (nd ns m).txt ∧ (nd (outN ns p n) m).name = (nd ns m).name ∧ (nd (outN ns p n) m).marks = (nd ns m).marks := fun m => rest_at m
  refine ⟨by rw [hl]; exact o.len, by rw [hl]; exact o.pos, ?_, by rw [(hR 0).1]; exact o.top2, ?_, ?_, ?_, ?_, ?_, ?_⟩
  · rw [hU]
    split
    · rfl
    · exact o.top
  · intro m q hm e
    rw [hl] at hm ⊢
    rw [hU] at e
    by_cases z : m = n
    · rw [if_pos z] at e; cases e
    · rw [if_neg z] at e
      obtain ⟨h1, h2⟩ := o.upk m q hm e
      refine ⟨h1, ?_⟩
      rw [hK]
      by_cases y : q = p
      · rw [if_pos y]
        subst y
        exact List.mem_filter.mpr ⟨h2, by simp [z]⟩
      · rw [if_neg y]; exact h2
  · intro q k hq hk'
    rw [hl] at hq ⊢
    rw [hK] at hk'
    rw [hU]
    by_cases y : q = p
    · rw [if_pos y] at hk'
      obtain ⟨h1, h2⟩ := List.mem_filter.mp hk'
      have h3 : k ≠ n := by simpa using h2
      rw [if_neg h3]
      subst y
      exact o.kup q k hp h1
    · rw [if_neg y] at hk'
      obtain ⟨h1, h2⟩ := o.kup q k hq hk'
      have h3 : k ≠ n := fun z => by
        subst z
        rw [h] at h2
        exact y (Option.some.inj h2).symm
      rw [if_neg h3]
      exact ⟨h1, h2⟩
  · intro q hq
    rw [hl] at hq
    rw [hK]
    split
    · exact (o.nod p hp).filter _
    · exact o.nod q hq
  · intro m hm
    rw [hl] at hm
    obtain ⟨l, c⟩ := o.ch m hm
    obtain ⟨l', c', _⟩ := c.cut hn hp ((nd ns p).kids.filter fun k => !decide (k = n))
    exact ⟨l', c'⟩
  · intro m hm k hk
    rw [hl] at hm
    rw [(hR m).2.2]
    exact o.mks m hm k hk
  · intro m hm ht
    rw [hl] at hm
    rw [(hR m).1] at ht
    have z := o.tx m hm ht
    rw [hK]
    by_cases y : m = p
    · rw [if_pos y]
      subst y
      rw [z]; rfl
    · rw [if_neg y]; exact z
theorem insAt_mem {ks : List Nat} {a n x : Nat} : x ∈ insAt ks a n ↔ x = n ∨ x ∈ ks := by
  unfold insAt
  have e : x ∈ ks ↔ x ∈ ks.take a ∨ x ∈ ks.drop a := by
    conv => lhs; rw [← List.take_append_drop a ks]
    exact List.mem_append
  rw [List.mem_append, List.mem_append, List.mem_singleton, e]
  constructor
  · rintro ((h | h) | h)
    · exact .inr (.inl h)
    · exact .inl h
    · exact .inr (.inr h)
  · rintro (h | h | h)
    · exact .inl (.inr h)
    · exact .inl (.inl h)
    · exact .inr h
theorem insAt_nodup {ks : List Nat} {a n : Nat} (h : ks.Nodup) (hn : n ∉ ks) : (insAt ks a n).Nodup := by
  have e : (insAt ks a n).Perm (n :: ks) := by
    unfold insAt
    rw [List.append_assoc]
    refine (List.perm_middle (l₁ := ks.take a) (l₂ := ks.drop a) (a := n)).trans ?_
    rw [List.take_append_drop]
  exact e.nodup_iff.mpr (List.nodup_cons.mpr ⟨hn, h⟩)
theorem Ch.ins {l lp : List Nat} (hn : n < ns.length) (hr : (nd ns n).up = none) (ks : List Nat) (cp : Ch ns p lp) (hnp : n ∉ lp) (h : Ch ns m l) : ∃ l', Ch (setUp (setKids ns p ks) n (some p)) m l' ∧ (n ∉ l → l' = l) := by
  have cp' : Ch (setUp (setKids ns p ks) n (some p)) p lp := cp.congr fun x hx => by
    rw [up_at hn, if_neg (fun (z : x = n) => hnp (z ▸ hx))]
  induction h with
  | @top m h =>
    by_cases e : m = n
    · subst e
      exact ⟨m :: lp, .step (by rw [up_at hn, if_pos rfl]) cp', fun z => absurd List.mem_cons_self z⟩
    · exact ⟨[m], .top (by rw [up_at hn, if_neg e]; exact h), fun _ => rfl⟩
  | @step m q l h c ih =>
    by_cases e : m = n
    · subst e
      rw [hr] at h
      cases h
    · obtain ⟨l', c', k⟩ := ih
      exact ⟨m :: l', .step (by rw [up_at hn, if_neg e]; exact h) c', fun z => by rw [k fun y => z (List.mem_cons_of_mem _ y)]⟩
theorem Ok.ins (o : Ok ns) (hn : n < ns.length) (hp : p < ns.length) (hr : (nd ns n).up = none) (h0 : n ≠ 0) (ht : (nd ns p).txt = false) (hna : n ∉ LM.above ns p) : Ok (insN ns p n a) := by
  have cp := o.above hp
  have hnp : p ≠ n := fun z => hna (z ▸ cp.self)
  have hnk : n ∉ (nd ns p).kids := fun z => by
    have := (o.kup p n hp z).2
    rw [hr] at this
    cases this
  have hl : (insN ns p n a).length = ns.length := len_insN
  have hK : ∀ m, (nd (insN ns p n a) m).kids = if m = p then insAt (nd ns p).kids a n else (nd ns m).kids := fun m => kids_at hp m
  have hU : ∀ m, (nd (insN ns p n a) m).up = if m = n then some p else (nd ns m).up := fun m => up_at hn m
  have hR : ∀ m, (nd (insN ns p n a) m).txt = (nd ns m).txt ∧ (nd (insN ns p n a) m).name = (nd ns m).name ∧ (nd (insN ns p n a) m).marks = (nd ns m).marks := fun m => rest_at m
  refine ⟨by rw [hl]; exact o.len, by rw [hl]; exact o.pos, ?_, by rw [(hR 0).1]; exact o.top2, ?_, ?_, ?_, ?_, ?_, ?_⟩
  · rw [hU, if_neg (Ne.symm h0)]
    exact o.top
  · intro m q hm e
    rw [hl] at hm ⊢
    rw [hU] at e
    by_cases z : m = n
    · rw [if_pos z] at e
      cases e
      refine ⟨hp, ?_⟩
      rw [hK, if_pos rfl]
      exact insAt_mem.mpr (.inl z)
    · rw [if_neg z] at e
      obtain ⟨h1, h2⟩ := o.upk m q hm e
      refine ⟨h1, ?_⟩
      rw [hK]
      by_cases y : q = p
      · rw [if_pos y]
        subst y
        exact insAt_mem.mpr (.inr h2)
      · rw [if_neg y]; exact h2
  · intro q k hq hk'
    rw [hl] at hq ⊢
    rw [hK] at hk'
    rw [hU]
    by_cases y : q = p
    · rw [if_pos y] at hk'
      subst y
      rcases insAt_mem.mp hk' with h1 | h1
      · rw [if_pos h1]
        exact ⟨h1 ▸ hn, rfl⟩
      · rw [if_neg (fun (z : k = n) => hnk (z ▸ h1))]
        exact o.kup q k hp h1
    · rw [if_neg y] at hk'
      obtain ⟨h1, h2⟩ := o.kup q k hq hk'
      have h3 : k ≠ n := fun z => by
        subst z
        rw [hr] at h2
        cases h2
      rw [if_neg h3]
      exact ⟨h1, h2⟩
  · intro q hq
    rw [hl] at hq
    rw [hK]
    split
    · exact insAt_nodup (o.nod p hp) hnk
    · exact o.nod q hq
  · intro m hm
    rw [hl] at hm
    obtain ⟨l, c⟩ := o.ch m hm
    obtain ⟨l', c', _⟩ := Ch.ins hn hr (insAt (nd ns p).kids a n) cp hna c
    exact ⟨l', c'⟩
  · intro m hm k hk
    rw [hl] at hm
    rw [(hR m).2.2]
    exact o.mks m hm k hk
  · intro m hm ht'
    rw [hl] at hm
    rw [(hR m).1] at ht'
    have z := o.tx m hm ht'
    have y : m ≠ p := fun y => by subst y; rw [ht] at ht'; cases ht'
    rw [hK, if_neg y]
    exact z
theorem Ok.make (o : Ok ns) (h : ns.length < 60) (t : Bool) (s : Str) : Ok (ns ++ [mkNd t s]) := by
  have hl : (ns ++ [mkNd t s]).length = ns.length + 1 := by simp
  have hc : ∀ {m}, m < (ns ++ [mkNd t s]).length → m < ns.length ∨ m = ns.length := fun hm => by rw [hl] at hm; omega
  have hA : ∀ {m}, m < ns.length → nd (ns ++ [mkNd t s]) m = nd ns m := fun hm => nd_app hm
  have hB : nd (ns ++ [mkNd t s]) ns.length = mkNd t s := nd_last
  refine ⟨by rw [hl]; omega, by rw [hl]; omega, by rw [hA o.pos]; exact o.top, by rw [hA o.pos]; exact o.top2, ?_, ?_, ?_, ?_, ?_, ?_⟩
  · intro m q hm e
    rcases hc hm with z | z
    · rw [hA z] at e
      obtain ⟨h1, h2⟩ := o.upk m q z e
      rw [hl, hA h1]
      exact ⟨by omega, h2⟩
    · subst z
      rw [hB] at e
      cases e
  · intro q k hq hk
    rcases hc hq with z | z
    · rw [hA z] at hk
      obtain ⟨h1, h2⟩ := o.kup q k z hk
      rw [hl, hA h1]
      exact ⟨by omega, h2⟩
    · subst z
      rw [hB] at hk
      cases hk
  · intro q hq
    rcases hc hq with z | z
    · rw [hA z]; exact o.nod q z
    · subst z; rw [hB]; exact List.nodup_nil
  · intro m hm
    rcases hc hm with z | z
    · obtain ⟨l, c⟩ := o.ch m z
      exact ⟨l, c.congr fun x hx => by rw [hA (c.lt o z x hx)]⟩
    · subst z
      exact ⟨_, .top (by rw [hB]; rfl)⟩
  · intro m hm k hk
    rcases hc hm with z | z
    · rw [hA z]; exact o.mks m z k hk
    · subst z; rw [hB]; rfl
  · intro m hm ht
    rcases hc hm with z | z
    · rw [hA z] at ht ⊢; exact o.tx m z ht
    · subst z; rw [hB]; rfl
/-- what leaves the tree alone -/
theorem Ok.same {ns' : List Nd} (o : Ok ns) (hl : ns'.length = ns.length) (h : ∀ m, (nd ns' m).txt = (nd ns m).txt ∧ (nd ns' m).kids = (nd ns m).kids ∧ (nd ns' m).up = (nd ns m).up) (hm : ∀ n, n < ns.length → ∀ k, k ∉ KS → (nd ns' n).marks k = none) : Ok ns' := by
  refine ⟨by rw [hl]; exact o.len, by rw [hl]; exact o.pos, by rw [(h 0).2.2]; exact o.top, by rw [(h 0).1]; exact o.top2, fun m q hq e => ?_, fun q k hq hk => ?_, fun q hq => ?_, fun m hm => ?_, fun m hm' k hk => ?_, fun m hm ht => ?_⟩
  · rw [hl] at hq ⊢
    rw [(h m).2.2] at e
    rw [(h q).2.1]
    exact o.upk m q hq e
  · rw [hl] at hq ⊢
    rw [(h q).2.1] at hk
    rw [(h k).2.2]
    exact o.kup q k hq hk
  · rw [hl] at hq
    rw [(h q).2.1]
    exact o.nod q hq
  · rw [hl] at hm
    obtain ⟨l, c⟩ := o.ch m hm
    exact ⟨l, c.congr fun x _ => (h x).2.2⟩
  · rw [hl] at hm'
    exact hm m hm' k hk
  · rw [hl] at hm
    rw [(h m).1] at ht
    rw [(h m).2.1]
    exact o.tx m hm ht
theorem Ok.mark (o : Ok ns) (f : Str → Option Str) (hf : ∀ k, k ∉ KS → f k = none) : Ok (setMarks ns n f) := by
  refine o.same (by simp [setMarks]) (fun m => ?_) fun m hm k hk => ?_
  · unfold setMarks
    by_cases e : m = n
    · subst e
      by_cases hm : m < ns.length
      · rw [nd_same hm]; exact ⟨rfl, rfl, rfl⟩
      · rw [List.set_eq_of_length_le (by omega)]; exact ⟨rfl, rfl, rfl⟩
    · rw [nd_ne e]; exact ⟨rfl, rfl, rfl⟩
  · unfold setMarks
    by_cases e : m = n
    · subst e
      rw [nd_same hm]; exact hf k hk
    · rw [nd_ne e]; exact o.mks m hm k hk
theorem Ok.write (o : Ok ns) (s : Str) : Ok (setName ns n s) := by
  refine o.same (by simp [setName]) (fun m => ?_) fun m hm k hk => ?_
  · unfold setName
    by_cases e : m = n
    · subst e
      by_cases hm : m < ns.length
      · rw [nd_same hm]; exact ⟨rfl, rfl, rfl⟩
      · rw [List.set_eq_of_length_le (by omega)]; exact ⟨rfl, rfl, rfl⟩
    · rw [nd_ne e]; exact ⟨rfl, rfl, rfl⟩
  · unfold setName
    by_cases e : m = n
    · subst e
      rw [nd_same hm]; exact o.mks m hm k hk
    · rw [nd_ne e]; exact o.mks m hm k hk
end
end LM
end
section
set_option Elab.async false
set_option linter.all false
namespace LM
open PySem DL
structure Wm where
  ns : List Nd
  told : List PyData
  downs : List PyData
inductive Deed
  | element (s : Str)
  | text (s : Str)
  | insert (p n : Nat) (b : Option Nat)
  | remove (n : Nat)
  | mark (n : Nat) (k v : Str)
  | unmark (n : Nat) (k : Str)
  | write (n : Nat) (t : Str)
def strO : Option Str → PyData
  | none => .none
  | some s => .str s
def deedD : Deed → PyData
  | .element s => .tuple [.str "element", .str s]
  | .text s => .tuple [.str "text", .str s]
  | .insert p n b => .tuple [.str "insert", ofN p, ofN n, upD b]
  | .remove n => .tuple [.str "remove", ofN n]
  | .mark n k v => .tuple [.str "mark", ofN n, .str k, .str v]
  | .unmark n k => .tuple [.str "unmark", ofN n, .str k]
  | .write n t => .tuple [.str "write", ofN n, .str t]
def belowF : Nat → List Nd → Nat → List Nat
  | 0, _, _ => []
  | j + 1, ns, n => n :: (nd ns n).kids.flatMap (belowF j ns)
def below (ns : List Nd) (n : Nat) : List Nat := belowF 60 ns n
def aboveD (ns : List Nd) (n : Nat) : PyData := .tuple ((above ns n).map ofN)
def belowO (ns : List Nd) : Option Nat → PyData
  | none => .list []
  | some b => natsD (below ns b)
def tell (w : Wm) (r : PyData) (n : Nat) (b : Option Nat) : Wm := { w with told := w.told ++ [.tuple [r, aboveD w.ns n]], downs := w.downs ++ [belowO w.ns b] }
def recOut (p n : Nat) : PyData := .tuple [.str "out", ofN p, ofN n]
def recPut (p : Nat) (s : PyData) (b : Option Nat) : PyData := .tuple [.str "put", ofN p, s, upD b]
def recMark (n : Nat) (k : Str) (v : Option Str) : PyData := .tuple [.str "mark", ofN n, .str k, strO v]
def recText (n : Nat) (t : Str) : PyData := .tuple [.str "text", ofN n, .str t]
def makeA (w : Wm) (t : Bool) (s : Str) : Wm × PyData := if 60 ≤ w.ns.length then (w, .str "full") else ({ w with ns := w.ns ++ [mkNd t s] }, ofN w.ns.length)
def outA (w : Wm) (n : Nat) : Wm := match (nd w.ns n).up with
  | none => w
  | some p => { tell w (recOut p n) p (some n) with ns := outN w.ns p n }
def nextA (ns : List Nd) (p n : Nat) : Option Nat := (nd ns p).kids[(nd ns p).kids.idxOf n + 1]?
def atA (ns : List Nd) (p : Nat) : Option Nat → Nat
  | none => (nd ns p).kids.length
  | some b => (nd ns p).kids.idxOf b
def badB (ns : List Nd) (p n : Nat) : Option Nat → Bool
  | none => false
  | some b => decide (b = n) || !decide ((nd ns b).up = some p)
def isAt (ns : List Nd) (p n : Nat) (b : Option Nat) : Bool := decide ((nd ns n).up = some p) && decide (nextA ns p n = b)
def insA (w : Wm) (p n : Nat) (b : Option Nat) : Wm :=
  let w1 := outA w n
  { tell w1 (recPut p (shape w1.ns n) b) p none with ns := insN w1.ns p n (atA w1.ns p b) }
def putA (w : Wm) (p n : Nat) (b : Option Nat) : Wm × PyData :=
  if (nd w.ns p).txt then (w, .str "not an element")
  else if n = 0 then (w, .str "top")
  else if n ∈ above w.ns p then (w, .str "inside itself")
  else if badB w.ns p n b then (w, .str "not a child")
  else if isAt w.ns p n b then (w, .none)
  else (insA w p n b, .none)
def markA (w : Wm) (n : Nat) (k : Str) (v : Option Str) : Wm × PyData :=
  if (nd w.ns n).txt then (w, .str "not an element")
  else if (nd w.ns n).marks k = v then (w, .none)
  else ({ tell w (recMark n k v) n none with ns := setMarks w.ns n (setM (nd w.ns n).marks k v) }, .none)
def writeA (w : Wm) (n : Nat) (t : Str) : Wm × PyData :=
  if (nd w.ns n).txt = false then (w, .str "not a text")
  else if (nd w.ns n).name = t then (w, .none)
  else ({ tell w (recText n t) n none with ns := setName w.ns n t }, .none)
def removeA (w : Wm) (n : Nat) : Wm × PyData := if (nd w.ns n).up = none then (w, .str "no parent") else (outA w n, .none)
def miss (N : Nat) : List (Option Nat) → Option Nat
  | [] => none
  | none :: r => miss N r
  | some n :: r => if n < N then miss N r else some n
def orMiss (w : Wm) (l : List (Option Nat)) (r : Wm × PyData) : Wm × PyData := match miss w.ns.length l with
  | some m => (w, .tuple [.str "no", ofN m])
  | none => r
def doA (w : Wm) : Deed → Wm × PyData
  | .element s => makeA w false s
  | .text s => makeA w true s
  | .insert p n b => orMiss w [some p, some n, b] (putA w p n b)
  | .remove n => orMiss w [some n] (removeA w n)
  | .mark n k v => orMiss w [some n] (markA w n k (some v))
  | .unmark n k => orMiss w [some n] (markA w n k none)
  | .write n t => orMiss w [some n] (writeA w n t)
def deedOk : Deed → Prop
  | .mark _ k _ => k ∈ KS
  | .unmark _ k => k ∈ KS
  | _ => True
section
variable {w : Wm} {ns : List Nd} {n m p a : Nat}
theorem Ok.upNot (o : Ok ns) (hn : n < ns.length) (h : (nd ns n).up = some p) : n ∉ LM.above ns p := by
  obtain ⟨hp, _⟩ := o.upk n p hn h
  have c := o.above hp
  have d := (Ch.step h c).nodup
  exact (List.nodup_cons.mp d).1
theorem out_above (o : Ok ns) (hn : n < ns.length) (h : (nd ns n).up = some p) : above (outN ns p n) p = above ns p := by
  obtain ⟨hp, _⟩ := o.upk n p hn h
  have o2 := o.out hn h
  have c2 := o2.above (n := p) (by rw [len_outN]; exact hp)
  have c := o.above hp
  obtain ⟨l', c', e⟩ := c.cut hn hp ((nd ns p).kids.filter fun k => !decide (k = n))
  rw [e (o.upNot hn h)] at c'
  exact c2.uniq c'
theorem out_up (hn : n < ns.length) : (nd (outN ns p n) n).up = none := by
  unfold outN
  rw [up_at hn, if_pos rfl]
theorem ins_above (o : Ok ns) (hn : n < ns.length) (hp : p < ns.length) (hr : (nd ns n).up = none) (h0 : n ≠ 0) (ht : (nd ns p).txt = false) (hna : n ∉ above ns p) : above (insN ns p n a) p = above ns p := by
  have o2 := o.ins (a := a) hn hp hr h0 ht hna
  have c2 := o2.above (n := p) (by rw [len_insN]; exact hp)
  have c := o.above hp
  obtain ⟨l', c', e⟩ := Ch.ins hn hr (insAt (nd ns p).kids a n) c hna c
  rw [e hna] at c'
  exact c2.uniq c'
theorem ins_shape (o : Ok ns) (hn : n < ns.length) (hp : p < ns.length) (hr : (nd ns n).up = none) (h0 : n ≠ 0) (hna : n ∉ above ns p) : shape (insN ns p n a) n = shape ns n := by
  refine shape_congr (n := n) o (fun m l hm c hn' => ?_) 60 n _ hn (.top hr) List.mem_cons_self
  unfold insN
  obtain ⟨h1, h2, h3⟩ := rest_at (ns := ns) (p := p) (ks := insAt (nd ns p).kids a n) (n := n) (u := some p) m
  refine ⟨h1, h2, h3, ?_⟩
  rw [kids_at hp, if_neg]
  rintro rfl
  have e := c.uniq (o.above hp)
  rw [e] at hn'
  exact hna hn'
theorem mem_above_out (o : Ok ns) (hn : n < ns.length) {q : Nat} (h : (nd ns n).up = some q) (hp : p < ns.length) (hna : n ∉ above ns p) : n ∉ above (outN ns q n) p := by
  obtain ⟨hq, _⟩ := o.upk n q hn h
  have o2 := o.out hn h
  have c2 := o2.above (n := p) (by rw [len_outN]; exact hp)
  have c := o.above hp
  obtain ⟨l', c', e⟩ := c.cut hn hq ((nd ns q).kids.filter fun k => !decide (k = n))
  rw [e hna] at c'
  rw [c2.uniq c']
  exact hna
theorem outA_len : (outA w n).ns.length = w.ns.length := by
  unfold outA
  split
  · rfl
  · exact len_outN
theorem outA_up (hn : n < w.ns.length) : (nd (outA w n).ns n).up = none := by
  unfold outA
  split
  · assumption
  · exact out_up hn
theorem outA_txt : (nd (outA w n).ns m).txt = (nd w.ns m).txt := by
  unfold outA
  split
  · rfl
  · exact (rest_at m).1
theorem outA_ok (o : Ok w.ns) (hn : n < w.ns.length) : Ok (outA w n).ns := by
  unfold outA
  split
  · exact o
  · rename_i h
    exact o.out hn h
theorem outA_not (o : Ok w.ns) (hn : n < w.ns.length) (hp : p < w.ns.length) (hna : n ∉ above w.ns p) : n ∉ above (outA w n).ns p := by
  unfold outA
  split
  · exact hna
  · rename_i h
    exact mem_above_out o hn h hp hna
theorem insA_ok {b : Option Nat} (o : Ok w.ns) (hn : n < w.ns.length) (hp : p < w.ns.length) (h0 : n ≠ 0) (ht : (nd w.ns p).txt = false) (hna : n ∉ above w.ns p) : Ok (insA w p n b).ns := by
  unfold insA
  exact (outA_ok o hn).ins (by rw [outA_len]; exact hn) (by rw [outA_len]; exact hp) (outA_up hn) h0 (by rw [outA_txt]; exact ht) (outA_not o hn hp hna)
theorem putA_ok {b : Option Nat} (o : Ok w.ns) (hn : n < w.ns.length) (hp : p < w.ns.length) : Ok (putA w p n b).1.ns := by
  unfold putA
  split
  · exact o
  split
  · exact o
  split
  · exact o
  split
  · exact o
  split
  · exact o
  · rename_i h1 h2 h3 h4 h5
    exact insA_ok o hn hp h2 (by simpa using h1) h3
theorem markA_ok {k : Str} {v : Option Str} (o : Ok w.ns) (hn : n < w.ns.length) (hk : k ∈ KS) : Ok (markA w n k v).1.ns := by
  unfold markA
  split
  · exact o
  split
  · exact o
  · refine o.mark _ fun x hx => ?_
    unfold setM
    rw [if_neg fun (z : x = k) => hx (z ▸ hk)]
    exact o.mks n hn x hx
theorem writeA_ok {t : Str} (o : Ok w.ns) : Ok (writeA w n t).1.ns := by
  unfold writeA
  split
  · exact o
  split
  · exact o
  · exact o.write t
theorem miss1 {N : Nat} (h : miss N [some n] = none) : n < N := by
  unfold miss at h
  split at h
  · assumption
  · cases h
theorem miss3 {N : Nat} {b : Option Nat} (h : miss N [some p, some n, b] = none) : p < N ∧ n < N ∧ ∀ x, b = some x → x < N := by
  unfold miss at h
  split at h
  · rename_i h1
    unfold miss at h
    split at h
    · rename_i h2
      refine ⟨h1, h2, fun x hx => ?_⟩
      subst hx
      exact miss1 h
    · cases h
  · cases h
theorem orMiss_ok {l : List (Option Nat)} {r : Wm × PyData} (o : Ok w.ns) (h : miss w.ns.length l = none → Ok r.1.ns) : Ok (orMiss w l r).1.ns := by
  unfold orMiss
  split
  · exact o
  · exact h (by assumption)
theorem doA_ok (o : Ok w.ns) {d : Deed} (hd : deedOk d) : Ok (doA w d).1.ns := by
  have mk : ∀ t s, Ok (makeA w t s).1.ns := fun t s => by
    unfold makeA
    split
    · exact o
    · exact o.make (by omega) t s
  cases d with
  | element s => exact mk _ _
  | text s => exact mk _ _
  | insert p n b => exact orMiss_ok o fun h => putA_ok o (miss3 h).2.1 (miss3 h).1
  | remove n =>
    refine orMiss_ok o fun h => ?_
    unfold removeA
    split
    · exact o
    · exact outA_ok o (miss1 h)
  | mark n k v => exact orMiss_ok o fun h => markA_ok o (miss1 h) hd
  | unmark n k => exact orMiss_ok o fun h => markA_ok o (miss1 h) hd
  | write n t => exact orMiss_ok o fun h => writeA_ok o
/-! what is told grows by two at most -/
theorem outA_told : (outA w n).told.length ≤ w.told.length + 1 ∧ (outA w n).downs.length ≤ w.downs.length + 1 := by
  unfold outA
  split
  · exact ⟨by omega, by omega⟩
  · unfold tell
    simp
theorem doA_told {d : Deed} : (doA w d).1.told.length ≤ w.told.length + 2 ∧ (doA w d).1.downs.length ≤ w.downs.length + 2 := by
  have base : w.told.length ≤ w.told.length + 2 ∧ w.downs.length ≤ w.downs.length + 2 := ⟨by omega, by omega⟩
  have mk : ∀ t s, (makeA w t s).1.told.length ≤ w.told.length + 2 ∧ (makeA w t s).1.downs.length ≤ w.downs.length + 2 := fun t s => by
    unfold makeA
    split <;> exact base
  have om : ∀ l (r : Wm × PyData), (r.1.told.length ≤ w.told.length + 2 ∧ r.1.downs.length ≤ w.downs.length + 2) → ((orMiss w l r).1.told.length ≤ w.told.length + 2 ∧ (orMiss w l r).1.downs.length ≤ w.downs.length + 2) := fun l r h => by
    unfold orMiss
    split
    · exact base
    · exact h
  have mkk : ∀ n k v, (markA w n k v).1.told.length ≤ w.told.length + 2 ∧ (markA w n k v).1.downs.length ≤ w.downs.length + 2 := fun n k v => by
    unfold markA tell
    split
    · exact base
    split
    · exact base
    · simp
  cases d with
  | element s => exact mk _ _
  | text s => exact mk _ _
  | insert p n b =>
    refine om _ _ ?_
    have h := outA_told (w := w) (n := n)
    unfold putA
    split
    · exact base
    split
    · exact base
    split
    · exact base
    split
    · exact base
    split
    · exact base
    · unfold insA tell
      simp
      omega
  | remove n =>
    refine om _ _ ?_
    have h := outA_told (w := w) (n := n)
    unfold removeA
    split
    · exact base
    · exact ⟨Nat.le_succ_of_le h.1, Nat.le_succ_of_le h.2⟩
  | mark n k v => exact om _ _ (mkk _ _ _)
  | unmark n k => exact om _ _ (mkk _ _ _)
  | write n t =>
    refine om _ _ ?_
    unfold writeA tell
    split
    · exact base
    split
    · exact base
    · simp
end
end LM
end
section
set_option Elab.async false
set_option linter.all false
set_option maxRecDepth 100000
set_option maxHeartbeats 2000000
namespace LM
open PySem PySem.Spec PyProof.Rows L2 DL
theorem op_eqK {X : Cx} (K : PySem.W.Frag) (hu : X.A.units + 64 < cLine) (hK : X.K = K := by rfl) : OpR X (compareOp .Eq) (rEqA K) := by subst hK; exact op_eqA hu
theorem op_neK {X : Cx} (K : PySem.W.Frag) (hu : X.A.units + 64 < cLine) (hK : X.K = K := by rfl) : OpR X (compareOp .NotEq) (rNeA K) := by subst hK; exact op_neA hu
theorem op_addK {X : Cx} (K : PySem.W.Frag) (hK : X.K = K := by rfl) : OpR X (binaryOp .Add) (rAddA K) := by subst hK; exact op_addA
theorem ix_seqK {X : Cx} (K : PySem.W.Frag) (hK : X.K = K := by rfl) : IxR X (rIx K) := by subst hK; exact ix_seq
theorem s_ret {K : PySem.W.Frag} {H G : Hp} {σ : L2.St} {t : TE} {d : PyData} {D : Ends} (g : GD K t σ G H d) (s : Same G H) (k : ∀ v G' H', Pub G H G' H' → Dv K G' v d → D.rt v H') : tRet t D σ H := g G H (.refl s) _ k
theorem s_ifr {K : PySem.W.Frag} {H G : Hp} {σ : L2.St} {tt : TT} {b : Bool} {ts tr : TS} {D : Ends} (g : GT tt σ G H b) (s : Same G H) (h1 : b = true → ∀ H', Same H H' → ts { D with nx := tr D } σ H') (h2 : b = false → ∀ H', Same H H' → tr D σ H') : tSeq (tIfS tt ts tNext) tr D σ H := s_if g s h1 h2
/-! ### the step of one thing: S its own addresses -/
structure Step (S : Addr → Prop) (H H1 : Hp) (S' : Addr → Prop) (G H2 : Hp) : Prop where
  hg : Same H G
  gh : Same G H2
  hh : ∀ b o, ¬ S b → H1 b = some o → H2 b = some o
  pr : ∀ b, H b = none → H1 b ≠ none → G b = none
  th : ∀ b, H1 b ≠ none → H2 b ≠ none
  nw : ∀ b, S' b → S b ∨ H1 b = none
  sb : ∀ b, S b → S' b
section
variable {K : PySem.W.Frag} {S S' S'' T T' : Addr → Prop} {A A2 H H1 H2 H3 G G2 : Hp}
theorem Step.of_pub (p : Pub H H1 G H2) : Step S H H1 S G H2 := ⟨p.hg, p.gh, fun b o _ h => p.hh b o h, p.pr, fun b h => there_of p.hh h, fun b h => .inl h, fun b h => h⟩
theorem Step.trans (p : Step S H H1 S' G H2) (q : Step S' G H2 S'' G2 H3) : Step S H H1 S'' G2 H3 :=
  ⟨p.hg.trans q.hg, q.gh, fun b o hS h => q.hh b o (fun z => (p.nw b z).elim hS fun e => by rw [e] at h; cases h) (p.hh b o hS h), fun b h h1 => q.pr b (p.pr b h h1) (p.th b h1), fun b h => q.th b (p.th b h),
    fun b h => (q.nw b h).elim (p.nw b) fun e => .inr (Classical.byContradiction fun z => p.th b z e), fun b h => q.sb b (p.sb b h)⟩
theorem Step.pub (p : Step S H H1 S' G H2) (q : Pub G H2 G2 H3) : Step S H H1 S' G2 H3 := p.trans (.of_pub q)
/-- a write to one's own -/
theorem Step.write {a : Addr} (e : Same H H1) (hS : S a) (h : H a = none) (o : HO) : Step S H H1 S H (upd H1 a o) :=
  ⟨.refl _, same_upd2 e a h o, fun b u hb q => by rw [upd_ne (fun (z : b = a) => hb (z ▸ hS))]; exact q, fun b h _ => h, fun b hb => by
    by_cases z : b = a
    · subst z; rw [upd_same]; exact fun y => nomatch y
    · rw [upd_ne z]; exact hb, fun b h => .inl h, fun b h => h⟩
theorem Step.refl (e : Same H H1) : Step S H H1 S H H1 := .of_pub (.refl e)
/-! ### rows -/
def LR {α : Type} (R : V → α → Prop) (xs : List V) (as : List α) : Prop := xs.length = as.length ∧ ∀ (i : Nat) (x : α), as[i]? = some x → ∃ v, xs[i]? = some v ∧ R v x
theorem LR.imp {α : Type} {R R' : V → α → Prop} {xs : List V} {as : List α} (h : LR R xs as) (e : ∀ v x, R v x → R' v x) : LR R' xs as := ⟨h.1, fun i x hx => let ⟨v, a, b⟩ := h.2 i x hx; ⟨v, a, e v x b⟩⟩
theorem LR.set {α : Type} {R : V → α → Prop} {xs : List V} {as : List α} {n : Nat} {v : V} {x : α} (h : LR R xs as) (r : R v x) : LR R (xs.set n v) (as.set n x) := by
  refine ⟨by rw [List.length_set, List.length_set]; exact h.1, fun i y hy => ?_⟩
  by_cases e : n = i
  · subst e
    have hn : n < as.length := by
      have := (List.getElem?_eq_some_iff.mp hy).1
      rwa [List.length_set] at this
    rw [List.getElem?_set_self hn] at hy
    cases hy
    exact ⟨v, List.getElem?_set_self (by rw [h.1]; exact hn), r⟩
  · rw [List.getElem?_set_ne e] at hy
    rw [List.getElem?_set_ne e]
    exact h.2 i y hy
theorem LR.keep {α : Type} {R : V → α → Prop} {xs : List V} {as : List α} {n : Nat} {x y : α} (h : LR R xs as) (hx : as[n]? = some x) (r : ∀ v, R v x → R v y) : LR R xs (as.set n y) := by
  refine ⟨by rw [List.length_set]; exact h.1, fun i z hz => ?_⟩
  by_cases e : n = i
  · subst e
    have hn : n < as.length := (List.getElem?_eq_some_iff.mp hx).1
    rw [List.getElem?_set_self hn] at hz
    cases hz
    obtain ⟨v, a, b⟩ := h.2 n x hx
    exact ⟨v, a, r v b⟩
  · rw [List.getElem?_set_ne e] at hz
    exact h.2 i z hz
theorem LR.app {α : Type} {R : V → α → Prop} {xs : List V} {as : List α} {v : V} {x : α} (h : LR R xs as) (r : R v x) : LR R (xs ++ [v]) (as ++ [x]) := by
  refine ⟨by rw [List.length_append, List.length_append, h.1]; rfl, fun i y hy => ?_⟩
  by_cases e : i < as.length
  · rw [List.getElem?_append_left e] at hy
    rw [List.getElem?_append_left (by rw [h.1]; exact e)]
    exact h.2 i y hy
  · rw [List.getElem?_append_right (by omega)] at hy
    rw [List.getElem?_append_right (by rw [h.1]; omega), h.1]
    have z : i - as.length = 0 := by
      have := (List.getElem?_eq_some_iff.mp hy).1
      simp at this
      omega
    rw [z] at hy ⊢
    cases hy
    exact ⟨v, rfl, r⟩
/-! ### dicts of marks -/
def MkK (kvs : List (Key × V)) (f : Str → Option Str) : Prop := (kvs.map (·.1)).Nodup ∧ (∀ k : Str, valV kvs (.inr k) = (f k).map V.str) ∧ ∀ e, e ∈ kvs → ∃ k, k ∈ KS ∧ e.1 = .inr k
def MkD (H : Hp) (a : Addr) (f : Str → Option Str) : Prop := ∃ kvs, H a = some (.dK kvs) ∧ MkK kvs f
theorem MkD.to {a : Addr} {f : Str → Option Str} (h : MkD H a f) (e : Same H G) : MkD G a f := let ⟨kvs, a, b⟩ := h; ⟨kvs, e _ _ a, b⟩
/-! ### the law's tables -/
def kindS (t : Bool) : Str := if t then "t" else "e"
def colR (K : PySem.W.Frag) (H : Hp) : Nat → V → Nd → Prop
  | 0, v, x => Dv K H v (.str (kindS x.txt))
  | 1, v, x => Dv K H v (.str x.name)
  | 2, v, x => ∃ a, v = .ref a ∧ MkD H a x.marks
  | 3, v, x => Dv K H v (natsD x.kids)
  | _, v, x => Dv K H v (upD x.up)
def colD : Nat → Nd → PyData
  | 0, x => .str (kindS x.txt)
  | 1, x => .str x.name
  | 3, x => natsD x.kids
  | _, x => upD x.up
theorem colR_D {i : Nat} {v : V} {x : Nd} (h : colR K H i v x) (hi : i ≠ 2) : Dv K H v (colD i x) := by
  match i, hi, h with
  | 0, _, h => exact h
  | 1, _, h => exact h
  | 3, _, h => exact h
  | _ + 4, _, h => exact h
theorem colR.to {i : Nat} {v : V} {x : Nd} (h : colR K H i v x) (e : Same H G) : colR K G i v x := by
  match i, h with
  | 0, h => exact Dv.to h e
  | 1, h => exact Dv.to h e
  | 2, ⟨a, z, h⟩ => exact ⟨a, z, h.to e⟩
  | 3, h => exact Dv.to h e
  | _ + 4, h => exact Dv.to h e
abbrev wdk (fl : Nat → Addr) : List (Key × V) := [(.inr "kind", .ref (fl 0)), (.inr "name", .ref (fl 1)), (.inr "marks", .ref (fl 2)), (.inr "kids", .ref (fl 3)), (.inr "up", .ref (fl 4)), (.inr "told", .ref (fl 5)), (.inr "downs", .ref (fl 6))]
structure WH (K : PySem.W.Frag) (wd : Addr) (fl : Nat → Addr) (H A : Hp) (w : Wm) : Prop where
  gh : Same H A
  d : A wd = some (.dK (wdk fl))
  c : ∀ i, i < 5 → ∃ xs, A (fl i) = some (.lst xs) ∧ LR (colR K H i) xs w.ns
  t : ∃ xs, A (fl 5) = some (.lst xs) ∧ DvA K H xs w.told
  b : ∃ xs, A (fl 6) = some (.lst xs) ∧ DvA K H xs w.downs
  inj : ∀ i j, i < 7 → j < 7 → fl i = fl j → i = j
  pf : ∀ i, i < 7 → H (fl i) = none
  pd : H wd = none
def wS (wd : Addr) (fl : Nat → Addr) : Addr → Prop := fun a => a = wd ∨ ∃ i, i < 7 ∧ a = fl i
variable {wd : Addr} {fl : Nat → Addr} {w : Wm}
theorem WH.other (h : WH K wd fl H A w) (st : Step T H A T' G A2) (dis : ∀ b, T b → ¬ wS wd fl b) : WH K wd fl G A2 w := by
  have nt : ∀ b, wS wd fl b → ¬ T b := fun b h1 h2 => dis b h2 h1
  refine ⟨st.gh, st.hh _ _ (nt _ (.inl rfl)) h.d, fun i hi => ?_, ?_, ?_, h.inj, fun i hi => ?_, st.pr _ h.pd (some_ne h.d)⟩
  · obtain ⟨xs, h1, h2⟩ := h.c i hi
    exact ⟨xs, st.hh _ _ (nt _ (.inr ⟨i, by omega, rfl⟩)) h1, h2.imp fun v x r => r.to st.hg⟩
  · obtain ⟨xs, h1, h2⟩ := h.t
    exact ⟨xs, st.hh _ _ (nt _ (.inr ⟨5, by omega, rfl⟩)) h1, h2.to st.hg⟩
  · obtain ⟨xs, h1, h2⟩ := h.b
    exact ⟨xs, st.hh _ _ (nt _ (.inr ⟨6, by omega, rfl⟩)) h1, h2.to st.hg⟩
  · have hn : A (fl i) ≠ none := by
      by_cases z : i < 5
      · obtain ⟨xs, h1, _⟩ := h.c i z
        exact some_ne h1
      · by_cases y : i = 5
        · subst y; obtain ⟨xs, h1, _⟩ := h.t; exact some_ne h1
        · have : i = 6 := by omega
          subst this; obtain ⟨xs, h1, _⟩ := h.b; exact some_ne h1
    exact st.pr _ (h.pf i hi) hn
theorem WH.pub (h : WH K wd fl H A w) (p : Pub H A G A2) : WH K wd fl G A2 w := h.other (T := fun _ => False) (T' := fun _ => False) (.of_pub p) fun _ z => z.elim
variable {σ : L2.St} {tn : TE} {n : Nat}
theorem WH.key (h : WH K wd fl H A w) {nm : Str} {a : Addr} (h0 : σ[0]? = some (some (.ref wd))) (e : valV (wdk fl) (.inr nm) = some (.ref a)) : GV (tDGet (tVar 0) (tC (.str nm))) σ H A (.ref a) := fun H0 H1 p Q q =>
  ⟨.ref wd, h0, wd, .ref a, rfl, by rw [← e]; exact DGet.k (k := .inr nm) (h.pub p).d, q H0 H1 (.refl p.gh)⟩
theorem nat_at {xs : List V} {v : V} (h : xs[n]? = some v) : atI xs (n : Int) = some v := atI_nat h
/-- an item of a private list -/
theorem gv_ixP {to : TE} {a : Addr} {xs : List V} {v : V} (g : GV to σ H A (.ref a)) (ha : A a = some (.lst xs)) (gn : GD K tn σ H A (ofN n)) (e : xs[n]? = some v) : GV (tOp (rIx K) to tn) σ H A v := fun H0 H1 p Q q =>
  g.to p fun G1 H2 p1 => gn.to (p.trans p1) fun x G2 H3 p2 dx => .inl ⟨a, xs, (n : Int), v, rfl, Dv.int_inv dx, SqL.of (p2.hh _ _ (p1.hh _ _ (p.hh _ _ ha))), nat_at e, q G2 H3 (p1.trans p2)⟩
theorem WH.col (h : WH K wd fl H A w) {i : Nat} {nm : Str} (hi : i < 5) (h2 : i ≠ 2) (h0 : σ[0]? = some (some (.ref wd))) (e : valV (wdk fl) (.inr nm) = some (.ref (fl i))) (hn : n < w.ns.length) (gn : GD K tn σ H A (ofN n)) :
    GD K (tOp (rIx K) (tDGet (tVar 0) (tC (.str nm))) tn) σ H A (colD i (nd w.ns n)) := by
  obtain ⟨xs, h1, r⟩ := h.c i hi
  obtain ⟨v, e2, rv⟩ := r.2 n _ (nd_get hn)
  exact (gv_ixP (h.key h0 e) h1 gn e2).gd (colR_D rv h2)
theorem WH.kindG (h : WH K wd fl H A w) (h0 : σ[0]? = some (some (.ref wd))) (hn : n < w.ns.length) (gn : GD K tn σ H A (ofN n)) : GD K (tOp (rIx K) (tDGet (tVar 0) (tC (.str "kind"))) tn) σ H A (.str (kindS (nd w.ns n).txt)) := h.col (i := 0) (by omega) (by omega) h0 rfl hn gn
theorem WH.nameG (h : WH K wd fl H A w) (h0 : σ[0]? = some (some (.ref wd))) (hn : n < w.ns.length) (gn : GD K tn σ H A (ofN n)) : GD K (tOp (rIx K) (tDGet (tVar 0) (tC (.str "name"))) tn) σ H A (.str (nd w.ns n).name) := h.col (i := 1) (by omega) (by omega) h0 rfl hn gn
theorem WH.kidsG (h : WH K wd fl H A w) (h0 : σ[0]? = some (some (.ref wd))) (hn : n < w.ns.length) (gn : GD K tn σ H A (ofN n)) : GD K (tOp (rIx K) (tDGet (tVar 0) (tC (.str "kids"))) tn) σ H A (natsD (nd w.ns n).kids) := h.col (i := 3) (by omega) (by omega) h0 rfl hn gn
theorem WH.upG (h : WH K wd fl H A w) (h0 : σ[0]? = some (some (.ref wd))) (hn : n < w.ns.length) (gn : GD K tn σ H A (ofN n)) : GD K (tOp (rIx K) (tDGet (tVar 0) (tC (.str "up"))) tn) σ H A (upD (nd w.ns n).up) := h.col (i := 4) (by omega) (by omega) h0 rfl hn gn
theorem WH.mark (h : WH K wd fl H A w) (hn : n < w.ns.length) : ∃ a, MkD H a (nd w.ns n).marks ∧ ∀ {σ : L2.St} {tn : TE}, σ[0]? = some (some (.ref wd)) → GD K tn σ H A (ofN n) → GV (tOp (rIx K) (tDGet (tVar 0) (tC (.str "marks"))) tn) σ H A (.ref a) := by
  obtain ⟨xs, h1, r⟩ := h.c 2 (by omega)
  obtain ⟨v, e2, a, rfl, m⟩ := r.2 n _ (nd_get hn)
  exact ⟨a, m, fun h0 gn => gv_ixP (h.key h0 rfl) h1 gn e2⟩
/-- how many nodes -/
theorem WH.len (h : WH K wd fl H A w) (h0 : σ[0]? = some (some (.ref wd))) : GD K (tCB (DL.rLen K) (tCons (tDGet (tVar 0) (tC (.str "kind"))) tNil)) σ H A (ofN w.ns.length) := fun H0 H1 p Q q => by
  obtain ⟨xs, h1, r⟩ := h.c 0 (by omega)
  refine (h.key (nm := "kind") h0 rfl).to p fun G H2 p2 => ⟨.ref (fl 0), xs.length, rfl, .inl ⟨xs, SqL.of (p2.hh _ _ (p.hh _ _ h1)), rfl⟩, ?_⟩
  rw [r.1]
  exact q _ G H2 p2 (.int _)
end
end LM
end
section
set_option Elab.async false
set_option linter.all false
set_option maxRecDepth 100000
set_option maxHeartbeats 4000000
namespace LW
open PySem PySem.Spec PyProof.Rows L2 DL LM
/-- more of what is built in -/
structure Bx (mg : Str → Option Value) : Prop extends Bt mg where
  zip : mg "zip" = none
  reversed : mg "reversed" = none
  set : mg "set" = none
  any : mg "any" = none
section
variable {P : Program} {W : World} {K : PySem.W.Frag} {mg : Str → Option Value} {base : Heap} {f : Addr} {fd : FuncData} {A A2 H H' H0 H1 H2 G G2 Hc : Hp} {σ : L2.St} {t te td tn tv t1 t2 : TE} {tr : TS} {ts : TS} {D : Ends} {tA : TA} {n i j : Nat} {p b : Addr} {xs ys : List V} {v : V} {d : PyData} {ds es : List PyData} {kvs : List (Key × V)}
/-! ### a def over data that are told by something -/
def spA (K : PySem.W.Frag) (n : Nat) {α : Type} (ar : α → List PyData) (Pre : α → Prop) (f : α → PyData) : Sp := fun vs H1 Q _ => ∃ (x : α) (H : Hp), vs.length = n ∧ Same H H1 ∧ DvA K H vs (ar x) ∧ Pre x ∧ ∀ v G H2, Pub H H1 G H2 → Dv K G v (f x) → Q v H2
theorem gd_callA {α : Type} {ar : α → List PyData} {Pre : α → Prop} {f : α → PyData} (x : α) (ga : GA K tA σ H A (ar x)) (hn : (ar x).length = n) (hp : Pre x) : GD K (tCall (spA K n ar Pre f) [] E0 tA) σ H A (f x) := fun H0 H1 p Q q => ga.to p fun vs G H2 p2 dv => by
  show spA K n ar Pre f (vs ++ []) H2 Q E0
  rw [List.append_nil]
  exact ⟨x, G, (DvA.len dv).trans hn, p2.gh, dv, hp, fun v G' H3 p3 dw => q v G' H3 (p2.trans p3) dw⟩
theorem fn_A {x qual : Str} {st : Stmt} {N ps : List Str} {k n : Nat} {α : Type} {ar : α → List PyData} {Pre : α → Prop} {g : α → PyData} (F : Fun K x qual st f fd) (S : FnScope N ps (defScope st)) (hn : n = ps.length)
    (hbody : ∀ (cdv : Value) (A : Around) (outer : List Env) (s : Shared) (H1 : Hp) (E : XK), Room k (A.deeper (envOfC qual (defScope st) s.heap.objs.size f cdv)) →
      ∃ t, PSs (cxOf CX0 P W K mg base N qual (defScope st) f cdv A outer s H1 E).nox (defBody st) t ∧ ∀ vs x H A, vs.length = n → Same H A → DvA K H vs (ar x) → Pre x → GB K t (start N vs) H A (fun d => d = g x)) : FnOk P W K mg base CX0 (k + 1) f fd ps (spA K n ar Pre g) := by
  refine F.ok S (fun vs H Q E h => ?_) (fun cdv A outer s H vs Q E hr h => ?_)
  · obtain ⟨_, _, hl, _⟩ := h
    rw [hl, hn]
  obtain ⟨x, H0, hl, sm, dv, hp, q⟩ := h
  obtain ⟨t, h1, h2⟩ := hbody cdv A outer s H E hr
  exact ⟨t, h1, h2 vs x H0 H hl sm dv hp H0 H (.refl sm) _ fun d v G H2 r p dv => by subst r; exact q v G H2 p dv⟩
theorem pt_trK {X : Cx} (K : PySem.W.Frag) {a : Expr} {ta : TE} (ha : PE X a ta) (hK : X.K = K := by rfl) (he : ∀ whole, isTrue a X.env whole = (do let v ← whole; standAt a.pos; holding [v] (truthy v)) := by intro _; rfl) : PT X a (tTr K ta) := by subst hK; exact pt_tr ha he
theorem pi_seqK {X : Cx} (K : PySem.W.Frag) {tg e : Expr} {te : TE} (h : PE X e te) (hK : X.K = K := by rfl) : PI X tg e (iSeq K te) := by subst hK; exact pi_seq h
theorem pe_fldK {X : Cx} (K : PySem.W.Frag) {e : Expr} {f : Str} {pos : Pos} {ta : TE} (he : PE X e ta) (hb : attributeBase e f X.env (eval e X.env) = eval e X.env) (hK : X.K = K := by rfl) : PE X (.Attribute e f pos) (tFld K ta f) := by subst hK; exact pe_fld he hb
theorem op_inK {X : Cx} (K : PySem.W.Frag) (hK : X.K = K := by rfl) : OpR X (compareOp .In) (rIn K false) := by subst hK; exact op_in_seq
theorem op_ninK {X : Cx} (K : PySem.W.Frag) (hK : X.K = K := by rfl) : OpR X (compareOp .NotIn) (rIn K true) := by subst hK; exact op_notIn_seq
theorem pg_tupK {X : Cx} (K : PySem.W.Frag) {es : List Expr} {k : Nat} {t : TGs} {n : Nat} {pos : Pos} (hc : X.calm = true) (h : PGs X es t) (hK : X.K = K := by rfl) (hn : (assignEach es X.env).length = n := by rfl) (hst : (assignEach es X.env).findIdx? (·.1) = none := by rfl) : PG X (.Tuple es k pos) (gTup K n t) := by subst hK; exact pg_tup hc h hn hst
/-! ### rows -/
theorem DvA.rev {vs : List V} {ds : List PyData} (h : DvA K H vs ds) : DvA K H vs.reverse ds.reverse := by
  induction vs generalizing ds with
  | nil => cases h; exact .nil
  | cons v vs ih =>
    cases h with
    | cons a r =>
      rw [List.reverse_cons, List.reverse_cons]
      exact DvA.app (ih r) (.cons a .nil)
theorem DvA.snoc {vs : List V} {ds : List PyData} {d : PyData} (h : DvA K H vs (ds ++ [d])) : ∃ us u, vs = us ++ [u] ∧ DvA K H us ds ∧ Dv K H u d := by
  induction ds generalizing vs with
  | nil =>
    obtain ⟨v, rfl, dv⟩ := DvA.inv1 h
    exact ⟨[], v, rfl, .nil, dv⟩
  | cons e es ih =>
    cases h with
    | cons a r =>
      obtain ⟨us, u, rfl, h1, h2⟩ := ih r
      exact ⟨_ :: us, u, rfl, .cons a h1, h2⟩
theorem gd_revT (g : GD K te σ H A (.tuple ds)) : GD K (RR.tRevT K te) σ H A (.tuple ds.reverse) := fun H0 H1 e Q q => g.to e fun v G H2 p dv => by
  obtain ⟨a, xs, rfl, s, da⟩ := Dv.tup_inv dv
  exact ⟨a, xs, rfl, seqT p.gh s, fun b ob hb hd => q (.ref b) _ _ (p.new hb _) (.tupF upd_same hd ((DvA.rev da).to (same_new (p.gh.free hb) _)))⟩
/-- a list from its end -/
theorem runs_rev {a : Addr} (s : SqL K G a xs) (h : DvA K G xs ds) : Runs K (Itv K a xs.length) G ds.reverse where
  go := fun i H e hi => by
    rw [List.length_reverse] at hi
    have hl := DvA.len h
    exact ⟨by omega, xs, xs[xs.length - 1 - i]'(by omega), e.seq s, List.getElem?_eq_getElem _⟩
  stop := fun i H e hi => by
    rw [List.length_reverse] at hi
    have hl := DvA.len h
    show xs.length ≤ i
    omega
  yld := fun i H x H' G' e e2 hi hy => by
    rw [List.length_reverse] at hi
    obtain ⟨rfl, hx⟩ := hy
    obtain ⟨d, hd, dx⟩ := DvA.getv h (hx xs ((e.trans e2).seq s))
    rw [DvA.len h] at hd
    exact ⟨d, G', by rw [List.getElem?_reverse hi]; exact hd, .refl e2, dx.to e⟩
theorem gi_rev (ga : GA K tA σ H A [.list ds]) : GI K (iRev K tA) σ H A ds.reverse := fun H0 H1 e R q => ga.to e fun vs G H2 p dv => by
  obtain ⟨v, rfl, d1⟩ := DvA.inv1 dv
  obtain ⟨a, xs, rfl, s, da⟩ := Dv.lst_inv d1
  exact ⟨a, xs, rfl, .inl (rd_same p.gh s), q _ G H2 p (runs_rev (.inl s) da)⟩
/-! ### one's own lists -/
theorem gt_own (g : GV te σ H A (.ref b)) (e : A b = some (.lst xs)) : GT (tTr K te) σ H A (!xs.isEmpty) := fun H0 H1 p Q q => g.to p fun G H2 p2 => ⟨_, .inl ⟨xs, .inl (.inl (p2.hh _ _ (p.hh _ _ e))), rfl⟩, q H2 (.idle p.gh p2.hh)⟩
theorem s_pop (w : Own H0 H1 G H p (.lst (xs ++ [v]))) (ho : σ[j]? = some (some (.ref p))) (k : ∀ H', Own H0 H1 G H' p (.lst xs) → H' = upd H p (.lst xs) → tr D (σ.set i (some v)) H') : tSeq (tAsg (tBM0 K "list" rPop (tVar j)) (gName i)) tr D σ H :=
  ⟨.ref p, ho, .inl ⟨rfl, _, SqL.of w.at_⟩, p, xs ++ [v], v, rfl, rfl, w.at_, by simp, by
    rw [List.dropLast_concat]
    exact k _ (w.put _) rfl⟩
theorem s_extT (w : Own H0 H1 G H p (.lst xs)) (ho : σ[j]? = some (some (.ref p))) (g : GD K te σ G H (.tuple ds)) (z : xs.length + ds.length ≤ sizeLine)
    (k : ∀ vs G' H' Hx, Pub G H G' Hx → H' = upd Hx p (.lst (xs ++ vs)) → Own H0 H1 G' H' p (.lst (xs ++ vs)) → DvA K G' vs ds → D.nx σ H') : tDrop (tBM K "list" (RR.rExtT K) (tVar j) (tCons te tNil)) D σ H :=
  ⟨.ref p, ho, .inl ⟨rfl, xs, SqL.of w.at_⟩, g.to (.refl w.gh) fun v G' H' P dv => by
    obtain ⟨a, zs, rfl, s, da⟩ := Dv.tup_inv dv
    exact ⟨p, a, xs, zs, rfl, rfl, (w.step P).at_, seqT P.gh s, by rw [DvA.len da]; exact z, k zs G' _ H' P rfl ((w.step P).put _) da⟩⟩
theorem s_appendX (w : Own H0 H1 G H p (.lst xs)) (ho : σ[j]? = some (some (.ref p))) (g : GD K te σ G H d) (z : xs.length < sizeLine) (k : ∀ v G' H' Hx, Pub G H G' Hx → H' = upd Hx p (.lst (xs ++ [v])) → Own H0 H1 G' H' p (.lst (xs ++ [v])) → Dv K G' v d → D.nx σ H') :
    tDrop (tBM K "list" rAppend (tVar j) (tCons te tNil)) D σ H := ⟨.ref p, ho, .inl ⟨rfl, xs, SqL.of w.at_⟩, g.to (.refl w.gh) fun v G' H' P dv => ⟨p, xs, v, rfl, rfl, (w.step P).at_, z, k v G' _ H' P rfl ((w.step P).put _) dv⟩⟩
/-- another own object stays -/
theorem Own.stay {o u : HO} (w : Own H0 H1 G Hc p o) (w2 : Own H0 H1 G (upd Hc b u) b u) (h : p ≠ b) : Own H0 H1 G (upd Hc b u) p o := ⟨w2.pub, by rw [upd_ne h]; exact w.at_, w.pg, w.p1⟩
/-! ### one's own dict of data by numbers -/
theorem gd_dnum (g : GV td σ H A (.ref b)) (e : A b = some (.dK kvs)) (gn : GD K tn σ H A (ofN n)) (hv : valV kvs (.inl (n : Int)) = some v) (dv : Dv K H v d) : GD K (tDGet td tn) σ H A d := fun H0 H1 p Q q => g.to p fun G H2 p2 => gn.to (p.trans p2) fun u G3 H3 p3 du => by
  have eu := Dv.int_inv du
  subst eu
  exact ⟨b, v, rfl, by rw [← hv]; exact DGet.k (k := .inl (n : Int)) (p3.hh _ _ (p2.hh _ _ (p.hh _ _ e))), q v G3 H3 (p2.trans p3) (dv.to (p.hg.trans (p2.hg.trans p3.hg)))⟩
theorem s_dnum (w : Own H0 H1 G H p (.dK kvs)) (ho : σ[j]? = some (some (.ref p))) (gv : GD K tv σ G H d) (gn : ∀ G' H', Pub G H G' H' → GD K tn σ G' H' (ofN n)) (z : kvs.length < sizeLine)
    (k : ∀ v G' H', Own H0 H1 G' H' p (.dK (putK kvs (.inl (n : Int)) v)) → Same G G' → Dv K G' v d → D.nx σ H') : sDPut (tVar j) tn tv D σ H := gv.to (.refl w.gh) fun v G2 H2 p2 dv => ⟨.ref p, ho, (gn G2 H2 p2).to (.refl (w.step p2).gh) fun u G3 H3 p3 du => by
  have eu := Dv.int_inv du
  subst eu
  have w3 := (w.step p2).step p3
  exact ⟨p, _, rfl, DPut.k (k := .inl (n : Int)) w3.at_ z, k v G3 _ (w3.put _) (p2.hg.trans p3.hg) (dv.to p3.hg)⟩⟩
end
end LW
end
section
set_option Elab.async false
set_option linter.all false
set_option maxRecDepth 100000
set_option maxHeartbeats 4000000
/-! zip of a tuple and a text -/
namespace RR
open PySem PySem.Spec PyProof.Rows L2 DL
/-- the items of the tuple at a and the signs of the text, in new pairs -/
def ItzTS (K : PySem.W.Frag) (a : Addr) (m : Nat) (z : Str) : It :=
  ⟨fun i H => ∃ (xs : List V) (x : V), SqT K H a xs ∧ xs.length = m ∧ xs[i]? = some x ∧ i < z.cps.size,
    fun i H v H' => ∃ T x c, v = .ref T ∧ H T = none ∧ z.cps[i]? = some c ∧ H' = upd H T (.tup [x, .str ⟨#[c]⟩]) ∧ (∀ xs, SqT K H a xs → xs[i]? = some x),
    fun i H => ∃ xs : List V, SqT K H a xs ∧ xs.length = m ∧ min m z.cps.size ≤ i⟩
theorem sepTS {a i1 i2 z TI TO : Addr} (D : PySem.ZipSep2 z TI TO i1 i2 [i1] [i2]) (h1 : a ≠ z) (h2 : a ≠ TO) (h3 : a ≠ i2) : PySem.ZipSep2 z TI TO i1 i2 [i1, a] [i2] :=
  { D with zf1 := by have := D.zf1; simp at this ⊢; exact ⟨this, fun q => h1 q.symm⟩, Tf1 := by have := D.Tf1; simp at this ⊢; exact ⟨this, fun q => h2 q.symm⟩, mem1 := by simp, sep2_1 := by have := D.sep2_1; simp at this ⊢; exact ⟨this, fun q => h3 q.symm⟩ }
theorem turn_zipTS {P : Program} {w : World} {K : PySem.W.Frag} {elts : List Expr} {kk : Nat} {tpos : Pos} {a z TI TO i1 i2 : Addr} {m : Nat} {x : Str} {tk : Tok} (D : PySem.ZipSep2 z TI TO i1 i2 [i1] [i2]) (da : a ≠ z ∧ a ≠ TI ∧ a ≠ TO ∧ a ≠ i1 ∧ a ≠ i2) :
    Turn P w K (.Tuple elts kk tpos) (ItzTS K a m x) [z, TI, TO, i1, i2] z (fun i h => i ≤ min m x.cps.size ∧ IsZip h z TI TO .none ∧ IsTupOf2 h TI (.ref i1) (.ref i2) ∧ (∃ x y, IsTupOf2 h TO x y) ∧ h.IsTupleIter i1 a i ∧ h.IsStrIter i2 (strIterType x) x tk i) where
  mem := by simp
  obj := fun i h st c hc => by
    obtain ⟨_, hz, hTI, ⟨x, y, hTO⟩, ⟨o1, e1, _, d1⟩, ⟨o2, e2, _, d2⟩⟩ := st
    have e' : c = z ∨ c = TI ∨ c = TO ∨ c = i1 ∨ c = i2 := by simpa using hc
    rcases e' with q | q | q | q | q
    · rw [q]; exact ⟨_, hz, fun v q => nomatch q⟩
    · rw [q]; exact ⟨_, hTI, fun v q => nomatch q⟩
    · rw [q]; exact ⟨_, hTO, fun v q => nomatch q⟩
    · rw [q]; exact ⟨o1, e1, fun v q => by rw [d1] at q; cases q⟩
    · rw [q]; exact ⟨o2, e2, fun v q => by rw [d2] at q; cases q⟩
  keep := fun i h h' st k => by
    obtain ⟨him, hz, hTI, ⟨x, y, hTO⟩, h1, ⟨o2, e2, r2⟩⟩ := st
    exact ⟨him, k z (by simp) _ hz, k TI (by simp) _ hTI, ⟨x, y, k TO (by simp) _ hTO⟩, h1.at fun o q => k i1 (by simp) o q, ⟨o2, k i2 (by simp) _ e2, r2⟩⟩
  item := by
    intro X hP hw hK hc i pins s σ H E I hf st hg
    subst hP hw hK
    obtain ⟨him, hz, hTI, hTO, h1, h2⟩ := st
    obtain ⟨xs, x0, hq, hm, hx, hi⟩ := hg
    obtain ⟨its, rv, p, _⟩ := I.tuple hq
    obtain ⟨u, hu, ru⟩ := rv.get hx
    have hil : i < its.toArray.size := by
      have := (List.getElem?_eq_some_iff.mp hu).1
      simpa using this
    have hd : X.A.in1.handled = none := I.ok.hd hc
    have W := PySem.GoesN.zip2 (elts := elts) (x1 := kk) (pos := tpos) (sepTS D da.1 da.2.2.1 da.2.2.2.2) (PySem.Draws.tuple (prog := X.prog) (w := X.w) hd i1 a da.2.2.2.1 its.toArray) (PySem.Draws.text (prog := X.prog) (w := X.w) hd i2 x tk)
    refine W.goes i s (fun v s2 => ∃ x', ∃ H', Inv X pins σ H' s2 ∧ RelV x' v ∧ (ItzTS X.K a m x).yld i H x' H' ∧ (i + 1 ≤ min m x.cps.size ∧ IsZip s2.heap z TI TO .none ∧ IsTupOf2 s2.heap TI (.ref i1) (.ref i2) ∧ (∃ x y, IsTupOf2 s2.heap TO x y) ∧ s2.heap.IsTupleIter i1 a (i + 1) ∧ s2.heap.IsStrIter i2 (strIterType x) x tk (i + 1)) ∧ ∀ b ∈ [z, TI, TO, i1, i2], H' b = none) E (Nat.lt_min.mpr ⟨hil, hi⟩) ⟨hz, hTI, hTO, ⟨h1, p⟩, h2⟩ fun v h' t' hY st' hk ht => ?_
    obtain ⟨T, y1, y2, rfl, hT, hy1, ⟨c, t2, hc2, rfl⟩, hTup⟩ := hY
    have hlt : ∀ b ∈ [z, TI, TO, i1, i2], b < s.heap.objs.size := fun b hb => by
      obtain ⟨o1, e1, _⟩ := h1
      obtain ⟨o2, e2, _⟩ := h2
      obtain ⟨x1, x2, e3⟩ := hTO
      have e' : b = z ∨ b = TI ∨ b = TO ∨ b = i1 ∨ b = i2 := by simpa using hb
      rcases e' with q | q | q | q | q
      · rw [q]; exact Heap.lt_size hz
      · rw [q]; exact Heap.lt_size hTI
      · rw [q]; exact Heap.lt_size e3
      · rw [q]; exact Heap.lt_size e1
      · rw [q]; exact Heap.lt_size e2
    have hy1' : its[i]? = some y1 := by simpa using hy1
    rw [hu] at hy1'
    cases hy1'
    have new : ObjOk X.prog X.w (upd H T (.tup [x0, .str ⟨#[c]⟩])) h' T (.tup [x0, .str ⟨#[c]⟩]) := ⟨by show 2 ≤ sizeLine; rw [sizeLine_eq]; decide, [u, .str ⟨#[c]⟩ t2], .cons ru (.cons ⟨_, rfl⟩ .nil), hTup⟩
    have I1 : Inv X pins σ (upd H T (.tup [x0, .str ⟨#[c]⟩])) { s with heap := h', toks := t' } :=
      I.turnedNew (t' := t') (ch := [z, TI, TO, i1, i2]) (fun b o hb q => hk b o (fun z => hb (by simp at z ⊢; rcases z with z | z | z | z <;> simp [z])) q) hf hT new
    refine ⟨.ref T, _, I1, rfl, ⟨T, x0, c, rfl, I.hok.fresh hT, hc2, rfl, fun l hl => by rw [I.tuple_inj hl hq]; exact hx⟩, ⟨by have := (List.getElem?_eq_some_iff.mp hx).1; omega, st'.1, st'.2.1, st'.2.2.1, st'.2.2.2.1.1, st'.2.2.2.2⟩, fun b hb => ?_⟩
    rw [upd_ne (Nat.ne_of_lt (Nat.lt_of_lt_of_le (hlt b hb) hT))]
    exact (hf b hb).1
  done := by
    intro X hP hw hK hc i pins s σ H E I hf st hg
    subst hP hw hK
    obtain ⟨him, hz, hTI, hTO, h1, h2⟩ := st
    obtain ⟨xs, hq, hm, hi⟩ := hg
    obtain ⟨its, rv, p, _⟩ := I.tuple hq
    have hlen := rv.length
    have hn : i = min its.toArray.size x.cps.size := by rw [List.size_toArray, ← hlen]; omega
    have hd : X.A.in1.handled = none := I.ok.hd hc
    have W := PySem.GoesN.zip2 (elts := elts) (x1 := kk) (pos := tpos) (sepTS D da.1 da.2.2.1 da.2.2.2.2) (PySem.Draws.tuple (prog := X.prog) (w := X.w) hd i1 a da.2.2.2.1 its.toArray) (PySem.Draws.text (prog := X.prog) (w := X.w) hd i2 x tk)
    subst hn
    exact W.stops s _ E ⟨hz, hTI, hTO, ⟨h1, p⟩, h2⟩ fun h' t' hk ht => I.turnedL (t' := t') (ch := [z, TI, TO, i1, i2]) (fun b o hb q => hk b o (fun z => hb (by simp at z ⊢; rcases z with z | z | z | z <;> simp [z])) q) hf
  self := fun A i s Q E st h => wpAny_pyIter_zip st.2.1 h
def iZipTS (K : PySem.W.Frag) (ta : TA) : TI := fun σ H R => ta σ H fun vs H1 => ∃ a x xs, vs = [.ref a, .str x] ∧ SqT K H1 a xs ∧ R (ItzTS K a xs.length x) H1
theorem pi_zipTS {X : Cx} {e e2 : Expr} {ta : TA} {p pos tpos : Pos} {elts : List Expr} {kk : Nat} (hg : Gl X "zip") (hm : X.mg "zip" = none) (ha : PA X [e, e2] ta)
    (hs : starEach [e, e2] X.env = (false, eval e X.env) :: starEach [e2] X.env := by rfl) (hpl : (backTo pos (starEach [e2] X.env)).any (·.1) = false := by rfl) :
    PI X (.Tuple elts kk tpos) (.Call (.Name "zip" p) [e, e2] [] pos) (iZipTS X.K ta) := by
  refine ⟨fun pins s σ H R I h => ?_⟩
  refine Call_ (ld_blt I hg hm PyProof.Rows.boot_zip (PyProof.Rows.callWith_type1 (thn (ha.run pos pins s σ H _ I h) fun us s1 ⟨vs, H1, I1, r1, q1⟩ => ?_) hs hpl))
  obtain ⟨a, x, xs, ex, hq, q⟩ := q1
  subst ex
  cases r1 with
  | cons r rr =>
    cases rr with
    | cons r' rr =>
      cases rr
      cases r
      obtain ⟨t, rfl⟩ := r'
      obtain ⟨its, rv, p1, _⟩ := I1.tuple hq
      obtain ⟨o1, ho1, _⟩ := id p1
      have hal : a < s1.heap.objs.size := Heap.lt_size ho1
      have fresh5 : ∀ c, c ∈ [s1.heap.objs.size + 4, s1.heap.objs.size + 2, s1.heap.objs.size + 3, s1.heap.objs.size, s1.heap.objs.size + 1] → FpOk X pins H1 c := fun c hcm => by
        have e' : c = s1.heap.objs.size + 4 ∨ c = s1.heap.objs.size + 2 ∨ c = s1.heap.objs.size + 3 ∨ c = s1.heap.objs.size ∨ c = s1.heap.objs.size + 1 := by simpa using hcm
        have hle : s1.heap.objs.size ≤ c := by
          rcases e' with z | z | z | z | z
          · rw [z]; exact Nat.le_add_right _ _
          · rw [z]; exact Nat.le_add_right _ _
          · rw [z]; exact Nat.le_add_right _ _
          · rw [z]; exact Nat.le_refl _
          · rw [z]; exact Nat.le_add_right _ _
        exact I1.fpOk hle (I1.hok.fresh hle)
      refine PySem.zip_begins2 (PySem.begins_tuple a its.toArray) (PySem.begins_text x t) p1 trivial fun h' hz hTI hTO h1 h2 hsz hk => wpAny_pyIter_zip hz ?_
      have I2 : Inv X pins σ H1 { s1 with heap := h' } := I1.kept (t' := s1.toks) hk
      have ne : ∀ k : Nat, a ≠ s1.heap.objs.size + k := fun k => Nat.ne_of_lt (Nat.lt_of_lt_of_le hal (Nat.le_add_right _ _))
      exact ⟨s1.heap.objs.size + 4, [s1.heap.objs.size + 4, s1.heap.objs.size + 2, s1.heap.objs.size + 3, s1.heap.objs.size, s1.heap.objs.size + 1], _, _, H1, rfl, I2, turn_zipTS (m := xs.length) (tk := t) (PySem.zip_sep2 (N := s1.heap.objs.size) (fp1 := []) (fp2 := []) (fun b hb => by cases hb) fun b hb => by cases hb) ⟨ne 4, ne 2, ne 3, ne 0, ne 1⟩, ⟨Nat.zero_le _, hz, hTI, ⟨_, _, hTO⟩, ⟨_, h1, rfl, rfl⟩, ⟨_, h2, rfl, rfl⟩⟩, fresh5, q⟩
/-- the data of such a walk -/
theorem runs_zipTS {K : PySem.W.Frag} {G : Hp} {a : Addr} {x : Str} {xs : List V} {ds : List PyData} (s : SqT K G a xs) (h : DvA K G xs ds) : DL.Runs K (ItzTS K a xs.length x) G (zipD ds ((sgs x).map .str)) where
  go := fun i H e hi => by
    have z : i < ds.length ∧ i < x.cps.size := by simp [zipD, sgs] at hi; omega
    exact ⟨xs, xs[i]'(by rw [DvA.len h]; exact z.1), seqT e s, rfl, List.getElem?_eq_getElem _, z.2⟩
  stop := fun i H e hi => by
    have z : min ds.length x.cps.size ≤ i := by simpa [zipD, sgs] using hi
    exact ⟨xs, seqT e s, rfl, by rw [DvA.len h]; exact z⟩
  yld := fun i H v H' G' e e2 hi hy => by
    obtain ⟨T, y, c, rfl, hn, hc, rfl, hx⟩ := hy
    obtain ⟨da, e3, dx⟩ := DvA.getv h (hx xs (seqT (e.trans e2) s))
    obtain ⟨p, dz⟩ := zip_yld e2 hn (dx.to e) (Dv.str ⟨#[c]⟩) (pairs_no2 rfl)
    refine ⟨_, _, zipD_get e3 ?_, p, dz⟩
    have hc' : x.cps.toList[i]? = some c := by rw [Array.getElem?_toList]; exact hc
    unfold sgs
    rw [List.getElem?_map, List.getElem?_map, hc']
    rfl
end RR
namespace DL
open PySem PySem.Spec PyProof.Rows L2
theorem gi_zipTS {K : PySem.W.Frag} {A H : Hp} {σ : L2.St} {tA : TA} {ds : List PyData} {x : Str} (ga : GA K tA σ H A [.tuple ds, .str x]) : GI K (RR.iZipTS K tA) σ H A (zipD ds ((sgs x).map .str)) := fun H0 H1 e R q => ga.to e fun vs G H2 p dv => by
  obtain ⟨v, w, rfl, d1, d2⟩ := DvA.inv2 dv
  obtain ⟨a, xs, rfl, s1, da⟩ := Dv.tup_inv d1
  have e2 := Dv.str_inv d2
  subst e2
  exact ⟨a, x, xs, rfl, seqT p.gh s1, q _ G H2 p (RR.runs_zipTS s1 da)⟩
end DL
end
section
set_option Elab.async false
set_option linter.all false
set_option maxRecDepth 100000
set_option maxHeartbeats 4000000
/-! d.get(k) of a written dict with text keys -/
namespace RR
open PySem PySem.Spec PyProof.Rows L2 DL
/-- the written dict at a holds (none: lacks) r at x -/
def WDct (K : PySem.W.Frag) (w : World) (a : Addr) (x : Str) (r : Option V) : Prop :=
  ∃ es n ru, K.lookup a = some ⟨.type "dict", none, .dict es n, #[]⟩ ∧ PySem.W.KeysLit w.params es.toList ∧ (a == sysModules) = false ∧ PySem.W.nsIn K a x = some ru ∧ RelO r ru
def tWGet1 (K : PySem.W.Frag) (w : World) (td ty : TE) : TE := fun σ H Q => td σ H fun x H1 => ∃ a, x = .ref a ∧ (∃ es n, K.lookup a = some ⟨.type "dict", none, .dict es n, #[]⟩ ∧ (a == sysModules) = false) ∧ ty σ H1 fun y H2 => ∃ z o, y = .str z ∧ WDct K w a z o ∧ Q (o.getD .non) H2
theorem pe_wget1 {X : Cx} {o e : Expr} {apos cpos : Pos} {td ty : TE} (ho : PE X o td) (he : PE X e ty) (m : M1 X o "get" apos e cpos) : PE X (.Call (.Attribute o "get" apos) [e] [] cpos) (tWGet1 X.K X.w td ty) := by
  refine ⟨fun pins s σ H Q I h => ?_⟩
  refine wpAny_Call_method m.base m.few m.line PySem.F.plainAttrs_dict PySem.F.slot_dict_get PySem.F.type_dict_get (thn (ho.run pins s σ H _ I h) fun u s1 ⟨x, H1, I1, rx, a, ex, ⟨es, n, hl, hd⟩, q1⟩ => ?_)
  subst ex
  obtain rfl : u = Value.ref a := rx
  have g := I1.kIn _ _ hl
  refine ⟨⟨_, g, rfl⟩, fun b q => by cases q; exact ⟨_, g, rfl⟩, ?_⟩
  rw [m.trees]
  refine Calls.callWith_builtin rfl (Calls.evalArgs_plain (Calls.spliced_cons (thn (he.run pins s1 σ H1 _ I1 q1) fun iv s2 ⟨y, H2, I2, ry, z, ov, ey, ⟨es2, n2, ru, hl2, hk, hd2, hf, rr⟩, q2⟩ => Calls.spliced_nil ?_)))
  subst ey
  obtain ⟨t, rfl⟩ := ry
  have hm := PySem.W.mapOf_K (prog := X.prog) (w := X.w) I2.kIn hl2 hk
  refine call_meetsIn PySem.F.slot_dict_get hm.typeIs PySem.F.entry_dict_get (PySem.F.args_dict_get_2 _ _) (meets_dict_get (strKind X.prog X.w) a (strKind_is X.prog X.w z t) hd2) ⟨_, hm, ?_⟩
  rw [PySem.W.find_K hl2 hf]
  exact ⟨_, H2, I2.tok _, RelO.getD (d := .non) (d' := .none) rr (show RelV V.non Value.none from rfl), q2⟩
end RR
namespace DL
open PySem PySem.Spec PyProof.Rows L2
section
variable {K : PySem.W.Frag} {w : World} {A H : Hp} {σ : L2.St} {t te : TE}
/-- a table of texts by texts -/
def tabO (l : List (Str × Str)) (x : Str) : Option Str := (l.find? fun p => decide (p.1 = x)).map (·.2)
def oD : Option Str → PyData
  | none => .none
  | some x => .str x
/-- the written dict at a is the table -/
def IsTab (K : PySem.W.Frag) (w : World) (a : Addr) (l : List (Str × Str)) : Prop := ∃ es n, K.lookup a = some ⟨.type "dict", none, .dict es n, #[]⟩ ∧ PySem.W.KeysLit w.params es.toList ∧ (a == sysModules) = false ∧ Paired (fun (e : DictEntry) (p : Str × Str) => (∃ t, e.key = .str p.1 t) ∧ ∃ t, e.val = .str p.2 t) es.toList l
theorem isTab_find : ∀ {es : List DictEntry} {l : List (Str × Str)}, Paired (fun (e : DictEntry) (p : Str × Str) => (∃ t, e.key = .str p.1 t) ∧ ∃ t, e.val = .str p.2 t) es l → ∀ x, RelO ((tabO l x).map V.str) ((es.find? fun d => d.key.isStr x).map (·.val)) := fun {es l} h x => by
  induction h with
  | nil => exact True.intro
  | @cons e p es l hp h ih =>
    obtain ⟨⟨t, e1⟩, ⟨u, e2⟩⟩ := hp
    have k : e.key.isStr x = decide (p.1 = x) := by
      rw [e1]
      show (p.1 == x) = _
      rw [Bool.eq_iff_iff]; simp
    unfold tabO
    rw [List.find?_cons, List.find?_cons, k]
    cases hc : decide (p.1 = x) with
    | true => exact (show RelV (.str p.2) e.val from ⟨u, e2⟩)
    | false => exact ih
theorem isTab_w {a : Addr} {l : List (Str × Str)} (h : IsTab K w a l) (x : Str) : RR.WDct K w a x ((tabO l x).map V.str) := by
  obtain ⟨es, n, hl, hk, hd, hp⟩ := h
  refine ⟨es, n, _, hl, hk, hd, ?_, isTab_find hp x⟩
  unfold PySem.W.nsIn
  rw [hl]
  have hr : es.toList.any (fun e => e.refKey) = false := List.any_eq_false.mpr fun e he => by
    obtain ⟨y, t, e1, _⟩ := hk.all e he
    unfold DictEntry.refKey
    rw [e1]
    exact Bool.false_ne_true
  show (match es.toList.find? (fun e => e.key.isStr x) with | some e => some (some e.val) | none => if es.toList.any (fun e => e.refKey) = true then none else some none) = some ((es.toList.find? fun d => d.key.isStr x).map (·.val))
  cases es.toList.find? (fun e => e.key.isStr x) with
  | some e => rfl
  | none => rw [hr]; rfl
theorem gd_wget {a : Addr} {l : List (Str × Str)} {x : Str} (h : IsTab K w a l) (g : GD K te σ H A (.str x)) : GD K (RR.tWGet1 K w (tC (.ref a)) te) σ H A (oD (tabO l x)) := fun H0 H1 e Q q => by
  obtain ⟨es, n, hl, hk, hd, hp⟩ := id h
  refine ⟨a, rfl, ⟨es, n, hl, hd⟩, g.to e fun v G H2 p dv => ⟨x, _, Dv.str_inv dv, isTab_w h x, ?_⟩⟩
  have e2 : Dv K G ((Option.map V.str (tabO l x)).getD V.non) (oD (tabO l x)) := by
    cases tabO l x with
    | none => exact .non
    | some y => exact .str y
  exact q _ G H2 p e2
end
end DL
end
section
set_option Elab.async false
set_option linter.all false
set_option maxRecDepth 100000
set_option maxHeartbeats 4000000
/-! tests of queries as data -/
namespace LM
open PySem DL
inductive Tst
  | leaf (w : Str) (as : List Str)
  | un (w : Str) (t : Tst)
  | many (w : Str) (ts : List Tst)
namespace Tst
mutual
def toD : Tst → PyData
  | leaf w as => .tuple (.str w :: as.map .str)
  | un w t => .tuple [.str w, toD t]
  | many w ts => .tuple [.str w, .tuple (toDs ts)]
def toDs : List Tst → List PyData
  | [] => []
  | t :: ts => toD t :: toDs ts
end
theorem toDs_eq : ∀ ts : List Tst, toDs ts = ts.map toD
  | [] => rfl
  | t :: ts => by rw [toDs, toDs_eq ts]; rfl
theorem toD_leaf {w : Str} {as : List Str} : toD (leaf w as) = .tuple (.str w :: as.map .str) := by rw [toD]
theorem toD_un {w : Str} {t : Tst} : toD (un w t) = .tuple [.str w, toD t] := by rw [toD]
theorem toD_many {w : Str} {ts : List Tst} : toD (many w ts) = .tuple [.str w, .tuple (ts.map toD)] := by rw [toD, toDs_eq]
end Tst
def dAt (ds : List Int) (i : Nat) : Int := ds.getD i 0
def sAt (l : List Str) (i : Int) : Str := l.getD i.toNat ""
theorem sAt_all {l : List Str} {p : Str → Prop} (h : ∀ x ∈ l, p x) (hd : p "") (i : Int) : p (sAt l i) := by
  unfold sAt
  rw [List.getD_eq_getElem?_getD]
  cases e : l[i.toNat]? with
  | none => exact hd
  | some x => exact h x (List.mem_of_getElem? e)
def ownT (ds : List Int) : Tst :=
  let way := dAt ds 0 % 9
  if way < 3 then .leaf "name" [sAt ["a", "b", "c"] (dAt ds 1 % 3)]
  else if way = 3 then .leaf "mark" [sAt ["m", "n"] (dAt ds 1 % 2)]
  else if way < 6 then .leaf "value" [sAt ["m", "n"] (dAt ds 1 % 2), sAt ["", "1", "x"] (dAt ds 2 % 3)]
  else if way = 6 then .leaf "text" [sAt ["x", "y", ""] (dAt ds 1 % 3)]
  else if way = 7 then .leaf "any" [] else .leaf "first" []
def rot (k : Nat) (ds : List Int) : List Int := ds.drop k ++ ds.take k
def lawT : Nat → List Int → Bool → Tst
  | 0, ds, _ => ownT ds
  | n + 1, ds, back =>
    let way := dAt ds 3 % 14
    if way < 3 then ownT ds
    else if way < 5 then .un "not" (lawT n (rot 5 ds) back)
    else if way < 9 then .un (sAt ["under", "in", "next", "behind"] (way - 5)) (lawT n (rot 5 ds) back)
    else if way < 12 then .many (if way < 11 then "both" else "one") [lawT n (rot 5 ds) back, lawT n (rot 3 (rot 5 ds)) back]
    else if back = true then ownT ds
    else if way = 12 then .un (sAt ["over", "has"] (dAt ds 4 % 2)) (lawT n (rot 5 ds) back)
    else .leaf (sAt ["last", "empty"] (dAt ds 4 % 2)) []
theorem rot_len (k : Nat) (ds : List Int) (h : k ≤ ds.length) : (rot k ds).length = ds.length := by
  unfold rot
  rw [List.length_append, List.length_drop, List.length_take]
  omega
/-! ### what a test is -/
def ARGS : List (Str × Str) := [("any", ""), ("name", "n"), ("mark", "n"), ("value", "ns"), ("text", "s"), ("first", ""), ("last", ""), ("empty", ""), ("not", "t"), ("both", "p"), ("one", "p"), ("under", "t"), ("in", "t"), ("next", "t"), ("behind", "t"), ("over", "t"), ("has", "t")]
def lawL0 : List Str := ["any", "first", "last", "empty"]
def lawL1 : List Str := ["name", "mark"]
def lawL4 : List Str := ["both", "one"]
def lawL5 : List Str := ["not", "under", "in", "next", "behind", "over", "has"]
def lawKind (w : Str) : Nat := if w ∈ lawL0 then 0 else if w ∈ lawL1 then 1 else if w = "text" then 2 else if w = "value" then 3 else if w ∈ lawL4 then 4 else if w ∈ lawL5 then 5 else 6
def kindSig : Nat → Option Str
  | 0 => some ""
  | 1 => some "n"
  | 2 => some "s"
  | 3 => some "ns"
  | 4 => some "p"
  | 5 => some "t"
  | _ => none
theorem tab_kind (w : Str) : tabO ARGS w = kindSig (lawKind w) := by
  by_cases h : w ∈ ARGS.map (·.1)
  · simp only [ARGS, List.map_cons, List.map_nil, List.mem_cons, List.mem_nil_iff, or_false] at h
    rcases h with h | h | h | h | h | h | h | h | h | h | h | h | h | h | h | h | h <;> subst h <;> decide +kernel
  · have e1 : tabO ARGS w = none := by
      unfold tabO
      rw [List.find?_eq_none.mpr fun p hp => ?_]; rfl
      intro z
      exact h (List.mem_map.mpr ⟨p, hp, of_decide_eq_true z⟩)
    have m : ∀ l : List Str, (∀ x ∈ l, x ∈ ARGS.map (·.1)) → w ∉ l := fun l hl z => h (hl w z)
    have e2 : lawKind w = 6 := by
      unfold lawKind
      rw [if_neg (m lawL0 (by decide +kernel)), if_neg (m lawL1 (by decide +kernel)), if_neg (fun z => m ["text"] (by decide +kernel) (by rw [z]; simp)), if_neg (fun z => m ["value"] (by decide +kernel) (by rw [z]; simp)), if_neg (m lawL4 (by decide +kernel)), if_neg (m lawL5 (by decide +kernel))]
    rw [e1, e2]; rfl
/-- of a text: short, without the percent sign -/
def clS (s : Str) : Prop := s.length ≤ 1000 ∧ ∀ c ∈ s.cps.toList, c ≠ 37 ∧ c < 0x110000
def strOk (d : PyData) : Prop := ∀ s, d = .str s → clS s
def Cl : Nat → PyData → Prop
  | 0, _ => True
  | n + 1, d => strOk d ∧ match d with
    | .none => True
    | .bool _ => True
    | .int _ => True
    | .str _ => True
    | .list ds => ds.length ≤ 1000
    | .tuple [] => True
    | .tuple (.str w :: r) => clS w ∧ r.length ≤ 1000 ∧ ∀ x ∈ r, strOk x ∧ if lawKind w = 4 then ∀ ys, x = .tuple ys → ys.length ≤ 1000 ∧ ∀ y ∈ ys, Cl n y else Cl n x
    | .tuple (.int _ :: r) => r.length ≤ 1000
    | _ => False
instance (s : Str) : Decidable (clS s) := inferInstanceAs (Decidable (s.length ≤ 1000 ∧ ∀ c ∈ s.cps.toList, c ≠ 37 ∧ c < 0x110000))
def Clean0 (d : PyData) : Prop := ∀ n, Cl n d
theorem clean0_un {w : Str} {d : PyData} (hw : clS w) (h4 : lawKind w ≠ 4) (hd : Clean0 d) : Clean0 (.tuple [.str w, d])
  | 0 => trivial
  | n + 1 => ⟨(fun s e => nomatch e), hw, by show 1 ≤ 1000; decide, fun x hx => by
    rw [List.mem_singleton.mp hx, if_neg h4]
    refine ⟨fun s e => ?_, hd n⟩
    exact (hd 1).1 s e⟩
theorem clean0_strs {w : Str} {as : List Str} (hw : clS w) (h4 : lawKind w ≠ 4) (hl : as.length ≤ 1000) (ha : ∀ a ∈ as, clS a) : Clean0 (.tuple (.str w :: as.map .str))
  | 0 => trivial
  | n + 1 => ⟨(fun s e => nomatch e), hw, by rw [List.length_map]; exact hl, fun x hx => by
    obtain ⟨a, h, rfl⟩ := List.mem_map.mp hx
    have z : strOk (.str a) := fun s e => by cases e; exact ha a h
    rw [if_neg h4]
    refine ⟨z, ?_⟩
    cases n with
    | zero => trivial
    | succ n => exact ⟨z, trivial⟩⟩
theorem clean0_many {w : Str} {ds : List PyData} (hw : clS w) (h4 : lawKind w = 4) (hl : ds.length ≤ 1000) (ha : ∀ a ∈ ds, Clean0 a) : Clean0 (.tuple [.str w, .tuple ds])
  | 0 => trivial
  | n + 1 => ⟨(fun s e => nomatch e), hw, by show 1 ≤ 1000; decide, fun x hx => by
    rw [List.mem_singleton.mp hx, if_pos h4]
    exact ⟨(fun s e => nomatch e), fun ys e => by cases e; exact ⟨hl, fun y hy => ha y hy n⟩⟩⟩
theorem clean0_str {s : Str} (h : clS s) : Clean0 (.str s)
  | 0 => trivial
  | n + 1 => ⟨fun s e => by cases e; exact h, trivial⟩
theorem clean0_int {i : Int} : Clean0 (.int i)
  | 0 => trivial
  | n + 1 => ⟨fun s e => (nomatch e), trivial⟩
theorem clean0_lst {ds : List PyData} (h : ds.length ≤ 1000) : Clean0 (.list ds)
  | 0 => trivial
  | n + 1 => ⟨fun s e => (nomatch e), h⟩
theorem clean0_nil : Clean0 (.tuple [])
  | 0 => trivial
  | n + 1 => ⟨fun s e => (nomatch e), trivial⟩
def Clean (d : PyData) : Prop := Clean0 d ∧ d.canLay0 = true
theorem lay_str {s : Str} (h : clS s) : (PyData.str s).canLay0 = true := by
  unfold PyData.canLay0 PyData.strOk
  rw [← Array.all_toList]
  exact List.all_eq_true.mpr fun c hc => decide_eq_true (h.2 c hc).2
theorem lay_all : ∀ {ds : List PyData}, (∀ d ∈ ds, d.canLay0 = true) → PyData.canLayAll0 ds = true
  | [], _ => by unfold PyData.canLayAll0; rfl
  | d :: ds, h => by
    unfold PyData.canLayAll0
    rw [h d List.mem_cons_self, lay_all fun x hx => h x (List.mem_cons_of_mem _ hx)]; rfl
theorem lay_tup {ds : List PyData} (h : ∀ d ∈ ds, d.canLay0 = true) : (PyData.tuple ds).canLay0 = true := by unfold PyData.canLay0; exact lay_all h
theorem lay_lst {ds : List PyData} (h : ∀ d ∈ ds, d.canLay0 = true) : (PyData.list ds).canLay0 = true := by unfold PyData.canLay0; exact lay_all h
theorem lay_inv : ∀ {ds : List PyData}, PyData.canLayAll0 ds = true → ∀ d ∈ ds, d.canLay0 = true
  | [], _, _, h => nomatch h
  | d :: ds, h, x, hx => by
    unfold PyData.canLayAll0 at h
    rw [Bool.and_eq_true] at h
    rcases List.mem_cons.mp hx with rfl | hx
    · exact h.1
    · exact lay_inv h.2 x hx
theorem lay_tup_inv {ds : List PyData} (h : (PyData.tuple ds).canLay0 = true) : ∀ d ∈ ds, d.canLay0 = true := by unfold PyData.canLay0 at h; exact lay_inv h
theorem clean_un {w : Str} {d : PyData} (hw : clS w) (h4 : lawKind w ≠ 4) (hd : Clean d) : Clean (.tuple [.str w, d]) := ⟨clean0_un hw h4 hd.1, lay_tup fun x hx => by
  simp only [List.mem_cons, List.mem_nil_iff, or_false] at hx
  rcases hx with rfl | rfl
  · exact lay_str hw
  · exact hd.2⟩
theorem clean_strs {w : Str} {as : List Str} (hw : clS w) (h4 : lawKind w ≠ 4) (hl : as.length ≤ 1000) (ha : ∀ a ∈ as, clS a) : Clean (.tuple (.str w :: as.map .str)) := ⟨clean0_strs hw h4 hl ha, lay_tup fun x hx => by
  rcases List.mem_cons.mp hx with rfl | hx
  · exact lay_str hw
  · obtain ⟨a, h, rfl⟩ := List.mem_map.mp hx
    exact lay_str (ha a h)⟩
theorem clean_many {w : Str} {ds : List PyData} (hw : clS w) (h4 : lawKind w = 4) (hl : ds.length ≤ 1000) (ha : ∀ a ∈ ds, Clean a) : Clean (.tuple [.str w, .tuple ds]) := ⟨clean0_many hw h4 hl fun a h => (ha a h).1, lay_tup fun x hx => by
  simp only [List.mem_cons, List.mem_nil_iff, or_false] at hx
  rcases hx with rfl | rfl
  · exact lay_str hw
  · exact lay_tup fun a h => (ha a h).2⟩
theorem clean_str {s : Str} (h : clS s) : Clean (.str s) := ⟨clean0_str h, lay_str h⟩
theorem clean_int {i : Int} : Clean (.int i) := ⟨clean0_int, by unfold PyData.canLay0; rfl⟩
theorem clean_lst {ds : List PyData} (h : ds.length ≤ 1000) (ha : ∀ a ∈ ds, a.canLay0 = true) : Clean (.list ds) := ⟨clean0_lst h, lay_lst ha⟩
theorem clean_nil : Clean (.tuple []) := ⟨clean0_nil, lay_tup fun _ h => nomatch h⟩
theorem clean_own (ds : List Int) : Clean (ownT ds).toD := by
  have p : ∀ {l : List Str} {i : Int}, (∀ x ∈ l, clS x) → clS (sAt l i) := fun h => sAt_all h (by decide +kernel) _
  unfold ownT
  dsimp only
  split
  · rw [Tst.toD_leaf]
    exact clean_strs (by decide +kernel) (by decide +kernel) (by show 1 ≤ 1000; decide) fun a ha => by rw [List.mem_singleton.mp ha]; exact p (by decide +kernel)
  split
  · rw [Tst.toD_leaf]
    exact clean_strs (by decide +kernel) (by decide +kernel) (by show 1 ≤ 1000; decide) fun a ha => by rw [List.mem_singleton.mp ha]; exact p (by decide +kernel)
  split
  · rw [Tst.toD_leaf]
    refine clean_strs (by decide +kernel) (by decide +kernel) (by show 2 ≤ 1000; decide) fun a ha => ?_
    simp only [List.mem_cons, List.mem_nil_iff, or_false] at ha
    rcases ha with rfl | rfl
    · exact p (by decide +kernel)
    · exact p (by decide +kernel)
  split
  · rw [Tst.toD_leaf]
    exact clean_strs (by decide +kernel) (by decide +kernel) (by show 1 ≤ 1000; decide) fun a ha => by rw [List.mem_singleton.mp ha]; exact p (by decide +kernel)
  split
  · rw [Tst.toD_leaf]
    exact clean_strs (by decide +kernel) (by decide +kernel) (by show 0 ≤ 1000; decide) fun a ha => nomatch ha
  · rw [Tst.toD_leaf]
    exact clean_strs (by decide +kernel) (by decide +kernel) (by show 0 ≤ 1000; decide) fun a ha => nomatch ha
theorem clean_lawT : ∀ (n : Nat) (ds : List Int) (b : Bool), Clean (lawT n ds b).toD
  | 0, ds, _ => clean_own ds
  | n + 1, ds, b => by
    have p : ∀ {l : List Str} {i : Int}, (∀ x ∈ l, clS x) → clS (sAt l i) := fun h => sAt_all h (by decide +kernel) _
    have q : ∀ {l : List Str} {i : Int}, (∀ x ∈ l, lawKind x ≠ 4) → lawKind (sAt l i) ≠ 4 := fun h => sAt_all (p := fun x => lawKind x ≠ 4) h (by decide +kernel) _
    have ih := clean_lawT n
    unfold lawT
    dsimp only
    split
    · exact clean_own ds
    split
    · rw [Tst.toD_un]; exact clean_un (by decide +kernel) (by decide +kernel) (ih _ _)
    split
    · rw [Tst.toD_un]; exact clean_un (p (by decide +kernel)) (q (by decide +kernel)) (ih _ _)
    split
    · rw [Tst.toD_many]
      refine clean_many ?_ ?_ (by show 2 ≤ 1000; decide) fun a ha => ?_
      · split <;> decide +kernel
      · split <;> decide +kernel
      · obtain ⟨t, ht, rfl⟩ := List.mem_map.mp ha
        simp only [List.mem_cons, List.mem_nil_iff, or_false] at ht
        rcases ht with rfl | rfl <;> exact ih _ _
    split
    · exact clean_own ds
    split
    · rw [Tst.toD_un]; exact clean_un (p (by decide +kernel)) (q (by decide +kernel)) (ih _ _)
    · rw [Tst.toD_leaf]; exact clean_strs (p (by decide +kernel)) (q (by decide +kernel)) (by show 0 ≤ 1000; decide) fun a ha => nomatch ha
end LM
end
section
set_option Elab.async false
set_option linter.all false
set_option maxRecDepth 100000
set_option maxHeartbeats 4000000
namespace RR
open PySem PySem.Spec PyProof.Rows L2
/-- a text times an int -/
def rMulS : R2 := fun x y H Q => ∃ z n, x = .str z ∧ y = .int n ∧ MulOk z n ∧ Q (.str (Txt.mul z n)) H
theorem op_mulS {X : Cx} : OpR X (binaryOp .Mult) rMulS := by
  intro pins s σ H x y v u Q I rx ry h
  obtain ⟨z, n, rfl, rfl, ok, q⟩ := h
  obtain ⟨t, rfl⟩ := rx
  obtain ⟨t', rfl⟩ := ry
  exact SB.mul ok fun t2 k => ⟨.str _, H, I.tok _, ⟨t2, rfl⟩, q⟩
end RR
namespace DL
open PySem PySem.Spec PyProof.Rows L2
section
variable {K : PySem.W.Frag} {A H : Hp} {σ : L2.St} {te tn : TE} {ds : List PyData}
theorem go_mulS {z : Str} {n : Int} (h : MulOk z n) : GO K RR.rMulS (.str z) (.int n) (.str (Txt.mul z n)) := fun H H1 G H2 v w Q p dx dy q => ⟨z, n, Dv.str_inv dx, Dv.int_inv dy, h, q _ G H2 p (.str _)⟩
theorem DvA.rep {G : Hp} {vs : List V} {es : List PyData} (h : DvA K G vs es) : ∀ k : Nat, DvA K G (List.replicate k vs).flatten (List.replicate k es).flatten
  | 0 => .nil
  | k + 1 => by
    rw [List.replicate_succ, List.replicate_succ, List.flatten_cons, List.flatten_cons]
    exact h.app (DvA.rep h k)
theorem go_repT {k : Int} (hn : ds ≠ []) (h1 : 2 ≤ k) (h2 : k ≤ 1000) (hl : ds.length ≤ 1000) (hp : pairsB (List.replicate k.toNat ds).flatten = false) : GO K (rRepT K) (.tuple ds) (.int k) (.tuple (List.replicate k.toNat ds).flatten) := fun H H1 G H2 v w Q p dx dy q => by
  obtain ⟨a, xs, rfl, s, da⟩ := Dv.tup_inv dx
  have l := DvA.len da
  exact ⟨a, k, xs, rfl, Dv.int_inv dy, seqT p.gh s, fun z => hn (by subst z; cases da; rfl), h1, h2, by omega, fun b hb => q (.ref b) _ _ (p.new hb _) (.tup (SqT.of upd_same) ((DvA.rep da _).to (same_new (p.gh.free hb) _)) hp)⟩
/-- one sign of a text -/
theorem go_ixS {x : Str} {i : Int} {c : Nat} (z : x.length ≤ sizeLine) (h : atI x.cps.toList i = some c) : GO K (rIx K) (.str x) (.int i) (.str ⟨#[c]⟩) := fun H H1 G H2 v w Q p dx dy q => .inr (.inr ⟨x, i, c, Dv.str_inv dx, Dv.int_inv dy, z, h, q _ G H2 p (.str _)⟩)
/-- == of data, one of which is not deep -/
def rEqN (K : PySem.W.Frag) : R2 := fun x y H Q => ∃ d e, Dp K H x d ∧ Dp K H y e ∧ d.canLay0 = true ∧ e.canLay0 = true ∧ min d.depth e.depth ≤ 64 ∧ Q (.bl (PyData.eqv d e)) H
theorem op_eqN {X : Cx} (hu : X.A.units + 64 < cLine) : OpR X (compareOp .Eq) (rEqN X.K) := by
  intro pins s σ H x y v u Q I rx ry h
  obtain ⟨d, e, hd, he, sd, se, hm, q⟩ := h
  obtain ⟨as, r1⟩ := Dp.reads I d x v hd rx
  obtain ⟨bs, r2⟩ := Dp.reads I e y u he ry
  exact SeqAt.compareEq_reads r1 r2 sd se (by omega) ⟨.bl _, H, I, rfl, q⟩
def rNeN (K : PySem.W.Frag) : R2 := fun x y H Q => ∃ d e, Dp K H x d ∧ Dp K H y e ∧ d.canLay0 = true ∧ e.canLay0 = true ∧ min d.depth e.depth ≤ 64 ∧ Q (.bl (!PyData.eqv d e)) H
theorem go_eqN_ {d1 d2 : PyData} (s1 : d1.canLay0 = true) (s2 : d2.canLay0 = true) (hm : min d1.depth d2.depth ≤ 64) : GO K (rEqN K) d1 d2 (.bool (PyData.eqv d1 d2)) := fun H H1 G H2 v w Q p dx dy q =>
  ⟨d1, d2, dv_dp _ _ (Dv.to dx p.gh), dv_dp _ _ (Dv.to dy p.gh), s1, s2, hm, q _ G H2 p (.bl _)⟩
def rNinS : R2 := fun x y H Q => ∃ (c : Nat) (z : Str), x = .str ⟨#[c]⟩ ∧ y = .str z ∧ Q (.bl (!decide (c ∈ z.cps.toList))) H
theorem op_ninS {X : Cx} : OpR X (compareOp .NotIn) rNinS := op_notIn_sign
theorem go_ninS {c : Nat} {z : Str} : GO K rNinS (.str ⟨#[c]⟩) (.str z) (.bool (!decide (c ∈ z.cps.toList))) := fun H H1 G H2 v w Q p dx dy q => ⟨c, z, Dv.str_inv dx, Dv.str_inv dy, q _ G H2 p (.bl _)⟩
end
end DL
end
section
set_option Elab.async false
set_option linter.all false
set_option maxRecDepth 100000
set_option maxHeartbeats 4000000
namespace LW
open PySem PySem.Spec PyProof.Rows L2 DL LM
section
variable {P : Program} {W : World} {K : PySem.W.Frag} {mg : Str → Option Value} {base : Heap} {f : Addr} {fd : FuncData} {A A2 H H' H0 H1 H2 G G2 Hc : Hp} {σ : L2.St} {t te td tn tv t1 t2 : TE} {tr : TS} {ts : TS} {D : Ends} {tA : TA} {n i j : Nat} {p b : Addr} {xs ys : List V} {v : V} {d : PyData} {ds es : List PyData}
def intsD (ds : List Int) : PyData := .list (ds.map .int)
theorem qatI {l : List PyData} {k : Int} {d : PyData} (h0 : 0 ≤ k) (h : l[k.toNat]? = some d) : atI l k = some d := by
  have e : k = ((k.toNat : Nat) : Int) := by omega
  rw [e]
  exact atI_nat h
theorem gd_pickS {l : List Str} {k : Int} (g : GD K t1 σ H A (.list (l.map .str))) (g2 : GD K t2 σ H A (.int k)) (h0 : 0 ≤ k) (h1 : k < (l.length : Int)) : GD K (tOp (rIx K) t1 t2) σ H A (.str (sAt l k)) := by
  refine gdo g g2 (go_ixL (qatI h0 ?_))
  unfold sAt
  rw [List.getElem?_map, List.getD_eq_getElem?_getD, List.getElem?_eq_getElem (by omega : k.toNat < l.length)]
  rfl
theorem gd_sgn {x : Str} {l : List Str} {k : Int} (hl : sgs x = l) (z : x.length ≤ 1000) (g2 : GD K t2 σ H A (.int k)) (h0 : 0 ≤ k) (h1 : k < (l.length : Int)) : GD K (tOp (rIx K) (tC (.str x)) t2) σ H A (.str (sAt l k)) := by
  subst hl
  have hn : k.toNat < x.cps.toList.length := by
    have : (sgs x).length = x.cps.toList.length := by unfold sgs; rw [List.length_map]
    omega
  have e : sAt (sgs x) k = ⟨#[x.cps.toList[k.toNat]]⟩ := by
    unfold sAt sgs
    rw [List.getD_eq_getElem?_getD, List.getElem?_map, List.getElem?_eq_getElem hn]
    rfl
  rw [e]
  refine gdo gd_str g2 (go_ixS (Nat.le_trans z (by rw [sizeLine_eq]; decide)) ?_)
  have e2 : ((k.toNat : Nat) : Int) = k := by omega
  have h := atI_nat (xs := x.cps.toList) (j := k.toNat) (List.getElem?_eq_getElem hn)
  rw [e2] at h
  exact h
theorem gd_draw {ds : List Int} {j : Nat} (i : Nat) (h2 : σ[j]? = some (some v)) (d2 : Dv K H v (intsD ds)) (h : i < ds.length) : GD K (tOp (rIx K) (tVar j) (tC (.int (i : Int)))) σ H A (.int (dAt ds i)) := by
  refine gdo (gd_var h2 d2) gd_int (go_ixL (qatI (by omega) ?_))
  unfold dAt
  rw [List.getElem?_map, List.getD_eq_getElem?_getD, Int.toNat_natCast, List.getElem?_eq_getElem h]
  rfl
theorem gd_drawI {ds : List Int} {j : Nat} (i : Nat) (h2 : σ[j]? = some (some v)) (d2 : Dv K H v (intsD ds)) (h : i < ds.length) : GD K (tCB rInt (tCons (tOp (rIx K) (tVar j) (tC (.int (i : Int)))) tNil)) σ H A (.int (dAt ds i)) := gd_cb (ga_cons (gd_draw i h2 d2 h) ga_nil) gc_int
theorem gd_mod {c : Int} {b : Int} (g : GD K te σ H A (.int c)) (hb : 0 < b) : GD K (tOp (rI (fun _ j => 0 < j) fun i j => .int (i % j)) te (tC (.int b))) σ H A (.int (c % b)) := gdo g gd_int (go_ic hb)
theorem qcut_to {l : List Int} {a : Nat} (h : a ≤ l.length) : DL.cutD (l.map PyData.int) none (some (a : Int)) = (l.take a).map .int := by
  unfold DL.cutD
  rw [HT.sIx_none, HT.sIx_nat, List.length_map, Nat.min_eq_left h, List.drop_zero, Nat.sub_zero, List.map_take]
theorem qcut_from {l : List Int} {a : Nat} (h : a ≤ l.length) : DL.cutD (l.map PyData.int) (some (a : Int)) none = (l.drop a).map .int := by
  unfold DL.cutD
  rw [HT.sIx_none, HT.sIx_nat, List.length_map, Nat.min_eq_left h, ← List.map_drop, List.take_of_length_le (by rw [List.length_map, List.length_drop]; omega)]
/-- draws[k:] + draws[:k] -/
theorem gd_rot {ds : List Int} {j : Nat} (k : Nat) (h2 : σ[j]? = some (some v)) (d2 : Dv K H v (intsD ds)) (h : k ≤ ds.length) (z : ds.length ≤ 1000) : GD K (tOp (rAddA K) (tSl (rSlD K) (tVar j) (tPart (tC (.int (k : Int)))) tNoPart) (tSl (rSlD K) (tVar j) tNoPart (tPart (tC (.int (k : Int)))))) σ H A (intsD (rot k ds)) := by
  have g1 := gd_slL (K := K) (σ := σ) (H := H) (A := A) (gd_var h2 d2) (gp_some (K := K) (gd_int (i := (k : Int)))) gp_none
  have g2 := gd_slL (K := K) (σ := σ) (H := H) (A := A) (gd_var h2 d2) gp_none (gp_some (K := K) (gd_int (i := (k : Int))))
  rw [qcut_from h] at g1
  rw [qcut_to h] at g2
  have g := gdo g1 g2 (go_addL (by rw [List.length_map, List.length_map, List.length_drop, List.length_take, sizeLine_eq]; omega))
  rw [← List.map_append] at g
  exact g
def arDw : List Int → List PyData := fun ds => [intsD ds]
def preDw (ds : List Int) : Prop := 9 ≤ ds.length ∧ ds.length ≤ 100
abbrev s_law_own_test : Stmt := topS 14
theorem sc_law_own_test : FnScope ["draws", "way"] ["draws"] (defScope s_law_own_test) := ⟨rfl, rfl, rfl, by decide +kernel, rfl, by decide +kernel, by decide +kernel⟩
theorem ok_own_test (T : Bt mg) (F : Fun K "_law_own_test" "_law_own_test" s_law_own_test f fd) : FnOk P W K mg base CX0 1 f fd ["draws"] (spA K 1 arDw preDw fun ds => (ownT ds).toD) := by
  refine fn_A F sc_law_own_test rfl fun cdv A outer s H1 E hr => ⟨_, (pss_cons (ps_set (i := 1) sc_law_own_test.nd rfl (Or.inl rfl) (pe_op op_mod (pe_callTy cr_int (by rfl) T.int (by decide +kernel) (pa_cons (pe_ix ix_seq (pv 0) pe_int (fun _ _ => rfl)) pa_nil)) pe_int))
      (pss_cons (ps_if (pt_cmpR op_ltA (pv 1) pe_int (nomark _)) (pss_one (ps_ret (RR.pe_tupF (pa_cons pe_str (pa_cons (pe_ix ix_seq pe_str (pe_op op_mod (pe_callTy cr_int (by rfl) T.int (by decide +kernel) (pa_cons (pe_ix ix_seq (pv 0) pe_int (fun _ _ => rfl)) pa_nil)) pe_int) (fun _ _ => rfl)) pa_nil))))) pss_nil)
      (pss_cons (ps_if (pt_cmpR (op_eqA hr.units) (pv 1) pe_int (nomark _)) (pss_one (ps_ret (RR.pe_tupF (pa_cons pe_str (pa_cons (pe_ix ix_seq pe_str (pe_op op_mod (pe_callTy cr_int (by rfl) T.int (by decide +kernel) (pa_cons (pe_ix ix_seq (pv 0) pe_int (fun _ _ => rfl)) pa_nil)) pe_int) (fun _ _ => rfl)) pa_nil))))) pss_nil)
      (pss_cons (ps_if (pt_cmpR op_ltA (pv 1) pe_int (nomark _)) (pss_one (ps_ret (RR.pe_tupF (pa_cons pe_str (pa_cons (pe_ix ix_seq pe_str (pe_op op_mod (pe_callTy cr_int (by rfl) T.int (by decide +kernel) (pa_cons (pe_ix ix_seq (pv 0) pe_int (fun _ _ => rfl)) pa_nil)) pe_int) (fun _ _ => rfl)) (pa_cons (pe_ix ix_seq (pe_lst (pa_cons pe_str (pa_cons pe_str (pa_cons pe_str pa_nil)))) (pe_op op_mod (pe_callTy cr_int (by rfl) T.int (by decide +kernel) (pa_cons (pe_ix ix_seq (pv 0) pe_int (fun _ _ => rfl)) pa_nil)) pe_int) (fun _ _ => rfl)) pa_nil)))))) pss_nil)
      (pss_cons (ps_if (pt_cmpR (op_eqA hr.units) (pv 1) pe_int (nomark _)) (pss_one (ps_ret (RR.pe_tupF (pa_cons pe_str (pa_cons (pe_ix ix_seq (pe_lst (pa_cons pe_str (pa_cons pe_str (pa_cons pe_str pa_nil)))) (pe_op op_mod (pe_callTy cr_int (by rfl) T.int (by decide +kernel) (pa_cons (pe_ix ix_seq (pv 0) pe_int (fun _ _ => rfl)) pa_nil)) pe_int) (fun _ _ => rfl)) pa_nil))))) pss_nil)
      (pss_one (ps_ret (pe_ifExp (pt_cmpR (op_eqA hr.units) (pv 1) pe_int (nomark _)) (RR.pe_tupF (pa_cons pe_str pa_nil)) (RR.pe_tupF (pa_cons pe_str pa_nil)))))))))), fun vs ds H A hl sm dv hp => ?_⟩
  obtain ⟨h9, hz⟩ := hp
  obtain ⟨v, rfl, d1⟩ := DvA.inv1 dv
  refine gb_set (d := .int (dAt ds 0 % 9)) (gd_mod (gd_drawI 0 rfl d1 (by omega)) (by decide)) fun v1 G1 H1 p1 dv1 => ?_
  have e1 := Dv.int_inv dv1
  subst e1
  have d1' := d1.to p1.hg
  obtain ⟨way, hw⟩ : ∃ w, w = dAt ds 0 % 9 := ⟨_, rfl⟩
  rw [← hw]
  have gw : ∀ {G' H'}, GD K (tVar 1) [some v, some (.int way)] G' H' (.int way) := gd_var (i := 1) rfl (.int _)
  have m3 : ∀ i : Int, 0 ≤ i % 3 ∧ i % 3 < 3 := fun i => by omega
  have m2 : ∀ i : Int, 0 ≤ i % 2 ∧ i % 2 < 2 := fun i => by omega
  refine gb_if (gt_test (gdo gw gd_int go_ltI)) (fun c => ?_) fun c => ?_
  · refine gb_ret (gd_tup (ga_cons gd_str (ga_cons (gd_sgn (l := ["a", "b", "c"]) (by decide +kernel) (by decide +kernel) (gd_mod (gd_drawI 1 rfl d1' (by omega)) (by decide)) (m3 _).1 (m3 _).2) ga_nil))) ?_
    unfold ownT
    dsimp only
    rw [← hw, if_pos (of_decide_eq_true c), Tst.toD_leaf]; rfl
  have n1 : ¬ way < 3 := of_decide_eq_false c
  refine gb_if (gt_test (gdo gw gd_int go_eqI)) (fun c => ?_) fun c => ?_
  · refine gb_ret (gd_tup (ga_cons gd_str (ga_cons (gd_sgn (l := ["m", "n"]) (by decide +kernel) (by decide +kernel) (gd_mod (gd_drawI 1 rfl d1' (by omega)) (by decide)) (m2 _).1 (m2 _).2) ga_nil))) ?_
    unfold ownT
    dsimp only
    rw [← hw, if_neg n1, if_pos (of_decide_eq_true c), Tst.toD_leaf]; rfl
  have n2 : ¬ way = 3 := of_decide_eq_false c
  refine gb_if (gt_test (gdo gw gd_int go_ltI)) (fun c => ?_) fun c => ?_
  · refine gb_ret (gd_tup (ga_cons gd_str (ga_cons (gd_sgn (l := ["m", "n"]) (by decide +kernel) (by decide +kernel) (gd_mod (gd_drawI 1 rfl d1' (by omega)) (by decide)) (m2 _).1 (m2 _).2) (ga_cons (gd_pickS (l := ["", "1", "x"]) (gd_lst (ga_cons gd_str (ga_cons gd_str (ga_cons gd_str ga_nil)))) (gd_mod (gd_drawI 2 rfl d1' (by omega)) (by decide)) (m3 _).1 (m3 _).2) ga_nil)))) ?_
    unfold ownT
    dsimp only
    rw [← hw, if_neg n1, if_neg n2, if_pos (of_decide_eq_true c), Tst.toD_leaf]; rfl
  have n3 : ¬ way < 6 := of_decide_eq_false c
  refine gb_if (gt_test (gdo gw gd_int go_eqI)) (fun c => ?_) fun c => ?_
  · refine gb_ret (gd_tup (ga_cons gd_str (ga_cons (gd_pickS (l := ["x", "y", ""]) (gd_lst (ga_cons gd_str (ga_cons gd_str (ga_cons gd_str ga_nil)))) (gd_mod (gd_drawI 1 rfl d1' (by omega)) (by decide)) (m3 _).1 (m3 _).2) ga_nil))) ?_
    unfold ownT
    dsimp only
    rw [← hw, if_neg n1, if_neg n2, if_neg n3, if_pos (of_decide_eq_true c), Tst.toD_leaf]; rfl
  have n4 : ¬ way = 6 := of_decide_eq_false c
  refine gb_ret (d := (ownT ds).toD) (gd_if (gt_test (gdo gw gd_int go_eqI)) (fun c => ?_) fun c => ?_) rfl
  · have e : (ownT ds).toD = .tuple [.str "any"] := by
      unfold ownT
      dsimp only
      rw [← hw, if_neg n1, if_neg n2, if_neg n3, if_neg n4, if_pos (of_decide_eq_true c), Tst.toD_leaf]; rfl
    rw [e]
    exact gd_tup (ga_cons gd_str ga_nil)
  · have e : (ownT ds).toD = .tuple [.str "first"] := by
      unfold ownT
      dsimp only
      rw [← hw, if_neg n1, if_neg n2, if_neg n3, if_neg n4, if_neg (of_decide_eq_false c), Tst.toD_leaf]; rfl
    rw [e]
    exact gd_tup (ga_cons gd_str ga_nil)
def arLt : List Int × Nat × Bool → List PyData := fun x => [intsD x.1, ofN x.2.1, .bool x.2.2]
def preLt (j : Nat) (x : List Int × Nat × Bool) : Prop := preDw x.1 ∧ x.2.1 < j
abbrev s_law_test : Stmt := topS 15
theorem sc_law_test : FnScope ["draws", "deep", "back", "way", "more", "rest", "parts"] ["draws", "deep", "back"] (defScope s_law_test) := ⟨rfl, rfl, rfl, by decide +kernel, rfl, by decide +kernel, by decide +kernel⟩
theorem ok_law_test_step {j : Nat} (T : Bt mg) (F : Fun K "_law_test" "_law_test" s_law_test f fd) (c_law_own_test : Cal P W K mg base 1 "_law_own_test" (spA K 1 arDw preDw fun ds => (ownT ds).toD)) (c_law_test : Cal P W K mg base (j + 1) "_law_test" (spA K 3 arLt (preLt j) fun x => (lawT x.2.1 x.1 x.2.2).toD)) : FnOk P W K mg base CX0 (j + 2) f fd ["draws", "deep", "back"] (spA K 3 arLt (preLt (j + 1)) fun x => (lawT x.2.1 x.1 x.2.2).toD) := by
  refine fn_A F sc_law_test rfl fun cdv A outer s H1 E hr => ⟨_, (pss_cons (ps_set (i := 3) sc_law_test.nd rfl (Or.inl rfl) (pe_op op_mod (pe_callTy cr_int (by rfl) T.int (by decide +kernel) (pa_cons (pe_ix ix_seq (pv 0) pe_int (fun _ _ => rfl)) pa_nil)) pe_int))
      (pss_cons (ps_if (PW.pt (pw_or (pt_cmpR (op_eqA hr.units) (pv 1) pe_int (nomark _)) (pw_or1 (pt_cmpR op_ltA (pv 3) pe_int (nomark _))))) (pss_one (ps_ret (pe_k c_law_own_test hr (by omega) (pa_cons (pv 0) pa_nil)))) pss_nil)
      (pss_cons (ps_set (i := 4) sc_law_test.nd rfl (Or.inl rfl) (pe_op op_addA (pe_slice sl_D (pv 0) (po_some pe_int) po_none) (pe_slice sl_D (pv 0) po_none (po_some pe_int))))
      (pss_cons (ps_if (pt_cmpR op_ltA (pv 3) pe_int (nomark _)) (pss_one (ps_ret (RR.pe_tupF (pa_cons pe_str (pa_cons (pe_k c_law_test hr (by omega) (pa_cons (pv 4) (pa_cons (pe_op op_sub (pv 1) pe_int) (pa_cons (pv 2) pa_nil)))) pa_nil))))) pss_nil)
      (pss_cons (ps_if (pt_cmpR op_ltA (pv 3) pe_int (nomark _)) (pss_one (ps_ret (RR.pe_tupF (pa_cons (pe_ix ix_seq (pe_lst (pa_cons pe_str (pa_cons pe_str (pa_cons pe_str (pa_cons pe_str pa_nil))))) (pe_op op_sub (pv 3) pe_int) (fun _ _ => rfl)) (pa_cons (pe_k c_law_test hr (by omega) (pa_cons (pv 4) (pa_cons (pe_op op_sub (pv 1) pe_int) (pa_cons (pv 2) pa_nil)))) pa_nil))))) pss_nil)
      (pss_cons (ps_if (pt_cmpR op_ltA (pv 3) pe_int (nomark _)) (pss_cons (ps_set (i := 5) sc_law_test.nd rfl (Or.inl rfl) (pe_op op_addA (pe_slice sl_D (pv 4) (po_some pe_int) po_none) (pe_slice sl_D (pv 4) po_none (po_some pe_int))))
      (pss_cons (ps_set (i := 6) sc_law_test.nd rfl (Or.inl rfl) (RR.pe_tupF (pa_cons (pe_k c_law_test hr (by omega) (pa_cons (pv 4) (pa_cons (pe_op op_sub (pv 1) pe_int) (pa_cons (pv 2) pa_nil)))) (pa_cons (pe_k c_law_test hr (by omega) (pa_cons (pv 5) (pa_cons (pe_op op_sub (pv 1) pe_int) (pa_cons (pv 2) pa_nil)))) pa_nil))))
      (pss_one (ps_ret (RR.pe_tupF (pa_cons (pe_ifExp (pt_cmpR op_ltA (pv 3) pe_int (nomark _)) pe_str pe_str) (pa_cons (pv 6) pa_nil))))))) pss_nil)
      (pss_cons (ps_if (pt_tr (pv 2)) (pss_one (ps_ret (pe_k c_law_own_test hr (by omega) (pa_cons (pv 0) pa_nil)))) pss_nil)
      (pss_cons (ps_if (pt_cmpR (op_eqA hr.units) (pv 3) pe_int (nomark _)) (pss_one (ps_ret (RR.pe_tupF (pa_cons (pe_ix ix_seq (pe_lst (pa_cons pe_str (pa_cons pe_str pa_nil))) (pe_op op_mod (pe_callTy cr_int (by rfl) T.int (by decide +kernel) (pa_cons (pe_ix ix_seq (pv 0) pe_int (fun _ _ => rfl)) pa_nil)) pe_int) (fun _ _ => rfl)) (pa_cons (pe_k c_law_test hr (by omega) (pa_cons (pv 4) (pa_cons (pe_op op_sub (pv 1) pe_int) (pa_cons (pv 2) pa_nil)))) pa_nil))))) pss_nil)
      (pss_one (ps_ret (RR.pe_tupF (pa_cons (pe_ix ix_seq (pe_lst (pa_cons pe_str (pa_cons pe_str pa_nil))) (pe_op op_mod (pe_callTy cr_int (by rfl) T.int (by decide +kernel) (pa_cons (pe_ix ix_seq (pv 0) pe_int (fun _ _ => rfl)) pa_nil)) pe_int) (fun _ _ => rfl)) pa_nil)))))))))))), fun vs x H A hl sm dv hp => ?_⟩
  obtain ⟨ds, n, bk⟩ := x
  obtain ⟨hd, hnj⟩ := hp
  have hnj : n < j + 1 := hnj
  obtain ⟨h9, hz⟩ := id hd
  have h9 : 9 ≤ ds.length := h9
  have hz : ds.length ≤ 100 := hz
  obtain ⟨v, u, w, rfl, d1, d2, d3⟩ := DvA.inv3 dv
  have e2 := Dv.int_inv d2
  have e3 := Dv.bl_inv d3
  subst e2 e3
  refine gb_set (d := .int (dAt ds 3 % 14)) (gd_mod (gd_drawI 3 rfl d1 (by omega)) (by decide)) fun v1 G1 H1 p1 dv1 => ?_
  have e1 := Dv.int_inv dv1
  subst e1
  have d1' := d1.to p1.hg
  obtain ⟨way, hw⟩ : ∃ w, w = dAt ds 3 % 14 := ⟨_, rfl⟩
  rw [← hw]
  have hw0 : 0 ≤ way ∧ way < 14 := by omega
  refine gb_if (gt_or (gt_test (gdo (K := K) (gd_var (i := 1) rfl (.int (n : Int))) gd_int go_eqI)) fun _ => gt_test (gdo (K := K) (gd_var (i := 3) rfl (.int way)) gd_int go_ltI)) (fun c => ?_) fun c => ?_
  · refine gb_ret (d := (ownT ds).toD) (gd_callA (ar := arDw) (f := fun ds => (ownT ds).toD) ds (ga_cons (gd_var (i := 0) rfl d1') ga_nil) rfl hd) ?_
    show _ = (lawT n ds bk).toD
    rcases (Bool.or_eq_true _ _).mp c with c | c
    · have : (n : Int) = 0 := of_decide_eq_true c
      have hn : n = 0 := by omega
      subst hn
      rfl
    · cases n with
      | zero => rfl
      | succ n =>
        unfold lawT
        dsimp only
        rw [← hw, if_pos (of_decide_eq_true c)]
  have cc := (Bool.or_eq_false_iff.mp c)
  have hn0 : ¬ (n : Int) = 0 := of_decide_eq_false cc.1
  have n1 : ¬ way < 3 := of_decide_eq_false cc.2
  obtain ⟨m, rfl⟩ : ∃ m, n = m + 1 := ⟨n - 1, by omega⟩
  refine gb_set (d := intsD (rot 5 ds)) (gd_rot 5 rfl d1' (by omega) (by omega)) fun v4 G4 H4 p4 dv4 => ?_
  have d1'' := d1'.to p4.hg
  have hr5 : preDw (rot 5 ds) := by
    unfold preDw
    rw [rot_len 5 ds (by omega)]
    exact ⟨h9, hz⟩
  have hr3 : preDw (rot 3 (rot 5 ds)) := by
    unfold preDw
    rw [rot_len 3 _ (by rw [rot_len 5 ds (by omega)]; omega), rot_len 5 ds (by omega)]
    exact ⟨h9, hz⟩
  have gsub : ∀ {σ : L2.St} {G' H' : Hp}, σ[1]? = some (some (.int ((m + 1 : Nat) : Int))) → GD K (tOp (rI0 fun i j => .int (i - j)) (tVar 1) (tC (.int 1))) σ G' H' (ofN m) := fun {σ G' H'} h => by
    have g := gdo (K := K) (σ := σ) (H := G') (A := H') (gd_var h (.int ((m + 1 : Nat) : Int))) (gd_int (i := 1)) (go_i2 (f := fun i j => i - j))
    have z : (((m + 1 : Nat) : Int) - 1) = (m : Int) := by omega
    rw [z] at g
    exact g
  have gcal : ∀ {σ : L2.St} {G' H' : Hp} {k : Nat} {ds' : List Int} {y : V}, σ[k]? = some (some y) → Dv K G' y (intsD ds') → preDw ds' → σ[1]? = some (some (.int ((m + 1 : Nat) : Int))) → σ[2]? = some (some (.bl bk)) → GD K (tCall (spA K 3 arLt (preLt j) fun x => (lawT x.2.1 x.1 x.2.2).toD) [] E0 (tCons (tVar k) (tCons (tOp (rI0 fun i j => .int (i - j)) (tVar 1) (tC (.int 1))) (tCons (tVar 2) tNil)))) σ G' H' (lawT m ds' bk).toD := fun {σ G' H' k ds' y} hk dy hp' h1 h2 =>
    gd_callA (K := K) (ar := arLt) (Pre := preLt j) (f := fun x => (lawT x.2.1 x.1 x.2.2).toD) (ds', m, bk) (ga_cons (gd_var hk dy) (ga_cons (gsub h1) (ga_cons (gd_var h2 (.bl bk)) ga_nil))) rfl ⟨hp', by show m < j; omega⟩
  have el : (lawT (m + 1) ds bk).toD = (if way < 5 then Tst.un "not" (lawT m (rot 5 ds) bk) else if way < 9 then .un (sAt ["under", "in", "next", "behind"] (way - 5)) (lawT m (rot 5 ds) bk) else if way < 12 then .many (if way < 11 then "both" else "one") [lawT m (rot 5 ds) bk, lawT m (rot 3 (rot 5 ds)) bk] else if bk = true then ownT ds else if way = 12 then .un (sAt ["over", "has"] (dAt ds 4 % 2)) (lawT m (rot 5 ds) bk) else .leaf (sAt ["last", "empty"] (dAt ds 4 % 2)) []).toD := by
    conv => lhs; unfold lawT
    dsimp only
    rw [← hw, if_neg n1]
  refine gb_imp (R := fun d => d = (lawT (m + 1) ds bk).toD) ?_ fun d h => h
  rw [el]
  have gw : ∀ {x4 x5 x6 : Option V} {G' H'}, GD K (tVar 3) [some v, some (.int ((m + 1 : Nat) : Int)), some (.bl bk), some (.int way), x4, x5, x6] G' H' (.int way) := gd_var (i := 3) rfl (.int _)
  refine gb_if (gt_test (gdo gw gd_int go_ltI)) (fun c => ?_) fun c => ?_
  · rw [if_pos (of_decide_eq_true c)]
    exact gb_ret (gd_tup (ga_cons gd_str (ga_cons (gcal (k := 4) rfl dv4 hr5 rfl rfl) ga_nil))) (by rw [Tst.toD_un])
  rw [if_neg (of_decide_eq_false c)]
  have n2 : ¬ way < 5 := of_decide_eq_false c
  refine gb_if (gt_test (gdo gw gd_int go_ltI)) (fun c => ?_) fun c => ?_
  · have c9 : way < 9 := of_decide_eq_true c
    rw [if_pos c9]
    exact gb_ret (gd_tup (ga_cons (gd_pickS (l := ["under", "in", "next", "behind"]) (gd_lst (ga_cons gd_str (ga_cons gd_str (ga_cons gd_str (ga_cons gd_str ga_nil))))) (gdo gw gd_int (go_i2 (f := fun i j => i - j))) (by omega) (by show way - 5 < 4; omega)) (ga_cons (gcal (k := 4) rfl dv4 hr5 rfl rfl) ga_nil))) (by rw [Tst.toD_un])
  rw [if_neg (of_decide_eq_false c)]
  refine gb_if (gt_test (gdo gw gd_int go_ltI)) (fun c => ?_) fun c => ?_
  · rw [if_pos (of_decide_eq_true c)]
    refine gb_set (d := intsD (rot 3 (rot 5 ds))) (gd_rot 3 rfl dv4 (by rw [rot_len 5 ds (by omega)]; omega) (by rw [rot_len 5 ds (by omega)]; omega)) fun v5 G5 H5 p5 dv5 => ?_
    refine gb_set (d := .tuple [(lawT m (rot 5 ds) bk).toD, (lawT m (rot 3 (rot 5 ds)) bk).toD]) (gd_tup (ga_cons (gcal (k := 4) rfl (dv4.to p5.hg) hr5 rfl rfl) (ga_cons (gcal (k := 5) rfl dv5 hr3 rfl rfl) ga_nil))) fun v6 G6 H6 p6 dv6 => ?_
    refine gb_ret (gd_tup (ga_cons (d := .str (if way < 11 then "both" else "one")) (gd_if (gt_test (gdo gw gd_int go_ltI)) (fun c => ?_) fun c => ?_) (ga_cons (gd_var (i := 6) rfl dv6) ga_nil))) (by rw [Tst.toD_many]; rfl)
    · rw [if_pos (of_decide_eq_true c)]; exact gd_str
    · rw [if_neg (of_decide_eq_false c)]; exact gd_str
  rw [if_neg (of_decide_eq_false c)]
  refine gb_if (gt_tr (gd_var (i := 2) rfl (.bl bk))) (fun c => ?_) fun c => ?_
  · have cb : bk = true := c
    rw [if_pos cb]
    exact gb_ret (d := (ownT ds).toD) (gd_callA (ar := arDw) (f := fun ds => (ownT ds).toD) ds (ga_cons (gd_var (i := 0) rfl d1'') ga_nil) rfl hd) rfl
  have cb : bk = false := c
  rw [if_neg (by rw [cb]; exact Bool.false_ne_true)]
  have m2 : ∀ i : Int, 0 ≤ i % 2 ∧ i % 2 < 2 := fun i => by omega
  refine gb_if (gt_test (gdo gw gd_int go_eqI)) (fun c => ?_) fun c => ?_
  · rw [if_pos (of_decide_eq_true c)]
    exact gb_ret (gd_tup (ga_cons (gd_pickS (l := ["over", "has"]) (gd_lst (ga_cons gd_str (ga_cons gd_str ga_nil))) (gd_mod (gd_drawI 4 rfl d1'' (by omega)) (by decide)) (m2 _).1 (m2 _).2) (ga_cons (gcal (k := 4) rfl dv4 hr5 rfl rfl) ga_nil))) (by rw [Tst.toD_un])
  · rw [if_neg (of_decide_eq_false c)]
    exact gb_ret (gd_tup (ga_cons (gd_pickS (l := ["last", "empty"]) (gd_lst (ga_cons gd_str (ga_cons gd_str ga_nil))) (gd_mod (gd_drawI 4 rfl d1'' (by omega)) (by decide)) (m2 _).1 (m2 _).2) ga_nil)) (by rw [Tst.toD_leaf]; rfl)
theorem cal_law_test (T : Bt mg) (F : Fun K "_law_test" "_law_test" s_law_test f fd) (hm : mg "_law_test" = some (.ref f)) (b : Binds K fd ["draws", "deep", "back"] []) (c : Cal P W K mg base 1 "_law_own_test" (spA K 1 arDw preDw fun ds => (ownT ds).toD)) : ∀ j, Cal P W K mg base (j + 1) "_law_test" (spA K 3 arLt (preLt j) fun x => (lawT x.2.1 x.1 x.2.2).toD)
  | 0 => cal_mk F (fn_none fun vs H Q E h => by
      obtain ⟨_, _, _, _, _, hp, _⟩ := h
      exact absurd hp.2 (Nat.not_lt_zero _)) hm b
  | j + 1 => cal_mk F (ok_law_test_step T F c (cal_law_test T F hm b c j)) hm b
/-! ### the script of a law -/
def spLw (K : PySem.W.Frag) : Sp := fun vs H Q _ => ∃ (s : Addr) (ns : List Int), vs = [.ref s] ∧ SqL K H s (ns.map V.int) ∧ ns.length ≤ 63 ∧ ∀ H', Q (.bl true) H'
theorem gi_scr {s : Addr} {ns : List Int} (h : σ[i]? = some (some (.ref s))) (e : SqL K H s (ns.map V.int)) : GI K (iSeq K (tVar i)) σ H A (ns.map .int) := gi_l fun H0 H1 p R q => ⟨.ref s, h, s, rfl, ⟨_, p.same.seq e⟩, q _ H0 H1 (.refl p.gh) (runs_list (p.hg.seq e) DvA.ints)⟩
/-- draws = _law_draws(cell, m) -/
theorem s_draws {i : Nat} {m : Nat} {c : Int} {G : Hp} (g : GD K te σ G H (.int c)) (s : Same G H) (hm : m ≤ 100) (k : ∀ ds v G' H', ds.length = m → (∀ x ∈ ds, 0 ≤ x ∧ x < 1000) → Pub G H G' H' → Dv K G' v (intsD ds) → tr D (σ.set i (some v)) H') :
    tSeq (tAsg (tCall (spD K 2 preDraws resDraws) [] E0 (tCons te (tCons (tC (.int (m : Int))) tNil))) (gName i)) tr D σ H := g.to (.refl s) fun u G1 H1 p1 du => by
  refine ⟨by rfl, G1, [.int c, .int (m : Int)], p1.gh, .cons du (.cons (.int _) .nil), ⟨c, m, rfl, by omega, by omega⟩, ?_⟩
  intro d r v G2 H2 p2 dv
  obtain ⟨c', m', e, ds, rfl, hl, hb⟩ := r
  have e2 : m' = (m : Int) := by
    simp at e
    exact e.2.symm
  subst e2
  exact k ds v G2 H2 (by omega) hb (p1.trans p2) dv
end
end LW
end
section
set_option Elab.async false
set_option linter.all false
set_option maxRecDepth 100000
set_option maxHeartbeats 4000000
namespace LM
open PySem DL LW
/-! ### what the program takes for a test -/
def manyB (f : PyData → Bool) : PyData → Bool
  | .tuple ds => (decide ((2 : Int) ≤ (ds.length : Int)) && decide ((ds.length : Int) ≤ 4)) && ds.all f
  | _ => false
def argB (f : PyData → Bool) (d : PyData) (s : Str) : Bool :=
  if s = "n" then nameD d else if s = "s" then plainD d else if s = "t" then f d else manyB f d
def tstB : Nat → PyData → Bool
  | 0, _ => false
  | n + 1, .tuple (.str w :: r) => (match tabO ARGS w with
    | none => false
    | some sg => decide (r.length = sg.length) && (r.zip (sgs sg)).all fun p => argB (tstB n) p.1 p.2)
  | _ + 1, _ => false
theorem zipD_strs (r : List PyData) (l : List Str) : zipD r (l.map .str) = (r.zip l).map fun x => .tuple [x.1, .str x.2] := by
  unfold zipD
  rw [List.zip_map_right, List.map_map]
  rfl
end LM
namespace LW
open PySem PySem.Spec PyProof.Rows L2 DL LM
/-- the table of the words -/
structure Bar (mg : Str → Option Value) (K : PySem.W.Frag) (w : World) : Prop where
  ex : ∃ aA : Addr, mg "ARGUMENTS" = some (.ref aA) ∧ IsTab K w aA ARGS
section
variable {P : Program} {W : World} {K : PySem.W.Frag} {mg : Str → Option Value} {base : Heap} {f : Addr} {fd : FuncData} {A A2 H H' H0 H1 H2 G G2 Hc : Hp} {σ : L2.St} {t te td tn tv t1 t2 : TE} {tr : TS} {ts : TS} {D : Ends} {tA : TA} {n i j : Nat} {p b : Addr} {xs ys : List V} {v : V} {d : PyData} {ds es : List PyData}
theorem gd_anyq {g : PyData → Bool} (gg : GD K te σ H A d) (h : strOk d) : GD K (tCall (spF K 1 preV (oneF g)) [] E0 (tCons te tNil)) σ H A (.bool (g d)) := by
  have x := gd_call (K := K) (f := oneF g) (Pre := preV) (ga_cons gg ga_nil) rfl ⟨d, rfl, fun s e => Nat.le_trans (h s e).1 (by decide)⟩
  exact x
def arTn : PyData × Nat → List PyData := fun x => [x.1, ofN x.2]
def preTn (j : Nat) (x : PyData × Nat) : Prop := x.2 < j ∧ Cl x.2 x.1
def fTn (x : PyData × Nat) : PyData := .bool (tstB x.2 x.1)
def arAr : PyData × Str × Nat → List PyData := fun x => [x.1, .str x.2.1, ofN x.2.2]
def preAr (j : Nat) (x : PyData × Str × Nat) : Prop := 1 ≤ x.2.2 ∧ x.2.2 ≤ j ∧ strOk x.1 ∧ (x.2.1 = "t" → Cl (x.2.2 - 1) x.1) ∧ (x.2.1 ≠ "n" → x.2.1 ≠ "s" → x.2.1 ≠ "t" → ∀ ys, x.1 = .tuple ys → ys.length ≤ 1000 ∧ ∀ y ∈ ys, Cl (x.2.2 - 1) y)
def fAr (x : PyData × Str × Nat) : PyData := .bool (argB (tstB (x.2.2 - 1)) x.1 x.2.1)
theorem gd_tst {j : Nat} {m : Nat} (g : GD K te σ H A d) (g2 : GD K tn σ H A (ofN m)) (hm : m < j) (hc : Cl m d) : GD K (tCall (spA K 2 arTn (preTn j) fTn) [] E0 (tCons te (tCons tn tNil))) σ H A (.bool (tstB m d)) := gd_callA (K := K) (ar := arTn) (f := fTn) (d, m) (ga_cons g (ga_cons g2 ga_nil)) rfl ⟨hm, hc⟩
theorem gd_sub1 {m : Nat} (g : GD K te σ H A (ofN m)) (h : 1 ≤ m) : GD K (tOp (rI0 fun i j => .int (i - j)) te (tC (.int 1))) σ H A (ofN (m - 1)) := by
  have g := gdo g (gd_int (i := 1)) (go_i2 (f := fun i j => i - j))
  have z : ((m : Int) - 1) = ((m - 1 : Nat) : Int) := by omega
  rw [z] at g
  exact g
theorem sig_mem {w sg s : Str} (h : tabO ARGS w = some sg) (hs : s ∈ sgs sg) (h4 : lawKind w ≠ 4) : s = "n" ∨ s = "s" ∨ s = "t" := by
  rw [tab_kind] at h
  have hk : ∀ k sg, k ≠ 4 → kindSig k = some sg → ∀ s ∈ sgs sg, s = "n" ∨ s = "s" ∨ s = "t" := fun k sg hk h => by
    match k, h with
    | 0, h => cases h; intro s hs; cases hs
    | 1, h => cases h; decide +kernel
    | 2, h => cases h; decide +kernel
    | 3, h => cases h; decide +kernel
    | 4, h => exact absurd rfl hk
    | 5, h => cases h; decide +kernel
    | k + 6, h => cases h
  exact hk _ sg h4 h s hs
theorem sig_mem4 {w sg s : Str} (h : tabO ARGS w = some sg) (hs : s ∈ sgs sg) (h4 : lawKind w = 4) : s = "p" := by
  rw [tab_kind, h4] at h
  cases h
  have : ∀ s ∈ sgs ("p" : Str), s = "p" := by decide +kernel
  exact this s hs
theorem cut1 {h : PyData} {r : List PyData} : DL.cutD (h :: r) (some 1) none = r := by
  unfold DL.cutD
  have e := HT.sIx_nat (h :: r).length 0 1
  have e2 : HT.sIx (h :: r).length 0 (some 1) = 1 := e.trans (by rw [List.length_cons]; omega)
  rw [HT.sIx_none, e2, List.drop_succ_cons, List.drop_zero, List.length_cons, Nat.add_sub_cancel, List.take_length]
theorem sgs_short {sg : Str} {w : Str} (h : tabO ARGS w = some sg) : sg.length ≤ 1000 := by
  unfold tabO at h
  obtain ⟨p, hp, rfl⟩ := Option.map_eq_some_iff.mp h
  have m := List.mem_of_find?_eq_some hp
  have : ∀ p ∈ ARGS, p.2.length ≤ 1000 := by decide +kernel
  exact this p m
def fT6 (d : PyData) : PyData := .bool (tstB 6 d)
end
end LW
end
section
set_option Elab.async false
set_option linter.all false
set_option maxRecDepth 100000
set_option maxHeartbeats 4000000
/-! a rule that the hand layer lacks: {k: v for a in xs for b in ys} without tests -/
namespace RR
open PySem PySem.Spec PyProof.Rows L2
abbrev dcx (kx vx t0 i0 t1 i1 : Expr) (sc : Scope) (ps : Pos) : Expr := .DictComp kx vx [⟨t0, i0, [], 0⟩, ⟨t1, i1, [], 0⟩] sc ps
theorem turn_o (kx vx t0 i0 t1 i1 : Expr) (sc : Scope) (ps : Pos) (it acc : Value) (env : Env) : compTurn (dcx kx vx t0 i0 t1 i1 sc ps) 0 it acc env = (do
    standAt i0.pos
    match ← pyNext it with
    | none => pure (.done .next)
    | some y =>
      letOwnedTupleGo t0 it y
      assign t0 env y
      let mut go := true
      for c in ([] : List Expr) do
        if go then go ← isTrue c env (eval c env)
      if go then
        let u ← eval i1 env
        standAt i1.pos
        let u ← foldedSetIterable i1 env u
        let _ ← runOwn (.compStart (dcx kx vx t0 i0 t1 i1 sc ps) 1 (← holding [u] (pyIter u)) acc env) env
      again (.compLoop (dcx kx vx t0 i0 t1 i1 sc ps) 0 it acc env)) := by rfl
theorem turn_i (kx vx t0 i0 t1 i1 : Expr) (sc : Scope) (ps : Pos) (it : Value) (D : Addr) (env : Env) : compTurn (dcx kx vx t0 i0 t1 i1 sc ps) 1 it (.ref D) env = (do
    standAt i1.pos
    match ← pyNext it with
    | none => pure (.done .next)
    | some y =>
      letOwnedTupleGo t1 it y
      assign t1 env y
      let mut go := true
      for c in ([] : List Expr) do
        if go then go ← isTrue c env (eval c env)
      if go then
        (do
          let a ← eval kx env
          let b ← holding [a] (eval vx env)
          standAt { kx.pos with endLine := vx.pos.endLine, endCol := vx.pos.endCol }
          holding [a, b] (dictSet D a b))
      again (.compLoop (dcx kx vx t0 i0 t1 i1 sc ps) 1 it (.ref D) env)) := by rfl
section
variable {pr : Program} {wo : World} {Ar : Around} {Rs : Result → Shared → Prop} {s : Shared} {kx vx t0 i0 t1 i1 : Expr} {sc : Scope} {ps : Pos} {it : Value} {D : Addr} {env : Env}
def no : Value → Shared → Prop := fun _ _ => False
theorem loop_o (hf : ∀ x, foldedSetIterable i1 env x = pure x) (J : Nat → Shared → Prop)
    (st : ∀ n s, J n s → wpAny (model pr wo) Ar (pyNext it) (fun r sa => match r with
      | none => Rs (.ok .next) sa
      | some y => wpAny (model pr wo) Ar (letOwnedTupleGo t0 it y) (fun _ sb => wpAny (model pr wo) Ar (assign t0 env y) (fun _ sd => wpAny (model pr wo) Ar (eval i1 env) (fun u se => wpAny (model pr wo) Ar (pyIter u) (fun j sf =>
          codeAny (model pr wo) Ar (.compStart (dcx kx vx t0 i0 t1 i1 sc ps) 1 j (.ref D) env) (fun r sg => match r with | .ok _ => ∃ m, m < n ∧ J m sg | .error _ => False) sf) no se) no sd) no sb) no sa) no s)
    (n : Nat) (h : J n s) : codeAny (model pr wo) Ar (.compLoop (dcx kx vx t0 i0 t1 i1 sc ps) 0 it (.ref D) env) Rs s := by
  refine codeAny_loop rfl J (fun n s hJ => ?_) n h
  show wpAny _ Ar ((compTurn (dcx kx vx t0 i0 t1 i1 sc ps) 0 it (.ref D) env).onRaise fun x => do noteFrame x env; theTreesLotGoes x) _ _ s
  refine wpAny_noted ?_
  rw [turn_o]
  refine wpAny_bind (wpAny_standAt (wpAny_bind (thnF (st n s hJ) fun r sa ha => ?_)))
  cases r with
  | none => exact wpAny_pure ha
  | some y =>
    refine wpAny_bind (thnF ha fun _ sb hb => wpAny_bind (thnF hb fun _ sd hd => wpAny_bind (wpAny_pure ?_)))
    refine wpAny_bind (thnF hd fun u se he => wpAny_bind (wpAny_standAt (wpAny_bind (wpAny_of_eq (hf u) (wpAny_bind (wpAny_holding (thnF he fun j sf hj => ?_)))))))
    refine wpAny_bind (wpAny_runOwn ?_)
    rw [Around.mark_none]
    refine codeAny_mono hj fun r sg hg => ?_
    cases r with
    | ok f => first | exact wpAny_pure ⟨rfl, hg⟩ | exact wpAny_bind (wpAny_pure (wpAny_pure ⟨rfl, hg⟩))
    | error e => exact hg.elim
theorem loop_i (J : Nat → Shared → Prop)
    (st : ∀ n s, J n s → wpAny (model pr wo) Ar (pyNext it) (fun r sa => match r with
      | none => Rs (.ok .next) sa
      | some y => wpAny (model pr wo) Ar (letOwnedTupleGo t1 it y) (fun _ sb => wpAny (model pr wo) Ar (assign t1 env y) (fun _ sd => wpAny (model pr wo) Ar (eval kx env) (fun a se => wpAny (model pr wo) Ar (eval vx env) (fun b sf =>
          wpAny (model pr wo) Ar (dictSet D a b) (fun _ sg => ∃ m, m < n ∧ J m sg) no sf) no se) no sd) no sb) no sa) no s)
    (n : Nat) (h : J n s) : codeAny (model pr wo) Ar (.compLoop (dcx kx vx t0 i0 t1 i1 sc ps) 1 it (.ref D) env) Rs s := by
  refine codeAny_loop rfl J (fun n s hJ => ?_) n h
  show wpAny _ Ar ((compTurn (dcx kx vx t0 i0 t1 i1 sc ps) 1 it (.ref D) env).onRaise fun x => do noteFrame x env; theTreesLotGoes x) _ _ s
  refine wpAny_noted ?_
  rw [turn_i]
  refine wpAny_bind (wpAny_standAt (wpAny_bind (thnF (st n s hJ) fun r sa ha => ?_)))
  cases r with
  | none => exact wpAny_pure ha
  | some y =>
    refine wpAny_bind (thnF ha fun _ sb hb => wpAny_bind (thnF hb fun _ sd hd => wpAny_bind (wpAny_pure ?_)))
    exact wpAny_bind (wpAny_bind (thnF hd fun a se he => wpAny_bind (wpAny_holding (thnF he fun b sf hf => wpAny_bind (wpAny_standAt (wpAny_holding (thnF hf fun _ sg hg => wpAny_pure ⟨rfl, hg⟩)))))))
theorem start_i (h0 : codeAny (model pr wo) Ar (.compLoop (dcx kx vx t0 i0 t1 i1 sc ps) 1 it (.ref D) env) Rs s)
    (h : wpAny (model pr wo) Ar (pyIter it) (fun j s' => codeAny (model pr wo) Ar (.compLoop (dcx kx vx t0 i0 t1 i1 sc ps) 1 j (.ref D) env) Rs s') (notedBy (model pr wo) Ar env fun x s' => Rs (.error x) s') s) :
    codeAny (model pr wo) Ar (.compStart (dcx kx vx t0 i0 t1 i1 sc ps) 1 it (.ref D) env) Rs s := by
  refine codeAny_of_tree ?_
  show wpAny _ _ ((compStart (dcx kx vx t0 i0 t1 i1 sc ps) 1 it (.ref D) env).onRaise fun x => do noteFrame x env; standAt theWindowsPlace) _ _ s
  refine wpAny_notedAt ?_
  unfold compStart
  show wpAny _ _ (ask >>= _) _ _ s
  refine wpAny_bind (wpAny_askSetting (wpAny_ite ?_))
  split
  · first | exact wpAny_bind (wpAny_pure (wpAny_pure (And.intro rfl h0))) | exact wpAny_pure (And.intro rfl h0)
  · first
      | exact wpAny_bind (wpAny_rule (wpAny_bind (wpAny_standAt (wpAny_bind (wpAny_mono h (fun j s' hj => wpAny_pure (And.intro rfl hj)) fun _ _ x => x)))))
      | exact wpAny_bind (wpAny_rule (wpAny_bind (m := standAt i1.pos) (wpAny_standAt (wpAny_bind (wpAny_mono h (fun j s' hj => wpAny_pure (And.intro rfl hj)) fun _ _ x => x)))))
end
end RR
end
section
set_option Elab.async false
set_option linter.all false
set_option maxRecDepth 100000
set_option maxHeartbeats 4000000
namespace RR
open PySem PySem.Spec PyProof.Rows L2
/-- {k: v for a in xs for b in ys}: U over the outer loop, U1 over the inner one -/
def tD2 (wi : TI) (g : TG) (wi1 : TI) (g1 : TG) (tk tv : TE) (vs vs1 : List Nat) : TE := fun σ H Q => wi σ H fun J HJ => ∀ D, HJ D = none → ∃ U : Nat → Nat → Hp → Prop, (∃ m, U 0 m (upd HJ D (.dK []))) ∧ ∀ i m Hu, U i m Hu →
  (J.stop i Hu ∧ Q (.ref D) Hu) ∨ (J.go i Hu ∧ ∃ Nx : Hp → Prop, (∀ Hn, Nx Hn → ∃ m', m' < m ∧ U (i + 1) m' Hn) ∧ ∀ x Hy, J.yld i Hu x Hy → g x (wipe σ vs) Hy fun σa Ha => wipe σa vs = wipe σ vs ∧
    wi1 σa Ha fun J1 Hb => ∃ U1 : Nat → Nat → Hp → Prop, (∃ m, U1 0 m Hb) ∧ ∀ j k Hv, U1 j k Hv → (J1.stop j Hv ∧ Nx Hv) ∨ (J1.go j Hv ∧ ∃ Nz : Hp → Prop, (∀ Hn, Nz Hn → ∃ k', k' < k ∧ U1 (j + 1) k' Hn) ∧ ∀ x Hz, J1.yld j Hv x Hz →
      g1 x (wipe σa vs1) Hz fun σb Hc => wipe σb vs1 = wipe σa vs1 ∧ tk σb Hc fun y Hd => tv σb Hd fun z He => ∃ kvs key, y = kV key ∧ He D = some (.dK kvs) ∧ kvs.length < sizeLine ∧ Nz (upd He D (.dK (putK kvs key z)))))
section
variable {X : Cx}
/-- what a turn leaves behind for the loop of its block -/
theorem back_to {Y : Cx} {pins : List (Addr × Obj)} {fp : List Addr} {h7 : Heap} {σ8 σ9 : L2.St} {H' : Hp} {s' : Shared} (I' : L2.Inv Y (pins ++ pinsAt fp h7) σ9 H' s') (hl : σ8.length = σ9.length) (hk : ∀ (j : Nat) v, σ8[j]? = some (some v) → σ9[j]? = some (some v)) (ob : ∀ b ∈ fp, ∃ o, h7.get? b = some o) :
    L2.Inv Y pins σ8 H' s' ∧ (∀ b ∈ fp, ∀ o, h7.get? b = some o → s'.heap.get? b = some o) ∧ ∀ b ∈ fp, H' b = none := by
  have pin : ∀ b ∈ fp, ∀ o, h7.get? b = some o → s'.heap.get? b = some o ∧ H' b = none := fun b hb o e =>
    have z := I'.pin (b, o) (List.mem_append_right _ (List.mem_append_right _ (mem_pinsAt hb e)))
    ⟨z.1, z.2.1⟩
  refine ⟨(I'.unpinned (pins := pins)).weak hl hk, fun b hb o e => (pin b hb o e).1, fun b hb => ?_⟩
  obtain ⟨o, e⟩ := ob b hb
  exact (pin b hb o e).2
theorem pe_d2 {kx vx t0 i0 t1 i1 : Expr} {sc : Scope} {own : List (Str × Nat)} {vs1 : List Nat} {ps : Pos} {wi wi1 : TI} {g g1 : TG} {tk tv : TE} (hc : X.calm = true) (hN : X.N.Nodup) (hi : PI X t0 i0 wi) (bk : BlkOk X.N X.env.scope sc own) (hv : ∀ i ∈ vs1, i ∈ own.map (·.2))
    (hg : ∀ (s : Shared) (H : Hp) (C : Addr) (cl : List (Str × Addr)) (fp : List Addr), PG (X.blk s H sc (compEnvC sc cl C X.env) fp) t0 g) (hi1 : ∀ (s : Shared) (H : Hp) (C : Addr) (cl : List (Str × Addr)) (fp : List Addr), PI (X.blk s H sc (compEnvC sc cl C X.env) fp) t1 i1 wi1)
    (hg1 : ∀ (s : Shared) (H : Hp) (C : Addr) (cl : List (Str × Addr)) (fp : List Addr), PG (X.blk s H sc (compEnvC sc cl C X.env) fp) t1 g1) (hk : ∀ (s : Shared) (H : Hp) (C : Addr) (cl : List (Str × Addr)) (fp : List Addr), PE (X.blk s H sc (compEnvC sc cl C X.env) fp) kx tk)
    (he : ∀ (s : Shared) (H : Hp) (C : Addr) (cl : List (Str × Addr)) (fp : List Addr), PE (X.blk s H sc (compEnvC sc cl C X.env) fp) vx tv) (hs : ∀ x, foldedSetIterable i0 X.env x = pure x := by intro _; rfl) (hs1 : ∀ env x, foldedSetIterable i1 env x = pure x := by intro _ _; rfl) :
    PE X (dcx kx vx t0 i0 t1 i1 sc ps) (tD2 wi g wi1 g1 tk tv (own.map (·.2)) vs1) := by
  refine ⟨fun pins s σ H Q I h => ?_⟩
  rw [arm_eval_DictComp]
  have free : ∀ y ∈ sc.names, y.2 = .free → ∃ c, X.env.cells.lookup y.1 = some c := fun y hy e => (bk.free y hy e).elim (fun z => I.ok.has _ (.inl z)) fun z => I.ok.has _ (.inr z)
  refine wpAny_comprehension_free (use := none) rfl hs (closure_ok free) bk.kind (fun y hy e => by rw [bk.uniq y hy, e]) (thn (hi.run pins s σ H _ I h) fun xv sa hx => thn hx fun itv sb hb => ?_)
  obtain ⟨it, fp, tn, J, HJ, rfl, Ib, T, stb, fb, q⟩ := hb
  refine wpAny_newObj_type (newEnv_comp ?_)
  obtain ⟨D, hD⟩ : ∃ D, D = sb.heap.objs.size := ⟨_, rfl⟩
  obtain ⟨U, ⟨m0, u0⟩, turn⟩ := q D (by rw [hD]; exact Ib.hok.fresh (Nat.le_refl _))
  obtain ⟨sd, hsd⟩ : ∃ sd : Shared, sd = { sb with heap := sb.heap.push { cls := .type "dict", data := .dict #[] } } := ⟨_, rfl⟩
  obtain ⟨HD, hHD⟩ : ∃ HD, HD = upd HJ D (.dK []) := ⟨_, rfl⟩
  have hh : sd.heap = sb.heap.push { cls := .type "dict", data := .dict #[] } := by rw [hsd]
  have Id : L2.Inv X pins σ HD sd := by
    rw [hsd, hHD, hD]
    exact Ib.laid (t' := sb.toks) (fun b o e => Heap.get?_push_of_some _ e) (Nat.le_refl _) (dk_empty sb.heap Ib.big)
  have small : ∀ b ∈ fp, b < sb.heap.objs.size := fun b hb => by
    obtain ⟨o, e, _⟩ := T.obj _ _ stb b hb
    exact Heap.lt_size e
  have fd : ∀ b ∈ fp, FpOk X pins HD b ∧ b < sd.heap.objs.size := fun b hb => by
    have hlt := small b hb
    refine ⟨⟨?_, (fb b hb).2⟩, by rw [hh, Heap.size_push]; exact Nat.lt_succ_of_lt hlt⟩
    rw [hHD, upd_ne (by rw [hD]; exact Nat.ne_of_lt hlt)]
    exact (fb b hb).1
  have std : tn 0 sd.heap := T.keep _ _ _ stb fun b _ o e => by rw [hh]; exact Heap.get?_push_of_some _ e
  have nfp : ∀ b ∈ fp, HD b = none := fun b hb => (fd b hb).1.1
  have Ie := block_start Id bk hN fd
  obtain ⟨cs, hcs⟩ : ∃ cs, cs = cellsFrom (sd.heap.objs.size + 1) sc.names (cloFrom X.env.cells sc.names []) := ⟨_, rfl⟩
  have pg := hg sd HD sd.heap.objs.size cs fp
  have pi1 := hi1 sd HD sd.heap.objs.size cs fp
  have pg1 := hg1 sd HD sd.heap.objs.size cs fp
  have pk := hk sd HD sd.heap.objs.size cs fp
  have pe := he sd HD sd.heap.objs.size cs fp
  rw [← hD, ← hsd]
  show codeAny _ _ (.compStart (dcx kx vx t0 i0 t1 i1 sc ps) 0 (.ref it) (.ref D) (compEnvC sc (cellsFrom (sd.heap.objs.size + 1) sc.names (cloFrom X.env.cells sc.names [])) sd.heap.objs.size X.env)) (compPost (model X.prog X.w) X.A X.xe none _ (.ref D) sd.heap.objs.size) { sd with heap := pushCells (sd.heap.push { cls := .type "dict", data := .dict #[] }) sc.names }
  rw [← hcs] at Ie ⊢
  obtain ⟨ce, hce⟩ : ∃ ce, ce = compEnvC sc cs sd.heap.objs.size X.env := ⟨_, rfl⟩
  rw [← hce] at Ie pg pi1 pg1 pk pe ⊢
  have cL : ce.locals = sd.heap.objs.size := by rw [hce]; rfl
  obtain ⟨se, hse⟩ : ∃ se : Shared, se = { sd with heap := pushCells (sd.heap.push { cls := .type "dict", data := .dict #[] }) sc.names } := ⟨_, rfl⟩
  rw [← hse] at Ie ⊢
  have ste : tn 0 se.heap := T.keep _ _ _ std fun b _ o e => by rw [hse]; exact pushCells_keeps _ _ _ _ (Heap.get?_push_of_some _ e)
  obtain ⟨Y, hY⟩ : ∃ Y, Y = X.blk sd HD sc ce fp := ⟨_, rfl⟩
  have sta : ∀ {σ' : L2.St} {H' : Hp} {s' : Shared}, L2.Inv (X.blk sd HD sc ce fp) [] σ' H' s' → (∀ b ∈ fp, H' b = none) → ∀ b ∈ fp, FpOk (X.blk sd HD sc ce fp) [] H' b := fun {σ' H' s'} I' hn b hb =>
    ⟨hn b hb, (I'.ok.exf b hb).1, I'.ok.exfs b hb, .inl hb, fun x c e => (I'.ok.exf b hb).2 x c e, fun p hp => absurd (show p ∈ ([] : List (Addr × Obj)) ++ [] from hp) (by simp)⟩
  have big : codeAny (model X.prog X.w) X.A (.compLoop (dcx kx vx t0 i0 t1 i1 sc ps) 0 (.ref it) (.ref D) ce) (compPost (model X.prog X.w) X.A X.xe none (EP X pins σ Q) (.ref D) sd.heap.objs.size) se := by
    refine loop_o (hs1 ce) (fun n s' => ∃ i H', L2.Inv (X.blk sd HD sc ce fp) [] (wipe σ (own.map (·.2))) H' s' ∧ tn i s'.heap ∧ (∀ b ∈ fp, H' b = none) ∧ U i n H') ?_ m0 ⟨0, HD, Ie, ste, nfp, by rw [hHD]; exact u0⟩
    rintro n sf ⟨i, Hf, If, stf, nf, uf⟩
    rcases turn i n Hf uf with ⟨stop, qq⟩ | ⟨go, Nx, hNx, step⟩
    · refine thnF (T.done (X.blk sd HD sc ce fp) rfl rfl rfl hc i [] sf _ Hf (fun _ _ => False) If (sta If nf) stf stop) fun r sg ⟨hr, Ig⟩ => ?_
      subst hr
      have Ih : L2.Inv X pins σ Hf sg := Id.call' (ch := fp) Ig.os Ig.base Ig.hok Ig.bare fun b hb => ⟨(fd b hb).1.2.2.2.1, (fd b hb).1.2.1, (fd b hb).1.2.2.2.2.1, (fd b hb).1.2.2.2.2.2⟩
      have nC : Hf sd.heap.objs.size = none := by
        have z : Hf ce.locals = none := Ig.free
        rwa [cL] at z
      obtain ⟨m, hn, _⟩ := Ig.loc
      have hn : sg.heap.Ns ce.locals m := hn
      rw [cL] at hn
      obtain ⟨f0, f1, f2, f3, f4, f5⟩ := Id.fpOk (Nat.le_refl _) nC
      exact ⟨m, hn, fun h'' sb => ⟨.ref D, Hf, Ih.turned (t' := sg.toks) (fun b o hb e => (sb.2 b hb).trans e) f0 f1 f3 f4 f5, rfl, qq⟩⟩
    · refine thnF (T.item (X.blk sd HD sc ce fp) rfl rfl rfl hc i [] sf _ Hf (fun _ _ => False) If (sta If nf) stf go) fun r sg ⟨u, hr, hg'⟩ => ?_
      subst hr
      refine thnF hg' fun _ sh ⟨x, Hh, Ih, rh, yh, sth, nh⟩ => ?_
      have obh : ∀ b ∈ fp, ∃ o, sh.heap.get? b = some o := fun b hb => (T.obj _ _ sth b hb).imp fun _ z => z.1
      refine thnF (pg.run _ sh _ Hh x u _ (Ih.pinned (sta Ih nh) (T.obj _ _ sth)) rh (step x Hh yh)) fun _ si ⟨σi, Hi, Ii, hwi, qi⟩ => ?_
      have l8 : (wipe σ (own.map (·.2))).length = σi.length := by rw [← hwi, wipe_length]
      have k8 : ∀ (j : Nat) v, (wipe σ (own.map (·.2)))[j]? = some (some v) → (wipe σi vs1)[j]? = some (some v) := fun j v e => by
        rw [← hwi] at e
        obtain ⟨e1, e2⟩ := wipe_some e
        rw [wipe_out fun z => e2 (hv j z)]
        exact e1
      refine thnF (pi1.run _ si σi Hi _ Ii qi) fun xw sj hj => thnF hj fun jv sk hk' => ?_
      obtain ⟨it1, fp1, tn1, J1, Hk, rfl, Ik, T1, stk, fk, U1, ⟨m1, u1⟩, turn1⟩ := hk'
      have sta1 : ∀ {H' : Hp}, (∀ b ∈ fp1, H' b = none) → ∀ b ∈ fp1, FpOk (X.blk sd HD sc ce fp) ([] ++ pinsAt fp sh.heap) H' b := fun hn b hb => ⟨hn b hb, (fk b hb).2⟩
      have small1 : codeAny (model X.prog X.w) X.A (.compLoop (dcx kx vx t0 i0 t1 i1 sc ps) 1 (.ref it1) (.ref D) ce) (fun r s' => match r with | .ok _ => ∃ m, m < n ∧ ∃ i H', L2.Inv (X.blk sd HD sc ce fp) [] (wipe σ (own.map (·.2))) H' s' ∧ tn i s'.heap ∧ (∀ b ∈ fp, H' b = none) ∧ U i m H' | .error _ => False) sk := by
        refine loop_i (fun k s' => ∃ j H', L2.Inv (X.blk sd HD sc ce fp) ([] ++ pinsAt fp sh.heap) (wipe σi vs1) H' s' ∧ tn1 j s'.heap ∧ (∀ b ∈ fp1, H' b = none) ∧ U1 j k H') ?_ m1 ⟨0, Hk, Ik.weak (wipe_length _ _) (fun j v e => (wipe_some e).1), stk, fun b hb => (fk b hb).1, u1⟩
        rintro k sl ⟨j, Hl, Il, stl, nl, ul⟩
        rcases turn1 j k Hl ul with ⟨stop1, nx⟩ | ⟨go1, Nz, hNz, step1⟩
        · refine thnF (T1.done (X.blk sd HD sc ce fp) rfl rfl rfl hc j _ sl (wipe σi vs1) Hl (fun _ _ => False) Il (sta1 nl) stl stop1) fun r sm ⟨hr, Im⟩ => ?_
          subst hr
          obtain ⟨Im', keep, none'⟩ := back_to Im (l8.trans (wipe_length σi vs1).symm) k8 obh
          obtain ⟨m', hm', um⟩ := hNx Hl nx
          exact ⟨m', hm', i + 1, Hl, Im', T.keep _ _ _ sth keep, none', um⟩
        · refine thnF (T1.item (X.blk sd HD sc ce fp) rfl rfl rfl hc j _ sl (wipe σi vs1) Hl (fun _ _ => False) Il (sta1 nl) stl go1) fun r sm ⟨u1', hr, hm⟩ => ?_
          subst hr
          refine thnF hm fun _ sn ⟨x1, Hn, In, rn, yn, stn, nn⟩ => ?_
          have obn : ∀ b ∈ fp1, ∃ o, sn.heap.get? b = some o := fun b hb => (T1.obj _ _ stn b hb).imp fun _ z => z.1
          refine thnF (pg1.run _ sn (wipe σi vs1) Hn x1 u1' _ (In.pinned (sta1 nn) (T1.obj _ _ stn)) rn (step1 x1 Hn yn)) fun _ so ⟨σo, Ho, Io, hwo, qo⟩ => ?_
          refine thnF (pk.run _ so σo Ho _ Io qo) fun a sp ⟨ya, Hp, Ip, ra, qp⟩ => ?_
          refine thnF (pe.run _ sp σo Hp _ Ip qp) fun b sq ⟨yb, Hq, Iq, rb, kvs, key, ek, hDq, hz, nz⟩ => ?_
          subst ek
          refine d_dictSet (X := X.blk sd HD sc ce fp) Iq hDq hz ra rb fun sr Ir => ?_
          obtain ⟨Ir', keep, none'⟩ := back_to (σ8 := wipe σi vs1) (σ9 := σo) Ir (by rw [← hwo, wipe_length]) (fun j v e => by rw [← hwo] at e; exact (wipe_some e).1) obn
          obtain ⟨k', hk'', uz⟩ := hNz _ nz
          exact ⟨k', hk'', j + 1, _, Ir', T1.keep _ _ _ stn keep, none', uz⟩
      exact start_i small1 (T1.self X.A 0 _ _ _ stk small1)
  exact codeAny_compStart_dict big (T.self X.A 0 _ _ _ ste big)
end
end RR
end
section
set_option Elab.async false
set_option linter.all false
set_option maxRecDepth 100000
set_option maxHeartbeats 4000000
/-! sorted(rows) of rows of two texts, told by a rank of the first -/
namespace RR
open PySem PySem.Spec PySem.W PyProof.Rows L2
def TwoT (h : Heap) (v : Value) (p : Str × Str) : Prop := ∃ (b : Addr) (ob : Obj) (t1 t2 : Tok) (m : Nat), v = .ref b ∧ h.get? b = some ob ∧ ob.cls = .type "tuple" ∧ ob.data = .seq #[.str p.1 t1, .str p.2 t2] m
theorem TwoT.stay {h h2 : Heap} {v : Value} {p : Str × Str} (z : TwoT h v p) (k : ∀ b ob, h.get? b = some ob → ob.cls = .type "tuple" → h2.get? b = some ob) : TwoT h2 v p := by
  obtain ⟨b, ob, t1, t2, m, e, g1, g2, g3⟩ := z
  exact ⟨b, ob, t1, t2, m, e, k _ _ g1 g2, g2, g3⟩
section
variable {prog : Program} {w : World} {A : Around} {E : Value → Shared → Prop} {s : Shared}
theorem twoT_heads {h : Heap} {k : Value → Str × Str} : ∀ us : List Value, (∀ u ∈ us, TwoT h u (k u)) → ∃ hs : List Value, KatTups h us hs ∧ hs.length = us.length ∧ ∀ x ∈ hs, ∃ y t, x = Value.str y t
  | [], _ => ⟨[], .nil, rfl, fun _ z => nomatch z⟩
  | u :: us, g => by
    obtain ⟨hs, kt, hl, hi⟩ := twoT_heads us fun x hx => g x (List.mem_cons_of_mem _ hx)
    obtain ⟨b, ob, t1, t2, m, e, g1, g2, g3⟩ := g u List.mem_cons_self
    rw [e]
    refine ⟨.str (k u).1 t1 :: hs, KatTups.cons g1 g2 g3 rfl kt, by rw [List.length_cons, List.length_cons, hl], fun x hx => ?_⟩
    rcases List.mem_cons.mp hx with rfl | hx
    · exact ⟨_, t1, rfl⟩
    · exact hi x hx
abbrev byRk (rk : Str → Int) (k : Value → Str × Str) (v u : Value) : Bool := decide (rk (k v).1 < rk (k u).1)
theorem byRk_swo (rk : Str → Int) (k : Value → Str × Str) : SrtO.Swo (byRk rk k) := by
  refine ⟨fun x y h => ?_, fun x y z h1 h2 => ?_⟩
  · have h := of_decide_eq_true h
    exact decide_eq_false (by omega)
  · have h1 := of_decide_eq_false h1
    have h2 := of_decide_eq_false h2
    exact decide_eq_false (by omega)
theorem twoT_cmp {vs : List Value} {k : Value → Str × Str} {rk : Str → Int} (hp : ∀ v ∈ vs, TwoT s.heap v (k v)) (hi : ∀ v ∈ vs, ∀ u ∈ vs, (k v).1 = (k u).1 → (k v).2 = (k u).2)
    (hr : ∀ v ∈ vs, ∀ u ∈ vs, decide ((k v).1.cps.toList < (k u).1.cps.toList) = decide (rk (k v).1 < rk (k u).1)) : SrtO.Cmp prog w A s (tuples' true) (fun p => p.1 ∈ vs) (SrtO.lt2 (byRk rk k)) := by
  intro p q hm hm2
  have g1 := hp _ hm
  have g2 := hp _ hm2
  have g3 := hi _ hm _ hm2
  have g4 := hr _ hm _ hm2
  have g5 := hr _ hm _ hm
  show wpAny (model prog w) A (keyLt' (tuples' true) p.1 q.1) (fun r s2 => s2 = s ∧ r = byRk rk k p.1 q.1) (fun _ _ => False) s
  unfold byRk
  rw [← g4]
  generalize k p.1 = x at g1 g3 g5 ⊢
  generalize k q.1 = y at g2 g3 ⊢
  obtain ⟨b, ob, t1, t2, m, e, a1, a2, a3⟩ := g1
  obtain ⟨b2, ob2, t3, t4, m2, e2, b1, b3, b4⟩ := g2
  rw [e, e2]
  refine kat_lt a1 a3 b1 b4 ?_
  show KatLex prog w A true (decide (2 < 2)) _ [(.str x.1 t1, .str y.1 t3), (.str x.2 t2, .str y.2 t4)] 0 s
  refine kat_cons (wpAny_eqBool_str ?_)
  refine kat_go (fun z => ?_) fun z => kat_no (oneLt_any_str ⟨rfl, rfl⟩)
  have z := of_decide_eq_true z
  refine kat_yes (kat_cons (wpAny_eqBool_str ?_))
  refine kat_go (fun _ => kat_yes (kat_nil ⟨rfl, ?_⟩)) fun z2 => absurd (g3 z) (of_decide_eq_false z2)
  rw [← z, g5]
  exact (decide_eq_false (Int.lt_irrefl _)).symm
theorem twoT_sortable {a : Addr} {vs : List Value} {k : Value → Str × Str} {rk : Str → Int} (h0 : 0 < vs.length) (hp : ∀ v ∈ vs, TwoT s.heap v (k v)) (hi : ∀ v ∈ vs, ∀ u ∈ vs, (k v).1 = (k u).1 → (k v).2 = (k u).2)
    (hr : ∀ v ∈ vs, ∀ u ∈ vs, decide ((k v).1.cps.toList < (k u).1.cps.toList) = decide (rk (k v).1 < rk (k u).1)) (ha : ∀ o, s.heap.get? a = some o → o.cls ≠ .type "tuple") : SrtO.SortableO prog w A s a vs (byRk rk k) := by
  intro h2 stay
  have hp2 : ∀ v ∈ vs, TwoT h2 v (k v) := fun v hm => (hp v hm).stay fun b o e c => stay b o (fun z => by subst z; exact ha o e c) e
  obtain ⟨hs, k1, k2, k3⟩ := twoT_heads vs hp2
  refine ⟨tuples' true, fun Q E hq => ?_, twoT_cmp hp2 hi hr⟩
  refine kat_kind (T := .type "str") k1 (by omega) (fun f hm => ?_) (by rfl) ?_
  · obtain ⟨x, t, rfl⟩ := k3 f hm
    exact .now
  · have e : (Value.type "str" != Value.type "tuple") = true := by first | decide +kernel | rfl | decide
    rw [e]
    exact hq
end
def rSortT (K : PySem.W.Frag) : List V → Hp → VK → Prop := fun vs H Q => ∃ (a : Addr) (xs : List V) (k : V → Str × Str) (rk : Str → Int), vs = [V.ref a] ∧ SqL K H a xs ∧ (∀ x ∈ xs, ∃ t, x = V.ref t ∧ SqT K H t [.str (k x).1, .str (k x).2]) ∧
  (∀ x ∈ xs, ∀ y ∈ xs, (k x).1 = (k y).1 → (k x).2 = (k y).2) ∧ (∀ x ∈ xs, ∀ y ∈ xs, decide ((k x).1.cps.toList < (k y).1.cps.toList) = decide (rk (k x).1 < rk (k y).1)) ∧
  ∀ ys p, ys.Perm xs → ys.Pairwise (fun x y => rk (k x).1 ≤ rk (k y).1) → H p = none → Q (.ref p) (upd H p (.lst ys))
theorem cr_sortT {X : Cx} : CallR X (.builtin "sorted") (rSortT X.K) := by
  intro pins s σ H vs us Q I r h
  obtain ⟨a, xs, k, rk, rfl, hs, hx, hi, hr, q⟩ := h
  obtain ⟨its, rv, hl, hz⟩ := I.list hs
  obtain ⟨u, rfl, ru⟩ := vals1 r
  obtain rfl : u = Value.ref a := ru
  obtain ⟨e1, e2⟩ := refs_back rv fun x m => (hx x m).imp fun _ z => z.1
  have inx : ∀ v ∈ its, backV v ∈ xs := fun v hv => by rw [e1]; exact List.mem_map.mpr ⟨_, hv, rfl⟩
  have two : ∀ v ∈ its, TwoT s.heap v (k (backV v)) := fun v hv => by
    obtain ⟨t, rfl⟩ := e2 v hv
    have hm := inx _ hv
    obtain ⟨t2, e, ht⟩ := hx _ hm
    cases e
    obtain ⟨its2, r2, ⟨o, ho, hc, n, hd⟩, _⟩ := I.tuple ht
    obtain ⟨u1, u2, rfl, ⟨t1, rfl⟩, ⟨t3, rfl⟩⟩ := vals2 r2
    exact ⟨t, o, t1, t3, n, rfl, ho, hc, hd⟩
  refine SrtO.sorted_ord (byRk_swo rk fun v => k (backV v)) hl.isList (by rw [← rv.length]; exact hz) (fun h2 h1 b hb kk => ?_) fun out h1 h2 => ?_
  · refine twoT_sortable (s := { s with heap := h1 }) (by omega) (fun v hm => (two v hm).stay fun b o e _ => (kk b o e).2) (fun v hv u hu => hi _ (inx v hv) _ (inx u hu)) (fun v hv u hu => hr _ (inx v hv) _ (inx u hu)) fun o e c => ?_
    have e' : some o = some (seqObj "list" its.toArray 0) := e.symm.trans hb
    cases e'
    exact absurd (Value.type.inj c) (by decide)
  · have h3 : ∀ u ∈ out, ∃ a, u = Value.ref a := fun u hu => e2 u (h2.perm.mem_iff.mp hu)
    obtain ⟨n, hn⟩ := PyProof.Rows.sortedAll_at s.heap its out.toArray
    have hp : (out.map backV).Perm xs := by
      rw [e1]
      exact h2.perm.map backV
    have hf : H (s.heap.objs.size + 1) = none := I.hok.fresh (Nat.le_succ _)
    refine ⟨.ref (s.heap.objs.size + 1), upd H (s.heap.objs.size + 1) (.lst (out.map backV)), I.laid (t' := s.toks) (fun b o e => PyProof.Rows.sortedAll_old e) (Nat.le_succ _) ⟨by rw [hp.length_eq]; exact hz, out, n, vals_back h3, hn⟩, rfl, q _ _ hp ?_ hf⟩
    refine List.pairwise_map.mpr (h1.imp fun {x y} z => ?_)
    exact Int.not_lt.mp (of_decide_eq_false (p := rk (k (backV y)).1 < rk (k (backV x)).1) z)
end RR
end
section
set_option Elab.async false
set_option linter.all false
set_option maxRecDepth 100000
set_option maxHeartbeats 4000000
namespace RR
open PySem PySem.Spec PyProof.Rows L2
/-- x > y of texts -/
theorem op_gtT {X : Cx} : OpR X (compareOp .Gt) (fun x y H Q => ∃ a b, x = .str a ∧ y = .str b ∧ Q (.bl (decide (b.cps.toList < a.cps.toList))) H) := by
  intro pins s σ H x y u v Q I rx ry h
  obtain ⟨a, b, rfl, rfl, q⟩ := h
  obtain ⟨t1, rfl⟩ := rx
  obtain ⟨t2, rfl⟩ := ry
  exact PySem.P.gt_str (fin_bl I q rfl)
/-- sorted(rows): rows of two texts told one by one -/
def rSortZ (K : PySem.W.Frag) : List V → Hp → VK → Prop := fun vs H Q => ∃ (a : Addr) (zs : List (V × (Str × Str))) (rk : Str → Int), vs = [V.ref a] ∧ SqL K H a (zs.map (·.1)) ∧ (∀ z ∈ zs, ∃ t, z.1 = V.ref t ∧ SqT K H t [.str z.2.1, .str z.2.2]) ∧
  (∀ z ∈ zs, ∀ y ∈ zs, z.2.1 = y.2.1 → z.2.2 = y.2.2) ∧ (∀ z ∈ zs, ∀ y ∈ zs, decide (z.2.1.cps.toList < y.2.1.cps.toList) = decide (rk z.2.1 < rk y.2.1)) ∧
  ∀ (ws : List (V × (Str × Str))) (p : Addr), ws.Perm zs → ws.Pairwise (fun x y => rk x.2.1 ≤ rk y.2.1) → H p = none → Q (.ref p) (upd H p (.lst (ws.map (·.1))))
open Classical in
theorem cr_sortZ {X : Cx} : CallR X (.builtin "sorted") (rSortZ X.K) := by
  intro pins s σ H vs us Q I r h
  obtain ⟨a, zs, rk, rfl, hs, hx, hi, hr, q⟩ := h
  obtain ⟨k, hk⟩ : ∃ k : V → Str × Str, ∀ z ∈ zs, k z.1 = z.2 := by
    refine ⟨fun x => if h : ∃ z, z ∈ zs ∧ z.1 = x then (choose h).2 else ("", ""), fun z hz => ?_⟩
    have h : ∃ y, y ∈ zs ∧ y.1 = z.1 := ⟨z, hz, rfl⟩
    show (if h : ∃ y, y ∈ zs ∧ y.1 = z.1 then (choose h).2 else ("", "")) = z.2
    rw [dif_pos h]
    obtain ⟨h1, h2⟩ := choose_spec h
    generalize choose h = y at h1 h2
    obtain ⟨t, e1, s1⟩ := hx y h1
    obtain ⟨t2, e2, s2⟩ := hx z hz
    rw [e1, e2] at h2
    cases h2
    have e := I.tuple_inj s1 s2
    obtain ⟨y0, y1, y2⟩ := y
    obtain ⟨z0, z1, z2⟩ := z
    injection e with e3 e4
    injection e4 with e5 _
    cases e3
    cases e5
    rfl
  refine cr_sortT pins s σ H _ us Q I r ⟨a, zs.map (·.1), k, rk, rfl, hs, fun x hm => ?_, fun x hm y hm2 => ?_, fun x hm y hm2 => ?_, fun ys p hp hpw hf => ?_⟩
  · obtain ⟨z, hz, rfl⟩ := List.mem_map.mp hm
    rw [hk z hz]
    exact hx z hz
  · obtain ⟨z, hz, rfl⟩ := List.mem_map.mp hm
    obtain ⟨z2, hz2, rfl⟩ := List.mem_map.mp hm2
    rw [hk z hz, hk z2 hz2]
    exact hi z hz z2 hz2
  · obtain ⟨z, hz, rfl⟩ := List.mem_map.mp hm
    obtain ⟨z2, hz2, rfl⟩ := List.mem_map.mp hm2
    rw [hk z hz, hk z2 hz2]
    exact hr z hz z2 hz2
  · obtain ⟨ws, w1, rfl⟩ := perm_lift (fun z : V × (Str × Str) => z.1) hp zs rfl
    refine q ws p w1 ?_ hf
    refine (List.pairwise_map.mp hpw).imp_of_mem fun {x y} h1 h2 h3 => ?_
    rw [hk x (w1.mem_iff.mp h1), hk y (w1.mem_iff.mp h2)] at h3
    exact h3
end RR
end
section
set_option Elab.async false
set_option linter.all false
set_option maxRecDepth 100000
set_option maxHeartbeats 4000000
/-! sets of texts whose table can be walked: add -/
namespace RR
open PySem PySem.Spec PyProof.Rows L2 PySem.Froz
/-- the payload D holds the texts l, its table rises and can be walked -/
def txtOf (e : Int × Value) : Str := match e.2 with | .str x _ => x | _ => ""
def TxR (P : Program) (w : World) (D : SD) (l : List Str) : Prop := TxOk P w D l ∧ Ris D.2.2.place.toList ∧ (w.params.followText "set-order" = true ∨ D.2.2.led = true) ∧ (D.1.toList.map txtOf).Perm l
theorem txR_new (P : Program) (w : World) : TxR P w (#[], 0, .fresh 0 0 (!w.params.followText "set-order")) [] := by
  refine ⟨TxOk.nil rfl, List.Pairwise.nil, ?_, .refl _⟩
  show _ ∨ (!w.params.followText "set-order") = true
  cases w.params.followText "set-order"
  · exact .inr rfl
  · exact .inl rfl
section
variable {P : Program} {w : World} {A : Around} {E : Value → Shared → Prop} {s : Shared}
theorem tail_ris {ep : Nat} {es1 : Array (Int × Value)} {t2 : SetTable} {wd : Bool} (h : Ris t2.place.toList) : Ris (tailTx ep es1 t2 wd).2.2.place.toList := by
  unfold tailTx
  by_cases c : (!wd && t2.tooFull) = true
  · rw [if_pos c]; exact relayAll_ris _ _ _
  · rw [if_neg c]; exact h
theorem tail_led {ep : Nat} {es1 : Array (Int × Value)} {t2 : SetTable} {wd : Bool} : (tailTx ep es1 t2 wd).2.2.led = t2.led := by
  unfold tailTx
  by_cases c : (!wd && t2.tooFull) = true
  · rw [if_pos c]; exact relayAll_led _ _ _
  · rw [if_neg c]
theorem txR_add {D : SD} {l : List Str} {k : Str} (u : Tok) (F : TxR P w D l) : TxR P w (addTx (hashStr w k) (.str k u) D) (k :: l) := by
  obtain ⟨F1, F2, F3, F4⟩ := F
  refine ⟨add_ok u F1, ?_, ?_, ?_⟩
  · obtain ⟨es, ep, t⟩ := D
    have h := layNew_ris t es (hashStr w k) (.str k u) F2
    unfold addTx
    refine tail_ris ?_
    dsimp only
    by_cases c : (layNew t es (hashStr w k) (.str k u)).2.1.plain = true
    · rw [if_pos c]; exact h
    · rw [if_neg c]; exact h
  · refine F3.imp id fun z => ?_
    obtain ⟨es, ep, t⟩ := D
    have h := layNew_led t es (hashStr w k) (.str k u)
    have z : t.led = true := z
    unfold addTx
    rw [tail_led]
    dsimp only
    by_cases c : (layNew t es (hashStr w k) (.str k u)).2.1.plain = true
    · rw [if_pos c]; exact h.trans z
    · rw [if_neg c]; exact h.trans z
  · obtain ⟨es, ep, t⟩ := D
    have hp := layNew_perm t es (hashStr w k) (.str k u)
    rw [Array.toList_push] at hp
    have F4 : (es.toList.map txtOf).Perm l := F4
    have ht : (tailTx ep (layNew t es (hashStr w k) (.str k u)).1 (if (layNew t es (hashStr w k) (.str k u)).2.1.plain = true then { (layNew t es (hashStr w k) (.str k u)).2.1 with plain := false } else (layNew t es (hashStr w k) (.str k u)).2.1) (layNew t es (hashStr w k) (.str k u)).2.2.1).1.toList.Perm (es.toList ++ [(hashStr w k, .str k u)]) := by
      refine List.Perm.trans ?_ hp
      generalize (layNew t es (hashStr w k) (.str k u)).1 = es1
      generalize (if (layNew t es (hashStr w k) (.str k u)).2.1.plain = true then { (layNew t es (hashStr w k) (.str k u)).2.1 with plain := false } else (layNew t es (hashStr w k) (.str k u)).2.1) = t2
      unfold tailTx
      by_cases c : (!(layNew t es (hashStr w k) (.str k u)).2.2.1 && t2.tooFull) = true
      · rw [if_pos c]; exact relayAll_perm _ _ _
      · rw [if_neg c]
    refine (ht.map txtOf).trans ?_
    rw [List.map_append]
    exact (List.perm_append_singleton _ _).trans (F4.cons k)
/-- a text that is there -/
theorem add_there {a : Addr} {D : SD} {l : List Str} {k : Str} {u : Tok} {Q : Bool → Shared → Prop} (ho : s.heap.get? a = some (sObj "set" D)) (F : TxOk P w D l) (hk : k ∈ l) (hb : l.length < scanBound)
    (h : Q false s) : wpAny (model P w) A (setAddHashed a (.str k u) (hashStr w k)) Q E s := by
  obtain ⟨es, ep, t⟩ := D
  have hd : (sObj "set" (es, ep, t)).data = .set es ep t := rfl
  have hf : t.fits es.size = true := F.fit
  have hel : ElemsOf (strKind P w) es.toList := F.el
  have hsz : es.size = l.length := F.sz
  have hkey : (strKind P w).is k (.str k u) = true := is_str k u
  unfold setAddHashed setAddHashedIn
  refine wpAny_holding (wpAny_bind (wpAny_setState_of ho hd hf ?_))
  dsimp only
  rw [byScan_of rfl (by omega) hel]
  simp only [↓reduceIte]
  unfold setAddByScan
  refine wpAny_bind ?_
  refine wpAny_bind (wpAny_rule ?_)
  refine wpAny_bind (wpAny_setScan_of (knd := strKind P w) (k := k) hkey ho hd hf hel ?_)
  cases hfi : List.findIdx? (fun e => (strKind P w).is k e.2) es.toList with
  | some j => exact wpAny_pure (wpAny_pure h)
  | none =>
    obtain ⟨e, he, q⟩ := (F.mem k).mp hk
    have c := List.findIdx?_eq_none_iff.mp hfi e he
    rw [q] at c
    cases c
/-- the set of the texts l at a -/
def TxAt (P : Program) (w : World) (h : Heap) (a : Addr) (l : List Str) : Prop := ∃ D, h.get? a = some (sObj "set" D) ∧ TxR P w D l
def addL (k : Str) (l : List Str) : List Str := if k ∈ l then l else k :: l
theorem call_addT {a : Addr} {l : List Str} {k : Str} {u : Tok} {Q : Value → Shared → Prop} (R : TxAt P w s.heap a l) (hb : l.length + 1 < scanBound)
    (h : ∀ h', (∀ b o, b ≠ a → s.heap.get? b = some o → h'.get? b = some o) → s.heap.objs.size ≤ h'.objs.size → TxAt P w h' a (addL k l) → Q .none { s with heap := h', toks := s.toks + 1 }) :
    wpAny (model P w) A (call (.builtin "set.add") [.ref a, .str k u]) Q E s := by
  obtain ⟨D, ho, R1⟩ := R
  have hT : s.TypeIs (.ref a) "set" := ⟨_, ho, rfl⟩
  refine wpAny_call_entry F.slot_set_add hT F.entry_set_add ?_ (F.args_set_add_2 _ _)
  unfold Builtin.«set.add» Builtin.Frozenset.oneOther
  simp only [List.isEmpty_nil, bind_assoc]
  unfold Builtin.Frozenset.addrOf setAdd
  refine wpAny_bind (wpAny_pure ?_)
  try dsimp only
  refine wpAny_bind (wpAny_pure ?_)
  try dsimp only
  refine wpAny_bind ?_
  refine wpAny_holding ?_
  refine wpAny_bind ((strKind P w).pyHash (is_str k u) ?_)
  by_cases hk : k ∈ l
  · refine add_there (s := { s with toks := s.toks + 1 }) ho R1.1 hk (by omega) ?_
    show wpAny _ _ (ret Value.none) _ _ _
    refine wpAny_pure ⟨_, rfl, ?_⟩
    have q := h s.heap (fun _ _ _ e => e) (Nat.le_refl _) ⟨D, ho, by unfold addL; rw [if_pos hk]; exact R1⟩
    exact q
  · refine add_x (s := { s with toks := s.toks + 1 }) ho R1.1 hk hb ?_
    show wpAny _ _ (ret Value.none) _ _ _
    refine wpAny_pure ⟨_, rfl, ?_⟩
    exact h (s.heap.update a fun _ => sObj "set" (addTx (hashStr w k) (.str k u) D)) (fun b o hb e => (Heap.get?_update_other _ _ (Ne.symm hb)).trans e) (Nat.le_of_eq (Heap.size_update _ _ _).symm) ⟨_, get_upd _ ho rfl, by unfold addL; rw [if_neg hk]; exact txR_add u R1⟩
end
end RR
end
section
set_option Elab.async false
set_option linter.all false
set_option maxRecDepth 100000
set_option maxHeartbeats 4000000
/-! a rule that the hand layer lacks: {k for a in xs if ..}, k texts -/
namespace RR
open PySem PySem.Spec PyProof.Rows L2 PySem.Froz
def SetX (P : Program) (w : World) (a : Addr) (l : List Str) : HO := .ext fun h => TxAt P w h a l
theorem txAt_keep {P : Program} {w : World} {h h' : Heap} {a : Addr} {l : List Str} (R : TxAt P w h a l) (k : ∀ o, h.get? a = some o → h'.get? a = some o) : TxAt P w h' a l := by
  obtain ⟨D, ho, r⟩ := R
  exact ⟨D, k _ ho, r⟩
theorem setX_new {w : World} {P : Program} {H : Hp} {h : Heap} {a : Addr} {l : List Str} (R : TxAt P w h a l) : ObjOk P w H h a (SetX P w a l) := by
  have ⟨D, ho, _⟩ := R
  exact ⟨R, ⟨_, ho⟩, fun h1 h2 p k => txAt_keep p k⟩
section
variable {X : Cx}
theorem setX_get {pins : List (Addr × Obj)} {σ : L2.St} {H : Hp} {s : Shared} {a : Addr} {l : List Str} (I : L2.Inv X pins σ H s) (ha : H a = some (SetX X.prog X.w a l)) : TxAt X.prog X.w s.heap a l := (I.hok a _ ha).1
/-- k into the set at D, by a comprehension -/
theorem d_addX {pins : List (Addr × Obj)} {σ : L2.St} {H : Hp} {s : Shared} {E : Value → Shared → Prop} {D : Addr} {l : List Str} {k : Str} {u : Value} {Q : Value → Shared → Prop} (I : L2.Inv X pins σ H s) (hD : H D = some (SetX X.prog X.w D l)) (hz : l.length + 1 < scanBound)
    (rv : RelV (.str k) u) (h : ∀ s', L2.Inv X pins σ (upd H D (SetX X.prog X.w D (addL k l))) s' → Q .none s') : wpAny (model X.prog X.w) X.A (call (.builtin "set.add") [.ref D, u]) Q E s := by
  obtain ⟨t, rfl⟩ := rv
  refine call_addT (setX_get I hD) hz fun h' keep hsz new => h _ ?_
  have ⟨D', ho, _⟩ := new
  exact I.write (e := D) (t' := s.toks + 1) (by rw [hD]; trivial) (.inl rfl) keep ⟨_, ho⟩ (setX_new new)
/-- {k for target in iter if ..}: D the new set -/
def tSc (P : Program) (w : World) (wi : TI) (g : TG) (tt : TT) (tk : TE) (vs : List Nat) : TE := fun σ H Q => wi σ H fun J H1 => ∀ D, H1 D = none → ∃ W : Nat → Nat → Hp → Prop, (∃ m, W 0 m (upd H1 D (SetX P w D []))) ∧ ∀ i m H, W i m H →
  (J.stop i H ∧ Q (.ref D) H) ∨ (J.go i H ∧ ∃ Nx : Hp → Prop, (∀ H', Nx H' → ∃ m', m' < m ∧ W (i + 1) m' H') ∧ ∀ x H', J.yld i H x H' → g x (wipe σ vs) H' fun σ2 H2 => wipe σ2 vs = wipe σ vs ∧ tt σ2 H2 fun b H3 =>
    if b = true then tk σ2 H3 fun y H4 => ∃ k l, y = .str k ∧ H4 D = some (SetX P w D l) ∧ l.length + 1 < scanBound ∧ Nx (upd H4 D (SetX P w D (addL k l))) else Nx H3)
theorem pe_sc {kx tg iter : Expr} {ifs : List Expr} {sc : Scope} {own : List (Str × Nat)} {ps : Pos} {wi : TI} {g : TG} {tt : TT} {tk : TE} (hc : X.calm = true) (hN : X.N.Nodup) (hi : PI X tg iter wi) (bk : BlkOk X.N X.env.scope sc own)
    (hg : ∀ (s : Shared) (H : Hp) (C : Addr) (cl : List (Str × Addr)) (fp : List Addr), PG (X.blk s H sc (compEnvC sc cl C X.env) fp) tg g) (ht : ∀ (s : Shared) (H : Hp) (C : Addr) (cl : List (Str × Addr)) (fp : List Addr), PTs (X.blk s H sc (compEnvC sc cl C X.env) fp) ifs tt)
    (hk : ∀ (s : Shared) (H : Hp) (C : Addr) (cl : List (Str × Addr)) (fp : List Addr), PE (X.blk s H sc (compEnvC sc cl C X.env) fp) kx tk) (hs : ∀ x, foldedSetIterable iter X.env x = pure x := by intro _; rfl) :
    PE X (.SetComp kx [⟨tg, iter, ifs, 0⟩] sc ps) (tSc X.prog X.w wi g tt tk (own.map (·.2))) := by
  refine ⟨fun pins s σ H Q I h => ?_⟩
  rw [arm_eval_SetComp]
  have free : ∀ y ∈ sc.names, y.2 = .free → ∃ c, X.env.cells.lookup y.1 = some c := fun y hy e => (bk.free y hy e).elim (fun z => I.ok.has _ (.inl z)) fun z => I.ok.has _ (.inr z)
  refine wpAny_comprehension_free (use := none) rfl hs (closure_ok free) bk.kind (fun y hy e => by rw [bk.uniq y hy, e]) (thn (hi.run pins s σ H _ I h) fun xv sa hx => thn hx fun itv sb hb => ?_)
  obtain ⟨it, fp, tn, J, HJ, rfl, Ib, T, stb, fb, q⟩ := hb
  refine wpAny_newSet_raw fun led hled => newEnv_comp ?_
  subst hled
  obtain ⟨D, hD⟩ : ∃ D, D = sb.heap.objs.size := ⟨_, rfl⟩
  obtain ⟨U, ⟨m0, u0⟩, turn⟩ := q D (by rw [hD]; exact Ib.hok.fresh (Nat.le_refl _))
  obtain ⟨nob, hnob⟩ : ∃ nob : Obj, nob = { cls := .type "set", dict := none, data := .set #[] 0 (.fresh 0 0 (!X.w.params.followText "set-order")) } := ⟨_, rfl⟩
  rw [← hnob]
  have hnf : nob.isFreed = false := by rw [hnob]; rfl
  obtain ⟨sd, hsd⟩ : ∃ sd : Shared, sd = { sb with heap := sb.heap.push nob } := ⟨_, rfl⟩
  obtain ⟨HD, hHD⟩ : ∃ HD, HD = upd HJ D (SetX X.prog X.w D []) := ⟨_, rfl⟩
  have hh : sd.heap = sb.heap.push nob := by rw [hsd]
  have Id : L2.Inv X pins σ HD sd := by
    rw [hsd, hHD, hD]
    refine Ib.laid (t' := sb.toks) (fun b o e => Heap.get?_push_of_some _ e) (Nat.le_refl _) (setX_new ⟨(#[], 0, .fresh 0 0 (!X.w.params.followText "set-order")), ?_, txR_new _ _⟩)
    rw [hnob]
    exact Heap.get?_push_size _ rfl
  have small : ∀ b ∈ fp, b < sb.heap.objs.size := fun b hb => by
    obtain ⟨o, e, _⟩ := T.obj _ _ stb b hb
    exact Heap.lt_size e
  have fd : ∀ b ∈ fp, FpOk X pins HD b ∧ b < sd.heap.objs.size := fun b hb => by
    have hlt := small b hb
    refine ⟨⟨?_, (fb b hb).2⟩, by rw [hh, Heap.size_push]; exact Nat.lt_succ_of_lt hlt⟩
    rw [hHD, upd_ne (by rw [hD]; exact Nat.ne_of_lt hlt)]
    exact (fb b hb).1
  have std : tn 0 sd.heap := T.keep _ _ _ stb fun b _ o e => by rw [hh]; exact Heap.get?_push_of_some _ e
  have nfp : ∀ b ∈ fp, HD b = none := fun b hb => (fd b hb).1.1
  have Ie := block_start Id bk hN fd
  obtain ⟨cs, hcs⟩ : ∃ cs, cs = cellsFrom (sd.heap.objs.size + 1) sc.names (cloFrom X.env.cells sc.names []) := ⟨_, rfl⟩
  have pg := hg sd HD sd.heap.objs.size cs fp
  have pt := ht sd HD sd.heap.objs.size cs fp
  have pk := hk sd HD sd.heap.objs.size cs fp
  rw [← hD, ← hsd]
  show codeAny _ _ (.compStart (.SetComp kx [⟨tg, iter, ifs, 0⟩] sc ps) 0 (.ref it) (.ref D) (compEnvC sc (cellsFrom (sd.heap.objs.size + 1) sc.names (cloFrom X.env.cells sc.names [])) sd.heap.objs.size X.env)) (compPost (model X.prog X.w) X.A X.xe none _ (.ref D) sd.heap.objs.size) { sd with heap := pushCells (sd.heap.push { cls := .type "dict", data := .dict #[] }) sc.names }
  rw [← hcs] at Ie ⊢
  obtain ⟨ce, hce⟩ : ∃ ce, ce = compEnvC sc cs sd.heap.objs.size X.env := ⟨_, rfl⟩
  rw [← hce] at Ie pg pt pk ⊢
  have cL : ce.locals = sd.heap.objs.size := by rw [hce]; rfl
  obtain ⟨se, hse⟩ : ∃ se : Shared, se = { sd with heap := pushCells (sd.heap.push { cls := .type "dict", data := .dict #[] }) sc.names } := ⟨_, rfl⟩
  rw [← hse] at Ie ⊢
  have ste : tn 0 se.heap := T.keep _ _ _ std fun b _ o e => by rw [hse]; exact pushCells_keeps _ _ _ _ (Heap.get?_push_of_some _ e)
  have sta : ∀ {σ' : L2.St} {H' : Hp} {s' : Shared}, L2.Inv (X.blk sd HD sc ce fp) [] σ' H' s' → (∀ b ∈ fp, H' b = none) → ∀ b ∈ fp, FpOk (X.blk sd HD sc ce fp) [] H' b := fun {σ' H' s'} I' hn b hb =>
    ⟨hn b hb, (I'.ok.exf b hb).1, I'.ok.exfs b hb, .inl hb, fun x c e => (I'.ok.exf b hb).2 x c e, fun p hp => absurd (show p ∈ ([] : List (Addr × Obj)) ++ [] from hp) (by simp)⟩
  have big : codeAny (model X.prog X.w) X.A (.compLoop (.SetComp kx [⟨tg, iter, ifs, 0⟩] sc ps) 0 (.ref it) (.ref D) ce) (compPost (model X.prog X.w) X.A X.xe none (EP X pins σ Q) (.ref D) sd.heap.objs.size) se := by
    refine compLoop_set_any (fun n s' => ∃ i H', L2.Inv (X.blk sd HD sc ce fp) [] (wipe σ (own.map (·.2))) H' s' ∧ tn i s'.heap ∧ (∀ b ∈ fp, H' b = none) ∧ U i n H') ?_ m0 ⟨0, HD, Ie, ste, nfp, by rw [hHD]; exact u0⟩
    rintro n sf ⟨i, Hf, If, stf, nf, uf⟩
    rcases turn i n Hf uf with ⟨stop, qq⟩ | ⟨go, Nx, hNx, step⟩
    · refine thnF (T.done (X.blk sd HD sc ce fp) rfl rfl rfl hc i [] sf _ Hf (fun _ _ => False) If (sta If nf) stf stop) fun r sg ⟨hr, Ig⟩ => ?_
      subst hr
      have Ih : L2.Inv X pins σ Hf sg := Id.call' (ch := fp) Ig.os Ig.base Ig.hok Ig.bare fun b hb => ⟨(fd b hb).1.2.2.2.1, (fd b hb).1.2.1, (fd b hb).1.2.2.2.2.1, (fd b hb).1.2.2.2.2.2⟩
      have nC : Hf sd.heap.objs.size = none := by
        have z : Hf ce.locals = none := Ig.free
        rwa [cL] at z
      obtain ⟨m, hn, _⟩ := Ig.loc
      have hn : sg.heap.Ns ce.locals m := hn
      rw [cL] at hn
      obtain ⟨f0, f1, f2, f3, f4, f5⟩ := Id.fpOk (Nat.le_refl _) nC
      exact ⟨m, hn, fun h'' sb => ⟨.ref D, Hf, Ih.turned (t' := sg.toks) (fun b o hb e => (sb.2 b hb).trans e) f0 f1 f3 f4 f5, rfl, qq⟩⟩
    · refine thnF (T.item (X.blk sd HD sc ce fp) rfl rfl rfl hc i [] sf _ Hf (fun _ _ => False) If (sta If nf) stf go) fun r sg ⟨u, hr, hg'⟩ => ?_
      subst hr
      refine thnF hg' fun _ sh ⟨x, Hh, Ih, rh, yh, sth, nh⟩ => ?_
      refine thnF (pg.run _ sh _ Hh x u _ (Ih.pinned (sta Ih nh) (T.obj _ _ sth)) rh (step x Hh yh)) fun _ si ⟨σi, Hi, Ii, hwi, qi⟩ => ?_
      refine thnF (pt.run _ si σi Hi _ Ii qi) fun b sj ⟨Hj, Ij, qj⟩ => ?_
      have obh : ∀ b ∈ fp, ∃ o, sh.heap.get? b = some o := fun b hb => (T.obj _ _ sth b hb).imp fun _ z => z.1
      have fin : ∀ {s' : Shared} {H' : Hp}, L2.Inv (X.blk sd HD sc ce fp) ([] ++ pinsAt fp sh.heap) σi H' s' → Nx H' → ∃ m, m < n ∧ ∃ i H', L2.Inv (X.blk sd HD sc ce fp) [] (wipe σ (own.map (·.2))) H' s' ∧ tn i s'.heap ∧ (∀ b ∈ fp, H' b = none) ∧ U i m H' := fun {s' H'} I' nx => by
        obtain ⟨I2, keep, none'⟩ := back_to (σ8 := wipe σ (own.map (·.2))) (σ9 := σi) I' (by rw [← hwi, wipe_length]) (fun j v e => by rw [← hwi] at e; exact (wipe_some e).1) obh
        obtain ⟨m', hm, w'⟩ := hNx H' nx
        exact ⟨m', hm, i + 1, H', I2, T.keep _ _ _ sth keep, none', w'⟩
      cases b with
      | false =>
        simp only [Bool.false_eq_true, if_false] at qj ⊢
        exact fin Ij qj
      | true =>
        simp only [if_true] at qj ⊢
        refine thnF (pk.run _ sj σi Hj _ Ij qj) fun a sk ⟨ya, Hk, Ik, ra, k, l, ek, hDk, hz, nz⟩ => ?_
        subst ek
        exact d_addX (X := X.blk sd HD sc ce fp) Ik hDk hz ra fun sl Il => fin Il nz
  exact codeAny_compStart_set big (T.self X.A 0 _ _ _ ste big)
end
end RR
end
section
set_option Elab.async false
set_option linter.all false
set_option maxRecDepth 100000
set_option maxHeartbeats 4000000
/-! sorted(set of texts) -/
namespace RR
open PySem PySem.Spec PyProof.Rows L2 PySem.Froz
section
variable {P : Program} {w : World} {A : Around} {E : Value → Shared → Prop} {s : Shared}
theorem el_str {es : List (Int × Value)} (h : ElemsOf (strKind P w) es) : ∀ e ∈ es, ∃ x t, e.2 = Value.str x t := fun e he => by
  obtain ⟨⟨k, q, _⟩, _⟩ := h e he
  have q : Value.isStrOf k e.2 = true := q
  cases hv : e.2 <;> rw [hv] at q <;> first | exact ⟨_, _, rfl⟩ | (exact absurd q (by simp [Value.isStrOf]))
theorem el_is {e : Int × Value} (h : ∃ x t, e.2 = Value.str x t) (k : Str) : (strKind P w).is k e.2 = true ↔ txtOf e = k := by
  obtain ⟨x, t, e1⟩ := h
  unfold txtOf
  rw [e1]
  show Value.isStrOf k (.str x t) = true ↔ x = k
  exact beq_iff_eq
theorem strs_are : ∀ vs : List Value, (∀ v ∈ vs, ∃ x t, v = Value.str x t) → StrsAre vs (vs.map fun v => txtOf (0, v))
  | [], _ => .nil
  | v :: vs, h => by
    obtain ⟨x, t, rfl⟩ := h v List.mem_cons_self
    exact .cons x t (strs_are vs fun u hu => h u (List.mem_cons_of_mem _ hu))
theorem sorted_setX {a : Addr} {l : List Str} {Q : Value → Shared → Prop} (R : TxAt P w s.heap a l) (hh : A.handled = none) (hb : l.length < scanBound)
    (hQ : ∀ s' p (out : Array Value) (c : Nat) (ns : List Str), (∀ b o, s.heap.get? b = some o → s'.heap.get? b = some o) → s'.gens = s.gens → s'.os = s.os → s.heap.objs.size ≤ p →
      s'.heap.get? p = some (seqObj "list" out c) → StrsAre out.toList ns → sortedS ns = true → ns.Perm l → Q (.ref p) s') :
    wpAny (model P w) A (call (.builtin "sorted") [.ref a]) Q E s := by
  obtain ⟨D, ho, F1, hr, hl, hpl⟩ := R
  obtain ⟨es, ep, t⟩ := D
  have hsz : es.size = l.length := F1.sz
  have hel : ElemsOf (strKind P w) es.toList := F1.el
  have hst := el_str hel
  refine Calls.call_function_entry kind_sorted plain_sorted entry_sorted (args_sorted1 _) ?_
  unfold Builtin.«sorted»
  refine wpAny_bind (m := checkCount "sorted" 1 1 _) (wpAny_pure ?_)
  refine wpAny_bind (collect_set (A := A.in1) hh ⟨_, ho, rfl, rfl⟩ F1.fit (by rw [hsz]; exact hb) hr hl fun s1 vs k1 hz g1 o1 pm => ?_)
  have hvl : vs.length = l.length := by rw [pm.length_eq, List.length_map, Array.length_toList]; exact hsz
  have hs : StrsAre vs (vs.map fun v => txtOf (0, v)) := strs_are vs fun v hv => by
    obtain ⟨e, he, q⟩ := List.mem_map.mp (pm.mem_iff.mp hv)
    rw [← q]
    exact hst e he
  have pk : (vs.map fun v => txtOf (0, v)).Perm (es.toList.map txtOf) := by
    have q := pm.map fun v => txtOf (0, v)
    rw [List.map_map] at q
    exact q
  have hL : vs.length ≤ sizeLine := by rw [hvl]; exact fits_of_scanBound hb
  refine wpAny_bind (wpAny_newList ?_ hL)
  have hoL : (s1.heap.push (seqObj "list" vs.toArray 0)).get? s1.heap.objs.size = some (seqObj "list" vs.toArray 0) := Heap.get?_push_size _ rfl
  refine wpAny_bind (wpAny_holding (wpAny_call_entry slot_list_sort ⟨_, hoL, rfl⟩ entry_list_sort (list_sort_treeKAny strKind_oneLt hoL hs.keysOf (fun v₁ v₂ rest e => keyKind_strs (by rw [← e]; exact hs)) hL fun st' hp hso => ⟨_, rfl, ?_⟩) (args_list_sort _)))
  obtain ⟨ss, h1, h2, h3⟩ := sorted_out_str hs hp hso
  obtain ⟨c, hc⟩ := sortedHeap_at (vs := vs) (out := (arrOf st').map (·.2)) hoL
  have pn := h2.trans pk
  refine wpAny_pure ⟨_, rfl, hQ _ s1.heap.objs.size _ c ss (fun b u e => ?_) g1 o1 hz hc h1 h3 (pn.trans hpl)⟩
  have q := k1 b u e
  have hlt := Heap.lt_size q
  show (sortedHeap (s1.heap.push (seqObj "list" vs.toArray 0)) s1.heap.objs.size vs ((arrOf st').map (·.2))).get? b = some u
  rw [sortedHeap_old (Nat.ne_of_lt hlt) (by rw [size_push']; exact Nat.lt_succ_of_lt hlt)]
  exact Heap.get?_push_of_some _ q
end
/-- sorted(set of texts) -/
def rSortedX (P : Program) (w : World) : List V → Hp → VK → Prop := fun vs H Q => ∃ (a : Addr) (l : List Str), vs = [V.ref a] ∧ H a = some (SetX P w a l) ∧ l.length < scanBound ∧
  ∀ (ns : List Str) (p : Addr), sortedS ns = true → ns.Perm l → H p = none → Q (.ref p) (upd H p (.lst (ns.map V.str)))
theorem cr_sortedX {X : Cx} (hc : X.calm = true) : CallR X (.builtin "sorted") (rSortedX X.prog X.w) := by
  intro pins s σ H vs us Q I r h
  obtain ⟨a, l, rfl, ha, hb, q⟩ := h
  have R := setX_get I ha
  rw [Vals.ref1 r]
  refine sorted_setX R (I.ok.hd hc) hb fun s' p out c ns k g o hp hg hi hs hm => ?_
  have hlen : (ns.map V.str).length ≤ sizeLine := by rw [List.length_map, hm.length_eq]; exact fits_of_scanBound hb
  have hn : H p = none := I.hok.fresh hp
  have J : L2.Inv X pins σ (upd H p (.lst (ns.map V.str))) { s with heap := s'.heap, gens := s'.gens, drawn := s'.drawn, toks := s'.toks } :=
    I.call (ch := []) (Un.laid k hp hn) (I.hok.laid k hp ⟨hlen, out.toList, c, vals_of_strs hi, hg⟩) (by rw [g]; exact I.bare) (fun _ z => nomatch z)
  obtain ⟨h2, g2, d2, t2, o2⟩ := s'
  obtain rfl : o2 = s.os := o
  exact ⟨.ref p, _, J, rfl, q ns p hs hm hn⟩
end RR
end
section
set_option Elab.async false
set_option linter.all false
set_option maxRecDepth 100000
set_option maxHeartbeats 4000000
/-! the tests within a test: all of them, put together each once, met by a plain walk -/
namespace LM
open PySem DL
/-! ### data of texts and tuples alone -/
mutual
def PlD : PyData → Bool
  | .str _ => true
  | .tuple ds => PlDs ds
  | _ => false
def PlDs : List PyData → Bool
  | [] => true
  | d :: ds => PlD d && PlDs ds
end
theorem plDs_iff : ∀ ds : List PyData, PlDs ds = true ↔ ∀ d ∈ ds, PlD d = true
  | [] => ⟨fun _ d h => (nomatch h), fun _ => (by unfold PlDs; rfl)⟩
  | d :: ds => by
    rw [PlDs, Bool.and_eq_true, plDs_iff ds]
    refine ⟨fun h x hx => (List.mem_cons.mp hx).elim (fun e => e ▸ h.1) (h.2 x), fun h => ⟨h d List.mem_cons_self, fun x hx => h x (List.mem_cons_of_mem _ hx)⟩⟩
mutual
theorem eqv_pl : ∀ (a b : PyData), PlD a = true → (PyData.eqv b a = true ↔ b = a)
  | .str s, b, _ => by
    cases b <;> simp [PyData.eqv]
  | .tuple as, b, h => by
    have h : PlDs as = true := by rw [PlD] at h; exact h
    cases b with
    | tuple bs =>
      rw [PyData.eqv, eqvs_pl as bs h]
      exact ⟨fun e => by rw [e], fun e => by injection e⟩
    | _ => simp [PyData.eqv]
  | .none, _, h => by unfold PlD at h; cases h
  | .bool _, _, h => by unfold PlD at h; cases h
  | .int _, _, h => by unfold PlD at h; cases h
  | .list _, _, h => by unfold PlD at h; cases h
  | .dict _, _, h => by unfold PlD at h; cases h
theorem eqvs_pl : ∀ (as bs : List PyData), PlDs as = true → (PyData.eqvAll bs as = true ↔ bs = as)
  | [], bs, _ => by cases bs <;> simp [PyData.eqvAll]
  | a :: as, bs, h => by
    rw [PlDs, Bool.and_eq_true] at h
    cases bs with
    | nil => simp [PyData.eqvAll]
    | cons b bs =>
      rw [PyData.eqvAll, Bool.and_eq_true, eqv_pl a b h.1, eqvs_pl as bs h.2]
      exact ⟨fun e => by rw [e.1, e.2], fun e => by injection e with e1 e2; exact ⟨e1, e2⟩⟩
end
noncomputable def inD (d : PyData) (l : List PyData) : Bool := @decide (d ∈ l) (Classical.propDecidable _)
theorem inD_iff {d : PyData} {l : List PyData} : inD d l = true ↔ d ∈ l := by unfold inD; exact @decide_eq_true_iff _ (Classical.propDecidable _)
theorem inD_no {d : PyData} {l : List PyData} : inD d l = false ↔ d ∉ l := by
  rw [← inD_iff]
  cases inD d l <;> simp
theorem any_pl {d : PyData} {l : List PyData} (h : PlD d = true) : (l.any fun z => PyData.eqv z d) = inD d l := by
  rw [Bool.eq_iff_iff, inD_iff, List.any_eq_true]
  exact ⟨fun ⟨x, hx, e⟩ => by rw [← (eqv_pl d x h).mp e]; exact hx, fun hd => ⟨d, hd, (eqv_pl d d h).mpr rfl⟩⟩
def kindLen : Nat → Nat
  | 1 => 1
  | 2 => 1
  | 3 => 2
  | _ => 0
/-- the word of a test, its first and its second text, told by the data -/
def wD : PyData → Str
  | .tuple (.str w :: _) => w
  | _ => ""
def a1D : PyData → Str
  | .tuple (_ :: .str a :: _) => a
  | _ => ""
def a2D : PyData → Str
  | .tuple (_ :: _ :: .str a :: _) => a
  | _ => ""
namespace Tst
/-! ### the tests right in a test -/
def kids : Tst → List Tst
  | leaf _ _ => []
  | un _ t => [t]
  | many _ ts => ts
mutual
def WF : Tst → Prop
  | leaf w as => lawKind w < 4 ∧ as.length = kindLen (lawKind w)
  | un w t => lawKind w = 5 ∧ WF t
  | many w ts => lawKind w = 4 ∧ WFs ts
def WFs : List Tst → Prop
  | [] => True
  | t :: ts => WF t ∧ WFs ts
end
mutual
def subT : Tst → List Tst
  | leaf w as => [leaf w as]
  | un w t => un w t :: subT t
  | many w ts => many w ts :: subTs ts
def subTs : List Tst → List Tst
  | [] => []
  | t :: ts => subT t ++ subTs ts
end
noncomputable def putT (t : Tst) (l : List Tst) : List Tst := if inD t.toD (l.map toD) = true then l else l ++ [t]
mutual
noncomputable def colT : Tst → List Tst → List Tst
  | leaf w as, l => putT (leaf w as) l
  | un w t, l => putT (un w t) (colT t l)
  | many w ts, l => putT (many w ts) (colTs ts l)
noncomputable def colTs : List Tst → List Tst → List Tst
  | [], l => l
  | t :: ts, l => colTs ts (colT t l)
end
def metT : Nat → List Tst → List Tst → List Tst
  | 0, _, acc => acc
  | n + 1, ws, acc => match ws.getLast? with
    | none => metT n ws acc
    | some t => metT n (ws.dropLast ++ t.kids) (acc ++ [t])
theorem wfs_iff : ∀ ts : List Tst, WFs ts ↔ ∀ t ∈ ts, WF t
  | [] => ⟨fun _ t h => (nomatch h), fun _ => (by unfold WFs; trivial)⟩
  | t :: ts => by
    unfold WFs
    rw [wfs_iff ts]
    exact ⟨fun h x hx => (List.mem_cons.mp hx).elim (fun e => e ▸ h.1) (h.2 x), fun h => ⟨h t List.mem_cons_self, fun x hx => h x (List.mem_cons_of_mem _ hx)⟩⟩
theorem wf_kids {t : Tst} (h : WF t) : ∀ s ∈ t.kids, WF s := by
  cases t with
  | leaf w as => intro s hs; cases hs
  | un w t => unfold WF at h; intro s hs; rw [List.mem_singleton.mp hs]; exact h.2
  | many w ts => unfold WF at h; exact (wfs_iff ts).mp h.2
theorem subT_eq (t : Tst) : subT t = t :: subTs t.kids := by
  cases t with
  | leaf w as => unfold subT kids subTs; rfl
  | un w t => 
    show subT (un w t) = un w t :: subTs [t]
    unfold subTs subTs
    rw [List.append_nil]
    conv => lhs; unfold subT
  | many w ts => 
    show subT (many w ts) = many w ts :: subTs ts
    conv => lhs; unfold subT
theorem colTs_nil (l : List Tst) : colTs [] l = l := by unfold colTs; rfl
theorem colTs_cons (t : Tst) (ts l : List Tst) : colTs (t :: ts) l = colTs ts (colT t l) := by conv => lhs; unfold colTs
theorem colTs_snoc : ∀ (ts : List Tst) (t : Tst) (l : List Tst), colTs (ts ++ [t]) l = colT t (colTs ts l)
  | [], t, l => by rw [List.nil_append, colTs_cons, colTs_nil, colTs_nil]
  | s :: ts, t, l => by rw [List.cons_append, colTs_cons, colTs_cons, colTs_snoc ts]
theorem colT_eq (t : Tst) (l : List Tst) : colT t l = putT t (colTs t.kids l) := by
  cases t with
  | leaf w as => 
    show colT (leaf w as) l = putT _ (colTs [] l)
    rw [colTs_nil]; unfold colT; rfl
  | un w t => 
    show colT (un w t) l = putT _ (colTs [t] l)
    rw [colTs_cons, colTs_nil]
    conv => lhs; unfold colT
  | many w ts => 
    show colT (many w ts) l = putT _ (colTs ts l)
    conv => lhs; unfold colT
theorem mem_subTs {s : Tst} : ∀ {ts : List Tst}, s ∈ subTs ts ↔ ∃ t ∈ ts, s ∈ subT t
  | [] => by unfold subTs; simp
  | t :: ts => by
    unfold subTs
    rw [List.mem_append, mem_subTs (ts := ts)]
    simp
/-- what the putting together keeps -/
structure Tgt (l : List Tst) : Prop where
  nd : (l.map toD).Nodup
  cl : ∀ a s b, l = a ++ s :: b → ∀ y ∈ subTs s.kids, y.toD ∈ a.map toD
theorem Tgt.nil : Tgt [] := ⟨List.nodup_nil, fun a s b h => by simp at h⟩
theorem snoc_split {α : Type} {l a b : List α} {t s : α} (h : l ++ [t] = a ++ s :: b) : (∃ b', b = b' ++ [t] ∧ l = a ++ s :: b') ∨ (b = [] ∧ s = t ∧ a = l) := by
  rcases List.eq_nil_or_concat b with rfl | ⟨b', x, rfl⟩
  · right
    have := List.append_inj' h (by simp)
    exact ⟨rfl, by simpa using this.2.symm, this.1.symm⟩
  · left
    rw [List.concat_eq_append] at h ⊢
    have e : l ++ [t] = (a ++ s :: b') ++ [x] := by rw [h]; simp
    have := List.append_inj' e rfl
    have hx : t = x := by simpa using this.2
    exact ⟨b', by rw [hx], this.1⟩
theorem Tgt.put {l : List Tst} {t : Tst} (h : Tgt l) (hk : ∀ y ∈ subTs t.kids, y.toD ∈ l.map toD) : Tgt (putT t l) := by
  unfold putT
  split
  · exact h
  · rename_i c
    have c : t.toD ∉ l.map toD := fun z => c (inD_iff.mpr z)
    refine ⟨?_, fun a s b e => ?_⟩
    · rw [List.map_append, List.nodup_append]
      refine ⟨h.nd, by simp, fun x hx y hy e => c ?_⟩
      have : y = t.toD := by simpa using hy
      rw [← this, ← e]; exact hx
    · rcases snoc_split e with ⟨b', rfl, e2⟩ | ⟨_, rfl, rfl⟩
      · exact h.cl a s b' e2
      · exact hk
theorem put_all (t : Tst) (l m : List Tst) (h : Tgt m) (h2 : ∃ r, m = l ++ r ∧ (∀ s ∈ r, s ∈ subTs t.kids) ∧ r.length ≤ (subTs t.kids).length) (h3 : ∀ s ∈ subTs t.kids, s.toD ∈ m.map toD) :
    Tgt (putT t m) ∧ (∃ r, putT t m = l ++ r ∧ (∀ s ∈ r, s ∈ subT t) ∧ r.length ≤ (subT t).length) ∧ ∀ s ∈ subT t, s.toD ∈ (putT t m).map toD := by
  obtain ⟨r, e, hr, hl⟩ := h2
  have es := subT_eq t
  have up : ∀ x ∈ m.map toD, x ∈ (putT t m).map toD := fun x hx => by
    unfold putT
    split
    · exact hx
    · rw [List.map_append]; exact List.mem_append_left _ hx
  refine ⟨h.put h3, ?_, fun s hs => ?_⟩
  · unfold putT
    split
    · exact ⟨r, e, fun s hs => by rw [es]; exact List.mem_cons_of_mem _ (hr s hs), by rw [es, List.length_cons]; omega⟩
    · refine ⟨r ++ [t], by rw [e, List.append_assoc], fun s hs => ?_, by rw [es, List.length_append, List.length_cons]; simp only [List.length_cons, List.length_nil]; omega⟩
      rw [es]
      rcases List.mem_append.mp hs with z | z
      · exact List.mem_cons_of_mem _ (hr s z)
      · rw [List.mem_singleton.mp z]; exact List.mem_cons_self
  · rw [es] at hs
    rcases List.mem_cons.mp hs with rfl | hs
    · unfold putT
      split
      · rename_i c; exact inD_iff.mp c
      · rw [List.map_append]; exact List.mem_append_right _ (by simp)
    · exact up _ (h3 s hs)
mutual
theorem col_all : ∀ (t : Tst) (l : List Tst), Tgt l → Tgt (colT t l) ∧ (∃ r, colT t l = l ++ r ∧ (∀ s ∈ r, s ∈ subT t) ∧ r.length ≤ (subT t).length) ∧ ∀ s ∈ subT t, s.toD ∈ (colT t l).map toD
  | leaf w as, l, h => put_all (leaf w as) l l h (by unfold kids subTs; exact ⟨[], by simp, fun s hs => (by cases hs), Nat.le_refl _⟩) (by unfold kids subTs; exact fun s hs => (by cases hs)) |> fun z => by
    have e := colT_eq (leaf w as) l
    rw [show (leaf w as).kids = [] from rfl, colTs_nil] at e
    rw [e]; exact z
  | un w t, l, h => by
    obtain ⟨h1, ⟨r, e1, hr, hl⟩, h3⟩ := col_all t l h
    have e := colT_eq (un w t) l
    rw [show (un w t).kids = [t] from rfl, colTs_cons, colTs_nil] at e
    have es : subTs (un w t).kids = subT t := by
      show subTs [t] = _
      unfold subTs subTs; rw [List.append_nil]
    rw [e]
    exact put_all (un w t) l (colT t l) h1 (by rw [es]; exact ⟨r, e1, hr, hl⟩) (by rw [es]; exact h3)
  | many w ts, l, h => by
    obtain ⟨h1, h2, h3⟩ := cols_all ts l h
    have e := colT_eq (many w ts) l
    rw [show (many w ts).kids = ts from rfl] at e
    rw [e]
    exact put_all (many w ts) l (colTs ts l) h1 h2 h3
theorem cols_all : ∀ (ts : List Tst) (l : List Tst), Tgt l → Tgt (colTs ts l) ∧ (∃ r, colTs ts l = l ++ r ∧ (∀ s ∈ r, s ∈ subTs ts) ∧ r.length ≤ (subTs ts).length) ∧ ∀ s ∈ subTs ts, s.toD ∈ (colTs ts l).map toD
  | [], l, h => by rw [colTs_nil]; exact ⟨h, ⟨[], by simp, fun s hs => (by cases hs), Nat.zero_le _⟩, fun s hs => by unfold subTs at hs; cases hs⟩
  | t :: ts, l, h => by
    obtain ⟨h1, ⟨r1, e1, hr1, hl1⟩, h3⟩ := col_all t l h
    obtain ⟨k1, ⟨r2, e2, hr2, hl2⟩, k3⟩ := cols_all ts (colT t l) h1
    have es : subTs (t :: ts) = subT t ++ subTs ts := by conv => lhs; unfold subTs
    rw [colTs_cons]
    refine ⟨k1, ⟨r1 ++ r2, by rw [e2, e1, List.append_assoc], fun s hs => ?_, by rw [es, List.length_append, List.length_append]; omega⟩, fun s hs => ?_⟩
    · rw [es]
      rcases List.mem_append.mp hs with z | z
      · exact List.mem_append_left _ (hr1 s z)
      · exact List.mem_append_right _ (hr2 s z)
    · rw [es] at hs
      rcases List.mem_append.mp hs with z | z
      · have := h3 s z
        rw [e2, List.map_append]
        exact List.mem_append_left _ this
      · exact k3 s z
end
end Tst
end LM
end
section
set_option Elab.async false
set_option linter.all false
set_option maxRecDepth 100000
set_option maxHeartbeats 4000000
namespace LM
open PySem DL
namespace Tst
/-! ### a test is no test within itself -/
mutual
theorem size_sub : ∀ (t : Tst), ∀ s ∈ subT t, sizeOf s.toD ≤ sizeOf t.toD
  | leaf w as, s, h => by
    unfold subT at h
    rw [List.mem_singleton.mp h]; exact Nat.le_refl _
  | un w t, s, h => by
    unfold subT at h
    rcases List.mem_cons.mp h with rfl | h
    · exact Nat.le_refl _
    · have := size_sub t s h
      rw [toD_un]
      simp only [PyData.tuple.sizeOf_spec, List.cons.sizeOf_spec]
      omega
  | many w ts, s, h => by
    unfold subT at h
    rcases List.mem_cons.mp h with rfl | h
    · exact Nat.le_refl _
    · have := size_subs ts s h
      rw [toD_many]
      simp only [PyData.tuple.sizeOf_spec, List.cons.sizeOf_spec]
      omega
theorem size_subs : ∀ (ts : List Tst), ∀ s ∈ subTs ts, sizeOf s.toD ≤ sizeOf (ts.map toD)
  | [], s, h => by unfold subTs at h; cases h
  | t :: ts, s, h => by
    unfold subTs at h
    rw [List.map_cons]
    simp only [List.cons.sizeOf_spec]
    rcases List.mem_append.mp h with h | h
    · have := size_sub t s h; omega
    · have := size_subs ts s h; omega
end
theorem size_lt (t : Tst) : ∀ s ∈ subTs t.kids, sizeOf s.toD < sizeOf t.toD := by
  intro s h
  cases t with
  | leaf w as => unfold kids subTs at h; cases h
  | un w t =>
    unfold kids subTs subTs at h
    rw [List.append_nil] at h
    have := size_sub t s h
    rw [toD_un]
    simp only [PyData.tuple.sizeOf_spec, List.cons.sizeOf_spec]
    omega
  | many w ts =>
    have := size_subs ts s h
    rw [toD_many]
    simp only [PyData.tuple.sizeOf_spec, List.cons.sizeOf_spec]
    omega
/-- all tests in a test, each once -/
noncomputable def told (t : Tst) : List Tst := colT t []
theorem told_last (t : Tst) : ∃ r, told t = r ++ [t] := by
  unfold told
  rw [colT_eq]
  obtain ⟨_, ⟨r, e, hr, _⟩, _⟩ := cols_all t.kids [] .nil
  rw [List.nil_append] at e
  unfold putT
  rw [if_neg]
  · exact ⟨_, rfl⟩
  · intro z
    obtain ⟨s, hs, e2⟩ := List.mem_map.mp (inD_iff.mp z)
    rw [e] at hs
    have := size_lt t s (hr s hs)
    rw [e2] at this
    omega
theorem told_tgt (t : Tst) : Tgt (told t) := (col_all t [] .nil).1
theorem told_sub {t s : Tst} (h : s ∈ told t) : s ∈ subT t := by
  obtain ⟨_, ⟨r, e, hr, _⟩, _⟩ := col_all t [] .nil
  rw [List.nil_append] at e
  unfold told at h
  rw [e] at h
  exact hr s h
theorem told_has {t s : Tst} (h : s ∈ subT t) : s.toD ∈ (told t).map toD := (col_all t [] .nil).2.2 s h
theorem told_len (t : Tst) : (told t).length ≤ (subT t).length := by
  obtain ⟨_, ⟨r, e, _, hl⟩, _⟩ := col_all t [] .nil
  rw [List.nil_append] at e
  unfold told
  rw [e]; exact hl
/-! ### the plain walk -/
theorem subTs_app : ∀ (a b : List Tst), subTs (a ++ b) = subTs a ++ subTs b
  | [], b => by
    have : subTs [] = [] := by unfold subTs; rfl
    rw [List.nil_append, this, List.nil_append]
  | t :: a, b => by
    rw [List.cons_append]
    have e : ∀ ts, subTs (t :: ts) = subT t ++ subTs ts := fun ts => by conv => lhs; unfold subTs
    rw [e, e, subTs_app a b, List.append_assoc]
theorem subTs_one (t : Tst) : subTs [t] = subT t := by unfold subTs subTs; rw [List.append_nil]
theorem metT_snoc (n : Nat) (ws : List Tst) (t : Tst) (acc : List Tst) : metT (n + 1) (ws ++ [t]) acc = metT n (ws ++ t.kids) (acc ++ [t]) := by
  conv => lhs; unfold metT
  rw [List.getLast?_concat]
  show metT n ((ws ++ [t]).dropLast ++ t.kids) _ = _
  rw [List.dropLast_concat]
theorem metT_nil : ∀ (n : Nat) (acc : List Tst), metT n [] acc = acc
  | 0, acc => by unfold metT; rfl
  | n + 1, acc => by
    conv => lhs; unfold metT
    exact metT_nil n acc
theorem metT_mem : ∀ (n : Nat) (ws acc : List Tst), (subTs ws).length ≤ n → ∀ s, s ∈ metT n ws acc ↔ s ∈ acc ∨ s ∈ subTs ws
  | n, ws, acc, h, s => by
    rcases List.eq_nil_or_concat ws with rfl | ⟨v, t, rfl⟩
    · have : subTs [] = [] := by unfold subTs; rfl
      rw [metT_nil, this]; simp
    · rw [List.concat_eq_append] at h ⊢
      have e1 : subTs (v ++ [t]) = subTs v ++ (t :: subTs t.kids) := by rw [subTs_app, subTs_one, subT_eq]
      rw [e1] at h ⊢
      rw [List.length_append, List.length_cons] at h
      cases n with
      | zero => omega
      | succ n =>
        rw [metT_snoc, metT_mem n (v ++ t.kids) (acc ++ [t]) (by rw [subTs_app, List.length_append]; omega) s, subTs_app]
        simp only [List.mem_append, List.mem_cons, List.mem_singleton, List.not_mem_nil, or_false]
        constructor
        · rintro ((h | h) | h | h)
          · exact .inl h
          · exact .inr (.inr (.inl h))
          · exact .inr (.inl h)
          · exact .inr (.inr (.inr h))
        · rintro (h | h | h | h)
          · exact .inl (.inl h)
          · exact .inr (.inl h)
          · exact .inl (.inr h)
          · exact .inr (.inr h)
theorem metT_acc : ∀ (n : Nat) (ws acc : List Tst), metT n ws acc = acc ++ metT n ws []
  | 0, ws, acc => by unfold metT; rw [List.append_nil]
  | n + 1, ws, acc => by
    rcases List.eq_nil_or_concat ws with rfl | ⟨v, t, rfl⟩
    · rw [metT_nil, metT_nil, List.append_nil]
    · rw [List.concat_eq_append, metT_snoc, metT_snoc, metT_acc n _ (acc ++ [t]), metT_acc n _ ([] ++ [t]), List.nil_append, List.append_assoc]
theorem metT_len : ∀ (n : Nat) (ws : List Tst), (metT n ws []).length ≤ n
  | 0, ws => by unfold metT; exact Nat.le_refl _
  | n + 1, ws => by
    rcases List.eq_nil_or_concat ws with rfl | ⟨v, t, rfl⟩
    · rw [metT_nil]; exact Nat.zero_le _
    · have := metT_len n (v ++ t.kids)
      rw [List.concat_eq_append, metT_snoc, metT_acc, List.nil_append, List.length_append, List.length_singleton]; omega
theorem metT_sub {t s : Tst} (h : (subT t).length ≤ 300) : s ∈ metT 300 [t] [] ↔ s ∈ subT t := by
  have z := metT_mem 300 [t] [] (by rw [subTs_one]; exact h) s
  rw [subTs_one] at z
  exact z.trans (by simp)
theorem metT_tail {t : Tst} (h : (subT t).length ≤ 300) : ∃ r, metT 300 [t] [] = t :: r ∧ ∀ s, s ∈ r ↔ s ∈ subTs t.kids := by
  refine ⟨metT 299 t.kids [], ?_, fun s => ?_⟩
  · have := metT_snoc 299 [] t []
    simp only [List.nil_append] at this
    exact this.trans (metT_acc 299 t.kids [t])
  · have z := metT_mem 299 t.kids [] (by rw [subT_eq, List.length_cons] at h; omega) s
    exact z.trans (by simp)
/-! ### what holds of all tests in a test -/
mutual
theorem all_sub {p : Tst → Prop} (hk : ∀ t, p t → ∀ s ∈ t.kids, p s) : ∀ t, p t → ∀ s ∈ subT t, p s
  | leaf w as, h, s, hs => by
    unfold subT at hs
    rw [List.mem_singleton.mp hs]; exact h
  | un w t, h, s, hs => by
    unfold subT at hs
    rcases List.mem_cons.mp hs with rfl | hs
    · exact h
    · exact all_sub hk t (hk _ h t (by unfold kids; simp)) s hs
  | many w ts, h, s, hs => by
    unfold subT at hs
    rcases List.mem_cons.mp hs with rfl | hs
    · exact h
    · exact all_subs hk ts (fun t ht => hk _ h t ht) s hs
theorem all_subs {p : Tst → Prop} (hk : ∀ t, p t → ∀ s ∈ t.kids, p s) : ∀ ts : List Tst, (∀ t ∈ ts, p t) → ∀ s ∈ subTs ts, p s
  | [], h, s, hs => by unfold subTs at hs; cases hs
  | t :: ts, h, s, hs => by
    unfold subTs at hs
    rcases List.mem_append.mp hs with hs | hs
    · exact all_sub hk t (h t List.mem_cons_self) s hs
    · exact all_subs hk ts (fun x hx => h x (List.mem_cons_of_mem _ hx)) s hs
end
/-- well formed, not too deep, texts can be laid -/
structure Okt (n : Nat) (t : Tst) : Prop where
  wf : WF t
  lay : t.toD.canLay0 = true
  dep : t.toD.depth ≤ n
  len : (subT t).length ≤ 15
theorem sub_len {t : Tst} : ∀ s ∈ t.kids, (subT s).length ≤ (subT t).length := by
  intro s hs
  rw [subT_eq t, List.length_cons]
  have : ∀ (ts : List Tst), s ∈ ts → (subT s).length ≤ (subTs ts).length := by
    intro ts
    induction ts with
    | nil => intro h; cases h
    | cons t ts ih =>
      intro h
      have e : subTs (t :: ts) = subT t ++ subTs ts := by conv => lhs; unfold subTs
      rw [e, List.length_append]
      rcases List.mem_cons.mp h with rfl | h
      · omega
      · have := ih h; omega
  have := this _ hs
  omega
theorem dep_all : ∀ {ds : List PyData}, ∀ d ∈ ds, d.depth ≤ PyData.depthAll ds
  | e :: ds, d, h => by
    unfold PyData.depthAll
    rcases List.mem_cons.mp h with rfl | h
    · omega
    · have := dep_all d h; omega
theorem Okt.kids {n : Nat} {t : Tst} (h : Okt n t) : ∀ s ∈ t.kids, Okt n s := by
  intro s hs
  refine ⟨wf_kids h.wf s hs, ?_, ?_, Nat.le_trans (sub_len s hs) h.len⟩
  · have l := h.lay
    cases t with
    | leaf w as => cases hs
    | un w t =>
      rw [toD_un] at l
      rw [List.mem_singleton.mp hs]
      exact lay_tup_inv l _ (by simp)
    | many w ts =>
      rw [toD_many] at l
      exact lay_tup_inv (lay_tup_inv l (.tuple (ts.map toD)) (by simp)) _ (List.mem_map_of_mem hs)
  · have l := h.dep
    cases t with
    | leaf w as => cases hs
    | un w t =>
      rw [toD_un] at l
      rw [List.mem_singleton.mp hs]
      unfold PyData.depth at l
      have := dep_all (ds := [.str w, t.toD]) t.toD (by simp)
      omega
    | many w ts =>
      rw [toD_many] at l
      unfold PyData.depth at l
      have h1 := dep_all (ds := [.str w, .tuple (ts.map toD)]) (.tuple (ts.map toD)) (by simp)
      unfold PyData.depth at h1
      have h2 := dep_all (ds := ts.map toD) s.toD (List.mem_map_of_mem hs)
      omega
theorem Okt.sub {n : Nat} {t : Tst} (h : Okt n t) : ∀ s ∈ subT t, Okt n s := all_sub (fun t ht => ht.kids) t h
mutual
theorem pl_toD : ∀ t : Tst, PlD t.toD = true
  | leaf w as => by
    rw [toD_leaf]
    unfold PlD PlDs
    rw [Bool.and_eq_true]
    refine ⟨by unfold PlD; rfl, (plDs_iff _).mpr fun d hd => ?_⟩
    obtain ⟨a, _, rfl⟩ := List.mem_map.mp hd
    unfold PlD; rfl
  | un w t => by
    rw [toD_un]
    unfold PlD
    refine (plDs_iff _).mpr fun d hd => ?_
    simp only [List.mem_cons, List.not_mem_nil, or_false] at hd
    rcases hd with rfl | rfl
    · unfold PlD; rfl
    · exact pl_toD t
  | many w ts => by
    rw [toD_many]
    unfold PlD
    refine (plDs_iff _).mpr fun d hd => ?_
    simp only [List.mem_cons, List.not_mem_nil, or_false] at hd
    rcases hd with rfl | rfl
    · unfold PlD; rfl
    · unfold PlD
      exact (plDs_iff _).mpr (pl_toDs ts)
theorem pl_toDs : ∀ ts : List Tst, ∀ d ∈ ts.map toD, PlD d = true
  | [], d, h => by cases h
  | t :: ts, d, h => by
    rw [List.map_cons] at h
    rcases List.mem_cons.mp h with rfl | h
    · exact pl_toD t
    · exact pl_toDs ts d h
end
end Tst
end LM
end
section
set_option Elab.async false
set_option linter.all false
set_option maxRecDepth 100000
set_option maxHeartbeats 4000000
namespace LM
open PySem DL
theorem sAt_in {l : List Str} {p : Str → Prop} {i : Int} (h0 : 0 ≤ i) (h1 : i < (l.length : Int)) (h : ∀ x ∈ l, p x) : p (sAt l i) := by
  unfold sAt
  rw [List.getD_eq_getElem?_getD, List.getElem?_eq_getElem (by omega : i.toNat < l.length)]
  exact h _ (List.getElem_mem _)
namespace Tst
theorem wf_own (ds : List Int) : WF (ownT ds) := by
  unfold ownT
  dsimp only
  split
  · unfold WF; exact ⟨by decide +kernel, by show 1 = kindLen (lawKind "name"); decide +kernel⟩
  split
  · unfold WF; exact ⟨by decide +kernel, by show 1 = kindLen (lawKind "mark"); decide +kernel⟩
  split
  · unfold WF; exact ⟨by decide +kernel, by show 2 = kindLen (lawKind "value"); decide +kernel⟩
  split
  · unfold WF; exact ⟨by decide +kernel, by show 1 = kindLen (lawKind "text"); decide +kernel⟩
  split
  · unfold WF; exact ⟨by decide +kernel, by show 0 = kindLen (lawKind "any"); decide +kernel⟩
  · unfold WF; exact ⟨by decide +kernel, by show 0 = kindLen (lawKind "first"); decide +kernel⟩
theorem wf_lawT : ∀ (n : Nat) (ds : List Int) (b : Bool), WF (lawT n ds b)
  | 0, ds, _ => wf_own ds
  | n + 1, ds, b => by
    have ih := wf_lawT n
    have m2 : ∀ i : Int, 0 ≤ i % 2 ∧ i % 2 < 2 := fun i => by omega
    unfold lawT
    dsimp only
    split
    · exact wf_own ds
    rename_i h3
    split
    · unfold WF; exact ⟨by decide +kernel, ih _ _⟩
    rename_i h5
    split
    · rename_i h9
      unfold WF
      exact ⟨sAt_in (l := ["under", "in", "next", "behind"]) (p := fun x => lawKind x = 5) (by omega) (by show dAt ds 3 % 14 - 5 < 4; omega) (by decide +kernel), ih _ _⟩
    split
    · unfold WF WFs WFs WFs
      refine ⟨?_, ih _ _, ih _ _, trivial⟩
      split <;> decide +kernel
    split
    · exact wf_own ds
    split
    · unfold WF
      exact ⟨sAt_in (l := ["over", "has"]) (p := fun x => lawKind x = 5) (m2 _).1 (m2 _).2 (by decide +kernel), ih _ _⟩
    · unfold WF
      refine ⟨?_, ?_⟩
      · exact sAt_in (l := ["last", "empty"]) (p := fun x => lawKind x < 4) (m2 _).1 (m2 _).2 (by decide +kernel)
      · exact sAt_in (l := ["last", "empty"]) (p := fun x => 0 = kindLen (lawKind x)) (m2 _).1 (m2 _).2 (by decide +kernel)
theorem dA0 : PyData.depthAll [] = 0 := by unfold PyData.depthAll; rfl
theorem dAc (d : PyData) (ds : List PyData) : PyData.depthAll (d :: ds) = max d.depth (PyData.depthAll ds) := by conv => lhs; unfold PyData.depthAll
theorem dTu (ds : List PyData) : (PyData.tuple ds).depth = PyData.depthAll ds + 1 := by conv => lhs; unfold PyData.depth
theorem dSt (w : Str) : (PyData.str w).depth = 0 := by unfold PyData.depth; rfl
theorem dep_strs : ∀ l : List Str, PyData.depthAll (l.map PyData.str) = 0
  | [] => dA0
  | a :: l => by rw [List.map_cons, dAc, dep_strs l, dSt]; rfl
theorem dep_leaf {w : Str} {as : List Str} : (leaf w as).toD.depth ≤ 1 := by
  rw [toD_leaf, dTu, dAc, dep_strs, dSt]; decide
theorem dep_un {w : Str} {t : Tst} : (un w t).toD.depth ≤ 1 + t.toD.depth := by
  rw [toD_un, dTu, dAc, dAc, dA0, dSt]; omega
theorem dep_two {w : Str} {s t : Tst} : (many w [s, t]).toD.depth ≤ 2 + max s.toD.depth t.toD.depth := by
  rw [toD_many, List.map_cons, List.map_cons, List.map_nil, dTu, dAc, dAc, dA0, dSt, dTu, dAc, dAc, dA0]; omega
theorem own_leaf (ds : List Int) : ∃ w as, ownT ds = leaf w as := by
  unfold ownT
  dsimp only
  split
  · exact ⟨_, _, rfl⟩
  split
  · exact ⟨_, _, rfl⟩
  split
  · exact ⟨_, _, rfl⟩
  split
  · exact ⟨_, _, rfl⟩
  split
  · exact ⟨_, _, rfl⟩
  · exact ⟨_, _, rfl⟩
theorem size_own (ds : List Int) : (ownT ds).toD.depth ≤ 1 ∧ (subT (ownT ds)).length = 1 := by
  obtain ⟨w, as, e⟩ := own_leaf ds
  rw [e]
  exact ⟨dep_leaf, by unfold subT; rfl⟩
def big : Nat → Nat
  | 0 => 1
  | n + 1 => 1 + 2 * big n
theorem size_lawT : ∀ (n : Nat) (ds : List Int) (b : Bool), (lawT n ds b).toD.depth ≤ 1 + 2 * n ∧ (subT (lawT n ds b)).length ≤ big n
  | 0, ds, _ => by
    have := size_own ds
    unfold lawT big
    omega
  | n + 1, ds, b => by
    have ih := size_lawT n
    have h0 := size_own ds
    have hu : ∀ w ds' b', (un w (lawT n ds' b')).toD.depth ≤ 1 + 2 * (n + 1) ∧ (subT (un w (lawT n ds' b'))).length ≤ big (n + 1) := fun w ds' b' => by
      have h1 := dep_un (w := w) (t := lawT n ds' b')
      have h2 := ih ds' b'
      have h3 : (subT (un w (lawT n ds' b'))).length = 1 + (subT (lawT n ds' b')).length := by
        rw [subT_eq, List.length_cons]
        show (subTs [_]).length + 1 = _
        rw [subTs_one]; omega
      unfold big
      omega
    have ho : (ownT ds).toD.depth ≤ 1 + 2 * (n + 1) ∧ (subT (ownT ds)).length ≤ big (n + 1) := by unfold big; omega
    unfold lawT
    dsimp only
    split
    · exact ho
    split
    · exact hu _ _ _
    split
    · exact hu _ _ _
    split
    · have h1 := ih (rot 5 ds) b
      have h2 := ih (rot 3 (rot 5 ds)) b
      have hd := @dep_two (if dAt ds 3 % 14 < 11 then "both" else "one") (lawT n (rot 5 ds) b) (lawT n (rot 3 (rot 5 ds)) b)
      refine ⟨by omega, ?_⟩
      rw [subT_eq, List.length_cons]
      show (subTs [_, _]).length + 1 ≤ _
      have e : ∀ s t, subTs [s, t] = subT s ++ subT t := fun s t => by
        have := subTs_app [s] [t]
        rw [subTs_one, subTs_one] at this
        exact this
      rw [e, List.length_append]
      unfold big
      omega
    split
    · exact ho
    split
    · exact hu _ _ _
    · refine ⟨Nat.le_trans dep_leaf (by omega), ?_⟩
      unfold subT big
      show 1 ≤ _
      omega
theorem okt_lawT (ds : List Int) (b : Bool) : Okt 7 (lawT 3 ds b) := ⟨wf_lawT 3 ds b, (clean_lawT 3 ds b).2, (size_lawT 3 ds b).1, (size_lawT 3 ds b).2⟩
/-! ### what a test looks like -/
theorem toD_head (t : Tst) : ∃ r, t.toD = .tuple (.str (wD t.toD) :: r) := by
  cases t with
  | leaf w as => rw [toD_leaf]; exact ⟨_, rfl⟩
  | un w t => rw [toD_un]; exact ⟨_, rfl⟩
  | many w ts => rw [toD_many]; exact ⟨_, rfl⟩
theorem leaf_of {t : Tst} (h : WF t) (hk : lawKind (wD t.toD) < 4) : ∃ as, t = leaf (wD t.toD) as ∧ as.length = kindLen (lawKind (wD t.toD)) := by
  cases t with
  | leaf w as =>
    unfold WF at h
    rw [toD_leaf]
    exact ⟨as, rfl, h.2⟩
  | un w t =>
    unfold WF at h
    rw [toD_un] at hk
    have : lawKind w < 4 := hk
    omega
  | many w ts =>
    unfold WF at h
    rw [toD_many] at hk
    have : lawKind w < 4 := hk
    omega
theorem one_of {t : Tst} (h : WF t) {w : Str} (hw : wD t.toD = w) (hk : kindLen (lawKind w) = 1) (h4 : lawKind w < 4) : t.toD = .tuple [.str w, .str (a1D t.toD)] := by
  obtain ⟨as, e, hl⟩ := leaf_of h (by rw [hw]; exact h4)
  rw [hw] at e hl
  rw [hk] at hl
  match as, hl with
  | [a], _ =>
    rw [e, toD_leaf]; rfl
theorem two_of {t : Tst} (h : WF t) (hw : wD t.toD = "value") : t.toD = .tuple [.str "value", .str (a1D t.toD), .str (a2D t.toD)] := by
  obtain ⟨as, e, hl⟩ := leaf_of h (by rw [hw]; decide +kernel)
  rw [hw] at e hl
  rw [show kindLen (lawKind "value") = 2 from by decide +kernel] at hl
  match as, hl with
  | [a, b], _ =>
    rw [e, toD_leaf]; rfl
end Tst
end LM
end
section
set_option Elab.async false
set_option linter.all false
set_option maxRecDepth 100000
set_option maxHeartbeats 4000000
/-! texts in order, each once -/
namespace LM
open PySem PySem.Spec PyProof.Rows DL
def leS (a b : Str) : Prop := ¬ (b.cps.toList < a.cps.toList)
theorem leS_trans {a b c : Str} (h1 : leS a b) (h2 : leS b c) : leS a c := List.le_trans (α := Nat) h1 h2
theorem leS_anti {a b : Str} (h1 : leS a b) (h2 : leS b a) : a = b := by
  have e := List.le_antisymm (α := Nat) h1 h2
  obtain ⟨x⟩ := a
  obtain ⟨y⟩ := b
  have : x = y := Array.toList_inj.mp e
  rw [this]
theorem asc_uniq : ∀ l1 l2 : List Str, l1.Perm l2 → l1.Pairwise leS → l2.Pairwise leS → l1 = l2
  | [], l2, p, _, _ => by rw [List.Perm.nil_eq p]
  | a :: l1, [], p, _, _ => by have := p.length_eq; simp at this
  | a :: l1, b :: l2, p, h1, h2 => by
    obtain ⟨a1, a2⟩ := List.pairwise_cons.mp h1
    obtain ⟨b1, b2⟩ := List.pairwise_cons.mp h2
    have e : a = b := by
      have ha : a ∈ b :: l2 := p.mem_iff.mp List.mem_cons_self
      have hb : b ∈ a :: l1 := p.mem_iff.mpr List.mem_cons_self
      rcases List.mem_cons.mp ha with e | ha
      · exact e
      rcases List.mem_cons.mp hb with e | hb
      · exact e.symm
      · exact leS_anti (a1 b hb) (b1 a ha)
    subst e
    rw [asc_uniq l1 l2 (p.cons_inv) a2 b2]
theorem rising_pw : ∀ (r : List Str) (p : Str), risingS p r = true → (p :: r).Pairwise leS
  | [], p, _ => by simp
  | x :: r, p, h => by
    have h : (!ltCps x.cps.toList p.cps.toList && risingS x r) = true := h
    rw [Bool.and_eq_true, Bool.not_eq_true', ltCps_eq] at h
    have i := rising_pw r x h.2
    have px : leS p x := of_decide_eq_false h.1
    refine List.pairwise_cons.mpr ⟨fun y hy => ?_, i⟩
    rcases List.mem_cons.mp hy with rfl | hy
    · exact px
    · exact leS_trans px ((List.pairwise_cons.mp i).1 y hy)
theorem sorted_pw : ∀ l : List Str, sortedS l = true → l.Pairwise leS
  | [], _ => List.Pairwise.nil
  | x :: r, h => rising_pw r x h
/-- ys are the texts of l in order, each once -/
structure Asc (l ys : List Str) : Prop where
  pw : ys.Pairwise leS
  nd : ys.Nodup
  mem : ∀ k, k ∈ ys ↔ k ∈ l
open Classical in
noncomputable def srtS (l : List Str) : List Str := if h : ∃ ys, Asc l ys then choose h else []
theorem Asc.eq {l ys : List Str} (h : Asc l ys) : ys = srtS l := by
  have hx : ∃ ys, Asc l ys := ⟨ys, h⟩
  unfold srtS
  rw [dif_pos hx]
  have z := Classical.choose_spec hx
  exact asc_uniq _ _ ((List.perm_ext_iff_of_nodup h.nd z.nd).mpr fun k => (h.mem k).trans (z.mem k).symm) h.pw z.pw
theorem srtS_congr {l m : List Str} (h : ∀ k, k ∈ l ↔ k ∈ m) : srtS l = srtS m := by
  have e : Asc l = Asc m := by
    funext ys
    exact propext ⟨fun a => ⟨a.pw, a.nd, fun k => (a.mem k).trans (h k)⟩, fun a => ⟨a.pw, a.nd, fun k => (a.mem k).trans (h k).symm⟩⟩
  unfold srtS
  rw [e]
theorem asc_of {l ys us : List Str} (hs : sortedS ys = true) (p : ys.Perm us) (nd : us.Nodup) (m : ∀ k, k ∈ us ↔ k ∈ l) : ys = srtS l :=
  Asc.eq ⟨sorted_pw _ hs, p.nodup_iff.mpr nd, fun k => p.mem_iff.trans (m k)⟩
end LM
end
section
set_option Elab.async false
set_option linter.all false
set_option maxRecDepth 100000
set_option maxHeartbeats 4000000
namespace DL
open PySem PySem.Spec PyProof.Rows L2 LM RR
theorem room65 {k : Nat} {A : Around} (r : Room k A) : A.units + 65 < cLine := by have := r.un; omega
theorem sl_DK {X : Cx} (K : PySem.W.Frag) (hK : X.K = K := by rfl) : SlR X (rSlD K) := by subst hK; exact sl_D
theorem op_inDK {X : Cx} (K : PySem.W.Frag) (hu : X.A.units + 65 < cLine) (hK : X.K = K := by rfl) : OpR X (compareOp .In) (rInD K) := by subst hK; exact op_inD hu
theorem op_ninDK {X : Cx} (K : PySem.W.Frag) (hu : X.A.units + 65 < cLine) (hK : X.K = K := by rfl) : OpR X (compareOp .NotIn) (rNotInD K) := by subst hK; exact op_notInD hu
section
variable {P : Program} {W : World} {K : PySem.W.Frag} {A H H' H0 H1 H2 G G2 Hc : Hp} {σ : L2.St} {t te td tn tv t1 t2 : TE} {tt : TT} {g : TG} {tr : TS} {D : Ends} {tA : TA} {n i j : Nat} {p b : Addr} {xs ys : List V} {v : V} {d : PyData} {ds es : List PyData}
theorem go_inD (s1 : SeqAt.shaped d = true) (s2 : SeqAt.shaped (.list ds) = true) : GO K (rInD K) d (.list ds) (.bool (ds.any fun z => PyData.eqv z d)) := fun H H1 G H2 v w Q p dx dy q =>
  ⟨d, ds, dv_dp _ _ (Dv.to dx p.gh), dv_dp _ _ (Dv.to dy p.gh), s1, s2, q _ G H2 p (.bl _)⟩
theorem go_ninD (s1 : SeqAt.shaped d = true) (s2 : SeqAt.shaped (.list ds) = true) : GO K (rNotInD K) d (.list ds) (.bool (!ds.any fun z => PyData.eqv z d)) := fun H H1 G H2 v w Q p dx dy q =>
  ⟨d, ds, dv_dp _ _ (Dv.to dx p.gh), dv_dp _ _ (Dv.to dy p.gh), s1, s2, q _ G H2 p (.bl _)⟩
/-- sorted({f(x) for x in xs if p(x)}) -/
theorem gd_srtX {α : Type} {wi : TI} {vs : List Nat} {zs : List α} (em : α → PyData) (p : α → Bool) (f : α → Str) (gi : GI K wi σ H A (zs.map em)) (z : zs.length ≤ 1000)
    (turn : ∀ (i : Nat) (a : α), zs[i]? = some a → ∀ v G H1, Pub H A G H1 → Dv K G v (em a) → ∀ Q : L2.St → Hp → Prop,
      (∀ σ2 G2 H2, Pub G H1 G2 H2 → wipe σ2 vs = wipe σ vs → GT tt σ2 G2 H2 (p a) → (p a = true → GD K te σ2 G2 H2 (.str (f a))) → Q σ2 H2) → g v (wipe σ vs) H1 Q) :
    GD K (tCB (rSortedX P W) (tCons (tSc P W wi g tt te vs) tNil)) σ H A (.list ((srtS ((zs.filter p).map f)).map .str)) := fun H0 H1 e Q q => by
  show tSc P W wi g tt te vs σ H1 fun v H2 => rSortedX P W [v] H2 Q
  refine gi H0 H1 e _ fun J B H2 pb r D hD => ?_
  refine ⟨fun i m Hx => m = zs.length - i ∧ i ≤ zs.length ∧ ∃ G l, Pub B H2 G Hx ∧ Hx D = some (SetX P W D l) ∧ G D = none ∧ l.Nodup ∧ (∀ k, k ∈ l ↔ k ∈ ((zs.take i).filter p).map f) ∧ l.length ≤ i,
    ⟨zs.length, by simp, Nat.zero_le _, B, [], (Pub.refl pb.gh).newP hD _, upd_same, pb.gh.free hD, List.nodup_nil, by simp, Nat.le_refl _⟩, ?_⟩
  rintro i m Hx ⟨rfl, hi, G, l, pg, hl, hGD, nd, mem, len⟩
  by_cases hlt : i < zs.length
  · have hlt' : i < (zs.map em).length := by rw [List.length_map]; exact hlt
    refine .inr ⟨r.go i Hx pg.same hlt', fun H' => ∃ G l, Pub B H2 G H' ∧ H' D = some (SetX P W D l) ∧ G D = none ∧ l.Nodup ∧ (∀ k, k ∈ l ↔ k ∈ ((zs.take (i + 1)).filter p).map f) ∧ l.length ≤ i + 1, fun H' ⟨G', l', h⟩ => ⟨zs.length - (i + 1), by omega, rfl, hlt, G', l', h⟩, fun x H' hy => ?_⟩
    obtain ⟨d, G', hd, p1, dx⟩ := r.yld i Hx x H' G pg.hg pg.gh hlt' hy
    rw [List.getElem?_map] at hd
    obtain ⟨a, ha, rfl⟩ := Option.map_eq_some_iff.mp hd
    refine turn i a ha x G' H' (e.trans (pb.trans (pg.trans p1))) dx _ fun σ2 G2 H3 p2 hw gt gd => ⟨hw, ?_⟩
    have ht : zs.take (i + 1) = zs.take i ++ [a] := by rw [List.take_add_one, ha]; rfl
    have q12 := (pg.trans p1).trans p2
    have hD3 : H3 D = some (SetX P W D l) := p2.hh D _ (p1.hh D _ hl)
    have hG2D : G2 D = none := (p1.trans p2).pr D hGD (some_ne hl)
    refine gt.to (.refl p2.gh) fun H4 e4 => ?_
    have q4 : Pub B H2 G2 H4 := q12.trans e4
    cases hp : p a with
    | false =>
      refine iteF ⟨G2, l, q4, e4.hh D _ hD3, hG2D, nd, fun k => ?_, by omega⟩
      rw [ht, List.filter_append, List.filter_cons, hp, if_neg Bool.false_ne_true, List.filter_nil, List.append_nil]
      exact mem k
    | true =>
      refine iteT ((gd hp).to e4 fun y G5 H5 p5 dy => ?_)
      have hy := Dv.str_inv dy
      subst hy
      have hD5 : H5 D = some (SetX P W D l) := p5.hh D _ (e4.hh D _ hD3)
      have hG5D : G5 D = none := p5.pr D hG2D (some_ne (e4.hh D _ hD3))
      have big : l.length + 1 < scanBound := Nat.lt_of_le_of_lt (show l.length + 1 ≤ 1001 by omega) (by decide)
      refine ⟨f a, l, rfl, hD5, big, G5, addL (f a) l, (q4.trans p5).put hD hG5D _, upd_same, hG5D, ?_, fun k => ?_, ?_⟩
      · unfold addL
        by_cases c : f a ∈ l
        · rw [if_pos c]; exact nd
        · rw [if_neg c]; exact List.nodup_cons.mpr ⟨c, nd⟩
      · rw [ht, List.filter_append, List.filter_cons, hp, if_pos rfl, List.filter_nil, List.map_append, List.mem_append, ← mem k]
        unfold addL
        by_cases c : f a ∈ l
        · rw [if_pos c]
          exact ⟨.inl, fun h => h.elim id fun h => by rw [List.mem_singleton.mp h]; exact c⟩
        · rw [if_neg c, List.mem_cons]
          exact ⟨fun h => h.elim (fun h => .inr (by rw [h]; exact List.mem_singleton.mpr rfl)) .inl, fun h => h.elim .inr fun h => .inl (List.mem_singleton.mp h)⟩
      · unfold addL
        by_cases c : f a ∈ l
        · rw [if_pos c]; omega
        · rw [if_neg c, List.length_cons]; omega
  · have hn : i = zs.length := by omega
    subst hn
    rw [List.take_length] at mem
    refine .inl ⟨r.stop _ Hx pg.same (by rw [List.length_map]; exact Nat.le_refl _), D, l, rfl, hl, Nat.lt_of_le_of_lt (show l.length ≤ 1000 by omega) (by decide), fun ns c hs hperm hc => ?_⟩
    have en := asc_of hs hperm nd mem
    subst en
    exact q _ _ _ ((pb.trans pg).new hc _) (.lst (.inl upd_same) DvA.strs)
/-- sorted of a list of texts, each once -/
theorem gc_srtS {l : List Str} (nd : l.Nodup) (z : l.length < 64) : GC K (rSortedS K) [.list (l.map .str)] (.list ((srtS l).map .str)) := fun H H1 G H2 vs Q p dv q => by
  obtain ⟨v, rfl, d1⟩ := DvA.inv1 dv
  obtain ⟨a, xs, rfl, s, da⟩ := Dv.lst_inv d1
  have e := DvA.strs_inv da
  subst e
  refine ⟨a, l, rfl, .inl (rd_same p.gh s), z, fun ys c hp hs hc => ?_⟩
  have en := asc_of hs hp nd fun k => Iff.rfl
  subst en
  exact q _ _ _ (p.new hc _) (.lst (.inl upd_same) DvA.strs)
/-! ### two lists of one's own -/
/-- the list at j and a public one, put together anew -/
theorem s_addOwn (w : Own H0 H1 G H p (.lst xs)) (ho : σ[j]? = some (some (.ref p))) (ge : GD K te σ G H (.list ds)) (z : xs.length + ds.length ≤ sizeLine)
    (k : ∀ c vs G' H' Hx, Pub G H G' Hx → Hx c = none → H' = upd Hx c (.lst (xs ++ vs)) → DvA K G' vs ds → D.nx (σ.set i (some (.ref c))) H') : tAsg (tOp (rAddA K) (tVar j) te) (gName i) D σ H :=
  ⟨.ref p, ho, ge.to (.refl w.gh) fun v G' H' P dv => by
    obtain ⟨b, ys, rfl, s2, db⟩ := Dv.lst_inv dv
    have w2 := w.step P
    exact .inr (.inr (.inl ⟨p, b, xs, ys, rfl, rfl, .inl w2.at_, rd_same P.gh s2, by rw [DvA.len db]; exact z, fun c hc => k c ys G' _ H' P hc rfl db⟩))⟩
end
end DL
end
section
set_option Elab.async false
set_option linter.all false
set_option maxRecDepth 100000
set_option maxHeartbeats 4000000
namespace LW
open PySem PySem.Spec PyProof.Rows L2 DL LM
section
variable {P : Program} {W : World} {K : PySem.W.Frag} {mg : Str → Option Value} {base : Heap} {f : Addr} {fd : FuncData} {A A2 H H' H0 H1 H2 G G2 Hc : Hp} {σ : L2.St} {t te td tn tv t1 t2 : TE} {tr : TS} {ts : TS} {D : Ends} {tA : TA} {n i j : Nat} {p b : Addr} {xs ys : List V} {v : V} {d : PyData} {ds es : List PyData}
open Tst
/-- the written table's text at a word that it has -/
theorem gd_tabIx {a : Addr} {l : List (Str × Str)} {x y : Str} (h : IsTab K W a l) (hx : tabO l x = some y) (g : GD K te σ H A (.str x)) : GD K (tOp (rIxD K W) (tC (.ref a)) te) σ H A (.str y) := fun H0 H1 e Q q => by
  refine g.to e fun v G H2 p dv => ?_
  have ev := Dv.str_inv dv
  subst ev
  obtain ⟨es, n, ru, hl, hk, hd, hn, rr⟩ := isTab_w h x
  rw [hx] at rr
  cases ru with
  | none => exact rr.elim
  | some u => exact ⟨a, x, .str y, rfl, rfl, ⟨es, n, u, hl, hk, hn, rr⟩, q _ G H2 p (.str _)⟩
theorem gd_w0 {s : Tst} (h : σ[i]? = some (some v)) (dv : Dv K H v s.toD) : GD K (tOp (rIx K) (tVar i) (tC (.int 0))) σ H A (.str (wD s.toD)) := by
  obtain ⟨r, e⟩ := toD_head s
  generalize wD s.toD = w at e ⊢
  rw [e] at dv
  exact gdo (gd_var h dv) gd_int (go_ixT (atI_nat (j := 0) rfl))
theorem sig_of {t : Tst} (h : WF t) : ∃ sg, tabO ARGS (wD t.toD) = some sg ∧ ((sg = "p" ∧ ∃ w ts, t = many w ts) ∨ (sg = "t" ∧ ∃ w s, t = un w s) ∨ (sg ≠ "p" ∧ sg ≠ "t" ∧ t.kids = [])) := by
  rw [tab_kind]
  cases t with
  | leaf w as =>
    unfold WF at h
    have e : wD (leaf w as).toD = w := by rw [toD_leaf]; rfl
    rw [e]
    have hk := h.1
    generalize lawKind w = k at hk
    match k, hk with
    | 0, _ => exact ⟨_, rfl, .inr (.inr ⟨by decide +kernel, by decide +kernel, rfl⟩)⟩
    | 1, _ => exact ⟨_, rfl, .inr (.inr ⟨by decide +kernel, by decide +kernel, rfl⟩)⟩
    | 2, _ => exact ⟨_, rfl, .inr (.inr ⟨by decide +kernel, by decide +kernel, rfl⟩)⟩
    | 3, _ => exact ⟨_, rfl, .inr (.inr ⟨by decide +kernel, by decide +kernel, rfl⟩)⟩
    | k + 4, hk => omega
  | un w t =>
    unfold WF at h
    have e : wD (un w t).toD = w := by rw [toD_un]; rfl
    rw [e, h.1]
    exact ⟨_, rfl, .inr (.inl ⟨rfl, _, _, rfl⟩)⟩
  | many w ts =>
    unfold WF at h
    have e : wD (many w ts).toD = w := by rw [toD_many]; rfl
    rw [e, h.1]
    exact ⟨_, rfl, .inl ⟨rfl, _, _, rfl⟩⟩
def arT : Tst → List PyData := fun t => [t.toD]
abbrev stests_in : Stmt := topS 3
theorem sctests_in : FnScope ["test", "signs"] ["test"] (defScope stests_in) := ⟨rfl, rfl, rfl, by decide +kernel, rfl, by decide +kernel, by decide +kernel⟩
theorem ok_tests_in (B : Bar mg K W) (F : Fun K "tests_in" "tests_in" stests_in f fd) : FnOk P W K mg base CX0 1 f fd ["test"] (spA K 1 arT WF fun t => .tuple (t.kids.map toD)) := by
  obtain ⟨aA, hA, tab⟩ := B.ex
  refine fn_A F sctests_in rfl fun cdv A outer s H1 E hr => ⟨_, (pss_cons (ps_set (i := 1) sctests_in.nd rfl (Or.inl rfl) (pe_ix ix_kdict (pe_gl (v := .ref aA) ⟨_, hA, rfl⟩) (pe_ix ix_seq (pv 0) pe_int (fun _ _ => rfl)) (fun _ _ => rfl)))
      (pss_cons (ps_if (pt_cmpR (op_eqA hr.units) (pv 1) pe_str (nomark _)) (pss_one (ps_ret (pe_ix ix_seq (pv 0) pe_int (fun _ _ => rfl)))) pss_nil)
      (pss_one (ps_ret (pe_ifExp (pt_cmpR (op_eqA hr.units) (pv 1) pe_str (nomark _)) (RR.pe_tupF (pa_cons (pe_ix ix_seq (pv 0) pe_int (fun _ _ => rfl)) pa_nil)) (RR.pe_tupF pa_nil)))))), fun vs t H A hl sm dv hp => ?_⟩
  obtain ⟨v, rfl, d1⟩ := DvA.inv1 dv
  obtain ⟨sg, hs, hc⟩ := sig_of hp
  refine gb_set (d := .str sg) (gd_tabIx tab hs (gd_w0 rfl d1)) fun v2 G2 H2 p2 dv2 => ?_
  have d1' := d1.to p2.hg
  show GB K _ _ G2 H2 fun d => d = .tuple (t.kids.map toD)
  rcases hc with ⟨rfl, w, ts, rfl⟩ | ⟨rfl, w, s, rfl⟩ | ⟨h1, h2, h3⟩
  · rw [toD_many] at d1'
    refine gb_if (b := true) (gt_test (gdo (K := K) (gd_var (i := 1) rfl dv2) gd_str go_eqS)) (fun _ => ?_) fun z => nomatch z
    exact gb_ret (gdo (gd_var (i := 0) rfl d1') gd_int (go_ixT (atI_nat (j := 1) rfl))) rfl
  · rw [toD_un] at d1'
    refine gb_if (b := decide (("t" : Str) = "p")) (gt_test (gdo (K := K) (gd_var (i := 1) rfl dv2) gd_str go_eqS)) (fun c => absurd (of_decide_eq_true c) (by decide +kernel)) fun _ => ?_
    refine gb_ret (d := .tuple [s.toD]) (gd_if (b := decide (("t" : Str) = "t")) (gt_test (gdo (K := K) (gd_var (i := 1) rfl dv2) gd_str go_eqS)) (fun _ => ?_) fun c => absurd rfl (of_decide_eq_false c)) rfl
    exact gd_tup (ga_cons (gdo (gd_var (i := 0) rfl d1') gd_int (go_ixT (atI_nat (j := 1) rfl))) ga_nil)
  · rw [h3]
    refine gb_if (gt_test (gdo (K := K) (gd_var (i := 1) rfl dv2) gd_str go_eqS)) (fun c => absurd (of_decide_eq_true c) h1) fun _ => ?_
    exact gb_ret (d := .tuple []) (gd_if (gt_test (gdo (K := K) (gd_var (i := 1) rfl dv2) gd_str go_eqS)) (fun c => absurd (of_decide_eq_true c) h2) fun _ => gd_tup ga_nil) rfl
theorem shp_T {t : Tst} (h : Okt 7 t) : SeqAt.shaped t.toD = true := by
  have hl := h.lay
  have hd := h.dep
  show (t.toD.canLay0 && decide (t.toD.depth ≤ 64)) = true
  rw [Bool.and_eq_true]
  exact ⟨hl, decide_eq_true (by omega)⟩
theorem dA_le {ds : List PyData} {n : Nat} (h : ∀ d ∈ ds, d.depth ≤ n) : PyData.depthAll ds ≤ n := by
  induction ds with
  | nil => rw [dA0]; omega
  | cons d ds ih =>
    rw [dAc]
    have h1 := h d List.mem_cons_self
    have h2 := ih fun x hx => h x (List.mem_cons_of_mem _ hx)
    omega
theorem shp_L {l : List Tst} (h : ∀ s ∈ l, Okt 7 s) : SeqAt.shaped (.list (l.map toD)) = true := by
  show ((PyData.list (l.map toD)).canLay0 && decide ((PyData.list (l.map toD)).depth ≤ 64)) = true
  rw [Bool.and_eq_true]
  refine ⟨lay_lst fun d hd => ?_, decide_eq_true ?_⟩
  · obtain ⟨s, hs, rfl⟩ := List.mem_map.mp hd
    exact (h s hs).lay
  · have e : (PyData.list (l.map toD)).depth = PyData.depthAll (l.map toD) + 1 := by conv => lhs; unfold PyData.depth
    have := dA_le (ds := l.map toD) (n := 7) fun d hd => by
      obtain ⟨s, hs, rfl⟩ := List.mem_map.mp hd
      exact (h s hs).dep
    omega
/-- part in parts, the parts tests -/
theorem gt_inT {tb : TE} {t : Tst} {l : List Tst} (ht : Okt 7 t) (hl : ∀ s ∈ l, Okt 7 s) (g : GD K te σ H A t.toD) (g2 : GD K tb σ H A (.list (l.map toD))) : GT (tTest (tOp (rInD K) te tb)) σ H A (inD t.toD (l.map toD)) := by
  have x := gt_test (gdo (K := K) g g2 (go_inD (shp_T ht) (shp_L hl)))
  rw [any_pl (pl_toD t)] at x
  exact x
theorem gt_ninT {tb : TE} {t : Tst} {l : List Tst} (ht : Okt 7 t) (hl : ∀ s ∈ l, Okt 7 s) (g : GD K te σ H A t.toD) (g2 : GD K tb σ H A (.list (l.map toD))) : GT (tTest (tOp (rNotInD K) te tb)) σ H A (!inD t.toD (l.map toD)) := by
  have x := gt_test (gdo (K := K) g g2 (go_ninD (shp_T ht) (shp_L hl)))
  rw [any_pl (pl_toD t)] at x
  exact x
theorem kid_dep {t : Tst} : ∀ s ∈ t.kids, s.toD.depth < t.toD.depth := by
  intro s hs
  cases t with
  | leaf w as => cases hs
  | un w t =>
    rw [List.mem_singleton.mp hs, toD_un, dTu, dAc, dAc]
    omega
  | many w ts =>
    rw [toD_many, dTu, dAc, dAc, dTu]
    have := dep_all (ds := ts.map toD) s.toD (List.mem_map_of_mem hs)
    omega
/-- a test and all in it, put into the caller's own list -/
def spCol (K : PySem.W.Frag) (j : Nat) : Sp := fun vs H Q _ => ∃ (t : Tst) (l : List Tst) (H0 H1 G : Hp) (p : Addr) (v : V) (xs : List V), vs = [v, .ref p] ∧ Own H0 H1 G H p (.lst xs) ∧ Dv K G v t.toD ∧ Okt 7 t ∧ t.toD.depth < j ∧ DvA K G xs (l.map toD) ∧ (∀ s ∈ l, Okt 7 s) ∧ l.length + (subT t).length ≤ 100 ∧ Tgt l ∧
  ∀ G' H' xs', Own H0 H1 G' H' p (.lst xs') → Same G G' → DvA K G' xs' ((colT t l).map toD) → Q .non H'
theorem s_col {k m : Nat} {t : Tst} {l : List Tst} (w : Own H0 H1 G H p (.lst xs)) (hi : σ[k]? = some (some v)) (hj : σ[m]? = some (some (.ref p))) (dv : Dv K G v t.toD) (ok : Okt 7 t) (hd : t.toD.depth < j) (da : DvA K G xs (l.map toD)) (okl : ∀ s ∈ l, Okt 7 s) (z : l.length + (subT t).length ≤ 100) (tg : Tgt l)
    (kk : ∀ G' H' xs', Own H0 H1 G' H' p (.lst xs') → Same G G' → DvA K G' xs' ((colT t l).map toD) → D.nx σ H') : tDrop (tCall (spCol K j) [] E0 (tCons (tVar k) (tCons (tVar m) tNil))) D σ H :=
  ⟨v, hi, .ref p, hj, t, l, H0, H1, G, p, v, xs, rfl, w, dv, ok, hd, da, okl, z, tg, kk⟩
end
end LW
end
section
set_option Elab.async false
set_option linter.all false
set_option maxRecDepth 100000
set_option maxHeartbeats 4000000
namespace LW
open PySem PySem.Spec PyProof.Rows L2 DL LM
section
variable {P : Program} {W : World} {K : PySem.W.Frag} {mg : Str → Option Value} {base : Heap} {f : Addr} {fd : FuncData} {A A2 H H' H0 H1 H2 G G2 Hc : Hp} {σ : L2.St} {t te td tn tv t1 t2 : TE} {tr : TS} {ts : TS} {D : Ends} {tA : TA} {n i j : Nat} {p b : Addr} {xs ys : List V} {v : V} {d : PyData} {ds es : List PyData}
open Tst
theorem subTs_take (ts : List Tst) (i : Nat) : (subTs (ts.take i)).length ≤ (subTs ts).length := by
  conv => rhs; rw [← List.take_append_drop i ts]
  rw [subTs_app, List.length_append]; omega
abbrev s_collect : Stmt := topS 5
theorem sc_collect : FnScope ["test", "found", "part"] ["test", "found"] (defScope s_collect) := ⟨rfl, rfl, rfl, by decide +kernel, rfl, by decide +kernel, by decide +kernel⟩
theorem ok_collect_step {j : Nat} (F : Fun K "_collect" "_collect" s_collect f fd) (ctests_in : Cal P W K mg base 1 "tests_in" (spA K 1 arT WF fun t => .tuple (t.kids.map toD))) (c_collect : Cal P W K mg base (j + 1) "_collect" (spCol K j)) : FnOk P W K mg base CX0 (j + 2) f fd ["test", "found"] (spCol K (j + 1)) := by
  refine F.ok sc_collect (fun vs H Q E h => ?_) (fun cdv A outer s H vs Q E hr h => ?_)
  · obtain ⟨_, _, _, _, _, _, _, _, rfl, _⟩ := h; rfl
  obtain ⟨t, l, H0, H1, G, p, v, xs, rfl, w, dv, ok, hd, da, okl, z, tg, q⟩ := h
  refine ⟨_, (pss_cons (ps_for PassesOwn.never rfl (pi_seq (pe_k ctests_in hr (by omega) (pa_cons (pv 0) pa_nil))) (pg_name (i := 2) sc_collect.nd rfl (Or.inl rfl)) (pss_one (ps_expr (pe_k c_collect hr (by omega) (pa_cons (pv 2) (pa_cons (pv 1) pa_nil))))))
      (pss_one (ps_if (pt_cmpR (op_notInD (room65 hr)) (pv 0) (pv 1) (by rfl)) (pss_one (ps_expr (pe_bm PySem.F.plainAttrs_list PySem.F.slot_list_append PySem.F.type_list_append mt_append (pv 1) (pa_cons (pv 0) pa_nil)))) pss_nil))), ?_⟩
  have hlen : ∀ m, (colTs (t.kids.take m) l).length + (subTs (t.kids.drop m)).length + 1 ≤ 100 := fun m => by
    obtain ⟨_, ⟨r, e, _, hl⟩, _⟩ := cols_all (t.kids.take m) l tg
    have h1 : (subTs t.kids).length = (subTs (t.kids.take m)).length + (subTs (t.kids.drop m)).length := by
      conv => lhs; rw [← List.take_append_drop m t.kids]
      rw [subTs_app, List.length_append]
    rw [subT_eq, List.length_cons] at z
    rw [e, List.length_append]
    omega
  have hok : ∀ m, ∀ s ∈ colTs (t.kids.take m) l, Okt 7 s := fun m s hs => by
    obtain ⟨_, ⟨r, e, hr, _⟩, _⟩ := cols_all (t.kids.take m) l tg
    rw [e] at hs
    rcases List.mem_append.mp hs with h | h
    · exact okl s h
    · obtain ⟨x, hx, hxs⟩ := mem_subTs.mp (hr s h)
      exact (ok.kids x (List.mem_of_mem_take hx)).sub s hxs
  refine s_mid (fun σ' H' => ∃ (x2 : Option V) (G' : Hp) (xs' : List V), σ' = [some v, some (.ref p), x2] ∧ Own H0 H1 G' H' p (.lst xs') ∧ Same G G' ∧ DvA K G' xs' ((colTs t.kids l).map toD)) ?_ fun rest => ?_
  · rintro σ' H' ⟨x2, G', xs', rfl, w', sG, da'⟩
    have hk : t.kids.take t.kids.length = t.kids := List.take_length
    have hok' := hok t.kids.length
    have hln := hlen t.kids.length
    have htg := (cols_all t.kids l tg).1
    rw [hk] at hok' hln
    have dv' := dv.to sG
    have lay := w'.dv da'
    refine s_if (gt_ninT ok hok' (gd_var (i := 0) rfl (dv'.to (same_new w'.pg _))) (gd_var (i := 1) rfl lay)) w'.see (fun c H2 s2 => ?_) fun c H2 s2 => ?_
    · rw [Bool.not_eq_true'] at c
      have w2 := w'.test s2
      refine s_append (K := K) w2 rfl (gd_var (i := 0) rfl dv') (by rw [DvA.len da', List.length_map, sizeLine_eq]; omega) fun u G3 H3 w3 s3 du => ?_
      refine q G3 H3 _ w3 (sG.trans s3) ?_
      rw [colT_eq]
      unfold putT
      rw [if_neg (by rw [c]; exact Bool.false_ne_true), List.map_append]
      exact DvA.app (da'.to s3) (.cons du .nil)
    · rw [Bool.not_eq_false'] at c
      refine q G' H2 _ (w'.test s2) sG ?_
      rw [colT_eq]
      unfold putT
      rw [if_pos c]
      exact da'
  · refine for_run (H := G) (A := H) (gi_seqT (gd_callA (K := K) (ar := arT) (f := fun t => .tuple (t.kids.map toD)) (n := 1) t (ga_cons (gd_var (i := 0) rfl dv) ga_nil) rfl ok.wf)) (.refl w.gh) fun B HB PB => ?_
    refine ⟨fun i σ' G' H' => ∃ (x2 : Option V) (xs' : List V), σ' = [some v, some (.ref p), x2] ∧ Own H0 H1 G' H' p (.lst xs') ∧ Same B G' ∧ DvA K G' xs' ((colTs (t.kids.take i) l).map toD),
      ⟨none, xs, rfl, w.step PB, .refl _, by rw [List.take_zero, colTs_nil]; exact da.to PB.hg⟩, fun i σ' G' H' ⟨_, _, _, w', s, _⟩ => ⟨s, w'.gh⟩, ?_, ?_⟩
    · rintro i d σ' G' H' hd' ⟨x2, xs', rfl, w', sB, da'⟩ u G5 H5 P5 dv5
      rw [List.getElem?_map] at hd'
      obtain ⟨s, hs, rfl⟩ := Option.map_eq_some_iff.mp hd'
      have hm : s ∈ t.kids := List.mem_of_getElem? hs
      have hdr : t.kids.drop i = s :: t.kids.drop (i + 1) := by
        obtain ⟨hi, e⟩ := List.getElem?_eq_some_iff.mp hs
        rw [List.drop_eq_getElem_cons hi, e]
      have htk : t.kids.take (i + 1) = t.kids.take i ++ [s] := by rw [List.take_add_one, hs]; rfl
      have hl := hlen i
      rw [hdr] at hl
      have e2 : (subTs (s :: t.kids.drop (i + 1))).length = (subT s).length + (subTs (t.kids.drop (i + 1))).length := by
        conv => lhs; unfold subTs
        rw [List.length_append]
      rw [e2] at hl
      have w5 := w'.step P5
      refine s_col (K := K) (j := j) (k := 2) (m := 1) w5 rfl rfl dv5 (ok.kids s hm) (by have := kid_dep s hm; omega) (da'.to P5.hg) (hok i) (by omega) (cols_all _ l tg).1 fun G6 H6 xs6 w6 s6 da6 => ?_
      exact ⟨G6, some u, xs6, rfl, w6, sB.trans (P5.hg.trans s6), by rw [htk, colTs_snoc]; exact da6⟩
    · rintro σ' G' H' ⟨x2, xs', rfl, w', sB, da'⟩
      rw [List.length_map, List.take_length] at da'
      exact rest _ _ ⟨x2, G', xs', rfl, w', PB.hg.trans sB, da'⟩
theorem cal_collect (F : Fun K "_collect" "_collect" s_collect f fd) (hm : mg "_collect" = some (.ref f)) (b : Binds K fd ["test", "found"] []) (c : Cal P W K mg base 1 "tests_in" (spA K 1 arT WF fun t => .tuple (t.kids.map toD))) : ∀ j, Cal P W K mg base (j + 1) "_collect" (spCol K j)
  | 0 => cal_mk F (fn_none fun vs H Q E h => by
      obtain ⟨_, _, _, _, _, _, _, _, _, _, _, _, hd, _⟩ := h
      exact absurd hd (Nat.not_lt_zero _)) hm b
  | j + 1 => cal_mk F (ok_collect_step F c (cal_collect F hm b c j)) hm b
noncomputable def toldD (t : Tst) : PyData := .list ((told t).map toD)
abbrev ssubtests : Stmt := topS 4
theorem scsubtests : FnScope ["test", "found"] ["test"] (defScope ssubtests) := ⟨rfl, rfl, rfl, by decide +kernel, rfl, by decide +kernel, by decide +kernel⟩
theorem ok_subtests (F : Fun K "subtests" "subtests" ssubtests f fd) (c_collect : Cal P W K mg base 9 "_collect" (spCol K 8)) : FnOk P W K mg base CX0 10 f fd ["test"] (spA K 1 arT (Okt 7) toldD) := by
  refine fn_A F scsubtests rfl fun cdv A outer s H1 E hr => ⟨_, (pss_cons (ps_set (i := 1) scsubtests.nd rfl (Or.inl rfl) (pe_lst pa_nil))
      (pss_cons (ps_expr (pe_k c_collect hr (by omega) (pa_cons (pv 0) (pa_cons (pv 1) pa_nil))))
      (pss_one (ps_ret (pv 1))))), fun vs t H A hl sm dv ok => ?_⟩
  obtain ⟨v, rfl, d1⟩ := DvA.inv1 dv
  intro H0 H1 e D q
  refine ⟨Nat.zero_le _, fun p hp => ?_⟩
  have w0 := Own.new (Pub.refl e.gh) hp (.lst [])
  have hz := ok.len
  have hdp := ok.dep
  refine s_col (K := K) (j := 8) (k := 0) (m := 1) (t := t) (l := []) w0 rfl rfl (d1.to e.hg) ok (by omega) .nil (fun s h => nomatch h) (by show 0 + _ ≤ 100; omega) .nil fun G' H' xs' w s da => ?_
  exact ⟨.ref p, rfl, q (toldD t) _ _ _ rfl w.open_ (w.dv da)⟩
theorem okt_told {t : Tst} (h : Okt 7 t) : ∀ s ∈ told t, Okt 7 s := fun s hs => h.sub s (told_sub hs)
theorem told_100 {t : Tst} (h : Okt 7 t) : (told t).length ≤ 15 := Nat.le_trans (told_len t) h.len
/-- the tests in a test, one after another -/
theorem gi_sub {t : Tst} (ok : Okt 7 t) (g : GD K te σ H A t.toD) : GI K (iSeq K (tCall (spA K 1 arT (Okt 7) toldD) [] E0 (tCons te tNil))) σ H A ((told t).map toD) := gi_seqL (gd_callA (K := K) (ar := arT) (f := toldD) (n := 1) t (ga_cons g ga_nil) rfl ok)
def arTw : Tst × Str → List PyData := fun x => [x.1.toD, .str x.2]
noncomputable def fHw (x : Tst × Str) : PyData := .bool ((told x.1).any fun s => decide (wD s.toD = x.2))
abbrev shas_word : Stmt := topS 6
theorem schas_word : FnScope ["test", "word", "part"] ["test", "word"] (defScope shas_word) := ⟨rfl, rfl, rfl, by decide +kernel, rfl, by decide +kernel, by decide +kernel⟩
theorem ok_has_word (T : Bx mg) (F : Fun K "has_word" "has_word" shas_word f fd) (csubtests : Cal P W K mg base 10 "subtests" (spA K 1 arT (Okt 7) toldD)) : FnOk P W K mg base CX0 11 f fd ["test", "word"] (spA K 2 arTw (fun x => Okt 7 x.1) fHw) := by
  refine fn_A F schas_word rfl fun cdv A outer s H1 E hr => ⟨_, (pss_one (ps_ret (pe_callB (cr_any rfl) (by rfl) T.any (by decide +kernel) (pa_cons (pe_lc (own := [("part", 2)]) (by rfl) schas_word.nd (pi_seq (pe_k csubtests hr (by omega) (pa_cons (pv 0) pa_nil))) (blkOk_by (own := [("part", 2)]) (N := ["test", "word", "part"]) (sc := defScope shas_word) (by decide +kernel)) (fun _ _ _ _ _ => (pg_name (i := 2) schas_word.nd rfl (Or.inl rfl))) (fun _ _ _ _ _ => pts_nil) (fun _ _ _ _ _ => (pe_cmpR (op_eqK K hr.units) (pe_ix (ix_seqK K) (pv 2) pe_int (fun _ _ => rfl)) (pv 1) (nomark _)))) pa_nil)))), fun vs x H A hl sm dv ok => ?_⟩
  obtain ⟨v, u, rfl, d1, d2⟩ := DvA.inv2 dv
  have hz := told_100 ok
  exact gb_ret (gd_cb (ga_cons (gd_lc (f := fun s => .bool (decide (wD s.toD = x.2))) (em := toD) (xs := told x.1) (gi_sub ok (gd_var (i := 0) rfl d1)) (by omega) fun i a ha v' G H1 p0 dv' => gdo (gd_w0 rfl dv') (gd_var (i := 1) rfl (d2.to p0.hg)) go_eqS) ga_nil) gc_anyM) rfl
def FWD : List Str := ["last", "empty", "over", "has"]
structure Bfw (mg : Str → Option Value) (K : PySem.W.Frag) : Prop where
  ex : ∃ aF : Addr, mg "FORWARD" = some (.ref aF) ∧ ∀ H, SqT K H aF (FWD.map V.str)
noncomputable def fLb (t : Tst) : PyData := .bool (!FWD.any fun w => (told t).any fun s => decide (wD s.toD = w))
abbrev slooks_back : Stmt := topS 7
theorem sclooks_back : FnScope ["test", "word"] ["test"] (defScope slooks_back) := ⟨rfl, rfl, rfl, by decide +kernel, rfl, by decide +kernel, by decide +kernel⟩
theorem ok_looks_back (T : Bx mg) (B : Bfw mg K) (F : Fun K "looks_back" "looks_back" slooks_back f fd) (chas_word : Cal P W K mg base 11 "has_word" (spA K 2 arTw (fun x => Okt 7 x.1) fHw)) : FnOk P W K mg base CX0 12 f fd ["test"] (spA K 1 arT (Okt 7) fLb) := by
  obtain ⟨aF, hF, tup⟩ := B.ex
  refine fn_A F sclooks_back rfl fun cdv A outer s H1 E hr => ⟨_, (pss_one (ps_ret (pe_not (pe_callB (cr_any rfl) (by rfl) T.any (by decide +kernel) (pa_cons (pe_lc (own := [("word", 1)]) (by rfl) sclooks_back.nd (pi_seq (pe_gl (v := .ref aF) ⟨_, hF, rfl⟩)) (blkOk_by (own := [("word", 1)]) (N := ["test", "word"]) (sc := defScope slooks_back) (by decide +kernel)) (fun _ _ _ _ _ => (pg_name (i := 1) sclooks_back.nd rfl (Or.inl rfl))) (fun _ _ _ _ _ => pts_nil) (fun _ _ _ _ _ => (pe_k chas_word hr (by omega) (pa_cons (pv 0) (pa_cons (pv 1) pa_nil))))) pa_nil))))), fun vs t H A hl sm dv ok => ?_⟩
  obtain ⟨v, rfl, d1⟩ := DvA.inv1 dv
  have gF : GD K (tC (.ref aF)) [some v, none] H A (.tuple (FWD.map .str)) := gd_c fun H' => .tup (tup H') DvA.strs
  refine gb_ret (gd_notB (gd_cb (ga_cons (gd_lc (f := fun w => .bool ((told t).any fun s => decide (wD s.toD = w))) (em := PyData.str) (xs := FWD) (gi_seqT gF) (by decide) fun i a ha v' G H1 p0 dv' => ?_) ga_nil) gc_anyM)) rfl
  exact gd_callA (K := K) (ar := arTw) (f := fHw) (n := 2) (t, a) (ga_cons (gd_var (i := 0) rfl (d1.to p0.hg)) (ga_cons (gd_var (i := 1) rfl dv') ga_nil)) rfl ok
end
end LW
end
section
set_option Elab.async false
set_option linter.all false
set_option maxRecDepth 100000
set_option maxHeartbeats 4000000
namespace LW
open PySem PySem.Spec PyProof.Rows L2 DL LM
section
variable {P : Program} {W : World} {K : PySem.W.Frag} {mg : Str → Option Value} {base : Heap} {f : Addr} {fd : FuncData} {A A2 H H' H0 H1 H2 G G2 Hc : Hp} {σ : L2.St} {t te td tn tv t1 t2 : TE} {tr : TS} {ts : TS} {tt : TT} {D : Ends} {tA : TA} {n i j : Nat} {p b : Addr} {xs ys : List V} {v : V} {d : PyData} {ds es : List PyData}
open Tst
theorem cutTo {l : List PyData} (k : Nat) : DL.cutD l none (some (k : Int)) = l.take k := by
  unfold DL.cutD
  rw [HT.sIx_none, HT.sIx_nat, List.drop_zero, Nat.sub_zero]
  rcases Nat.le_total k l.length with h | h
  · rw [Nat.min_eq_left h]
  · rw [Nat.min_eq_right h, List.take_length, List.take_of_length_le h]
theorem cutFrom {l : List PyData} (k : Nat) : DL.cutD l (some (k : Int)) none = l.drop k := by
  unfold DL.cutD
  rw [HT.sIx_none, HT.sIx_nat]
  rcases Nat.le_total k l.length with h | h
  · rw [Nat.min_eq_left h, List.take_of_length_le (by rw [List.length_drop]; omega)]
  · rw [Nat.min_eq_right h, List.drop_length, List.drop_eq_nil_of_le h, List.take_nil]
/-- sorted({f(part) for part in parts if p(part)}) over tests -/
theorem gd_srtT {wi : TI} {k : Nat} {zs : List Tst} {p : Tst → Bool} {f : Tst → Str} (gi : GI K wi σ H A (zs.map toD)) (z : zs.length ≤ 1000)
    (ht : ∀ s ∈ zs, ∀ v G H1, Pub H A G H1 → Dv K G v s.toD → GT tt ((wipe σ [k]).set k (some v)) G H1 (p s))
    (he : ∀ s ∈ zs, p s = true → ∀ v G H1, Pub H A G H1 → Dv K G v s.toD → GD K te ((wipe σ [k]).set k (some v)) G H1 (.str (f s))) :
    GD K (tCB (RR.rSortedX P W) (tCons (RR.tSc P W wi (gName k) tt te [k]) tNil)) σ H A (.list ((srtS ((zs.filter p).map f)).map .str)) :=
  gd_srtX toD p f gi z fun i s hs v G H1 q dv Q qq => qq _ G H1 (.refl q.gh) wipe1 (ht s (List.mem_of_getElem? hs) v G H1 q dv) fun hp => he s (List.mem_of_getElem? hs) hp v G H1 q dv
theorem gd_w1 {s : Tst} {w : Str} (h : σ[i]? = some (some v)) (dv : Dv K H v s.toD) (e : s.toD = .tuple [.str w, .str (a1D s.toD)]) : GD K (tOp (rIx K) (tVar i) (tC (.int 1))) σ H A (.str (a1D s.toD)) := by
  have dv' : Dv K H v (.tuple [.str w, .str (a1D s.toD)]) := by rw [← e]; exact dv
  exact gdo (gd_var h dv') gd_int (go_ixT (atI_nat (j := 1) rfl))
theorem gd_v1 {s : Tst} (h : σ[i]? = some (some v)) (dv : Dv K H v s.toD) (e : s.toD = .tuple [.str "value", .str (a1D s.toD), .str (a2D s.toD)]) : GD K (tOp (rIx K) (tVar i) (tC (.int 1))) σ H A (.str (a1D s.toD)) := by
  have dv' : Dv K H v (.tuple [.str "value", .str (a1D s.toD), .str (a2D s.toD)]) := by rw [← e]; exact dv
  exact gdo (gd_var h dv') gd_int (go_ixT (atI_nat (j := 1) rfl))
theorem gd_v2 {s : Tst} (h : σ[i]? = some (some v)) (dv : Dv K H v s.toD) (e : s.toD = .tuple [.str "value", .str (a1D s.toD), .str (a2D s.toD)]) : GD K (tOp (rIx K) (tVar i) (tC (.int 2))) σ H A (.str (a2D s.toD)) := by
  have dv' : Dv K H v (.tuple [.str "value", .str (a1D s.toD), .str (a2D s.toD)]) := by rw [← e]; exact dv
  exact gdo (gd_var h dv') gd_int (go_ixT (atI_nat (j := 2) rfl))
def pW (w : Str) (s : Tst) : Bool := decide (wD s.toD = w)
def MV : List Str := ["mark", "value"]
def pM (s : Tst) : Bool := decide (wD s.toD ∈ MV)
def pV (m : Str) (s : Tst) : Bool := decide (wD s.toD = "value") && decide (a1D s.toD = m)
noncomputable def wordsD (p : Tst → Bool) (f : Tst → Str) (l : List Tst) : PyData := .list ((srtS ((l.filter p).map f)).map .str)
noncomputable def fNm (t : Tst) : PyData := wordsD (pW "name") (fun s => a1D s.toD) (told t)
noncomputable def fMk (t : Tst) : PyData := wordsD pM (fun s => a1D s.toD) (told t)
noncomputable def fTx (t : Tst) : PyData := wordsD (pW "text") (fun s => a1D s.toD) (told t)
noncomputable def fVl (x : Tst × Str) : PyData := wordsD (pV x.2) (fun s => a2D s.toD) (told x.1)
theorem one_name {s : Tst} (h : WF s) (hp : pW "name" s = true) : s.toD = .tuple [.str "name", .str (a1D s.toD)] := one_of h (of_decide_eq_true hp) (by decide +kernel) (by decide +kernel)
theorem one_text {s : Tst} (h : WF s) (hp : pW "text" s = true) : s.toD = .tuple [.str "text", .str (a1D s.toD)] := one_of h (of_decide_eq_true hp) (by decide +kernel) (by decide +kernel)
theorem gd_mk1 {s : Tst} (h : σ[i]? = some (some v)) (dv : Dv K H v s.toD) (wf : WF s) (hp : pM s = true) : GD K (tOp (rIx K) (tVar i) (tC (.int 1))) σ H A (.str (a1D s.toD)) := by
  have hp : wD s.toD ∈ MV := of_decide_eq_true hp
  simp only [MV, List.mem_cons, List.not_mem_nil, or_false] at hp
  rcases hp with hp | hp
  · exact gd_w1 h dv (one_of wf hp (by decide +kernel) (by decide +kernel))
  · exact gd_v1 h dv (two_of wf hp)
/-- part[:2] == ("value", mark) -/
theorem gt_val {s : Tst} {m : Str} {k : Nat} {u : V} (h : σ[i]? = some (some v)) (dv : Dv K H v s.toD) (ok : Okt 7 s) (hk : σ[k]? = some (some u)) (du : Dv K H u (.str m)) (hm : (PyData.str m).canLay0 = true) :
    GT (tTest (tOp (rEqA K) (tSl (rSlD K) (tVar i) tNoPart (tPart (tC (.int 2)))) (RR.tTupF (tCons (tC (.str "value")) (tCons (tVar k) tNil))))) σ H A (pV m s) := by
  obtain ⟨r, e⟩ := toD_head s
  have hl := ok.lay
  have hd := ok.dep
  have hsub : ∃ ds, s.toD = .tuple ds ∧ ∀ x ∈ ds, x.canLay0 = true ∧ x.depth ≤ 7 := by
    refine ⟨_, e, fun x hx => ⟨?_, ?_⟩⟩
    · rw [e] at hl; exact lay_tup_inv hl x hx
    · rw [e, dTu] at hd
      have := dep_all x hx
      omega
  obtain ⟨ds, e2, hds⟩ := hsub
  rw [e2] at dv
  have g1 := gd_slT (K := K) (A := A) (gd_var h dv) gp_none (gp_some (K := K) (gd_int (i := ((2 : Nat) : Int))))
  rw [cutTo 2] at g1
  have shp : ∀ l : List PyData, (∀ x ∈ l, x.canLay0 = true ∧ x.depth ≤ 7) → SeqAt.shaped (.tuple l) = true := fun l hl => by
    show ((PyData.tuple l).canLay0 && decide ((PyData.tuple l).depth ≤ 64)) = true
    rw [Bool.and_eq_true]
    refine ⟨lay_tup fun x hx => (hl x hx).1, decide_eq_true ?_⟩
    rw [dTu]
    have := dA_le (ds := l) (n := 7) fun x hx => (hl x hx).2
    omega
  have g := gt_test (gdo (K := K) g1 (gd_tup (ga_cons gd_str (ga_cons (gd_var hk du) ga_nil))) (go_eqD (shp _ fun x hx => hds x (List.mem_of_mem_take hx)) (shp [.str "value", .str m] fun x hx => by
    simp only [List.mem_cons, List.not_mem_nil, or_false] at hx
    rcases hx with rfl | rfl
    · exact ⟨lay_str (by decide +kernel), by rw [dSt]; omega⟩
    · exact ⟨hm, by rw [dSt]; omega⟩)))
  have hb : PyData.eqv (.tuple (ds.take 2)) (.tuple [.str "value", .str m]) = pV m s := by
    rw [Bool.eq_iff_iff, eqv_pl _ _ (by unfold PlD PlDs PlDs PlDs PlD; rfl)]
    unfold pV
    rw [Bool.and_eq_true, decide_eq_true_eq, decide_eq_true_eq]
    constructor
    · intro h
      injection h with h
      match ds, h, e2 with
      | a :: b :: rest, h, e2 =>
        have h : [a, b] = [PyData.str "value", .str m] := h
        injection h with h1 h2
        injection h2 with h2 _
        rw [e2, h1, h2]
        exact ⟨rfl, rfl⟩
    · rintro ⟨h1, h2⟩
      have e3 := two_of ok.wf h1
      rw [e2] at e3
      injection e3 with e3
      rw [e3, ← e2, h2]; rfl
  rw [hb] at g
  exact g
abbrev snames_of : Stmt := topS 8
theorem scnames_of : FnScope ["test", "part"] ["test"] (defScope snames_of) := ⟨rfl, rfl, rfl, by decide +kernel, rfl, by decide +kernel, by decide +kernel⟩
theorem ok_names_of (T : Bx mg) (F : Fun K "names_of" "names_of" snames_of f fd) (csubtests : Cal P W K mg base 10 "subtests" (spA K 1 arT (Okt 7) toldD)) : FnOk P W K mg base CX0 11 f fd ["test"] (spA K 1 arT (Okt 7) fNm) := by
  refine fn_A F scnames_of rfl fun cdv A outer s H1 E hr => ⟨_, (pss_one (ps_ret (pe_callB (RR.cr_sortedX rfl) (by rfl) T.sorted (by decide +kernel) (pa_cons (RR.pe_sc (own := [("part", 1)]) (by rfl) scnames_of.nd (pi_seq (pe_k csubtests hr (by omega) (pa_cons (pv 0) pa_nil))) (blkOk_by (own := [("part", 1)]) (N := ["test", "part"]) (sc := defScope snames_of) (by decide +kernel)) (fun _ _ _ _ _ => (pg_name (i := 1) scnames_of.nd rfl (Or.inl rfl))) (fun _ _ _ _ _ => (pts_one (pt_cmpR (op_eqK K hr.units) (pe_ix (ix_seqK K) (pv 1) pe_int (fun _ _ => rfl)) pe_str (nomark _)))) (fun _ _ _ _ _ => (pe_ix (ix_seqK K) (pv 1) pe_int (fun _ _ => rfl)))) pa_nil)))), fun vs t H A hl sm dv ok => ?_⟩
  obtain ⟨v, rfl, d1⟩ := DvA.inv1 dv
  have hz := told_100 ok
  exact gb_ret (gd_srtT (P := P) (W := W) (p := pW "name") (f := fun s => a1D s.toD) (gi_sub ok (gd_var (i := 0) rfl d1)) (by omega) (fun s hs v' G H1 p0 dv' => gt_test (gdo (K := K) (gd_w0 rfl dv') gd_str go_eqS)) fun s hs hp v' G H1 p0 dv' => gd_w1 rfl dv' (one_name (okt_told ok s hs).wf hp)) rfl
abbrev stexts_of : Stmt := topS 10
theorem sctexts_of : FnScope ["test", "part"] ["test"] (defScope stexts_of) := ⟨rfl, rfl, rfl, by decide +kernel, rfl, by decide +kernel, by decide +kernel⟩
theorem ok_texts_of (T : Bx mg) (F : Fun K "texts_of" "texts_of" stexts_of f fd) (csubtests : Cal P W K mg base 10 "subtests" (spA K 1 arT (Okt 7) toldD)) : FnOk P W K mg base CX0 11 f fd ["test"] (spA K 1 arT (Okt 7) fTx) := by
  refine fn_A F sctexts_of rfl fun cdv A outer s H1 E hr => ⟨_, (pss_one (ps_ret (pe_callB (RR.cr_sortedX rfl) (by rfl) T.sorted (by decide +kernel) (pa_cons (RR.pe_sc (own := [("part", 1)]) (by rfl) sctexts_of.nd (pi_seq (pe_k csubtests hr (by omega) (pa_cons (pv 0) pa_nil))) (blkOk_by (own := [("part", 1)]) (N := ["test", "part"]) (sc := defScope stexts_of) (by decide +kernel)) (fun _ _ _ _ _ => (pg_name (i := 1) sctexts_of.nd rfl (Or.inl rfl))) (fun _ _ _ _ _ => (pts_one (pt_cmpR (op_eqK K hr.units) (pe_ix (ix_seqK K) (pv 1) pe_int (fun _ _ => rfl)) pe_str (nomark _)))) (fun _ _ _ _ _ => (pe_ix (ix_seqK K) (pv 1) pe_int (fun _ _ => rfl)))) pa_nil)))), fun vs t H A hl sm dv ok => ?_⟩
  obtain ⟨v, rfl, d1⟩ := DvA.inv1 dv
  have hz := told_100 ok
  exact gb_ret (gd_srtT (P := P) (W := W) (p := pW "text") (f := fun s => a1D s.toD) (gi_sub ok (gd_var (i := 0) rfl d1)) (by omega) (fun s hs v' G H1 p0 dv' => gt_test (gdo (K := K) (gd_w0 rfl dv') gd_str go_eqS)) fun s hs hp v' G H1 p0 dv' => gd_w1 rfl dv' (one_text (okt_told ok s hs).wf hp)) rfl
abbrev smarks_of : Stmt := topS 9
theorem scmarks_of : FnScope ["test", "part"] ["test"] (defScope smarks_of) := ⟨rfl, rfl, rfl, by decide +kernel, rfl, by decide +kernel, by decide +kernel⟩
theorem ok_marks_of (T : Bx mg) (F : Fun K "marks_of" "marks_of" smarks_of f fd) (csubtests : Cal P W K mg base 10 "subtests" (spA K 1 arT (Okt 7) toldD)) : FnOk P W K mg base CX0 11 f fd ["test"] (spA K 1 arT (Okt 7) fMk) := by
  refine fn_A F scmarks_of rfl fun cdv A outer s H1 E hr => ⟨_, (pss_one (ps_ret (pe_callB (RR.cr_sortedX rfl) (by rfl) T.sorted (by decide +kernel) (pa_cons (RR.pe_sc (own := [("part", 1)]) (by rfl) scmarks_of.nd (pi_seq (pe_k csubtests hr (by omega) (pa_cons (pv 0) pa_nil))) (blkOk_by (own := [("part", 1)]) (N := ["test", "part"]) (sc := defScope smarks_of) (by decide +kernel)) (fun _ _ _ _ _ => (pg_name (i := 1) scmarks_of.nd rfl (Or.inl rfl))) (fun _ _ _ _ _ => (pts_one (pt_cmpR (op_inK K) (pe_ix (ix_seqK K) (pv 1) pe_int (fun _ _ => rfl)) (RR.pe_tupF (pa_cons pe_str (pa_cons pe_str pa_nil))) (by rfl)))) (fun _ _ _ _ _ => (pe_ix (ix_seqK K) (pv 1) pe_int (fun _ _ => rfl)))) pa_nil)))), fun vs t H A hl sm dv ok => ?_⟩
  obtain ⟨v, rfl, d1⟩ := DvA.inv1 dv
  have hz := told_100 ok
  refine gb_ret (gd_srtT (P := P) (W := W) (p := pM) (f := fun s => a1D s.toD) (gi_sub ok (gd_var (i := 0) rfl d1)) (by omega) (fun s hs v' G H1 p0 dv' => ?_) fun s hs hp v' G H1 p0 dv' => gd_mk1 rfl dv' (okt_told ok s hs).wf hp) rfl
  have g := gt_test (gdo (K := K) (A := H1) (gd_w0 (σ := ((wipe [some v, none] [1]).set 1 (some v'))) (i := 1) rfl dv') (gd_tup (ga_cons gd_str (ga_cons gd_str ga_nil))) (go_inT (x := .str (wD s.toD)) (xs := MV.map V.str) rfl rfl))
  rw [inV_strs] at g
  exact g
abbrev svalues_of : Stmt := topS 11
theorem scvalues_of : FnScope ["test", "mark", "part"] ["test", "mark"] (defScope svalues_of) := ⟨rfl, rfl, rfl, by decide +kernel, rfl, by decide +kernel, by decide +kernel⟩
theorem ok_values_of (T : Bx mg) (F : Fun K "values_of" "values_of" svalues_of f fd) (csubtests : Cal P W K mg base 10 "subtests" (spA K 1 arT (Okt 7) toldD)) : FnOk P W K mg base CX0 11 f fd ["test", "mark"] (spA K 2 arTw (fun x => Okt 7 x.1 ∧ (PyData.str x.2).canLay0 = true) fVl) := by
  refine fn_A F scvalues_of rfl fun cdv A outer s H1 E hr => ⟨_, (pss_one (ps_ret (pe_callB (RR.cr_sortedX rfl) (by rfl) T.sorted (by decide +kernel) (pa_cons (RR.pe_sc (own := [("part", 2)]) (by rfl) scvalues_of.nd (pi_seq (pe_k csubtests hr (by omega) (pa_cons (pv 0) pa_nil))) (blkOk_by (own := [("part", 2)]) (N := ["test", "mark", "part"]) (sc := defScope svalues_of) (by decide +kernel)) (fun _ _ _ _ _ => (pg_name (i := 2) scvalues_of.nd rfl (Or.inl rfl))) (fun _ _ _ _ _ => (pts_one (pt_cmpR (op_eqK K hr.units) (pe_slice (sl_DK K) (pv 2) po_none (po_some pe_int)) (RR.pe_tupF (pa_cons pe_str (pa_cons (pv 1) pa_nil))) (nomark _)))) (fun _ _ _ _ _ => (pe_ix (ix_seqK K) (pv 2) pe_int (fun _ _ => rfl)))) pa_nil)))), fun vs x H A hl sm dv hp => ?_⟩
  obtain ⟨ok, hm⟩ := hp
  obtain ⟨v, u, rfl, d1, d2⟩ := DvA.inv2 dv
  have hz := told_100 ok
  exact gb_ret (gd_srtT (P := P) (W := W) (p := pV x.2) (f := fun s => a2D s.toD) (gi_sub ok (gd_var (i := 0) rfl d1)) (by omega) (fun s hs v' G H1 p0 dv' => gt_val rfl dv' (okt_told ok s hs) (k := 1) rfl (d2.to p0.hg) hm) fun s hs hp v' G H1 p0 dv' => gd_v2 rfl dv' (two_of (okt_told ok s hs).wf (of_decide_eq_true (Bool.and_eq_true _ _ ▸ hp).1))) rfl
end
end LW
end
section
set_option Elab.async false
set_option linter.all false
set_option maxRecDepth 100000
set_option maxHeartbeats 4000000
namespace LM
open PySem DL
open Tst
theorem kind_4 {w : Str} : w ∈ lawL4 ↔ lawKind w = 4 := by
  constructor
  · have : ∀ x ∈ lawL4, lawKind x = 4 := by decide +kernel
    exact this w
  · intro h
    unfold lawKind at h
    split at h
    · cases h
    split at h
    · cases h
    split at h
    · cases h
    split at h
    · cases h
    split at h
    · assumption
    split at h <;> cases h
theorem kind_5 {w : Str} : w ∈ lawL5 ↔ lawKind w = 5 := by
  constructor
  · have : ∀ x ∈ lawL5, lawKind x = 5 := by decide +kernel
    exact this w
  · intro h
    unfold lawKind at h
    split at h
    · cases h
    split at h
    · cases h
    split at h
    · cases h
    split at h
    · cases h
    split at h
    · cases h
    split at h
    · assumption
    · cases h
/-- which of the three a well formed test is, told by its word -/
theorem shape_of {t : Tst} (h : WF t) : (wD t.toD ∈ lawL4 ∧ ∃ w, t = many w t.kids) ∨ (wD t.toD ∉ lawL4 ∧ wD t.toD ∈ lawL5 ∧ ∃ w s, t = un w s) ∨ (wD t.toD ∉ lawL4 ∧ wD t.toD ∉ lawL5 ∧ t.kids = []) := by
  rw [kind_4, kind_5]
  cases t with
  | leaf w as =>
    unfold WF at h
    have e : wD (leaf w as).toD = w := by rw [toD_leaf]; rfl
    rw [e]
    exact .inr (.inr ⟨by omega, by omega, rfl⟩)
  | un w t =>
    unfold WF at h
    have e : wD (un w t).toD = w := by rw [toD_un]; rfl
    rw [e]
    exact .inr (.inl ⟨by omega, h.1, _, _, rfl⟩)
  | many w ts =>
    unfold WF at h
    have e : wD (many w ts).toD = w := by rw [toD_many]; rfl
    rw [e]
    exact .inl ⟨h.1, _, rfl⟩
/-- the texts that stand in l for the first time -/
def firstS (l : List Str) (i : Nat) : List Str := (((List.range i).map fun k => (k, l.getD k "")).filter fun p => !decide (p.2 ∈ l.take p.1)).map (·.2)
theorem firstS_ok (l : List Str) : ∀ i, i ≤ l.length → (firstS l i).Nodup ∧ ∀ x, x ∈ firstS l i ↔ x ∈ l.take i
  | 0, _ => ⟨List.nodup_nil, fun x => by rw [List.take_zero]; exact Iff.rfl⟩
  | i + 1, h => by
    obtain ⟨n, m⟩ := firstS_ok l i (by omega)
    have hx : l.getD i "" = l[i]'(by omega) := by rw [List.getD_eq_getElem?_getD, List.getElem?_eq_getElem (by omega)]; rfl
    have ht : l.take (i + 1) = l.take i ++ [l[i]'(by omega)] := by rw [List.take_add_one, List.getElem?_eq_getElem (by omega)]; rfl
    have e : firstS l (i + 1) = firstS l i ++ (if l[i]'(by omega) ∈ l.take i then [] else [l[i]'(by omega)]) := by
      unfold firstS
      rw [List.range_succ, List.map_append, List.filter_append, List.map_append]
      congr 1
      show ((List.filter _ [(i, l.getD i "")]).map (·.2)) = _
      rw [hx, List.filter_cons]
      by_cases c : l[i]'(by omega) ∈ l.take i
      · rw [if_pos c, if_neg (by simp [c])]; rfl
      · rw [if_neg c, if_pos (by simp [c])]; rfl
    rw [e, ht]
    by_cases c : l[i]'(by omega) ∈ l.take i
    · rw [if_pos c, List.append_nil]
      refine ⟨n, fun x => (m x).trans ?_⟩
      rw [List.mem_append]
      exact ⟨.inl, fun h => h.elim id fun h => by rw [List.mem_singleton.mp h]; exact c⟩
    · rw [if_neg c]
      refine ⟨?_, fun x => by rw [List.mem_append, List.mem_append, m]⟩
      rw [List.nodup_append]
      refine ⟨n, by simp, fun x hx y hy e => c ?_⟩
      rw [← List.mem_singleton.mp hy, ← e]
      exact (m x).mp hx
end LM
namespace LW
open PySem PySem.Spec PyProof.Rows L2 DL LM
section
variable {P : Program} {W : World} {K : PySem.W.Frag} {mg : Str → Option Value} {base : Heap} {f : Addr} {fd : FuncData} {A A2 H H' H0 H1 H2 G G2 Hc : Hp} {σ : L2.St} {t te td tn tv t1 t2 : TE} {tr : TS} {ts : TS} {tt : TT} {D : Ends} {tA : TA} {n i j : Nat} {p b : Addr} {xs ys : List V} {v : V} {d : PyData} {ds es : List PyData}
open Tst
structure Bq (mg : Str → Option Value) : Prop extends Bx mg where
  enumerate : mg "enumerate" = none
noncomputable def metD (t : Tst) : PyData := .list ((metT 300 [t] []).map toD)
abbrev s_law_met : Stmt := topS 16
theorem sc_law_met : FnScope ["test", "waiting", "met", "turn", "one"] ["test"] (defScope s_law_met) := ⟨rfl, rfl, rfl, by decide +kernel, rfl, by decide +kernel, by decide +kernel⟩
theorem ok_met (T : Bx mg) (F : Fun K "_law_met" "_law_met" s_law_met f fd) : FnOk P W K mg base CX0 1 f fd ["test"] (spA K 1 arT (Okt 7) metD) := by
  refine fn_A F sc_law_met rfl fun cdv A outer s H1 E hr => ⟨_, (pss_cons (ps_set (i := 1) sc_law_met.nd rfl (Or.inl rfl) (pe_lst (pa_cons (pv 0) pa_nil)))
      (pss_cons (ps_set (i := 2) sc_law_met.nd rfl (Or.inl rfl) (pe_lst pa_nil))
      (pss_cons (ps_for PassesOwn.never rfl (pi_range1 (by rfl) T.range (pa_cons pe_int pa_nil)) (pg_name (i := 3) sc_law_met.nd rfl (Or.inl rfl)) (pss_one (ps_if (pt_tr (pv 1)) (pss_cons (ps_set (i := 4) sc_law_met.nd rfl (Or.inl rfl) (pe_bm0 PySem.F.plainAttrs_list PySem.F.slot_list_pop PySem.F.type_list_pop mt_pop (pv 1)))
      (pss_cons (ps_expr (pe_bm PySem.F.plainAttrs_list PySem.F.slot_list_append PySem.F.type_list_append mt_append (pv 2) (pa_cons (pv 4) pa_nil)))
      (pss_one (ps_if (pt_cmpR op_in_seq (pe_ix ix_seq (pv 4) pe_int (fun _ _ => rfl)) (RR.pe_tupF (pa_cons pe_str (pa_cons pe_str pa_nil))) (by rfl)) (pss_one (ps_set (i := 1) sc_law_met.nd rfl (Or.inl rfl) (pe_op op_addA (pv 1) (pe_callTy cr_listOf (by rfl) T.list (by decide +kernel) (pa_cons (pe_ix ix_seq (pv 4) pe_int (fun _ _ => rfl)) pa_nil))))) (pss_one (ps_if (pt_cmpR op_in_seq (pe_ix ix_seq (pv 4) pe_int (fun _ _ => rfl)) (RR.pe_tupF (pa_cons pe_str (pa_cons pe_str (pa_cons pe_str (pa_cons pe_str (pa_cons pe_str (pa_cons pe_str (pa_cons pe_str pa_nil)))))))) (by rfl)) (pss_one (ps_expr (pe_bm PySem.F.plainAttrs_list PySem.F.slot_list_append PySem.F.type_list_append mt_append (pv 1) (pa_cons (pe_ix ix_seq (pv 4) pe_int (fun _ _ => rfl)) pa_nil)))) pss_nil)))))) pss_nil)))
      (pss_one (ps_ret (pv 2)))))), fun vs t H A hl sm dv ok => ?_⟩
  obtain ⟨v, rfl, d1⟩ := DvA.inv1 dv
  intro H0 H1 e D q
  refine ⟨v, rfl, by show 1 ≤ sizeLine; rw [sizeLine_eq]; decide, fun a ha => ?_⟩
  have w1 := Own.new (Pub.refl e.gh) ha (.lst [v])
  refine ⟨Nat.zero_le _, fun m hm => ?_⟩
  have w2 := Own.new w1.pub hm (.lst [])
  have ham : a ≠ m := fun z => by rw [← z, w1.at_] at hm; cases hm
  dsimp only [gName]
  refine s_mid (fun σ' H' => ∃ (a m : Addr) (ys : List V) (x3 x4 : Option V) (G : Hp), σ' = [some v, some (.ref a), some (.ref m), x3, x4] ∧ Own H0 H1 G H' m (.lst ys) ∧ DvA K G ys ((metT 300 [t] []).map toD)) ?_ fun rest => ?_
  · rintro σ' H' ⟨a, m, ys, x3, x4, G, rfl, w, da⟩
    exact ⟨.ref m, rfl, q (metD t) _ _ _ rfl w.open_ (w.dv da)⟩
  · refine for_run (H := H0) (gi_rng1 (K := K) (ga_cons (gd_int (i := 300)) ga_nil) (by decide) (by decide)) (.refl w2.gh) fun B HB PB => ?_
    refine ⟨fun i σ' G H' => ∃ (a m : Addr) (xs ys : List V) (x3 x4 : Option V) (ws acc : List Tst), σ' = [some v, some (.ref a), some (.ref m), x3, x4] ∧ Own H0 H1 G H' a (.lst xs) ∧ Own H0 H1 G H' m (.lst ys) ∧ a ≠ m ∧ Same B G ∧ DvA K G xs (ws.map toD) ∧ DvA K G ys (acc.map toD) ∧ metT (300 - i) ws acc = metT 300 [t] [] ∧ (∀ s ∈ ws, Okt 7 s) ∧ acc.length ≤ i ∧ ws.length ≤ 1 + 15 * i,
      ⟨a, m, _, _, none, none, [t], [], rfl, (LW.Own.stay w1 w2 ham).step PB, w2.step PB, ham, .refl _, .cons ((d1.to e.hg).to PB.hg) .nil, .nil, rfl, fun s hs => by rw [List.mem_singleton.mp hs]; exact ok, Nat.le_refl _, Nat.le_refl _⟩, fun i σ' G H' ⟨_, _, _, _, _, _, _, _, _, _, w, _, s, _⟩ => ⟨s, w.gh⟩, ?_, ?_⟩
    · rintro i d σ' G H' hd ⟨a, m, xs, ys, x3, x4, ws, acc, rfl, wa, wm, ham, sB, dxs, dys, hmet, hok, hacc, hws⟩ u G5 H5 P5 dv5
      have hi : i < 300 := by
        have z := (List.getElem?_eq_some_iff.mp hd).1
        rw [List.length_map, upto_len] at z
        exact z
      have hsub : 300 - i = (299 - i) + 1 := by omega
      have hsub2 : 300 - (i + 1) = 299 - i := by omega
      have wa5 := wa.step P5
      have wm5 := wm.step P5
      refine s_if (gt_own (gv_var rfl) wa5.at_) wa5.gh (fun c H6 s6 => ?_) fun c H6 s6 => ?_
      · have wa6 := wa5.test s6
        have wm6 := wm5.test s6
        rcases List.eq_nil_or_concat ws with rfl | ⟨us, s, rfl⟩
        · cases dxs
          cases c
        rw [List.concat_eq_append] at dxs hmet hok hws
        rw [List.map_append] at dxs
        obtain ⟨zs, z, rfl, dzs, dz⟩ := DvA.snoc dxs
        have oks : Okt 7 s := hok s (by simp)
        have hok' : ∀ x ∈ us, Okt 7 x := fun x hx => hok x (List.mem_append_left _ hx)
        rw [hsub, metT_snoc] at hmet
        rw [List.length_append, List.length_singleton] at hws
        have hkl : s.kids.length ≤ 14 := by
          have h1 := oks.len
          rw [subT_eq, List.length_cons] at h1
          have h2 : ∀ ts : List Tst, ts.length ≤ (subTs ts).length := by
            intro ts
            induction ts with
            | nil => exact Nat.zero_le _
            | cons x ts ih =>
              have e : subTs (x :: ts) = subT x ++ subTs ts := by conv => lhs; unfold subTs
              rw [e, List.length_append, List.length_cons, subT_eq, List.length_cons]; omega
          have := h2 s.kids
          omega
        refine s_pop wa6 rfl fun H7 wa7 e7 => ?_
        subst e7
        have wm7 := LW.Own.stay wm6 wa7 (Ne.symm ham)
        refine s_mid (fun σ' H' => ∃ (y : V) (G' : Hp), σ' = [some v, some (.ref a), some (.ref m), some u, some z] ∧ Own H0 H1 G' H' a (.lst zs) ∧ Own H0 H1 G' H' m (.lst (ys ++ [y])) ∧ Same G5 G' ∧ Dv K G' y s.toD) ?_ fun rest2 => ?_
        · rintro σ' H8 ⟨y, G8, rfl, wa8, wm8, s58, dy8⟩
          have dz8 := (dz.to P5.hg).to s58
          have dzs8 := (dzs.to P5.hg).to s58
          have dys8 := (dys.to P5.hg).to s58
          have dyz : DvA K G8 (ys ++ [y]) ((acc ++ [s]).map toD) := by rw [List.map_append]; exact DvA.app dys8 (.cons dy8 .nil)
          have sB8 : Same B G8 := sB.trans (P5.hg.trans s58)
          have hal : (acc ++ [s]).length ≤ i + 1 := by rw [List.length_append, List.length_singleton]; omega
          have g4 := gt_test (gdo (K := K) (A := H8) (H := G8) (gd_w0 (σ := [some v, some (.ref a), some (.ref m), some u, some z]) (i := 4) rfl dz8) (gd_tup (ga_cons gd_str (ga_cons gd_str ga_nil))) (go_inT (x := .str (wD s.toD)) (xs := lawL4.map V.str) rfl rfl))
          rw [inV_strs] at g4
          have g5 : ∀ {H9 : Hp}, GT _ _ G8 H9 (decide (wD s.toD ∈ lawL5)) := fun {H9} => by
            have g := gt_test (gdo (K := K) (A := H9) (H := G8) (gd_w0 (σ := [some v, some (.ref a), some (.ref m), some u, some z]) (i := 4) rfl dz8) (gd_tup (ga_cons gd_str (ga_cons gd_str (ga_cons gd_str (ga_cons gd_str (ga_cons gd_str (ga_cons gd_str (ga_cons gd_str ga_nil)))))))) (go_inT (x := .str (wD s.toD)) (xs := lawL5.map V.str) rfl rfl))
            rw [inV_strs] at g
            exact g
          refine s_if g4 wa8.gh (fun c H9 s9 => ?_) fun c H9 s9 => ?_
          · have wa9 := wa8.test s9
            have wm9 := wm8.test s9
            rcases shape_of oks.wf with ⟨_, w, es⟩ | ⟨h, _⟩ | ⟨h, _⟩
            · have dz9 : Dv K G8 z (.tuple [.str w, .tuple (s.kids.map toD)]) := by rw [← toD_many, ← es]; exact dz8
              refine s_addOwn (K := K) (σ := [some v, some (.ref a), some (.ref m), some u, some z]) (i := 1) (j := 1) wa9 rfl (gd_cb (ga_cons (gdo (gd_var (i := 4) rfl dz9) gd_int (go_ixT (atI_nat (j := 1) rfl))) ga_nil) gc_listT) (by rw [DvA.len dzs8, List.length_map, List.length_map, sizeLine_eq]; omega) fun b vs Ga Ha Hx Pa hb eH dvs => ?_
              subst eH
              have wn := Own.new (wa9.step Pa).pub hb (.lst (zs ++ vs))
              have hmb : m ≠ b := fun z => by rw [← z, (wm9.step Pa).at_] at hb; cases hb
              refine ⟨Ga, b, m, _, _, some u, some z, us ++ s.kids, acc ++ [s], rfl, wn, LW.Own.stay (wm9.step Pa) wn hmb, Ne.symm hmb, sB8.trans Pa.hg, by rw [List.map_append]; exact DvA.app (dzs8.to Pa.hg) dvs, dyz.to Pa.hg, by rw [hsub2]; exact hmet, fun x hx => ?_, hal, by rw [List.length_append]; omega⟩
              rcases List.mem_append.mp hx with h | h
              · exact hok' x h
              · exact oks.kids x h
            · exact absurd (of_decide_eq_true c) h
            · exact absurd (of_decide_eq_true c) h
          · have wa9 := wa8.test s9
            have wm9 := wm8.test s9
            have c4 : wD s.toD ∉ lawL4 := of_decide_eq_false c
            refine s_if g5 wa9.gh (fun c H10 s10 => ?_) fun c H10 s10 => ?_
            · have wa10 := wa9.test s10
              have wm10 := wm9.test s10
              rcases shape_of oks.wf with ⟨h, _⟩ | ⟨_, _, w, k, rfl⟩ | ⟨_, h, _⟩
              · exact absurd h c4
              · have dz9 : Dv K G8 z (.tuple [.str w, k.toD]) := by rw [← toD_un]; exact dz8
                refine s_appendX (K := K) (σ := [some v, some (.ref a), some (.ref m), some u, some z]) (j := 1) wa10 rfl (gdo (gd_var (i := 4) rfl dz9) gd_int (go_ixT (atI_nat (j := 1) rfl))) (by rw [DvA.len dzs8, List.length_map, sizeLine_eq]; omega) fun y Ga Ha Hx Pa eH wn dy => ?_
                subst eH
                refine ⟨Ga, a, m, _, _, some u, some z, us ++ [k], acc ++ [un w k], rfl, wn, LW.Own.stay (wm10.step Pa) wn (Ne.symm ham), ham, sB8.trans Pa.hg, by rw [List.map_append]; exact DvA.app (dzs8.to Pa.hg) (.cons dy .nil), dyz.to Pa.hg, by rw [hsub2]; exact hmet, fun x hx => ?_, hal, by rw [List.length_append, List.length_singleton]; omega⟩
                rcases List.mem_append.mp hx with h | h
                · exact hok' x h
                · exact oks.kids x h
              · exact absurd (of_decide_eq_true c) h
            · rcases shape_of oks.wf with ⟨h, _⟩ | ⟨_, h, _⟩ | ⟨_, _, h⟩
              · exact absurd h c4
              · exact absurd h (of_decide_eq_false c)
              · rw [h, List.append_nil] at hmet
                exact ⟨G8, a, m, _, _, some u, some z, us, acc ++ [s], rfl, wa9.test s10, wm9.test s10, ham, sB8, dzs8, dyz, by rw [hsub2]; exact hmet, hok', hal, by omega⟩
        · refine s_appendX (K := K) wm7 rfl (gd_var (i := 4) rfl (dz.to P5.hg)) (by rw [DvA.len dys, List.length_map, sizeLine_eq]; omega) fun y Ga Ha Hx Pa eH wn dy => ?_
          subst eH
          exact rest2 _ _ ⟨y, Ga, rfl, LW.Own.stay (wa7.step Pa) wn ham, wn, Pa.hg, dy⟩
      · rcases List.eq_nil_or_concat ws with rfl | ⟨us, s, rfl⟩
        · cases dxs
          exact ⟨G5, a, m, [], ys, some u, x4, [], acc, rfl, wa5.test s6, wm5.test s6, ham, sB.trans P5.hg, .nil, dys.to P5.hg, by rw [metT_nil] at hmet ⊢; exact hmet, (fun s hs => (nomatch hs)), by omega, Nat.zero_le _⟩
        · rw [List.concat_eq_append, List.map_append] at dxs
          obtain ⟨zs, z, rfl, _⟩ := DvA.snoc dxs
          rw [List.isEmpty_eq_false_iff.mpr (by simp)] at c
          cases c
    · rintro σ' G H' ⟨a, m, xs, ys, x3, x4, ws, acc, rfl, wa, wm, ham, sB, dxs, dys, hmet, hok, hacc, hws⟩
      rw [List.length_map, upto_len] at hmet
      exact rest _ _ ⟨a, m, ys, x3, x4, G, rfl, wm, by
        have : metT 0 ws acc = acc := by unfold metT; rfl
        rw [← hmet]
        show DvA K G ys ((metT 0 ws acc).map toD)
        rw [this]; exact dys⟩
def arS1 : List Str → List PyData := fun l => [.list (l.map .str)]
noncomputable def fOnce (l : List Str) : PyData := .list ((srtS l).map .str)
def enumT (ds : List PyData) : List PyData := (List.range ds.length).map fun i => .tuple [ofN i, ds.getD i .none]
theorem enumT_get {ds : List PyData} {i : Nat} {d : PyData} (h : ds[i]? = some d) : (enumT ds)[i]? = some (.tuple [ofN i, d]) := by
  have hl := (List.getElem?_eq_some_iff.mp h).1
  unfold enumT
  rw [List.getElem?_map, List.getElem?_range hl]
  show some (PyData.tuple [ofN i, ds.getD i .none]) = _
  rw [List.getD_eq_getElem?_getD, h]; rfl
theorem enumT_len {ds : List PyData} : (enumT ds).length = ds.length := by unfold enumT; rw [List.length_map, List.length_range]
theorem runs_enumT {a : Addr} (s : SqL K G a xs) (h : DvA K G xs ds) : Runs K (Ite K a) G (enumT ds) where
  go := fun i H e hi => by
    rw [enumT_len] at hi
    exact ⟨xs, xs[i]'(by rw [DvA.len h]; exact hi), e.seq s, List.getElem?_eq_getElem _⟩
  stop := fun i H e hi => by
    rw [enumT_len] at hi
    exact ⟨xs, e.seq s, by rw [DvA.len h]; exact hi⟩
  yld := fun i H x H' G' e e2 hi hy => by
    obtain ⟨T, y, rfl, hn, rfl, hx⟩ := hy
    obtain ⟨d, hd, dy⟩ := DvA.getv h (hx xs ((e.trans e2).seq s))
    obtain ⟨p, dz⟩ := zip_yld (K := K) (a := ofN i) e2 hn (.int (i : Int)) (dy.to e)
    exact ⟨_, _, enumT_get hd, p, dz⟩
theorem gi_enumT (ga : GA K tA σ H A [.list ds]) : GI K (iEnum K tA) σ H A (enumT ds) := fun H0 H1 e R q => ga.to e fun vs G H2 p dv => by
  obtain ⟨v, rfl, d1⟩ := DvA.inv1 dv
  obtain ⟨a, xs, rfl, s, da⟩ := Dv.lst_inv d1
  exact ⟨a, xs, rfl, .inl (rd_same p.gh s), q _ G H2 p (runs_enumT (.inl s) da)⟩
theorem enumT_strs (l : List Str) : enumT (l.map .str) = ((List.range l.length).map fun k => (k, l.getD k "")).map fun p => .tuple [ofN p.1, .str p.2] := by
  unfold enumT
  rw [List.length_map, List.map_map]
  refine List.map_congr_left fun i hi => ?_
  have hi := List.mem_range.mp hi
  show PyData.tuple [ofN i, (l.map PyData.str).getD i .none] = .tuple [ofN i, .str (l.getD i "")]
  rw [List.getD_eq_getElem?_getD, List.getElem?_map, List.getElem?_eq_getElem hi, List.getD_eq_getElem?_getD, List.getElem?_eq_getElem hi]; rfl
abbrev s_law_once : Stmt := topS 17
theorem sc_law_once : FnScope ["values", "k", "value"] ["values"] (defScope s_law_once) := ⟨rfl, rfl, rfl, by decide +kernel, rfl, by decide +kernel, by decide +kernel⟩
theorem ok_once (T : Bq mg) (F : Fun K "_law_once" "_law_once" s_law_once f fd) : FnOk P W K mg base CX0 1 f fd ["values"] (spA K 1 arS1 (fun l => l.length < 64) fOnce) := by
  refine fn_A F sc_law_once rfl fun cdv A outer s H1 E hr => ⟨_, (pss_one (ps_ret (pe_callB cr_sortedS (by rfl) T.sorted (by decide +kernel) (pa_cons (pe_lc (own := [("k", 1), ("value", 2)]) (by rfl) sc_law_once.nd (pi_enum (by rfl) T.enumerate (pa_cons (pv 0) pa_nil)) (blkOk_by (own := [("k", 1), ("value", 2)]) (N := ["values", "k", "value"]) (sc := defScope s_law_once) (by decide +kernel)) (fun _ _ _ _ _ => (pg_tupK K (n := 2) rfl (pgs_cons (pg_name (i := 1) sc_law_once.nd rfl (Or.inl rfl)) (pgs_cons (pg_name (i := 2) sc_law_once.nd rfl (Or.inl rfl)) pgs_nil)))) (fun _ _ _ _ _ => (pts_one (pt_cmpR (op_ninK K) (pv 2) (pe_slice (sl_DK K) (pv 0) po_none (po_some (pv 1))) (by rfl)))) (fun _ _ _ _ _ => (pv 2))) pa_nil)))), fun vs l H A hl sm dv hz => ?_⟩
  obtain ⟨v, rfl, d1⟩ := DvA.inv1 dv
  have hz : l.length < 64 := hz
  have hf := firstS_ok l l.length (Nat.le_refl _)
  rw [List.take_length] at hf
  have hfl : (firstS l l.length).length < 64 := by
    refine Nat.lt_of_le_of_lt ?_ hz
    unfold firstS
    rw [List.length_map]
    refine Nat.le_trans (List.length_filter_le _ _) ?_
    rw [List.length_map, List.length_range]; exact Nat.le_refl _
  have he : srtS (firstS l l.length) = srtS l := srtS_congr hf.2
  have gi := gi_enumT (K := K) (A := A) (ga_cons (gd_var (σ := [some v, none, none]) (i := 0) rfl d1) ga_nil)
  rw [enumT_strs] at gi
  have gl := lc_run (te := tVar 2) (tt := tTest (tOp (rIn K true) (tVar 2) (tSl (rSlD K) (tVar 0) tNoPart (tPart (tVar 1))))) (g := gTup K 2 (gCons (gName 1) (gCons (gName 2) gNil))) (vs := [1, 2]) (fun p : Nat × Str => .tuple [ofN p.1, .str p.2]) (fun p : Nat × Str => !decide (p.2 ∈ l.take p.1)) (fun p : Nat × Str => .str p.2) gi (by rw [List.length_map, List.length_range]; omega) fun i p hp v' G H1 p0 dv' Q q => by
    obtain ⟨c, ws, rfl, sq, da⟩ := Dv.tup_inv dv'
    obtain ⟨x, y, rfl, dx, dy⟩ := DvA.inv2 da
    have ex := Dv.int_inv dx
    subst ex
    refine ⟨c, _, rfl, seqT p0.gh sq, rfl, _, _, rfl, y, _, rfl, rfl, q _ G H1 (.refl p0.gh) (wipe2 (by decide)) ?_ fun _ => gd_var (i := 2) rfl dy⟩
    have g1 := gd_slL (K := K) (A := H1) (gd_var (σ := ((wipe [some v, none, none] [1, 2]).set 1 (some (V.int (p.1 : Int)))).set 2 (some y)) (i := 0) rfl (d1.to p0.hg)) gp_none (gp_some (K := K) (gd_var (i := 1) rfl (.int (p.1 : Int))))
    rw [cutTo p.1, ← List.map_take] at g1
    have g := gt_test (gdo (K := K) (gd_var (i := 2) rfl dy) g1 (go_ninL (x := .str p.2) (xs := (l.take p.1).map V.str) rfl (flat_strs _)))
    rw [inV_strs] at g
    exact g
  have ef : ((((List.range l.length).map fun k => (k, l.getD k "")).filter fun p => !decide (p.2 ∈ l.take p.1)).map fun p => PyData.str p.2) = (firstS l l.length).map .str := by
    unfold firstS
    rw [List.map_map]; rfl
  rw [ef] at gl
  refine gb_ret (gd_cb (ga_cons gl ga_nil) (gc_srtS hf.1 hfl)) ?_
  rw [he]; rfl
end
end LW
end
section
set_option Elab.async false
set_option linter.all false
set_option maxRecDepth 100000
set_option maxHeartbeats 8000000
namespace LM
open PySem DL LW
open Tst
theorem metT_short : ∀ (n : Nat) (ws : List Tst), (metT n ws []).length ≤ (subTs ws).length
  | 0, ws => by unfold metT; exact Nat.zero_le _
  | n + 1, ws => by
    rcases List.eq_nil_or_concat ws with rfl | ⟨v, t, rfl⟩
    · rw [metT_nil]; exact Nat.zero_le _
    · have := metT_short n (v ++ t.kids)
      rw [List.concat_eq_append, metT_snoc, metT_acc, List.nil_append, List.length_append, List.length_singleton, subTs_app, subTs_one, subT_eq, List.length_append, List.length_cons]
      rw [subTs_app, List.length_append] at this
      omega
def metL (t : Tst) : List Tst := metT 300 [t] []
theorem metL_len {t : Tst} (h : Okt 7 t) : (metL t).length ≤ 15 := by
  have := metT_short 300 [t]
  rw [subTs_one] at this
  exact Nat.le_trans this h.len
theorem metL_mem {t s : Tst} (h : Okt 7 t) : s ∈ metL t ↔ s ∈ subT t := metT_sub (Nat.le_trans h.len (by decide))
theorem metL_tail {t : Tst} (h : Okt 7 t) : ∃ r, metL t = t :: r ∧ ∀ s, s ∈ r ↔ s ∈ subTs t.kids := metT_tail (Nat.le_trans h.len (by decide))
/-- the same tests, but for their number and their order -/
theorem words_same {t : Tst} (h : Okt 7 t) {p : Tst → Bool} {f : Tst → Str} (hp : ∀ a b : Tst, a.toD = b.toD → p a = p b) (hf : ∀ a b : Tst, a.toD = b.toD → f a = f b) : wordsD p f (told t) = wordsD p f (metL t) := by
  unfold wordsD
  rw [srtS_congr (l := ((told t).filter p).map f) (m := ((metL t).filter p).map f) fun k => ?_]
  constructor
  · intro hk
    obtain ⟨s, hs, rfl⟩ := List.mem_map.mp hk
    obtain ⟨h1, h2⟩ := List.mem_filter.mp hs
    exact List.mem_map.mpr ⟨s, List.mem_filter.mpr ⟨(metL_mem h).mpr (told_sub h1), h2⟩, rfl⟩
  · intro hk
    obtain ⟨s, hs, rfl⟩ := List.mem_map.mp hk
    obtain ⟨h1, h2⟩ := List.mem_filter.mp hs
    obtain ⟨s', h3, e⟩ := List.mem_map.mp (told_has ((metL_mem h).mp h1))
    exact List.mem_map.mpr ⟨s', List.mem_filter.mpr ⟨h3, by rw [hp s' s e]; exact h2⟩, hf s' s e⟩
theorem back_same {t : Tst} (h : Okt 7 t) : (!FWD.any fun w => (told t).any fun s => decide (wD s.toD = w)) = ((metL t).filter fun s => decide (wD s.toD ∈ FWD)).isEmpty := by
  rw [Bool.eq_iff_iff, Bool.not_eq_true', List.isEmpty_iff, List.filter_eq_nil_iff, List.any_eq_false]
  constructor
  · intro a s hs c
    obtain ⟨s', h3, e⟩ := List.mem_map.mp (told_has ((metL_mem h).mp hs))
    refine a (wD s.toD) (of_decide_eq_true c) ?_
    exact List.any_eq_true.mpr ⟨s', h3, by rw [e]; exact decide_eq_true rfl⟩
  · intro a w hw c
    obtain ⟨s, hs, e⟩ := List.any_eq_true.mp c
    refine a s ((metL_mem h).mpr (told_sub hs)) ?_
    rw [of_decide_eq_true e]
    exact decide_eq_true hw
theorem mem_srtS {l : List Str} {x : Str} (h : x ∈ srtS l) : x ∈ l := by
  unfold srtS at h
  split at h
  · rename_i hx
    exact ((Classical.choose_spec hx).mem x).mp h
  · cases h
theorem lay_at {d : PyData} (h : d.canLay0 = true) : (PyData.str (a1D d)).canLay0 = true ∧ (PyData.str (a2D d)).canLay0 = true := by
  refine ⟨?_, ?_⟩
  · unfold a1D
    split
    · exact lay_tup_inv h _ (by simp)
    · exact lay_str (by decide +kernel)
  · unfold a2D
    split
    · exact lay_tup_inv h _ (by simp)
    · exact lay_str (by decide +kernel)
theorem shp_strs {l : List Str} (h : ∀ x ∈ l, (PyData.str x).canLay0 = true) : SeqAt.shaped (.list (l.map .str)) = true := by
  show ((PyData.list (l.map .str)).canLay0 && decide ((PyData.list (l.map .str)).depth ≤ 64)) = true
  rw [Bool.and_eq_true]
  refine ⟨lay_lst fun d hd => ?_, decide_eq_true ?_⟩
  · obtain ⟨x, hx, rfl⟩ := List.mem_map.mp hd
    exact h x hx
  · have e : (PyData.list (l.map .str)).depth = PyData.depthAll (l.map .str) + 1 := by conv => lhs; unfold PyData.depth
    have := dep_strs l
    omega
def MM : List Str := ["m", "n", "k"]
theorem eqv_strs (l : List Str) : PyData.eqv (.list (l.map .str)) (.list (l.map .str)) = true := by
  rw [PyData.eqv]
  exact (eqvs_pl _ _ ((plDs_iff _).mpr fun d hd => by
    obtain ⟨x, _, rfl⟩ := List.mem_map.mp hd
    unfold PlD; rfl)).mpr rfl
end LM
namespace LW
open PySem PySem.Spec PyProof.Rows L2 DL LM
section
variable {P : Program} {W : World} {K : PySem.W.Frag} {mg : Str → Option Value} {base : Heap} {f : Addr} {fd : FuncData} {A A2 H H' H0 H1 H2 G G2 Hc : Hp} {σ : L2.St} {t te td tn tv t1 t2 : TE} {tr : TS} {ts : TS} {tt : TT} {D : Ends} {tA : TA} {n i j : Nat} {p b : Addr} {xs ys : List V} {v : V} {d : PyData} {ds es : List PyData}
open Tst
theorem eqv_nil' {l : List PyData} : PyData.eqv (.list l) (.list []) = l.isEmpty := by
  cases l with
  | nil => rfl
  | cons x l => rfl
theorem go_neBB {x y : Bool} : GO K (rNeA K) (.bool x) (.bool y) (.bool (!(x == y))) := fun H H1 G H2 v w Q p dx dy q => by
  have e1 := Dv.bl_inv dx
  have e2 := Dv.bl_inv dy
  subst e1 e2
  refine .inl ⟨rfl, ?_⟩
  have z : decide (V.bl x = V.bl y) = (x == y) := by cases x <;> cases y <;> rfl
  rw [z]
  exact q _ G H2 p (.bl _)
theorem gd_neg1 : GD K (tUn (rU fun i => .int (-i)) (tC (.int 1))) σ H A (.int (-1)) := fun H0 H1 e Q q => ⟨1, rfl, q _ H0 H1 (.refl e.gh) (.int _)⟩
theorem atI_last {α : Type} {l : List α} {x : α} : atI (l ++ [x]) (-1) = some x := by
  have e : ixN (l ++ [x]).length (-1) = some l.length := by
    unfold ixN
    rw [if_neg (by decide), if_pos (by rw [List.length_append, List.length_singleton]; omega), List.length_append, List.length_singleton]
    congr 1
    omega
  unfold atI
  rw [e]
  show (l ++ [x])[l.length]? = some x
  rw [List.getElem?_append_right (Nat.le_refl _), Nat.sub_self]; rfl
/-- test = _law_test(_law_draws(cell, 24), 3, False) -/
theorem s_test {i : Nat} {c : Int} (g : GD K te σ G H (.int c)) (s : Same G H) (k : ∀ ds v G' H', Pub G H G' H' → Dv K G' v (lawT 3 ds false).toD → tr D (σ.set i (some v)) H') :
    tSeq (tAsg (tCall (spA K 3 arLt (preLt 4) fun x => (lawT x.2.1 x.1 x.2.2).toD) [] E0 (tCons (tCall (spD K 2 preDraws resDraws) [] E0 (tCons te (tCons (tC (.int 24)) tNil))) (tCons (tC (.int 3)) (tCons (tC (.bl false)) tNil)))) (gName i)) tr D σ H := by
  refine gr_call (K := K) (Pre := preDraws) (R := resDraws) (ga_cons g (ga_cons (gd_int (i := 24)) ga_nil)) rfl ⟨c, 24, rfl, by decide, by decide⟩ G H (.refl s) _ fun d v G1 H1 r p dv => ?_
  obtain ⟨c', m', e, ds, rfl, hl, hb⟩ := r
  have e2 : m' = 24 := by
    simp at e
    exact e.2.symm
  subst e2
  exact ⟨(ds, 3, false), G1, rfl, p.gh, .cons dv (.cons (.int _) (.cons (.bl _) .nil)), ⟨⟨by show 9 ≤ ds.length; omega, by show ds.length ≤ 100; omega⟩, by show 3 < 4; decide⟩, fun w G2 H2 p2 dw => k ds w G2 H2 (p.trans p2) dw⟩
/-- _law_once([f(one) for one in met if p(one)]) -/
theorem gd_once {M : List Tst} {p : Tst → Bool} {f : Tst → Str} (h3 : σ[3]? = some (some v)) (dv : Dv K H v (.list (M.map toD))) (z : M.length ≤ 15)
    (ht : ∀ s ∈ M, ∀ v G H1, Pub H A G H1 → Dv K G v s.toD → GT tt ((wipe σ [4]).set 4 (some v)) G H1 (p s))
    (he : ∀ s ∈ M, p s = true → ∀ v G H1, Pub H A G H1 → Dv K G v s.toD → GD K te ((wipe σ [4]).set 4 (some v)) G H1 (.str (f s))) :
    GD K (tCall (spA K 1 arS1 (fun l => l.length < 64) fOnce) [] E0 (tCons (tLc (iSeq K (tVar 3)) (gName 4) tt te [4]) tNil)) σ H A (wordsD p f M) := by
  have g := gd_lcIf (te := te) (tt := tt) (k := 4) (em := toD) (p := p) (f := fun s => PyData.str (f s)) (gi_seqL (gd_var (A := A) h3 dv)) (by omega) (fun i s hs => ht s (List.mem_of_getElem? hs)) fun i s hs hp => he s (List.mem_of_getElem? hs) hp
  have e : ((M.filter p).map fun s => PyData.str (f s)) = ((M.filter p).map f).map .str := by rw [List.map_map]; rfl
  rw [e] at g
  exact gd_callA (K := K) (ar := arS1) (f := fOnce) (n := 1) ((M.filter p).map f) (ga_cons g ga_nil) rfl (by
    show ((M.filter p).map f).length < 64
    rw [List.length_map]
    have := List.length_filter_le p M
    omega)
/-- the two answers are the same -/
theorem gt_words {L M : List Tst} {p : Tst → Bool} {f : Tst → Str} (g1 : GD K t1 σ H A (wordsD p f L)) (g2 : GD K t2 σ H A (wordsD p f M)) (e : wordsD p f L = wordsD p f M) (hl : ∀ s ∈ M, (PyData.str (f s)).canLay0 = true) : GT (tTest (tOp (rNeA K) t1 t2)) σ H A false := by
  rw [e] at g1
  have sh : SeqAt.shaped (wordsD p f M) = true := shp_strs fun x hx => by
    obtain ⟨s, hs, rfl⟩ := List.mem_map.mp (mem_srtS hx)
    exact hl s (List.mem_filter.mp hs).1
  have g := gt_test (gdo (K := K) g1 g2 (go_neD sh sh))
  rw [show PyData.eqv (wordsD p f M) (wordsD p f M) = true from eqv_strs _] at g
  exact g
/-- [one for one in parts if ..] != [], with none that is taken -/
theorem gt_none {wi : TI} {k : Nat} {zs : List Tst} (gi : GI K wi σ H A (zs.map toD)) (z : zs.length ≤ 1000) (ht : ∀ s ∈ zs, ∀ v G H1, Pub H A G H1 → Dv K G v s.toD → GT tt ((wipe σ [k]).set k (some v)) G H1 false) :
    GT (tTest (tOp (rNeA K) (tLc wi (gName k) tt te [k]) (tLst tNil))) σ H A false := by
  have g := gd_lcIf (te := te) (tt := tt) (k := k) (em := toD) (p := fun _ => false) (f := toD) gi (by omega) (fun i s hs => ht s (List.mem_of_getElem? hs)) fun i s hs hp => nomatch hp
  have e0 : zs.filter (fun _ => false) = [] := List.filter_eq_nil_iff.mpr fun _ _ => by simp
  rw [e0] at g
  have x := gt_test (gdo (K := K) g (gd_lst ga_nil) (go_neD (K := K) (d1 := .list []) (d2 := .list []) rfl rfl))
  exact x
abbrev slaw : Stmt := topS 18
theorem sclaw : FnScope ["script", "cell", "test", "met", "one", "mark", "told", "k", "part"] ["script"] (defScope slaw) := ⟨rfl, rfl, rfl, by decide +kernel, rfl, by decide +kernel, by decide +kernel⟩
theorem ok_law (T : Bq mg) (F : Fun K "law" "law" slaw f fd) (c_law_draws : Cal P W K mg base 1 "_law_draws" (spD K 2 preDraws resDraws)) (c_law_test : Cal P W K mg base 5 "_law_test" (spA K 3 arLt (preLt 4) fun x => (lawT x.2.1 x.1 x.2.2).toD)) (c_law_met : Cal P W K mg base 1 "_law_met" (spA K 1 arT (Okt 7) metD)) (c_law_once : Cal P W K mg base 1 "_law_once" (spA K 1 arS1 (fun l => l.length < 64) fOnce))
    (csubtests : Cal P W K mg base 10 "subtests" (spA K 1 arT (Okt 7) toldD)) (cnames_of : Cal P W K mg base 11 "names_of" (spA K 1 arT (Okt 7) fNm)) (cmarks_of : Cal P W K mg base 11 "marks_of" (spA K 1 arT (Okt 7) fMk)) (ctexts_of : Cal P W K mg base 11 "texts_of" (spA K 1 arT (Okt 7) fTx)) (cvalues_of : Cal P W K mg base 11 "values_of" (spA K 2 arTw (fun x => Okt 7 x.1 ∧ (PyData.str x.2).canLay0 = true) fVl)) (clooks_back : Cal P W K mg base 12 "looks_back" (spA K 1 arT (Okt 7) fLb)) :
    FnOk P W K mg base CX0 131 f fd ["script"] (spLw K) := by
  refine F.ok sclaw (fun vs H Q E h => ?_) (fun cdv A outer s H vs Q E hr h => ?_)
  · obtain ⟨_, _, rfl, _⟩ := h
    rfl
  obtain ⟨s, ns, rfl, hs, hns, q⟩ := h
  refine ⟨_, (pss_cons (ps_for PassesOwn.never rfl (pi_seq (pv 0)) (pg_name (i := 1) sclaw.nd rfl (Or.inl rfl)) (pss_cons (ps_set (i := 2) sclaw.nd rfl (Or.inl rfl) (pe_k c_law_test hr (by omega) (pa_cons (pe_k c_law_draws hr (by omega) (pa_cons (pv 1) (pa_cons pe_int pa_nil))) (pa_cons pe_int (pa_cons pe_bl pa_nil)))))
      (pss_cons (ps_set (i := 3) sclaw.nd rfl (Or.inr rfl) (pe_k c_law_met hr (by omega) (pa_cons (pv 2) pa_nil)))
      (pss_cons (ps_if (pt_cmpR (op_neA hr.units) (pe_k cnames_of hr (by omega) (pa_cons (pv 2) pa_nil)) (pe_k c_law_once hr (by omega) (pa_cons (pe_lc (own := [("one", 4)]) (by rfl) sclaw.nd (pi_seq (pv 3)) (blkOk_by (own := [("one", 4)]) (N := ["script", "cell", "test", "met", "one", "mark", "told", "k", "part"]) (sc := defScope slaw) (by decide +kernel)) (fun _ _ _ _ _ => (pg_name (i := 4) sclaw.nd rfl (Or.inl rfl))) (fun _ _ _ _ _ => (pts_one (pt_cmpR (op_eqK K hr.units) (pe_ix (ix_seqK K) (pv 4) pe_int (fun _ _ => rfl)) pe_str (nomark _)))) (fun _ _ _ _ _ => (pe_ix (ix_seqK K) (pv 4) pe_int (fun _ _ => rfl)))) pa_nil)) (nomark _)) (pss_one (ps_ret pe_bl)) pss_nil)
      (pss_cons (ps_if (pt_cmpR (op_neA hr.units) (pe_k cmarks_of hr (by omega) (pa_cons (pv 2) pa_nil)) (pe_k c_law_once hr (by omega) (pa_cons (pe_lc (own := [("one", 4)]) (by rfl) sclaw.nd (pi_seq (pv 3)) (blkOk_by (own := [("one", 4)]) (N := ["script", "cell", "test", "met", "one", "mark", "told", "k", "part"]) (sc := defScope slaw) (by decide +kernel)) (fun _ _ _ _ _ => (pg_name (i := 4) sclaw.nd rfl (Or.inl rfl))) (fun _ _ _ _ _ => (pts_one (pt_cmpR (op_inK K) (pe_ix (ix_seqK K) (pv 4) pe_int (fun _ _ => rfl)) (RR.pe_tupF (pa_cons pe_str (pa_cons pe_str pa_nil))) (by rfl)))) (fun _ _ _ _ _ => (pe_ix (ix_seqK K) (pv 4) pe_int (fun _ _ => rfl)))) pa_nil)) (nomark _)) (pss_one (ps_ret pe_bl)) pss_nil)
      (pss_cons (ps_if (pt_cmpR (op_neA hr.units) (pe_k ctexts_of hr (by omega) (pa_cons (pv 2) pa_nil)) (pe_k c_law_once hr (by omega) (pa_cons (pe_lc (own := [("one", 4)]) (by rfl) sclaw.nd (pi_seq (pv 3)) (blkOk_by (own := [("one", 4)]) (N := ["script", "cell", "test", "met", "one", "mark", "told", "k", "part"]) (sc := defScope slaw) (by decide +kernel)) (fun _ _ _ _ _ => (pg_name (i := 4) sclaw.nd rfl (Or.inl rfl))) (fun _ _ _ _ _ => (pts_one (pt_cmpR (op_eqK K hr.units) (pe_ix (ix_seqK K) (pv 4) pe_int (fun _ _ => rfl)) pe_str (nomark _)))) (fun _ _ _ _ _ => (pe_ix (ix_seqK K) (pv 4) pe_int (fun _ _ => rfl)))) pa_nil)) (nomark _)) (pss_one (ps_ret pe_bl)) pss_nil)
      (pss_cons (ps_for PassesOwn.never rfl (pi_seq (RR.pe_tupF (pa_cons pe_str (pa_cons pe_str (pa_cons pe_str pa_nil))))) (pg_name (i := 5) sclaw.nd rfl (Or.inr rfl)) (pss_one (ps_if (pt_cmpR (op_neA hr.units) (pe_k cvalues_of hr (by omega) (pa_cons (pv 2) (pa_cons (pv 5) pa_nil))) (pe_k c_law_once hr (by omega) (pa_cons (pe_lc (own := [("one", 4)]) (by rfl) sclaw.nd (pi_seq (pv 3)) (blkOk_by (own := [("one", 4)]) (N := ["script", "cell", "test", "met", "one", "mark", "told", "k", "part"]) (sc := defScope slaw) (by decide +kernel)) (fun _ _ _ _ _ => (pg_name (i := 4) sclaw.nd rfl (Or.inl rfl))) (fun _ _ _ _ _ => (pts_one (PW.pt (pw_and (pt_cmpR (op_eqK K hr.units) (pe_ix (ix_seqK K) (pv 4) pe_int (fun _ _ => rfl)) pe_str (nomark _)) (pw_and1 (pt_cmpR (op_eqK K hr.units) (pe_ix (ix_seqK K) (pv 4) pe_int (fun _ _ => rfl)) (pv 5) (nomark _))))))) (fun _ _ _ _ _ => (pe_ix (ix_seqK K) (pv 4) pe_int (fun _ _ => rfl)))) pa_nil)) (nomark _)) (pss_one (ps_ret pe_bl)) pss_nil)))
      (pss_cons (ps_if (pt_cmpR (op_neA hr.units) (pe_k clooks_back hr (by omega) (pa_cons (pv 2) pa_nil)) (pe_cmpR (op_eqA hr.units) (pe_lc (own := [("one", 4)]) (by rfl) sclaw.nd (pi_seq (pv 3)) (blkOk_by (own := [("one", 4)]) (N := ["script", "cell", "test", "met", "one", "mark", "told", "k", "part"]) (sc := defScope slaw) (by decide +kernel)) (fun _ _ _ _ _ => (pg_name (i := 4) sclaw.nd rfl (Or.inl rfl))) (fun _ _ _ _ _ => (pts_one (pt_cmpR (op_inK K) (pe_ix (ix_seqK K) (pv 4) pe_int (fun _ _ => rfl)) (RR.pe_tupF (pa_cons pe_str (pa_cons pe_str (pa_cons pe_str (pa_cons pe_str pa_nil))))) (by rfl)))) (fun _ _ _ _ _ => (pv 4))) (pe_lst pa_nil) (nomark _)) (nomark _)) (pss_one (ps_ret pe_bl)) pss_nil)
      (pss_cons (ps_set (i := 6) sclaw.nd rfl (Or.inr rfl) (pe_k csubtests hr (by omega) (pa_cons (pv 2) pa_nil)))
      (pss_cons (ps_if (PW.pt (pw_or (pt_cmpR (op_neA hr.units) (pe_lc (own := [("one", 4)]) (by rfl) sclaw.nd (pi_seq (pv 6)) (blkOk_by (own := [("one", 4)]) (N := ["script", "cell", "test", "met", "one", "mark", "told", "k", "part"]) (sc := defScope slaw) (by decide +kernel)) (fun _ _ _ _ _ => (pg_name (i := 4) sclaw.nd rfl (Or.inl rfl))) (fun _ _ _ _ _ => (pts_one (pt_cmpR (op_ninDK K (room65 hr)) (pv 4) (pv 3) (by rfl)))) (fun _ _ _ _ _ => (pv 4))) (pe_lst pa_nil) (nomark _)) (pw_or1 (pt_cmpR (op_neA hr.units) (pe_lc (own := [("one", 4)]) (by rfl) sclaw.nd (pi_seq (pv 3)) (blkOk_by (own := [("one", 4)]) (N := ["script", "cell", "test", "met", "one", "mark", "told", "k", "part"]) (sc := defScope slaw) (by decide +kernel)) (fun _ _ _ _ _ => (pg_name (i := 4) sclaw.nd rfl (Or.inl rfl))) (fun _ _ _ _ _ => (pts_one (pt_cmpR (op_ninDK K (room65 hr)) (pv 4) (pv 6) (by rfl)))) (fun _ _ _ _ _ => (pv 4))) (pe_lst pa_nil) (nomark _))))) (pss_one (ps_ret pe_bl)) pss_nil)
      (pss_cons (ps_for PassesOwn.never rfl (pi_enum (by rfl) T.enumerate (pa_cons (pv 6) pa_nil)) (pg_tup rfl (pgs_cons (pg_name (i := 7) sclaw.nd rfl (Or.inr rfl)) (pgs_cons (pg_name (i := 4) sclaw.nd rfl (Or.inl rfl)) pgs_nil))) (pss_one (ps_if (PW.pt (pw_or (pt_cmpR (op_inD (room65 hr)) (pv 4) (pe_slice sl_D (pv 6) po_none (po_some (pv 7))) (by rfl)) (pw_or1 (pt_cmpR (op_neA hr.units) (pe_lc (own := [("part", 8)]) (by rfl) sclaw.nd (pi_seq (pe_slice sl_D (pe_k c_law_met hr (by omega) (pa_cons (pv 4) pa_nil)) (po_some pe_int) po_none)) (blkOk_by (own := [("part", 8)]) (N := ["script", "cell", "test", "met", "one", "mark", "told", "k", "part"]) (sc := defScope slaw) (by decide +kernel)) (fun _ _ _ _ _ => (pg_name (i := 8) sclaw.nd rfl (Or.inl rfl))) (fun _ _ _ _ _ => (pts_one (pt_cmpR (op_ninDK K (room65 hr)) (pv 8) (pe_slice (sl_DK K) (pv 6) po_none (po_some (pv 7))) (by rfl)))) (fun _ _ _ _ _ => (pv 8))) (pe_lst pa_nil) (nomark _))))) (pss_one (ps_ret pe_bl)) pss_nil)))
      (pss_one (ps_if (pt_cmpR (op_neA hr.units) (pe_ix ix_seq (pv 6) (pe_un un_neg pe_int) (fun _ _ => rfl)) (pv 2) (nomark _)) (pss_one (ps_ret pe_bl)) pss_nil)))))))))))))
      (pss_one (ps_ret pe_bl))), ?_⟩
  refine for_run (gi_scr (i := 0) (H := H) (A := H) rfl hs) (.refl (.refl _)) fun B HB PB => ?_
  refine ⟨fun i σ' G H' => ∃ (x1 x2 x3 x4 x5 x6 x7 x8 : Option V), σ' = [some (.ref s), x1, x2, x3, x4, x5, x6, x7, x8] ∧ Same B G ∧ Same G H', ⟨none, none, none, none, none, none, none, none, rfl, .refl _, PB.gh⟩, fun i σ' G H' ⟨_, _, _, _, _, _, _, _, _, h1, h2⟩ => ⟨h1, h2⟩, ?_, ?_⟩
  · rintro i d σ' G H' hd ⟨x1, x2, x3, x4, x5, x6, x7, x8, rfl, sB, sG⟩ v1 G1 H1 P1 dv1
    rw [List.getElem?_map] at hd
    obtain ⟨c, hc, rfl⟩ := Option.map_eq_some_iff.mp hd
    have ev1 := Dv.int_inv dv1
    subst ev1
    refine s_test (K := K) (i := 2) (gd_var (i := 1) rfl dv1) P1.gh fun ds v2 G2 H2 P2 dv2 => ?_
    have ok := okt_lawT ds false
    obtain ⟨t, ht⟩ : ∃ t, t = lawT 3 ds false := ⟨_, rfl⟩
    rw [← ht] at ok dv2
    have hz := told_100 ok
    have hm := metL_len ok
    have okM : ∀ s ∈ metL t, Okt 7 s := fun s h => ok.sub s ((metL_mem ok).mp h)
    refine s_set (K := K) (d := .list ((metL t).map toD)) (gd_callA (K := K) (ar := arT) (f := metD) (n := 1) t (ga_cons (gd_var (i := 2) rfl dv2) ga_nil) rfl ok) P2.gh fun v3 G3 H3 P3 dv3 => ?_
    have dv2a := dv2.to P3.hg
    have sB3 : Same B G3 := sB.trans (P1.hg.trans (P2.hg.trans P3.hg))
    -- names
    refine s_ifr (K := K) (b := false) (gt_words (p := pW "name") (f := fun s => a1D s.toD) (L := told t) (gd_callA (K := K) (ar := arT) (f := fNm) (n := 1) t (ga_cons (gd_var (i := 2) rfl dv2a) ga_nil) rfl ok) (gd_once rfl dv3 hm (fun s hs v' G H1 p0 dv' => gt_test (gdo (K := K) (gd_w0 rfl dv') gd_str go_eqS)) fun s hs hp v' G H1 p0 dv' => gd_w1 rfl dv' (one_name (okM s hs).wf hp)) (words_same ok (fun a b e => by unfold pW; rw [e]) fun a b e => by rw [e]) fun s hs => (lay_at (okM s hs).lay).1) P3.gh (fun z => nomatch z) fun _ H4 s4 => ?_
    have sG4 := P3.gh.trans s4
    -- marks
    refine s_ifr (K := K) (b := false) (gt_words (p := pM) (f := fun s => a1D s.toD) (L := told t) (gd_callA (K := K) (ar := arT) (f := fMk) (n := 1) t (ga_cons (gd_var (i := 2) rfl dv2a) ga_nil) rfl ok) (gd_once rfl dv3 hm (fun y hy v' G H1 p0 dv' => ?_) fun y hy hp v' G H1 p0 dv' => gd_mk1 rfl dv' (okM y hy).wf hp) (words_same ok (fun a b e => by unfold pM; rw [e]) fun a b e => by rw [e]) fun s hs => (lay_at (okM s hs).lay).1) sG4 (fun z => nomatch z) fun _ H5 s5 => ?_
    · have g := gt_test (gdo (K := K) (A := H1) (gd_w0 (σ := ((wipe [some (.ref s), some (.int c), some v2, some v3, x4, x5, x6, x7, x8] [4]).set 4 (some v'))) (i := 4) rfl dv') (gd_tup (ga_cons gd_str (ga_cons gd_str ga_nil))) (go_inT (x := .str (wD y.toD)) (xs := MV.map V.str) rfl rfl))
      rw [inV_strs] at g
      exact g
    have sG5 := sG4.trans s5
    -- texts
    refine s_ifr (K := K) (b := false) (gt_words (p := pW "text") (f := fun s => a1D s.toD) (L := told t) (gd_callA (K := K) (ar := arT) (f := fTx) (n := 1) t (ga_cons (gd_var (i := 2) rfl dv2a) ga_nil) rfl ok) (gd_once rfl dv3 hm (fun s hs v' G H1 p0 dv' => gt_test (gdo (K := K) (gd_w0 rfl dv') gd_str go_eqS)) fun s hs hp v' G H1 p0 dv' => gd_w1 rfl dv' (one_text (okM s hs).wf hp)) (words_same ok (fun a b e => by unfold pW; rw [e]) fun a b e => by rw [e]) fun s hs => (lay_at (okM s hs).lay).1) sG5 (fun z => nomatch z) fun _ H6 s6 => ?_
    have sG6 := sG5.trans s6
    -- values
    refine s_mid (fun σ' H' => ∃ (x5 : Option V) (G' : Hp), σ' = [some (.ref s), some (.int c), some v2, some v3, x4, x5, x6, x7, x8] ∧ Same G3 G' ∧ Same G' H') ?_ fun rest => ?_
    · rintro σ' H7 ⟨y5, G7, rfl, s37, sG7⟩
      have dv2b := dv2a.to s37
      have dv3b := dv3.to s37
      -- looks back
      refine s_ifr (K := K) (b := false) ?_ sG7 (fun z => nomatch z) fun _ H8 s8 => ?_
      · have g1 := gd_lcIf (K := K) (A := H7) (H := G7) (σ := [some (.ref s), some (.int c), some v2, some v3, x4, y5, x6, x7, x8]) (wi := iSeq K (tVar 3)) (tt := tTest (tOp (rIn K false) (tOp (rIx K) (tVar 4) (tC (.int 0))) (RR.tTupF (tCons (tC (.str "last")) (tCons (tC (.str "empty")) (tCons (tC (.str "over")) (tCons (tC (.str "has")) tNil))))))) (te := tVar 4) (k := 4) (em := toD) (p := fun s => decide (wD s.toD ∈ FWD)) (f := toD) (gi_seqL (gd_var rfl dv3b)) (by omega) (fun i y hy v' G H1 p0 dv' => by
            have g := gt_test (gdo (K := K) (A := H1) (gd_w0 (σ := ((wipe [some (.ref s), some (.int c), some v2, some v3, x4, y5, x6, x7, x8] [4]).set 4 (some v'))) (i := 4) rfl dv') (gd_tup (ga_cons gd_str (ga_cons gd_str (ga_cons gd_str (ga_cons gd_str ga_nil))))) (go_inT (x := .str (wD y.toD)) (xs := FWD.map V.str) rfl rfl))
            rw [inV_strs] at g
            exact g) fun i y hy hp v' G H1 p0 dv' => gd_var rfl dv'
        have shM : SeqAt.shaped (.list (((metL t).filter fun s => decide (wD s.toD ∈ FWD)).map toD)) = true := shp_L fun y hy => okM y (List.mem_filter.mp hy).1
        have g2 := gdo (K := K) g1 (gd_lst ga_nil) (go_eqD (d2 := .list []) shM rfl)
        rw [eqv_nil'] at g2
        have g3 := gd_callA (K := K) (A := H7) (H := G7) (σ := [some (.ref s), some (.int c), some v2, some v3, x4, y5, x6, x7, x8]) (ar := arT) (Pre := Okt 7) (f := fLb) (n := 1) t (ga_cons (gd_var (i := 2) rfl dv2b) ga_nil) rfl ok
        unfold fLb at g3
        have g := gt_test (gdo (K := K) g3 g2 go_neBB)
        rw [back_same ok, List.isEmpty_map, beq_self_eq_true] at g
        exact g
      refine s_set (K := K) (d := .list ((told t).map toD)) (gd_callA (K := K) (ar := arT) (f := toldD) (n := 1) t (ga_cons (gd_var (i := 2) rfl dv2b) ga_nil) rfl ok) (sG7.trans s8) fun v6 G9 H9 P9 dv6 => ?_
      have dv2c := dv2b.to P9.hg
      have dv3c := dv3b.to P9.hg
      have okT := okt_told ok
      -- the same tests
      refine s_ifr (K := K) (b := false) (gt_or (b := false) (gt_none (gi_seqL (gd_var (i := 6) rfl dv6)) (by omega) fun y hy v' G H1 p0 dv' => ?_) fun _ => gt_none (gi_seqL (gd_var (i := 3) rfl dv3c)) (by omega) fun y hy v' G H1 p0 dv' => ?_) P9.gh (fun z => nomatch z) fun _ H10 s10 => ?_
      · have g := gt_ninT (K := K) (A := H1) (te := tVar 4) (tb := tVar 3) (σ := ((wipe [some (.ref s), some (.int c), some v2, some v3, x4, y5, some v6, x7, x8] [4]).set 4 (some v'))) (okT y hy) okM (gd_var rfl dv') (gd_var rfl (dv3c.to p0.hg))
        rw [inD_iff.mpr (List.mem_map_of_mem ((metL_mem ok).mpr (told_sub hy)))] at g
        exact g
      · have g := gt_ninT (K := K) (A := H1) (te := tVar 4) (tb := tVar 6) (σ := ((wipe [some (.ref s), some (.int c), some v2, some v3, x4, y5, some v6, x7, x8] [4]).set 4 (some v'))) (okM y hy) okT (gd_var rfl dv') (gd_var rfl (dv6.to p0.hg))
        rw [inD_iff.mpr (told_has ((metL_mem ok).mp hy))] at g
        exact g
      have sG10 := P9.gh.trans s10
      refine s_mid (fun σ' H' => ∃ (x4 x7 : Option V) (G' : Hp), σ' = [some (.ref s), some (.int c), some v2, some v3, x4, y5, some v6, x7, x8] ∧ Same G9 G' ∧ Same G' H') ?_ fun rest2 => ?_
      · rintro σ' H11 ⟨y4, y7, G11, rfl, s911, sG11⟩
        obtain ⟨r, er⟩ := told_last t
        have dv6' : Dv K G11 v6 (.list ((r ++ [t]).map toD)) := by rw [← er]; exact dv6.to s911
        have g1 := gdo (K := K) (A := H11) (gd_var (σ := [some (.ref s), some (.int c), some v2, some v3, y4, y5, some v6, y7, x8]) (i := 6) rfl dv6') gd_neg1 (go_ixL (d := t.toD) (by rw [List.map_append]; exact atI_last))
        have g := gt_test (gdo (K := K) g1 (gd_var (i := 2) rfl (dv2c.to s911)) (go_neD (shp_T ok) (shp_T ok)))
        rw [(eqv_pl _ _ (pl_toD t)).mpr rfl] at g
        refine s_if (b := false) g sG11 (fun z => nomatch z) fun _ H12 s12 => ?_
        exact ⟨G11, _, _, _, _, _, _, _, _, rfl, sB3.trans (s37.trans (P9.hg.trans s911)), sG11.trans s12⟩
      · refine for_run (H := G9) (A := H10) (gi_enumT (K := K) (ga_cons (gd_var (i := 6) rfl dv6) ga_nil)) (.refl sG10) fun B2 HB2 PB2 => ?_
        refine ⟨fun i σ' G' H' => ∃ (x4 x7 : Option V), σ' = [some (.ref s), some (.int c), some v2, some v3, x4, y5, some v6, x7, x8] ∧ Same B2 G' ∧ Same G' H', ⟨x4, x7, rfl, .refl _, PB2.gh⟩, fun i σ' G' H' ⟨_, _, _, h1, h2⟩ => ⟨h1, h2⟩, ?_, ?_⟩
        · rintro k dk σ' G' H' hd ⟨y4, y7, rfl, sB2, sG'⟩ vk Gk Hk Pk dvk
          have hi : k < (told t).length := by
            have z := (List.getElem?_eq_some_iff.mp hd).1
            rw [enumT_len, List.length_map] at z
            exact z
          obtain ⟨one, hone⟩ : ∃ one, one = (told t)[k] := ⟨_, rfl⟩
          have hin : one ∈ told t := by rw [hone]; exact List.getElem_mem hi
          have ok1 := okT one hin
          rw [enumT_get (i := k) (d := one.toD) (by rw [List.getElem?_map, List.getElem?_eq_getElem hi, hone]; rfl)] at hd
          have hd := (Option.some.inj hd).symm
          subst hd
          obtain ⟨c', ws, rfl, sq, da⟩ := Dv.tup_inv dvk
          obtain ⟨x, y, rfl, dx, dy⟩ := DvA.inv2 da
          have ex := Dv.int_inv dx
          subst ex
          refine ⟨c', _, rfl, seqT Pk.gh sq, rfl, _, _, rfl, y, _, rfl, rfl, ?_⟩
          have s9k : Same G9 Gk := PB2.hg.trans (sB2.trans Pk.hg)
          have dv6k := dv6.to s9k
          have okTk : ∀ z ∈ (told t).take k, Okt 7 z := fun z hz => okT z (List.mem_of_mem_take hz)
          have spl : told t = (told t).take k ++ one :: (told t).drop (k + 1) := by
            conv => lhs; rw [← List.take_append_drop k (told t), List.drop_eq_getElem_cons hi, ← hone]
          have no : inD one.toD (((told t).take k).map toD) = false := by
            refine inD_no.mpr fun z => ?_
            have nd := (told_tgt t).nd
            rw [spl, List.map_append, List.map_cons, List.nodup_append] at nd
            exact nd.2.2 _ z _ List.mem_cons_self rfl
          have gsl : ∀ {σ : L2.St} {G' H' : Hp}, Same Gk G' → σ[6]? = some (some v6) → σ[7]? = some (some (.int (k : Int))) → GD K (tSl (rSlD K) (tVar 6) tNoPart (tPart (tVar 7))) σ G' H' (.list (((told t).take k).map toD)) := fun {σ G' H'} sg h6 h7 => by
            have g := gd_slL (K := K) (A := H') (gd_var h6 (dv6k.to sg)) gp_none (gp_some (K := K) (gd_var h7 (.int (k : Int))))
            rw [cutTo k, ← List.map_take] at g
            exact g
          obtain ⟨r, hr, hmem⟩ := metL_tail ok1
          have hrl : r.length ≤ 15 := by
            have := metL_len ok1
            rw [hr, List.length_cons] at this
            omega
          have gmet : GI K (iSeq K (tSl (rSlD K) (tCall (spA K 1 arT (Okt 7) metD) [] E0 (tCons (tVar 4) tNil)) (tPart (tC (.int 1))) tNoPart)) [some (.ref s), some (.int c), some v2, some v3, some y, y5, some v6, some (.int (k : Int)), x8] Gk Hk (r.map toD) := by
            have g := gd_slL (K := K) (A := Hk) (gd_callA (K := K) (ar := arT) (f := metD) (n := 1) one (ga_cons (gd_var (σ := [some (.ref s), some (.int c), some v2, some v3, some y, y5, some v6, some (.int (k : Int)), x8]) (i := 4) rfl dy) ga_nil) rfl ok1) (gp_some (K := K) (gd_int (i := ((1 : Nat) : Int)))) gp_none
            rw [cutFrom 1] at g
            have e : ((metT 300 [one] []).map toD).drop 1 = r.map toD := by
              rw [show metT 300 [one] [] = one :: r from hr]; rfl
            rw [e] at g
            exact gi_seqL g
          refine s_if (b := false) (gt_or (b := false) ?_ fun _ => gt_none gmet (by omega) fun z hz v' G' H1 p0 dv' => ?_) Pk.gh (fun z => nomatch z) fun _ Hn sn => ?_
          · have g := gt_inT (K := K) (A := Hk) (te := tVar 4) (σ := [some (.ref s), some (.int c), some v2, some v3, some y, y5, some v6, some (.int (k : Int)), x8]) ok1 okTk (gd_var rfl dy) (gsl (.refl _) rfl rfl)
            rw [no] at g
            exact g
          · have hz2 := (hmem z).mp hz
            have g := gt_ninT (K := K) (A := H1) (te := tVar 8) (σ := ((wipe [some (.ref s), some (.int c), some v2, some v3, some y, y5, some v6, some (.int (k : Int)), x8] [8]).set 8 (some v'))) (ok1.sub z (by rw [subT_eq]; exact List.mem_cons_of_mem _ hz2)) okTk (gd_var rfl dv') (gsl p0.hg rfl rfl)
            rw [inD_iff.mpr ((told_tgt t).cl _ _ _ spl z hz2)] at g
            exact g
          · exact ⟨Gk, some y, some (.int (k : Int)), rfl, sB2.trans Pk.hg, Pk.gh.trans sn⟩
        · rintro σ' G' H' ⟨y4, y7, rfl, sB2, sG'⟩
          exact rest2 _ _ ⟨y4, y7, G', rfl, PB2.hg.trans sB2, sG'⟩
    · refine for_run (H := G3) (A := H6) (gi_seqT (ds := MM.map .str) (gd_tup (ga_cons gd_str (ga_cons gd_str (ga_cons gd_str ga_nil))))) (.refl sG6) fun B2 HB2 PB2 => ?_
      refine ⟨fun i σ' G' H' => ∃ (x5 : Option V), σ' = [some (.ref s), some (.int c), some v2, some v3, x4, x5, x6, x7, x8] ∧ Same B2 G' ∧ Same G' H', ⟨x5, rfl, .refl _, PB2.gh⟩, fun i σ' G' H' ⟨_, _, h1, h2⟩ => ⟨h1, h2⟩, ?_, ?_⟩
      · rintro k dk σ' G' H' hd ⟨y5, rfl, sB2, sG'⟩ v5 Gk Hk Pk dv5
        rw [List.getElem?_map] at hd
        obtain ⟨m, hmm, rfl⟩ := Option.map_eq_some_iff.mp hd
        have s3k : Same G3 Gk := PB2.hg.trans (sB2.trans Pk.hg)
        have dv2k := dv2a.to s3k
        have dv3k := dv3.to s3k
        have lm : (PyData.str m).canLay0 = true := by
          have : ∀ x ∈ MM, (PyData.str x).canLay0 = true := by decide +kernel
          exact this m (List.mem_of_getElem? hmm)
        refine s_if (b := false) (gt_words (p := pV m) (f := fun s => a2D s.toD) (L := told t) (gd_callA (K := K) (ar := arTw) (f := fVl) (n := 2) (t, m) (ga_cons (gd_var (i := 2) rfl dv2k) (ga_cons (gd_var (i := 5) rfl dv5) ga_nil)) rfl ⟨ok, lm⟩) (gd_once rfl dv3k hm (fun y hy v' G H1 p0 dv' => gt_and (gt_test (gdo (K := K) (gd_w0 rfl dv') gd_str go_eqS)) fun cv => gt_test (gdo (K := K) (gd_v1 (i := 4) rfl dv' (two_of (okM y hy).wf (of_decide_eq_true cv))) (gd_var (i := 5) rfl (dv5.to p0.hg)) go_eqS)) fun y hy hp v' G H1 p0 dv' => gd_v2 rfl dv' (two_of (okM y hy).wf (of_decide_eq_true (Bool.and_eq_true _ _ ▸ hp).1))) (words_same ok (fun a b e => by unfold pV; rw [e]) fun a b e => by rw [e]) fun s hs => (lay_at (okM s hs).lay).2) Pk.gh (fun z => nomatch z) fun _ Hn sn => ?_
        exact ⟨Gk, some v5, rfl, sB2.trans Pk.hg, Pk.gh.trans sn⟩
      · rintro σ' G' H' ⟨y5, rfl, sB2, sG'⟩
        exact rest _ _ ⟨y5, G', rfl, PB2.hg.trans sB2, sG'⟩
  · rintro σ' G H' ⟨x1, x2, x3, x4, x5, x6, x7, x8, rfl, sB, sG⟩
    dsimp only
    refine s_ret (K := K) (d := .bool true) gd_bl sG fun v4 G4 H4 P4 dv4 => ?_
    have e4 := Dv.bl_inv dv4
    subst e4
    exact q _
end
end LW
end
section
set_option Elab.async false
set_option linter.all false
set_option maxRecDepth 100000
set_option maxHeartbeats 0
namespace LW
open PySem PySem.Spec PyProof.Rows L2 DL LM
theorem all_mk {P : Program} {w : World} {K : PySem.W.Frag} {h : Heap} {mg : Str → Option Value} {fa : Addr} (X : K.In h) (G : h.Ns mainGlobals mg) (hfa : mg "law" = some (.ref fa))
    {f_tests_in f_subtests f__collect f_has_word f_looks_back f_names_of f_marks_of f_texts_of f_values_of f__law_draws f__law_own_test f__law_test f__law_met f__law_once f_law aA aF : Addr}
    {oc_tests_in kV_tests_in dc_tests_in pm_tests_in cd_tests_in ct_tests_in : Value} {od_tests_in an_tests_in : Option Addr} {sl_tests_in : Array (Option Value)}
    {oc_subtests kV_subtests dc_subtests pm_subtests cd_subtests ct_subtests : Value} {od_subtests an_subtests : Option Addr} {sl_subtests : Array (Option Value)}
    {oc__collect kV__collect dc__collect pm__collect cd__collect ct__collect : Value} {od__collect an__collect : Option Addr} {sl__collect : Array (Option Value)}
    {oc_has_word kV_has_word dc_has_word pm_has_word cd_has_word ct_has_word : Value} {od_has_word an_has_word : Option Addr} {sl_has_word : Array (Option Value)}
    {oc_looks_back kV_looks_back dc_looks_back pm_looks_back cd_looks_back ct_looks_back : Value} {od_looks_back an_looks_back : Option Addr} {sl_looks_back : Array (Option Value)}
    {oc_names_of kV_names_of dc_names_of pm_names_of cd_names_of ct_names_of : Value} {od_names_of an_names_of : Option Addr} {sl_names_of : Array (Option Value)}
    {oc_marks_of kV_marks_of dc_marks_of pm_marks_of cd_marks_of ct_marks_of : Value} {od_marks_of an_marks_of : Option Addr} {sl_marks_of : Array (Option Value)}
    {oc_texts_of kV_texts_of dc_texts_of pm_texts_of cd_texts_of ct_texts_of : Value} {od_texts_of an_texts_of : Option Addr} {sl_texts_of : Array (Option Value)}
    {oc_values_of kV_values_of dc_values_of pm_values_of cd_values_of ct_values_of : Value} {od_values_of an_values_of : Option Addr} {sl_values_of : Array (Option Value)}
    {oc__law_draws kV__law_draws dc__law_draws pm__law_draws cd__law_draws ct__law_draws : Value} {od__law_draws an__law_draws : Option Addr} {sl__law_draws : Array (Option Value)}
    {oc__law_own_test kV__law_own_test dc__law_own_test pm__law_own_test cd__law_own_test ct__law_own_test : Value} {od__law_own_test an__law_own_test : Option Addr} {sl__law_own_test : Array (Option Value)}
    {oc__law_test kV__law_test dc__law_test pm__law_test cd__law_test ct__law_test : Value} {od__law_test an__law_test : Option Addr} {sl__law_test : Array (Option Value)}
    {oc__law_met kV__law_met dc__law_met pm__law_met cd__law_met ct__law_met : Value} {od__law_met an__law_met : Option Addr} {sl__law_met : Array (Option Value)}
    {oc__law_once kV__law_once dc__law_once pm__law_once cd__law_once ct__law_once : Value} {od__law_once an__law_once : Option Addr} {sl__law_once : Array (Option Value)}
    {oc_law kV_law dc_law pm_law cd_law ct_law : Value} {od_law an_law : Option Addr} {sl_law : Array (Option Value)}
    {nA : Nat} {tk0 tv0 tk1 tv1 tk2 tv2 tk3 tv3 tk4 tv4 tk5 tv5 tk6 tv6 tk7 tv7 tk8 tv8 tk9 tv9 tk10 tv10 tk11 tv11 tk12 tv12 tk13 tv13 tk14 tv14 tk15 tv15 tk16 tv16 : Tok}
    {nF : Nat} {tf0 tf1 tf2 tf3 : Tok}
    (a_tests_in : PySem.W.nsIn K mainGlobals "tests_in" = some (some (.ref f_tests_in)))
    (l_tests_in : K.lookup f_tests_in = some ⟨oc_tests_in, od_tests_in, .func (PySem.W.fnOf "tests_in" "tests_in" (defArgs stests_in) (defBody stests_in) (defScope stests_in) .none kV_tests_in dc_tests_in pm_tests_in an_tests_in cd_tests_in ct_tests_in), sl_tests_in⟩)
    (c_tests_in : PySem.W.codeIn K cd_tests_in "tests_in" = true)
    (k_tests_in : PySem.W.keepIn K (.ref f_tests_in) = true)
    (a_subtests : PySem.W.nsIn K mainGlobals "subtests" = some (some (.ref f_subtests)))
    (l_subtests : K.lookup f_subtests = some ⟨oc_subtests, od_subtests, .func (PySem.W.fnOf "subtests" "subtests" (defArgs ssubtests) (defBody ssubtests) (defScope ssubtests) .none kV_subtests dc_subtests pm_subtests an_subtests cd_subtests ct_subtests), sl_subtests⟩)
    (c_subtests : PySem.W.codeIn K cd_subtests "subtests" = true)
    (k_subtests : PySem.W.keepIn K (.ref f_subtests) = true)
    (a__collect : PySem.W.nsIn K mainGlobals "_collect" = some (some (.ref f__collect)))
    (l__collect : K.lookup f__collect = some ⟨oc__collect, od__collect, .func (PySem.W.fnOf "_collect" "_collect" (defArgs s_collect) (defBody s_collect) (defScope s_collect) .none kV__collect dc__collect pm__collect an__collect cd__collect ct__collect), sl__collect⟩)
    (c__collect : PySem.W.codeIn K cd__collect "_collect" = true)
    (k__collect : PySem.W.keepIn K (.ref f__collect) = true)
    (a_has_word : PySem.W.nsIn K mainGlobals "has_word" = some (some (.ref f_has_word)))
    (l_has_word : K.lookup f_has_word = some ⟨oc_has_word, od_has_word, .func (PySem.W.fnOf "has_word" "has_word" (defArgs shas_word) (defBody shas_word) (defScope shas_word) .none kV_has_word dc_has_word pm_has_word an_has_word cd_has_word ct_has_word), sl_has_word⟩)
    (c_has_word : PySem.W.codeIn K cd_has_word "has_word" = true)
    (k_has_word : PySem.W.keepIn K (.ref f_has_word) = true)
    (a_looks_back : PySem.W.nsIn K mainGlobals "looks_back" = some (some (.ref f_looks_back)))
    (l_looks_back : K.lookup f_looks_back = some ⟨oc_looks_back, od_looks_back, .func (PySem.W.fnOf "looks_back" "looks_back" (defArgs slooks_back) (defBody slooks_back) (defScope slooks_back) .none kV_looks_back dc_looks_back pm_looks_back an_looks_back cd_looks_back ct_looks_back), sl_looks_back⟩)
    (c_looks_back : PySem.W.codeIn K cd_looks_back "looks_back" = true)
    (k_looks_back : PySem.W.keepIn K (.ref f_looks_back) = true)
    (a_names_of : PySem.W.nsIn K mainGlobals "names_of" = some (some (.ref f_names_of)))
    (l_names_of : K.lookup f_names_of = some ⟨oc_names_of, od_names_of, .func (PySem.W.fnOf "names_of" "names_of" (defArgs snames_of) (defBody snames_of) (defScope snames_of) .none kV_names_of dc_names_of pm_names_of an_names_of cd_names_of ct_names_of), sl_names_of⟩)
    (c_names_of : PySem.W.codeIn K cd_names_of "names_of" = true)
    (k_names_of : PySem.W.keepIn K (.ref f_names_of) = true)
    (a_marks_of : PySem.W.nsIn K mainGlobals "marks_of" = some (some (.ref f_marks_of)))
    (l_marks_of : K.lookup f_marks_of = some ⟨oc_marks_of, od_marks_of, .func (PySem.W.fnOf "marks_of" "marks_of" (defArgs smarks_of) (defBody smarks_of) (defScope smarks_of) .none kV_marks_of dc_marks_of pm_marks_of an_marks_of cd_marks_of ct_marks_of), sl_marks_of⟩)
    (c_marks_of : PySem.W.codeIn K cd_marks_of "marks_of" = true)
    (k_marks_of : PySem.W.keepIn K (.ref f_marks_of) = true)
    (a_texts_of : PySem.W.nsIn K mainGlobals "texts_of" = some (some (.ref f_texts_of)))
    (l_texts_of : K.lookup f_texts_of = some ⟨oc_texts_of, od_texts_of, .func (PySem.W.fnOf "texts_of" "texts_of" (defArgs stexts_of) (defBody stexts_of) (defScope stexts_of) .none kV_texts_of dc_texts_of pm_texts_of an_texts_of cd_texts_of ct_texts_of), sl_texts_of⟩)
    (c_texts_of : PySem.W.codeIn K cd_texts_of "texts_of" = true)
    (k_texts_of : PySem.W.keepIn K (.ref f_texts_of) = true)
    (a_values_of : PySem.W.nsIn K mainGlobals "values_of" = some (some (.ref f_values_of)))
    (l_values_of : K.lookup f_values_of = some ⟨oc_values_of, od_values_of, .func (PySem.W.fnOf "values_of" "values_of" (defArgs svalues_of) (defBody svalues_of) (defScope svalues_of) .none kV_values_of dc_values_of pm_values_of an_values_of cd_values_of ct_values_of), sl_values_of⟩)
    (c_values_of : PySem.W.codeIn K cd_values_of "values_of" = true)
    (k_values_of : PySem.W.keepIn K (.ref f_values_of) = true)
    (a__law_draws : PySem.W.nsIn K mainGlobals "_law_draws" = some (some (.ref f__law_draws)))
    (l__law_draws : K.lookup f__law_draws = some ⟨oc__law_draws, od__law_draws, .func (PySem.W.fnOf "_law_draws" "_law_draws" (defArgs s_law_draws) (defBody s_law_draws) (defScope s_law_draws) .none kV__law_draws dc__law_draws pm__law_draws an__law_draws cd__law_draws ct__law_draws), sl__law_draws⟩)
    (c__law_draws : PySem.W.codeIn K cd__law_draws "_law_draws" = true)
    (k__law_draws : PySem.W.keepIn K (.ref f__law_draws) = true)
    (a__law_own_test : PySem.W.nsIn K mainGlobals "_law_own_test" = some (some (.ref f__law_own_test)))
    (l__law_own_test : K.lookup f__law_own_test = some ⟨oc__law_own_test, od__law_own_test, .func (PySem.W.fnOf "_law_own_test" "_law_own_test" (defArgs s_law_own_test) (defBody s_law_own_test) (defScope s_law_own_test) .none kV__law_own_test dc__law_own_test pm__law_own_test an__law_own_test cd__law_own_test ct__law_own_test), sl__law_own_test⟩)
    (c__law_own_test : PySem.W.codeIn K cd__law_own_test "_law_own_test" = true)
    (k__law_own_test : PySem.W.keepIn K (.ref f__law_own_test) = true)
    (a__law_test : PySem.W.nsIn K mainGlobals "_law_test" = some (some (.ref f__law_test)))
    (l__law_test : K.lookup f__law_test = some ⟨oc__law_test, od__law_test, .func (PySem.W.fnOf "_law_test" "_law_test" (defArgs s_law_test) (defBody s_law_test) (defScope s_law_test) .none kV__law_test dc__law_test pm__law_test an__law_test cd__law_test ct__law_test), sl__law_test⟩)
    (c__law_test : PySem.W.codeIn K cd__law_test "_law_test" = true)
    (k__law_test : PySem.W.keepIn K (.ref f__law_test) = true)
    (a__law_met : PySem.W.nsIn K mainGlobals "_law_met" = some (some (.ref f__law_met)))
    (l__law_met : K.lookup f__law_met = some ⟨oc__law_met, od__law_met, .func (PySem.W.fnOf "_law_met" "_law_met" (defArgs s_law_met) (defBody s_law_met) (defScope s_law_met) .none kV__law_met dc__law_met pm__law_met an__law_met cd__law_met ct__law_met), sl__law_met⟩)
    (c__law_met : PySem.W.codeIn K cd__law_met "_law_met" = true)
    (k__law_met : PySem.W.keepIn K (.ref f__law_met) = true)
    (a__law_once : PySem.W.nsIn K mainGlobals "_law_once" = some (some (.ref f__law_once)))
    (l__law_once : K.lookup f__law_once = some ⟨oc__law_once, od__law_once, .func (PySem.W.fnOf "_law_once" "_law_once" (defArgs s_law_once) (defBody s_law_once) (defScope s_law_once) .none kV__law_once dc__law_once pm__law_once an__law_once cd__law_once ct__law_once), sl__law_once⟩)
    (c__law_once : PySem.W.codeIn K cd__law_once "_law_once" = true)
    (k__law_once : PySem.W.keepIn K (.ref f__law_once) = true)
    (a_law : PySem.W.nsIn K mainGlobals "law" = some (some (.ref f_law)))
    (l_law : K.lookup f_law = some ⟨oc_law, od_law, .func (PySem.W.fnOf "law" "law" (defArgs slaw) (defBody slaw) (defScope slaw) .none kV_law dc_law pm_law an_law cd_law ct_law), sl_law⟩)
    (c_law : PySem.W.codeIn K cd_law "law" = true)
    (k_law : PySem.W.keepIn K (.ref f_law) = true)
    (z_len : PySem.W.nsIn K mainGlobals "len" = some none)
    (z_isinstance : PySem.W.nsIn K mainGlobals "isinstance" = some none)
    (z_all : PySem.W.nsIn K mainGlobals "all" = some none)
    (z_ord : PySem.W.nsIn K mainGlobals "ord" = some none)
    (z_range : PySem.W.nsIn K mainGlobals "range" = some none)
    (z_sorted : PySem.W.nsIn K mainGlobals "sorted" = some none)
    (z_str : PySem.W.nsIn K mainGlobals "str" = some none)
    (z_int : PySem.W.nsIn K mainGlobals "int" = some none)
    (z_bool : PySem.W.nsIn K mainGlobals "bool" = some none)
    (z_tuple : PySem.W.nsIn K mainGlobals "tuple" = some none)
    (z_list : PySem.W.nsIn K mainGlobals "list" = some none)
    (z_zip : PySem.W.nsIn K mainGlobals "zip" = some none)
    (z_reversed : PySem.W.nsIn K mainGlobals "reversed" = some none)
    (z_set : PySem.W.nsIn K mainGlobals "set" = some none)
    (z_any : PySem.W.nsIn K mainGlobals "any" = some none)
    (z_enumerate : PySem.W.nsIn K mainGlobals "enumerate" = some none)
    (v_ARGUMENTS : PySem.W.nsIn K mainGlobals "ARGUMENTS" = some (some (.ref aA)))
    (l_ARGUMENTS : K.lookup aA = some ⟨.type "dict", none, .dict #[⟨PyData.keyHash w.params "any", .str "any" tk0, .str "" tv0⟩, ⟨PyData.keyHash w.params "name", .str "name" tk1, .str "n" tv1⟩, ⟨PyData.keyHash w.params "mark", .str "mark" tk2, .str "n" tv2⟩, ⟨PyData.keyHash w.params "value", .str "value" tk3, .str "ns" tv3⟩, ⟨PyData.keyHash w.params "text", .str "text" tk4, .str "s" tv4⟩, ⟨PyData.keyHash w.params "first", .str "first" tk5, .str "" tv5⟩, ⟨PyData.keyHash w.params "last", .str "last" tk6, .str "" tv6⟩, ⟨PyData.keyHash w.params "empty", .str "empty" tk7, .str "" tv7⟩, ⟨PyData.keyHash w.params "not", .str "not" tk8, .str "t" tv8⟩, ⟨PyData.keyHash w.params "both", .str "both" tk9, .str "p" tv9⟩, ⟨PyData.keyHash w.params "one", .str "one" tk10, .str "p" tv10⟩, ⟨PyData.keyHash w.params "under", .str "under" tk11, .str "t" tv11⟩, ⟨PyData.keyHash w.params "in", .str "in" tk12, .str "t" tv12⟩, ⟨PyData.keyHash w.params "next", .str "next" tk13, .str "t" tv13⟩, ⟨PyData.keyHash w.params "behind", .str "behind" tk14, .str "t" tv14⟩, ⟨PyData.keyHash w.params "over", .str "over" tk15, .str "t" tv15⟩, ⟨PyData.keyHash w.params "has", .str "has" tk16, .str "t" tv16⟩] nA, #[]⟩)
    (m_ARGUMENTS : (aA == sysModules) = false)
    (v_FORWARD : PySem.W.nsIn K mainGlobals "FORWARD" = some (some (.ref aF)))
    (l_FORWARD : K.lookup aF = some ⟨.type "tuple", none, .seq #[.str "last" tf0, .str "empty" tf1, .str "over" tf2, .str "has" tf3] nF, #[]⟩) :
    ∃ fd : FuncData, (∀ (s : Shared) (v : Value), BindsTo s fd ⟨[v], []⟩ [("script", v)]) ∧ ∀ base : Heap, K.In base → base.Ns mainGlobals mg → FnOk P w K mg base CX0 131 fa fd ["script"] (spLw K) := by
  have e := hfa.symm.trans (PySem.W.mg_of X G a_law)
  cases e
  have T : Bt mg := { len := PySem.W.mg_none_of X G z_len, isinstance := PySem.W.mg_none_of X G z_isinstance, all := PySem.W.mg_none_of X G z_all, ord := PySem.W.mg_none_of X G z_ord, range := PySem.W.mg_none_of X G z_range, sorted := PySem.W.mg_none_of X G z_sorted, str := PySem.W.mg_none_of X G z_str, int := PySem.W.mg_none_of X G z_int, bool := PySem.W.mg_none_of X G z_bool, tuple := PySem.W.mg_none_of X G z_tuple, list := PySem.W.mg_none_of X G z_list }
  have TX : Bq mg := { T with zip := PySem.W.mg_none_of X G z_zip, reversed := PySem.W.mg_none_of X G z_reversed, set := PySem.W.mg_none_of X G z_set, any := PySem.W.mg_none_of X G z_any, enumerate := PySem.W.mg_none_of X G z_enumerate }
  have BAR : Bar mg K w := ⟨⟨aA, PySem.W.mg_of X G v_ARGUMENTS, _, nA, l_ARGUMENTS, ⟨⟨_, _, rfl, rfl⟩, ⟨⟨_, _, rfl, rfl⟩, ⟨⟨_, _, rfl, rfl⟩, ⟨⟨_, _, rfl, rfl⟩, ⟨⟨_, _, rfl, rfl⟩, ⟨⟨_, _, rfl, rfl⟩, ⟨⟨_, _, rfl, rfl⟩, ⟨⟨_, _, rfl, rfl⟩, ⟨⟨_, _, rfl, rfl⟩, ⟨⟨_, _, rfl, rfl⟩, ⟨⟨_, _, rfl, rfl⟩, ⟨⟨_, _, rfl, rfl⟩, ⟨⟨_, _, rfl, rfl⟩, ⟨⟨_, _, rfl, rfl⟩, ⟨⟨_, _, rfl, rfl⟩, ⟨⟨_, _, rfl, rfl⟩, ⟨⟨_, _, rfl, rfl⟩, True.intro⟩⟩⟩⟩⟩⟩⟩⟩⟩⟩⟩⟩⟩⟩⟩⟩⟩, m_ARGUMENTS, (.cons ⟨⟨_, rfl⟩, ⟨_, rfl⟩⟩ (.cons ⟨⟨_, rfl⟩, ⟨_, rfl⟩⟩ (.cons ⟨⟨_, rfl⟩, ⟨_, rfl⟩⟩ (.cons ⟨⟨_, rfl⟩, ⟨_, rfl⟩⟩ (.cons ⟨⟨_, rfl⟩, ⟨_, rfl⟩⟩ (.cons ⟨⟨_, rfl⟩, ⟨_, rfl⟩⟩ (.cons ⟨⟨_, rfl⟩, ⟨_, rfl⟩⟩ (.cons ⟨⟨_, rfl⟩, ⟨_, rfl⟩⟩ (.cons ⟨⟨_, rfl⟩, ⟨_, rfl⟩⟩ (.cons ⟨⟨_, rfl⟩, ⟨_, rfl⟩⟩ (.cons ⟨⟨_, rfl⟩, ⟨_, rfl⟩⟩ (.cons ⟨⟨_, rfl⟩, ⟨_, rfl⟩⟩ (.cons ⟨⟨_, rfl⟩, ⟨_, rfl⟩⟩ (.cons ⟨⟨_, rfl⟩, ⟨_, rfl⟩⟩ (.cons ⟨⟨_, rfl⟩, ⟨_, rfl⟩⟩ (.cons ⟨⟨_, rfl⟩, ⟨_, rfl⟩⟩ (.cons ⟨⟨_, rfl⟩, ⟨_, rfl⟩⟩ .nil)))))))))))))))))⟩⟩
  have BFW : Bfw mg K := ⟨⟨aF, PySem.W.mg_of X G v_FORWARD, fun H => .inr ⟨_, _, nF, l_FORWARD, rfl, rfl, (by show 4 ≤ sizeLine; rw [sizeLine_eq]; decide), .cons ⟨_, rfl⟩ (.cons ⟨_, rfl⟩ (.cons ⟨_, rfl⟩ (.cons ⟨_, rfl⟩ .nil)))⟩⟩⟩
  have F_tests_in := fun_mk (st := stests_in) l_tests_in c_tests_in k_tests_in
  have B_tests_in := F_tests_in.binds (ps := ["test"]) fun _ _ _ _ _ _ us hl => match us, hl with | [_], _ => rfl
  have H_tests_in := PySem.W.mg_of X G a_tests_in
  have F_subtests := fun_mk (st := ssubtests) l_subtests c_subtests k_subtests
  have B_subtests := F_subtests.binds (ps := ["test"]) fun _ _ _ _ _ _ us hl => match us, hl with | [_], _ => rfl
  have H_subtests := PySem.W.mg_of X G a_subtests
  have F__collect := fun_mk (st := s_collect) l__collect c__collect k__collect
  have B__collect := F__collect.binds (ps := ["test", "found"]) fun _ _ _ _ _ _ us hl => match us, hl with | [_, _], _ => rfl
  have H__collect := PySem.W.mg_of X G a__collect
  have F_has_word := fun_mk (st := shas_word) l_has_word c_has_word k_has_word
  have B_has_word := F_has_word.binds (ps := ["test", "word"]) fun _ _ _ _ _ _ us hl => match us, hl with | [_, _], _ => rfl
  have H_has_word := PySem.W.mg_of X G a_has_word
  have F_looks_back := fun_mk (st := slooks_back) l_looks_back c_looks_back k_looks_back
  have B_looks_back := F_looks_back.binds (ps := ["test"]) fun _ _ _ _ _ _ us hl => match us, hl with | [_], _ => rfl
  have H_looks_back := PySem.W.mg_of X G a_looks_back
  have F_names_of := fun_mk (st := snames_of) l_names_of c_names_of k_names_of
  have B_names_of := F_names_of.binds (ps := ["test"]) fun _ _ _ _ _ _ us hl => match us, hl with | [_], _ => rfl
  have H_names_of := PySem.W.mg_of X G a_names_of
  have F_marks_of := fun_mk (st := smarks_of) l_marks_of c_marks_of k_marks_of
  have B_marks_of := F_marks_of.binds (ps := ["test"]) fun _ _ _ _ _ _ us hl => match us, hl with | [_], _ => rfl
  have H_marks_of := PySem.W.mg_of X G a_marks_of
  have F_texts_of := fun_mk (st := stexts_of) l_texts_of c_texts_of k_texts_of
  have B_texts_of := F_texts_of.binds (ps := ["test"]) fun _ _ _ _ _ _ us hl => match us, hl with | [_], _ => rfl
  have H_texts_of := PySem.W.mg_of X G a_texts_of
  have F_values_of := fun_mk (st := svalues_of) l_values_of c_values_of k_values_of
  have B_values_of := F_values_of.binds (ps := ["test", "mark"]) fun _ _ _ _ _ _ us hl => match us, hl with | [_, _], _ => rfl
  have H_values_of := PySem.W.mg_of X G a_values_of
  have F__law_draws := fun_mk (st := s_law_draws) l__law_draws c__law_draws k__law_draws
  have B__law_draws := F__law_draws.binds (ps := ["cell", "many"]) fun _ _ _ _ _ _ us hl => match us, hl with | [_, _], _ => rfl
  have H__law_draws := PySem.W.mg_of X G a__law_draws
  have F__law_own_test := fun_mk (st := s_law_own_test) l__law_own_test c__law_own_test k__law_own_test
  have B__law_own_test := F__law_own_test.binds (ps := ["draws"]) fun _ _ _ _ _ _ us hl => match us, hl with | [_], _ => rfl
  have H__law_own_test := PySem.W.mg_of X G a__law_own_test
  have F__law_test := fun_mk (st := s_law_test) l__law_test c__law_test k__law_test
  have B__law_test := F__law_test.binds (ps := ["draws", "deep", "back"]) fun _ _ _ _ _ _ us hl => match us, hl with | [_, _, _], _ => rfl
  have H__law_test := PySem.W.mg_of X G a__law_test
  have F__law_met := fun_mk (st := s_law_met) l__law_met c__law_met k__law_met
  have B__law_met := F__law_met.binds (ps := ["test"]) fun _ _ _ _ _ _ us hl => match us, hl with | [_], _ => rfl
  have H__law_met := PySem.W.mg_of X G a__law_met
  have F__law_once := fun_mk (st := s_law_once) l__law_once c__law_once k__law_once
  have B__law_once := F__law_once.binds (ps := ["values"]) fun _ _ _ _ _ _ us hl => match us, hl with | [_], _ => rfl
  have H__law_once := PySem.W.mg_of X G a__law_once
  have F_law := fun_mk (st := slaw) l_law c_law k_law
  have H_law := PySem.W.mg_of X G a_law
  refine ⟨PySem.W.fnOf "law" "law" (defArgs slaw) (defBody slaw) (defScope slaw) .none kV_law dc_law pm_law an_law cd_law ct_law, fun s v => .of_eq rfl, fun base _ _ => ?_⟩
  have q_draws := cal_mk (P := P) (w := w) (base := base) F__law_draws (ok_draws T F__law_draws) H__law_draws B__law_draws
  have q_own := cal_mk (P := P) (w := w) (base := base) F__law_own_test (ok_own_test T F__law_own_test) H__law_own_test B__law_own_test
  have q_ltest := cal_law_test (P := P) (W := w) (base := base) T F__law_test H__law_test B__law_test q_own 4
  have q_tests := cal_mk (P := P) (w := w) (base := base) F_tests_in (ok_tests_in BAR F_tests_in) H_tests_in B_tests_in
  have q_col := cal_collect (P := P) (W := w) (base := base) F__collect H__collect B__collect q_tests 8
  have q_subs := cal_mk (P := P) (w := w) (base := base) F_subtests (ok_subtests F_subtests q_col) H_subtests B_subtests
  have q_hw := cal_mk (P := P) (w := w) (base := base) F_has_word (ok_has_word TX.toBx F_has_word q_subs) H_has_word B_has_word
  have q_lb := cal_mk (P := P) (w := w) (base := base) F_looks_back (ok_looks_back TX.toBx BFW F_looks_back q_hw) H_looks_back B_looks_back
  have q_nm := cal_mk (P := P) (w := w) (base := base) F_names_of (ok_names_of TX.toBx F_names_of q_subs) H_names_of B_names_of
  have q_mk := cal_mk (P := P) (w := w) (base := base) F_marks_of (ok_marks_of TX.toBx F_marks_of q_subs) H_marks_of B_marks_of
  have q_tx := cal_mk (P := P) (w := w) (base := base) F_texts_of (ok_texts_of TX.toBx F_texts_of q_subs) H_texts_of B_texts_of
  have q_vl := cal_mk (P := P) (w := w) (base := base) F_values_of (ok_values_of TX.toBx F_values_of q_subs) H_values_of B_values_of
  have q_met := cal_mk (P := P) (w := w) (base := base) F__law_met (ok_met TX.toBx F__law_met) H__law_met B__law_met
  have q_once := cal_mk (P := P) (w := w) (base := base) F__law_once (ok_once TX F__law_once) H__law_once B__law_once
  exact ok_law TX F_law q_draws q_ltest q_met q_once q_subs q_nm q_mk q_tx q_vl q_lb
theorem walk {l : PySem.W.OpenLaw} {q : Program} {loose : List Str} {XP : (Str → Option Value) → Heap → Prop} {YP : World → Heap → Prop} {d : DefRec} {K : Params → PySem.W.Frag} (hn : l.most = some 63) (hdf : d.params.defaults = [])
    (hY : ∀ (w : World) (h : Heap), YP w h → (K w.params).In h)
    (F : ∀ (w : World) (mg : Str → Option Value) (fa : Addr) (h : Heap), (K w.params).In h → h.Ns mainGlobals mg → mg d.name = some (.ref fa) →
      ∃ fd : FuncData, (∀ (s : Shared) (u : Value), BindsTo s fd ⟨[u], []⟩ [("script", u)]) ∧ ∀ base : Heap, (K w.params).In base → base.Ns mainGlobals mg → FnOk l.prog w (K w.params) mg base CX0 131 fa fd ["script"] (spLw (K w.params))) :
    PySem.W.WalkO q loose XP YP l.row.toRowW d [] (fun f vs => PySem.call f vs) :=
  L2.walk_of (n := 63) (k := 131) (x := "script") (CX := fun _ => CX0) (sp := fun w => spLw (K w.params)) hn (by decide) hdf ⟨rfl, by decide, by decide⟩ hY F (fun _ _ a ns hl _ hS => ⟨a, ns, rfl, hS, hl, fun _ => rfl⟩) fun _ _ _ _ _ z => z
end LW
end
section
set_option Elab.async false
open PySem PySem.W PyProof.Rows
set_option maxRecDepth 100000 in
set_option maxHeartbeats 0 in
theorem PySem.Challenge.cw_lookon_k01_queries_what_is_mentioned_holds : PySem.Challenge.rw_lookon_k01_queries_what_is_mentioned.Holds := by
  w_on; o_law; k_head; (case hw => w_witness2)
  k_fill
  refine LW.walk (l := PySem.Challenge.rw_lookon_k01_queries_what_is_mentioned) rfl rfl (fun w h Y => PySem.W.kIn_of Y) ?F
  case F =>
    intro w mg fa h KX G hmg
    refine' LW.all_mk KX G hmg ?a_tests_in ?l_tests_in ?c_tests_in ?k_tests_in ?a_subtests ?l_subtests ?c_subtests ?k_subtests ?a__collect ?l__collect ?c__collect ?k__collect ?a_has_word ?l_has_word ?c_has_word ?k_has_word ?a_looks_back ?l_looks_back ?c_looks_back ?k_looks_back ?a_names_of ?l_names_of ?c_names_of ?k_names_of ?a_marks_of ?l_marks_of ?c_marks_of ?k_marks_of ?a_texts_of ?l_texts_of ?c_texts_of ?k_texts_of ?a_values_of ?l_values_of ?c_values_of ?k_values_of ?a__law_draws ?l__law_draws ?c__law_draws ?k__law_draws ?a__law_own_test ?l__law_own_test ?c__law_own_test ?k__law_own_test ?a__law_test ?l__law_test ?c__law_test ?k__law_test ?a__law_met ?l__law_met ?c__law_met ?k__law_met ?a__law_once ?l__law_once ?c__law_once ?k__law_once ?a_law ?l_law ?c_law ?k_law ?z_len ?z_isinstance ?z_all ?z_ord ?z_range ?z_sorted ?z_str ?z_int ?z_bool ?z_tuple ?z_list ?z_zip ?z_reversed ?z_set ?z_any ?z_enumerate ?v_ARGUMENTS ?l_ARGUMENTS ?m_ARGUMENTS ?v_FORWARD ?l_FORWARD
    (case a_tests_in => k_is)
    (case l_tests_in => k_is)
    (case c_tests_in => k_is)
    (case k_tests_in => k_is)
    (case a_subtests => k_is)
    (case l_subtests => k_is)
    (case c_subtests => k_is)
    (case k_subtests => k_is)
    (case a__collect => k_is)
    (case l__collect => k_is)
    (case c__collect => k_is)
    (case k__collect => k_is)
    (case a_has_word => k_is)
    (case l_has_word => k_is)
    (case c_has_word => k_is)
    (case k_has_word => k_is)
    (case a_looks_back => k_is)
    (case l_looks_back => k_is)
    (case c_looks_back => k_is)
    (case k_looks_back => k_is)
    (case a_names_of => k_is)
    (case l_names_of => k_is)
    (case c_names_of => k_is)
    (case k_names_of => k_is)
    (case a_marks_of => k_is)
    (case l_marks_of => k_is)
    (case c_marks_of => k_is)
    (case k_marks_of => k_is)
    (case a_texts_of => k_is)
    (case l_texts_of => k_is)
    (case c_texts_of => k_is)
    (case k_texts_of => k_is)
    (case a_values_of => k_is)
    (case l_values_of => k_is)
    (case c_values_of => k_is)
    (case k_values_of => k_is)
    (case a__law_draws => k_is)
    (case l__law_draws => k_is)
    (case c__law_draws => k_is)
    (case k__law_draws => k_is)
    (case a__law_own_test => k_is)
    (case l__law_own_test => k_is)
    (case c__law_own_test => k_is)
    (case k__law_own_test => k_is)
    (case a__law_test => k_is)
    (case l__law_test => k_is)
    (case c__law_test => k_is)
    (case k__law_test => k_is)
    (case a__law_met => k_is)
    (case l__law_met => k_is)
    (case c__law_met => k_is)
    (case k__law_met => k_is)
    (case a__law_once => k_is)
    (case l__law_once => k_is)
    (case c__law_once => k_is)
    (case k__law_once => k_is)
    (case a_law => k_is)
    (case l_law => k_is)
    (case c_law => k_is)
    (case k_law => k_is)
    (case z_len => k_is)
    (case z_isinstance => k_is)
    (case z_all => k_is)
    (case z_ord => k_is)
    (case z_range => k_is)
    (case z_sorted => k_is)
    (case z_str => k_is)
    (case z_int => k_is)
    (case z_bool => k_is)
    (case z_tuple => k_is)
    (case z_list => k_is)
    (case z_zip => k_is)
    (case z_reversed => k_is)
    (case z_set => k_is)
    (case z_any => k_is)
    (case z_enumerate => k_is)
    (case v_ARGUMENTS => k_is)
    (case l_ARGUMENTS => k_is)
    (case m_ARGUMENTS => first | rfl | k_is)
    (case v_FORWARD => k_is)
    (case l_FORWARD => k_is)
end
