import PyProof.Rows.All
import Wide.All
import OpenK.AllK
import Wide.FinOn
import HandS.ForMost
import HandS.Wide
import HandS.Rev
import HandS.Style
import HandS.TupAny
import HandS.IsInst
import HandS.Flow
import KE.KTupSum
import KE.DataMinMax
import HandS.Steps
import HandS.Dict
import HandS.SetBool
import HandS.Lambda
import HandS.Walk
import KE.KExcSuper
import HandS.Exc
import HandS.ExcField
import HandS.ExcSuper
import HandS.TryMany
import HandS.Gcd
import HandS.WideMore
import HandS.Words
import HandS.EndTab
import KE.KNest
import HandS.Codes
import HandS.Deep
import Flt.RightSqrt
import HandS.WideBits
import HandS.Zip
import HandS.ExcOwn
import HandS.WordsExc
import HandS.Conv
import HandS.DictComp
import HandS.Iter
import PyProof.ExcBaseAll.ValueError
import HandS.Text
import HandS.TryOnly
import PyProof.NoPylong
import HandS.TupSets
import KE.SortData
import KE.GoesMore
import KE.GoesZip
import KE.GoesEnum
import KE.KDictZip
import PyProof.DictUpdate
import PyProof.EvalArms
import HandS.More
import HandS.CallLocal
import KE.DataCmp
import HandS.AnyAll
import HandS.Star
import HandS.DeepEq
import KE.KEqDict
import KE.KEqNest
import HandS.List
import KE.KRevSl
import HandS.TupMul
import KE.DatumOrd
import HandS.SortInts
import PyProof.P3Eq
import OpenK.XHead
import PySem.Challenge.RW_sixtyfold_k31_whole_turned_numbers
set_option Elab.async false
set_option linter.all false
set_option maxRecDepth 100000
set_option maxHeartbeats 4000000
section
namespace L2
open PySem PySem.Spec PyProof.Rows
/-! ### min, max, sum of a tuple of whole numbers: the walk of a tuple in the place of a list's -/
section
variable {prog : Program} {w : World} {A : Around} {E : Value → Shared → Prop} {s : Shared} {l : Addr}
/-- the walk over a tuple of ints as min and max ask for it: where its iterator stands, and that what stood stands behind it -/
theorem tup_walk {xs : Array (Int × Tok)} (hh : A.handled = none) (hl : s.heap.IsTuple l (intItems xs)) {R : Value → Shared → Prop}
    (k : ∀ s₂ : Shared, s₂ = { s with heap := s.heap.push { cls := .type "tuple_iterator", data := .fields #[.ref l, .int 0 0] } } → Walks prog w A s.heap.objs.size [s.heap.objs.size, l] [s.heap.objs.size] (intItems xs).size (fun i v => (intItems xs)[i]? = some v) (fun i h => h.IsTupleIter s.heap.objs.size l i ∧ h.IsTuple l (intItems xs)) →
      (s₂.heap.IsTupleIter s.heap.objs.size l 0 ∧ s₂.heap.IsTuple l (intItems xs)) → (∀ b ∈ [s.heap.objs.size, l], b < s₂.heap.objs.size) → (∀ (h' : Heap), (∀ b o, b ∉ [s.heap.objs.size] → s₂.heap.get? b = some o → h'.get? b = some o) → ∀ b o, s.heap.get? b = some o → h'.get? b = some o) → R (.ref s.heap.objs.size) s₂) :
    wpAny (model prog w) A (pyIter (.ref l)) R E s := by
  have hlt : l < s.heap.objs.size := hl.elim fun _ z => Heap.lt_size z.1
  refine wpAny_pyIter_tuple hl (k _ rfl (Walks.tuple hh _ l (Nat.ne_of_lt hlt) (intItems xs)) ⟨⟨_, Heap.get?_push_size _ rfl, rfl, rfl⟩, hl.push _⟩ (fun b hb => ?_) fun h' hk b o e => ?_)
  · rw [Heap.size_push]; simp only [List.mem_cons, List.not_mem_nil, or_false] at hb; exact hb.elim (fun z => z ▸ Nat.lt_succ_self _) (fun z => z ▸ Nat.lt_succ_of_lt hlt)
  · exact hk b o (fun z => Nat.lt_irrefl _ ((List.mem_singleton.mp z) ▸ Heap.lt_size e)) (Heap.get?_push_of_some _ e)
theorem intsT_of {its : List Value} {ns : List Int} (hi : IntsAre its ns) : ∃ xs : Array (Int × Tok), its.toArray = intItems xs ∧ ns = (xs.toList.map (·.1)) := by
  obtain ⟨xs, e⟩ := hi.allInts.items; refine ⟨xs, e, ?_⟩; rw [← nums_intItems, ← e]; exact hi.numsOf.symm
theorem sum_rawT {its : List Value} {ns : List Int} {Q : Value → Shared → Prop} (hh : A.handled = none) (hl : s.heap.IsTuple l its.toArray) (hi : IntsAre its ns)
    (h : ∀ h' tk t', (∀ b o, s.heap.get? b = some o → h'.get? b = some o) → Q (.int ns.sum t') { s with heap := h', toks := tk }) :
      wpAny (model prog w) A (call (.builtin "sum") [.ref l]) Q E s := by -- of a tuple
  obtain ⟨xs, e, rfl⟩ := intsT_of hi; rw [e] at hl
  exact PySem.W.ktm_sumG hh hl fun h' tk t' hk => by rw [preSum_eq, List.take_of_length_le (by simp)]; exact h h' tk t' hk
theorem max_rawT {its : List Value} {ns : List Int} {Q : Value → Shared → Prop} (hh : A.handled = none) (hl : s.heap.IsTuple l its.toArray) (hi : IntsAre its ns) (hne : 0 < ns.length)
    (h : ∀ h' tk M t', (∀ b o, s.heap.get? b = some o → h'.get? b = some o) → M ∈ ns → (∀ a, a ∈ ns → a ≤ M) → Q (.int M t') { s with heap := h', toks := tk }) :
      wpAny (model prog w) A (call (.builtin "max") [.ref l]) Q E s := by -- of a tuple
  obtain ⟨xs, e, rfl⟩ := intsT_of hi; rw [e] at hl
  have hsz : 0 < xs.size := by rw [List.length_map, Array.length_toList] at hne; exact hne
  obtain ⟨h1, h2⟩ := argBest_gt (numAt xs) (xs.size - 1)
  refine call_max_walk (tup_walk (A := A.in1) hh hl fun s₂ e2 W st hfp hk => ⟨_, _, _, _, _, _, _, rfl, W, st, hfp, by simpa [intItems] using hsz, CmpOf.ints_gt (numAt xs) (fun _ _ => intItems_at), fun v h' tk hP hold => ?_⟩)
  subst e2; obtain ⟨t, rfl⟩ := intItems_at hP; have e3 : (intItems xs).size = xs.size := by simp [intItems]
  rw [e3, numAt_eq]; refine h h' tk _ t (hk h' hold) (PySem.getD_mem (by rw [List.length_map, Array.length_toList]; omega)) fun a ha => ?_
  obtain ⟨j, hj, rfl⟩ := mem_getD ha; have z := h2 j (by rw [List.length_map, Array.length_toList] at hj; omega); rw [numAt_eq, numAt_eq] at z; exact z
theorem min_rawT {its : List Value} {ns : List Int} {Q : Value → Shared → Prop} (hh : A.handled = none) (hl : s.heap.IsTuple l its.toArray) (hi : IntsAre its ns) (hne : 0 < ns.length)
    (h : ∀ h' tk M t', (∀ b o, s.heap.get? b = some o → h'.get? b = some o) → M ∈ ns → (∀ a, a ∈ ns → M ≤ a) → Q (.int M t') { s with heap := h', toks := tk }) :
      wpAny (model prog w) A (call (.builtin "min") [.ref l]) Q E s := by -- of a tuple
  obtain ⟨xs, e, rfl⟩ := intsT_of hi; rw [e] at hl
  have hsz : 0 < xs.size := by rw [List.length_map, Array.length_toList] at hne; exact hne
  obtain ⟨h1, h2⟩ := argBest_lt (numAt xs) (xs.size - 1)
  refine call_min_walk (tup_walk (A := A.in1) hh hl fun s₂ e2 W st hfp hk => ⟨_, _, _, _, _, _, _, rfl, W, st, hfp, by simpa [intItems] using hsz, CmpOf.ints_lt (numAt xs) (fun _ _ => intItems_at), fun v h' tk hP hold => ?_⟩)
  subst e2; obtain ⟨t, rfl⟩ := intItems_at hP; have e3 : (intItems xs).size = xs.size := by simp [intItems]
  rw [e3, numAt_eq]; refine h h' tk _ t (hk h' hold) (PySem.getD_mem (by rw [List.length_map, Array.length_toList]; omega)) fun a ha => ?_
  obtain ⟨j, hj, rfl⟩ := mem_getD ha; have z := h2 j (by rw [List.length_map, Array.length_toList] at hj; omega); rw [numAt_eq, numAt_eq] at z; exact z
end
section
variable {X : Cx}
def rSumT (K : PySem.W.Frag) : List V → Hp → VK → Prop := fun vs H Q => ∃ (a : Addr) (ns : List Int), vs = [V.ref a] ∧ SqT K H a (ns.map V.int) ∧ Q (.int ns.sum) H
def rMaxT (K : PySem.W.Frag) : List V → Hp → VK → Prop := fun vs H Q => ∃ (a : Addr) (ns : List Int), vs = [V.ref a] ∧ SqT K H a (ns.map V.int) ∧ 0 < ns.length ∧ ∀ m, m ∈ ns → (∀ y, y ∈ ns → y ≤ m) → Q (.int m) H
def rMinT (K : PySem.W.Frag) : List V → Hp → VK → Prop := fun vs H Q => ∃ (a : Addr) (ns : List Int), vs = [V.ref a] ∧ SqT K H a (ns.map V.int) ∧ 0 < ns.length ∧ ∀ m, m ∈ ns → (∀ y, y ∈ ns → m ≤ y) → Q (.int m) H
theorem cr_sumT (hc : X.calm = true) : CallR X (.builtin "sum") (rSumT X.K) := fun pins s σ H vs us Q I r ⟨a, ns, e, hs, q⟩ => by
  subst e; obtain ⟨its, rv, hl, _⟩ := I.tuple hs; rw [Vals.ref1 r]
  exact sum_rawT (I.ok.hd hc) hl rv.ints fun h' tk t' hk => ⟨.int _, H, I.kept hk, ⟨_, rfl⟩, q⟩
theorem cr_maxT (hc : X.calm = true) : CallR X (.builtin "max") (rMaxT X.K) := fun pins s σ H vs us Q I r ⟨a, ns, e, hs, hne, q⟩ => by
  subst e; obtain ⟨its, rv, hl, _⟩ := I.tuple hs; rw [Vals.ref1 r]
  exact max_rawT (I.ok.hd hc) hl rv.ints hne fun h' tk m t' hk h1 h2 => ⟨.int _, H, I.kept hk, ⟨_, rfl⟩, q m h1 h2⟩
theorem cr_minT (hc : X.calm = true) : CallR X (.builtin "min") (rMinT X.K) := fun pins s σ H vs us Q I r ⟨a, ns, e, hs, hne, q⟩ => by
  subst e; obtain ⟨its, rv, hl, _⟩ := I.tuple hs; rw [Vals.ref1 r]
  exact min_rawT (I.ok.hd hc) hl rv.ints hne fun h' tk m t' hk h1 h2 => ⟨.int _, H, I.kept hk, ⟨_, rfl⟩, q m h1 h2⟩
/-- x op= e at a name -/
theorem ip_of {op : Operator} {r : R2} (h : OpR X (inplaceOp op) r) : PIp X op r := h
theorem hu64 {k : Nat} {A : Around} (hr : Room k A) : A.units + 64 < cLine := by have := hr.un; omega
theorem hu65 {k : Nat} {A : Around} (hr : Room k A) : A.units + 65 < cLine := by have := hr.un; omega
end
end L2
/-! ### what is new, told by what stood: rules whose readings speak of an extension -/
namespace Sx
open PySem L2 RT PySem.Spec PyProof.Rows
theorem same_new {H : Hp} {p : Addr} {o : HO} (h : H p = none) : Same H (upd H p o) := fun b u e => by
  rw [upd_ne (ne_of_none e h)]; exact e
theorem sqt {K : PySem.W.Frag} {H : Hp} {a : Addr} {xs : List V} (h : H a = some (.tup xs)) : SqT K H a xs := .inl (.inl h)
theorem sql {K : PySem.W.Frag} {H : Hp} {a : Addr} {xs : List V} (h : H a = some (.lst xs)) : SqL K H a xs := .inl (.inl h)
section
variable {X : Cx} {e : Expr} {es : List Expr} {t t' : TE} {ta ta' : TA} {pos : Pos}
theorem PE.imp (h : PE X e t) (i : ∀ σ H Q, t' σ H Q → t σ H Q) : PE X e t' := ⟨fun pins s σ H Q I q => h.run pins s σ H Q I (i σ H Q q)⟩
def wkE (t : TE) : TE := fun σ H Q => ∃ A : VK, t σ H A ∧ ∀ v H1, A v H1 → Q v H1
def wkA (t : TA) : TA := fun σ H Q => ∃ A : List V → Hp → Prop, t σ H A ∧ ∀ v H1, A v H1 → Q v H1
theorem PE.weak (h : PE X e t) : PE X e (wkE t) := ⟨fun pins s σ H Q I q => by
  obtain ⟨A, q1, q2⟩ := q
  exact thn (h.run pins s σ H A I q1) fun u s' ⟨v, H1, I1, r, z⟩ => ⟨v, H1, I1, r, q2 v H1 z⟩⟩
theorem PA.weak (h : PA X es ta) : PA X es (wkA ta) := ⟨fun p pins s σ H Q I q => by
  obtain ⟨A, q1, q2⟩ := q
  exact thn (h.run p pins s σ H A I q1) fun u s' ⟨v, H1, I1, r, z⟩ => ⟨v, H1, I1, r, q2 v H1 z⟩⟩
/-- a tuple display -/
def tTupN (K : PySem.W.Frag) (t : TA) : TE := fun σ H Q => t σ H fun xs H1 => xs.length ≤ sizeLine ∧ ∀ p H2, Same H1 H2 → SqT K H2 p xs → Q (.ref p) H2
theorem pe_tupN {x1} (h : PA X es ta) : PE X (.Tuple es x1 pos) (tTupN X.K ta) := PE.imp (pe_tup (PA.weak h)) fun σ H Q q =>
  ⟨_, q, fun xs H1 ⟨hz, k⟩ => ⟨hz, fun p hp => k p _ (same_new hp) (sqt upd_same)⟩⟩
def tLstN (t : TA) : TE := fun σ H Q => t σ H fun xs H1 => xs.length ≤ sizeLine ∧ ∀ p H2, H1 p = none → Same H1 H2 → H2 p = some (.lst xs) → Q (.ref p) H2
theorem pe_lstN (h : PA X es ta) : PE X (.List es pos) (tLstN ta) := PE.imp (pe_lst (PA.weak h)) fun σ H Q q =>
  ⟨_, q, fun xs H1 ⟨hz, k⟩ => ⟨hz, fun p hp => k p _ hp (same_new hp) upd_same⟩⟩
def tTupRevN (K : PySem.W.Frag) (t : TE) : TE := fun σ H Q => t σ H fun v H1 => ∃ (a : Addr) (xs : List V), v = .ref a ∧ SqL K H1 a xs ∧ ∀ p H2, Same H1 H2 → SqT K H2 p xs.reverse → Q (.ref p) H2
theorem pe_tupRevN {p p2 pos pos2 : Pos} (hc : X.calm = true) (hg : Gl X "tuple") (hm : X.mg "tuple" = none) (hg2 : Gl X "reversed") (hm2 : X.mg "reversed" = none) (he : PE X e t)
    (hs : starEach [e] X.env = (false, eval e X.env) :: starEach [] X.env := by rfl) (hs2 : starEach [.Call (.Name "reversed" p2) [e] [] pos2] X.env = (false, eval (.Call (.Name "reversed" p2) [e] [] pos2) X.env) :: starEach [] X.env := by rfl) : PE X (.Call (.Name "tuple" p) [.Call (.Name "reversed" p2) [e] [] pos2] [] pos) (tTupRevN X.K t) := PE.imp (pe_tupRev hc hg hm hg2 hm2 (PE.weak he) hs hs2) fun σ H Q q =>
  ⟨_, q, fun v H1 ⟨a, xs, e, h, k⟩ => ⟨a, xs, e, h, fun p hp => k p _ (same_new hp) (sqt upd_same)⟩⟩
def tRevLN (K : PySem.W.Frag) (t : TE) : TE := fun σ H Q => t σ H fun v H1 => ∃ (a : Addr) (xs : List V), v = .ref a ∧ SqL K H1 a xs ∧ ∀ p H2, H1 p = none → Same H1 H2 → H2 p = some (.lst xs.reverse) → Q (.ref p) H2
theorem pe_revLN {k : Nat} {p1 p2 p3 pos : Pos} (he : PE X e t) : PE X (.Subscript e (.Slice none none (some (.UnaryOp .USub (.Constant (.int 1) k p1) p2)) p3) pos) (tRevLN X.K t) := PE.imp (pe_revL (PE.weak he)) fun σ H Q q =>
  ⟨_, q, fun v H1 ⟨a, xs, e, h, k⟩ => ⟨a, xs, e, h, fun p hp => k p _ hp (same_new hp) upd_same⟩⟩
/-! by values -/
def rTupN (K : PySem.W.Frag) : List V → Hp → VK → Prop := fun xs H Q => ∃ p ys, xs = [.ref p] ∧ (SqL K H p ys ∨ SqT K H p ys) ∧ ∀ p H2, Same H H2 → SqT K H2 p ys → Q (.ref p) H2
theorem call_tupN : CallR X (.type "tuple") (rTupN X.K) := fun pins s σ H xs us Q I r h => by
  obtain ⟨p, ys, rfl, hs, k⟩ := h
  refine call_tuple_of pins s σ H _ us Q I r ⟨p, ys, rfl, ?_⟩
  rcases hs with hs | hs
  · exact .inl ⟨hs, fun l hl => k l _ (same_new hl) (sqt upd_same)⟩
  · exact .inr ⟨hs, k p H (Same.refl H) hs⟩
def rListN (K : PySem.W.Frag) : List V → Hp → VK → Prop := fun xs H Q => ∃ p ys, xs = [.ref p] ∧ (SqL K H p ys ∨ SqT K H p ys) ∧ ∀ p H2, H p = none → Same H H2 → H2 p = some (.lst ys) → Q (.ref p) H2
theorem call_listN : CallR X (.type "list") (rListN X.K) := fun pins s σ H xs us Q I r h => by
  obtain ⟨p, ys, rfl, hs, k⟩ := h
  exact call_list_of pins s σ H _ us Q I r ⟨p, ys, rfl, hs, fun l hl => k l _ hl (same_new hl) upd_same⟩
def rCatN (K : PySem.W.Frag) : R2 := fun x y H Q => ∃ a b xs ys, x = .ref a ∧ y = .ref b ∧ SqT K H a xs ∧ SqT K H b ys ∧ xs.length + ys.length ≤ sizeLine ∧ ∀ p H2, Same H H2 → SqT K H2 p (xs ++ ys) → Q (.ref p) H2
theorem op_catN : OpR X (binaryOp .Add) (rCatN X.K) := fun pins s σ H x y v u Q I rx ry h => by
  obtain ⟨a, b, xs, ys, rfl, rfl, ha, hb, hz, k⟩ := h
  refine op_catA pins s σ H _ _ v u Q I rx ry ⟨a, b, xs, ys, rfl, rfl, ha, hb, hz, fun e => ?_, fun _ e => ?_, fun _ _ p hp => k p _ (same_new hp) (sqt upd_same)⟩
  · subst e; exact k b H (Same.refl H) hb
  · subst e; exact k a H (Same.refl H) (by rw [List.append_nil]; exact ha)
def rCatLN (K : PySem.W.Frag) : R2 := fun x y H Q => ∃ a b xs ys, x = .ref a ∧ y = .ref b ∧ H a = some (.lst xs) ∧ H b = some (.lst ys) ∧ xs.length + ys.length ≤ sizeLine ∧ ∀ p H2, H p = none → Same H H2 → H2 p = some (.lst (xs ++ ys)) → Q (.ref p) H2
theorem op_catLN : OpR X (binaryOp .Add) (rCatLN X.K) := fun pins s σ H x y v u Q I rx ry h => by
  obtain ⟨a, b, xs, ys, rfl, rfl, ha, hb, hz, k⟩ := h
  exact op_cat pins s σ H _ _ v u Q I rx ry ⟨a, b, xs, ys, rfl, rfl, ha, hb, hz, fun p hp => k p _ hp (same_new hp) upd_same⟩
theorem cut_whole {xs : List V} {lo hi : Option Int} (h : HT.sIx xs.length 0 lo = 0 ∧ HT.sIx xs.length xs.length hi = xs.length) : cutV xs lo hi = xs := by
  unfold cutV
  rw [h.1, h.2, List.drop_zero, Nat.sub_zero, List.take_length]
def rSlN (K : PySem.W.Frag) : V → Option Int → Option Int → Hp → VK → Prop := fun x lo hi H Q => ∃ a xs, x = .ref a ∧ SqT K H a xs ∧ ∀ p H2, Same H H2 → SqT K H2 p (cutV xs lo hi) → Q (.ref p) H2
theorem sl_tupN : SlR X (rSlN X.K) := fun pins s σ H x v vl vu lo hi sl Q I rx hs pl pu h => by
  obtain ⟨a, xs, rfl, hx, k⟩ := h
  exact sl_tupA pins s σ H _ v vl vu lo hi sl Q I rx hs pl pu ⟨a, xs, rfl, hx, fun e => k a H (Same.refl H) (by rw [cut_whole e]; exact hx), fun _ p hp => k p _ (same_new hp) (sqt upd_same)⟩
def rSlLN (K : PySem.W.Frag) : V → Option Int → Option Int → Hp → VK → Prop := fun x lo hi H Q => ∃ a xs, x = .ref a ∧ SqL K H a xs ∧ ∀ p H2, H p = none → Same H H2 → H2 p = some (.lst (cutV xs lo hi)) → Q (.ref p) H2
theorem sl_listN : SlR X (rSlLN X.K) := fun pins s σ H x v vl vu lo hi sl Q I rx hs pl pu h => by
  obtain ⟨a, xs, rfl, hx, k⟩ := h
  exact sl_list pins s σ H _ v vl vu lo hi sl Q I rx hs pl pu ⟨a, xs, rfl, hx, fun p hp => k p _ hp (same_new hp) upd_same⟩
/-- an item of a list or a tuple -/
def rIxQ (K : PySem.W.Frag) : R2 := fun x y H Q => rIxL K x y H Q ∨ rIxT K x y H Q
theorem ix_seq : IxR X (rIxQ X.K) := fun value slice pins s σ H x y v u Q I rx ry h hs => by
  rcases h with h | h
  · exact ix_list value slice pins s σ H x y v u Q I rx ry h hs
  · exact ix_tup value slice pins s σ H x y v u Q I rx ry h hs
end
end Sx
end
section
/-! steps of a reading, one lemma a construct; rows as lists of naturals -/
namespace Sx
open PySem L2 RT
abbrev rAdd : R2 := rI0 fun i j => .int (i + j)
abbrev rSub : R2 := rI0 fun i j => .int (i - j)
abbrev rMul : R2 := rI CMul fun i j => .int (i * j)
abbrev rMulW : R2 := rI CMulW fun i j => .int (i * j)
abbrev rFd : R2 := rI CDiv fun i j => .int (i / j)
abbrev rFdW : R2 := rI CDivW fun i j => .int (i / j)
abbrev rMd : R2 := rI (fun _ j => 0 < j) fun i j => .int (i % j)
abbrev rPw : R2 := rI CPow fun i j => .int (i ^ j.toNat)
abbrev rLt : R2 := rI0 fun i j => .bl (decide (i < j))
abbrev rLe : R2 := rI0 fun i j => .bl (decide (i ≤ j))
abbrev rGt : R2 := rI0 fun i j => .bl (decide (j < i))
abbrev rGe : R2 := rI0 fun i j => .bl (decide (j ≤ i))
abbrev rNeg : V → Hp → VK → Prop := rU fun i => .int (-i)
abbrev rLen (K : PySem.W.Frag) : List V → Hp → VK → Prop := fun xs H Q => ∃ p ys, xs = [.ref p] ∧ (SqL K H p ys ∨ SqT K H p ys) ∧ Q (.int ys.length) H
abbrev rInt1 : List V → Hp → VK → Prop := fun xs H Q => (∃ i, xs = [.int i] ∧ Q (.int i) H) ∨ ∃ k, xs = [.bl k] ∧ Q (.int (if k then 1 else 0)) H
/-- a whole number not below 0 -/
def natV (n : Nat) : V := .int (n : Int)
def rowV (r : List Nat) : List V := r.map natV

/-! ### heaps -/
/-- all but d as it was -/
def SB (d : Addr) (H H' : Hp) : Prop := ∀ b o, b ≠ d → H b = some o → H' b = some o
theorem Same.sb {d : Addr} {H H' : Hp} (h : Same H H') : SB d H H' := fun b o _ e => h b o e
theorem SB.refl (d : Addr) (H : Hp) : SB d H H := fun _ _ _ e => e
theorem SB.trans {d : Addr} {H H1 H2 : Hp} (a : SB d H H1) (b : SB d H1 H2) : SB d H H2 := fun c o n e => b c o n (a c o n e)
theorem SB.upd (d : Addr) (H : Hp) (o : HO) : SB d H (upd H d o) := fun b u n e => by rw [upd_ne n]; exact e
/-- what H does not know may change -/
theorem Same.mut {H H' : Hp} {p : Addr} {o : HO} (e : Same H H') (h : H p = none) : Same H (upd H' p o) := fun a u ha => by
  rw [upd_ne (ne_of_none ha h)]; exact e a u ha
theorem SB.mut {d : Addr} {H H' : Hp} {p : Addr} {o : HO} (e : SB d H H') (h : H p = none) : SB d H (L2.upd H' p o) := fun a u n ha => by
  rw [upd_ne (ne_of_none ha h)]; exact e a u n ha
theorem Same.seqT {K : PySem.W.Frag} {H H' : Hp} {a : Addr} {xs : List V} (e : Same H H') (h : SqT K H a xs) : SqT K H' a xs := by
  rcases h with (h | ⟨o, h⟩) | h
  · exact .inl (.inl (e _ _ h))
  · exact .inl (.inr ⟨o, e _ _ h⟩)
  · exact .inr h
theorem SB.seqT {K : PySem.W.Frag} {d : Addr} {H H' : Hp} {a : Addr} {xs ys : List V} (e : SB d H H') (hd : H d = some (.lst ys)) (h : SqT K H a xs) : SqT K H' a xs := by
  rcases h with (h | ⟨o, h⟩) | h
  · exact .inl (.inl (e _ _ (by rintro rfl; rw [hd] at h; cases h) h))
  · exact .inl (.inr ⟨o, e _ _ (by rintro rfl; rw [hd] at h; cases h) h⟩)
  · exact .inr h
theorem SB.seqL {K : PySem.W.Frag} {d : Addr} {H H' : Hp} {a : Addr} {xs : List V} (e : SB d H H') (hd : a ≠ d) (h : SqL K H a xs) : SqL K H' a xs := by
  rcases h with (h | ⟨o, h⟩) | h
  · exact .inl (.inl (e _ _ hd h))
  · exact .inl (.inr ⟨o, e _ _ hd h⟩)
  · exact .inr h
/-- what stood ahead of a new d stands whatever d becomes -/
theorem keep_new {K : PySem.W.Frag} {d : Addr} {H H1 H2 : Hp} {a : Addr} {xs : List V} (h : SqL K H a xs) (nd : H d = none) (s : Same H H1) (s2 : SB d H1 H2) : SqL K H2 a xs := by
  rcases h with (h | ⟨o, h⟩) | h
  · exact .inl (.inl (s2 _ _ (ne_of_none h nd) (s _ _ h)))
  · exact .inl (.inr ⟨o, s2 _ _ (ne_of_none h nd) (s _ _ h)⟩)
  · exact .inr h
/-- a list changed: tuples stand -/
theorem mut_seqT {K : PySem.W.Frag} {H : Hp} {p a : Addr} {ys : List V} {o : HO} {xs : List V} (hp : H p = some (.lst ys)) (h : SqT K H a xs) : SqT K (upd H p o) a xs := SB.seqT (SB.upd p H o) hp h

/-! ### steps -/
section
variable {K : PySem.W.Frag} {σ : L2.St} {H : Hp} {Q : VK} {D : Ends} {ta tb tc te : TE} {tt tu : TT} {r r' : R2} {t u : TS} {v x y : V} {g : TG} {sp : Sp} {dvs : List V} {E : XK} {args : TA} {QB : Bool → Hp → Prop} {QA : List V → Hp → Prop} {QS : L2.St → Hp → Prop}
theorem i_var {i : Nat} (h : σ[i]? = some (some v)) (q : Q v H) : tVar i σ H Q := ⟨v, h, q⟩
theorem i_c (q : Q v H) : tC v σ H Q := q
theorem i_op (q : ta σ H fun x H1 => tb σ H1 fun y H2 => r x y H2 Q) : tOp r ta tb σ H Q := q
theorem i_un {ru : V → Hp → VK → Prop} (q : ta σ H fun x H1 => ru x H1 Q) : tUn ru ta σ H Q := q
theorem i_chain (q : ta σ H fun x H1 => tb σ H1 fun y H2 => r x y H2 fun z H3 => ∃ k, z = .bl k ∧ (if k = true then tc σ H3 fun w' H4 => r' y w' H4 Q else Q (.bl false) H3)) : tChain r r' ta tb tc σ H Q := q
theorem i_seq (q : t { D with nx := u D } σ H) : tSeq t u D σ H := q
theorem i_asg (q : te σ H fun x H1 => g x σ H1 D.nx) : tAsg te g D σ H := q
theorem i_gname {i : Nat} (q : QS (σ.set i (some v)) H) : gName i v σ H QS := q
theorem i_ret (q : te σ H D.rt) : tRet te D σ H := q
theorem i_drop (q : te σ H fun _ H1 => D.nx σ H1) : tDrop te D σ H := q
theorem i_next (q : D.nx σ H) : tNext D σ H := q
theorem i_ifS (q : tt σ H fun b H1 => if b = true then t D σ H1 else u D σ H1) : tIfS tt t u D σ H := q
theorem i_test (q : te σ H fun x H' => ∃ k, x = .bl k ∧ QB k H') : tTest te σ H QB := q
theorem i_tB (q : te σ H fun x H' => ∃ k, x = .bl k ∧ QB k H') : tB te σ H QB := q
theorem i_and (q : tt σ H fun c H1 => if c = true then tu σ H1 QB else QB false H1) : tAnd tt tu σ H QB := q
theorem i_or (q : tt σ H fun c H1 => if c = true then QB true H1 else tu σ H1 QB) : tOr tt tu σ H QB := q
theorem i_not (q : tt σ H fun c H1 => QB (!c) H1) : tNot tt σ H QB := q
theorem i_andV (q : ta σ H fun x H1 => ∃ c, x = .bl c ∧ if c = true then tb σ H1 Q else Q (.bl false) H1) : tAndV ta tb σ H Q := q
theorem i_orV (q : ta σ H fun x H1 => ∃ c, x = .bl c ∧ if c = true then Q (.bl true) H1 else tb σ H1 Q) : tOrV ta tb σ H Q := q
theorem i_notV (q : ta σ H fun x H1 => ∃ c, x = .bl c ∧ Q (.bl (!c)) H1) : tNotV ta σ H Q := q
theorem i_if (q : tt σ H fun c H1 => if c = true then ta σ H1 Q else tb σ H1 Q) : tIf tt ta tb σ H Q := q
theorem i_call (q : args σ H fun vs H1 => sp (vs ++ dvs) H1 Q E) : tCall sp dvs E args σ H Q := q
theorem i_cb {rc : List V → Hp → VK → Prop} (q : args σ H fun vs H1 => rc vs H1 Q) : tCB rc args σ H Q := q
theorem i_nil (q : QA [] H) : tNil σ H QA := q
theorem i_cons {ar : TA} (q : ta σ H fun x H1 => ar σ H1 fun xs H2 => QA (x :: xs) H2) : tCons ta ar σ H QA := q
theorem i_tup (q : args σ H fun xs H1 => xs.length ≤ sizeLine ∧ ∀ p H2, Same H1 H2 → SqT K H2 p xs → Q (.ref p) H2) : tTupN K args σ H Q := q
theorem i_lst (q : args σ H fun xs H1 => xs.length ≤ sizeLine ∧ ∀ p H2, H1 p = none → Same H1 H2 → H2 p = some (.lst xs) → Q (.ref p) H2) : tLstN args σ H Q := q
theorem i_bm {T : String} {rm : V → List V → Hp → VK → Prop} (q : te σ H fun x H1 => tyV K T x H1 ∧ args σ H1 fun xs H2 => rm x xs H2 Q) : tBM K T rm te args σ H Q := q
theorem i_bm0 {T : String} {rm : V → List V → Hp → VK → Prop} (q : te σ H fun x H1 => tyV K T x H1 ∧ rm x [] H1 Q) : tBM0 K T rm te σ H Q := q
theorem i_aug {i : Nat} {ti : TIp} (h : σ[i]? = some (some x)) (q : te σ H fun y H1 => ti x y H1 fun z H2 => D.nx (σ.set i (some z)) H2) : tAug i te ti D σ H := ⟨x, h, q⟩
theorem i_sl {rs : V → Option Int → Option Int → Hp → VK → Prop} {tl th : TO} (q : te σ H fun x H1 => tl σ H1 fun l H2 => th σ H2 fun u H3 => rs x l u H3 Q) : tSl rs te tl th σ H Q := q
theorem i_nopart {QO : Option Int → Hp → Prop} (q : QO none H) : tNoPart σ H QO := q
theorem i_part {QO : Option Int → Hp → Prop} (q : te σ H fun x H1 => ∃ i, x = .int i ∧ QO (some i) H1) : tPart te σ H QO := q
theorem i_exbl {P : Bool → Prop} {c : Bool} (q : P c) : ∃ k, V.bl c = V.bl k ∧ P k := ⟨c, rfl, q⟩
theorem i_exint {P : Int → Prop} {c : Int} (q : P c) : ∃ k, V.int c = V.int k ∧ P k := ⟨c, rfl, q⟩
theorem i_exnat {P : Int → Prop} {c : Nat} (q : P (c : Int)) : ∃ k, natV c = V.int k ∧ P k := ⟨c, rfl, q⟩
theorem i_gsub {to ti : TE} {ts : TSet} (q : to σ H fun o H1 => ti σ H1 fun i H2 => ts o i v H2 fun H3 => QS σ H3) : gSub to ti ts v σ H QS := q
theorem i_iteT {A B : Prop} (h : A) : if true = true then A else B := by rw [if_pos rfl]; exact h
theorem i_iteF {A B : Prop} (h : B) : if false = true then A else B := by rw [if_neg Bool.false_ne_true]; exact h
theorem i_iteNT {A B : Prop} (h : B) : if (!true) = true then A else B := i_iteF h
theorem i_iteNF {A B : Prop} (h : A) : if (!false) = true then A else B := i_iteT h
theorem i_ite {c A B : Prop} [Decidable c] (h1 : c → A) (h2 : ¬ c → B) : if decide c = true then A else B := by
  by_cases h : c
  · rw [decide_eq_true h]; exact i_iteT (h1 h)
  · rw [decide_eq_false h]; exact i_iteF (h2 h)
theorem i_iteN {c A B : Prop} [Decidable c] (h1 : ¬ c → A) (h2 : c → B) : if (!decide c) = true then A else B := by
  by_cases h : c
  · rw [decide_eq_true h]; exact i_iteF (h2 h)
  · rw [decide_eq_false h]; exact i_iteT (h1 h)
theorem i_yes {c A B : Prop} [Decidable c] (h : c) (h1 : A) : if decide c = true then A else B := by rw [decide_eq_true h]; exact i_iteT h1
theorem i_nay {c A B : Prop} [Decidable c] (h : ¬ c) (h1 : B) : if decide c = true then A else B := by rw [decide_eq_false h]; exact i_iteF h1
theorem i_yesN {c A B : Prop} [Decidable c] (h : ¬ c) (h1 : A) : if (!decide c) = true then A else B := by rw [decide_eq_false h]; exact i_iteT h1
theorem i_nayN {c A B : Prop} [Decidable c] (h : c) (h1 : B) : if (!decide c) = true then A else B := by rw [decide_eq_true h]; exact i_iteF h1
/-! numbers -/
variable {a b : Nat} {i j : Int}
theorem i_addN (q : Q (natV (a + b)) H) : rAdd (natV a) (natV b) H Q := ⟨a, b, rfl, rfl, q⟩
theorem i_subN (h : b ≤ a) (q : Q (natV (a - b)) H) : rSub (natV a) (natV b) H Q := ⟨a, b, rfl, rfl, by
  have e : (a : Int) - (b : Int) = ((a - b : Nat) : Int) := by omega
  show Q (.int ((a : Int) - (b : Int))) H
  rw [e]; exact q⟩
theorem i_mulN (h : a < 2 ^ 64 ∨ b < 2 ^ 64) (q : Q (natV (a * b)) H) : rMul (natV a) (natV b) H Q := ⟨a, b, rfl, rfl, by
  rcases h with h | h
  · exact .inl ⟨by omega, by omega⟩
  · exact .inr ⟨by omega, by omega⟩, by
  show Q (.int ((a : Int) * (b : Int))) H
  rw [← Int.natCast_mul]; exact q⟩
theorem i_mulWN {m n : Nat} (h1 : a < 2 ^ m) (h2 : b < 2 ^ n) (h3 : 0 < m) (h4 : 0 < n) (h5 : m + n ≤ 1000000) (q : Q (natV (a * b)) H) : rMulW (natV a) (natV b) H Q := ⟨a, b, rfl, rfl, wide_mul (by simpa using h1) (by simpa using h2) h3 h4 h5, by
  show Q (.int ((a : Int) * (b : Int))) H
  rw [← Int.natCast_mul]; exact q⟩
theorem i_fdN (h : 0 < b) (h2 : b < 1073741824) (q : Q (natV (a / b)) H) : rFd (natV a) (natV b) H Q := ⟨a, b, rfl, rfl, ⟨by omega, by omega⟩, by
  show Q (.int ((a : Int) / (b : Int))) H
  rw [← Int.natCast_ediv]; exact q⟩
theorem i_mdN (h : 0 < b) (q : Q (natV (a % b)) H) : rMd (natV a) (natV b) H Q := ⟨a, b, rfl, rfl, by show (0 : Int) < (b : Int); omega, by
  show Q (.int ((a : Int) % (b : Int))) H
  rw [← Int.natCast_emod]; exact q⟩
/-- the rest of any whole number -/
theorem i_mdI (h : 0 < b) (q : ∀ n : Nat, n < b → Q (natV n) H) : rMd (.int i) (natV b) H Q := ⟨i, b, rfl, rfl, by show (0 : Int) < (b : Int); omega, by
  have h1 : 0 ≤ i % (b : Int) := Int.emod_nonneg _ (by omega)
  have h2 : i % (b : Int) < b := Int.emod_lt_of_pos _ (by omega)
  have e : i % (b : Int) = (((i % (b : Int)).toNat : Nat) : Int) := by omega
  show Q (.int (i % (b : Int))) H
  rw [e]; exact q _ (by omega)⟩
theorem i_ltN (q : Q (.bl (decide (a < b))) H) : rLt (natV a) (natV b) H Q := ⟨a, b, rfl, rfl, by
  have e : decide ((a : Int) < (b : Int)) = decide (a < b) := by congr 1; exact propext Int.ofNat_lt
  show Q (.bl (decide ((a : Int) < (b : Int)))) H
  rw [e]; exact q⟩
theorem i_leN (q : Q (.bl (decide (a ≤ b))) H) : rLe (natV a) (natV b) H Q := ⟨a, b, rfl, rfl, by
  have e : decide ((a : Int) ≤ (b : Int)) = decide (a ≤ b) := by congr 1; exact propext Int.ofNat_le
  show Q (.bl (decide ((a : Int) ≤ (b : Int)))) H
  rw [e]; exact q⟩
theorem i_gtN (q : Q (.bl (decide (b < a))) H) : rGt (natV a) (natV b) H Q := ⟨a, b, rfl, rfl, by
  have e : decide ((b : Int) < (a : Int)) = decide (b < a) := by congr 1; exact propext Int.ofNat_lt
  show Q (.bl (decide ((b : Int) < (a : Int)))) H
  rw [e]; exact q⟩
theorem i_geN (q : Q (.bl (decide (b ≤ a))) H) : rGe (natV a) (natV b) H Q := ⟨a, b, rfl, rfl, by
  have e : decide ((b : Int) ≤ (a : Int)) = decide (b ≤ a) := by congr 1; exact propext Int.ofNat_le
  show Q (.bl (decide ((b : Int) ≤ (a : Int)))) H
  rw [e]; exact q⟩
theorem natV_inj {a b : Nat} (h : natV a = natV b) : a = b := by
  have e : (a : Int) = (b : Int) := V.int.inj h
  omega
theorem i_eqN (q : Q (.bl (decide (a = b))) H) : rEq (natV a) (natV b) H Q := ⟨rfl, by
  have e : decide (natV a = natV b) = decide (a = b) := by congr 1; exact propext ⟨natV_inj, fun h => by rw [h]⟩
  rw [e]; exact q⟩
theorem i_neN (q : Q (.bl (!decide (a = b))) H) : rNe (natV a) (natV b) H Q := ⟨rfl, by
  have e : decide (natV a = natV b) = decide (a = b) := by congr 1; exact propext ⟨natV_inj, fun h => by rw [h]⟩
  rw [e]; exact q⟩
theorem i_ltI (q : Q (.bl (decide (i < j))) H) : rLt (.int i) (.int j) H Q := ⟨i, j, rfl, rfl, q⟩
theorem i_leI (q : Q (.bl (decide (i ≤ j))) H) : rLe (.int i) (.int j) H Q := ⟨i, j, rfl, rfl, q⟩
theorem i_gtI (q : Q (.bl (decide (j < i))) H) : rGt (.int i) (.int j) H Q := ⟨i, j, rfl, rfl, q⟩
theorem i_geI (q : Q (.bl (decide (j ≤ i))) H) : rGe (.int i) (.int j) H Q := ⟨i, j, rfl, rfl, q⟩
theorem i_gtIN (q : Q (.bl (decide ((a : Int) < i))) H) : rGt (.int i) (natV a) H Q := ⟨i, a, rfl, rfl, q⟩
theorem i_geIN (q : Q (.bl (decide ((a : Int) ≤ i))) H) : rGe (.int i) (natV a) H Q := ⟨i, a, rfl, rfl, q⟩
theorem i_ltIN (q : Q (.bl (decide (i < (a : Int)))) H) : rLt (.int i) (natV a) H Q := ⟨i, a, rfl, rfl, q⟩
theorem i_pwN (h : a < 2 ^ 64) (h2 : b ≤ 1000000) (q : Q (natV (a ^ b)) H) : rPw (natV a) (natV b) H Q := ⟨a, b, rfl, rfl, ⟨by omega, by omega, by simpa using h⟩, by
  show Q (.int ((a : Int) ^ (b : Int).toNat)) H
  rw [Int.toNat_natCast, ← Int.natCast_pow]; exact q⟩
theorem i_negN (q : Q (.int (-(a : Int))) H) : rNeg (natV a) H Q := ⟨a, rfl, q⟩
theorem i_bit {c : Bool} (q : Q (natV (if c then 1 else 0)) H) : rInt1 [.bl c] H Q := .inr ⟨c, rfl, by cases c <;> exact q⟩
/-! sequences -/
variable {p : Addr} {xs ys : List V}
theorem i_ixL (h : SqL K H p xs) (e : xs[a]? = some v) (q : Q v H) : rIxL K (.ref p) (natV a) H Q := ⟨p, xs, a, v, rfl, rfl, h, atI_nat e, q⟩
theorem i_ixT (h : SqT K H p xs) (e : xs[a]? = some v) (q : Q v H) : rIxT K (.ref p) (natV a) H Q := ⟨p, xs, a, v, rfl, rfl, h, atI_nat e, q⟩
theorem i_ixTlast (h : SqT K H p (xs ++ [v])) (q : Q v H) : rIxT K (.ref p) (.int (-1)) H Q := ⟨p, _, -1, v, rfl, rfl, h, atI_last _ _, q⟩
theorem i_lenL (h : SqL K H p xs) (q : Q (natV xs.length) H) : rLen K [.ref p] H Q := ⟨p, xs, rfl, .inl h, q⟩
theorem i_lenT (h : SqT K H p xs) (q : Q (natV xs.length) H) : rLen K [.ref p] H Q := ⟨p, xs, rfl, .inr h, q⟩
theorem ixN_nat {n k : Nat} (h : k < n) : ixN n (k : Int) = some k := by
  unfold ixN
  rw [if_pos (by omega), if_pos (by omega)]; simp
theorem i_setL {QH : Hp → Prop} (h : H p = some (.lst xs)) (hk : a < xs.length) (q : QH (upd H p (.lst (xs.set a v)))) : rSetL (.ref p) (natV a) v H QH := ⟨p, xs, a, a, rfl, rfl, h, ixN_nat hk, q⟩
theorem i_append (h : H p = some (.lst xs)) (hz : xs.length ≤ 100000) (q : Q .non (upd H p (.lst (xs ++ [v])))) :
    tyV K "list" (.ref p) H ∧ rAppend (.ref p) [v] H Q := ⟨.inl ⟨rfl, xs, sql h⟩, p, xs, v, rfl, rfl, h, Nat.lt_of_le_of_lt hz (by decide), q⟩
theorem i_ty {A : Prop} (h : H p = some (.lst xs)) (q : A) : tyV K "list" (.ref p) H ∧ A := ⟨.inl ⟨rfl, xs, sql h⟩, q⟩
theorem i_app (h : H p = some (.lst xs)) (hz : xs.length ≤ 100000) (q : Q .non (upd H p (.lst (xs ++ [v])))) : rAppend (.ref p) [v] H Q := ⟨p, xs, v, rfl, rfl, h, Nat.lt_of_le_of_lt hz (by decide), q⟩
theorem i_pop0 (h : H p = some (.lst (v :: xs))) (q : Q v (upd H p (.lst xs))) : rPopAt (.ref p) [natV 0] H Q :=
  ⟨p, v :: xs, 0, 0, v, rfl, rfl, h, by decide, by decide, by
    show seqIndex? 0 (xs.length + 1) = some 0
    have := (ixN_seq (n := xs.length + 1) (i := 0) (j := 0) (by unfold ixN; rw [if_pos (by decide), if_pos (by omega)]; rfl)).1
    exact this, rfl, q⟩
theorem szl {n : Nat} (h : n ≤ 100000) : n ≤ sizeLine := Nat.le_trans h (by decide)
theorem i_tupOfL (h : SqL K H p ys) (q : ∀ p H2, Same H H2 → SqT K H2 p ys → Q (.ref p) H2) : rTupN K [.ref p] H Q := ⟨p, ys, rfl, .inl h, q⟩
theorem i_tupOfT (h : SqT K H p ys) (q : ∀ p H2, Same H H2 → SqT K H2 p ys → Q (.ref p) H2) : rTupN K [.ref p] H Q := ⟨p, ys, rfl, .inr h, q⟩
theorem i_listOfL (h : SqL K H p ys) (q : ∀ p H2, H p = none → Same H H2 → H2 p = some (.lst ys) → Q (.ref p) H2) : rListN K [.ref p] H Q := ⟨p, ys, rfl, .inl h, q⟩
theorem i_listOfT (h : SqT K H p ys) (q : ∀ p H2, H p = none → Same H H2 → H2 p = some (.lst ys) → Q (.ref p) H2) : rListN K [.ref p] H Q := ⟨p, ys, rfl, .inr h, q⟩
theorem i_cat {p2 : Addr} (h : SqT K H p xs) (h2 : SqT K H p2 ys) (hz : xs.length + ys.length ≤ 100000) (q : ∀ p H2, Same H H2 → SqT K H2 p (xs ++ ys) → Q (.ref p) H2) : rCatN K (.ref p) (.ref p2) H Q := ⟨p, p2, xs, ys, rfl, rfl, h, h2, szl hz, q⟩
theorem i_catL {p2 : Addr} (h : H p = some (.lst xs)) (h2 : H p2 = some (.lst ys)) (hz : xs.length + ys.length ≤ 100000) (q : ∀ p H2, H p = none → Same H H2 → H2 p = some (.lst (xs ++ ys)) → Q (.ref p) H2) : rCatLN K (.ref p) (.ref p2) H Q := ⟨p, p2, xs, ys, rfl, rfl, h, h2, szl hz, q⟩
theorem i_slT {lo hi : Option Int} (h : SqT K H p xs) (q : ∀ p H2, Same H H2 → SqT K H2 p (cutV xs lo hi) → Q (.ref p) H2) : rSlN K (.ref p) lo hi H Q := ⟨p, xs, rfl, h, q⟩
theorem i_slL {lo hi : Option Int} (h : SqL K H p xs) (q : ∀ p H2, H p = none → Same H H2 → H2 p = some (.lst (cutV xs lo hi)) → Q (.ref p) H2) : rSlLN K (.ref p) lo hi H Q := ⟨p, xs, rfl, h, q⟩
theorem cutV_to {n : Nat} : cutV xs none (some (n : Int)) = xs.take n := by
  unfold cutV
  rw [HT.sIx_none, HT.sIx_nat, List.drop_zero, Nat.sub_zero]
  by_cases h : n ≤ xs.length
  · rw [Nat.min_eq_left h]
  · rw [Nat.min_eq_right (by omega), List.take_length, List.take_of_length_le (by omega)]
theorem cutV_from {n : Nat} : cutV xs (some (n : Int)) none = xs.drop n := by
  unfold cutV
  rw [HT.sIx_none, HT.sIx_nat]
  by_cases h : n ≤ xs.length
  · rw [Nat.min_eq_left h, List.take_of_length_le (by rw [List.length_drop]; omega)]
  · rw [Nat.min_eq_right (by omega), List.drop_length, List.drop_of_length_le (by omega), List.take_nil]
end

/-! loops -/
section
variable {K : PySem.W.Frag} {σ : L2.St} {H : Hp} {D : Ends} {tb : TS} {g : TG} {c : TT}
theorem i_for {wi : TI} (q : wi σ H fun J H1 => ∃ W : Nat → Nat → L2.St → Hp → Prop, (∃ m, W 0 m σ H1) ∧ ∀ i m σ H, W i m σ H →
    (J.stop i H ∧ D.nx σ H) ∨ (J.go i H ∧ ∃ N : L2.St → Hp → Prop, (∀ σ' H', N σ' H' → ∃ m', m' < m ∧ W (i + 1) m' σ' H') ∧ ∀ x H', J.yld i H x H' → g x σ H' fun σ2 H2 => tb { D with nx := N, ct := N, bk := D.nx } σ2 H2)) : tFor wi g tb D σ H := q
theorem i_iTup {tl : TE} {R : It → Hp → Prop} (q : tl σ H fun x H1 => ∃ a, x = .ref a ∧ (∃ xs, SqT K H1 a xs) ∧ R (Itt K a) H1) : iTup K tl σ H R := q
theorem i_iList {tl : TE} {R : It → Hp → Prop} (q : tl σ H fun x H1 => ∃ a, x = .ref a ∧ (∃ xs, SqL K H1 a xs) ∧ R (Itl K a) H1) : iList K tl σ H R := q
theorem i_iRng1 {ta : TA} {R : It → Hp → Prop} (q : ta σ H fun vs H1 => ∃ j : Int, vs = [.int j] ∧ -(2 ^ 62) ≤ j ∧ j < 2 ^ 62 ∧ R (Itr 0 j.toNat) H1) : iRng1 ta σ H R := q
theorem i_iRng2 {ta : TA} {R : It → Hp → Prop} (q : ta σ H fun vs H1 => ∃ i j : Int, vs = [.int i, .int j] ∧ (-(2 ^ 62) ≤ i ∧ i < 2 ^ 62 ∧ -(2 ^ 62) ≤ j ∧ j < 2 ^ 62) ∧ R (Itr i (j - i).toNat) H1) : iRng2 ta σ H R := q
theorem l_tup {a : Addr} {xs : List V} (h : SqT K H a xs) (Pv : Nat → L2.St → Hp → Prop) (h0 : Pv 0 σ H) (hl : ∀ i σ H, i ≤ xs.length → Pv i σ H → SqT K H a xs) (hs : ∀ i x σ H, xs[i]? = some x → Pv i σ H → g x σ H fun σ2 H2 => tb { D with nx := Pv (i + 1), ct := Pv (i + 1), bk := D.nx } σ2 H2) (hd : ∀ σ H, Pv xs.length σ H → D.nx σ H) :
    ∃ a', V.ref a = .ref a' ∧ (∃ xs, SqT K H a' xs) ∧ ∃ W : Nat → Nat → L2.St → Hp → Prop, (∃ m, W 0 m σ H) ∧ ∀ i m σ H, W i m σ H →
    ((Itt K a').stop i H ∧ D.nx σ H) ∨ ((Itt K a').go i H ∧ ∃ N : L2.St → Hp → Prop, (∀ σ' H', N σ' H' → ∃ m', m' < m ∧ W (i + 1) m' σ' H') ∧ ∀ x H', (Itt K a').yld i H x H' → g x σ H' fun σ2 H2 => tb { D with nx := N, ct := N, bk := D.nx } σ2 H2) :=
  ⟨a, rfl, ⟨xs, h⟩, for_tup Pv h0 hl hs hd⟩
theorem l_list {a : Addr} {xs : List V} (h : SqL K H a xs) (Pv : Nat → L2.St → Hp → Prop) (h0 : Pv 0 σ H) (hl : ∀ i σ H, i ≤ xs.length → Pv i σ H → SqL K H a xs) (hs : ∀ i x σ H, xs[i]? = some x → Pv i σ H → g x σ H fun σ2 H2 => tb { D with nx := Pv (i + 1), ct := Pv (i + 1), bk := D.nx } σ2 H2) (hd : ∀ σ H, Pv xs.length σ H → D.nx σ H) :
    ∃ a', V.ref a = .ref a' ∧ (∃ xs, SqL K H a' xs) ∧ ∃ W : Nat → Nat → L2.St → Hp → Prop, (∃ m, W 0 m σ H) ∧ ∀ i m σ H, W i m σ H →
    ((Itl K a').stop i H ∧ D.nx σ H) ∨ ((Itl K a').go i H ∧ ∃ N : L2.St → Hp → Prop, (∀ σ' H', N σ' H' → ∃ m', m' < m ∧ W (i + 1) m' σ' H') ∧ ∀ x H', (Itl K a').yld i H x H' → g x σ H' fun σ2 H2 => tb { D with nx := N, ct := N, bk := D.nx } σ2 H2) :=
  ⟨a, rfl, ⟨xs, h⟩, for_list Pv h0 hl hs hd⟩
theorem l_rng1 {n : Nat} (hn : n < 2 ^ 62) (Pv : Nat → L2.St → Hp → Prop) (h0 : Pv 0 σ H)
    (hs : ∀ i σ H, i < n → Pv i σ H → g (natV i) σ H fun σ2 H2 => tb { D with nx := Pv (i + 1), ct := Pv (i + 1), bk := D.nx } σ2 H2) (hd : ∀ σ H, Pv n σ H → D.nx σ H) :
    ∃ j : Int, [natV n] = [V.int j] ∧ -(2 ^ 62) ≤ j ∧ j < 2 ^ 62 ∧ ∃ W : Nat → Nat → L2.St → Hp → Prop, (∃ m, W 0 m σ H) ∧ ∀ i m σ H, W i m σ H →
    ((Itr 0 j.toNat).stop i H ∧ D.nx σ H) ∨ ((Itr 0 j.toNat).go i H ∧ ∃ N : L2.St → Hp → Prop, (∀ σ' H', N σ' H' → ∃ m', m' < m ∧ W (i + 1) m' σ' H') ∧ ∀ x H', (Itr 0 j.toNat).yld i H x H' → g x σ H' fun σ2 H2 => tb { D with nx := N, ct := N, bk := D.nx } σ2 H2) := by
  refine ⟨(n : Int), rfl, by omega, by omega, ?_⟩
  rw [Int.toNat_natCast]
  refine for_range Pv h0 (fun i σ H hi p => ?_) hd
  rw [Int.zero_add]
  exact hs i σ H hi p
theorem l_rng2 {a n : Nat} (han : a ≤ n) (hn : n < 2 ^ 62) (Pv : Nat → L2.St → Hp → Prop) (h0 : Pv 0 σ H)
    (hs : ∀ i σ H, a + i < n → Pv i σ H → g (natV (a + i)) σ H fun σ2 H2 => tb { D with nx := Pv (i + 1), ct := Pv (i + 1), bk := D.nx } σ2 H2) (hd : ∀ σ H, Pv (n - a) σ H → D.nx σ H) :
    ∃ i j : Int, [natV a, natV n] = [V.int i, V.int j] ∧ (-(2 ^ 62) ≤ i ∧ i < 2 ^ 62 ∧ -(2 ^ 62) ≤ j ∧ j < 2 ^ 62) ∧ ∃ W : Nat → Nat → L2.St → Hp → Prop, (∃ m, W 0 m σ H) ∧ ∀ k m σ H, W k m σ H →
    ((Itr i (j - i).toNat).stop k H ∧ D.nx σ H) ∨ ((Itr i (j - i).toNat).go k H ∧ ∃ N : L2.St → Hp → Prop, (∀ σ' H', N σ' H' → ∃ m', m' < m ∧ W (k + 1) m' σ' H') ∧ ∀ x H', (Itr i (j - i).toNat).yld k H x H' → g x σ H' fun σ2 H2 => tb { D with nx := N, ct := N, bk := D.nx } σ2 H2) := by
  refine ⟨(a : Int), (n : Int), rfl, ⟨by omega, by omega, by omega, by omega⟩, ?_⟩
  rw [show ((n : Int) - (a : Int)).toNat = n - a by omega]
  refine for_range Pv h0 (fun i σ H hi p => ?_) hd
  have := hs i σ H (by omega) p
  exact this
theorem l_while (W : Nat → L2.St → Hp → Prop) (m : Nat) (h0 : W m σ H) (hs : ∀ m σ H, W m σ H → c σ H fun b H1 => if b = true then tb { D with nx := fun σ' H' => ∃ m', m' < m ∧ W m' σ' H', ct := fun σ' H' => ∃ m', m' < m ∧ W m' σ' H', bk := D.nx } σ H1 else D.nx σ H1)
    (mono : ∀ σ H (Q Q' : Bool → Hp → Prop), (∀ b H1, Q b H1 → Q' b H1) → c σ H Q → c σ H Q') : tWhile c tb D σ H := by
  refine ⟨W, ⟨m, h0⟩, fun m σ H w => mono σ H _ _ (fun b H1 q => ?_) (hs m σ H w)⟩
  cases b with
  | true => exact ⟨_, fun _ _ h => h, q⟩
  | false => exact q
/-- the body in the test's own words -/
theorem l_whileN (W : Nat → L2.St → Hp → Prop) (m : Nat) (h0 : W m σ H) (hs : ∀ m σ H, W m σ H → c σ H fun b H1 => if b = true then ∃ N : L2.St → Hp → Prop, (∀ σ' H', N σ' H' → ∃ m', m' < m ∧ W m' σ' H') ∧ tb { D with nx := N, ct := N, bk := D.nx } σ H1 else D.nx σ H1) : tWhile c tb D σ H := ⟨W, ⟨m, h0⟩, hs⟩
theorem l_turn {W : Nat → L2.St → Hp → Prop} {m : Nat} (q : tb { D with nx := fun σ' H' => ∃ m', m' < m ∧ W m' σ' H', ct := fun σ' H' => ∃ m', m' < m ∧ W m' σ' H', bk := D.nx } σ H) :
    ∃ N : L2.St → Hp → Prop, (∀ σ' H', N σ' H' → ∃ m', m' < m ∧ W m' σ' H') ∧ tb { D with nx := N, ct := N, bk := D.nx } σ H := ⟨_, fun _ _ h => h, q⟩
theorem i_tupRev {te : TE} {Q : VK} (q : te σ H fun x H1 => ∃ a xs, x = .ref a ∧ SqL K H1 a xs ∧ ∀ p H2, Same H1 H2 → SqT K H2 p xs.reverse → Q (.ref p) H2) : tTupRevN K te σ H Q := q
theorem i_revL {te : TE} {Q : VK} (q : te σ H fun x H1 => ∃ a xs, x = .ref a ∧ SqL K H1 a xs ∧ ∀ p H2, H1 p = none → Same H1 H2 → H2 p = some (.lst xs.reverse) → Q (.ref p) H2) : tRevLN K te σ H Q := q
theorem i_exseq {a : Addr} {xs : List V} {A : Addr → List V → Prop} (h : SqL K H a xs) (q : A a xs) : ∃ a' xs', V.ref a = .ref a' ∧ SqL K H a' xs' ∧ A a' xs' := ⟨a, xs, rfl, h, q⟩
/-! list comprehensions: their wish is told behind the list's own end -/
def LcTurn (D : Addr) (g : TG) (tt : TT) (te : TE) (vs : List Nat) (σ : L2.St) (P : Hp → Prop) (x : V) (H' : Hp) : Prop :=
  g x (wipe σ vs) H' fun σ2 H2 => wipe σ2 vs = wipe σ vs ∧ tt σ2 H2 fun b H3 => if b = true then te σ2 H3 fun y H4 => ∃ acc, H4 D = some (.lst acc) ∧ acc.length < sizeLine ∧ P (upd H4 D (.lst (acc ++ [y]))) else P H3
def tLcR (ta : TA) (g : TG) (tt : TT) (te : TE) (vs : List Nat) : TE := fun σ H Q => ta σ H fun us H1 => ∃ n : Nat, us = [natV n] ∧ n < 2 ^ 62 ∧ ∀ D, H1 D = none → ∃ Pv : Nat → Hp → Prop, Pv 0 (upd H1 D (.lst [])) ∧
  (∀ i H', i < n → Pv i H' → LcTurn D g tt te vs σ (Pv (i + 1)) (natV i) H') ∧ ∀ H', Pv n H' → Q (.ref D) H'
def tLcL (K : PySem.W.Frag) (tl : TE) (g : TG) (tt : TT) (te : TE) (vs : List Nat) : TE := fun σ H Q => tl σ H fun u H1 => ∃ a xs, u = .ref a ∧ SqL K H1 a xs ∧ ∀ D, H1 D = none → ∃ Pv : Nat → Hp → Prop, Pv 0 (upd H1 D (.lst [])) ∧
  (∀ i H', i ≤ xs.length → Pv i H' → SqL K H' a xs) ∧ (∀ i x H', xs[i]? = some x → Pv i H' → LcTurn D g tt te vs σ (Pv (i + 1)) x H') ∧ ∀ H', Pv xs.length H' → Q (.ref D) H'
def tLcT (K : PySem.W.Frag) (tl : TE) (g : TG) (tt : TT) (te : TE) (vs : List Nat) : TE := fun σ H Q => tl σ H fun u H1 => ∃ a xs, u = .ref a ∧ SqT K H1 a xs ∧ ∀ D, H1 D = none → ∃ Pv : Nat → Hp → Prop, Pv 0 (upd H1 D (.lst [])) ∧
  (∀ i H', i ≤ xs.length → Pv i H' → SqT K H' a xs) ∧ (∀ i x H', xs[i]? = some x → Pv i H' → LcTurn D g tt te vs σ (Pv (i + 1)) x H') ∧ ∀ H', Pv xs.length H' → Q (.ref D) H'
section
variable {X : Cx} {tg : Expr} {ta : TA} {tl : TE} {tt : TT} {te : TE} {vs : List Nat} {Q : VK}
theorem lcR_of (q : tLcR ta g tt te vs σ H Q) : tLc (iRng1 (wkA ta)) g tt te vs σ H Q := ⟨_, q, fun us H1 ⟨n, e, hn, k⟩ => by
  subst e
  refine ⟨(n : Int), rfl, by omega, by omega, fun D hD => ?_⟩
  rw [Int.toNat_natCast]
  obtain ⟨Pv, h0, hs, hd⟩ := k D hD
  refine lc_range Pv h0 (fun i H' hi p => ?_) hd
  rw [Int.zero_add]
  exact hs i H' hi p⟩
theorem lcL_of (q : tLcL K tl g tt te vs σ H Q) : tLc (iList K (wkE tl)) g tt te vs σ H Q := ⟨_, q, fun us H1 ⟨a, xs, e, hx, k⟩ => by
  subst e
  refine ⟨a, rfl, ⟨xs, hx⟩, fun D hD => ?_⟩
  obtain ⟨Pv, h0, hl, hs, hd⟩ := k D hD
  exact lc_list Pv h0 hl hs hd⟩
theorem lcT_of (q : tLcT K tl g tt te vs σ H Q) : tLc (iTup K (wkE tl)) g tt te vs σ H Q := ⟨_, q, fun us H1 ⟨a, xs, e, hx, k⟩ => by
  subst e
  refine ⟨a, rfl, ⟨xs, hx⟩, fun D hD => ?_⟩
  obtain ⟨Pv, h0, hl, hs, hd⟩ := k D hD
  exact lc_tup Pv h0 hl hs hd⟩
theorem PS.imp {st : Stmt} {t t' : TS} (h : PS X st t) (i : ∀ D σ H, t' D σ H → t D σ H) : PS X st t' := ⟨fun pins s σ H D I q => h.run pins s σ H D I (i D σ H q)⟩
end
theorem i_lcR {ta : TA} {tt : TT} {te : TE} {vs : List Nat} {Q : VK} (q : ta σ H fun us H1 => ∃ n : Nat, us = [natV n] ∧ n < 2 ^ 62 ∧ ∀ D, H1 D = none → ∃ Pv : Nat → Hp → Prop, Pv 0 (upd H1 D (.lst [])) ∧
  (∀ i H', i < n → Pv i H' → LcTurn D g tt te vs σ (Pv (i + 1)) (natV i) H') ∧ ∀ H', Pv n H' → Q (.ref D) H') : tLcR ta g tt te vs σ H Q := q
theorem i_lcL {tl : TE} {tt : TT} {te : TE} {vs : List Nat} {Q : VK} (q : tl σ H fun u H1 => ∃ a xs, u = .ref a ∧ SqL K H1 a xs ∧ ∀ D, H1 D = none → ∃ Pv : Nat → Hp → Prop, Pv 0 (upd H1 D (.lst [])) ∧
  (∀ i H', i ≤ xs.length → Pv i H' → SqL K H' a xs) ∧ (∀ i x H', xs[i]? = some x → Pv i H' → LcTurn D g tt te vs σ (Pv (i + 1)) x H') ∧ ∀ H', Pv xs.length H' → Q (.ref D) H') : tLcL K tl g tt te vs σ H Q := q
theorem i_lcT {tl : TE} {tt : TT} {te : TE} {vs : List Nat} {Q : VK} (q : tl σ H fun u H1 => ∃ a xs, u = .ref a ∧ SqT K H1 a xs ∧ ∀ D, H1 D = none → ∃ Pv : Nat → Hp → Prop, Pv 0 (upd H1 D (.lst [])) ∧
  (∀ i H', i ≤ xs.length → Pv i H' → SqT K H' a xs) ∧ (∀ i x H', xs[i]? = some x → Pv i H' → LcTurn D g tt te vs σ (Pv (i + 1)) x H') ∧ ∀ H', Pv xs.length H' → Q (.ref D) H') : tLcT K tl g tt te vs σ H Q := q
theorem i_lct {D : Addr} {tt : TT} {te : TE} {vs : List Nat} {P : Hp → Prop} {x : V} (q : g x (wipe σ vs) H fun σ2 H2 => wipe σ2 vs = wipe σ vs ∧ tt σ2 H2 fun b H3 => if b = true then te σ2 H3 fun y H4 => ∃ acc, H4 D = some (.lst acc) ∧ acc.length < sizeLine ∧ P (upd H4 D (.lst (acc ++ [y]))) else P H3) :
  LcTurn D g tt te vs σ P x H := q
theorem i_yes1 {QB : Bool → Hp → Prop} (q : QB true H) : tYes σ H QB := q
theorem i_lcg {A : Prop} {σ2 : L2.St} {vs : List Nat} (q : A) (e : wipe σ2 vs = wipe σ vs := by rfl) : wipe σ2 vs = wipe σ vs ∧ A := ⟨e, q⟩
theorem i_lcput {D : Addr} {acc : List V} {P : List V → Prop} (h : H D = some (.lst acc)) (hz : acc.length ≤ 100000) (q : P acc) : ∃ acc, H D = some (.lst acc) ∧ acc.length < sizeLine ∧ P acc := ⟨acc, h, Nat.lt_of_le_of_lt hz (by decide), q⟩
end
end Sx
end
section
/-! figures to sixty -/
namespace Sx
open PySem L2
/-- the number that figures tell -/
def whole (r : List Nat) : Nat := r.foldl (fun a d => a * 60 + d) 0
/-- figures, ones first -/
def figsF : Nat → Nat → List Nat
  | 0, _ => []
  | f + 1, n => if n = 0 then [] else n % 60 :: figsF f (n / 60)
def stripF : Nat → Nat → Nat
  | 0, n => n
  | f + 1, n => if n % 60 = 0 then stripF f (n / 60) else n
def figsL (n : Nat) : List Nat := figsF n n
def figs (n : Nat) : List Nat := (figsL n).reverse
def strip (n : Nat) : Nat := stripF n n
def rowOf (n : Nat) : List Nat := figs (strip n)
structure IsRow (r : List Nat) : Prop where
  len : 1 ≤ r.length ∧ r.length ≤ 12
  fig : ∀ d ∈ r, d < 60
  hd : r[0]? ≠ some 0
  last : r.getLast? ≠ some 0

theorem figsF_more : ∀ (f g n : Nat), n ≤ f → n ≤ g → figsF f n = figsF g n
  | 0, 0, _, _, _ => rfl
  | 0, g + 1, n, h, _ => by
    have : n = 0 := by omega
    subst this
    simp [figsF]
  | f + 1, 0, n, _, h => by
    have : n = 0 := by omega
    subst this
    simp [figsF]
  | f + 1, g + 1, n, h1, h2 => by
    unfold figsF
    by_cases h : n = 0
    · rw [if_pos h, if_pos h]
    · rw [if_neg h, if_neg h, figsF_more f g (n / 60) (by omega) (by omega)]
theorem figsL_zero : figsL 0 = [] := rfl
theorem figsL_pos {n : Nat} (h : 0 < n) : figsL n = n % 60 :: figsL (n / 60) := by
  unfold figsL
  rw [show n = (n - 1) + 1 by omega]
  show (if n - 1 + 1 = 0 then [] else _) = _
  rw [if_neg (by omega)]
  congr 1
  exact figsF_more _ _ _ (by omega) (by omega)
theorem figsL_lt (n : Nat) : ∀ d ∈ figsL n, d < 60 := by
  induction n using Nat.strongRecOn with
  | ind n ih =>
    by_cases h : n = 0
    · subst h; simp [figsL_zero]
    · rw [figsL_pos (by omega)]
      intro d hd
      rcases List.mem_cons.mp hd with rfl | hd
      · omega
      · exact ih (n / 60) (by omega) d hd
theorem figsL_len : ∀ (k n : Nat), n < 60 ^ k → (figsL n).length ≤ k
  | 0, n, h => by
    have : n = 0 := by simpa using h
    subst this; simp [figsL_zero]
  | k + 1, n, h => by
    by_cases h0 : n = 0
    · subst h0; simp [figsL_zero]
    · rw [figsL_pos (by omega), List.length_cons]
      have := figsL_len k (n / 60) (by rw [Nat.pow_succ] at h; omega)
      omega
def wholeL : List Nat → Nat
  | [] => 0
  | d :: r => d + 60 * wholeL r
theorem whole_append (r : List Nat) (d : Nat) : whole (r ++ [d]) = whole r * 60 + d := by
  unfold whole; rw [List.foldl_append]; rfl
theorem whole_rev : ∀ l : List Nat, whole l.reverse = wholeL l
  | [] => rfl
  | d :: r => by
    rw [List.reverse_cons, whole_append, whole_rev r]
    show wholeL r * 60 + d = d + 60 * wholeL r
    omega
theorem wholeL_figs (n : Nat) : wholeL (figsL n) = n := by
  induction n using Nat.strongRecOn with
  | ind n ih =>
    by_cases h : n = 0
    · subst h; rfl
    · rw [figsL_pos (by omega)]
      show n % 60 + 60 * wholeL (figsL (n / 60)) = n
      rw [ih (n / 60) (by omega)]; omega
theorem whole_figs (n : Nat) : whole (figs n) = n := by rw [figs, whole_rev, wholeL_figs]
theorem wholeL_pos : ∀ {l : List Nat}, l ≠ [] → l.getLast? ≠ some 0 → 0 < wholeL l
  | [], h, _ => absurd rfl h
  | [d], _, h => by
    have : d ≠ 0 := fun e => h (by rw [e]; rfl)
    show 0 < d + 60 * 0
    omega
  | d :: e :: r, _, h => by
    have := wholeL_pos (l := e :: r) (by simp) (by rw [List.getLast?_cons_cons] at h; exact h)
    show 0 < d + 60 * wholeL (e :: r)
    omega
theorem figsL_wholeL : ∀ {l : List Nat}, (∀ d ∈ l, d < 60) → l.getLast? ≠ some 0 → figsL (wholeL l) = l
  | [], _, _ => rfl
  | [d], hl, h => by
    have h0 : d ≠ 0 := fun e => h (by rw [e]; rfl)
    have h1 := hl d (by simp)
    show figsL (d + 60 * 0) = [d]
    rw [show d + 60 * 0 = d by omega, figsL_pos (by omega), show d / 60 = 0 by omega, show d % 60 = d by omega, figsL_zero]
  | d :: e :: r, hl, h => by
    have h1 := hl d (by simp)
    have ih := figsL_wholeL (l := e :: r) (fun x hx => hl x (List.mem_cons_of_mem _ hx)) (by rw [List.getLast?_cons_cons] at h; exact h)
    have hp := wholeL_pos (l := e :: r) (by simp) (by rw [List.getLast?_cons_cons] at h; exact h)
    show figsL (d + 60 * wholeL (e :: r)) = _
    rw [figsL_pos (by omega), show (d + 60 * wholeL (e :: r)) / 60 = wholeL (e :: r) by omega, show (d + 60 * wholeL (e :: r)) % 60 = d by omega, ih]
theorem head_rev {α : Type} (l : List α) : l.reverse.getLast? = l[0]? := by
  rw [List.getLast?_reverse, List.head?_eq_getElem?]
theorem whole_eq (r : List Nat) : whole r = wholeL r.reverse := by
  rw [← whole_rev, List.reverse_reverse]
theorem figs_whole {r : List Nat} (h1 : ∀ d ∈ r, d < 60) (h2 : r[0]? ≠ some 0) : figs (whole r) = r := by
  rw [figs, whole_eq, figsL_wholeL (fun d hd => h1 d (List.mem_reverse.mp hd)) (by rw [head_rev]; exact h2), List.reverse_reverse]
theorem whole_pos {r : List Nat} (h1 : r ≠ []) (h2 : r[0]? ≠ some 0) : 0 < whole r := by
  rw [whole_eq]
  exact wholeL_pos (by simpa using h1) (by rw [head_rev]; exact h2)
theorem whole_last {r : List Nat} (h1 : ∀ d ∈ r, d < 60) (h2 : r ≠ []) (h : r.getLast? ≠ some 0) : whole r % 60 ≠ 0 := by
  have e := List.dropLast_concat_getLast h2
  rw [← e, whole_append]
  have hl := h1 _ (List.getLast_mem h2)
  have hn : r.getLast h2 ≠ 0 := fun z => h (by rw [List.getLast?_eq_getLast h2, z])
  omega
theorem whole_lt : ∀ {k : Nat} {r : List Nat}, (∀ d ∈ r, d < 60) → r.length ≤ k → whole r < 60 ^ k := by
  intro k r h1 h2
  rw [whole_eq]
  have key : ∀ (l : List Nat) (k : Nat), (∀ d ∈ l, d < 60) → l.length ≤ k → wholeL l < 60 ^ k := by
    intro l
    induction l with
    | nil => intro k _ _; exact Nat.pos_of_ne_zero (by simp)
    | cons d r ih =>
      intro k hd hk
      cases k with
      | zero => simp at hk
      | succ k =>
        have := ih k (fun x hx => hd x (List.mem_cons_of_mem _ hx)) (by simpa using hk)
        have h0 := hd d (by simp)
        show d + 60 * wholeL r < 60 ^ (k + 1)
        rw [Nat.pow_succ]; omega
  exact key _ _ (fun d hd => h1 d (List.mem_reverse.mp hd)) (by simpa using h2)
/-! strip -/
theorem stripF_more : ∀ (f g n : Nat), 0 < n → n ≤ f → n ≤ g → stripF f n = stripF g n
  | 0, _, n, h, h1, _ => by omega
  | _ + 1, 0, n, h, _, h2 => by omega
  | f + 1, g + 1, n, h, h1, h2 => by
    unfold stripF
    by_cases e : n % 60 = 0
    · rw [if_pos e, if_pos e, stripF_more f g (n / 60) (by omega) (by omega) (by omega)]
    · rw [if_neg e, if_neg e]
theorem strip_yes {n : Nat} (h : 0 < n) (e : n % 60 = 0) : strip n = strip (n / 60) := by
  unfold strip
  rw [show n = (n - 1) + 1 by omega]
  show (if (n - 1 + 1) % 60 = 0 then _ else _) = _
  rw [if_pos (by rw [show n - 1 + 1 = n by omega]; exact e)]
  exact stripF_more _ _ _ (by omega) (by omega) (by omega)
theorem strip_no {n : Nat} (h : 0 < n) (e : n % 60 ≠ 0) : strip n = n := by
  unfold strip
  rw [show n = (n - 1) + 1 by omega]
  show (if (n - 1 + 1) % 60 = 0 then _ else _) = _
  rw [if_neg (by rw [show n - 1 + 1 = n by omega]; exact e)]
theorem strip_spec (n : Nat) (h : 0 < n) : 0 < strip n ∧ strip n % 60 ≠ 0 ∧ ∃ k, n = strip n * 60 ^ k := by
  induction n using Nat.strongRecOn with
  | ind n ih =>
    by_cases e : n % 60 = 0
    · rw [strip_yes h e]
      obtain ⟨h1, h2, k, h3⟩ := ih (n / 60) (by omega) (by omega)
      refine ⟨h1, h2, k + 1, ?_⟩
      rw [Nat.pow_succ, ← Nat.mul_assoc, ← h3]; omega
    · rw [strip_no h e]
      exact ⟨h, e, 0, by simp⟩
theorem strip_le {n : Nat} (h : 0 < n) : strip n ≤ n := by
  obtain ⟨_, _, k, e⟩ := strip_spec n h
  have : 0 < 60 ^ k := Nat.pos_of_ne_zero (by simp)
  calc strip n = strip n * 1 := by omega
    _ ≤ strip n * 60 ^ k := Nat.mul_le_mul_left _ this
    _ = n := e.symm
theorem rowOf_whole {r : List Nat} (h : IsRow r) : rowOf (whole r) = r := by
  have hne : r ≠ [] := by
    rintro rfl
    have := h.len.1
    simp at this
  rw [rowOf, strip_no (whole_pos hne h.hd) (whole_last h.fig hne h.last), figs_whole h.fig h.hd]
theorem figs_head {n : Nat} (h : 0 < n) : (figs n)[0]? ≠ some 0 := by
  rw [figs, ← List.head?_eq_getElem?, List.head?_reverse]
  have key : ∀ n : Nat, 0 < n → (figsL n).getLast? ≠ some 0 := by
    intro n
    induction n using Nat.strongRecOn with
    | ind n ih =>
      intro hp
      rw [figsL_pos hp]
      by_cases h0 : n / 60 = 0
      · rw [h0, figsL_zero]
        intro e
        have : n % 60 = 0 := Option.some.inj e
        omega
      · have hq := ih (n / 60) (by omega) (by omega)
        rw [figsL_pos (n := n / 60) (by omega)] at hq ⊢
        rw [List.getLast?_cons_cons]
        exact hq
  exact key n h
theorem figs_last {n : Nat} (h : 0 < n) (e : n % 60 ≠ 0) : (figs n).getLast? ≠ some 0 := by
  rw [figs, head_rev, figsL_pos h]
  intro z
  exact e (Option.some.inj z)
theorem figs_lt (n : Nat) : ∀ d ∈ figs n, d < 60 := fun d hd => figsL_lt n d (List.mem_reverse.mp hd)
theorem figs_len {k n : Nat} (h : n < 60 ^ k) : (figs n).length ≤ k := by
  rw [figs, List.length_reverse]; exact figsL_len k n h
theorem figs_len1 {n : Nat} (h : 0 < n) : 1 ≤ (figs n).length := by
  rw [figs, List.length_reverse, figsL_pos h, List.length_cons]; omega
theorem isRow_rowOf {n : Nat} (h : 0 < n) (hl : (rowOf n).length ≤ 12) : IsRow (rowOf n) := by
  obtain ⟨h1, h2, _⟩ := strip_spec n h
  exact ⟨⟨figs_len1 h1, hl⟩, figs_lt _, figs_head h1, figs_last h1 h2⟩
theorem isRow_small {n : Nat} (h : 0 < n) (hl : n < 60 ^ 12) : IsRow (rowOf n) :=
  isRow_rowOf h (figs_len (Nat.lt_of_le_of_lt (strip_le h) hl))
/-! casts -/
theorem sum_mod : ∀ l : List Nat, l.sum % 59 = wholeL l % 59
  | [] => rfl
  | d :: r => by
    have := sum_mod r
    rw [List.sum_cons]
    show (d + r.sum) % 59 = (d + 60 * wholeL r) % 59
    omega
theorem whole_mod (r : List Nat) : r.sum % 59 = whole r % 59 := by
  rw [whole_eq, ← sum_mod, List.sum_reverse]
theorem pow60_mod : ∀ k : Nat, 60 ^ k % 59 = 1
  | 0 => rfl
  | k + 1 => by rw [Nat.pow_succ, Nat.mul_mod, pow60_mod k]
theorem strip_mod {n : Nat} (h : 0 < n) : strip n % 59 = n % 59 := by
  obtain ⟨_, _, k, e⟩ := strip_spec n h
  calc strip n % 59 = strip n % 59 * 1 % 59 := by omega
    _ = (strip n % 59) * (60 ^ k % 59) % 59 := by rw [pow60_mod]
    _ = (strip n * 60 ^ k) % 59 := (Nat.mul_mod _ _ _).symm
    _ = n % 59 := by rw [← e]
theorem cast_rowOf {n : Nat} (h : 0 < n) : (rowOf n).sum % 59 = n % 59 := by
  rw [whole_mod, rowOf, whole_figs, strip_mod h]
end Sx
end
section
/-! promises: rows.py and the laws' common helpers -/
namespace Sx
open PySem L2
def sp_check_row (K : PySem.W.Frag) : Sp := fun vs H Q _ => ∃ a r, vs = [.ref a] ∧ SqT K H a (rowV r) ∧ IsRow r ∧ Q .non H
def sp_whole_of (K : PySem.W.Frag) : Sp := fun vs H Q _ => ∃ a r, vs = [.ref a] ∧ SqT K H a (rowV r) ∧ IsRow r ∧ Q (natV (whole r)) H
def sp_figures_of (K : PySem.W.Frag) : Sp := fun vs H Q _ => ∃ n, vs = [natV n] ∧ n < 60 ^ 200 ∧ ∀ p H', Same H H' → SqT K H' p (rowV (figs n)) → Q (.ref p) H'
def sp_row_of (K : PySem.W.Frag) : Sp := fun vs H Q _ => ∃ n, vs = [natV n] ∧ 0 < n ∧ n < 60 ^ 200 ∧ ∀ p H', Same H H' → SqT K H' p (rowV (rowOf n)) → Q (.ref p) H'
def sp_times (K : PySem.W.Frag) : Sp := fun vs H Q _ => ∃ a b r1 r2, vs = [.ref a, .ref b] ∧ SqT K H a (rowV r1) ∧ IsRow r1 ∧ SqT K H b (rowV r2) ∧ IsRow r2 ∧
  ∀ p H', Same H H' → SqT K H' p (rowV (rowOf (whole r1 * whole r2))) → Q (.ref p) H'
def sp_cast (K : PySem.W.Frag) : Sp := fun vs H Q _ => ∃ a r, vs = [.ref a] ∧ SqT K H a (rowV r) ∧ IsRow r ∧ Q (natV (r.sum % 59)) H
/-- the drawing list: the script, a place, a mixed number, what is left of a great one -/
def DiceL (H : Hp) (d sc : Addr) : Prop := ∃ i m r : Nat, H d = some (.lst [.ref sc, natV i, natV m, natV r]) ∧ m < 2147483647
def Script (K : PySem.W.Frag) (H : Hp) (d sc : Addr) : Prop := ∃ ns : List Int, ns.length ≤ 63 ∧ ∀ H2, SB d H H2 → SqL K H2 sc (ns.map V.int)
def Dice (K : PySem.W.Frag) (H : Hp) (d : Addr) : Prop := ∃ sc, DiceL H d sc ∧ Script K H d sc
/-- drawn: the drawing list goes on, all else stands -/
def Drew (d : Addr) (H H' : Hp) : Prop := SB d H H' ∧ ∀ sc, DiceL H d sc → DiceL H' d sc
theorem Drew.refl (d : Addr) (H : Hp) : Drew d H H := ⟨SB.refl _ _, fun _ h => h⟩
theorem Drew.trans {d : Addr} {H H1 H2 : Hp} (a : Drew d H H1) (b : Drew d H1 H2) : Drew d H H2 := ⟨a.1.trans b.1, fun sc h => b.2 sc (a.2 sc h)⟩
theorem Drew.of {d : Addr} {H H1 : Hp} (b : Same H H1) : Drew d H H1 := ⟨Same.sb b, fun _ ⟨i, m, r, h, l⟩ => ⟨i, m, r, b _ _ h, l⟩⟩
theorem Drew.same {d : Addr} {H H1 H2 : Hp} (a : Drew d H H1) (b : Same H1 H2) : Drew d H H2 := a.trans (Drew.of b)
theorem Dice.drew {K : PySem.W.Frag} {H H' : Hp} {d : Addr} (x : Dice K H d) (e : Drew d H H') : Dice K H' d := by
  obtain ⟨sc, h, ns, hl, hs⟩ := x
  exact ⟨sc, e.2 sc h, ns, hl, fun H2 s => hs H2 (e.1.trans s)⟩
theorem Dice.lst {K : PySem.W.Frag} {H : Hp} {d : Addr} (x : Dice K H d) : ∃ xs, H d = some (.lst xs) := by
  obtain ⟨sc, ⟨i, m, r, h, _⟩, _⟩ := x
  exact ⟨_, h⟩
theorem Dice.ne {K : PySem.W.Frag} {H : Hp} {d p : Addr} (x : Dice K H d) (h : H p = none) : p ≠ d := by
  rintro rfl
  obtain ⟨zs, e⟩ := x.lst
  rw [e] at h; cases h
theorem Dice.row {K : PySem.W.Frag} {H H' : Hp} {d a : Addr} {xs : List V} (x : Dice K H d) (s : Drew d H H') (h : SqT K H a xs) : SqT K H' a xs := by
  obtain ⟨ys, e⟩ := x.lst
  exact SB.seqT s.1 e h
/-- what is not known behind was not known ahead -/
theorem Drew.back {K : PySem.W.Frag} {H H' : Hp} {d p : Addr} (x : Dice K H d) (e : Drew d H H') (h : H' p = none) : H p = none := by
  cases z : H p with
  | none => rfl
  | some o =>
    have hne := (x.drew e).ne h
    rw [e.1 _ _ hne z] at h; cases h
/-- a new object, changed -/
theorem Drew.mut {d p : Addr} {H H1 : Hp} {o : HO} (a : Drew d H H1) (h : H p = none) (hd : p ≠ d) : Drew d H (upd H1 p o) :=
  ⟨SB.mut a.1 h, fun sc x => by
    obtain ⟨i, m, r, e, l⟩ := a.2 sc x
    exact ⟨i, m, r, by rw [upd_ne hd.symm]; exact e, l⟩⟩
def sp__law_dice (K : PySem.W.Frag) : Sp := fun vs H Q _ => ∃ (a : Addr) (ns : List Int), vs = [.ref a] ∧ SqL K H a (ns.map V.int) ∧ ns.length ≤ 63 ∧ ∀ d H', H d = none → Same H H' → DiceL H' d a → Q (.ref d) H'
def sp__law_next (K : PySem.W.Frag) : Sp := fun vs H Q _ => ∃ (d : Addr) (m : Nat), vs = [.ref d, natV m] ∧ Dice K H d ∧ 0 < m ∧ m < 1073741824 ∧ ∀ n H', n < m → Drew d H H' → Q (natV n) H'
def sp__law_whole_of (K : PySem.W.Frag) : Sp := fun vs H Q _ => ∃ a r, vs = [.ref a] ∧ SqT K H a (rowV r) ∧ r.length ≤ 1000 ∧ Q (natV (whole r)) H
def sp__law_row (K : PySem.W.Frag) : Sp := fun vs H Q _ => ∃ n, vs = [natV n] ∧ 0 < n ∧ n < 60 ^ 200 ∧ ∀ p H', Same H H' → SqT K H' p (rowV (rowOf n)) → Q (.ref p) H'
def sp__law_smooth (K : PySem.W.Frag) : Sp := fun vs H Q _ => ∃ d, vs = [.ref d] ∧ Dice K H d ∧ ∀ a b c H', a ≤ 9 → b ≤ 9 → c ≤ 9 → Drew d H H' → Q (natV (2 ^ a * 3 ^ b * 5 ^ c)) H'
def sp__law_drawn (K : PySem.W.Frag) : Sp := fun vs H Q _ => ∃ (d : Addr) (m : Nat), vs = [.ref d, natV m] ∧ Dice K H d ∧ 2 ≤ m ∧ m ≤ 12 ∧
  ∀ p r H', IsRow r → r.length ≤ m → Drew d H H' → SqT K H' p (rowV r) → Q (.ref p) H'
/-- data of a depth: what the laws' own likeness looks at -/
def plainD : Nat → PyData → Prop
  | _, .none => True
  | _, .bool _ => False
  | _, .int _ => True
  | _, .str x => PyData.canLay0 (.str x) = true
  | 0, .list _ => False
  | 0, .tuple _ => False
  | n + 1, .list ds => ds.length ≤ 100000 ∧ ∀ d ∈ ds, plainD n d
  | n + 1, .tuple ds => ds.length ≤ 100000 ∧ ∀ d ∈ ds, plainD n d
  | _, .dict _ => False
def spLike (K : PySem.W.Frag) : Nat → Sp
  | 0 => fun _ _ _ _ => False
  | n + 1 => fun vs H Q _ => ∃ x y D, vs = [x, y] ∧ Dp K H x D ∧ Dp K H y D ∧ plainD n D ∧ Q (.bl true) H
abbrev sp__law_like (K : PySem.W.Frag) : Sp := spLike K 7
end Sx
end
section
/-! dicts by truth values -/
namespace Sx
open PySem PySem.Spec PyProof.Rows L2
/-- the dict at a: its keys are truth values -/
def BD (a : Addr) (kvs : List (Bool × V)) : HO := .ext fun h => ∃ (P : Program) (w : World) (vs : List (Bool × Value)), KV kvs vs ∧ h.DictOf (PpSet.boolK P w) a vs
theorem bd_ok {P P' : Program} {w w' : World} {H : Hp} {h : Heap} {a : Addr} {kvs : List (Bool × V)} {vs : List (Bool × Value)} (r : KV kvs vs) (e : h.DictOf (PpSet.boolK P w) a vs) : ObjOk P' w' H h a (BD a kvs) := by
  refine ⟨⟨P, w, vs, r, e⟩, ?_, fun h1 h2 x k => ?_⟩
  · obtain ⟨o, _, _, ho, _⟩ := e
    exact ⟨o, ho⟩
  · obtain ⟨P, w, vs, r, o, es, ep, ho, z⟩ := x
    exact ⟨P, w, vs, r, o, es, ep, k o ho, z⟩
theorem pairs_any {P P' : Program} {w w' : World} : ∀ {es : List DictEntry} {vs : List (Bool × Value)}, Pairs (PpSet.boolK P w) es vs → Pairs (PpSet.boolK P' w') es vs
  | _, _, .nil => .nil
  | _, _, .cons h e r => .cons h e (pairs_any r)
theorem bd_at {P : Program} {w : World} {H : Hp} {h : Heap} {a : Addr} {kvs : List (Bool × V)} (x : HOk P w H h) (e : H a = some (BD a kvs)) : ∃ vs, KV kvs vs ∧ h.DictOf (PpSet.boolK P w) a vs := by
  obtain ⟨⟨_, _, vs, r, o, es, ep, ho, ex, dat, ks, ps, nd⟩, _⟩ := x a _ e
  exact ⟨vs, r, o, es, ep, ho, ex, dat, ks, pairs_any ps, nd⟩
theorem bd_nil {P : Program} {w : World} {H : Hp} {h : Heap} {a : Addr} (x : HOk P w H h) (e : H a = some (.dK [])) : h.DictOf (PpSet.boolK P w) a [] := by
  obtain ⟨_, _, vs, r, o, es, ep, ho, ex, dat, _, ps, _⟩ := dk_of x e
  cases r
  have key : ∀ {l : List DictEntry} {r : List (Key × Value)}, Pairs (mixKind P w) l r → r = [] → l = [] := fun p z => by
    cases p with
    | nil => rfl
    | cons _ _ _ => cases z
  have nil : es.toList = [] := key ps rfl
  have ne : ∀ z, z ∉ es := fun z m => by
    rw [← Array.mem_toList_iff, nil] at m
    cases m
  exact ⟨o, es, ep, ho, ex, dat, fun z m => (ne z m).elim, by rw [nil]; exact .nil, List.nodup_nil⟩
def NoWr (H : Hp) (a : Addr) (kvs : List (Bool × V)) : Prop := (H a = some (.dK []) ∧ kvs = []) ∨ H a = some (BD a kvs)
/-- d[b] = v -/
def tPutB (td ty tv : TE) : TS := fun D σ H => tv σ H fun v H1 => td σ H1 fun x H2 => ty σ H2 fun y H3 => ∃ (a : Addr) (b : Bool) (kvs : List (Bool × V)), x = .ref a ∧ y = .bl b ∧ NoWr H3 a kvs ∧ kvs.length ≤ 1000 ∧ D.nx σ (upd H3 a (BD a (putK kvs b v)))
/-- d[b] -/
def tGetB (td ty : TE) : TE := fun σ H Q => td σ H fun x H1 => ty σ H1 fun y H2 => ∃ (a : Addr) (b : Bool) (kvs : List (Bool × V)) (v : V), x = .ref a ∧ y = .bl b ∧ H2 a = some (BD a kvs) ∧ valV kvs b = some v ∧ Q v H2
section
variable {X : Cx} {o i value : Expr} {pos pos' : Pos} {td ty tv : TE}
theorem ps_putB (ho : PE X o td) (hi : PE X i ty) (hv : PE X value tv) (hs : swapsWith value (some (.Subscript o i pos')) pos.line X.env = pure false := by rfl) : PS X (.Assign [.Subscript o i pos'] value pos) (tPutB td ty tv) := ⟨fun pins s σ H D I h => by
  refine wpAny_Assign_Subscript (thn (hv.run pins s σ H _ I h) fun r s1 ⟨v, H1, I1, rv, q1⟩ => thn (ho.run pins s1 σ H1 _ I1 q1) fun u s2 ⟨x, H2, I2, rx, q2⟩ => thn (hi.run pins s2 σ H2 _ I2 q2) fun iv s3 ⟨y, H3, I3, ry, a, b, kvs, ex, ey, w, l, q3⟩ => ?_) hs
  subst ex ey
  obtain rfl : u = Value.ref a := rx
  obtain rfl : iv = Value.bool b := ry
  have go : ∀ vs : List (Bool × Value), KV kvs vs → s3.heap.DictOf (PpSet.boolK X.prog X.w) a vs → Mut (H3 a) → wpAny (model X.prog X.w) X.A (setItem (.ref a) (.bool b) r) (fun _ t => SP X pins D .next t) X.xe s3 := fun vs rel dd mu => by
    have z : vs.length ≤ sizeLine := by rw [← rel.length, sizeLine_eq]; omega
    refine wpAny_setItem_pairs (hsz := z) (PpSet.boolK_is _ _ b) dd fun h' dd' sb => ?_
    · have there : ∃ z, h'.get? a = some z := by
        obtain ⟨z, _, _, e, _⟩ := dd'
        exact ⟨z, e⟩
      exact ⟨σ, _, d_write I3 mu sb there (bd_ok (rel.put b rv) dd'), q3⟩
  rcases w with ⟨e, rfl⟩ | e
  · exact go [] .nil (bd_nil I3.hok e) (by rw [e]; exact True.intro)
  · obtain ⟨vs, rel, dd⟩ := bd_at I3.hok e
    exact go vs rel dd (by rw [e]; exact True.intro)⟩
theorem pe_getB (ho : PE X o td) (hi : PE X i ty) (hs : NoSl i) : PE X (.Subscript o i pos) (tGetB td ty) := ⟨fun pins s σ H Q I h => by
  refine subD_of PySem.F.slot_dict_getitem.lookup hs (thn (ho.run pins s σ H _ I h) fun u s1 ⟨x, H1, I1, rx, q1⟩ => thn (hi.run pins s1 σ H1 _ I1 q1) fun iv s2 ⟨y, H2, I2, ry, a, b, kvs, v, ex, ey, e, l, q⟩ => ?_)
  subst ex ey
  obtain rfl : u = Value.ref a := rx
  obtain rfl : iv = Value.bool b := ry
  obtain ⟨vs, rel, dd⟩ := bd_at I2.hok e
  obtain ⟨w', hw, rw'⟩ := RelO.some_of (v := v) (o := valueAt vs b) (by rw [← l]; exact rel.val b)
  exact ⟨dd.typeIs, wpAny_getItem_of (PpSet.boolK_is _ _ b) dd.mapOf hw ⟨v, H2, I2.tok _, rw', q⟩⟩⟩
end
end Sx
end
section
/-! values as plain data, without the heap: what the heap tells of them, states, readings lifted from data -/
namespace Dx
open PySem L2 RT Sx
inductive Dt where
  | non | bl (b : Bool) | int (i : Int) | str (x : Str) | ty (n : String)
  | tup (xs : List Dt) | lst (xs : List Dt) | dK (ps : List (Key × Dt)) | dT (ps : List (List Key × Dt))
  | dice | fn (a : Addr) | scr (ns : List Int) | ktup (xs : List Dt) | scrT (ns : List Int)
abbrev nat (n : Nat) : Dt := .int (n : Int)
def keyD : Key → Dt
  | .inl i => .int i
  | .inr s => .str s
def keysD (k : List Key) : Dt := .tup (k.map keyD)
/-- what is frozen, and where the drawing list stands -/
structure Wd where
  F : Hp
  dl : Addr → Prop
  /-- among these: the tables of code objects -/
  tb : Addr → Prop := fun _ => False
/-- the name of a law's lambdas -/
def lamN : Str := ("law" : Str) ++ ".<locals>." ++ "<lambda>"
mutual
inductive Rp (K : PySem.W.Frag) (W : Wd) : V → Dt → Prop
  | non : Rp K W .non .non
  | bl (b : Bool) : Rp K W (.bl b) (.bl b)
  | int (i : Int) : Rp K W (.int i) (.int i)
  | str (x : Str) : Rp K W (.str x) (.str x)
  | ty (n : String) : Rp K W (.ty n) (.ty n)
  | tup {a : Addr} {vs : List V} {xs : List Dt} : W.F a = some (.tup vs) → RpL K W vs xs → Rp K W (.ref a) (.tup xs)
  | ktup {a : Addr} {vs : List V} {xs : List Dt} : (∀ H, SqT K H a vs) → RpL K W vs xs → Rp K W (.ref a) (.ktup xs)
  | lst {a : Addr} {vs : List V} {xs : List Dt} : W.F a = some (.lst vs) → RpL K W vs xs → Rp K W (.ref a) (.lst xs)
  | scr {a : Addr} {ns : List Int} : SqL K W.F a (ns.map V.int) → Rp K W (.ref a) (.scr ns)
  | dK {a : Addr} {ks : List (Key × V)} {ps : List (Key × Dt)} {o : Obj} : W.F a = some (.frz o (.dK ks)) → RpK K W ks ps → Rp K W (.ref a) (.dK ps)
  | dT {a : Addr} {ks : List (List Key × V)} {ps : List (List Key × Dt)} {o : Obj} : W.F a = some (.frz o (.dT ks)) → RpT K W ks ps → Rp K W (.ref a) (.dT ps)
  | dice {a : Addr} : W.dl a → ¬ W.tb a → Rp K W (.ref a) .dice
  | scrT {a : Addr} {ns : List Int} : SqL K W.F a (ns.map V.int) → (∀ c P, PySem.W.tabIn K "law" = some (c, P) → W.dl P ∧ W.tb P) → Rp K W (.ref a) (.scrT ns)
  | fn (a : Addr) : Rp K W (.ref a) (.fn a)
inductive RpL (K : PySem.W.Frag) (W : Wd) : List V → List Dt → Prop
  | nil : RpL K W [] []
  | cons {v : V} {x : Dt} {vs : List V} {xs : List Dt} : Rp K W v x → RpL K W vs xs → RpL K W (v :: vs) (x :: xs)
inductive RpK (K : PySem.W.Frag) (W : Wd) : List (Key × V) → List (Key × Dt) → Prop
  | nil : RpK K W [] []
  | cons {k : Key} {v : V} {x : Dt} {ks : List (Key × V)} {ps : List (Key × Dt)} : Rp K W v x → RpK K W ks ps → RpK K W ((k, v) :: ks) ((k, x) :: ps)
inductive RpT (K : PySem.W.Frag) (W : Wd) : List (List Key × V) → List (List Key × Dt) → Prop
  | nil : RpT K W [] []
  | cons {k : List Key} {v : V} {x : Dt} {ks : List (List Key × V)} {ps : List (List Key × Dt)} : Rp K W v x → RpT K W ks ps → RpT K W ((k, v) :: ks) ((k, x) :: ps)
end
theorem same_seqL {K : PySem.W.Frag} {H H' : Hp} {a : Addr} {xs : List V} (e : Same H H') (h : SqL K H a xs) : SqL K H' a xs := Same.seq e h
/-- the frozen grows -/
structure Wd.Le (W W' : Wd) : Prop where
  sF : Same W.F W'.F
  dd : ∀ d, W.dl d → W'.dl d
  tt : W'.tb = W.tb
theorem Wd.Le.refl (W : Wd) : W.Le W := ⟨Same.refl _, fun _ h => h, rfl⟩
theorem Wd.Le.trans {A B C : Wd} (a : A.Le B) (b : B.Le C) : A.Le C := ⟨Same.trans a.sF b.sF, fun d h => b.dd d (a.dd d h), b.tt.trans a.tt⟩
mutual
theorem Rp.le {K : PySem.W.Frag} {W W' : Wd} (l : W.Le W') : ∀ {v : V} {x : Dt}, Rp K W v x → Rp K W' v x
  | _, _, .non => .non
  | _, _, .bl b => .bl b
  | _, _, .int i => .int i
  | _, _, .str x => .str x
  | _, _, .ty n => .ty n
  | _, _, .tup h r => .tup (l.sF _ _ h) (r.le l)
  | _, _, .ktup h r => .ktup h (r.le l)
  | _, _, .lst h r => .lst (l.sF _ _ h) (r.le l)
  | _, _, .scr h => .scr (same_seqL l.sF h)
  | _, _, .dK h r => .dK (l.sF _ _ h) (r.le l)
  | _, _, .dT h r => .dT (l.sF _ _ h) (r.le l)
  | _, _, .dice h n => .dice (l.dd _ h) (by rw [l.tt]; exact n)
  | _, _, .scrT h t => .scrT (same_seqL l.sF h) fun c P e => ⟨l.dd _ (t c P e).1, by rw [l.tt]; exact (t c P e).2⟩
  | _, _, .fn a => .fn a
theorem RpL.le {K : PySem.W.Frag} {W W' : Wd} (l : W.Le W') : ∀ {v : List V} {x : List Dt}, RpL K W v x → RpL K W' v x
  | _, _, .nil => .nil
  | _, _, .cons a b => .cons (a.le l) (b.le l)
theorem RpK.le {K : PySem.W.Frag} {W W' : Wd} (l : W.Le W') : ∀ {v : List (Key × V)} {x : List (Key × Dt)}, RpK K W v x → RpK K W' v x
  | _, _, .nil => .nil
  | _, _, .cons a b => .cons (a.le l) (b.le l)
theorem RpT.le {K : PySem.W.Frag} {W W' : Wd} (l : W.Le W') : ∀ {v : List (List Key × V)} {x : List (List Key × Dt)}, RpT K W v x → RpT K W' v x
  | _, _, .nil => .nil
  | _, _, .cons a b => .cons (a.le l) (b.le l)
end
section
variable {K : PySem.W.Frag} {W W' : Wd}
theorem RpL.length : ∀ {vs : List V} {xs : List Dt}, RpL K W vs xs → vs.length = xs.length
  | _, _, .nil => rfl
  | _, _, .cons _ h => by rw [List.length_cons, List.length_cons, h.length]
theorem RpL.get : ∀ {vs : List V} {xs : List Dt} {i : Nat} {x : Dt}, RpL K W vs xs → xs[i]? = some x → ∃ v, vs[i]? = some v ∧ Rp K W v x
  | _, _, i, x, .nil, h => by simp at h
  | _, _, 0, x, .cons r _, h => by obtain rfl := Option.some.inj h; exact ⟨_, rfl, r⟩
  | _, _, i + 1, x, .cons _ r, h => RpL.get (i := i) r h
theorem RpL.getV : ∀ {vs : List V} {xs : List Dt} {i : Nat} {v : V}, RpL K W vs xs → vs[i]? = some v → ∃ x, xs[i]? = some x ∧ Rp K W v x
  | _, _, i, x, .nil, h => by simp at h
  | _, _, 0, x, .cons r _, h => by obtain rfl := Option.some.inj h; exact ⟨_, rfl, r⟩
  | _, _, i + 1, x, .cons _ r, h => RpL.getV (i := i) r h
theorem RpL.append : ∀ {vs ws : List V} {xs ys : List Dt}, RpL K W vs xs → RpL K W ws ys → RpL K W (vs ++ ws) (xs ++ ys)
  | _, _, _, _, .nil, h => h
  | _, _, _, _, .cons a b, h => .cons a (RpL.append b h)
theorem RpL.take : ∀ {vs : List V} {xs : List Dt} (n : Nat), RpL K W vs xs → RpL K W (vs.take n) (xs.take n)
  | _, _, 0, _ => .nil
  | _, _, _ + 1, .nil => .nil
  | _, _, n + 1, .cons a b => .cons a (RpL.take n b)
theorem RpL.drop : ∀ {vs : List V} {xs : List Dt} (n : Nat), RpL K W vs xs → RpL K W (vs.drop n) (xs.drop n)
  | _, _, 0, h => h
  | _, _, _ + 1, .nil => .nil
  | _, _, n + 1, .cons _ b => RpL.drop n b
theorem RpL.rev : ∀ {vs : List V} {xs : List Dt}, RpL K W vs xs → RpL K W vs.reverse xs.reverse
  | _, _, .nil => .nil
  | _, _, .cons a b => by rw [List.reverse_cons, List.reverse_cons]; exact (RpL.rev b).append (.cons a .nil)
theorem RpL.set : ∀ {vs : List V} {xs : List Dt} {v : V} {x : Dt} (i : Nat), Rp K W v x → RpL K W vs xs → RpL K W (vs.set i v) (xs.set i x)
  | _, _, _, _, _, _, .nil => .nil
  | _, _, _, _, 0, r, .cons _ b => .cons r b
  | _, _, _, _, i + 1, r, .cons a b => .cons a (RpL.set i r b)
theorem RpL.erase : ∀ {vs : List V} {xs : List Dt} (i : Nat), RpL K W vs xs → RpL K W (vs.eraseIdx i) (xs.eraseIdx i)
  | _, _, _, .nil => .nil
  | _, _, 0, .cons _ b => b
  | _, _, i + 1, .cons a b => .cons a (RpL.erase i b)
theorem RpL.ints : ∀ {ns : List Int}, RpL K W (ns.map V.int) (ns.map Dt.int)
  | [] => .nil
  | i :: _ => .cons (.int i) RpL.ints
theorem RpL.of_ints : ∀ {ns : List Int} {vs : List V}, RpL K W vs (ns.map Dt.int) → vs = ns.map V.int
  | [], _, .nil => rfl
  | i :: r, _, .cons (.int _) h => by rw [List.map_cons, RpL.of_ints h]
end
/-! the heap's part -/
def Ownish : HO → Prop
  | .lst _ => True
  | .dK _ => True
  | .dT _ => True
  | .ext φ => ∃ a kvs, Sx.BD a kvs = .ext φ
  | _ => False
theorem bd_code {a c : Addr} {kvs : List (Bool × V)} {q : Str} (z : Sx.BD a kvs = LamX.CodeO c q) : False := by
  unfold Sx.BD LamX.CodeO at z
  have z := HO.ext.inj z
  let ob : Obj := { cls := .none, data := .fields #[.none, .str q 0] }
  let hp : Heap := { objs := Array.replicate (a + c + 1) ob }
  have g : ∀ b, b < a + c + 1 → hp.get? b = some ob := fun b hb => by
    have e : hp.objs[b]? = some ob := by
      show (Array.replicate (a + c + 1) ob)[b]? = some ob
      rw [Array.getElem?_replicate, if_pos hb]
    unfold Heap.get?
    rw [e]
  have h2 := congrFun z hp
  have h3 := h2.mpr ⟨ob, _, _, g c (Nat.lt_succ_of_le (Nat.le_add_left c a)), rfl, rfl⟩
  obtain ⟨P, w, vs, _, o, es, ep, ho, ex, dat, _⟩ := h3
  rw [g a (Nat.lt_succ_of_le (Nat.le_add_right a c))] at ho
  obtain rfl := Option.some.inj ho
  cases dat
theorem ownish_code {c : Addr} {q : Str} (h : Ownish (LamX.CodeO c q)) : False := by
  obtain ⟨a, kvs, e⟩ := (show ∃ a kvs, Sx.BD a kvs = LamX.CodeO c q from h)
  exact bd_code e
theorem ownish_bd {a : Addr} {kvs : List (Bool × V)} : Ownish (Sx.BD a kvs) := ⟨a, kvs, rfl⟩
/-- the dict by truth values at p -/
def BoolO (p : Addr) (o : HO) (ks : List (Bool × V)) : Prop := (o = .dK [] ∧ ks = []) ∨ o = Sx.BD p ks
theorem BoolO.ownish {p : Addr} {o : HO} {ks : List (Bool × V)} (h : BoolO p o ks) : Ownish o := by
  rcases h with ⟨rfl, _⟩ | rfl
  · trivial
  · exact ownish_bd
inductive RpB (K : PySem.W.Frag) (W : Wd) : List (Bool × V) → List (Bool × Dt) → Prop
  | nil : RpB K W [] []
  | cons {k : Bool} {v : V} {x : Dt} {ks : List (Bool × V)} {ps : List (Bool × Dt)} : Rp K W v x → RpB K W ks ps → RpB K W ((k, v) :: ks) ((k, x) :: ps)
theorem RpB.le {K : PySem.W.Frag} {W W' : Wd} (l : W.Le W') : ∀ {v : List (Bool × V)} {x : List (Bool × Dt)}, RpB K W v x → RpB K W' v x
  | _, _, .nil => .nil
  | _, _, .cons a b => .cons (a.le l) (b.le l)
structure Frm (W : Wd) (H : Hp) (W' : Wd) (H' : Hp) : Prop where
  le : W.Le W'
  sH : ∀ p o, H p = some o → ¬ W.dl p → H' p = some o
  nF : ∀ p o, H p = some o → ¬ W.dl p → Ownish o → W.F p = none → W'.F p = none
  dn : ∀ d, W'.dl d → W.dl d ∨ H d = none
  kp : ∀ p, H' p = none → H p = none
/-- what may change: a drawing list, or a table of code objects -/
def Mu (K : PySem.W.Frag) (W : Wd) (H : Hp) (d : Addr) : Prop := (¬ W.tb d ∧ ∃ (sc : Addr) (ns : List Int), DiceL H d sc ∧ ns.length ≤ 63 ∧ SqL K W.F sc (ns.map V.int)) ∨ (W.tb d ∧ LamX.TabS H d lamN)
theorem Mu.isnt {K : PySem.W.Frag} {W : Wd} {H : Hp} {d : Addr} {o : HO} (m : Mu K W H d) (h : H d = some o) (h1 : ∀ xs, o ≠ .lst xs) (h2 : ∀ ps, o ≠ .tbl ps) : False := by
  rcases m with ⟨_, sc, ns, ⟨i, m, r, e, _⟩, _⟩ | ⟨_, ps, e, _⟩
  · rw [e] at h; exact h1 _ (Option.some.inj h).symm
  · rw [e] at h; exact h2 _ (Option.some.inj h).symm
theorem Mu.there {K : PySem.W.Frag} {W : Wd} {H : Hp} {d : Addr} (m : Mu K W H d) : H d ≠ none := by
  rcases m with ⟨_, sc, ns, ⟨i, m, r, e, _⟩, _⟩ | ⟨_, ps, e, _⟩ <;> (rw [e]; exact fun z => nomatch z)
/-- where neither it nor a code object changes -/
theorem Mu.mv {K : PySem.W.Frag} {W W' : Wd} {H H' : Hp} {d : Addr} (m : Mu K W H d) (ht : W'.tb = W.tb) (hF : Same W.F W'.F) (hd : H' d = H d) (hc : ∀ c, H c = some (LamX.CodeO c lamN) → H' c = some (LamX.CodeO c lamN)) : Mu K W' H' d := by
  rcases m with ⟨n, sc, ns, ⟨i, m, r, e, l⟩, h1, h2⟩ | ⟨n, ps, e, t, q⟩
  · exact .inl ⟨by rw [ht]; exact n, sc, ns, ⟨i, m, r, by rw [hd]; exact e, l⟩, h1, same_seqL hF h2⟩
  · exact .inr ⟨by rw [ht]; exact n, ps, by rw [hd]; exact e, t, fun pos cv h => by
      obtain ⟨c, e1, e2⟩ := q pos cv h
      exact ⟨c, e1, hc c e2⟩⟩
structure Ok (K : PySem.W.Frag) (W : Wd) (H : Hp) : Prop where
  sF : Same W.F H
  dc : ∀ d, W.dl d → W.F d = none ∧ Mu K W H d
  td : ∀ d, W.tb d → W.dl d
  nt : ∀ p ps, W.F p ≠ some (.tbl ps)
theorem Frm.refl (W : Wd) (H : Hp) : Frm W H W H := ⟨Wd.Le.refl W, fun _ _ h _ => h, fun _ _ _ _ _ h => h, fun _ h => .inl h, fun _ h => h⟩
theorem Frm.ndl {A B : Wd} {H1 H2 : Hp} (a : Frm A H1 B H2) {p : Addr} {o : HO} (h : H1 p = some o) (n : ¬ A.dl p) : ¬ B.dl p := fun e => by
  rcases a.dn p e with z | z
  · exact n z
  · rw [h] at z; cases z
theorem Frm.trans {A B C : Wd} {H1 H2 H3 : Hp} (a : Frm A H1 B H2) (b : Frm B H2 C H3) : Frm A H1 C H3 where
  le := a.le.trans b.le
  sH := fun p o h n => b.sH p o (a.sH p o h n) (a.ndl h n)
  nF := fun p o h n m z => b.nF p o (a.sH p o h n) (a.ndl h n) m (a.nF p o h n m z)
  dn := fun d h => by
    rcases b.dn d h with z | z
    · exact a.dn d z
    · exact .inr (a.kp d z)
  kp := fun p h => a.kp p (b.kp p h)

theorem ne_new {H : Hp} {p b : Addr} {o : HO} (n : H p = none) (h : H b = some o) : b ≠ p := fun e => by rw [e, n] at h; cases h
theorem same_upd {H : Hp} {p : Addr} {o : HO} (n : H p = none) : Same H (upd H p o) := fun b u h => by rw [upd_ne (ne_new n h)]; exact h
section
variable {K : PySem.W.Frag} {W : Wd} {H : Hp} {p : Addr} {o : HO}
/-- laid and not (yet) kept -/
theorem Frm.laid (n : H p = none) : Frm W H W (upd H p o) where
  le := Wd.Le.refl W
  sH := fun b u h _ => same_upd n b u h
  nF := fun _ _ _ _ _ h => h
  dn := fun _ h => .inl h
  kp := fun b h => by
    by_cases e : b = p
    · rw [e]; exact n
    · rw [upd_ne e] at h; exact h
theorem Ok.dice_ne (k : Ok K W H) (n : H p = none) : ¬ W.dl p := fun e => by
  exact (k.dc p e).2.there n
theorem Ok.same (k : Ok K W H) {H' : Hp} (s : Same H H') : Ok K W H' := ⟨Same.trans k.sF s, fun d e => by
  obtain ⟨n, m⟩ := k.dc d e
  refine ⟨n, m.mv rfl (Same.refl _) ?_ fun c h => s _ _ h⟩
  cases z : H d with
  | none => exact absurd z m.there
  | some o => exact s _ _ z, k.td, k.nt⟩
theorem Ok.fr (k : Ok K W H) (n : H p = none) : W.F p = none := by
  cases z : W.F p with
  | none => rfl
  | some u => rw [k.sF _ _ z] at n; cases n
theorem Ok.laid (k : Ok K W H) (n : H p = none) : Ok K W (upd H p o) := k.same (same_upd n)
/-- kept from here on -/
def Wd.keep (W : Wd) (p : Addr) (o : HO) : Wd := ⟨upd W.F p o, W.dl, W.tb⟩
theorem Wd.le_keep (n : W.F p = none) : W.Le (W.keep p o) := ⟨same_upd n, fun _ h => h, rfl⟩
theorem Ok.keep (k : Ok K W H) (n : W.F p = none) (h : H p = some o) (nd : ¬ W.dl p) (nt : ∀ ps, o ≠ .tbl ps := by intro _ z; cases z) : Ok K (W.keep p o) H where
  sF := fun b u e => by
    by_cases z : b = p
    · subst z
      have : upd W.F b o b = some u := e
      rw [upd_same] at this
      obtain rfl := Option.some.inj this
      exact h
    · have : upd W.F p o b = some u := e
      rw [upd_ne z] at this
      exact k.sF b u this
  dc := fun d e => by
    obtain ⟨f, m⟩ := k.dc d e
    refine ⟨?_, m.mv rfl (same_upd n) rfl fun _ h => h⟩
    show upd W.F p o d = none
    rw [upd_ne (fun z => nd (by rw [← z]; exact e))]
    exact f
  td := k.td
  nt := fun b ps e => by
    by_cases z : b = p
    · subst z
      have : upd W.F b o b = some (.tbl ps) := e
      rw [upd_same] at this
      exact nt ps (Option.some.inj this)
    · have : upd W.F p o b = some (.tbl ps) := e
      rw [upd_ne z] at this
      exact k.nt b ps this
/-- laid and kept -/
theorem Frm.kept (k : Ok K W H) (n : H p = none) : Frm W H (W.keep p o) (upd H p o) where
  le := Wd.le_keep (k.fr n)
  sH := fun b u h _ => same_upd n b u h
  nF := fun b u h _ _ z => by
    show upd W.F p o b = none
    rw [upd_ne (ne_new n h)]; exact z
  dn := fun _ h => .inl h
  kp := fun b h => by
    by_cases e : b = p
    · rw [e]; exact n
    · rw [upd_ne e] at h; exact h
theorem Ok.kept (k : Ok K W H) (n : H p = none) (nt : ∀ ps, o ≠ .tbl ps := by intro _ z; cases z) : Ok K (W.keep p o) (upd H p o) := (k.laid n).keep (k.fr n) upd_same (k.dice_ne n) nt
theorem keep_at : (W.keep p o).F p = some o := upd_same
end
theorem sqt_keep {K : PySem.W.Frag} {W : Wd} {p : Addr} {xs : List V} : SqT K (W.keep p (.tup xs)).F p xs := sqt keep_at
theorem sql_keep {K : PySem.W.Frag} {W : Wd} {p : Addr} {xs : List V} : SqL K (W.keep p (.lst xs)).F p xs := sql keep_at

/-! slots -/
inductive Sl where
  | un | v (x : Dt) | ol (xs : List Dt) | od (d : Dt) | ob (ps : List (Bool × Dt)) | pk (u : V)
abbrev Env := List Sl
structure Mine (Hin : Hp) (W : Wd) (p : Addr) : Prop where
  f : W.F p = none
  i : Hin p = none
  d : ¬ W.dl p
/-- the dict at p holds ps -/
def DictR (K : PySem.W.Frag) (W : Wd) (o : HO) (d : Dt) : Prop := (∃ ks ps, o = .dK ks ∧ d = .dK ps ∧ RpK K W ks ps) ∨ (∃ ks ps, o = .dT ks ∧ d = .dT ps ∧ RpT K W ks ps)
def SlR (K : PySem.W.Frag) (Hin : Hp) (W : Wd) (H : Hp) : Sl → Option V → Prop
  | .un, _ => True
  | .v x, o => ∃ u, o = some u ∧ Rp K W u x
  | .ol xs, o => ∃ p vs, o = some (.ref p) ∧ Mine Hin W p ∧ H p = some (.lst vs) ∧ RpL K W vs xs
  | .od ps, o => ∃ p h, o = some (.ref p) ∧ Mine Hin W p ∧ H p = some h ∧ DictR K W h ps
  | .ob ps, o => ∃ p h ks, o = some (.ref p) ∧ Mine Hin W p ∧ H p = some h ∧ BoolO p h ks ∧ RpB K W ks ps
  | .pk u, o => o = some u
def own : Sl → Bool
  | .ol _ => true
  | .od _ => true
  | .ob _ => true
  | _ => false
structure Lk (K : PySem.W.Frag) (Hin : Hp) (W : Wd) (ρ : Env) (σ : L2.St) (H : Hp) : Prop where
  ok : Ok K W H
  len : ρ.length = σ.length
  sl : ∀ (i : Nat) (s : Sl), ρ[i]? = some s → ∃ o, σ[i]? = some o ∧ SlR K Hin W H s o
  sep : ∀ (i j : Nat) (s t : Sl) (p : Addr), i ≠ j → ρ[i]? = some s → ρ[j]? = some t → own s = true → own t = true → σ[i]? = some (some (.ref p)) → σ[j]? = some (some (.ref p)) → False
theorem Mine.frm {Hin H H' : Hp} {W W' : Wd} {p : Addr} {o : HO} (m : Mine Hin W p) (f : Frm W H W' H') (h : H p = some o) (w : Ownish o) : Mine Hin W' p :=
  ⟨f.nF p o h m.d w m.f, m.i, f.ndl h m.d⟩
theorem DictR.ownish {K : PySem.W.Frag} {W : Wd} {o : HO} {ps : Dt} (h : DictR K W o ps) : Ownish o := by
  rcases h with ⟨_, _, rfl, _⟩ | ⟨_, _, rfl, _⟩ <;> trivial
theorem DictR.le {K : PySem.W.Frag} {W W' : Wd} {o : HO} {ps : Dt} (l : W.Le W') (h : DictR K W o ps) : DictR K W' o ps := by
  rcases h with ⟨ks, ps, e, e2, r⟩ | ⟨ks, ps, e, e2, r⟩
  · exact .inl ⟨ks, ps, e, e2, r.le l⟩
  · exact .inr ⟨ks, ps, e, e2, r.le l⟩
theorem SlR.frm {K : PySem.W.Frag} {Hin H H' : Hp} {W W' : Wd} (f : Frm W H W' H') : ∀ {s : Sl} {o : Option V}, SlR K Hin W H s o → SlR K Hin W' H' s o
  | .un, _, _ => trivial
  | .v x, _, ⟨u, e, r⟩ => ⟨u, e, r.le f.le⟩
  | .ol xs, _, ⟨p, vs, e, m, h, r⟩ => ⟨p, vs, e, m.frm f h trivial, f.sH p _ h m.d, r.le f.le⟩
  | .od ps, _, ⟨p, ho, e, m, h, r⟩ => ⟨p, ho, e, m.frm f h r.ownish, f.sH p _ h m.d, r.le f.le⟩
  | .ob ps, _, ⟨p, ho, ks, e, m, h, b, r⟩ => ⟨p, ho, ks, e, m.frm f h b.ownish, f.sH p _ h m.d, b, r.le f.le⟩
  | .pk u, _, h => h
theorem Lk.frm {K : PySem.W.Frag} {Hin H H' : Hp} {W W' : Wd} {ρ : Env} {σ : L2.St} (l : Lk K Hin W ρ σ H) (f : Frm W H W' H') (k : Ok K W' H') : Lk K Hin W' ρ σ H' :=
  ⟨k, l.len, fun i s e => by obtain ⟨o, h1, h2⟩ := l.sl i s e; exact ⟨o, h1, h2.frm f⟩, l.sep⟩
theorem set_get {α : Type} {l : List α} {i j : Nat} {x y : α} (h : (l.set i x)[j]? = some y) : (i = j ∧ y = x) ∨ (i ≠ j ∧ l[j]? = some y) := by
  by_cases e : i = j
  · subst e
    by_cases hi : i < l.length
    · rw [List.getElem?_set_self hi] at h; exact .inl ⟨rfl, (Option.some.inj h).symm⟩
    · rw [List.set_eq_of_length_le (by omega)] at h
      rw [List.getElem?_eq_none (by omega)] at h; cases h
  · rw [List.getElem?_set_ne e] at h; exact .inr ⟨e, h⟩
section
variable {K : PySem.W.Frag} {Hin H : Hp} {W : Wd} {ρ : Env} {σ : L2.St}
/-- a slot that is not one's own thing is stored -/
theorem Lk.set {s : Sl} {o : Option V} (l : Lk K Hin W ρ σ H) (i : Nat) (h : SlR K Hin W H s o) (ho : own s = false) : Lk K Hin W (ρ.set i s) (σ.set i o) H where
  ok := l.ok
  len := by rw [List.length_set, List.length_set]; exact l.len
  sl := fun j t e => by
    rcases set_get e with ⟨rfl, rfl⟩ | ⟨ne, e⟩
    · have hl : i < ρ.length := by
        rcases Nat.lt_or_ge i ρ.length with z | z
        · exact z
        · rw [List.set_eq_of_length_le z, List.getElem?_eq_none z] at e; cases e
      exact ⟨o, List.getElem?_set_self (by rw [← l.len]; exact hl), h⟩
    · obtain ⟨u, h1, h2⟩ := l.sl j t e
      exact ⟨u, by rw [List.getElem?_set_ne ne]; exact h1, h2⟩
  sep := fun a b s1 t1 p ne e1 e2 o1 o2 g1 g2 => by
    rcases set_get e1 with ⟨rfl, rfl⟩ | ⟨n1, e1⟩
    · rw [ho] at o1; cases o1
    rcases set_get e2 with ⟨rfl, rfl⟩ | ⟨n2, e2⟩
    · rw [ho] at o2; cases o2
    rw [List.getElem?_set_ne n1] at g1
    rw [List.getElem?_set_ne n2] at g2
    exact l.sep a b s1 t1 p ne e1 e2 o1 o2 g1 g2
/-- a new thing of one's own is stored -/
theorem Lk.setOwn {s : Sl} {p : Addr} (l : Lk K Hin W ρ σ H) (i : Nat) (h : SlR K Hin W H s (some (.ref p))) (nw : ∀ (j : Nat) (t : Sl), ρ[j]? = some t → own t = true → i ≠ j → σ[j]? ≠ some (some (.ref p))) : Lk K Hin W (ρ.set i s) (σ.set i (some (.ref p))) H where
  ok := l.ok
  len := by rw [List.length_set, List.length_set]; exact l.len
  sl := fun j t e => by
    rcases set_get e with ⟨rfl, rfl⟩ | ⟨ne, e⟩
    · have hl : i < ρ.length := by
        rcases Nat.lt_or_ge i ρ.length with z | z
        · exact z
        · rw [List.set_eq_of_length_le z, List.getElem?_eq_none z] at e; cases e
      exact ⟨_, List.getElem?_set_self (by rw [← l.len]; exact hl), h⟩
    · obtain ⟨u, h1, h2⟩ := l.sl j t e
      exact ⟨u, by rw [List.getElem?_set_ne ne]; exact h1, h2⟩
  sep := fun a b s1 t1 q ne e1 e2 o1 o2 g1 g2 => by
    rcases set_get e1 with ⟨rfl, rfl⟩ | ⟨n1, f1⟩
    · rcases set_get e2 with ⟨rfl, rfl⟩ | ⟨n2, f2⟩
      · exact ne rfl
      · rw [List.getElem?_set_ne n2] at g2
        have hl : i < σ.length := by
          rcases Nat.lt_or_ge i σ.length with z | z
          · exact z
          · rw [List.set_eq_of_length_le z, List.getElem?_eq_none z] at g1; cases g1
        rw [List.getElem?_set_self hl] at g1
        have e := V.ref.inj (Option.some.inj (Option.some.inj g1))
        subst e
        exact nw b t1 f2 o2 n2 g2
    · rw [List.getElem?_set_ne n1] at g1
      rcases set_get e2 with ⟨rfl, rfl⟩ | ⟨n2, f2⟩
      · have hl : i < σ.length := by
          rcases Nat.lt_or_ge i σ.length with z | z
          · exact z
          · rw [List.set_eq_of_length_le z, List.getElem?_eq_none z] at g2; cases g2
        rw [List.getElem?_set_self hl] at g2
        have e := V.ref.inj (Option.some.inj (Option.some.inj g2))
        subst e
        exact nw a s1 f1 o1 n1 g1
      · rw [List.getElem?_set_ne n2] at g2
        exact l.sep a b s1 t1 q ne f1 f2 o1 o2 g1 g2
theorem Lk.nocode {i : Nat} {s : Sl} {p c : Addr} {q : Str} (l : Lk K Hin W ρ σ H) (e : ρ[i]? = some s) (ho : own s = true) (hp : σ[i]? = some (some (.ref p))) (h : H p = some (LamX.CodeO c q)) : False := by
  obtain ⟨o, h1, h2⟩ := l.sl i s e
  rw [h1] at hp
  obtain rfl := Option.some.inj hp
  cases s with
  | un => cases ho
  | v x => cases ho
  | pk u => cases ho
  | ol xs =>
    obtain ⟨p', vs, z, _, hq, _⟩ := h2
    obtain rfl := V.ref.inj (Option.some.inj z)
    rw [hq] at h; cases h
  | od d =>
    obtain ⟨p', ho', z, _, hq, r⟩ := h2
    obtain rfl := V.ref.inj (Option.some.inj z)
    rw [hq] at h
    rcases r with ⟨_, _, rfl, _⟩ | ⟨_, _, rfl, _⟩ <;> cases h
  | ob d =>
    obtain ⟨p', ho', ks, z, _, hq, b, r⟩ := h2
    obtain rfl := V.ref.inj (Option.some.inj z)
    rw [hq] at h
    obtain rfl := Option.some.inj h
    exact ownish_code b.ownish
/-- one's own thing is changed -/
theorem Lk.change {i : Nat} {s t : Sl} {p : Addr} {o : HO} (l : Lk K Hin W ρ σ H) (e : ρ[i]? = some s) (ho : own s = true) (hp : σ[i]? = some (some (.ref p))) (mi : Mine Hin W p)
    (h : SlR K Hin W (upd H p o) t (some (.ref p))) : Lk K Hin W (ρ.set i t) σ (upd H p o) where
  ok := ⟨fun b u z => by rw [upd_ne (fun q => by rw [q, mi.f] at z; cases z)]; exact l.ok.sF b u z, fun d z => by
    obtain ⟨f, m⟩ := l.ok.dc d z
    exact ⟨f, m.mv rfl (Same.refl _) (upd_ne (fun q => mi.d (by rw [← q]; exact z))) fun c hc => by rw [upd_ne (fun q => by rw [q] at hc; exact l.nocode e ho hp hc)]; exact hc⟩, l.ok.td, l.ok.nt⟩
  len := by rw [List.length_set]; exact l.len
  sl := fun j u z => by
    rcases set_get z with ⟨rfl, rfl⟩ | ⟨ne, z⟩
    · exact ⟨_, hp, h⟩
    · obtain ⟨w, h1, h2⟩ := l.sl j u z
      refine ⟨w, h1, ?_⟩
      cases u with
      | un => trivial
      | v x => exact h2
      | pk u => exact h2
      | ol xs =>
        obtain ⟨q, vs, e1, m, h3, r⟩ := h2
        refine ⟨q, vs, e1, m, ?_, r⟩
        rw [upd_ne (fun c => by subst c; subst e1; exact l.sep i j s (.ol xs) q ne e z ho rfl hp h1)]; exact h3
      | od ps =>
        obtain ⟨q, h0, e1, m, h3, r⟩ := h2
        refine ⟨q, h0, e1, m, ?_, r⟩
        rw [upd_ne (fun c => by subst c; subst e1; exact l.sep i j s (.od ps) q ne e z ho rfl hp h1)]; exact h3
      | ob ps =>
        obtain ⟨q, h0, ks, e1, m, h3, b, r⟩ := h2
        refine ⟨q, h0, ks, e1, m, ?_, b, r⟩
        rw [upd_ne (fun c => by subst c; subst e1; exact l.sep i j s (.ob ps) q ne e z ho rfl hp h1)]; exact h3
  sep := fun a b s1 t1 q ne e1 e2 o1 o2 g1 g2 => by
    have f1 : ∃ s', ρ[a]? = some s' ∧ own s' = true := by
      rcases set_get e1 with ⟨rfl, rfl⟩ | ⟨_, e1⟩
      · exact ⟨s, e, ho⟩
      · exact ⟨s1, e1, o1⟩
    have f2 : ∃ s', ρ[b]? = some s' ∧ own s' = true := by
      rcases set_get e2 with ⟨rfl, rfl⟩ | ⟨_, e2⟩
      · exact ⟨s, e, ho⟩
      · exact ⟨t1, e2, o2⟩
    obtain ⟨s', a1, a2⟩ := f1
    obtain ⟨t', b1, b2⟩ := f2
    exact l.sep a b s' t' q ne a1 b1 a2 b2 g1 g2
end
end Dx
end
section
/-! readings lifted from data -/
namespace Dx
open PySem L2 RT Sx
section
variable {K : PySem.W.Frag} {W : Wd} {H H2 : Hp} {p : Addr} {o : HO} {vs : List V}
theorem Frm.keeps {W1 : Wd} {H1 : Hp} (f : Frm W H W1 H1) (n : H p = none) (nf : W1.F p = none) : Frm W H (W1.keep p o) H1 where
  le := f.le.trans (Wd.le_keep nf)
  sH := f.sH
  nF := fun b u hb nd m z => by
    show upd W1.F p o b = none
    rw [upd_ne (ne_new n hb)]; exact f.nF b u hb nd m z
  dn := f.dn
  kp := f.kp
theorem Frm.keepI {Hin : Hp} {Win : Wd} (f : Frm Win Hin W H) (i : Hin p = none) (nf : W.F p = none) : Frm Win Hin (W.keep p o) H := f.keeps i nf
theorem frm_same (s : Same H H2) : Frm W H W H2 where
  le := Wd.Le.refl W
  sH := fun b u h _ => s b u h
  nF := fun _ _ _ _ _ h => h
  dn := fun _ h => .inl h
  kp := fun b h => by
    cases z : H b with
    | none => rfl
    | some u => rw [s b u z] at h; cases h
theorem frm_keep (k : Ok K W H) (s : Same H H2) (h : H2 p = some o) (w : ∀ u, H p = some u → ¬ Ownish u) (n : W.F p = none) : Frm W H (W.keep p o) H2 where
  le := Wd.le_keep n
  sH := fun b u h _ => s b u h
  nF := fun b u hb _ m z => by
    show upd W.F p o b = none
    rw [upd_ne (fun e => by subst e; exact w u hb m)]; exact z
  dn := fun _ h => .inl h
  kp := (frm_same (W := W) s).kp
theorem keepL (k : Ok K W H) (n : H p = none) (s : Same H H2) (h : H2 p = some o) (nt : ∀ ps, o ≠ .tbl ps := by intro _ z; cases z) : Frm W H (W.keep p o) H2 ∧ Ok K (W.keep p o) H2 :=
  ⟨frm_keep k s h (fun u e => by rw [n] at e; cases e) (k.fr n), (k.same s).keep (k.fr n) h (k.dice_ne n) nt⟩
theorem keepT (k : Ok K W H) (s : Same H H2) (h : H2 p = some (.tup vs)) : ∃ W', Frm W H W' H2 ∧ Ok K W' H2 ∧ W'.F p = some (.tup vs) := by
  have k2 := k.same s
  have nd : ¬ W.dl p := fun z => by
    exact (k2.dc p z).2.isnt h (fun _ z => nomatch z) fun _ z => nomatch z
  cases z : W.F p with
  | some u' =>
    have e2 := k2.sF p u' z
    rw [h] at e2; obtain rfl := Option.some.inj e2
    exact ⟨W, frm_same s, k2, z⟩
  | none => exact ⟨W.keep p (.tup vs), frm_keep k s h (fun u' h' w => by have := s p u' h'; rw [h] at this; obtain rfl := Option.some.inj this; exact w) z, k2.keep z h nd, keep_at⟩
end
abbrev DX := Nat → List Dt → Prop
abbrev DE := DX → Env → (Dt → Prop) → Prop
abbrev DT := DX → Env → (Bool → Prop) → Prop
abbrev DA := DX → Env → (List Dt → Prop) → Prop
abbrev DN := DX → Env → (List Dt → Prop) → Prop
structure DEnds where
  nx : Env → Prop
  rt : Dt → Prop
  bk : Env → Prop := fun _ => False
  ct : Env → Prop := fun _ => False
  rn : List Dt → Prop := fun _ => False
abbrev DS := DEnds → DX → Env → Prop
/-- error classes by number: 0 the base, 1 BadRow, 2 NotTurned, 3 NoSide, 4 BadStep, 5 BadText -/
abbrev Ec := Nat → Addr
def fldsOf : Nat → List Str
  | 2 => ["left"]
  | 3 => ["why"]
  | 4 => ["at", "why"]
  | 5 => ["row"]
  | _ => []
def ErrR (K : PySem.W.Frag) (C : Ec) (W : Wd) (H : Hp) (cls : Value) (d : Option Addr) (k : Nat) (fs : List Dt) : Prop :=
  cls = .ref (C k) ∧ fs.length = (fldsOf k).length ∧ ((fs = [] ∧ d = none) ∨ ∃ dd vs, d = some dd ∧ H dd = some (.xd ((fldsOf k).zip vs)) ∧ RpL K W vs fs)
structure Cn where
  Hin : Hp
  Win : Wd
  Wl : Wd
  W : Wd
  ρ : Env
  PX : DX
def EL (K : PySem.W.Frag) (C : Ec) (Hin : Hp) (Win : Wd) (E : XK) (PX : DX) : Prop := ∀ W' H' k fs cls d, Frm Win Hin W' H' → Ok K W' H' → ErrR K C W' H' cls d k fs → PX k fs → E cls d H'
structure Cn.At (K : PySem.W.Frag) (C : Ec) (E : XK) (c : Cn) (σ : L2.St) (H : Hp) : Prop where
  lk : Lk K c.Hin c.W c.ρ σ H
  fr : Frm c.Win c.Hin c.W H
  el : EL K C c.Hin c.Win E c.PX
  lo : c.Wl.Le c.W
theorem Cn.At.frm {K : PySem.W.Frag} {C : Ec} {E : XK} {c : Cn} {σ : L2.St} {H H' : Hp} {W' : Wd} (a : c.At K C E σ H) (f : Frm c.W H W' H') (k : Ok K W' H') : Cn.At K C E { c with W := W' } σ H' :=
  ⟨a.lk.frm f k, a.fr.trans f, a.el, a.lo.trans f.le⟩
def liftE (K : PySem.W.Frag) (C : Ec) (E : XK) (d : DE) : TE := fun σ H Q => ∃ (c : Cn) (P : Dt → Prop), c.At K C E σ H ∧ d c.PX c.ρ P ∧ ∀ W' H' v x, Frm c.W H W' H' → Ok K W' H' → Rp K W' v x → P x → Q v H'
def liftT (K : PySem.W.Frag) (C : Ec) (E : XK) (d : DT) : TT := fun σ H Q => ∃ (c : Cn) (P : Bool → Prop), c.At K C E σ H ∧ d c.PX c.ρ P ∧ ∀ W' H' b, Frm c.W H W' H' → Ok K W' H' → P b → Q b H'
def liftA (K : PySem.W.Frag) (C : Ec) (E : XK) (d : DA) : TA := fun σ H Q => ∃ (c : Cn) (P : List Dt → Prop), c.At K C E σ H ∧ d c.PX c.ρ P ∧ ∀ W' H' vs xs, Frm c.W H W' H' → Ok K W' H' → RpL K W' vs xs → P xs → Q vs H'
/-- a new list -/
def liftN (K : PySem.W.Frag) (C : Ec) (E : XK) (d : DN) : TE := fun σ H Q => ∃ (c : Cn) (P : List Dt → Prop), c.At K C E σ H ∧ d c.PX c.ρ P ∧
  ∀ W' H' p vs xs, Frm c.W H W' H' → Ok K W' H' → H p = none → W'.F p = none → ¬ W'.dl p → H' p = some (.lst vs) → RpL K W' vs xs → P xs → Q (.ref p) H'
structure EndsOk (K : PySem.W.Frag) (C : Ec) (E : XK) (c : Cn) (DD : DEnds) (D : Ends) : Prop where
  nx : ∀ W' ρ' σ' H', Cn.At K C E { c with W := W', ρ := ρ' } σ' H' → DD.nx ρ' → D.nx σ' H'
  bk : ∀ W' ρ' σ' H', Cn.At K C E { c with W := W', ρ := ρ' } σ' H' → DD.bk ρ' → D.bk σ' H'
  ct : ∀ W' ρ' σ' H', Cn.At K C E { c with W := W', ρ := ρ' } σ' H' → DD.ct ρ' → D.ct σ' H'
  rt : ∀ W' H' v x, Frm c.Win c.Hin W' H' → Ok K W' H' → Rp K W' v x → DD.rt x → D.rt v H'
  rn : ∀ W' H' p vs xs, Frm c.Win c.Hin W' H' → Ok K W' H' → c.Hin p = none → W'.F p = none → ¬ W'.dl p → H' p = some (.lst vs) → RpL K W' vs xs → DD.rn xs → D.rt (.ref p) H'
def liftS (K : PySem.W.Frag) (C : Ec) (E : XK) (d : DS) : TS := fun D σ H => ∃ (c : Cn) (DD : DEnds), c.At K C E σ H ∧ EndsOk K C E c DD D ∧ d DD c.PX c.ρ
theorem EndsOk.mv {K : PySem.W.Frag} {C : Ec} {E : XK} {c : Cn} {DD : DEnds} {D : Ends} {W : Wd} {ρ : Env} (h : EndsOk K C E c DD D) : EndsOk K C E { c with W := W, ρ := ρ } DD D := ⟨h.nx, h.bk, h.ct, h.rt, h.rn⟩

/-! ### expressions -/
def dVar (i : Nat) : DE := fun _ ρ P => ∃ x, ρ[i]? = some (.v x) ∧ P x
def dC (x : Dt) : DE := fun _ _ P => P x
abbrev D1 := Dt → (Dt → Prop) → Prop
abbrev D2 := Dt → Dt → (Dt → Prop) → Prop
abbrev DL := List Dt → (Dt → Prop) → Prop
def dOp (f : D2) (a b : DE) : DE := fun X ρ P => a X ρ fun x => b X ρ fun y => f x y P
def dUn (f : D1) (a : DE) : DE := fun X ρ P => a X ρ fun x => f x P
def dChain (f g : D2) (a b c : DE) : DE := fun X ρ P => a X ρ fun x => b X ρ fun y => f x y fun z => ∃ k, z = .bl k ∧ (if k = true then c X ρ fun w => g y w P else P (.bl false))
def dB (a : DE) : DT := fun X ρ Q => a X ρ fun x => ∃ k, x = .bl k ∧ Q k
def dAnd (a b : DT) : DT := fun X ρ Q => a X ρ fun k => if k = true then b X ρ Q else Q false
def dOr (a b : DT) : DT := fun X ρ Q => a X ρ fun k => if k = true then Q true else b X ρ Q
def dNot (a : DT) : DT := fun X ρ Q => a X ρ fun k => Q (!k)
def dAndV (a b : DE) : DE := fun X ρ P => a X ρ fun x => ∃ k, x = .bl k ∧ (if k = true then b X ρ P else P (.bl false))
def dOrV (a b : DE) : DE := fun X ρ P => a X ρ fun x => ∃ k, x = .bl k ∧ (if k = true then P (.bl true) else b X ρ P)
def dNotV (a : DE) : DE := fun X ρ P => a X ρ fun x => ∃ k, x = .bl k ∧ P (.bl (!k))
def dIf (t : DT) (a b : DE) : DE := fun X ρ P => t X ρ fun k => if k = true then a X ρ P else b X ρ P
def dNil : DA := fun _ _ P => P []
def dCons (a : DE) (r : DA) : DA := fun X ρ P => a X ρ fun x => r X ρ fun xs => P (x :: xs)
def dTup (a : DA) : DE := fun X ρ P => a X ρ fun xs => xs.length ≤ 100000 ∧ P (.tup xs)
def dLst (a : DA) : DN := fun X ρ P => a X ρ fun xs => xs.length ≤ 100000 ∧ P xs
/-- a new list, never changed from here on -/
def dFz (a : DN) : DE := fun X ρ P => a X ρ fun xs => P (.lst xs)
def dCB (f : DL) (a : DA) : DE := fun X ρ P => a X ρ fun xs => f xs P
def Op2 (K : PySem.W.Frag) (r : R2) (f : D2) : Prop := ∀ W H v1 x1 v2 x2 P Q, Ok K W H → Rp K W v1 x1 → Rp K W v2 x2 → f x1 x2 P → (∀ W' H' v x, Frm W H W' H' → Ok K W' H' → Rp K W' v x → P x → Q v H') → r v1 v2 H Q
def Op1 (K : PySem.W.Frag) (r : V → Hp → VK → Prop) (f : D1) : Prop := ∀ W H v1 x1 P Q, Ok K W H → Rp K W v1 x1 → f x1 P → (∀ W' H' v x, Frm W H W' H' → Ok K W' H' → Rp K W' v x → P x → Q v H') → r v1 H Q
def OpL (K : PySem.W.Frag) (r : List V → Hp → VK → Prop) (f : DL) : Prop := ∀ W H vs xs P Q, Ok K W H → RpL K W vs xs → f xs P → (∀ W' H' v x, Frm W H W' H' → Ok K W' H' → Rp K W' v x → P x → Q v H') → r vs H Q
section
variable {K : PySem.W.Frag} {C : Ec} {E : XK} {σ : L2.St} {H : Hp} {Q : VK}
theorem le_var {i : Nat} (q : liftE K C E (dVar i) σ H Q) : tVar i σ H Q := by
  obtain ⟨c, P, at_, ⟨x, e, h⟩, k⟩ := q
  obtain ⟨o, h1, u, rfl, r⟩ := at_.lk.sl i _ e
  exact ⟨u, h1, k _ _ _ _ (Frm.refl _ _) at_.lk.ok r h⟩
theorem le_c {v : V} {x : Dt} (r : ∀ W, Rp K W v x) (q : liftE K C E (dC x) σ H Q) : tC v σ H Q := by
  obtain ⟨c, P, at_, h, k⟩ := q
  exact k _ _ _ _ (Frm.refl _ _) at_.lk.ok (r _) h
theorem le_op {r : R2} {f : D2} {a b : DE} (hb : Op2 K r f) (q : liftE K C E (dOp f a b) σ H Q) : tOp r (liftE K C E a) (liftE K C E b) σ H Q := by
  obtain ⟨c, P, at_, h, k⟩ := q
  refine ⟨c, _, at_, h, fun W1 H1 v1 x1 f1 o1 r1 q1 => ?_⟩
  refine ⟨{ c with W := W1 }, _, at_.frm f1 o1, q1, fun W2 H2 v2 x2 f2 o2 r2 q2 => ?_⟩
  exact hb W2 H2 v1 x1 v2 x2 P Q o2 (r1.le f2.le) r2 q2 fun W3 H3 v3 x3 f3 o3 r3 q3 => k W3 H3 v3 x3 (f1.trans (f2.trans f3)) o3 r3 q3
theorem le_un {r : V → Hp → VK → Prop} {f : D1} {a : DE} (hb : Op1 K r f) (q : liftE K C E (dUn f a) σ H Q) : tUn r (liftE K C E a) σ H Q := by
  obtain ⟨c, P, at_, h, k⟩ := q
  refine ⟨c, _, at_, h, fun W1 H1 v1 x1 f1 o1 r1 q1 => ?_⟩
  exact hb W1 H1 v1 x1 P Q o1 r1 q1 fun W3 H3 v3 x3 f3 o3 r3 q3 => k W3 H3 v3 x3 (f1.trans f3) o3 r3 q3
theorem rp_bl {W : Wd} {v : V} {b : Bool} (r : Rp K W v (.bl b)) : v = .bl b := by cases r; rfl
theorem rp_int {W : Wd} {v : V} {i : Int} (r : Rp K W v (.int i)) : v = .int i := by cases r; rfl
theorem rp_str {W : Wd} {v : V} {i : Str} (r : Rp K W v (.str i)) : v = .str i := by cases r; rfl
theorem rp_tup {W : Wd} {v : V} {xs : List Dt} (r : Rp K W v (.tup xs)) : ∃ a vs, v = .ref a ∧ W.F a = some (.tup vs) ∧ RpL K W vs xs := by cases r with | tup h r => exact ⟨_, _, rfl, h, r⟩
theorem rp_lst {W : Wd} {v : V} {xs : List Dt} (r : Rp K W v (.lst xs)) : ∃ a vs, v = .ref a ∧ W.F a = some (.lst vs) ∧ RpL K W vs xs := by cases r with | lst h r => exact ⟨_, _, rfl, h, r⟩
theorem le_chain {r r' : R2} {f g : D2} {a b d : DE} (hf : Op2 K r f) (hg : Op2 K r' g) (q : liftE K C E (dChain f g a b d) σ H Q) : tChain r r' (liftE K C E a) (liftE K C E b) (liftE K C E d) σ H Q := by
  obtain ⟨c, P, at_, h, k⟩ := q
  refine ⟨c, _, at_, h, fun W1 H1 v1 x1 f1 o1 r1 q1 => ?_⟩
  refine ⟨{ c with W := W1 }, _, at_.frm f1 o1, q1, fun W2 H2 v2 x2 f2 o2 r2 q2 => ?_⟩
  refine hf W2 H2 v1 x1 v2 x2 _ _ o2 (r1.le f2.le) r2 q2 fun W3 H3 v3 x3 f3 o3 r3 ⟨kk, e, q3⟩ => ?_
  subst e
  refine ⟨kk, rp_bl r3, ?_⟩
  have f13 := f1.trans (f2.trans f3)
  cases kk with
  | true =>
    rw [if_pos rfl] at q3 ⊢
    refine ⟨{ c with W := W3 }, _, at_.frm f13 o3, q3, fun W4 H4 v4 x4 f4 o4 r4 q4 => ?_⟩
    exact hg W4 H4 v2 x2 v4 x4 _ _ o4 (r2.le (f3.trans f4).le) r4 q4 fun W5 H5 v5 x5 f5 o5 r5 q5 => k W5 H5 v5 x5 (f13.trans (f4.trans f5)) o5 r5 q5
  | false =>
    rw [if_neg Bool.false_ne_true] at q3 ⊢
    exact k W3 H3 _ _ f13 o3 (.bl false) q3
variable {QB : Bool → Hp → Prop} {QA : List V → Hp → Prop}
theorem le_B {a : DE} (q : liftT K C E (dB a) σ H QB) : liftE K C E a σ H fun x H' => ∃ k, x = .bl k ∧ QB k H' := by
  obtain ⟨c, P, at_, h, k⟩ := q
  refine ⟨c, _, at_, h, fun W1 H1 v1 x1 f1 o1 r1 ⟨kk, e, q1⟩ => ?_⟩
  subst e
  exact ⟨kk, rp_bl r1, k _ _ _ f1 o1 q1⟩
theorem le_and {a b : DT} (q : liftT K C E (dAnd a b) σ H QB) : tAnd (liftT K C E a) (liftT K C E b) σ H QB := by
  obtain ⟨c, P, at_, h, k⟩ := q
  refine ⟨c, _, at_, h, fun W1 H1 b1 f1 o1 q1 => ?_⟩
  cases b1 with
  | true => rw [if_pos rfl] at q1 ⊢; exact ⟨{ c with W := W1 }, P, at_.frm f1 o1, q1, fun W2 H2 b2 f2 o2 q2 => k W2 H2 b2 (f1.trans f2) o2 q2⟩
  | false => rw [if_neg Bool.false_ne_true] at q1 ⊢; exact k W1 H1 false f1 o1 q1
theorem le_or {a b : DT} (q : liftT K C E (dOr a b) σ H QB) : tOr (liftT K C E a) (liftT K C E b) σ H QB := by
  obtain ⟨c, P, at_, h, k⟩ := q
  refine ⟨c, _, at_, h, fun W1 H1 b1 f1 o1 q1 => ?_⟩
  cases b1 with
  | true => rw [if_pos rfl] at q1 ⊢; exact k W1 H1 true f1 o1 q1
  | false => rw [if_neg Bool.false_ne_true] at q1 ⊢; exact ⟨{ c with W := W1 }, P, at_.frm f1 o1, q1, fun W2 H2 b2 f2 o2 q2 => k W2 H2 b2 (f1.trans f2) o2 q2⟩
theorem le_not {a : DT} (q : liftT K C E (dNot a) σ H QB) : tNot (liftT K C E a) σ H QB := by
  obtain ⟨c, P, at_, h, k⟩ := q
  exact ⟨c, _, at_, h, fun W1 H1 b1 f1 o1 q1 => k W1 H1 (!b1) f1 o1 q1⟩
theorem le_andV {a b : DE} (q : liftE K C E (dAndV a b) σ H Q) : tAndV (liftE K C E a) (liftE K C E b) σ H Q := by
  obtain ⟨c, P, at_, h, k⟩ := q
  refine ⟨c, _, at_, h, fun W1 H1 b1 x1 f1 o1 r1 ⟨kk, e, q1⟩ => ?_⟩
  subst e
  refine ⟨kk, rp_bl r1, ?_⟩
  cases kk with
  | true => rw [if_pos rfl] at q1 ⊢; exact ⟨{ c with W := W1 }, P, at_.frm f1 o1, q1, fun W2 H2 b2 x2 f2 o2 r2 q2 => k W2 H2 b2 x2 (f1.trans f2) o2 r2 q2⟩
  | false => rw [if_neg Bool.false_ne_true] at q1 ⊢; exact k W1 H1 _ _ f1 o1 (.bl false) q1
theorem le_orV {a b : DE} (q : liftE K C E (dOrV a b) σ H Q) : tOrV (liftE K C E a) (liftE K C E b) σ H Q := by
  obtain ⟨c, P, at_, h, k⟩ := q
  refine ⟨c, _, at_, h, fun W1 H1 b1 x1 f1 o1 r1 ⟨kk, e, q1⟩ => ?_⟩
  subst e
  refine ⟨kk, rp_bl r1, ?_⟩
  cases kk with
  | true => rw [if_pos rfl] at q1 ⊢; exact k W1 H1 _ _ f1 o1 (.bl true) q1
  | false => rw [if_neg Bool.false_ne_true] at q1 ⊢; exact ⟨{ c with W := W1 }, P, at_.frm f1 o1, q1, fun W2 H2 b2 x2 f2 o2 r2 q2 => k W2 H2 b2 x2 (f1.trans f2) o2 r2 q2⟩
theorem le_notV {a : DE} (q : liftE K C E (dNotV a) σ H Q) : tNotV (liftE K C E a) σ H Q := by
  obtain ⟨c, P, at_, h, k⟩ := q
  refine ⟨c, _, at_, h, fun W1 H1 b1 x1 f1 o1 r1 ⟨kk, e, q1⟩ => ?_⟩
  subst e
  exact ⟨kk, rp_bl r1, k W1 H1 _ _ f1 o1 (.bl _) q1⟩
theorem le_if {t : DT} {a b : DE} (q : liftE K C E (dIf t a b) σ H Q) : tIf (liftT K C E t) (liftE K C E a) (liftE K C E b) σ H Q := by
  obtain ⟨c, P, at_, h, k⟩ := q
  refine ⟨c, _, at_, h, fun W1 H1 b1 f1 o1 q1 => ?_⟩
  cases b1 with
  | true => rw [if_pos rfl] at q1 ⊢; exact ⟨{ c with W := W1 }, P, at_.frm f1 o1, q1, fun W2 H2 b2 x2 f2 o2 r2 q2 => k W2 H2 b2 x2 (f1.trans f2) o2 r2 q2⟩
  | false => rw [if_neg Bool.false_ne_true] at q1 ⊢; exact ⟨{ c with W := W1 }, P, at_.frm f1 o1, q1, fun W2 H2 b2 x2 f2 o2 r2 q2 => k W2 H2 b2 x2 (f1.trans f2) o2 r2 q2⟩
theorem le_nil (q : liftA K C E dNil σ H QA) : tNil σ H QA := by
  obtain ⟨c, P, at_, h, k⟩ := q
  exact k _ _ _ _ (Frm.refl _ _) at_.lk.ok .nil h
theorem le_cons {a : DE} {r : DA} (q : liftA K C E (dCons a r) σ H QA) : tCons (liftE K C E a) (liftA K C E r) σ H QA := by
  obtain ⟨c, P, at_, h, k⟩ := q
  refine ⟨c, _, at_, h, fun W1 H1 v1 x1 f1 o1 r1 q1 => ?_⟩
  refine ⟨{ c with W := W1 }, _, at_.frm f1 o1, q1, fun W2 H2 v2 x2 f2 o2 r2 q2 => ?_⟩
  exact k _ _ _ _ (f1.trans f2) o2 (.cons (r1.le f2.le) r2) q2
theorem le_cb {r : List V → Hp → VK → Prop} {f : DL} {a : DA} (hb : OpL K r f) (q : liftE K C E (dCB f a) σ H Q) : tCB r (liftA K C E a) σ H Q := by
  obtain ⟨c, P, at_, h, k⟩ := q
  refine ⟨c, _, at_, h, fun W1 H1 v1 x1 f1 o1 r1 q1 => ?_⟩
  exact hb W1 H1 v1 x1 P Q o1 r1 q1 fun W3 H3 v3 x3 f3 o3 r3 q3 => k W3 H3 v3 x3 (f1.trans f3) o3 r3 q3
theorem le_tup {a : DA} (q : liftE K C E (dTup a) σ H Q) : tTup (liftA K C E a) σ H Q := by
  obtain ⟨c, P, at_, h, k⟩ := q
  refine ⟨c, _, at_, h, fun W1 H1 v1 x1 f1 o1 r1 ⟨hz, q1⟩ => ⟨szl (by rw [r1.length]; exact hz), fun p n => ?_⟩⟩
  have f2 := Frm.kept (o := .tup v1) o1 n
  exact k _ _ _ _ (f1.trans f2) (o1.kept n) (.tup keep_at (r1.le f2.le)) q1
theorem le_lst {a : DA} (q : liftN K C E (dLst a) σ H Q) : tLst (liftA K C E a) σ H Q := by
  obtain ⟨c, P, at_, h, k⟩ := q
  refine ⟨c, _, at_, h, fun W1 H1 v1 x1 f1 o1 r1 ⟨hz, q1⟩ => ⟨szl (by rw [r1.length]; exact hz), fun p n => ?_⟩⟩
  exact k _ _ p _ _ (f1.trans (Frm.laid n)) (o1.laid n) (f1.kp p n) (o1.fr n) (o1.dice_ne n) upd_same r1 q1
theorem le_fz {a : DN} (q : liftE K C E (dFz a) σ H Q) : liftN K C E a σ H Q := by
  obtain ⟨c, P, at_, h, k⟩ := q
  refine ⟨c, _, at_, h, fun W1 H1 p vs xs f1 o1 n nf nd e r1 q1 => ?_⟩
  exact k (W1.keep p (.lst vs)) H1 _ _ (f1.keeps n nf) (o1.keep nf e nd) (.lst keep_at (r1.le (Wd.le_keep nf))) q1
end

/-! ### statements -/
def dNext : DS := fun D _ ρ => D.nx ρ
def dSeq (t u : DS) : DS := fun D X ρ => t { D with nx := u D X } X ρ
def dRet (a : DE) : DS := fun D X ρ => a X ρ D.rt
def dRetN : DS := fun D _ _ => D.rt .non
def dDrop (a : DE) : DS := fun D X ρ => a X ρ fun _ => D.nx ρ
def dIfS (t : DT) (u v : DS) : DS := fun D X ρ => t X ρ fun k => if k = true then u D X ρ else v D X ρ
def dBreak : DS := fun D _ ρ => D.bk ρ
def dCont : DS := fun D _ ρ => D.ct ρ
def dNever : DS := fun _ _ _ => False
/-- targets -/
inductive Pt where
  | nm (i : Nat) | tp (ps : List Pt)
mutual
def gOf (K : PySem.W.Frag) : Pt → TG
  | .nm i => gName i
  | .tp ps => gTup K ps.length (gsOf K ps)
def gsOf (K : PySem.W.Frag) : List Pt → TGs
  | [] => gNil
  | p :: ps => gCons (gOf K p) (gsOf K ps)
end
mutual
def bindD : Pt → Dt → Env → (Env → Prop) → Prop
  | .nm i, x, ρ, N => N (ρ.set i (.v x))
  | .tp ps, x, ρ, N => ∃ xs, x = .tup xs ∧ bindDs ps xs ρ N
def bindDs : List Pt → List Dt → Env → (Env → Prop) → Prop
  | [], xs, ρ, N => xs = [] ∧ N ρ
  | p :: ps, xs, ρ, N => ∃ y ys, xs = y :: ys ∧ bindD p y ρ fun ρ' => bindDs ps ys ρ' N
end
mutual
def ptIn (vs : List Nat) : Pt → Bool
  | .nm i => decide (i ∈ vs)
  | .tp ps => ptsIn vs ps
def ptsIn (vs : List Nat) : List Pt → Bool
  | [] => true
  | p :: ps => ptIn vs p && ptsIn vs ps
end
def dAsg (p : Pt) (a : DE) : DS := fun D X ρ => a X ρ fun x => bindD p x ρ D.nx
/-- a new list into a slot, to be changed there -/
def dAsgN (i : Nat) (a : DN) : DS := fun D X ρ => a X ρ fun xs => D.nx (ρ.set i (.ol xs))
/-- from here on the list or dict in the slot is not changed any more -/
def frzS : Sl → Sl
  | .ol xs => .v (.lst xs)
  | .od _ => .un
  | .ob _ => .un
  | s => s
def dFrz (i : Nat) (t : DS) : DS := fun D X ρ => ∃ s, ρ[i]? = some s ∧ t D X (ρ.set i (frzS s))
def dAug (i : Nat) (f : D2) (a : DE) : DS := fun D X ρ => ∃ x, ρ[i]? = some (.v x) ∧ a X ρ fun y => f x y fun z => D.nx (ρ.set i (.v z))
mutual
theorem bindD_ex : ∀ (p : Pt) (y : Dt) (ρ : Env) (M : Env → Prop), bindD p y ρ M → ∃ ρ', M ρ'
  | .nm i, y, ρ, M, h => ⟨_, h⟩
  | .tp ps, y, ρ, M, ⟨xs, _, h⟩ => bindDs_ex ps xs ρ M h
theorem bindDs_ex : ∀ (p : List Pt) (y : List Dt) (ρ : Env) (M : Env → Prop), bindDs p y ρ M → ∃ ρ', M ρ'
  | [], y, ρ, M, ⟨_, h⟩ => ⟨_, h⟩
  | p :: ps, y, ρ, M, ⟨z, ys, _, h⟩ => by
    obtain ⟨ρ', h'⟩ := bindD_ex p z ρ _ h
    exact bindDs_ex ps ys ρ' M h'
end
theorem wipe_set {σ : L2.St} {i : Nat} {o : Option V} : ∀ {vs : List Nat}, i ∈ vs → wipe (σ.set i o) vs = wipe σ vs
  | [], h => by cases h
  | v :: vs, h => by
    unfold wipe
    by_cases e : i ∈ vs
    · rw [wipe_set e]
    · have : i = v := by
        rcases List.mem_cons.mp h with z | z
        · exact z
        · exact absurd z e
      subst this
      have key : ∀ (l : List Nat) (τ : L2.St), i ∉ l → wipe (τ.set i o) l = (wipe τ l).set i o := by
        intro l
        induction l with
        | nil => intro τ _; rfl
        | cons w l ih =>
          intro τ hn
          unfold wipe
          rw [ih τ (fun z => hn (List.mem_cons_of_mem _ z)), List.set_comm _ _ (fun z => hn (by rw [z]; exact List.mem_cons_self))]
      rw [key vs σ e, List.set_set]
section
variable {K : PySem.W.Frag} {C : Ec} {E : XK} {σ : L2.St} {H : Hp}
def SameOwn (ρ ρ' : Env) (σ σ' : L2.St) : Prop := ∀ (i : Nat) (s : Sl), ρ'[i]? = some s → own s = true → ρ[i]? = some s ∧ σ'[i]? = σ[i]?
theorem SameOwn.refl (ρ : Env) (σ : L2.St) : SameOwn ρ ρ σ σ := fun _ _ h _ => ⟨h, rfl⟩
theorem SameOwn.trans {ρ ρ1 ρ2 : Env} {σ σ1 σ2 : L2.St} (a : SameOwn ρ ρ1 σ σ1) (b : SameOwn ρ1 ρ2 σ1 σ2) : SameOwn ρ ρ2 σ σ2 := fun i s h o => by
  obtain ⟨h1, h2⟩ := b i s h o
  obtain ⟨h3, h4⟩ := a i s h1 o
  exact ⟨h3, h2.trans h4⟩
theorem SameOwn.set {ρ : Env} {σ : L2.St} (i : Nat) {s : Sl} {o : Option V} (h : own s = false) : SameOwn ρ (ρ.set i s) σ (σ.set i o) := fun j t e w => by
  rcases set_get e with ⟨rfl, rfl⟩ | ⟨ne, e⟩
  · rw [h] at w; cases w
  · exact ⟨e, by rw [List.getElem?_set_ne ne]⟩
mutual
theorem bind_run {c : Cn} {N : Env → Prop} : ∀ (p : Pt) {x : Dt} {v : V} {ρ : Env} {σ : L2.St} {Q : L2.St → Hp → Prop}, Cn.At K C E { c with ρ := ρ } σ H → Rp K c.W v x → bindD p x ρ N →
    (∀ ρ' σ', Cn.At K C E { c with ρ := ρ' } σ' H → (∀ vs, ptIn vs p = true → wipe σ' vs = wipe σ vs) → N ρ' → SameOwn ρ ρ' σ σ' → Q σ' H) → gOf K p v σ H Q
  | .nm i, x, v, ρ, σ, Q, at_, r, h, k => k (ρ.set i (.v x)) _ ⟨at_.lk.set (s := .v x) i ⟨v, rfl, r⟩ rfl, at_.fr, at_.el, at_.lo⟩ (fun vs e => wipe_set (of_decide_eq_true e)) h (SameOwn.set i rfl)
  | .tp ps, x, v, ρ, σ, Q, at_, r, ⟨xs, e, h⟩, k => by
    subst e
    obtain ⟨a, ws, rfl, hs, rs⟩ := rp_tup r
    have hl : ∀ (ps : List Pt) (xs : List Dt) (ρ : Env) (N : Env → Prop), bindDs ps xs ρ N → xs.length = ps.length := by
      intro ps
      induction ps with
      | nil => rintro xs ρ N ⟨rfl, _⟩; rfl
      | cons p ps ih =>
        rintro xs ρ N ⟨y, ys, rfl, h⟩
        obtain ⟨ρ', q⟩ := bindD_ex p y ρ _ h
        rw [List.length_cons, List.length_cons, ih ys ρ' N q]
    refine ⟨a, ws, rfl, sqt (at_.lk.ok.sF _ _ hs), by rw [rs.length]; exact hl _ _ _ _ h, ?_⟩
    exact binds_run ps at_ rs h k
theorem binds_run {c : Cn} {N : Env → Prop} : ∀ (ps : List Pt) {xs : List Dt} {vs : List V} {ρ : Env} {σ : L2.St} {Q : L2.St → Hp → Prop}, Cn.At K C E { c with ρ := ρ } σ H → RpL K c.W vs xs → bindDs ps xs ρ N →
    (∀ ρ' σ', Cn.At K C E { c with ρ := ρ' } σ' H → (∀ vs, ptsIn vs ps = true → wipe σ' vs = wipe σ vs) → N ρ' → SameOwn ρ ρ' σ σ' → Q σ' H) → gsOf K ps vs σ H Q
  | [], xs, vs, ρ, σ, Q, at_, r, ⟨e, h⟩, k => by
    subst e
    cases r
    exact ⟨rfl, k _ _ at_ (fun _ _ => rfl) h (SameOwn.refl _ _)⟩
  | p :: ps, xs, vs, ρ, σ, Q, at_, r, ⟨y, ys, e, h⟩, k => by
    subst e
    cases r with
    | cons r1 r2 => exact ⟨_, _, rfl, bind_run p at_ r1 h fun ρ1 σ1 at1 w1 h1 s1 => binds_run ps at1 r2 h1 fun ρ2 σ2 at2 w2 h2 s2 => k ρ2 σ2 at2 (fun ws e => by
        have := (Bool.and_eq_true _ _).mp e
        rw [w2 ws this.2, w1 ws this.1]) h2 (s1.trans s2)⟩
end
end
end Dx
end
section
/-! statements, loops, comprehensions, defs -/
namespace Dx
open PySem L2 RT Sx
section
variable {K : PySem.W.Frag} {C : Ec} {E : XK} {σ : L2.St} {H : Hp} {D : Ends}
theorem ls_next (q : liftS K C E dNext D σ H) : tNext D σ H := by
  obtain ⟨c, DD, at_, en, h⟩ := q
  exact en.nx _ _ _ _ at_ h
theorem ls_break (q : liftS K C E dBreak D σ H) : tBreak D σ H := by
  obtain ⟨c, DD, at_, en, h⟩ := q
  exact en.bk _ _ _ _ at_ h
theorem ls_cont (q : liftS K C E dCont D σ H) : tCont D σ H := by
  obtain ⟨c, DD, at_, en, h⟩ := q
  exact en.ct _ _ _ _ at_ h
theorem ls_seq {t u : DS} (q : liftS K C E (dSeq t u) D σ H) : tSeq (liftS K C E t) (liftS K C E u) D σ H := by
  obtain ⟨c, DD, at_, en, h⟩ := q
  exact ⟨c, { DD with nx := u DD c.PX }, at_, ⟨fun W' ρ' σ' H' a q => ⟨_, DD, a, en.mv, q⟩, en.bk, en.ct, en.rt, en.rn⟩, h⟩
theorem ls_ret {a : DE} (q : liftS K C E (dRet a) D σ H) : tRet (liftE K C E a) D σ H := by
  obtain ⟨c, DD, at_, en, h⟩ := q
  exact ⟨c, _, at_, h, fun W1 H1 v x f o r q1 => en.rt W1 H1 v x (at_.fr.trans f) o r q1⟩
theorem ls_retN (q : liftS K C E dRetN D σ H) : tRetN D σ H := by
  obtain ⟨c, DD, at_, en, h⟩ := q
  exact en.rt _ _ _ _ at_.fr at_.lk.ok .non h
theorem ls_drop {a : DE} (q : liftS K C E (dDrop a) D σ H) : tDrop (liftE K C E a) D σ H := by
  obtain ⟨c, DD, at_, en, h⟩ := q
  exact ⟨c, _, at_, h, fun W1 H1 v x f o r q1 => en.nx W1 _ _ _ (at_.frm f o) q1⟩
theorem ls_if {t : DT} {u v : DS} (q : liftS K C E (dIfS t u v) D σ H) : tIfS (liftT K C E t) (liftS K C E u) (liftS K C E v) D σ H := by
  obtain ⟨c, DD, at_, en, h⟩ := q
  refine ⟨c, _, at_, h, fun W1 H1 b f o q1 => ?_⟩
  cases b with
  | true => rw [if_pos rfl] at q1 ⊢; exact ⟨{ c with W := W1 }, DD, at_.frm f o, en.mv, q1⟩
  | false => rw [if_neg Bool.false_ne_true] at q1 ⊢; exact ⟨{ c with W := W1 }, DD, at_.frm f o, en.mv, q1⟩
theorem ls_never (q : liftS K C E dNever D σ H) : tNever D σ H := by
  obtain ⟨c, DD, at_, en, h⟩ := q
  exact h
theorem ls_asg {p : Pt} {a : DE} (q : liftS K C E (dAsg p a) D σ H) : tAsg (liftE K C E a) (gOf K p) D σ H := by
  obtain ⟨c, DD, at_, en, h⟩ := q
  refine ⟨c, _, at_, h, fun W1 H1 v x f o r q1 => ?_⟩
  exact bind_run (c := { c with W := W1 }) p (at_.frm f o) r q1 fun ρ' σ' at' _ n _ => en.nx W1 ρ' σ' H1 at' n
theorem ls_asgN {i : Nat} {a : DN} (q : liftS K C E (dAsgN i a) D σ H) : tAsg (liftN K C E a) (gName i) D σ H := by
  obtain ⟨c, DD, at_, en, h⟩ := q
  refine ⟨c, _, at_, h, fun W1 H1 p vs xs f o n nf nd e r q1 => ?_⟩
  have a1 := at_.frm f o
  refine en.nx W1 (c.ρ.set i (.ol xs)) (σ.set i (some (.ref p))) H1 ⟨a1.lk.setOwn i ⟨p, vs, rfl, ⟨nf, at_.fr.kp p n, nd⟩, e, r⟩ fun j t e1 e2 ne e3 => ?_, a1.fr, a1.el, a1.lo⟩ q1
  obtain ⟨w, h1, h2⟩ := at_.lk.sl j t e1
  rw [h1] at e3
  obtain rfl := Option.some.inj e3
  cases t with
  | un => cases e2
  | v x => cases e2
  | pk u => cases e2
  | ol ys =>
    obtain ⟨q, us, z, _, hq, _⟩ := h2
    obtain rfl := V.ref.inj (Option.some.inj z)
    rw [n] at hq; cases hq
  | od ps =>
    obtain ⟨q, us, z, _, hq, _⟩ := h2
    obtain rfl := V.ref.inj (Option.some.inj z)
    rw [n] at hq; cases hq
  | ob ps =>
    obtain ⟨q, us, ks, z, _, hq, _⟩ := h2
    obtain rfl := V.ref.inj (Option.some.inj z)
    rw [n] at hq; cases hq
/-- what is kept now was one's own -/
theorem Cn.At.frz {c : Cn} {i : Nat} {s : Sl} (a : c.At K C E σ H) (e : c.ρ[i]? = some s) : ∃ W', Cn.At K C E { c with W := W', ρ := c.ρ.set i (frzS s) } σ H := by
  obtain ⟨o, h1, h2⟩ := a.lk.sl i s e
  have hset : ∀ u, c.ρ[i]? = some u → c.ρ.set i u = c.ρ := fun u h => by
    obtain ⟨hl, rfl⟩ := List.getElem?_eq_some_iff.mp h
    exact List.set_getElem_self hl
  have main : ∀ (p : Addr) (ho : HO) (t : Sl), o = some (.ref p) → own s = true → Mine c.Hin c.W p → H p = some ho → (∀ ps, ho ≠ .tbl ps) → own t = false → (∀ W', W'.F p = some ho → c.W.Le W' → SlR K c.Hin W' H t (some (.ref p))) →
      ∃ W', Cn.At K C E { c with W := W', ρ := c.ρ.set i t } σ H := by
    intro p ho t eo hs mi hp nt ht hr
    subst eo
    refine ⟨c.W.keep p ho, ⟨?_, a.fr.keeps mi.i mi.f, a.el, a.lo.trans (Wd.le_keep mi.f)⟩⟩
    refine ⟨a.lk.ok.keep mi.f hp mi.d nt, by rw [List.length_set]; exact a.lk.len, fun j u z => ?_, fun x y s1 t1 q ne e1 e2 o1 o2 g1 g2 => ?_⟩
    · rcases set_get z with ⟨rfl, rfl⟩ | ⟨ne, zz⟩
      · exact ⟨_, h1, hr _ keep_at (Wd.le_keep mi.f)⟩
      · obtain ⟨w, h3, h4⟩ := a.lk.sl j u zz
        refine ⟨w, h3, ?_⟩
        have oth : ∀ q hq, own u = true → w = some (.ref q) → Mine c.Hin c.W q → H q = some hq → Mine c.Hin (c.W.keep p ho) q := fun q hq ou ew m _ => ⟨by
          show upd c.W.F p ho q = none
          rw [upd_ne (fun z2 => by subst z2; subst ew; exact a.lk.sep i j s u q ne e zz hs ou h1 h3)]; exact m.f, m.i, m.d⟩
        cases u with
        | un => trivial
        | v x => obtain ⟨v, e1, r⟩ := h4; exact ⟨v, e1, r.le (Wd.le_keep mi.f)⟩
        | pk u => exact h4
        | ol xs => obtain ⟨q, vs, e1, m, hq, r⟩ := h4; exact ⟨q, vs, e1, oth q _ rfl e1 m hq, hq, r.le (Wd.le_keep mi.f)⟩
        | od ps => obtain ⟨q, h0, e1, m, hq, r⟩ := h4; exact ⟨q, h0, e1, oth q _ rfl e1 m hq, hq, r.le (Wd.le_keep mi.f)⟩
        | ob ps => obtain ⟨q, h0, ks, e1, m, hq, b, r⟩ := h4; exact ⟨q, h0, ks, e1, oth q _ rfl e1 m hq, hq, b, r.le (Wd.le_keep mi.f)⟩
    · rcases set_get e1 with ⟨rfl, rfl⟩ | ⟨_, f1⟩
      · rw [ht] at o1; cases o1
      rcases set_get e2 with ⟨rfl, rfl⟩ | ⟨_, f2⟩
      · rw [ht] at o2; cases o2
      exact a.lk.sep x y s1 t1 q ne f1 f2 o1 o2 g1 g2
  cases s with
  | un => exact ⟨c.W, by rw [show frzS .un = .un from rfl, hset _ e]; exact a⟩
  | v x => exact ⟨c.W, by rw [show frzS (.v x) = .v x from rfl, hset _ e]; exact a⟩
  | pk u => exact ⟨c.W, by rw [show frzS (.pk u) = .pk u from rfl, hset _ e]; exact a⟩
  | ol xs =>
    obtain ⟨p, vs, e1, m, hp, r⟩ := h2
    exact main p _ (.v (.lst xs)) e1 rfl m hp (fun _ z => nomatch z) rfl fun W' hw l => ⟨_, rfl, .lst hw (r.le l)⟩
  | od ps =>
    have e0 : σ.set i (σ[i]?.getD none) = σ := by
      obtain ⟨hl, z⟩ := List.getElem?_eq_some_iff.mp h1
      rw [h1]
      refine List.ext_getElem? fun j => ?_
      by_cases q : i = j
      · subst q; rw [List.getElem?_set_self hl, h1]; rfl
      · rw [List.getElem?_set_ne q]
    have l' := a.lk.set (s := .un) (o := σ[i]?.getD none) i trivial rfl
    rw [e0] at l'
    exact ⟨c.W, l', a.fr, a.el, a.lo⟩
  | ob ps =>
    have e0 : σ.set i (σ[i]?.getD none) = σ := by
      obtain ⟨hl, z⟩ := List.getElem?_eq_some_iff.mp h1
      rw [h1]
      refine List.ext_getElem? fun j => ?_
      by_cases q : i = j
      · subst q; rw [List.getElem?_set_self hl, h1]; rfl
      · rw [List.getElem?_set_ne q]
    have l' := a.lk.set (s := .un) (o := σ[i]?.getD none) i trivial rfl
    rw [e0] at l'
    exact ⟨c.W, l', a.fr, a.el, a.lo⟩
theorem ls_frz {i : Nat} {t : DS} (q : liftS K C E (dFrz i t) D σ H) : liftS K C E t D σ H := by
  obtain ⟨c, DD, at_, en, s, e, h⟩ := q
  obtain ⟨W', a⟩ := at_.frz e
  exact ⟨_, DD, a, en.mv, h⟩
theorem ls_aug {i : Nat} {f : D2} {a : DE} {ti : TIp} (hb : Op2 K ti f) (q : liftS K C E (dAug i f a) D σ H) : tAug i (liftE K C E a) ti D σ H := by
  obtain ⟨c, DD, at_, en, x, e, h⟩ := q
  obtain ⟨o, h1, u, rfl, r⟩ := at_.lk.sl i _ e
  refine ⟨u, h1, c, _, at_, h, fun W1 H1 v1 x1 f1 o1 r1 q1 => ?_⟩
  refine hb W1 H1 u x v1 x1 _ _ o1 (r.le f1.le) r1 q1 fun W2 H2 v x f2 o2 r2 q2 => ?_
  have a2 := at_.frm (f1.trans f2) o2
  exact en.nx W2 (c.ρ.set i (.v x)) _ H2 ⟨a2.lk.set (s := .v x) i ⟨v, rfl, r2⟩ rfl, a2.fr, a2.el, a2.lo⟩ q2
/-! loops -/
def dWhileF (t : DT) (b : DS) (D : DEnds) (X : DX) : Nat → Env → Prop
  | 0, _ => False
  | n + 1, ρ => t X ρ fun k => if k = true then b { D with nx := dWhileF t b D X n, ct := dWhileF t b D X n, bk := D.nx } X ρ else D.nx ρ
def dWhile (t : DT) (b : DS) : DS := fun D X ρ => ∃ n, dWhileF t b D X n ρ
theorem ls_while {t : DT} {b : DS} (q : liftS K C E (dWhile t b) D σ H) : tWhile (liftT K C E t) (liftS K C E b) D σ H := by
  obtain ⟨c, DD, at_, en, n, h⟩ := q
  refine ⟨fun m σ' H' => ∃ W' ρ', Cn.At K C E { c with W := W', ρ := ρ' } σ' H' ∧ dWhileF t b DD c.PX m ρ', ⟨n, c.W, c.ρ, at_, h⟩, ?_⟩
  rintro m σ' H' ⟨W', ρ', a, w⟩
  cases m with
  | zero => exact w.elim
  | succ m =>
    refine ⟨_, _, a, w, fun W1 H1 k f o q1 => ?_⟩
    cases k with
    | true =>
      rw [if_pos rfl] at q1 ⊢
      refine ⟨fun σ' H' => ∃ W' ρ', Cn.At K C E { c with W := W', ρ := ρ' } σ' H' ∧ dWhileF t b DD c.PX m ρ', fun σ2 H2 w2 => ⟨m, Nat.lt_succ_self m, w2⟩, ?_⟩
      exact ⟨_, { DD with nx := dWhileF t b DD c.PX m, ct := dWhileF t b DD c.PX m, bk := DD.nx }, a.frm f o, ⟨fun W2 ρ2 σ2 H2 a2 w2 => ⟨W2, ρ2, a2, w2⟩, en.nx, fun W2 ρ2 σ2 H2 a2 w2 => ⟨W2, ρ2, a2, w2⟩, en.rt, en.rn⟩, q1⟩
    | false =>
      rw [if_neg Bool.false_ne_true] at q1 ⊢
      exact en.nx _ _ _ _ (a.frm f o) q1
/-- what is walked, item by item -/
def YD (K : PySem.W.Frag) (W : Wd) (xs : List Dt) : Nat → Hp → V → Hp → Prop := fun i H u H' => (H' = H ∧ ∃ x, xs[i]? = some x ∧ Rp K W u x) ∨
  (∃ T a b va vb, u = .ref T ∧ H T = none ∧ H' = upd H T (.tup [va, vb]) ∧ xs[i]? = some (.tup [a, b]) ∧ Rp K W va a ∧ Rp K W vb b) ∨
  (∃ T1 T2 k a b va vb, u = .ref T2 ∧ H T1 = none ∧ upd H T1 (.tup [va, vb]) T2 = none ∧ H' = upd (upd H T1 (.tup [va, vb])) T2 (.tup [.int k, .ref T1]) ∧ xs[i]? = some (.tup [.int k, .tup [a, b]]) ∧ Rp K W va a ∧ Rp K W vb b)
abbrev DWalk (K : PySem.W.Frag) (W : Wd) (J : It) (xs : List Dt) : Prop := Walk J xs.length (fun H => Same W.F H) (YD K W xs)
def liftI (K : PySem.W.Frag) (C : Ec) (E : XK) (d : DA) : TI := fun σ H R => ∃ (c : Cn) (P : List Dt → Prop), c.At K C E σ H ∧ d c.PX c.ρ P ∧ ∀ W' H' J xs, Frm c.W H W' H' → Ok K W' H' → DWalk K W' J xs → P xs → R J H'
theorem yd_run {W W' : Wd} {xs : List Dt} {i : Nat} {H H' : Hp} {u : V} (y : YD K W xs i H u H') (o : Ok K W' H) (l : W.Le W') : ∃ W2 x, Frm W' H W2 H' ∧ Ok K W2 H' ∧ xs[i]? = some x ∧ Rp K W2 u x := by
  rcases y with ⟨rfl, x, e, r⟩ | ⟨T, a, b, va, vb, rfl, n, rfl, e, ra, rb⟩ | ⟨T1, T2, k, a, b, va, vb, rfl, n1, n2, rfl, e, ra, rb⟩
  · exact ⟨W', x, Frm.refl _ _, o, e, r.le l⟩
  · have f := Frm.kept (o := .tup [va, vb]) o n
    exact ⟨_, _, f, o.kept n, e, .tup keep_at (.cons ((ra.le l).le f.le) (.cons ((rb.le l).le f.le) .nil))⟩
  · have f1 := Frm.kept (W := W') (o := .tup [va, vb]) o n1
    have o1 := Ok.kept (o := .tup [va, vb]) o n1
    have f2 := Frm.kept (o := .tup [.int k, .ref T1]) o1 n2
    have r1 : Rp K (W'.keep T1 (.tup [va, vb])) (.ref T1) (.tup [a, b]) := .tup keep_at (.cons ((ra.le l).le f1.le) (.cons ((rb.le l).le f1.le) .nil))
    exact ⟨_, _, f1.trans f2, Ok.kept (o := .tup [.int k, .ref T1]) o1 n2, e, .tup keep_at (.cons (.int k) (.cons (r1.le f2.le) .nil))⟩
def dLoop (p : Pt) (b : DS) (D : DEnds) (X : DX) : List Dt → Env → Prop
  | [], ρ => D.nx ρ
  | x :: xs, ρ => bindD p x ρ fun ρ' => b { D with nx := dLoop p b D X xs, ct := dLoop p b D X xs, bk := D.nx } X ρ'
def dFor (w : DA) (p : Pt) (b : DS) : DS := fun D X ρ => w X ρ fun xs => dLoop p b D X xs ρ
theorem drop_at {α : Type} {l : List α} {i : Nat} {x : α} (h : l[i]? = some x) : l.drop i = x :: l.drop (i + 1) := by
  obtain ⟨hl, rfl⟩ := List.getElem?_eq_some_iff.mp h
  exact List.drop_eq_getElem_cons hl
theorem ls_for {w : DA} {p : Pt} {b : DS} (q : liftS K C E (dFor w p b) D σ H) : tFor (liftI K C E w) (gOf K p) (liftS K C E b) D σ H := by
  obtain ⟨c, DD, at_, en, h⟩ := q
  refine ⟨c, _, at_, h, fun W1 H1 J xs f1 o1 wk q1 => ?_⟩
  refine for_it wk (fun i σ' H' => ∃ W' ρ', Cn.At K C E { c with Wl := W1, W := W', ρ := ρ' } σ' H' ∧ dLoop p b DD c.PX (xs.drop i) ρ') ⟨W1, c.ρ, ⟨(at_.frm f1 o1).lk, (at_.frm f1 o1).fr, at_.el, Wd.Le.refl _⟩, q1⟩ ?_ ?_ ?_
  · rintro i σ' H' _ ⟨W', ρ', a, _⟩
    exact Same.trans a.lo.sF a.lk.ok.sF
  · rintro i u σ' H' H2 hi ⟨W', ρ', a, q⟩ y
    obtain ⟨W2, x, f2, o2, e, r⟩ := yd_run y a.lk.ok a.lo
    rw [drop_at e] at q
    refine bind_run (c := { c with Wl := W1, W := W2 }) p (a.frm f2 o2) r q fun ρ3 σ3 a3 _ q3 _ => ?_
    refine ⟨_, { DD with nx := dLoop p b DD c.PX (xs.drop (i + 1)), ct := dLoop p b DD c.PX (xs.drop (i + 1)), bk := DD.nx }, a3, ⟨fun W4 ρ4 σ4 H4 a4 w4 => ⟨W4, ρ4, a4, w4⟩, fun W4 ρ4 σ4 H4 a4 w4 => ?_, fun W4 ρ4 σ4 H4 a4 w4 => ⟨W4, ρ4, a4, w4⟩, en.rt, en.rn⟩, q3⟩
    exact en.nx W4 ρ4 σ4 H4 ⟨a4.lk, a4.fr, a4.el, (at_.lo.trans f1.le).trans a4.lo⟩ w4
  · rintro σ' H' ⟨W', ρ', a, q⟩
    rw [List.drop_length] at q
    exact en.nx _ _ _ _ ⟨a.lk, a.fr, a.el, (at_.lo.trans f1.le).trans a.lo⟩ q

/-! comprehensions: the walked things, one behind the other; the found ones from the back -/
def wipeD (ρ : Env) : List Nat → Env
  | [] => ρ
  | v :: vs => (wipeD ρ vs).set v .un
theorem Cn.At.wipe {c : Cn} (a : c.At K C E σ H) : ∀ vs : List Nat, Cn.At K C E { c with ρ := wipeD c.ρ vs } (wipe σ vs) H
  | [] => a
  | v :: vs => by
    have h := Cn.At.wipe a vs
    exact ⟨h.lk.set (s := .un) v trivial rfl, h.fr, h.el, h.lo⟩
theorem wipe_wipe {σ : L2.St} {vs : List Nat} : ∀ {us : List Nat}, (∀ i ∈ us, i ∈ vs) → L2.wipe (L2.wipe σ us) vs = L2.wipe σ vs
  | [], _ => rfl
  | u :: us, h => by
    show L2.wipe ((L2.wipe σ us).set u none) vs = _
    rw [wipe_set (h u List.mem_cons_self)]
    exact wipe_wipe fun i hi => h i (List.mem_cons_of_mem _ hi)
theorem Ok.change {W : Wd} {H : Hp} {p : Addr} {o u : HO} (k : Ok K W H) (n : W.F p = none) (nd : ¬ W.dl p) (h : H p = some u) (w : Ownish u) : Ok K W (upd H p o) :=
  ⟨fun b u z => by rw [upd_ne (fun q => by rw [q, n] at z; cases z)]; exact k.sF b u z, fun d z => by
    obtain ⟨f, m⟩ := k.dc d z
    exact ⟨f, m.mv rfl (Same.refl _) (upd_ne (fun q => nd (by rw [← q]; exact z))) fun c hc => by
      rw [upd_ne (fun q => by
        rw [q, h] at hc
        rw [Option.some.inj hc] at w
        exact ownish_code w)]
      exact hc⟩, k.td, k.nt⟩
theorem SameOwn.wipe {ρ : Env} {σ : L2.St} : ∀ vs : List Nat, SameOwn ρ (wipeD ρ vs) σ (L2.wipe σ vs)
  | [] => SameOwn.refl _ _
  | v :: vs => (SameOwn.wipe vs).trans (SameOwn.set v rfl)
def dComp (p : Pt) (t : DT) (e : DE) (ρ0 : Env) (X : DX) : List Dt → List Dt → (List Dt → Prop) → Prop
  | [], acc, P => P acc
  | x :: xs, acc, P => bindD p x ρ0 fun ρ => t X ρ fun k => if k = true then e X ρ fun y => acc.length ≤ 100000 ∧ dComp p t e ρ0 X xs (acc ++ [y]) P else dComp p t e ρ0 X xs acc P
def dLc (w : DA) (p : Pt) (t : DT) (e : DE) (vs : List Nat) : DN := fun X ρ P => w X ρ fun xs => dComp p t e (wipeD ρ vs) X xs [] P
def dYes : DT := fun _ _ Q => Q true
theorem le_yes {QB : Bool → Hp → Prop} (q : liftT K C E dYes σ H QB) : tYes σ H QB := by
  obtain ⟨c, P, at_, h, k⟩ := q
  exact k _ _ _ (Frm.refl _ _) at_.lk.ok h
theorem le_lc {w : DA} {p : Pt} {t : DT} {e : DE} {vs : List Nat} {Q : VK} (hp : ptIn vs p = true) (q : liftN K C E (dLc w p t e vs) σ H Q) : tLc (liftI K C E w) (gOf K p) (liftT K C E t) (liftE K C E e) vs σ H Q := by
  obtain ⟨c, P, at_, h, k⟩ := q
  refine ⟨c, _, at_, h, fun W1 H1 J xs f1 o1 wk q1 D n => ?_⟩
  have hn0 : H D = none := f1.kp D n
  refine lc_it wk (fun i H' => ∃ W' acc vs', Cn.At K C E { c with Wl := W1, W := W' } σ H' ∧ Frm c.W H W' H' ∧ W'.F D = none ∧ ¬ W'.dl D ∧ H' D = some (.lst vs') ∧ RpL K W' vs' acc ∧ dComp p t e (wipeD c.ρ vs) c.PX (xs.drop i) acc P)
    ⟨W1, [], [], ?_, f1.trans (Frm.laid n), o1.fr n, o1.dice_ne n, upd_same, .nil, q1⟩ ?_ ?_ ?_
  · have a1 := at_.frm f1 o1
    have a2 := a1.frm (Frm.laid (o := .lst []) n) (o1.laid n)
    exact ⟨a2.lk, a2.fr, a2.el, Wd.Le.refl _⟩
  · rintro i H' _ ⟨W', acc, vs', a, _⟩
    exact Same.trans a.lo.sF a.lk.ok.sF
  · rintro i u H' H2 hi ⟨W', acc, vs', a, fr, nF, nd, hD, ra, q⟩ y
    obtain ⟨W2, x, f2, o2, ex, r⟩ := yd_run y a.lk.ok a.lo
    rw [drop_at ex] at q
    have a2 := (a.frm f2 o2).wipe vs
    refine bind_run (c := { c with Wl := W1, W := W2, ρ := wipeD c.ρ vs }) p a2 r q fun ρ3 σ3 a3 w3 q3 _ => ⟨(w3 vs hp).trans (wipe_wipe fun _ h => h), ?_⟩
    · refine ⟨{ c with Wl := W1, W := W2, ρ := ρ3 }, _, a3, q3, fun W4 H4 b f4 o4 q4 => ?_⟩
      have fr4 := (fr.trans f2).trans f4
      have f24 := f2.trans f4
      have a4 : Cn.At K C E { c with Wl := W1, W := W4 } σ H4 := a.frm f24 o4
      cases b with
      | true =>
        rw [if_pos rfl] at q4
        refine iteT ?_
        refine ⟨{ c with Wl := W1, W := W4, ρ := ρ3 }, _, a3.frm f4 o4, q4, fun W5 H5 v y f5 o5 r5 ⟨hz, q5⟩ => ?_⟩
        have f25 := f24.trans f5
        have hD5 := f25.sH D _ hD nd
        have nF5 := f25.nF D _ hD nd trivial nF
        have nd5 := f25.ndl hD nd
        have ra5 := ra.le f25.le
        have fr5 := fr4.trans f5
        have up : Frm c.W H W5 (upd H5 D (.lst (vs' ++ [v]))) := ⟨fr5.le, fun b o hb hd => by rw [upd_ne (ne_new hn0 hb)]; exact fr5.sH b o hb hd, fr5.nF, fr5.dn, fun b hb => by
          by_cases e : b = D
          · rw [e]; exact hn0
          · rw [upd_ne e] at hb; exact fr5.kp b hb⟩
        refine ⟨vs', hD5, Nat.lt_of_le_of_lt (by rw [ra.length]; exact hz) (by decide), W5, acc ++ [y], vs' ++ [v], ?_, up, nF5, nd5, upd_same, ra5.append (.cons r5 .nil), q5⟩
        have au := at_.frm up (o5.change nF5 nd5 hD5 trivial)
        exact ⟨au.lk, au.fr, at_.el, a.lo.trans f25.le⟩
      | false =>
        rw [if_neg Bool.false_ne_true] at q4
        refine iteF ?_
        exact ⟨W4, acc, vs', a4, fr4, f24.nF D _ hD nd trivial nF, f24.ndl hD nd, f24.sH D _ hD nd, ra.le f24.le, q4⟩
  · rintro H' ⟨W', acc, vs', a, fr, nF, nd, hD, ra, q⟩
    rw [List.drop_length] at q
    exact k W' H' D vs' acc fr a.lk.ok hn0 nF nd hD ra q
end
end Dx
end
section
/-! an own error whose __init__ hands a text to the base's and keeps one field; what does not name the field -/
namespace PySem
namespace OwnX
open PySem.W PySem.Calls PyProof.Rows PySem.HandSPX
/-- an exception made, its base's __init__ run, the field kept -/
structure InitEnd (f : Str) (h h' : Heap) (x C dx t1 : Addr) (v : Value) : Prop where
  keep : ∀ b o, b ≠ x → h.get? b = some o → h'.get? b = some o
  obj : h'.get? x = some { cls := .ref C, dict := some dx, data := .fields #[.ref t1, .none, .none, .none, .bool false, .none] }
  dbig : h.objs.size ≤ dx
  dne : dx ≠ x
  ns : h'.Ns1 dx (fun y => if y = f then some v else none)
structure OwnMade (f : Str) (h h' : Heap) (e C d : Addr) (v : Value) : Prop where
  keep : ∀ b o, h.get? b = some o → h'.get? b = some o
  new : h.objs.size ≤ e
  obj : ∃ oe vs, h'.get? e = some oe ∧ oe.cls = .ref C ∧ oe.dict = some d ∧ oe.data = .fields vs ∧ vs[1]? = some .none ∧ vs[2]? = some .none ∧ 4 < vs.size
  dbig : h.objs.size ≤ d
  dne : d ≠ e
  ns : h'.Ns1 d (fun y => if y = f then some v else none)
theorem kept_but {K : Frag} {h h' : Heap} {x : Addr} (X : K.In h) (hx : K.lookup x = none) (k : ∀ b o, b ≠ x → h.get? b = some o → h'.get? b = some o) : K.In h' := fun a o e =>
  k a o (fun z => by rw [z, hx] at e; cases e) (X a o e)
/-- the tail behind own classes, in both of the library's words -/
theorem tail_of : ∀ l : List Value, refsVE l = true → excTail veTail l = true := by
  intro l
  induction l with
  | nil => intro e; exact absurd e (by decide)
  | cons v r ih =>
    intro e
    rcases refsVE_cases (v :: r) e with ⟨c, r', q, z⟩ | q
    · obtain ⟨rfl, rfl⟩ := List.cons.inj q
      exact ih z
    · rw [q]; decide
theorem init_in {K : Frag} {C N : Addr} {nm q : Str} {bs bm : List Value} {hd : Bool} {sn : List Str} {sub : List Value} {ab : Bool} {col : Option Bool} {dd : Option Addr} {k0 k1 k2 k3 k5 : Option Value}
    (h : K.lookup C = some (excClassObj nm q C N bs bm hd sn sub ab col dd k0 k1 k2 k3 k5 "ValueError.__new__")) (t : refsVE bm = true) : excInitIn K C veTail "ValueError.__new__" = true := by
  unfold excInitIn
  rw [h]
  show (C == C && "ValueError.__new__" == "ValueError.__new__" && !false && excTail veTail bm) = true
  rw [tail_of bm t]
  simp
end OwnX
end PySem
namespace L2
open PySem PySem.Spec PyProof.Rows
/-- an own error class with one field: what its call makes -/
structure OwnC (P : Program) (w : World) (K : PySem.W.Frag) (mg : Str → Option Value) (cn f : Str) (C : Addr) : Prop where
  gC : mg cn = some (.ref C)
  kC : PySem.W.keepIn K (.ref C) = true
  exC : PySem.W.subIn K (.ref C) (.type "BaseException") = some true
  tyC : PySem.W.typeIn K (.ref C) = some (.type "type")
  xf : XfC K C
  noN : PySem.W.findIn K (.ref C) f = some none
  made : ∀ {A : Around} {R : Result → Shared → Prop} {s : Shared} {v : Value}, K.In s.heap → s.heap.Ns mainGlobals mg → (∃ mb, s.heap.Ns builtinsNs mb ∧ ∀ y : Str, y ≠ "__name__" → mb y = bootBuiltins y) → s.heap.NoLimit → A.depth + 1 < recursionLimit →
    (∀ h' tk e d, PySem.OwnX.OwnMade f s.heap h' e C d v → R (.ok (.ret (.ref e))) { s with heap := h', toks := tk }) → codeAny (model P w) A (.call (.ref C) ⟨[v], []⟩) R s
theorem relO_one {v : V} {u : Value} {f : Str} (r : RelV v u) (g : Str) : RelO (List.lookup g [(f, v)]) (if g = f then some u else none) := by
  by_cases e : g = f
  · subst e
    rw [if_pos rfl, show List.lookup g [(g, v)] = some v by simp [List.lookup]]
    exact r
  · rw [if_neg e, show List.lookup g [(f, v)] = none by simp [List.lookup, show (g == f) = false by simpa using e]]
    exact True.intro
section
variable {X : Cx} {C : Addr} {cn f : Str}
/-- the class called on one thing: a new error, its dict at d -/
def tMkF (C : Addr) (f : Str) (ta : TA) : St → Hp → XK → Prop := fun σ H Q => ta σ H fun vs H1 => ∃ v, vs = [v] ∧ ∀ d, H1 d = none → Q (.ref C) (some d) (upd H1 d (.xd [(f, v)]))
theorem pmk_f {a : Expr} {ta : TA} {p pos : Pos} {k : Nat} (T : OwnC X.prog X.w X.K X.mg cn f C) (hr : Room k X.A) (ha : PA X [a] ta) (hg : Gl X cn) (hdb : (cn == ("__debug__" : Str)) = false := by decide)
    (he : starEach (a :: []) X.env = (false, eval a X.env) :: starEach [] X.env := by rfl) (hpl : (backTo pos (starEach [] X.env)).any (·.1) = false := by rfl) :
    PMk X (.Call (.Name cn p) [a] [] pos) (tMkF C f ta) := fun pins s σ H Q I h => by
  refine wpAny_Call_Name_kw (ld_glob I hg T.gC ?_ hdb)
  refine PySem.W.callWith_K (h₀ := X.base) I.ok.mod.kin T.kC (thn (ha.run pos pins s σ H _ I h) fun us s1 ⟨vs, H1, I1, r1, v, ev, q1⟩ => ⟨I1.kIn, ?_⟩) he hpl
  subst ev
  cases r1 with
  | @cons _ v' _ us' rv rn =>
    cases rn
    show wpAny _ _ (call (.ref C) [v']) _ _ _
    obtain ⟨mb, hB, hb⟩ := I1.mod.blt
    have G1 := I1.mod.glob.keeps I1.bk
    have B1 : ∃ mb, s1.heap.Ns builtinsNs mb ∧ ∀ y : Str, y ≠ "__name__" → mb y = bootBuiltins y := ⟨mb, hB.keeps I1.bk, hb⟩
    have hlim := I1.nolimit
    obtain ⟨hp, g, dr, tk, os⟩ := s1
    refine wpAny_call (T.made I1.kIn G1 B1 hlim (by have := hr.dp; omega) fun h' tk' e d M => ?_)
    obtain ⟨oe, fv, hoe, hc, hd, hdat, h1, _⟩ := M.obj
    obtain ⟨G', g1, g2⟩ := restrict h' fun b => decide (b ≠ e)
    have ge : G'.get? e = none := g2 e (by simp)
    have gk : ∀ b, b ≠ e → G'.get? b = h'.get? b := fun b hb => g1 b (decide_eq_true hb)
    have J : Inv X pins σ (upd H1 d (.xd [(f, v)])) ⟨G', g, dr, tk', os⟩ := I1.laid (t' := tk') (fun b o q => (gk b (Nat.ne_of_lt (Nat.lt_of_lt_of_le (Heap.lt_size q) M.new))).trans (M.keep b o q)) M.dbig
      ⟨_, M.ns.at (fun o q => (gk d M.dne).trans q), relO_one rv⟩
    refine ⟨e, oe, fv, ⟨G', g, dr, tk', os⟩, _, .ref C, some d, rfl, J, fun b o q => ?_, ge, hoe, ⟨hc, hd⟩, hdat, h1, ?_, rfl, I1.bare, raises_own T.exC T.tyC, q1 d (I1.hok.fresh M.dbig)⟩
    · by_cases hb : b = e
      · subst hb
        have q' : G'.get? b = some o := q
        rw [ge] at q'; cases q'
      · exact (gk b hb).symm.trans q
    · rw [upd_ne (Ne.symm M.dne)]
      exact I1.hok.fresh M.new
/-- raise -/
def tRaiseF (C : Addr) (f : Str) (W : WX) (ta : TA) : TS := fun _ σ H => tMkF C f ta σ H fun cls d H' => W cls d σ H'
theorem ps_raiseF {a : Expr} {ta : TA} {W : WX} {p pos pos2 : Pos} {k : Nat} (hc : X.calm = true) (tk : Takes X W) (T : OwnC X.prog X.w X.K X.mg cn f C) (hr : Room k X.A) (ha : PA X [a] ta) (hg : Gl X cn) (hdb : (cn == ("__debug__" : Str)) = false := by decide)
    (he : starEach (a :: []) X.env = (false, eval a X.env) :: starEach [] X.env := by rfl) (hpl : (backTo pos (starEach [] X.env)).any (·.1) = false := by rfl) :
    PS X (.Raise (some (.Call (.Name cn p) [a] [] pos)) none pos2) (tRaiseF C f W ta) := ps_raise hc tk (pmk_f T hr ha hg hdb he hpl)
end
end L2
end
section
/-! the program's own errors: one field each, kept behind the base's __init__ -/
namespace PySem
namespace Own_left
open PySem.W PySem.Calls PyProof.Rows PySem.HandSPX PySem.OwnX
def iA (p1 p2 : Pos) : Arguments := { posonlyargs := [], args := [{ arg := "self", annotation := none, pos := p1 }, { arg := "left", annotation := none, pos := p2 }], vararg := none, kwonlyargs := [], kw_defaults := [], kwarg := none, defaults := [] }
def iB (m : Str) (a1 a2 a3 a4 a5 a6 a7 a8 a9 a10 : Pos) : List Stmt := [.Expr (.Call (.Attribute (.Call (.Name "super" a1) [] [] a2) "__init__" a3) [.Constant (.str m) 0 a4] [] a5) a6, .Assign [.Attribute (.Name "self" a7) "left" a8] (.Name "left" a9) a10]
def iS : Scope := { kind := .function, names := [(PySem.Str.ofString "self", .local), (PySem.Str.ofString "left", .local), (PySem.Str.ofString "__class__", .free), (PySem.Str.ofString "super", .globalImplicit)], isGenerator := false, isCoroutine := false, more := [] }
/-- how the call of the base's __init__ is read, whatever the frame -/
def Reads (m : Str) (a1 a2 a3 a4 a5 : Pos) : Prop := ∃ pl : Sem Bool, ∀ env : Env, eval (.Call (.Attribute (.Call (.Name "super" a1) [] [] a2) "__init__" a3) [.Constant (.str m) 0 a4] [] a5) env = (do
      let ov ← attributeBase (.Call (.Name "super" a1) [] [] a2) "__init__" env (eval (.Call (.Name "super" a1) [] [] a2) env)
      standAt a3.atName
      let (f, first) ← holding [ov] (getMethod ov "__init__" pl)
      callWith a5 f first (backTo a5 (starEach [.Constant (.str m) 0 a4] env)) [])
structure Txt (prog : Program) (K : Frag) (mg : Str → Option Value) (cn : Str) (C fI : Addr) : Prop where
  gC : mg cn = some (.ref C)
  noS : mg "super" = none
  cls : ∃ nm q N bs bm sn sub ab col dd k0 k1 k2 k3 k5, K.lookup C = some (excClassObj nm q C N bs bm true sn sub ab col dd k0 k1 k2 k3 k5 "ValueError.__new__") ∧ refsVE bm = true
  sa : findIn K (.ref C) "__setattr__" = some (some (.builtin "object.__setattr__"))
  xf : L2.XfC K C
  noN : findIn K (.ref C) "left" = some none
  iC : findIn K (.ref C) "__init__" = some (some (.ref fI))
  tC : typeIn K (.ref fI) = some (.type "function")
  kC : keepIn K (.ref C) = true
  exC : subIn K (.ref C) (.type "BaseException") = some true
  tyC : typeIn K (.ref C) = some (.type "type")
  sup : ks_superIn K C C "__init__" = some (some (.builtin "ValueError.__init__"))
  sV : subIn K (.ref C) (.type "ValueError") = some true
  mC : mroIn K C (.ref C) = some true
  any : nsIn K cStatics "thirdparty.any" = some none
  top : (prog.main.scope.names.lookup ("super" : Str)).isSome = false
  fn : ∃ (cda cc : Addr) (m qual : Str) (oc : Value) (od : Option Addr) (doc pm : Value) (an : Option Addr) (ct : Value) (osl : Array (Option Value)) (p1 p2 a1 a2 a3 a4 a5 a6 a7 a8 a9 a10 : Pos) (ccl : Value) (cdd : Option Addr) (vs : Array Value) (ccs : Array (Option Value)) (file : Str) (tf : Tok)
    (cl : Value) (cld : Option Addr) (csl : Array (Option Value)),
    K.lookup fI = some ⟨oc, od, .func (ksFn "__init__" qual (iA p1 p2) (iB m a1 a2 a3 a4 a5 a6 a7 a8 a9 a10) iS .none .none doc pm an (.ref cda) ct cc), osl⟩ ∧ codeIn K (.ref cda) qual = true ∧
    K.lookup cda = some ⟨ccl, cdd, .fields vs, ccs⟩ ∧ vs[2]? = some (.str file tf) ∧ ((prog.main.file : Str) == file) = true ∧ K.lookup cc = some ⟨cl, cld, .cell (some (.ref C)), csl⟩ ∧ Reads m a1 a2 a3 a4 a5
section
variable {prog : Program} {w : World} {A : Around} {E : Value → Shared → Prop} {R : Result → Shared → Prop} {s : Shared} {K : Frag} {mg : Str → Option Value} {cn : Str} {C fI : Addr}
theorem own_init (T : Txt prog K mg cn C fI) {x t0 : Addr} {v : Value} (X : K.In s.heap) (G : s.heap.Ns mainGlobals mg) (B : ∃ mb, s.heap.Ns builtinsNs mb ∧ ∀ y : Str, y ≠ "__name__" → mb y = bootBuiltins y) (hlim : s.heap.NoLimit)
    (hx : s.heap.get? x = some (excO C t0)) (hnK : ∀ o, K.lookup x ≠ some o) (hroom : A.depth < recursionLimit) (hq : ∀ h' tk dx t1, InitEnd "left" s.heap h' x C dx t1 v → R (.ok (.ret .none)) { s with heap := h', toks := tk }) :
    codeAny (model prog w) A (.call (.ref fI) ⟨[.ref x, v], []⟩) R s := by
  obtain ⟨cda, cc, m, qual, oc, od, doc, pm, an, ct, osl, p1, p2, a1, a2, a3, a4, a5, a6, a7, a8, a9, a10, ccl, cdd, vs, ccs, file, tf, cl, cld, csl, ho, hcd, hcda, hvs, hfile, hcc, pl, hrd⟩ := T.fn
  obtain ⟨nm, q, N, bs, bm, sn, sub, ab, col, dd, k0, k1, k2, k3, k5, hC, hbm⟩ := T.cls
  obtain ⟨mb, hB, hb⟩ := B
  have hcl : clsIn K C = some { name := nm, bases := bs, mro := .ref C :: bm, ns := N, qualname := q, hasDict := true, slotNames := sn, subclasses := sub, abstract := ab, collection := col, hasDel := false } := by unfold clsIn; rw [hC] <;> rfl
  refine ks_codeAny_call_defAt (fd := ksFn "__init__" qual (iA p1 p2) (iB m a1 a2 a3 a4 a5 a6 a7 a8 a9 a10) iS .none .none doc pm an (.ref cda) ct cc) (body := iB m a1 a2 a3 a4 a5 a6 a7 a8 a9 a10) (binds := [("self", .ref x), ("left", v)])
    hroom (X _ _ ho) rfl hlim (codeRec_of X hcd) rfl (BindsTo.of_eq (by first | rfl | with_unfolding_all rfl)) (show ∀ y ∈ iS.names, y.2 ≠ .cell by decide) (fun y hy => by
      simp only [List.mem_cons, List.not_mem_nil, or_false] at hy
      rcases hy with rfl | rfl
      · exact (by decide : iS.names.lookup ("self" : Str) = some .local)
      · exact (by decide : iS.names.lookup ("left" : Str) = some .local)) (fun h₁ hns k => ?_)
  have X₁ : K.In h₁ := X.keeps k
  have hx₁ := k _ _ hx
  have hxL : x ≠ s.heap.objs.size := Nat.ne_of_lt (Heap.lt_size hx)
  have hself : ([("self", Value.ref x), ("left", v)] : List (Str × Value)).reverse.lookup ("self" : Str) = some (.ref x) := by
    simp only [List.reverse_cons, List.reverse_nil, List.nil_append, List.cons_append, List.lookup, show (("self" : Str) == ("left" : Str)) = false by decide, show (("self" : Str) == ("self" : Str)) = true by decide]
  have hfld : ([("self", Value.ref x), ("left", v)] : List (Str × Value)).reverse.lookup ("left" : Str) = some v := by simp [List.lookup]
  have I₁ : InstAt h₁ x (excO C t0) C none := ⟨hx₁, rfl, rfl, trivial⟩
  have hne := ks_ne X₁ I₁ hcl
  refine ks_wpAt_execs_cons (ks_wpAt_Expr_any (ks_wpAt_MethodCall ?_ (hrd _)))
  refine ks_wpAt_super_base (by first | rfl | with_unfolding_all rfl | kernel_rfl) (by first | rfl | with_unfolding_all rfl | kernel_rfl) (by decide) rfl (X₁ _ _ ho) rfl rfl rfl (X₁ _ _ hcda) rfl hvs hfile T.top ?_
  refine ks_loadName_global rfl (by first | rfl | with_unfolding_all rfl | kernel_rfl) (loadGlobal_builtin (G.keeps k) T.noS (hB.keeps k) ((hb "super" (by decide)).trans (by first | boot_by_name | rfl | kernel_rfl)) ⟨rfl, ?_⟩)
  refine wpAny_loadName_free rfl (by first | rfl | with_unfolding_all rfl | kernel_rfl) (by first | rfl | with_unfolding_all rfl | kernel_rfl) ⟨_, X₁ _ _ hcc, rfl⟩ ?_
  refine wpAny_loadName_local rfl (by first | rfl | with_unfolding_all rfl | kernel_rfl) hns hself ?_
  refine ks_wpAny_isType_cls (X₁ _ _ hC) rfl ⟨rfl, ?_⟩
  refine ks_wpAny_call_super (X₁ _ _ hC) rfl hx₁ rfl (fun c e => by cases e) (looks_mroIn X₁ T.mC) fun h₂ e₂ k₂ => ?_
  have X₂ : K.In h₂ := X₁.keeps k₂
  have I₂ : InstAt h₂ x (excO C t0) C none := ⟨k₂ _ _ hx₁, rfl, rfl, trivial⟩
  have hsup := T.sup
  unfold ks_superIn at hsup
  rw [hcl] at hsup
  refine kxs_getMethod kxs_ValueError e₂ (looks_opaque X₂ T.any) (l₀ := .ref C :: bm) (fun A Q E s k q => wpAny_bind ((looks_clsIn X₂ hcl) A _ E s k (wpAny_pure q))) rfl X₂ hsup (I₂.type.andThen (looks_subIn X₂ T.sV)) hne (by decide) ?_
  have hnx : K.lookup x = none := by
    cases e : K.lookup x with
    | none => rfl
    | some o => exact (hnK o e).elim
  have up : ∀ b o, h₁.get? b = some o → (h₂.push (kxs_mw "ValueError.__init__" x)).get? b = some o := fun b o e => Heap.get?_push_of_some _ (k₂ _ _ e)
  have hu : (h₂.push (kxs_mw "ValueError.__init__" x)).get? h₂.objs.size = some (kxs_mw "ValueError.__init__" x) := Heap.get?_push_at rfl rfl
  have l1 : s.heap.objs.size < h₂.objs.size := by
    obtain ⟨oL, _, _, hL, _⟩ := hns
    exact Heap.lt_size (k₂ _ _ hL)
  have F₃ : Fr (hideAll s.heap [x]) s.heap.objs.size (h₂.push (kxs_mw "ValueError.__init__" x)) _ := ⟨hns.keeps up, fun b o e => up _ _ (k _ _ (of_hideAll _ e)), Nat.le_of_eq (hideAll_size _ _)⟩
  have N₃ : News (hideAll s.heap [x]) s.heap.objs.size (h₂.push (kxs_mw "ValueError.__init__" x)) [(h₂.objs.size, kxs_mw "ValueError.__init__" x), (x, excObj C t0 none .none)] := fun p hp => by
    rcases List.mem_cons.mp hp with rfl | hp
    · refine ⟨hu, fun z => Nat.ne_of_gt l1 z, ?_⟩
      cases e : (hideAll s.heap [x]).get? h₂.objs.size with
      | none => rfl
      | some o =>
        exact absurd (Nat.lt_trans (Heap.lt_size (of_hideAll _ e)) l1) (Nat.lt_irrefl _)
    · obtain rfl := List.mem_singleton.mp hp
      exact ⟨up _ _ hx₁, hxL, hideAll_none _ (by simp)⟩
  have X₀ : K.In (hideAll s.heap [x]) := fun a o e => hideAll_get _ (X _ _ e) fun z => by
    rw [List.mem_singleton.mp z, hnx] at e; cases e
  have xu : h₂.objs.size ≠ x := fun z => by
    have z2 := Heap.lt_size (k₂ _ _ hx₁)
    rw [z] at z2
    exact absurd z2 (Nat.lt_irrefl _)
  refine kxs_callWith1 (i := "ValueError.__init__") (x := x) N₃ (by simp) (spliced_more (wpAny_Constant_str (spliced_none ⟨hu, ?_⟩)))
  refine kxs_call F₃ X₀ N₃ F.excBase_ValueError (init_in hC hbm) (by simp) (.tail xu (.head (by simp))) (by rw [sizeLine_eq]; exact (by decide : 1 ≤ 16777216)) fun t1 h₄ F₄ N₄ _ => ?_
  have hx₄ : h₄.get? x = some (excO C t1) := (N₄ (x, excObj C t1 none .none) (by simp)).1
  show _root_.PySem.wpAt _ _ _ _ _ _ _
  have hns₄ := F₄.ns
  have X₄ : K.In h₄ := X₀.keeps F₄.keep
  have I₄ : InstAt h₄ x (excO C t1) C none := ⟨hx₄, rfl, rfl, trivial⟩
  refine ks_wpAt_execs_cons (wpAt_of_wpAny (plainObj_wpAny_Assign_Attribute ?_))
  refine ESX.ldL hns₄ hfld (ESX.ldL hns₄ hself ?_)
  refine set_plain X₄ I₄ T.sa ?_
  refine exc_osa X₄ hx₄ hcl (show refsVE (.ref C :: bm) = true from hbm) rfl T.noN (fun h₅ tk₅ dx k₅ dn dne hx₅ hn₅ => ?_)
  show _root_.PySem.wpAt _ _ _ _ _ _ _
  have z4 : s.heap.objs.size < h₄.objs.size := hns₄.lt
  refine wpAt_of_wpAny (wpAny_execs_nil (hq h₅ tk₅ dx t1 ⟨fun b o hb e => k₅ b o hb (F₄.keep b o (hideAll_get _ e (by simpa using hb))), hx₅, Nat.le_of_lt (Nat.lt_of_lt_of_le z4 dn), dne, hn₅⟩))
theorem own_made (T : Txt prog K mg cn C fI) {v : Value} (X : K.In s.heap) (G : s.heap.Ns mainGlobals mg) (B : ∃ mb, s.heap.Ns builtinsNs mb ∧ ∀ y : Str, y ≠ "__name__" → mb y = bootBuiltins y) (hlim : s.heap.NoLimit) (hroom : A.depth + 1 < recursionLimit)
    (hq : ∀ h' tk e d, OwnMade "left" s.heap h' e C d v → R (.ok (.ret (.ref e))) { s with heap := h', toks := tk }) :
    codeAny (model prog w) A (.call (.ref C) ⟨[v], []⟩) R s := by
  obtain ⟨nm, q, N, bs, bm, sn, sub, ab, col, dd, k0, k1, k2, k3, k5, hC, hbm⟩ := T.cls
  obtain ⟨hp, g, dr, tk, os⟩ := s
  have k : ∀ b o, hp.get? b = some o → ((hp.push (kdv_tup [v])).push (excO C hp.objs.size)).get? b = some o := fun b o e => Heap.get?_push_of_some _ (Heap.get?_push_of_some _ e)
  have hget : ((hp.push (kdv_tup [v])).push (excO C hp.objs.size)).get? (hp.objs.size + 1) = some (excO C hp.objs.size) := by heap_get
  have hnx : ∀ o, K.lookup (hp.objs.size + 1) ≠ some o := fun o e => by
    have z : hp.get? (hp.objs.size + 1) = some o := X _ _ e
    exact absurd (Nat.lt_of_succ_lt (Heap.lt_size z)) (Nat.lt_irrefl _)
  obtain ⟨mb, hB, hb⟩ := B
  refine call_own F.excBase_ValueError (fun X => refsVE_contains X bm hbm) (X _ _ hC) (looks_findIn X T.iC) (fun self => bind_fn X self T.tC) (by rw [sizeLine_eq]; exact (by decide : 1 ≤ 16777216)) ?_
  refine own_init (s := ⟨(hp.push (kdv_tup [v])).push (excO C hp.objs.size), g, dr, tk, os⟩) T (X.keeps k) (G.keeps k) ⟨mb, hB.keeps k, hb⟩ (hlim.keeps k) hget hnx ?_ fun h' tk' dx t1 ⟨k', hx, dn, dne, hns⟩ => ?_
  · show A.depth + 1 < recursionLimit
    exact hroom
  · have old : ∀ b o, hp.get? b = some o → h'.get? b = some o := fun b o e => k' b o (Nat.ne_of_lt (Nat.lt_succ_of_lt (Heap.lt_size e))) (k b o e)
    have z : hp.objs.size ≤ dx := by
      have q := dn
      rw [Heap.size_push, Heap.size_push] at q
      omega
    exact ⟨rfl, hq h' tk' (hp.objs.size + 1) dx ⟨old, Nat.le_succ _, ⟨_, _, hx, rfl, rfl, rfl, rfl, rfl, by show 4 < 6; decide⟩, z, dne, hns⟩⟩
theorem own_c (T : Txt prog K mg cn C fI) : L2.OwnC prog w K mg cn "left" C := ⟨T.gC, T.kC, T.exC, T.tyC, T.xf, T.noN, fun X G B hlim hroom hq => own_made T X G B hlim hroom hq⟩
end
end Own_left
end PySem
namespace PySem
namespace Own_why
open PySem.W PySem.Calls PyProof.Rows PySem.HandSPX PySem.OwnX
def iA (p1 p2 : Pos) : Arguments := { posonlyargs := [], args := [{ arg := "self", annotation := none, pos := p1 }, { arg := "why", annotation := none, pos := p2 }], vararg := none, kwonlyargs := [], kw_defaults := [], kwarg := none, defaults := [] }
def iB (m : Str) (a1 a2 a3 a4 a5 a6 a7 a8 a9 a10 : Pos) : List Stmt := [.Expr (.Call (.Attribute (.Call (.Name "super" a1) [] [] a2) "__init__" a3) [.Constant (.str m) 0 a4] [] a5) a6, .Assign [.Attribute (.Name "self" a7) "why" a8] (.Name "why" a9) a10]
def iS : Scope := { kind := .function, names := [(PySem.Str.ofString "self", .local), (PySem.Str.ofString "why", .local), (PySem.Str.ofString "__class__", .free), (PySem.Str.ofString "super", .globalImplicit)], isGenerator := false, isCoroutine := false, more := [] }
/-- how the call of the base's __init__ is read, whatever the frame -/
def Reads (m : Str) (a1 a2 a3 a4 a5 : Pos) : Prop := ∃ pl : Sem Bool, ∀ env : Env, eval (.Call (.Attribute (.Call (.Name "super" a1) [] [] a2) "__init__" a3) [.Constant (.str m) 0 a4] [] a5) env = (do
      let ov ← attributeBase (.Call (.Name "super" a1) [] [] a2) "__init__" env (eval (.Call (.Name "super" a1) [] [] a2) env)
      standAt a3.atName
      let (f, first) ← holding [ov] (getMethod ov "__init__" pl)
      callWith a5 f first (backTo a5 (starEach [.Constant (.str m) 0 a4] env)) [])
structure Txt (prog : Program) (K : Frag) (mg : Str → Option Value) (cn : Str) (C fI : Addr) : Prop where
  gC : mg cn = some (.ref C)
  noS : mg "super" = none
  cls : ∃ nm q N bs bm sn sub ab col dd k0 k1 k2 k3 k5, K.lookup C = some (excClassObj nm q C N bs bm true sn sub ab col dd k0 k1 k2 k3 k5 "ValueError.__new__") ∧ refsVE bm = true
  sa : findIn K (.ref C) "__setattr__" = some (some (.builtin "object.__setattr__"))
  xf : L2.XfC K C
  noN : findIn K (.ref C) "why" = some none
  iC : findIn K (.ref C) "__init__" = some (some (.ref fI))
  tC : typeIn K (.ref fI) = some (.type "function")
  kC : keepIn K (.ref C) = true
  exC : subIn K (.ref C) (.type "BaseException") = some true
  tyC : typeIn K (.ref C) = some (.type "type")
  sup : ks_superIn K C C "__init__" = some (some (.builtin "ValueError.__init__"))
  sV : subIn K (.ref C) (.type "ValueError") = some true
  mC : mroIn K C (.ref C) = some true
  any : nsIn K cStatics "thirdparty.any" = some none
  top : (prog.main.scope.names.lookup ("super" : Str)).isSome = false
  fn : ∃ (cda cc : Addr) (m qual : Str) (oc : Value) (od : Option Addr) (doc pm : Value) (an : Option Addr) (ct : Value) (osl : Array (Option Value)) (p1 p2 a1 a2 a3 a4 a5 a6 a7 a8 a9 a10 : Pos) (ccl : Value) (cdd : Option Addr) (vs : Array Value) (ccs : Array (Option Value)) (file : Str) (tf : Tok)
    (cl : Value) (cld : Option Addr) (csl : Array (Option Value)),
    K.lookup fI = some ⟨oc, od, .func (ksFn "__init__" qual (iA p1 p2) (iB m a1 a2 a3 a4 a5 a6 a7 a8 a9 a10) iS .none .none doc pm an (.ref cda) ct cc), osl⟩ ∧ codeIn K (.ref cda) qual = true ∧
    K.lookup cda = some ⟨ccl, cdd, .fields vs, ccs⟩ ∧ vs[2]? = some (.str file tf) ∧ ((prog.main.file : Str) == file) = true ∧ K.lookup cc = some ⟨cl, cld, .cell (some (.ref C)), csl⟩ ∧ Reads m a1 a2 a3 a4 a5
section
variable {prog : Program} {w : World} {A : Around} {E : Value → Shared → Prop} {R : Result → Shared → Prop} {s : Shared} {K : Frag} {mg : Str → Option Value} {cn : Str} {C fI : Addr}
theorem own_init (T : Txt prog K mg cn C fI) {x t0 : Addr} {v : Value} (X : K.In s.heap) (G : s.heap.Ns mainGlobals mg) (B : ∃ mb, s.heap.Ns builtinsNs mb ∧ ∀ y : Str, y ≠ "__name__" → mb y = bootBuiltins y) (hlim : s.heap.NoLimit)
    (hx : s.heap.get? x = some (excO C t0)) (hnK : ∀ o, K.lookup x ≠ some o) (hroom : A.depth < recursionLimit) (hq : ∀ h' tk dx t1, InitEnd "why" s.heap h' x C dx t1 v → R (.ok (.ret .none)) { s with heap := h', toks := tk }) :
    codeAny (model prog w) A (.call (.ref fI) ⟨[.ref x, v], []⟩) R s := by
  obtain ⟨cda, cc, m, qual, oc, od, doc, pm, an, ct, osl, p1, p2, a1, a2, a3, a4, a5, a6, a7, a8, a9, a10, ccl, cdd, vs, ccs, file, tf, cl, cld, csl, ho, hcd, hcda, hvs, hfile, hcc, pl, hrd⟩ := T.fn
  obtain ⟨nm, q, N, bs, bm, sn, sub, ab, col, dd, k0, k1, k2, k3, k5, hC, hbm⟩ := T.cls
  obtain ⟨mb, hB, hb⟩ := B
  have hcl : clsIn K C = some { name := nm, bases := bs, mro := .ref C :: bm, ns := N, qualname := q, hasDict := true, slotNames := sn, subclasses := sub, abstract := ab, collection := col, hasDel := false } := by unfold clsIn; rw [hC] <;> rfl
  refine ks_codeAny_call_defAt (fd := ksFn "__init__" qual (iA p1 p2) (iB m a1 a2 a3 a4 a5 a6 a7 a8 a9 a10) iS .none .none doc pm an (.ref cda) ct cc) (body := iB m a1 a2 a3 a4 a5 a6 a7 a8 a9 a10) (binds := [("self", .ref x), ("why", v)])
    hroom (X _ _ ho) rfl hlim (codeRec_of X hcd) rfl (BindsTo.of_eq (by first | rfl | with_unfolding_all rfl)) (show ∀ y ∈ iS.names, y.2 ≠ .cell by decide) (fun y hy => by
      simp only [List.mem_cons, List.not_mem_nil, or_false] at hy
      rcases hy with rfl | rfl
      · exact (by decide : iS.names.lookup ("self" : Str) = some .local)
      · exact (by decide : iS.names.lookup ("why" : Str) = some .local)) (fun h₁ hns k => ?_)
  have X₁ : K.In h₁ := X.keeps k
  have hx₁ := k _ _ hx
  have hxL : x ≠ s.heap.objs.size := Nat.ne_of_lt (Heap.lt_size hx)
  have hself : ([("self", Value.ref x), ("why", v)] : List (Str × Value)).reverse.lookup ("self" : Str) = some (.ref x) := by
    simp only [List.reverse_cons, List.reverse_nil, List.nil_append, List.cons_append, List.lookup, show (("self" : Str) == ("why" : Str)) = false by decide, show (("self" : Str) == ("self" : Str)) = true by decide]
  have hfld : ([("self", Value.ref x), ("why", v)] : List (Str × Value)).reverse.lookup ("why" : Str) = some v := by simp [List.lookup]
  have I₁ : InstAt h₁ x (excO C t0) C none := ⟨hx₁, rfl, rfl, trivial⟩
  have hne := ks_ne X₁ I₁ hcl
  refine ks_wpAt_execs_cons (ks_wpAt_Expr_any (ks_wpAt_MethodCall ?_ (hrd _)))
  refine ks_wpAt_super_base (by first | rfl | with_unfolding_all rfl | kernel_rfl) (by first | rfl | with_unfolding_all rfl | kernel_rfl) (by decide) rfl (X₁ _ _ ho) rfl rfl rfl (X₁ _ _ hcda) rfl hvs hfile T.top ?_
  refine ks_loadName_global rfl (by first | rfl | with_unfolding_all rfl | kernel_rfl) (loadGlobal_builtin (G.keeps k) T.noS (hB.keeps k) ((hb "super" (by decide)).trans (by first | boot_by_name | rfl | kernel_rfl)) ⟨rfl, ?_⟩)
  refine wpAny_loadName_free rfl (by first | rfl | with_unfolding_all rfl | kernel_rfl) (by first | rfl | with_unfolding_all rfl | kernel_rfl) ⟨_, X₁ _ _ hcc, rfl⟩ ?_
  refine wpAny_loadName_local rfl (by first | rfl | with_unfolding_all rfl | kernel_rfl) hns hself ?_
  refine ks_wpAny_isType_cls (X₁ _ _ hC) rfl ⟨rfl, ?_⟩
  refine ks_wpAny_call_super (X₁ _ _ hC) rfl hx₁ rfl (fun c e => by cases e) (looks_mroIn X₁ T.mC) fun h₂ e₂ k₂ => ?_
  have X₂ : K.In h₂ := X₁.keeps k₂
  have I₂ : InstAt h₂ x (excO C t0) C none := ⟨k₂ _ _ hx₁, rfl, rfl, trivial⟩
  have hsup := T.sup
  unfold ks_superIn at hsup
  rw [hcl] at hsup
  refine kxs_getMethod kxs_ValueError e₂ (looks_opaque X₂ T.any) (l₀ := .ref C :: bm) (fun A Q E s k q => wpAny_bind ((looks_clsIn X₂ hcl) A _ E s k (wpAny_pure q))) rfl X₂ hsup (I₂.type.andThen (looks_subIn X₂ T.sV)) hne (by decide) ?_
  have hnx : K.lookup x = none := by
    cases e : K.lookup x with
    | none => rfl
    | some o => exact (hnK o e).elim
  have up : ∀ b o, h₁.get? b = some o → (h₂.push (kxs_mw "ValueError.__init__" x)).get? b = some o := fun b o e => Heap.get?_push_of_some _ (k₂ _ _ e)
  have hu : (h₂.push (kxs_mw "ValueError.__init__" x)).get? h₂.objs.size = some (kxs_mw "ValueError.__init__" x) := Heap.get?_push_at rfl rfl
  have l1 : s.heap.objs.size < h₂.objs.size := by
    obtain ⟨oL, _, _, hL, _⟩ := hns
    exact Heap.lt_size (k₂ _ _ hL)
  have F₃ : Fr (hideAll s.heap [x]) s.heap.objs.size (h₂.push (kxs_mw "ValueError.__init__" x)) _ := ⟨hns.keeps up, fun b o e => up _ _ (k _ _ (of_hideAll _ e)), Nat.le_of_eq (hideAll_size _ _)⟩
  have N₃ : News (hideAll s.heap [x]) s.heap.objs.size (h₂.push (kxs_mw "ValueError.__init__" x)) [(h₂.objs.size, kxs_mw "ValueError.__init__" x), (x, excObj C t0 none .none)] := fun p hp => by
    rcases List.mem_cons.mp hp with rfl | hp
    · refine ⟨hu, fun z => Nat.ne_of_gt l1 z, ?_⟩
      cases e : (hideAll s.heap [x]).get? h₂.objs.size with
      | none => rfl
      | some o =>
        exact absurd (Nat.lt_trans (Heap.lt_size (of_hideAll _ e)) l1) (Nat.lt_irrefl _)
    · obtain rfl := List.mem_singleton.mp hp
      exact ⟨up _ _ hx₁, hxL, hideAll_none _ (by simp)⟩
  have X₀ : K.In (hideAll s.heap [x]) := fun a o e => hideAll_get _ (X _ _ e) fun z => by
    rw [List.mem_singleton.mp z, hnx] at e; cases e
  have xu : h₂.objs.size ≠ x := fun z => by
    have z2 := Heap.lt_size (k₂ _ _ hx₁)
    rw [z] at z2
    exact absurd z2 (Nat.lt_irrefl _)
  refine kxs_callWith1 (i := "ValueError.__init__") (x := x) N₃ (by simp) (spliced_more (wpAny_Constant_str (spliced_none ⟨hu, ?_⟩)))
  refine kxs_call F₃ X₀ N₃ F.excBase_ValueError (init_in hC hbm) (by simp) (.tail xu (.head (by simp))) (by rw [sizeLine_eq]; exact (by decide : 1 ≤ 16777216)) fun t1 h₄ F₄ N₄ _ => ?_
  have hx₄ : h₄.get? x = some (excO C t1) := (N₄ (x, excObj C t1 none .none) (by simp)).1
  show _root_.PySem.wpAt _ _ _ _ _ _ _
  have hns₄ := F₄.ns
  have X₄ : K.In h₄ := X₀.keeps F₄.keep
  have I₄ : InstAt h₄ x (excO C t1) C none := ⟨hx₄, rfl, rfl, trivial⟩
  refine ks_wpAt_execs_cons (wpAt_of_wpAny (plainObj_wpAny_Assign_Attribute ?_))
  refine ESX.ldL hns₄ hfld (ESX.ldL hns₄ hself ?_)
  refine set_plain X₄ I₄ T.sa ?_
  refine exc_osa X₄ hx₄ hcl (show refsVE (.ref C :: bm) = true from hbm) rfl T.noN (fun h₅ tk₅ dx k₅ dn dne hx₅ hn₅ => ?_)
  show _root_.PySem.wpAt _ _ _ _ _ _ _
  have z4 : s.heap.objs.size < h₄.objs.size := hns₄.lt
  refine wpAt_of_wpAny (wpAny_execs_nil (hq h₅ tk₅ dx t1 ⟨fun b o hb e => k₅ b o hb (F₄.keep b o (hideAll_get _ e (by simpa using hb))), hx₅, Nat.le_of_lt (Nat.lt_of_lt_of_le z4 dn), dne, hn₅⟩))
theorem own_made (T : Txt prog K mg cn C fI) {v : Value} (X : K.In s.heap) (G : s.heap.Ns mainGlobals mg) (B : ∃ mb, s.heap.Ns builtinsNs mb ∧ ∀ y : Str, y ≠ "__name__" → mb y = bootBuiltins y) (hlim : s.heap.NoLimit) (hroom : A.depth + 1 < recursionLimit)
    (hq : ∀ h' tk e d, OwnMade "why" s.heap h' e C d v → R (.ok (.ret (.ref e))) { s with heap := h', toks := tk }) :
    codeAny (model prog w) A (.call (.ref C) ⟨[v], []⟩) R s := by
  obtain ⟨nm, q, N, bs, bm, sn, sub, ab, col, dd, k0, k1, k2, k3, k5, hC, hbm⟩ := T.cls
  obtain ⟨hp, g, dr, tk, os⟩ := s
  have k : ∀ b o, hp.get? b = some o → ((hp.push (kdv_tup [v])).push (excO C hp.objs.size)).get? b = some o := fun b o e => Heap.get?_push_of_some _ (Heap.get?_push_of_some _ e)
  have hget : ((hp.push (kdv_tup [v])).push (excO C hp.objs.size)).get? (hp.objs.size + 1) = some (excO C hp.objs.size) := by heap_get
  have hnx : ∀ o, K.lookup (hp.objs.size + 1) ≠ some o := fun o e => by
    have z : hp.get? (hp.objs.size + 1) = some o := X _ _ e
    exact absurd (Nat.lt_of_succ_lt (Heap.lt_size z)) (Nat.lt_irrefl _)
  obtain ⟨mb, hB, hb⟩ := B
  refine call_own F.excBase_ValueError (fun X => refsVE_contains X bm hbm) (X _ _ hC) (looks_findIn X T.iC) (fun self => bind_fn X self T.tC) (by rw [sizeLine_eq]; exact (by decide : 1 ≤ 16777216)) ?_
  refine own_init (s := ⟨(hp.push (kdv_tup [v])).push (excO C hp.objs.size), g, dr, tk, os⟩) T (X.keeps k) (G.keeps k) ⟨mb, hB.keeps k, hb⟩ (hlim.keeps k) hget hnx ?_ fun h' tk' dx t1 ⟨k', hx, dn, dne, hns⟩ => ?_
  · show A.depth + 1 < recursionLimit
    exact hroom
  · have old : ∀ b o, hp.get? b = some o → h'.get? b = some o := fun b o e => k' b o (Nat.ne_of_lt (Nat.lt_succ_of_lt (Heap.lt_size e))) (k b o e)
    have z : hp.objs.size ≤ dx := by
      have q := dn
      rw [Heap.size_push, Heap.size_push] at q
      omega
    exact ⟨rfl, hq h' tk' (hp.objs.size + 1) dx ⟨old, Nat.le_succ _, ⟨_, _, hx, rfl, rfl, rfl, rfl, rfl, by show 4 < 6; decide⟩, z, dne, hns⟩⟩
theorem own_c (T : Txt prog K mg cn C fI) : L2.OwnC prog w K mg cn "why" C := ⟨T.gC, T.kC, T.exC, T.tyC, T.xf, T.noN, fun X G B hlim hroom hq => own_made T X G B hlim hroom hq⟩
end
end Own_why
end PySem
namespace PySem
namespace Own_row
open PySem.W PySem.Calls PyProof.Rows PySem.HandSPX PySem.OwnX
def iA (p1 p2 : Pos) : Arguments := { posonlyargs := [], args := [{ arg := "self", annotation := none, pos := p1 }, { arg := "row", annotation := none, pos := p2 }], vararg := none, kwonlyargs := [], kw_defaults := [], kwarg := none, defaults := [] }
def iB (m : Str) (a1 a2 a3 a4 a5 a6 a7 a8 a9 a10 : Pos) : List Stmt := [.Expr (.Call (.Attribute (.Call (.Name "super" a1) [] [] a2) "__init__" a3) [.Constant (.str m) 0 a4] [] a5) a6, .Assign [.Attribute (.Name "self" a7) "row" a8] (.Name "row" a9) a10]
def iS : Scope := { kind := .function, names := [(PySem.Str.ofString "self", .local), (PySem.Str.ofString "row", .local), (PySem.Str.ofString "__class__", .free), (PySem.Str.ofString "super", .globalImplicit)], isGenerator := false, isCoroutine := false, more := [] }
/-- how the call of the base's __init__ is read, whatever the frame -/
def Reads (m : Str) (a1 a2 a3 a4 a5 : Pos) : Prop := ∃ pl : Sem Bool, ∀ env : Env, eval (.Call (.Attribute (.Call (.Name "super" a1) [] [] a2) "__init__" a3) [.Constant (.str m) 0 a4] [] a5) env = (do
      let ov ← attributeBase (.Call (.Name "super" a1) [] [] a2) "__init__" env (eval (.Call (.Name "super" a1) [] [] a2) env)
      standAt a3.atName
      let (f, first) ← holding [ov] (getMethod ov "__init__" pl)
      callWith a5 f first (backTo a5 (starEach [.Constant (.str m) 0 a4] env)) [])
structure Txt (prog : Program) (K : Frag) (mg : Str → Option Value) (cn : Str) (C fI : Addr) : Prop where
  gC : mg cn = some (.ref C)
  noS : mg "super" = none
  cls : ∃ nm q N bs bm sn sub ab col dd k0 k1 k2 k3 k5, K.lookup C = some (excClassObj nm q C N bs bm true sn sub ab col dd k0 k1 k2 k3 k5 "ValueError.__new__") ∧ refsVE bm = true
  sa : findIn K (.ref C) "__setattr__" = some (some (.builtin "object.__setattr__"))
  xf : L2.XfC K C
  noN : findIn K (.ref C) "row" = some none
  iC : findIn K (.ref C) "__init__" = some (some (.ref fI))
  tC : typeIn K (.ref fI) = some (.type "function")
  kC : keepIn K (.ref C) = true
  exC : subIn K (.ref C) (.type "BaseException") = some true
  tyC : typeIn K (.ref C) = some (.type "type")
  sup : ks_superIn K C C "__init__" = some (some (.builtin "ValueError.__init__"))
  sV : subIn K (.ref C) (.type "ValueError") = some true
  mC : mroIn K C (.ref C) = some true
  any : nsIn K cStatics "thirdparty.any" = some none
  top : (prog.main.scope.names.lookup ("super" : Str)).isSome = false
  fn : ∃ (cda cc : Addr) (m qual : Str) (oc : Value) (od : Option Addr) (doc pm : Value) (an : Option Addr) (ct : Value) (osl : Array (Option Value)) (p1 p2 a1 a2 a3 a4 a5 a6 a7 a8 a9 a10 : Pos) (ccl : Value) (cdd : Option Addr) (vs : Array Value) (ccs : Array (Option Value)) (file : Str) (tf : Tok)
    (cl : Value) (cld : Option Addr) (csl : Array (Option Value)),
    K.lookup fI = some ⟨oc, od, .func (ksFn "__init__" qual (iA p1 p2) (iB m a1 a2 a3 a4 a5 a6 a7 a8 a9 a10) iS .none .none doc pm an (.ref cda) ct cc), osl⟩ ∧ codeIn K (.ref cda) qual = true ∧
    K.lookup cda = some ⟨ccl, cdd, .fields vs, ccs⟩ ∧ vs[2]? = some (.str file tf) ∧ ((prog.main.file : Str) == file) = true ∧ K.lookup cc = some ⟨cl, cld, .cell (some (.ref C)), csl⟩ ∧ Reads m a1 a2 a3 a4 a5
section
variable {prog : Program} {w : World} {A : Around} {E : Value → Shared → Prop} {R : Result → Shared → Prop} {s : Shared} {K : Frag} {mg : Str → Option Value} {cn : Str} {C fI : Addr}
theorem own_init (T : Txt prog K mg cn C fI) {x t0 : Addr} {v : Value} (X : K.In s.heap) (G : s.heap.Ns mainGlobals mg) (B : ∃ mb, s.heap.Ns builtinsNs mb ∧ ∀ y : Str, y ≠ "__name__" → mb y = bootBuiltins y) (hlim : s.heap.NoLimit)
    (hx : s.heap.get? x = some (excO C t0)) (hnK : ∀ o, K.lookup x ≠ some o) (hroom : A.depth < recursionLimit) (hq : ∀ h' tk dx t1, InitEnd "row" s.heap h' x C dx t1 v → R (.ok (.ret .none)) { s with heap := h', toks := tk }) :
    codeAny (model prog w) A (.call (.ref fI) ⟨[.ref x, v], []⟩) R s := by
  obtain ⟨cda, cc, m, qual, oc, od, doc, pm, an, ct, osl, p1, p2, a1, a2, a3, a4, a5, a6, a7, a8, a9, a10, ccl, cdd, vs, ccs, file, tf, cl, cld, csl, ho, hcd, hcda, hvs, hfile, hcc, pl, hrd⟩ := T.fn
  obtain ⟨nm, q, N, bs, bm, sn, sub, ab, col, dd, k0, k1, k2, k3, k5, hC, hbm⟩ := T.cls
  obtain ⟨mb, hB, hb⟩ := B
  have hcl : clsIn K C = some { name := nm, bases := bs, mro := .ref C :: bm, ns := N, qualname := q, hasDict := true, slotNames := sn, subclasses := sub, abstract := ab, collection := col, hasDel := false } := by unfold clsIn; rw [hC] <;> rfl
  refine ks_codeAny_call_defAt (fd := ksFn "__init__" qual (iA p1 p2) (iB m a1 a2 a3 a4 a5 a6 a7 a8 a9 a10) iS .none .none doc pm an (.ref cda) ct cc) (body := iB m a1 a2 a3 a4 a5 a6 a7 a8 a9 a10) (binds := [("self", .ref x), ("row", v)])
    hroom (X _ _ ho) rfl hlim (codeRec_of X hcd) rfl (BindsTo.of_eq (by first | rfl | with_unfolding_all rfl)) (show ∀ y ∈ iS.names, y.2 ≠ .cell by decide) (fun y hy => by
      simp only [List.mem_cons, List.not_mem_nil, or_false] at hy
      rcases hy with rfl | rfl
      · exact (by decide : iS.names.lookup ("self" : Str) = some .local)
      · exact (by decide : iS.names.lookup ("row" : Str) = some .local)) (fun h₁ hns k => ?_)
  have X₁ : K.In h₁ := X.keeps k
  have hx₁ := k _ _ hx
  have hxL : x ≠ s.heap.objs.size := Nat.ne_of_lt (Heap.lt_size hx)
  have hself : ([("self", Value.ref x), ("row", v)] : List (Str × Value)).reverse.lookup ("self" : Str) = some (.ref x) := by
    simp only [List.reverse_cons, List.reverse_nil, List.nil_append, List.cons_append, List.lookup, show (("self" : Str) == ("row" : Str)) = false by decide, show (("self" : Str) == ("self" : Str)) = true by decide]
  have hfld : ([("self", Value.ref x), ("row", v)] : List (Str × Value)).reverse.lookup ("row" : Str) = some v := by simp [List.lookup]
  have I₁ : InstAt h₁ x (excO C t0) C none := ⟨hx₁, rfl, rfl, trivial⟩
  have hne := ks_ne X₁ I₁ hcl
  refine ks_wpAt_execs_cons (ks_wpAt_Expr_any (ks_wpAt_MethodCall ?_ (hrd _)))
  refine ks_wpAt_super_base (by first | rfl | with_unfolding_all rfl | kernel_rfl) (by first | rfl | with_unfolding_all rfl | kernel_rfl) (by decide) rfl (X₁ _ _ ho) rfl rfl rfl (X₁ _ _ hcda) rfl hvs hfile T.top ?_
  refine ks_loadName_global rfl (by first | rfl | with_unfolding_all rfl | kernel_rfl) (loadGlobal_builtin (G.keeps k) T.noS (hB.keeps k) ((hb "super" (by decide)).trans (by first | boot_by_name | rfl | kernel_rfl)) ⟨rfl, ?_⟩)
  refine wpAny_loadName_free rfl (by first | rfl | with_unfolding_all rfl | kernel_rfl) (by first | rfl | with_unfolding_all rfl | kernel_rfl) ⟨_, X₁ _ _ hcc, rfl⟩ ?_
  refine wpAny_loadName_local rfl (by first | rfl | with_unfolding_all rfl | kernel_rfl) hns hself ?_
  refine ks_wpAny_isType_cls (X₁ _ _ hC) rfl ⟨rfl, ?_⟩
  refine ks_wpAny_call_super (X₁ _ _ hC) rfl hx₁ rfl (fun c e => by cases e) (looks_mroIn X₁ T.mC) fun h₂ e₂ k₂ => ?_
  have X₂ : K.In h₂ := X₁.keeps k₂
  have I₂ : InstAt h₂ x (excO C t0) C none := ⟨k₂ _ _ hx₁, rfl, rfl, trivial⟩
  have hsup := T.sup
  unfold ks_superIn at hsup
  rw [hcl] at hsup
  refine kxs_getMethod kxs_ValueError e₂ (looks_opaque X₂ T.any) (l₀ := .ref C :: bm) (fun A Q E s k q => wpAny_bind ((looks_clsIn X₂ hcl) A _ E s k (wpAny_pure q))) rfl X₂ hsup (I₂.type.andThen (looks_subIn X₂ T.sV)) hne (by decide) ?_
  have hnx : K.lookup x = none := by
    cases e : K.lookup x with
    | none => rfl
    | some o => exact (hnK o e).elim
  have up : ∀ b o, h₁.get? b = some o → (h₂.push (kxs_mw "ValueError.__init__" x)).get? b = some o := fun b o e => Heap.get?_push_of_some _ (k₂ _ _ e)
  have hu : (h₂.push (kxs_mw "ValueError.__init__" x)).get? h₂.objs.size = some (kxs_mw "ValueError.__init__" x) := Heap.get?_push_at rfl rfl
  have l1 : s.heap.objs.size < h₂.objs.size := by
    obtain ⟨oL, _, _, hL, _⟩ := hns
    exact Heap.lt_size (k₂ _ _ hL)
  have F₃ : Fr (hideAll s.heap [x]) s.heap.objs.size (h₂.push (kxs_mw "ValueError.__init__" x)) _ := ⟨hns.keeps up, fun b o e => up _ _ (k _ _ (of_hideAll _ e)), Nat.le_of_eq (hideAll_size _ _)⟩
  have N₃ : News (hideAll s.heap [x]) s.heap.objs.size (h₂.push (kxs_mw "ValueError.__init__" x)) [(h₂.objs.size, kxs_mw "ValueError.__init__" x), (x, excObj C t0 none .none)] := fun p hp => by
    rcases List.mem_cons.mp hp with rfl | hp
    · refine ⟨hu, fun z => Nat.ne_of_gt l1 z, ?_⟩
      cases e : (hideAll s.heap [x]).get? h₂.objs.size with
      | none => rfl
      | some o =>
        exact absurd (Nat.lt_trans (Heap.lt_size (of_hideAll _ e)) l1) (Nat.lt_irrefl _)
    · obtain rfl := List.mem_singleton.mp hp
      exact ⟨up _ _ hx₁, hxL, hideAll_none _ (by simp)⟩
  have X₀ : K.In (hideAll s.heap [x]) := fun a o e => hideAll_get _ (X _ _ e) fun z => by
    rw [List.mem_singleton.mp z, hnx] at e; cases e
  have xu : h₂.objs.size ≠ x := fun z => by
    have z2 := Heap.lt_size (k₂ _ _ hx₁)
    rw [z] at z2
    exact absurd z2 (Nat.lt_irrefl _)
  refine kxs_callWith1 (i := "ValueError.__init__") (x := x) N₃ (by simp) (spliced_more (wpAny_Constant_str (spliced_none ⟨hu, ?_⟩)))
  refine kxs_call F₃ X₀ N₃ F.excBase_ValueError (init_in hC hbm) (by simp) (.tail xu (.head (by simp))) (by rw [sizeLine_eq]; exact (by decide : 1 ≤ 16777216)) fun t1 h₄ F₄ N₄ _ => ?_
  have hx₄ : h₄.get? x = some (excO C t1) := (N₄ (x, excObj C t1 none .none) (by simp)).1
  show _root_.PySem.wpAt _ _ _ _ _ _ _
  have hns₄ := F₄.ns
  have X₄ : K.In h₄ := X₀.keeps F₄.keep
  have I₄ : InstAt h₄ x (excO C t1) C none := ⟨hx₄, rfl, rfl, trivial⟩
  refine ks_wpAt_execs_cons (wpAt_of_wpAny (plainObj_wpAny_Assign_Attribute ?_))
  refine ESX.ldL hns₄ hfld (ESX.ldL hns₄ hself ?_)
  refine set_plain X₄ I₄ T.sa ?_
  refine exc_osa X₄ hx₄ hcl (show refsVE (.ref C :: bm) = true from hbm) rfl T.noN (fun h₅ tk₅ dx k₅ dn dne hx₅ hn₅ => ?_)
  show _root_.PySem.wpAt _ _ _ _ _ _ _
  have z4 : s.heap.objs.size < h₄.objs.size := hns₄.lt
  refine wpAt_of_wpAny (wpAny_execs_nil (hq h₅ tk₅ dx t1 ⟨fun b o hb e => k₅ b o hb (F₄.keep b o (hideAll_get _ e (by simpa using hb))), hx₅, Nat.le_of_lt (Nat.lt_of_lt_of_le z4 dn), dne, hn₅⟩))
theorem own_made (T : Txt prog K mg cn C fI) {v : Value} (X : K.In s.heap) (G : s.heap.Ns mainGlobals mg) (B : ∃ mb, s.heap.Ns builtinsNs mb ∧ ∀ y : Str, y ≠ "__name__" → mb y = bootBuiltins y) (hlim : s.heap.NoLimit) (hroom : A.depth + 1 < recursionLimit)
    (hq : ∀ h' tk e d, OwnMade "row" s.heap h' e C d v → R (.ok (.ret (.ref e))) { s with heap := h', toks := tk }) :
    codeAny (model prog w) A (.call (.ref C) ⟨[v], []⟩) R s := by
  obtain ⟨nm, q, N, bs, bm, sn, sub, ab, col, dd, k0, k1, k2, k3, k5, hC, hbm⟩ := T.cls
  obtain ⟨hp, g, dr, tk, os⟩ := s
  have k : ∀ b o, hp.get? b = some o → ((hp.push (kdv_tup [v])).push (excO C hp.objs.size)).get? b = some o := fun b o e => Heap.get?_push_of_some _ (Heap.get?_push_of_some _ e)
  have hget : ((hp.push (kdv_tup [v])).push (excO C hp.objs.size)).get? (hp.objs.size + 1) = some (excO C hp.objs.size) := by heap_get
  have hnx : ∀ o, K.lookup (hp.objs.size + 1) ≠ some o := fun o e => by
    have z : hp.get? (hp.objs.size + 1) = some o := X _ _ e
    exact absurd (Nat.lt_of_succ_lt (Heap.lt_size z)) (Nat.lt_irrefl _)
  obtain ⟨mb, hB, hb⟩ := B
  refine call_own F.excBase_ValueError (fun X => refsVE_contains X bm hbm) (X _ _ hC) (looks_findIn X T.iC) (fun self => bind_fn X self T.tC) (by rw [sizeLine_eq]; exact (by decide : 1 ≤ 16777216)) ?_
  refine own_init (s := ⟨(hp.push (kdv_tup [v])).push (excO C hp.objs.size), g, dr, tk, os⟩) T (X.keeps k) (G.keeps k) ⟨mb, hB.keeps k, hb⟩ (hlim.keeps k) hget hnx ?_ fun h' tk' dx t1 ⟨k', hx, dn, dne, hns⟩ => ?_
  · show A.depth + 1 < recursionLimit
    exact hroom
  · have old : ∀ b o, hp.get? b = some o → h'.get? b = some o := fun b o e => k' b o (Nat.ne_of_lt (Nat.lt_succ_of_lt (Heap.lt_size e))) (k b o e)
    have z : hp.objs.size ≤ dx := by
      have q := dn
      rw [Heap.size_push, Heap.size_push] at q
      omega
    exact ⟨rfl, hq h' tk' (hp.objs.size + 1) dx ⟨old, Nat.le_succ _, ⟨_, _, hx, rfl, rfl, rfl, rfl, rfl, by show 4 < 6; decide⟩, z, dne, hns⟩⟩
theorem own_c (T : Txt prog K mg cn C fI) : L2.OwnC prog w K mg cn "row" C := ⟨T.gC, T.kC, T.exC, T.tyC, T.xf, T.noN, fun X G B hlim hroom hq => own_made T X G B hlim hroom hq⟩
end
end Own_row
end PySem

namespace Sx
open PySem L2
/-- where the classes stand -/
structure Er where
  base : Addr
  bad : Addr
  turned : Addr
  side : Addr
  step : Addr
  text : Addr
theorem passE {X : Cx} : Passes (L2.CX X.prog X.w) X (fun _ _ _ => False) := fun _ σ _ _ e s' I c => takes_none5 e s' (XE.of_call I (fun _ _ _ h => h.elim) c)
end Sx
end
section
/-! a try with clauses that may bear a name or none -/
namespace L2
open PySem PySem.Spec PyProof.Rows
section
variable {X : Cx} {pins : List (Addr × Obj)} {σ : St} {H : Hp} {cls : Value} {d : Option Addr} {a : Addr} {B : Heap} {sI s : Shared}
/-- an exception at a has come down to the clauses: sI, where it was raised, s, where it is looked at -/
structure Down (X : Cx) (pins : List (Addr × Obj)) (σ : St) (H : Hp) (cls : Value) (d : Option Addr) (a : Addr) (B : Heap) (sI s : Shared) : Prop where
  inv : Inv X pins σ H sI
  old : ∀ b o, sI.heap.get? b = some o → b ∉ frs X.stack → B.get? b = some o
  up : sI.heap.UpToSlots s.heap
  fly : HandSPX.FlyingZ B (X.env :: X.outer) a (Zc cls d) s.heap
  none : H a = none
  os : s.os = sI.os
  gens : AllBare s.gens
theorem Down.here (D : Down X pins σ H cls d a B sI s) : Inv X pins σ H s := D.inv.landed D.old D.fly.1 D.up D.os D.gens
/-- looked at as what the suite holds -/
theorem Down.held (D : Down X pins σ H cls d a B sI s) (hf : X.env.frame = some X.env.locals) : ∃ oe, s.heap.get? a = some oe ∧ Zc cls d oe ∧ (∃ vs, oe.data = .fields vs) ∧ Inv (X.suite a ((a, oe) :: (X.pn ++ pins))) [] σ H s := by
  obtain ⟨oe, vs, at_, zc, fl⟩ := D.fly.there
  have no : a ∉ frs (X.env :: X.outer) := fun m => by
    obtain ⟨_, o, e, n⟩ := D.fly.2.2.1.mem m
    cases at_.symm.trans e
    exact n _ fl
  refine ⟨oe, at_, zc, ⟨vs, fl⟩, D.here.suite at_ fl D.none (fun z => no ?_) fun m => no ?_⟩
  · exact List.mem_filterMap.mpr ⟨X.env, .head _, hf.trans (congrArg some z.symm)⟩
  · have ⟨v, hv, q⟩ := List.mem_filterMap.mp m
    exact List.mem_filterMap.mpr ⟨v, .tail _ hv, q⟩
theorem Down.at' (D : Down X pins σ H cls d a B sI s) {h : Heap} (fl : HandSPX.FlyingZ B (X.env :: X.outer) a (Zc cls d) h) (u : s.heap.UpToSlots h) : Down X pins σ H cls d a B sI { s with heap := h } :=
  ⟨D.inv, D.old, D.up.trans u, fl, D.none, D.os, D.gens⟩
/-- no clause takes it: it goes up -/
theorem Down.out {W : WX} {P : Flow → Shared → Prop} (D : Down X pins σ H cls d a B sI s) (hs : X.stack = X.env :: X.outer) (hf : X.env.frame = some X.env.locals) (tk : Takes X W) (w : W cls d σ H) :
    wpAny (model X.prog X.w) X.A (handleBy (.ref a) X.env []) P X.xe s := by
  have last : wpAny (model X.prog X.w) X.A (setFlight (.ref a) X.env.frame) (fun _ t => wpAny (model X.prog X.w) X.A (throw (.ref a) : Sem Flow) P X.xe t) X.xe s := by
    rw [hf]
    refine HandSPX.setFlight_upZ D.fly fun h fl u => wpAny_throw (tk _ _ ?_)
    refine ⟨a, B, sI, pins, σ, H, cls, d, rfl, D.inv, D.old, D.up.trans u, Or.inr (Or.inr ?_), D.none, D.os, D.gens, w⟩
    rw [hs]
    exact fl
  have fl := D.fly
  obtain ⟨_, _, _, oe, vs, T, oT, ts, at_, _, dat, one, _⟩ := fl
  refine wpAny_handleBy_nil ?_
  unfold PySem.passOn
  refine wpAny_bind (wpAny_field at_ dat one ?_)
  rw [show (Value.ref T == Value.none) = false from rfl]
  simp only [Bool.false_eq_true, if_false]
  first
    | exact wpAny_bind last
    | exact wpAny_bind (wpAny_pure (wpAny_bind last))
end
/-- a clause: the class it names, the name's slot, its suite's reading -/
structure Clause where
  c : Value
  i : Option Nat
  ts : Addr → Value → Option Addr → TS
def endsC : Option Nat → Ends → Ends
  | none, D => D
  | some i, D => { rt := D.rt, nx := fun σ H => D.nx (σ.set i none) H, bk := fun σ H => D.bk (σ.set i none) H, ct := fun σ H => D.ct (σ.set i none) H }
def slotC : Option Nat → Addr → St → St
  | none, _, σ => σ
  | some i, a, σ => σ.set i (some (.ref a))
/-- what the clauses wish of what comes down -/
def wishC (K : PySem.W.Frag) (W : WX) (D : Ends) : List Clause → WX
  | [], cls, d, σ, H => W cls d σ H
  | k :: r, cls, d, σ, H => (PySem.W.exmOne K cls k.c = some true ∧ ∀ a, H a = none → k.ts a cls d (endsC k.i D) (slotC k.i a σ) H) ∨ (PySem.W.exmOne K cls k.c = some false ∧ wishC K W D r cls d σ H)
abbrev SuiteOk (X : Cx) (b : Stmt) (r : List Stmt) (ts : Addr → Value → Option Addr → TS) : Prop :=
  ∀ (a : Addr) (oe : Obj) (cls : Value) (d : Option Addr) (pn : List (Addr × Obj)), Zc cls d oe → (∃ vs, oe.data = .fields vs) → PSs (X.suite a ((a, oe) :: pn)) (b :: r) (ts a cls d)
inductive ClausesOk (X : Cx) : List ExceptHandler → List Clause → Prop
  | nil : ClausesOk X [] []
  | bare {x : Str} {c : Value} {ts : Addr → Value → Option Addr → TS} {b : Stmt} {r : List Stmt} {p q : Pos} {hs : List ExceptHandler} {l : List Clause} : Names X x c → SuiteOk X b r ts → ClausesOk X hs l →
      ClausesOk X (.ExceptHandler (some (.Name x p)) none (b :: r) q :: hs) (⟨c, none, ts⟩ :: l)
  | name {x n : Str} {i : Nat} {c : Value} {ts : Addr → Value → Option Addr → TS} {b : Stmt} {r : List Stmt} {p q : Pos} {hs : List ExceptHandler} {l : List Clause} : Names X x c → X.N[i]? = some n → X.env.kindOf n = some .local → SuiteOk X b r ts → ClausesOk X hs l →
      ClausesOk X (.ExceptHandler (some (.Name x p)) (some n) (b :: r) q :: hs) (⟨c, some i, ts⟩ :: l)
section
variable {X : Cx} {pins : List (Addr × Obj)} {σ : St} {H : Hp} {cls : Value} {d : Option Addr} {a : Addr} {B : Heap} {sI s : Shared} {D : Ends} {W : WX}
/-- the class's test -/
theorem Down.asks {x : Str} {c : Value} {p : Pos} {k : Bool} {Q : Bool → Shared → Prop} {E : Value → Shared → Prop} (dn : Down X pins σ H cls d a B sI s) (hf : X.env.frame = some X.env.locals) (nm : Names X x c) (e : PySem.W.exmOne X.K cls c = some k) (q : Q k s) :
    wpAny (model X.prog X.w) (X.A.mark (some (.ref a))) (eval (.Name x p) X.env) (fun v t => wpAny (model X.prog X.w) (X.A.mark (some (.ref a))) (excMatches (.ref a) v) Q E t) E s := by
  obtain ⟨oe, at_, zc, _, S⟩ := dn.held hf
  have ans : wpAny (model X.prog X.w) (X.A.mark (some (.ref a))) (excMatches (.ref a) c) Q E s := by
    have L := PySem.W.exm_one (M := model X.prog X.w) dn.here.kIn (fun A Q E t k q => wpAny_typeOf_ref (k _ _ at_) (by rw [zc.1]; exact q)) e
    exact L.here q
  rcases nm with ⟨g, db, m | ⟨m, v, n⟩⟩
  · exact ld_glob (X := X.suite a ((a, oe) :: (X.pn ++ pins))) S g m ans db
  · exact ld_blt (X := X.suite a ((a, oe) :: (X.pn ++ pins))) S g m v ans n db
/-- the clauses, one behind the other -/
theorem Down.through (dn : Down X pins σ H cls d a B sI s) (hs : X.stack = X.env :: X.outer) (hf : X.env.frame = some X.env.locals) (hN : X.N.Nodup) (tk : Takes X W) {hds : List ExceptHandler} {l : List Clause} (ok : ClausesOk X hds l) :
    wishC X.K W D l cls d σ H → wpAny (model X.prog X.w) X.A (handleBy (.ref a) X.env hds) (SP X pins D) X.xe s := by
  induction ok with
  | nil => exact fun w => dn.out hs hf tk w
  | bare nm su r ih =>
    rintro (⟨e, w⟩ | ⟨e, w⟩)
    · refine wpAny_handleBy_cons (codeAny_handlers_test (dn.asks hf nm e (codeAny_handlers_suite (HandSPX.lands_againZ dn.fly fun h fl u => ?_)))) (by intro z; cases z)
      obtain ⟨oe, _, zc, fd, S⟩ := (dn.at' fl u).held hf
      refine wpAny_mono ((su a oe cls d (X.pn ++ pins) zc fd).run [] _ _ H _ S (w a dn.none)) (fun f t q => ?_) fun _ _ z => z.elim
      cases f with
      | ret v => have ⟨v', σ', H', I, r, q⟩ := q; exact ⟨v', σ', H', I.unsuite dn.inv.ok, r, q⟩
      | next => have ⟨σ', H', I, q⟩ := q; exact ⟨σ', H', I.unsuite dn.inv.ok, q⟩
      | brk => have ⟨σ', H', I, q⟩ := q; exact ⟨σ', H', I.unsuite dn.inv.ok, q⟩
      | cont => have ⟨σ', H', I, q⟩ := q; exact ⟨σ', H', I.unsuite dn.inv.ok, q⟩
    · exact wpAny_handleBy_cons (codeAny_handlers_test (dn.asks hf nm e (ih w))) (by intro z; cases z)
  | @name x n i c ts b r p q hs' l' nm hi hn su r ih =>
    rintro (⟨e, w⟩ | ⟨e, w⟩)
    · refine wpAny_handleBy_cons (codeAny_handlers_test (dn.asks hf nm e (codeAny_handlers_suite_as (HandSPX.lands_againZ dn.fly fun h fl u => ?_)))) (by intro z; cases z)
      obtain ⟨oe, _, zc, fd, S⟩ := (dn.at' fl u).held hf
      refine store_ok (X := X.suite a ((a, oe) :: (X.pn ++ pins))) (v := .ref a) S hN hi (.inl hn) rfl (fun t0 S0 => ?_) (.inr hn)
      refine wpAny_mono ((su a oe cls d (X.pn ++ pins) zc fd).run [] t0 _ H _ S0 (w a dn.none)) (fun f t q => ?_) fun _ _ z => z.elim
      cases f with
      | ret v => have ⟨v', σ', H', I, r, q⟩ := q; exact gone_ok (I.unsuite dn.inv.ok) hN hi hn fun _ J => ⟨v', _, H', J, r, q⟩
      | next => have ⟨σ', H', I, q⟩ := q; exact gone_ok (I.unsuite dn.inv.ok) hN hi hn fun _ J => ⟨_, H', J, q⟩
      | brk => have ⟨σ', H', I, q⟩ := q; exact gone_ok (I.unsuite dn.inv.ok) hN hi hn fun _ J => ⟨_, H', J, q⟩
      | cont => have ⟨σ', H', I, q⟩ := q; exact gone_ok (I.unsuite dn.inv.ok) hN hi hn fun _ J => ⟨_, H', J, q⟩
    · exact wpAny_handleBy_cons (codeAny_handlers_test (dn.asks hf nm e (ih w))) (by intro z; cases z)
end
section
variable {X : Cx} {body : List Stmt} {h₀ : ExceptHandler} {hds : List ExceptHandler} {l : List Clause} {pos : Pos} {tb : WX → TS} {W : WX}
theorem ps_tryC (hs : X.stack = X.env :: X.outer) (hf : X.env.frame = some X.env.locals) (hN : X.N.Nodup) (tk : Takes X W)
    (bd : ∀ (W : WX) (pn : List (Addr × Obj)) (xe : Value → Shared → Prop), Takes (X.tr pn xe) W → PassesOwn (model X.prog X.w) X.A X.env xe → PSs (X.tr pn xe) body (tb W)) (ok : ClausesOk X (h₀ :: hds) l) :
    PS X (.Try body (h₀ :: hds) [] [] pos) fun D σ H => tb (wishC X.K W D l) D σ H := ⟨fun pins s σ H D I q => by
  have O := I.ok
  refine wpAny_Try_except (wpAny_mono ((bd (wishC X.K W D l) (X.pn ++ pins) _ ?_ PassesOwn.looking).run [] s σ H D (I.toTry _) q) (fun f t r => ?_) fun _ _ z => z)
  · rintro u t ⟨a, B, sI, pins', σ', H', cls, d, rfl, J, old, up, sky, na, os, ag, w⟩
    refine Sky.land Zc.steady (by rw [O.frames, hs]) hf (show Sky B (X.env :: X.outer) a (Zc cls d) X.env.locals t.heap by rw [← hs]; exact sky) fun h fl u => ?_
    exact Down.through (s := { t with heap := h }) ⟨J.ofTry O, old, up.trans u, fl, na, os, ag⟩ hs hf hN tk ok w
  · cases f with
    | ret v => have ⟨v', σ', H', J, r, q⟩ := r; exact ⟨v', σ', H', J.ofTry O, r, q⟩
    | next => have ⟨σ', H', J, q⟩ := r; exact wpAny_execs_nil ⟨σ', H', J.ofTry O, q⟩
    | brk => have ⟨σ', H', J, q⟩ := r; exact ⟨σ', H', J.ofTry O, q⟩
    | cont => have ⟨σ', H', J, q⟩ := r; exact ⟨σ', H', J.ofTry O, q⟩⟩
end
end L2
end
section
/-! what is told, or the word of a refusal with its field: the laws' own helper, handed a lambda -/
namespace LamX
open PySem PySem.Spec PyProof.Rows L2
/-- the errors' wish -/
def WordE (K : PySem.W.Frag) (cS cT : Addr) (Q : VK) : XK := fun cls d H' =>
  (cls = .ref cS ∧ ∃ (dd : Addr) (z : V), d = some dd ∧ H' dd = some (.xd [("why", z)]) ∧ ∀ p H2, Same H' H2 → SqT K H2 p [.str "side", z] → Q (.ref p) H2) ∨
  (cls = .ref cT ∧ ∃ (dd : Addr) (z : V), d = some dd ∧ H' dd = some (.xd [("left", z)]) ∧ ∀ p H2, Same H' H2 → SqT K H2 p [.str "turned", z] → Q (.ref p) H2)
def TTword (K : PySem.W.Frag) (cS cT : Addr) : (XK → Hp → VK → Prop) → Hp → VK → Prop := fun tl H Q => tl (WordE K cS cT Q) H Q
/-- which class a clause takes -/
structure WordK (K : PySem.W.Frag) (mg : Str → Option Value) (cS cT cB : Addr) : Prop where
  gS : mg "NoSide" = some (.ref cS)
  gT : mg "NotTurned" = some (.ref cT)
  gB : mg "BadRow" = some (.ref cB)
  xS : XfC K cS
  xT : XfC K cT
  nS : PySem.W.findIn K (.ref cS) "why" = some none
  nT : PySem.W.findIn K (.ref cT) "left" = some none
  eSS : PySem.W.exmOne K (.ref cS) (.ref cS) = some true
  eTS : PySem.W.exmOne K (.ref cT) (.ref cS) = some false
  eTT : PySem.W.exmOne K (.ref cT) (.ref cT) = some true
section
variable {X : Cx}
theorem word_gives {q : Str} {sg : Scope} {g cS cT cB : Addr} {cdg : Value} {j1 j2 j3 k1 k2 k3 : Nat} {p1 p2 p3 p4 p5 p6 p7 p8 p9 p10 p11 p12 p13 p14 p15 p16 p17 p18 p19 p20 p21 p22 p23 : Pos} (W0 : WordK X.K X.mg cS cT cB)
    (hS : sg.names.lookup ("NoSide" : Str) = some .globalImplicit) (hT : sg.names.lookup ("NotTurned" : Str) = some .globalImplicit) (hB : sg.names.lookup ("BadRow" : Str) = some .globalImplicit) (he : sg.names.lookup ("e" : Str) = some .local) :
    GivesTo X ["_law_work", "e"] "_law_word" sg g cdg [.Try [.Return (some (.Call (.Name "_law_work" p1) [] [] p2)) p3]
      [.ExceptHandler (some (.Name "NoSide" p4)) (some "e") [.Return (some (.Tuple [.Constant (.str "side") j1 p5, .Attribute (.Name "e" p6) "why" p7] k1 p8)) p9] p10,
       .ExceptHandler (some (.Name "NotTurned" p11)) (some "e") [.Return (some (.Tuple [.Constant (.str "turned") j2 p12, .Attribute (.Name "e" p13) "left" p14] k2 p15)) p16] p17,
       .ExceptHandler (some (.Name "BadRow" p18)) none [.Return (some (.Tuple [.Constant (.str "row") j3 p19] k3 p20)) p21] p22] [] [] p23] "_law_work" q (TTword X.K cS cT) := by
  intro f c' s H Q tl act hc h
  have hgl : ∀ {x : Str}, sg.names.lookup x = some .globalImplicit → Gl (cxOf C8.CX0 X.prog X.w X.K X.mg X.base ["_law_work", "e"] "_law_word" sg g cdg X.A X.stack s H C8.E0).nox x := fun h => h
  refine ⟨_, pss_one (ps_tryC (X := (cxOf C8.CX0 X.prog X.w X.K X.mg X.base ["_law_work", "e"] "_law_word" sg g cdg X.A X.stack s H C8.E0).nox)
      (l := [⟨.ref cS, some 1, fun a cls d => tRet (Sx.tTupN X.K (tCons (tC (.str "side")) (tCons (tXf a cls d cS "why" (tVar 1)) tNil)))⟩,
        ⟨.ref cT, some 1, fun a cls d => tRet (Sx.tTupN X.K (tCons (tC (.str "turned")) (tCons (tXf a cls d cT "left" (tVar 1)) tNil)))⟩,
        ⟨.ref cB, none, fun a cls d => tRet (Sx.tTupN X.K (tCons (tC (.str "row")) tNil))⟩])
      (tb := fun W D σ H => ∃ Ech : XK, (∀ cls d σ' H', σ'.length = 2 → Ech cls d H' → W cls d σ' H') ∧ σ[0]? = some (some (.ref f)) ∧ H c' = some (CodeO c' q) ∧ tl Ech H D.rt)
      rfl rfl (show (["_law_work", "e"] : List Str).Nodup by decide) takes0 (fun W pn xe tk _ => ?_)
      (.name (i := 1) ⟨hgl hS, by decide, .inl W0.gS⟩ rfl he (fun a oe cls d pn hz hf => pss_one (ps_ret (Sx.pe_tupN (pa_cons pe_str (pa_cons (by exact (pe_xf W0.xS W0.nS hz hf (pe_var (i := 1) rfl (Or.inl he)))) pa_nil)))))
      (.name (i := 1) ⟨hgl hT, by decide, .inl W0.gT⟩ rfl he (fun a oe cls d pn hz hf => pss_one (ps_ret (Sx.pe_tupN (pa_cons pe_str (pa_cons (by exact (pe_xf W0.xT W0.nT hz hf (pe_var (i := 1) rfl (Or.inl he)))) pa_nil)))))
      (.bare ⟨hgl hB, by decide, .inl W0.gB⟩ (fun a oe cls d pn hz hf => pss_one (ps_ret (Sx.pe_tupN (pa_cons pe_str pa_nil)))) .nil)))), ?_⟩
  · refine ⟨fun pins t σ1 H1 D I r => ?_⟩
    obtain ⟨W1, into, slot, code, told⟩ := r
    have tk2 : Takes ((cxOf C8.CX0 X.prog X.w X.K X.mg X.base ["_law_work", "e"] "_law_word" sg g cdg X.A X.stack s H C8.E0).nox.tr pn xe) (fun cls d _ H' => W1 cls d H') := fun u s' ⟨a, B, sI, pins, σ2, H2, cls, d, e, I1, nb, up, sky, na, os, ag, w⟩ =>
      tk u s' ⟨a, B, sI, pins, σ2, H2, cls, d, e, I1, nb, up, sky, na, os, ag, into cls d σ2 H2 I1.len w⟩
    exact (pss_one (ps_ret (pos := p3) (act _ pn xe W1 p1 p2 tk2 fun _ _ _ _ h => h))).run pins t σ1 H1 D I ⟨slot, code, told⟩
  · refine ⟨WordE X.K cS cT Q, fun cls d σ' H' hl w => ?_, rfl, hc, h⟩
    have h1 : ∀ a : Addr, (σ'.set 1 (some (V.ref a)))[1]? = some (some (V.ref a)) := fun a => by simp [hl]
    rcases w with ⟨rfl, dd, z, rfl, hd, w⟩ | ⟨rfl, dd, z, rfl, hd, w⟩
    · refine .inl ⟨W0.eSS, fun a ha => ?_⟩
      show Sx.tTupN X.K (tCons (tC (.str "side")) (tCons (tXf a (.ref cS) (some dd) cS "why" (tVar 1)) tNil)) (σ'.set 1 (some (.ref a))) H' Q
      exact ⟨_, h1 a, rfl, rfl, dd, _, z, rfl, hd, by simp [List.lookup], (show 2 ≤ sizeLine by decide), fun p H2 s2 hp => w p H2 s2 hp⟩
    · refine .inr ⟨W0.eTS, .inl ⟨W0.eTT, fun a ha => ?_⟩⟩
      show Sx.tTupN X.K (tCons (tC (.str "turned")) (tCons (tXf a (.ref cT) (some dd) cT "left" (tVar 1)) tNil)) (σ'.set 1 (some (.ref a))) H' Q
      exact ⟨_, h1 a, rfl, rfl, dd, _, z, rfl, hd, by simp [List.lookup], (show 2 ≤ sizeLine by decide), fun p H2 s2 hp => w p H2 s2 hp⟩
end
end LamX
end
section
/-! a law that hands a lambda on -/
namespace L2
open PySem PySem.Spec PyProof.Rows LamX
/-- a def whose code object is known -/
structure FunC (K : PySem.W.Frag) (x : Str) (st : Stmt) (f : Addr) (fd : FuncData) (c : Addr) : Prop where
  is : ∃ (oc : Value) (od : Option Addr) (kV doc pm : Value) (an : Option Addr) (ct : Value) (osl : Array (Option Value)),
    fd = PySem.W.fnOf x x (defArgs st) (defBody st) (defScope st) .none kV doc pm an (.ref c) ct ∧ K.lookup f = some ⟨oc, od, .func fd, osl⟩ ∧ PySem.W.codeIn K (.ref c) x = true
section
variable {P : Program} {w : World} {K : PySem.W.Frag} {mg : Str → Option Value} {base : Heap}
theorem FunC.ok {x : Str} {st : Stmt} {f c : Addr} {fd : FuncData} {N ps : List Str} {k : Nat} {sp : Sp} (F : FunC K x st f fd c) (S : FnScope N ps (defScope st)) (len : ∀ vs H Q E, sp vs H Q E → vs.length = ps.length)
    (body : ∀ (A : Around) (outer : List Env) (s : Shared) (H : Hp) (vs : List V) (Q : VK) (E : XK), Room k (A.deeper (envOfC x (defScope st) s.heap.objs.size f (.ref c))) → sp vs H Q E →
      ∃ t, PSs (cxOf CX0 P w K mg base N x (defScope st) f (.ref c) A outer s H E).nox (defBody st) t ∧ t { nx := fun _ H' => Q .non H', rt := Q } (start N vs) H) : FnOk P w K mg base CX0 (k + 1) f fd ps sp := by
  obtain ⟨oc, od, kV, doc, pm, an, ct, osl, rfl, lk, hcd⟩ := F.is
  refine fn_of lk hcd S len fun A outer s H vs Q E hr h => ?_
  have ⟨t, p, q⟩ := body A outer s H vs Q E hr h
  exact ⟨t, p.nox, q⟩
end
/-- the end: the law's own table of code objects is empty at the law's entry -/
theorem walk_lam {l : PySem.W.OpenLaw} {n k : Nat} {q : Program} {loose : List Str} {XP : (Str → Option Value) → Heap → Prop} {YP : World → Heap → Prop} {d : DefRec} {K : Params → PySem.W.Frag} {x : Str}
    (hn : l.most = some n) (hn2 : n ≤ sizeLine) (hdf : d.params.defaults = []) (hr : Room k callerA) (hY : ∀ (w : World) (h : Heap), YP w h → (K w.params).In h) (hrec : ∃ d', (recsOf q).find? (fun e => e.name == d.name) = some d')
    (F : ∀ (w : World) (mg : Str → Option Value) (fa : Addr) (h : Heap), (K w.params).In h → h.Ns mainGlobals mg → mg d.name = some (.ref fa) →
      ∃ (fd : FuncData) (c P : Addr) (sp : Sp), PySem.W.tabIn (K w.params) d.name = some (c, P) ∧ (K w.params).lookup P = none ∧ (∀ (s : Shared) (u : Value), BindsTo s fd ⟨[u], []⟩ [(x, u)]) ∧
        (∀ (H : Hp) (a : Addr) (ns : List Int), ns.length ≤ n → H P = some (.tbl #[]) → SqL (K w.params) H a (ns.map V.int) → sp [.ref a] H (fun v _ => v = .bl true) fun _ _ _ => False) ∧
        ∀ base : Heap, (K w.params).In base → base.Ns mainGlobals mg → TabB base mg c P → FnOk l.prog w (K w.params) mg base CX0 k fa fd [x] sp) :
    PySem.W.WalkO q loose XP YP l.row.toRowW d [] (fun f vs => PySem.call f vs) := by
  refine Att.attach_callB hn hdf fun w s₀ s₁ mg mb fa o pm cd doc a vs ns G Y ho hd hcd hmg hobj hints hlen hbits hg => ?_
  have X := hY w _ Y
  obtain ⟨d', hd'⟩ := hrec
  obtain ⟨fd, c, P, sp, ht, nP, hb, hsp, hF⟩ := F w mg fa _ X G.T.g hmg
  have T := PySem.W.tab_of G.T X hd' ht
  have one : ∀ {R : Addr × Addr → Prop}, R (c, P) → ∀ p ∈ [(c, P)], R p := fun r p hp => by rw [List.mem_singleton.mp hp]; exact r
  exact law_callTs (cs := [(c, P)]) X G.T.g G.T.b G.T.builtins G.T.nolimit hg (one T.2) (one nP) (one T.1) G.T.bmain hobj hints (Nat.le_trans hlen hn2) hr (fun base h1 h2 h3 => hF base h1 h2 (h3 (c, P) (.head _))) hb
    (fun H hH hS => hsp H a ns hlen (hH (c, P) (.head _)) hS) fun _ _ _ z => z
/-- in a tuple -/
def rInDT (K : PySem.W.Frag) : R2 := fun x y H Q => ∃ d ds, Dp K H x d ∧ Dp K H y (.tuple ds) ∧ SeqAt.shaped d = true ∧ SeqAt.shaped (.tuple ds) = true ∧ Q (.bl (ds.any fun z => PyData.eqv z d)) H
theorem op_inDT {X : Cx} (hu : X.A.units + 65 < cLine) : OpR X (compareOp .In) (rInDT X.K) := fun pins s σ H x y v u Q I rx ry ⟨d, ds, hd, he, sd, se, q⟩ => by
  have ⟨_, r1⟩ := Dp.reads I d x v hd rx
  have ⟨_, r2⟩ := Dp.reads I (.tuple ds) y u he ry
  exact SeqAt.in_tuple_reads r2 r1 (SeqAt.canLay_of_shaped se) (SeqAt.canLay_of_shaped sd) (room_in_shaped sd hu) ⟨.bl _, H, I, rfl, q⟩
end L2
end
section
/-! operations on data, and what the heap's rules want of them -/
namespace Dx
open PySem L2 RT Sx
def dI (c : Int → Int → Prop) (g : Int → Int → Dt) : D2 := fun x y P => ∃ i j, x = .int i ∧ y = .int j ∧ c i j ∧ P (g i j)
abbrev dAdd : D2 := dI (fun _ _ => True) fun i j => .int (i + j)
abbrev dSub : D2 := dI (fun _ _ => True) fun i j => .int (i - j)
abbrev dMul : D2 := dI CMulW fun i j => .int (i * j)
abbrev dFd : D2 := dI CDivW fun i j => .int (i / j)
abbrev dMd : D2 := dI (fun _ j => 0 < j) fun i j => .int (i % j)
abbrev dPw : D2 := dI CPow fun i j => .int (i ^ j.toNat)
abbrev dLt : D2 := dI (fun _ _ => True) fun i j => .bl (decide (i < j))
abbrev dLe : D2 := dI (fun _ _ => True) fun i j => .bl (decide (i ≤ j))
abbrev dGt : D2 := dI (fun _ _ => True) fun i j => .bl (decide (j < i))
abbrev dGe : D2 := dI (fun _ _ => True) fun i j => .bl (decide (j ≤ i))
def dNeg : D1 := fun x P => ∃ i, x = .int i ∧ P (.int (-i))
section
variable {K : PySem.W.Frag}
theorem o_rI {c : Int → Int → Prop} {g : Int → Int → V} {g' : Int → Int → Dt} (h : ∀ i j W, Rp K W (g i j) (g' i j)) : Op2 K (rI c g) (dI c g') := fun W H v1 x1 v2 x2 P Q o r1 r2 ⟨i, j, e1, e2, hc, q⟩ k => by
  subst e1; subst e2
  exact ⟨i, j, rp_int r1, rp_int r2, hc, k W H _ _ (Frm.refl _ _) o (h i j W) q⟩
theorem o_rI0 {g : Int → Int → V} {g' : Int → Int → Dt} (h : ∀ i j W, Rp K W (g i j) (g' i j)) : Op2 K (rI0 g) (dI (fun _ _ => True) g') := fun W H v1 x1 v2 x2 P Q o r1 r2 ⟨i, j, e1, e2, _, q⟩ k => by
  subst e1; subst e2
  exact ⟨i, j, rp_int r1, rp_int r2, k W H _ _ (Frm.refl _ _) o (h i j W) q⟩
theorem o_add : Op2 K Sx.rAdd dAdd := o_rI0 fun i j _ => .int _
theorem o_sub : Op2 K Sx.rSub dSub := o_rI0 fun i j _ => .int _
theorem o_mul : Op2 K rMulW dMul := o_rI fun i j _ => .int _
theorem o_fd : Op2 K rFdW dFd := o_rI fun i j _ => .int _
theorem o_md : Op2 K rMd dMd := o_rI fun i j _ => .int _
theorem o_pw : Op2 K rPw dPw := o_rI fun i j _ => .int _
theorem o_lt : Op2 K rLt dLt := o_rI0 fun i j _ => .bl _
theorem o_le : Op2 K rLe dLe := o_rI0 fun i j _ => .bl _
theorem o_gt : Op2 K Sx.rGt dGt := o_rI0 fun i j _ => .bl _
theorem o_ge : Op2 K Sx.rGe dGe := o_rI0 fun i j _ => .bl _
theorem o_neg : Op1 K rNeg dNeg := fun W H v1 x1 P Q o r ⟨i, e, q⟩ k => by
  subst e
  exact ⟨i, rp_int r, k W H _ _ (Frm.refl _ _) o (.int _) q⟩
end
/-! equality of scalars; of data -/
def scalD : Dt → Option V
  | .non => some .non
  | .bl b => some (.bl b)
  | .int i => some (.int i)
  | .str s => some (.str s)
  | _ => none
def dEqS : D2 := fun x y P => ∃ a b, scalD x = some a ∧ scalD y = some b ∧ scal a b = true ∧ P (.bl (decide (a = b)))
def dNeS : D2 := fun x y P => ∃ a b, scalD x = some a ∧ scalD y = some b ∧ scal a b = true ∧ P (.bl (!decide (a = b)))
mutual
def toP : Dt → PyData
  | .non => .none
  | .bl b => .bool b
  | .int i => .int i
  | .str s => .str s
  | .tup xs => .tuple (toPs xs)
  | .lst xs => .list (toPs xs)
  | .ktup xs => .tuple (toPs xs)
  | _ => .dict []
def toPs : List Dt → List PyData
  | [] => []
  | x :: xs => toP x :: toPs xs
end
def eqD (x y : Dt) : Bool := PyData.eqv (toP x) (toP y)
def shD (x : Dt) : Bool := SeqAt.shaped (toP x)
def dEq : D2 := fun x y P => shD x = true ∧ shD y = true ∧ P (.bl (eqD x y))
def dNe : D2 := fun x y P => shD x = true ∧ shD y = true ∧ P (.bl (!eqD x y))
def dIn : D2 := fun x y P => ∃ ys, y = .lst ys ∧ shD x = true ∧ shD (.lst ys) = true ∧ P (.bl (ys.any fun z => eqD z x))
def dNotIn : D2 := fun x y P => ∃ ys, y = .lst ys ∧ shD x = true ∧ shD (.lst ys) = true ∧ P (.bl (!ys.any fun z => eqD z x))
def dInT : D2 := fun x y P => ∃ ys, y = .tup ys ∧ shD x = true ∧ shD (.tup ys) = true ∧ P (.bl (ys.any fun z => eqD z x))
def dIsN : D2 := fun x y P => y = .non ∧ ((x = .non ∧ P (.bl true)) ∨ (x ≠ .non ∧ P (.bl false)))
def dNotN : D2 := fun x y P => y = .non ∧ ((x = .non ∧ P (.bl false)) ∨ (x ≠ .non ∧ P (.bl true)))
theorem toPs_eq : ∀ xs : List Dt, toPs xs = xs.map toP
  | [] => rfl
  | x :: xs => by rw [toPs, toPs_eq xs]; rfl
section
variable {K : PySem.W.Frag} {W : Wd} {H : Hp}
theorem rp_scal : ∀ {x : Dt} {a v : V}, scalD x = some a → Rp K W v x → v = a
  | .non, _, _, e, .non => Option.some.inj e
  | .bl _, _, _, e, .bl _ => Option.some.inj e
  | .int _, _, _, e, .int _ => Option.some.inj e
  | .str _, _, _, e, .str _ => Option.some.inj e
mutual
theorem dp_of (s : Same W.F H) : ∀ {v : V} {x : Dt}, Rp K W v x → SeqAt.shaped (toP x) = true ∨ (toP x).canLay0 = true → Dp K H v (toP x)
  | _, _, .non, _ => .non
  | _, _, .bl b, _ => .bl b
  | _, _, .int i, _ => .int i
  | _, _, .str z, _ => .str z
  | _, _, .tup h r, e => .tup (sqt (s _ _ h)) (dps_of s r (by
      rcases e with e | e
      · exact (Bool.and_eq_true _ _ ▸ e : _ ∧ _).1
      · exact e))
  | _, _, .ktup h r, e => .tup (h _) (dps_of s r (by
      rcases e with e | e
      · exact (Bool.and_eq_true _ _ ▸ e : _ ∧ _).1
      · exact e))
  | _, _, .lst h r, e => .lst (sql (s _ _ h)) (dps_of s r (by
      rcases e with e | e
      · exact (Bool.and_eq_true _ _ ▸ e : _ ∧ _).1
      · exact e))
  | _, _, .ty n, e => by rcases e with e | e <;> exact absurd e (by simp [toP]; try decide)
  | _, _, .dK _ _, e => by rcases e with e | e <;> exact absurd e (by simp [toP]; try decide)
  | _, _, .dT _ _, e => by rcases e with e | e <;> exact absurd e (by simp [toP]; try decide)
  | _, _, .dice _ _, e => by rcases e with e | e <;> exact absurd e (by decide)
  | _, _, .scrT _ _, e => by rcases e with e | e <;> exact absurd e (by simp [toP]; try decide)
  | _, _, .fn _, e => by rcases e with e | e <;> exact absurd e (by simp [toP]; try decide)
  | _, _, .scr _, e => by rcases e with e | e <;> exact absurd e (by simp [toP]; try decide)
theorem dps_of (s : Same W.F H) : ∀ {v : List V} {x : List Dt}, RpL K W v x → PyData.canLayAll0 (toPs x) = true → DpAll K H v (toPs x)
  | _, _, .nil, _ => .nil
  | _, _, .cons a b, e => by
    have e2 := (Bool.and_eq_true _ _).mp e
    exact .cons (dp_of s a (.inr e2.1)) (dps_of s b e2.2)
end
theorem o_eqS : Op2 K rEq dEqS := fun W H v1 x1 v2 x2 P Q o r1 r2 ⟨a, b, e1, e2, hs, q⟩ k => by
  rw [rp_scal e1 r1, rp_scal e2 r2]
  exact ⟨hs, k W H _ _ (Frm.refl _ _) o (.bl _) q⟩
theorem o_neS : Op2 K rNe dNeS := fun W H v1 x1 v2 x2 P Q o r1 r2 ⟨a, b, e1, e2, hs, q⟩ k => by
  rw [rp_scal e1 r1, rp_scal e2 r2]
  exact ⟨hs, k W H _ _ (Frm.refl _ _) o (.bl _) q⟩
theorem o_eq : Op2 K (rEqD K) dEq := fun W H v1 x1 v2 x2 P Q o r1 r2 ⟨h1, h2, q⟩ k =>
  ⟨_, _, dp_of o.sF r1 (.inl h1), dp_of o.sF r2 (.inl h2), h1, h2, k W H _ _ (Frm.refl _ _) o (.bl _) q⟩
theorem o_ne : Op2 K (rNeD K) dNe := fun W H v1 x1 v2 x2 P Q o r1 r2 ⟨h1, h2, q⟩ k =>
  ⟨_, _, dp_of o.sF r1 (.inl h1), dp_of o.sF r2 (.inl h2), h1, h2, k W H _ _ (Frm.refl _ _) o (.bl _) q⟩
theorem any_toPs {ys : List Dt} {x : Dt} : ((toPs ys).any fun z => PyData.eqv z (toP x)) = ys.any fun z => eqD z x := by
  rw [toPs_eq, List.any_map]; rfl
theorem o_in : Op2 K (rInD K) dIn := fun W H v1 x1 v2 x2 P Q o r1 r2 ⟨ys, e, h1, h2, q⟩ k => by
  subst e
  have h2' : SeqAt.shaped (.list (toPs ys)) = true := h2
  exact ⟨_, toPs ys, dp_of o.sF r1 (.inl h1), dp_of o.sF r2 (.inl h2), h1, h2', by rw [any_toPs]; exact k W H _ _ (Frm.refl _ _) o (.bl _) q⟩
theorem o_notin : Op2 K (rNotInD K) dNotIn := fun W H v1 x1 v2 x2 P Q o r1 r2 ⟨ys, e, h1, h2, q⟩ k => by
  subst e
  have h2' : SeqAt.shaped (.list (toPs ys)) = true := h2
  exact ⟨_, toPs ys, dp_of o.sF r1 (.inl h1), dp_of o.sF r2 (.inl h2), h1, h2', by rw [any_toPs]; exact k W H _ _ (Frm.refl _ _) o (.bl _) q⟩
theorem o_inT : Op2 K (rInDT K) dInT := fun W H v1 x1 v2 x2 P Q o r1 r2 ⟨ys, e, h1, h2, q⟩ k => by
  subst e
  have h2' : SeqAt.shaped (.tuple (toPs ys)) = true := h2
  exact ⟨_, toPs ys, dp_of o.sF r1 (.inl h1), dp_of o.sF r2 (.inl h2), h1, h2', by rw [any_toPs]; exact k W H _ _ (Frm.refl _ _) o (.bl _) q⟩
theorem rp_non {v : V} (r : Rp K W v .non) : v = .non := by cases r; rfl
theorem rp_nn {v : V} {x : Dt} (r : Rp K W v x) (h : x ≠ .non) : v ≠ .non := by rintro rfl; cases r; exact h rfl
theorem o_isN : Op2 K rIsN dIsN := fun W H v1 x1 v2 x2 P Q o r1 r2 ⟨e, q⟩ k => by
  subst e
  refine ⟨rp_non r2, ?_⟩
  rcases q with ⟨rfl, q⟩ | ⟨n, q⟩
  · rw [rp_non r1, decide_eq_true rfl]; exact k W H _ _ (Frm.refl _ _) o (.bl _) q
  · rw [decide_eq_false (rp_nn r1 n)]; exact k W H _ _ (Frm.refl _ _) o (.bl _) q
theorem o_notN : Op2 K rNotN dNotN := fun W H v1 x1 v2 x2 P Q o r1 r2 ⟨e, q⟩ k => by
  subst e
  refine ⟨rp_non r2, ?_⟩
  rcases q with ⟨rfl, q⟩ | ⟨n, q⟩
  · rw [rp_non r1, decide_eq_true rfl]; exact k W H _ _ (Frm.refl _ _) o (.bl _) q
  · rw [decide_eq_false (rp_nn r1 n)]; exact k W H _ _ (Frm.refl _ _) o (.bl _) q
end
/-! sequences -/
def dIxT : D2 := fun x y P => ∃ xs i z, x = .tup xs ∧ y = .int i ∧ atI xs i = some z ∧ P z
def dIxL : D2 := fun x y P => ∃ xs i z, x = .lst xs ∧ y = .int i ∧ atI xs i = some z ∧ P z
def dCatT : D2 := fun x y P => ∃ xs ys, x = .tup xs ∧ y = .tup ys ∧ xs.length + ys.length ≤ 100000 ∧ P (.tup (xs ++ ys))
def dAddS : D2 := fun x y P => ∃ a b, x = .str a ∧ y = .str b ∧ a.length + b.length ≤ 100000 ∧ P (.str (a ++ b))
def cutD (xs : List Dt) (lo hi : Option Int) : List Dt := (xs.drop (HT.sIx xs.length 0 lo)).take (HT.sIx xs.length xs.length hi - HT.sIx xs.length 0 lo)
section
variable {K : PySem.W.Frag} {W : Wd} {H : Hp}
theorem at_rp {vs : List V} {xs : List Dt} {i : Int} {z : Dt} (r : RpL K W vs xs) (e : atI xs i = some z) : ∃ v, atI vs i = some v ∧ Rp K W v z := by
  unfold atI at e ⊢
  rw [r.length]
  cases h : ixN xs.length i with
  | none => rw [h] at e; cases e
  | some j => rw [h] at e; exact r.get e
theorem cut_rp {vs : List V} {xs : List Dt} {lo hi : Option Int} (r : RpL K W vs xs) : RpL K W (cutV vs lo hi) (cutD xs lo hi) := by
  unfold cutV cutD
  rw [r.length]
  exact (r.drop _).take _
theorem o_ixT : Op2 K (rIxT K) dIxT := fun W H v1 x1 v2 x2 P Q o r1 r2 ⟨xs, i, z, e1, e2, ea, q⟩ k => by
  subst e1; subst e2
  obtain ⟨a, vs, rfl, hs, rs⟩ := rp_tup r1
  obtain ⟨v, hv, rv⟩ := at_rp rs ea
  exact ⟨a, vs, i, v, rfl, rp_int r2, sqt (o.sF _ _ hs), hv, k W H _ _ (Frm.refl _ _) o rv q⟩
theorem o_ixL : Op2 K (rIxL K) dIxL := fun W H v1 x1 v2 x2 P Q o r1 r2 ⟨xs, i, z, e1, e2, ea, q⟩ k => by
  subst e1; subst e2
  obtain ⟨a, vs, rfl, hs, rs⟩ := rp_lst r1
  obtain ⟨v, hv, rv⟩ := at_rp rs ea
  exact ⟨a, vs, i, v, rfl, rp_int r2, sql (o.sF _ _ hs), hv, k W H _ _ (Frm.refl _ _) o rv q⟩
theorem newT {P : Dt → Prop} {Q : VK} {xs : List Dt} {vs : List V} (o : Ok K W H) (r : RpL K W vs xs) (q : P (.tup xs)) (k : ∀ W' H' v x, Frm W H W' H' → Ok K W' H' → Rp K W' v x → P x → Q v H') :
    ∀ p, H p = none → Q (.ref p) (upd H p (.tup vs)) := fun p n => k _ _ _ _ (Frm.kept o n) (o.kept n) (.tup keep_at (r.le (Frm.kept (o := .tup vs) o n).le)) q
theorem o_catT : Op2 K (rCatA K) dCatT := fun W H v1 x1 v2 x2 P Q o r1 r2 ⟨xs, ys, e1, e2, hz, q⟩ k => by
  subst e1; subst e2
  obtain ⟨a, vs, rfl, hs, rs⟩ := rp_tup r1
  obtain ⟨b, ws, rfl, ht, rt⟩ := rp_tup r2
  refine ⟨a, b, vs, ws, rfl, rfl, sqt (o.sF _ _ hs), sqt (o.sF _ _ ht), szl (by rw [rs.length, rt.length]; exact hz), fun e => ?_, fun _ e => ?_, fun _ _ => newT o (rs.append rt) q k⟩
  · subst e; cases rs
    exact k W H _ _ (Frm.refl _ _) o (.tup ht rt) q
  · subst e; cases rt
    rw [List.append_nil] at q
    exact k W H _ _ (Frm.refl _ _) o (.tup hs rs) q
theorem o_addS : Op2 K rAddS dAddS := fun W H v1 x1 v2 x2 P Q o r1 r2 ⟨a, b, e1, e2, hz, q⟩ k => by
  subst e1; subst e2
  exact ⟨a, b, rp_str r1, rp_str r2, szl hz, k W H _ _ (Frm.refl _ _) o (.str _) q⟩
end
/-! calls of built-ins -/
def lenD : Dt → Option Nat
  | .tup xs => some xs.length
  | .lst xs => some xs.length
  | _ => none
def dLen : DL := fun xs P => ∃ x n, xs = [x] ∧ lenD x = some n ∧ P (nat n)
def dSumT : DL := fun xs P => ∃ ns : List Int, xs = [.tup (ns.map Dt.int)] ∧ P (.int ns.sum)
def dMinT : DL := fun xs P => ∃ ns : List Int, xs = [.tup (ns.map Dt.int)] ∧ 0 < ns.length ∧ ∀ m, m ∈ ns → (∀ y, y ∈ ns → m ≤ y) → P (.int m)
def dMaxT : DL := fun xs P => ∃ ns : List Int, xs = [.tup (ns.map Dt.int)] ∧ 0 < ns.length ∧ ∀ m, m ∈ ns → (∀ y, y ∈ ns → y ≤ m) → P (.int m)
def dInt1 : DL := fun xs P => (∃ i, xs = [.int i] ∧ P (.int i)) ∨ ∃ k, xs = [.bl k] ∧ P (.int (if k then 1 else 0))
def dStrI : DL := fun xs P => ∃ i : Int, xs = [.int i] ∧ i.natAbs.log2 < 1920 ∧ P (.str (toString i))
def dTupOf : DL := fun xs P => (∃ ys, xs = [.lst ys] ∧ P (.tup ys)) ∨ ∃ ys, xs = [.tup ys] ∧ P (.tup ys)
def dDivmod : DL := fun xs P => ∃ i j, xs = [.int i, .int j] ∧ CDivP i j ∧ P (.tup [.int (i / j), .int (i % j)])
abbrev rDivmod : List V → Hp → VK → Prop := fun xs H Q => ∃ i j, xs = [.int i, .int j] ∧ CDivP i j ∧ ∀ p, H p = none → Q (.ref p) (upd H p (.tup [.int (i / j), .int (i % j)]))
section
variable {K : PySem.W.Frag} {W : Wd} {H : Hp}
theorem rpl1 {vs : List V} {x : Dt} (r : RpL K W vs [x]) : ∃ v, vs = [v] ∧ Rp K W v x := by
  cases r with | cons a b => cases b; exact ⟨_, rfl, a⟩
theorem rpl2 {vs : List V} {x y : Dt} (r : RpL K W vs [x, y]) : ∃ v w, vs = [v, w] ∧ Rp K W v x ∧ Rp K W w y := by
  cases r with | cons a b => cases b with | cons b c => cases c; exact ⟨_, _, rfl, a, b⟩
theorem o_len : OpL K (Sx.rLen K) dLen := fun W H vs xs P Q o r ⟨x, n, e, hn, q⟩ k => by
  subst e
  obtain ⟨v, rfl, rv⟩ := rpl1 r
  cases x with
  | tup ys =>
    obtain ⟨a, ws, rfl, hs, rs⟩ := rp_tup rv
    obtain rfl := Option.some.inj hn
    exact ⟨a, ws, rfl, .inr (sqt (o.sF _ _ hs)), k W H _ _ (Frm.refl _ _) o (by rw [rs.length]; exact .int _) q⟩
  | lst ys =>
    obtain ⟨a, ws, rfl, hs, rs⟩ := rp_lst rv
    obtain rfl := Option.some.inj hn
    exact ⟨a, ws, rfl, .inl (sql (o.sF _ _ hs)), k W H _ _ (Frm.refl _ _) o (by rw [rs.length]; exact .int _) q⟩
  | _ => cases hn
theorem tup_ints {v : V} {ns : List Int} (o : Ok K W H) (r : Rp K W v (.tup (ns.map Dt.int))) : ∃ a, v = .ref a ∧ SqT K H a (ns.map V.int) := by
  obtain ⟨a, ws, rfl, hs, rs⟩ := rp_tup r
  rw [rs.of_ints] at hs
  exact ⟨a, rfl, sqt (o.sF _ _ hs)⟩
theorem o_sumT : OpL K (rSumT K) dSumT := fun W H vs xs P Q o r ⟨ns, e, q⟩ k => by
  subst e
  obtain ⟨v, rfl, rv⟩ := rpl1 r
  obtain ⟨a, rfl, hs⟩ := tup_ints o rv
  exact ⟨a, ns, rfl, hs, k W H _ _ (Frm.refl _ _) o (.int _) q⟩
theorem o_minT : OpL K (rMinT K) dMinT := fun W H vs xs P Q o r ⟨ns, e, hl, q⟩ k => by
  subst e
  obtain ⟨v, rfl, rv⟩ := rpl1 r
  obtain ⟨a, rfl, hs⟩ := tup_ints o rv
  exact ⟨a, ns, rfl, hs, hl, fun m h1 h2 => k W H _ _ (Frm.refl _ _) o (.int _) (q m h1 h2)⟩
theorem o_maxT : OpL K (rMaxT K) dMaxT := fun W H vs xs P Q o r ⟨ns, e, hl, q⟩ k => by
  subst e
  obtain ⟨v, rfl, rv⟩ := rpl1 r
  obtain ⟨a, rfl, hs⟩ := tup_ints o rv
  exact ⟨a, ns, rfl, hs, hl, fun m h1 h2 => k W H _ _ (Frm.refl _ _) o (.int _) (q m h1 h2)⟩
theorem o_int1 : OpL K rInt1 dInt1 := fun W H vs xs P Q o r q k => by
  rcases q with ⟨i, e, q⟩ | ⟨b, e, q⟩
  · subst e
    obtain ⟨v, rfl, rv⟩ := rpl1 r
    exact .inl ⟨i, by rw [rp_int rv], k W H _ _ (Frm.refl _ _) o (.int _) q⟩
  · subst e
    obtain ⟨v, rfl, rv⟩ := rpl1 r
    exact .inr ⟨b, by rw [rp_bl rv], k W H _ _ (Frm.refl _ _) o (.int _) q⟩
abbrev rTupOf (K : PySem.W.Frag) : List V → Hp → VK → Prop := fun xs H Q => ∃ p ys, xs = [.ref p] ∧ ((SqL K H p ys ∧ ∀ l, H l = none → Q (.ref l) (upd H l (.tup ys))) ∨ (SqT K H p ys ∧ Q (.ref p) H))
theorem o_tupOf : OpL K (rTupOf K) dTupOf := fun W H vs xs P Q o r q k => by
  rcases q with ⟨ys, e, q⟩ | ⟨ys, e, q⟩
  · subst e
    obtain ⟨v, rfl, rv⟩ := rpl1 r
    obtain ⟨a, ws, rfl, hs, rs⟩ := rp_lst rv
    exact ⟨a, ws, rfl, .inl ⟨sql (o.sF _ _ hs), newT o rs q k⟩⟩
  · subst e
    obtain ⟨v, rfl, rv⟩ := rpl1 r
    obtain ⟨a, ws, rfl, hs, rs⟩ := rp_tup rv
    exact ⟨a, ws, rfl, .inr ⟨sqt (o.sF _ _ hs), k W H _ _ (Frm.refl _ _) o (.tup hs rs) q⟩⟩
theorem o_divmod : OpL K rDivmod dDivmod := fun W H vs xs P Q o r ⟨i, j, e, hc, q⟩ k => by
  subst e
  obtain ⟨v, w, rfl, r1, r2⟩ := rpl2 r
  exact ⟨i, j, by rw [rp_int r1, rp_int r2], hc, fun p n => k _ _ _ _ (Frm.kept o n) (o.kept n) (.tup keep_at (.cons (.int _) (.cons (.int _) .nil))) q⟩
end
end Dx
end
section
/-! the rules over data -/
namespace Dx
open PySem L2 RT Sx
section
variable {X : Cx} {e : Expr} {es : List Expr} {pos : Pos}
theorem PT.imp {t t' : TT} (h : PT X e t) (i : ∀ σ H Q, t' σ H Q → t σ H Q) : PT X e t' := ⟨fun pins s σ H Q I q => h.run pins s σ H Q I (i σ H Q q)⟩
theorem PW.imp {t t' : TT} (h : PW X e t) (i : ∀ σ H Q, t' σ H Q → t σ H Q) : PW X e t' := ⟨fun w pins s σ H Q I q => h.run w pins s σ H Q I (i σ H Q q)⟩
theorem PTs.imp {es : List Expr} {t t' : TT} (h : PTs X es t) (i : ∀ σ H Q, t' σ H Q → t σ H Q) : PTs X es t' := ⟨fun pins s σ H Q I q => h.run pins s σ H Q I (i σ H Q q)⟩
theorem PA.imp {t t' : TA} (h : PA X es t) (i : ∀ σ H Q, t' σ H Q → t σ H Q) : PA X es t' := ⟨fun p pins s σ H Q I q => h.run p pins s σ H Q I (i σ H Q q)⟩
theorem PI.imp {tg : Expr} {t t' : TI} (h : PI X tg e t) (i : ∀ σ H Q, t' σ H Q → t σ H Q) : PI X tg e t' := ⟨fun pins s σ H Q I q => h.run pins s σ H Q I (i σ H Q q)⟩
end
section
variable {K : PySem.W.Frag} {C : Ec} {E : XK} {X : Cx} {e a b c' : Expr} {es : List Expr} {pos : Pos} {i : Nat} {da db dc : DE} {dt du : DT} {dA : DA}
theorem ev (h : PE X e (tVar i)) : PE X e (liftE K C E (dVar i)) := PE.imp h fun _ _ _ => le_var
theorem ec {v : V} {x : Dt} (h : PE X e (tC v)) (r : ∀ W, Rp K W v x) : PE X e (liftE K C E (dC x)) := PE.imp h fun _ _ _ => le_c r
theorem ec_int {k : Int} {j : Nat} : PE X (.Constant (.int k) j pos) (liftE K C E (dC (.int k))) := ec pe_int fun _ => .int _
theorem ec_bl {k : Bool} {j : Nat} : PE X (.Constant (.bool k) j pos) (liftE K C E (dC (.bl k))) := ec pe_bl fun _ => .bl _
theorem ec_non {j : Nat} : PE X (.Constant .none j pos) (liftE K C E (dC .non)) := ec pe_non fun _ => .non
theorem ec_str {k : Str} {j : Nat} : PE X (.Constant (.str k) j pos) (liftE K C E (dC (.str k))) := ec pe_str fun _ => .str _
theorem ec_ty {n : String} (h : PE X e (tC (.ty n))) : PE X e (liftE K C E (dC (.ty n))) := ec h fun _ => .ty _
theorem eop {op : Operator} {r : R2} {f : D2} (h : OpR X (binaryOp op) r) (hb : Op2 K r f) (ha : PE X a (liftE K C E da)) (hb' : PE X b (liftE K C E db)) : PE X (.BinOp a op b pos) (liftE K C E (dOp f da db)) := PE.imp (pe_op h ha hb') fun _ _ _ => le_op hb
theorem eun {op : UnaryOp} {r : V → Hp → VK → Prop} {f : D1} (h : UnR X (unaryOp op) r) (hb : Op1 K r f) (ha : PE X a (liftE K C E da)) : PE X (.UnaryOp op a pos) (liftE K C E (dUn f da)) := PE.imp (pe_un h ha) fun _ _ _ => le_un hb
theorem tnot (h : PT X a (liftT K C E dt)) : PT X (.UnaryOp .Not a pos) (liftT K C E (dNot dt)) := PT.imp (pt_not h) fun _ _ _ => le_not
theorem ent (h : PE X e (tNotV (liftE K C E da)))  : PE X e (liftE K C E (dNotV da)) := PE.imp h fun _ _ _ => le_notV
theorem eif (hc : PT X c' (liftT K C E dt)) (ha : PE X a (liftE K C E da)) (hb : PE X b (liftE K C E db)) : PE X (.IfExp c' a b pos) (liftE K C E (dIf dt da db)) := PE.imp (pe_ifExp hc ha hb) fun _ _ _ => le_if
theorem anil : PA X [] (liftA K C E dNil) := PA.imp pa_nil fun _ _ _ => le_nil
theorem acons {r : List Expr} (ha : PE X e (liftE K C E da)) (hr : PA X r (liftA K C E dA)) (hs : starEach (e :: r) X.env = (false, eval e X.env) :: starEach r X.env := by rfl) : PA X (e :: r) (liftA K C E (dCons da dA)) := PA.imp (pa_cons ha hr hs) fun _ _ _ => le_cons
theorem etup {x1} (h : PA X es (liftA K C E dA)) : PE X (.Tuple es x1 pos) (liftE K C E (dTup dA)) := PE.imp (pe_tup h) fun _ _ _ => le_tup
theorem nlst (h : PA X es (liftA K C E dA)) : PE X (.List es pos) (liftN K C E (dLst dA)) := PE.imp (pe_lst h) fun _ _ _ => le_lst
theorem efz {dn : DN} (h : PE X e (liftN K C E dn)) : PE X e (liftE K C E (dFz dn)) := PE.imp h fun _ _ _ => le_fz
theorem tB' (h : PT X e (tB (liftE K C E da))) : PT X e (liftT K C E (dB da)) := PT.imp h fun _ _ _ => le_B
theorem tT' (h : PT X e (tTest (liftE K C E da))) : PT X e (liftT K C E (dB da)) := PT.imp h fun _ _ _ => le_B
theorem tcmp {op : CmpOp} {r : R2} {f : D2} (h : OpR X (compareOp op) r) (hb : Op2 K r f) (ha : PE X a (liftE K C E da)) (hb' : PE X b (liftE K C E db)) (hm : behindInMarks op b = false) : PT X (.Compare a [op] [b] pos) (liftT K C E (dB (dOp f da db))) :=
  PT.imp (pt_cmpR h ha hb' hm) fun _ _ _ q => le_B (by
    obtain ⟨c, P, at_, h1, k⟩ := q
    exact ⟨c, P, at_, h1, k⟩) |> fun (z : liftE K C E (dOp f da db) _ _ _) => le_op hb z

theorem ecmp {op : CmpOp} {r : R2} {f : D2} (h : OpR X (compareOp op) r) (hb : Op2 K r f) (ha : PE X a (liftE K C E da)) (hb' : PE X b (liftE K C E db)) (hm : behindInMarks op b = false) : PE X (.Compare a [op] [b] pos) (liftE K C E (dOp f da db)) := PE.imp (pe_cmpR h ha hb' hm) fun _ _ _ => le_op hb
theorem echain {r r' : R2} {f g : D2} (hf : Op2 K r f) (hg : Op2 K r' g) (h : PE X e (tChain r r' (liftE K C E da) (liftE K C E db) (liftE K C E dc))) : PE X e (liftE K C E (dChain f g da db dc)) := PE.imp h fun _ _ _ => le_chain hf hg
theorem tchain {r r' : R2} {f g : D2} (hf : Op2 K r f) (hg : Op2 K r' g) (h : PT X e (tTest (tChain r r' (liftE K C E da) (liftE K C E db) (liftE K C E dc)))) : PT X e (liftT K C E (dB (dChain f g da db dc))) :=
  PT.imp h fun _ _ _ q => le_B (by
    obtain ⟨c, P, at_, h1, k⟩ := q
    exact ⟨c, P, at_, h1, k⟩) |> fun (z : liftE K C E (dChain f g da db dc) _ _ _) => le_chain hf hg z
variable {rest : List Expr}
theorem wand (ha : PT X a (liftT K C E dt)) (hb : PW X (.BoolOp .And (b :: rest) pos) (liftT K C E du)) : PW X (.BoolOp .And (a :: b :: rest) pos) (liftT K C E (dAnd dt du)) := PW.imp (pw_and ha hb) fun _ _ _ => le_and
theorem wor (ha : PT X a (liftT K C E dt)) (hb : PW X (.BoolOp .Or (b :: rest) pos) (liftT K C E du)) : PW X (.BoolOp .Or (a :: b :: rest) pos) (liftT K C E (dOr dt du)) := PW.imp (pw_or ha hb) fun _ _ _ => le_or
theorem eand (ha : PE X a (liftE K C E da)) (hb : PE X (.BoolOp .And (b :: rest) pos) (liftE K C E db)) : PE X (.BoolOp .And (a :: b :: rest) pos) (liftE K C E (dAndV da db)) := PE.imp (pe_and ha hb) fun _ _ _ => le_andV
theorem eor (ha : PE X a (liftE K C E da)) (hb : PE X (.BoolOp .Or (b :: rest) pos) (liftE K C E db)) : PE X (.BoolOp .Or (a :: b :: rest) pos) (liftE K C E (dOrV da db)) := PE.imp (pe_or ha hb) fun _ _ _ => le_orV
theorem enot (ha : PE X a (liftE K C E da)) : PE X (.UnaryOp .Not a pos) (liftE K C E (dNotV da)) := PE.imp (pe_not ha) fun _ _ _ => le_notV
theorem ecb {r : List V → Hp → VK → Prop} {f : DL} (hb : OpL K r f) (h : PE X e (tCB r (liftA K C E dA))) : PE X e (liftE K C E (dCB f dA)) := PE.imp h fun _ _ _ => le_cb hb
theorem eix {r : R2} {f : D2} (hb : Op2 K r f) (h : PE X e (tOp r (liftE K C E da) (liftE K C E db))) : PE X e (liftE K C E (dOp f da db)) := PE.imp h fun _ _ _ => le_op hb
end
/-! slices -/
abbrev DO := DX → Env → (Option Int → Prop) → Prop
def liftO (K : PySem.W.Frag) (C : Ec) (E : XK) (d : DO) : TO := fun σ H Q => ∃ (c : Cn) (P : Option Int → Prop), c.At K C E σ H ∧ d c.PX c.ρ P ∧ ∀ W' H' b, Frm c.W H W' H' → Ok K W' H' → P b → Q b H'
def dNoPart : DO := fun _ _ P => P none
def dPart (a : DE) : DO := fun X ρ P => a X ρ fun x => ∃ i, x = .int i ∧ P (some i)
def dSlT (a : DE) (l h : DO) : DE := fun X ρ P => a X ρ fun x => l X ρ fun lo => h X ρ fun hi => ∃ xs, x = .tup xs ∧ P (.tup (cutD xs lo hi))
def dSlL (a : DE) (l h : DO) : DN := fun X ρ P => a X ρ fun x => l X ρ fun lo => h X ρ fun hi => ∃ xs, x = .lst xs ∧ P (cutD xs lo hi)
section
variable {K : PySem.W.Frag} {C : Ec} {E : XK} {σ : L2.St} {H : Hp} {Q : VK}
theorem le_nopart {QO : Option Int → Hp → Prop} (q : liftO K C E dNoPart σ H QO) : tNoPart σ H QO := by
  obtain ⟨c, P, at_, h, k⟩ := q
  exact k _ _ _ (Frm.refl _ _) at_.lk.ok h
theorem le_part {QO : Option Int → Hp → Prop} {a : DE} (q : liftO K C E (dPart a) σ H QO) : tPart (liftE K C E a) σ H QO := by
  obtain ⟨c, P, at_, h, k⟩ := q
  refine ⟨c, _, at_, h, fun W1 H1 v x f1 o1 r1 ⟨i, e, q1⟩ => ?_⟩
  subst e
  exact ⟨i, rp_int r1, k _ _ _ f1 o1 q1⟩
theorem le_slT {a : DE} {l h : DO} (q : liftE K C E (dSlT a l h) σ H Q) : tSl (rSlA K) (liftE K C E a) (liftO K C E l) (liftO K C E h) σ H Q := by
  obtain ⟨c, P, at_, h, k⟩ := q
  refine ⟨c, _, at_, h, fun W1 H1 v1 x1 f1 o1 r1 q1 => ?_⟩
  refine ⟨{ c with W := W1 }, _, at_.frm f1 o1, q1, fun W2 H2 lo f2 o2 q2 => ?_⟩
  refine ⟨{ c with W := W2 }, _, at_.frm (f1.trans f2) o2, q2, fun W3 H3 hi f3 o3 ⟨xs, e, q3⟩ => ?_⟩
  subst e
  obtain ⟨a, vs, rfl, hs, rs⟩ := rp_tup ((r1.le f2.le).le f3.le)
  have k' : ∀ W' H' v x, Frm W3 H3 W' H' → Ok K W' H' → Rp K W' v x → P x → Q v H' := fun W' H' v x f => k W' H' v x (f1.trans (f2.trans (f3.trans f)))
  refine ⟨a, vs, rfl, sqt (o3.sF _ _ hs), fun e => ?_, fun _ => newT o3 (cut_rp rs) q3 k'⟩
  have e2 : cutD xs lo hi = xs := by
    unfold cutD
    rw [← rs.length, e.1, e.2, List.drop_zero, Nat.sub_zero, rs.length, List.take_length]
  rw [e2] at q3
  exact k' W3 H3 _ _ (Frm.refl _ _) o3 (.tup hs rs) q3
theorem le_slL {a : DE} {l h : DO} (q : liftN K C E (dSlL a l h) σ H Q) : tSl (rSlLN K) (liftE K C E a) (liftO K C E l) (liftO K C E h) σ H Q := by
  obtain ⟨c, P, at_, h, k⟩ := q
  refine ⟨c, _, at_, h, fun W1 H1 v1 x1 f1 o1 r1 q1 => ?_⟩
  refine ⟨{ c with W := W1 }, _, at_.frm f1 o1, q1, fun W2 H2 lo f2 o2 q2 => ?_⟩
  refine ⟨{ c with W := W2 }, _, at_.frm (f1.trans f2) o2, q2, fun W3 H3 hi f3 o3 ⟨xs, e, q3⟩ => ?_⟩
  subst e
  obtain ⟨a, vs, rfl, hs, rs⟩ := rp_lst ((r1.le f2.le).le f3.le)
  refine ⟨a, vs, rfl, sql (o3.sF _ _ hs), fun p H4 n s hp => ?_⟩
  have f13 := f1.trans (f2.trans f3)
  exact k W3 H4 p _ _ (f13.trans (frm_same s)) (o3.same s) (f13.kp p n) (o3.fr n) (o3.dice_ne n) hp (cut_rp rs) q3
end
section
variable {X : Cx} {C : Ec} {E : XK} {e lo hi : Expr} {pos p2 : Pos} {da : DE} {dl dh : DO}
theorem onone : PO X none (liftO X.K C E dNoPart) := ⟨fun pins s σ H Q I q => (po_none (X := X)).run pins s σ H Q I (le_nopart q)⟩
theorem osome (h : PE X e (liftE X.K C E da)) : PO X (some e) (liftO X.K C E (dPart da)) := ⟨fun pins s σ H Q I q => (po_some h).run pins s σ H Q I (le_part q)⟩
end
/-! what is walked -/
def dItT (a : DE) : DA := fun X ρ P => a X ρ fun x => ∃ xs, x = .tup xs ∧ P xs
def dItK (a : DE) : DA := fun X ρ P => a X ρ fun x => ∃ xs, x = .ktup xs ∧ P xs
def dItL (a : DE) : DA := fun X ρ P => a X ρ fun x => ∃ xs, x = .lst xs ∧ P xs
def rangeD (lo : Int) (n : Nat) : List Dt := (List.range n).map fun i : Nat => Dt.int (lo + (i : Int))
def rngA (xs : List Dt) (P : List Dt → Prop) : Prop := ∃ j : Int, xs = [.int j] ∧ -(2 ^ 62) ≤ j ∧ j < 2 ^ 62 ∧ P (rangeD 0 j.toNat)
def rngB (xs : List Dt) (P : List Dt → Prop) : Prop := ∃ i j : Int, xs = [.int i, .int j] ∧ (-(2 ^ 62) ≤ i ∧ i < 2 ^ 62 ∧ -(2 ^ 62) ≤ j ∧ j < 2 ^ 62) ∧ P (rangeD i (j - i).toNat)
def dRng1 (a : DA) : DA := fun X ρ P => a X ρ fun xs => rngA xs P
def dRng2 (a : DA) : DA := fun X ρ P => a X ρ fun xs => rngB xs P
def dEnum (a : DA) : DA := fun X ρ P => a X ρ fun xs => ∃ ys, xs = [.lst ys] ∧ P ((List.range ys.length).zipWith (fun i y => .tup [nat i, y]) ys)
def dZipL (a : DA) : DA := fun X ρ P => a X ρ fun xs => ∃ ys zs, xs = [.lst ys, .lst zs] ∧ P (ys.zipWith (fun y z => .tup [y, z]) zs)
def revA (x : Dt) (P : List Dt → Prop) : Prop := ∃ xs, (x = .lst xs ∨ x = .tup xs) ∧ P xs.reverse
def dRev (a : DE) : DA := fun X ρ P => a X ρ fun x => revA x P
section
variable {K : PySem.W.Frag} {C : Ec} {E : XK} {σ : L2.St} {H : Hp} {W : Wd} {R : It → Hp → Prop}
theorem dwalk_list {a : Addr} {vs : List V} {xs : List Dt} (h : W.F a = some (.lst vs)) (r : RpL K W vs xs) : DWalk K W (Itl K a) xs := by
  unfold DWalk
  rw [← r.length]
  exact walk_list.mono (fun H s => sql (s _ _ h)) fun i H x H' hi g ⟨e1, e2⟩ => .inl ⟨e1, by
    obtain ⟨z, hz, rz⟩ := r.getV e2
    exact ⟨z, hz, rz⟩⟩
theorem dwalk_tup {a : Addr} {vs : List V} {xs : List Dt} (h : ∀ H, Same W.F H → SqT K H a vs) (r : RpL K W vs xs) : DWalk K W (Itt K a) xs := by
  unfold DWalk
  rw [← r.length]
  exact walk_tup.mono h fun i H x H' hi g ⟨e1, e2⟩ => .inl ⟨e1, by
    obtain ⟨z, hz, rz⟩ := r.getV e2
    exact ⟨z, hz, rz⟩⟩
theorem dwalk_range {lo : Int} {n : Nat} : DWalk K W (Itr lo n) (rangeD lo n) := by
  unfold DWalk
  have hl : (rangeD lo n).length = n := by unfold rangeD; simp
  rw [hl]
  exact walk_range.mono (fun H s => trivial) fun i H x H' hi g ⟨e1, e2⟩ => .inl ⟨e1, by
    subst e2
    refine ⟨.int (lo + (i : Int)), ?_, .int _⟩
    unfold rangeD
    rw [List.getElem?_map, List.getElem?_range hi]; rfl⟩
theorem dwalk_enum {a : Addr} {vs : List V} {xs : List Dt} (h : W.F a = some (.lst vs)) (r : RpL K W vs xs) : DWalk K W (Ite K a) ((List.range xs.length).zipWith (fun i y => .tup [nat i, y]) xs) := by
  unfold DWalk
  have hl : ((List.range xs.length).zipWith (fun i y => Dt.tup [nat i, y]) xs).length = vs.length := by rw [List.length_zipWith, List.length_range, Nat.min_self, r.length]
  rw [hl]
  refine walk_enum.mono (fun H s => sql (s _ _ h)) fun i H x H' hi g y => ?_
  obtain ⟨T, u, w, e1, n, e2, e3, e4⟩ := y
  obtain ⟨z, hz, rz⟩ := r.getV e4
  obtain rfl := Option.some.inj e3
  refine .inr (.inl ⟨T, nat i, z, _, w, e1, n, e2, ?_, .int _, rz⟩)
  have hi' : i < xs.length := by rw [← r.length]; exact hi
  rw [List.getElem?_zipWith, List.getElem?_range hi', hz]
theorem dwalk_zip {a b : Addr} {vs ws : List V} {xs ys : List Dt} (h : W.F a = some (.lst vs)) (r : RpL K W vs xs) (h2 : W.F b = some (.lst ws)) (r2 : RpL K W ws ys) : DWalk K W (Itz K a b) (xs.zipWith (fun y z => .tup [y, z]) ys) := by
  unfold DWalk
  refine (walk_zip (by rw [List.length_zipWith, ← r.length, ← r2.length])).mono (fun H s => ⟨sql (s _ _ h), sql (s _ _ h2)⟩) fun i H x H' hi g y => ?_
  obtain ⟨T, u, w, e1, n, e2, e3, e4⟩ := y
  obtain ⟨z, hz, rz⟩ := r.getV e3
  obtain ⟨z2, hz2, rz2⟩ := r2.getV e4
  refine .inr (.inl ⟨T, z, z2, u, w, e1, n, e2, ?_, rz, rz2⟩)
  rw [List.getElem?_zipWith, hz, hz2]
theorem dwalk_rev {a : Addr} {vs : List V} {xs : List Dt} (h : W.F a = some (.lst vs)) (r : RpL K W vs xs) : DWalk K W (Itv K a vs.length) xs.reverse := by
  unfold DWalk
  rw [List.length_reverse, ← r.length]
  refine walk_rev.mono (fun H s => sql (s _ _ h)) fun i H x H' hi g ⟨e1, e2⟩ => .inl ⟨e1, ?_⟩
  obtain ⟨z, hz, rz⟩ := r.getV e2
  exact ⟨z, by rw [List.getElem?_reverse (by rw [← r.length]; exact hi), ← r.length]; exact hz, rz⟩
theorem walk_revT {a : Addr} {xs : List V} : Walk (ItvT K a xs.length) xs.length (fun H => SqT K H a xs) (fun i H x H' => H' = H ∧ xs[xs.length - 1 - i]? = some x) :=
  ⟨fun i _ hi q => ⟨hi, xs, xs[xs.length - 1 - i]'(by omega), q, by simp [show xs.length - 1 - i < xs.length by omega]⟩, fun _ _ => Nat.le_refl _, fun _ _ _ _ _ q y => ⟨y.1, y.2 xs q⟩⟩
theorem dwalk_revT {a : Addr} {vs : List V} {xs : List Dt} (h : ∀ H, Same W.F H → SqT K H a vs) (r : RpL K W vs xs) : DWalk K W (ItvT K a vs.length) xs.reverse := by
  unfold DWalk
  rw [List.length_reverse, ← r.length]
  refine walk_revT.mono h fun i H x H' hi g ⟨e1, e2⟩ => .inl ⟨e1, ?_⟩
  obtain ⟨z, hz, rz⟩ := r.getV e2
  exact ⟨z, by rw [List.getElem?_reverse (by rw [← r.length]; exact hi), ← r.length]; exact hz, rz⟩
theorem li_tup {a : DE} (q : liftI K C E (dItT a) σ H R) : iTup K (liftE K C E a) σ H R := by
  obtain ⟨c, P, at_, h, k⟩ := q
  refine ⟨c, _, at_, h, fun W1 H1 v1 x1 f1 o1 r1 ⟨xs, e, q1⟩ => ?_⟩
  subst e
  obtain ⟨a, vs, rfl, hs, rs⟩ := rp_tup r1
  exact ⟨a, rfl, ⟨vs, sqt (o1.sF _ _ hs)⟩, k _ _ _ _ f1 o1 (dwalk_tup (fun H s => sqt (s _ _ hs)) rs) q1⟩
theorem li_ktup {a : DE} (q : liftI K C E (dItK a) σ H R) : iTup K (liftE K C E a) σ H R := by
  obtain ⟨c, P, at_, h, k⟩ := q
  refine ⟨c, _, at_, h, fun W1 H1 v1 x1 f1 o1 r1 ⟨xs, e, q1⟩ => ?_⟩
  subst e
  cases r1 with
  | ktup hs rs => exact ⟨_, rfl, ⟨_, hs _⟩, k _ _ _ _ f1 o1 (dwalk_tup (fun H s => hs H) rs) q1⟩
theorem li_list {a : DE} (q : liftI K C E (dItL a) σ H R) : iList K (liftE K C E a) σ H R := by
  obtain ⟨c, P, at_, h, k⟩ := q
  refine ⟨c, _, at_, h, fun W1 H1 v1 x1 f1 o1 r1 ⟨xs, e, q1⟩ => ?_⟩
  subst e
  obtain ⟨a, vs, rfl, hs, rs⟩ := rp_lst r1
  exact ⟨a, rfl, ⟨vs, sql (o1.sF _ _ hs)⟩, k _ _ _ _ f1 o1 (dwalk_list hs rs) q1⟩
theorem li_rng1 {a : DA} (q : liftI K C E (dRng1 a) σ H R) : iRng1 (liftA K C E a) σ H R := by
  obtain ⟨c, P, at_, h, k⟩ := q
  refine ⟨c, _, at_, h, fun W1 H1 v1 x1 f1 o1 r1 ⟨j, e, h1, h2, q1⟩ => ?_⟩
  subst e
  obtain ⟨v, rfl, rv⟩ := rpl1 r1
  exact ⟨j, by rw [rp_int rv], h1, h2, k _ _ _ _ f1 o1 dwalk_range q1⟩
theorem li_rng2 {a : DA} (q : liftI K C E (dRng2 a) σ H R) : iRng2 (liftA K C E a) σ H R := by
  obtain ⟨c, P, at_, h, k⟩ := q
  refine ⟨c, _, at_, h, fun W1 H1 v1 x1 f1 o1 r1 ⟨i, j, e, hb, q1⟩ => ?_⟩
  subst e
  obtain ⟨v, w, rfl, rv, rw_⟩ := rpl2 r1
  exact ⟨i, j, by rw [rp_int rv, rp_int rw_], hb, k _ _ _ _ f1 o1 dwalk_range q1⟩
theorem li_enum {a : DA} (q : liftI K C E (dEnum a) σ H R) : iEnum K (liftA K C E a) σ H R := by
  obtain ⟨c, P, at_, h, k⟩ := q
  refine ⟨c, _, at_, h, fun W1 H1 v1 x1 f1 o1 r1 ⟨ys, e, q1⟩ => ?_⟩
  subst e
  obtain ⟨v, rfl, rv⟩ := rpl1 r1
  obtain ⟨a, vs, rfl, hs, rs⟩ := rp_lst rv
  exact ⟨a, vs, rfl, sql (o1.sF _ _ hs), k _ _ _ _ f1 o1 (dwalk_enum hs rs) q1⟩
theorem li_zipL {a : DA} (q : liftI K C E (dZipL a) σ H R) : iZip K (liftA K C E a) σ H R := by
  obtain ⟨c, P, at_, h, k⟩ := q
  refine ⟨c, _, at_, h, fun W1 H1 v1 x1 f1 o1 r1 ⟨ys, zs, e, q1⟩ => ?_⟩
  subst e
  obtain ⟨v, w, rfl, rv, rw_⟩ := rpl2 r1
  obtain ⟨a, vs, rfl, hs, rs⟩ := rp_lst rv
  obtain ⟨b, ws, rfl, ht, rt⟩ := rp_lst rw_
  exact ⟨a, b, vs, ws, rfl, sql (o1.sF _ _ hs), sql (o1.sF _ _ ht), k _ _ _ _ f1 o1 (dwalk_zip hs rs ht rt) q1⟩
theorem li_rev {a : DE} (q : liftI K C E (dRev a) σ H R) : iRevA K (liftE K C E a) σ H R := by
  obtain ⟨c, P, at_, h, k⟩ := q
  refine ⟨c, _, at_, h, fun W1 H1 v1 x1 f1 o1 r1 ⟨xs, e, q1⟩ => ?_⟩
  rcases e with rfl | rfl
  · obtain ⟨a, vs, rfl, hs, rs⟩ := rp_lst r1
    exact ⟨a, vs, rfl, .inl ⟨sql (o1.sF _ _ hs), k _ _ _ _ f1 o1 (dwalk_rev hs rs) q1⟩⟩
  · obtain ⟨a, vs, rfl, hs, rs⟩ := rp_tup r1
    exact ⟨a, vs, rfl, .inr ⟨sqt (o1.sF _ _ hs), k _ _ _ _ f1 o1 (dwalk_revT (fun H s => sqt (s _ _ hs)) rs) q1⟩⟩
end
/-! lists of one's own: an item, the length, one more, an item stored -/
def dIxO (i : Nat) (b : DE) : DE := fun X ρ P => ∃ xs, ρ[i]? = some (.ol xs) ∧ b X ρ fun y => ∃ k z, y = .int k ∧ atI xs k = some z ∧ P z
def dLenO (i : Nat) : DE := fun _ ρ P => ∃ xs, ρ[i]? = some (.ol xs) ∧ P (nat xs.length)
def dSlO (i : Nat) (l h : DO) : DN := fun X ρ P => ∃ xs, ρ[i]? = some (.ol xs) ∧ l X ρ fun lo => h X ρ fun hi => P (cutD xs lo hi)
def dApp (i : Nat) (a : DE) : DS := fun D X ρ => ∃ xs, ρ[i]? = some (.ol xs) ∧ a X ρ fun x => xs.length ≤ 100000 ∧ D.nx (ρ.set i (.ol (xs ++ [x])))
def dPutO (i : Nat) (b a : DE) : DS := fun D X ρ => ∃ xs, ρ[i]? = some (.ol xs) ∧ a X ρ fun x => b X ρ fun y => ∃ k j, y = .int k ∧ ixN xs.length k = some j ∧ D.nx (ρ.set i (.ol (xs.set j x)))
section
variable {K : PySem.W.Frag} {C : Ec} {E : XK} {σ : L2.St} {H : Hp} {Q : VK} {D : Ends}
theorem Cn.At.ol {c : Cn} {i : Nat} {xs : List Dt} (a : c.At K C E σ H) (e : c.ρ[i]? = some (.ol xs)) : ∃ p vs, σ[i]? = some (some (.ref p)) ∧ Mine c.Hin c.W p ∧ H p = some (.lst vs) ∧ RpL K c.W vs xs := by
  obtain ⟨o, h1, p, vs, rfl, m, h, r⟩ := a.lk.sl i _ e
  exact ⟨p, vs, h1, m, h, r⟩
theorem le_ixO {i : Nat} {b : DE} (q : liftE K C E (dIxO i b) σ H Q) : tOp (rIxL K) (tVar i) (liftE K C E b) σ H Q := by
  obtain ⟨c, P, at_, ⟨xs, e, h⟩, k⟩ := q
  obtain ⟨p, vs, h1, m, hp, r⟩ := at_.ol e
  refine ⟨_, h1, c, _, at_, h, fun W1 H1 v1 x1 f1 o1 r1 ⟨kk, z, e1, ea, q1⟩ => ?_⟩
  subst e1
  obtain ⟨v, hv, rv⟩ := at_rp (r.le f1.le) ea
  exact ⟨p, vs, kk, v, rfl, rp_int r1, sql (f1.sH p _ hp m.d), hv, k _ _ _ _ f1 o1 rv q1⟩
theorem le_lenO {i : Nat} (q : liftE K C E (dLenO i) σ H Q) : tCB (Sx.rLen K) (tCons (tVar i) tNil) σ H Q := by
  obtain ⟨c, P, at_, ⟨xs, e, h⟩, k⟩ := q
  obtain ⟨p, vs, h1, m, hp, r⟩ := at_.ol e
  exact ⟨_, h1, p, vs, rfl, .inl (sql hp), k _ _ _ _ (Frm.refl _ _) at_.lk.ok (by rw [r.length]; exact .int _) h⟩
theorem le_slO {i : Nat} {l h : DO} (q : liftN K C E (dSlO i l h) σ H Q) : tSl (rSlLN K) (tVar i) (liftO K C E l) (liftO K C E h) σ H Q := by
  obtain ⟨c, P, at_, ⟨xs, e, h⟩, k⟩ := q
  obtain ⟨p, vs, h1, m, hp, r⟩ := at_.ol e
  refine ⟨_, h1, c, _, at_, h, fun W2 H2 lo f2 o2 q2 => ?_⟩
  refine ⟨{ c with W := W2 }, _, at_.frm f2 o2, q2, fun W3 H3 hi f3 o3 q3 => ?_⟩
  have f13 := f2.trans f3
  refine ⟨p, vs, rfl, sql (f13.sH p _ hp m.d), fun p2 H4 n s hp2 => ?_⟩
  exact k W3 H4 p2 _ _ (f13.trans (frm_same s)) (o3.same s) (f13.kp p2 n) (o3.fr n) (o3.dice_ne n) hp2 (cut_rp (r.le f13.le)) q3
theorem Cn.At.put {c : Cn} {i : Nat} {s t : Sl} {p : Addr} {o : HO} (a : c.At K C E σ H) (e : c.ρ[i]? = some s) (ho : own s = true) (hp : σ[i]? = some (some (.ref p))) (m : Mine c.Hin c.W p) (h : SlR K c.Hin c.W (upd H p o) t (some (.ref p))) :
    Cn.At K C E { c with ρ := c.ρ.set i t } σ (upd H p o) :=
  ⟨a.lk.change e ho hp m h, ⟨a.fr.le, fun b u hb hd => by rw [upd_ne (fun z => by rw [z, m.i] at hb; cases hb)]; exact a.fr.sH b u hb hd, a.fr.nF, a.fr.dn, fun b hb => by
    by_cases z : b = p
    · rw [z]; exact m.i
    · rw [upd_ne z] at hb; exact a.fr.kp b hb⟩, a.el, a.lo⟩
theorem ls_app {i : Nat} {a : DE} (q : liftS K C E (dApp i a) D σ H) : tDrop (tBM K "list" rAppend (tVar i) (tCons (liftE K C E a) tNil)) D σ H := by
  obtain ⟨c, DD, at_, en, xs, e, h⟩ := q
  obtain ⟨p, vs, h1, m, hp, r⟩ := at_.ol e
  refine ⟨_, h1, .inl ⟨rfl, vs, sql hp⟩, c, _, at_, h, fun W1 H1 v1 x1 f1 o1 r1 ⟨hz, q1⟩ => ?_⟩
  have a1 := at_.frm f1 o1
  have hp1 := f1.sH p _ hp m.d
  have m1 := m.frm f1 hp trivial
  refine ⟨p, vs, v1, rfl, rfl, hp1, Nat.lt_of_le_of_lt (by rw [r.length]; exact hz) (by decide), ?_⟩
  exact en.nx W1 _ σ _ (a1.put (t := .ol (xs ++ [x1])) e rfl h1 m1 ⟨p, vs ++ [v1], rfl, m1, upd_same, (r.le f1.le).append (.cons r1 .nil)⟩) q1
theorem ls_putO {i : Nat} {b a : DE} (q : liftS K C E (dPutO i b a) D σ H) : tAsg (liftE K C E a) (gSub (tVar i) (liftE K C E b) rSetL) D σ H := by
  obtain ⟨c, DD, at_, en, xs, e, h⟩ := q
  obtain ⟨p, vs, h1, m, hp, r⟩ := at_.ol e
  refine ⟨c, _, at_, h, fun W1 H1 v1 x1 f1 o1 r1 q1 => ?_⟩
  refine ⟨_, h1, { c with W := W1 }, _, at_.frm f1 o1, q1, fun W2 H2 v2 x2 f2 o2 r2 ⟨kk, j, e2, hj, q2⟩ => ?_⟩
  subst e2
  have f12 := f1.trans f2
  have a2 := at_.frm f12 o2
  have hp2 := f12.sH p _ hp m.d
  have m2 := m.frm f12 hp trivial
  refine ⟨p, vs, kk, j, rfl, rp_int r2, hp2, by rw [r.length]; exact hj, ?_⟩
  exact en.nx W2 _ σ _ (a2.put (t := .ol (xs.set j x1)) e rfl h1 m2 ⟨p, vs.set j v1, rfl, m2, upd_same, (r.le f12.le).set j (r1.le f2.le)⟩) q2
end
/-! defs -/
abbrev DSp := List Dt → (Dt → Prop) → DX → Prop
def liftSp (K : PySem.W.Frag) (C : Ec) (d : DSp) : Sp := fun vs H Q E => ∃ W xs P PX, Ok K W H ∧ RpL K W vs xs ∧ d xs P PX ∧ (∀ W' H' v x, Frm W H W' H' → Ok K W' H' → Rp K W' v x → P x → Q v H') ∧ EL K C H W E PX
def none_ : DX := fun _ _ => False
/-- a call that lets out what the callee lets out -/
def dCallX (d : DSp) (a : DA) : DE := fun X ρ P => a X ρ fun xs => d xs P X
/-- a call that lets nothing out -/
def dCall0 (d : DSp) (a : DA) : DE := fun X ρ P => a X ρ fun xs => d xs P none_
section
variable {K : PySem.W.Frag} {C : Ec} {E : XK} {σ : L2.St} {H : Hp} {Q : VK}
theorem le_callX {d : DSp} {a : DA} (q : liftE K C E (dCallX d a) σ H Q) : tCallS (liftSp K C d) (WE fun cls dd _ H => E cls dd H) (liftA K C E a) σ H Q := by
  obtain ⟨c, P, at_, h, k⟩ := q
  refine ⟨c, _, at_, h, fun W1 H1 vs xs f1 o1 r1 q1 => ?_⟩
  exact ⟨W1, xs, P, c.PX, o1, r1, q1, fun W' H' v x f => k W' H' v x (f1.trans f), fun W' H' kk fs cls dd f o er px => at_.el W' H' kk fs cls dd ((at_.fr.trans f1).trans f) o er px⟩
theorem le_call0 {d : DSp} {a : DA} (q : liftE K C E (dCall0 d a) σ H Q) : tCall (liftSp K C d) [] E0 (liftA K C E a) σ H Q := by
  obtain ⟨c, P, at_, h, k⟩ := q
  refine ⟨c, _, at_, h, fun W1 H1 vs xs f1 o1 r1 q1 => ?_⟩
  exact ⟨W1, xs, P, none_, o1, by rw [List.append_nil]; exact r1, q1, fun W' H' v x f => k W' H' v x (f1.trans f), fun W' H' kk fs cls dd f o er px => px⟩
theorem liftSp_len {d : DSp} {n : Nat} {vs : List V} (hl : ∀ xs P PX, d xs P PX → xs.length = n) (h : liftSp K C d vs H Q E) : vs.length = n := by
  obtain ⟨W, xs, P, PX, _, r, q, _⟩ := h
  rw [r.length]; exact hl xs P PX q
def startD (xs : List Dt) (m : Nat) : Env := xs.map Sl.v ++ List.replicate m .un
theorem start_lk {W : Wd} {N : List Str} {vs : List V} {xs : List Dt} (o : Ok K W H) (r : RpL K W vs xs) : Lk K H W (startD xs (N.length - vs.length)) (L2.start N vs) H where
  ok := o
  len := by unfold startD L2.start; simp [r.length]
  sl := fun i s e => by
    unfold startD at e
    unfold L2.start
    by_cases hi : i < xs.length
    · rw [List.getElem?_append_left (by simpa using hi), List.getElem?_map] at e
      cases hx : xs[i]? with
      | none => rw [hx] at e; cases e
      | some x =>
        rw [hx] at e
        obtain rfl := Option.some.inj e
        obtain ⟨v, hv, rv⟩ := r.get hx
        exact ⟨some v, by rw [List.getElem?_append_left (by rw [List.length_map, r.length]; exact hi), List.getElem?_map, hv]; rfl, v, rfl, rv⟩
    · rw [List.getElem?_append_right (by simp; omega)] at e
      have e2 := List.mem_of_getElem? e
      have e3 := (List.mem_replicate.mp e2).2
      subst e3
      have hl : i - (xs.map Sl.v).length < N.length - vs.length := by
        rcases Nat.lt_or_ge (i - (xs.map Sl.v).length) (N.length - vs.length) with z | z
        · exact z
        · rw [List.getElem?_eq_none (by simp at z ⊢; omega)] at e; cases e
      refine ⟨none, ?_, trivial⟩
      rw [List.getElem?_append_right (by rw [List.length_map, r.length]; omega), List.getElem?_replicate, if_pos (by rw [r.length] at hl; rw [List.length_map, r.length]; simpa using hl)]
  sep := fun i j s t p _ e1 _ o1 _ _ _ => by
    unfold startD at e1
    have m := List.mem_of_getElem? e1
    rcases List.mem_append.mp m with m | m
    · obtain ⟨x, _, rfl⟩ := List.mem_map.mp m; cases o1
    · rw [(List.mem_replicate.mp m).2] at o1; cases o1
def dEnds (P : Dt → Prop) : DEnds := { nx := fun _ => P .non, rt := P }
theorem run_lift {d : DSp} {b : DS} {N : List Str} {vs : List V} (hb : ∀ xs P PX, d xs P PX → b (dEnds P) PX (startD xs (N.length - xs.length))) (h : liftSp K C d vs H Q E) : liftS K C E b { nx := fun _ H' => Q .non H', rt := Q } (L2.start N vs) H := by
  obtain ⟨W, xs, P, PX, o, r, q, k, el⟩ := h
  refine ⟨⟨H, W, W, W, startD xs (N.length - vs.length), PX⟩, dEnds P, ⟨start_lk o r, Frm.refl _ _, el, Wd.Le.refl _⟩, ⟨fun W' ρ' σ' H' a p => k W' H' _ _ a.fr a.lk.ok .non p, fun _ _ _ _ _ p => p.elim, fun _ _ _ _ _ p => p.elim, fun W' H' v x f o' r' p => k W' H' v x f o' r' p, fun _ _ _ _ _ _ _ _ _ _ _ _ p => p.elim⟩, ?_⟩
  rw [r.length]
  exact hb xs P PX q
end
end Dx
end
section
/-! more rules over data -/
namespace Dx
open PySem L2 RT Sx
theorem zss {X : Cx} {st : List Stmt} {t t' : TS} (h : PSs X st t) (i : ∀ D σ H, t' D σ H → t D σ H) : PSs X st t' := ⟨fun pins s σ H D I q => h.run pins s σ H D I (i D σ H q)⟩
theorem ty_tup0 {K : PySem.W.Frag} {H : Hp} {a : Addr} {xs : List V} (h : SqT K H a xs) : TyX K H (.ref a) (.type "tuple") := by
  rcases h with (h | ⟨o, h⟩) | ⟨o, its, n, h2, h3, _⟩
  · exact .base (.tup h)
  · exact .fTuple h
  · exact .kTuple h2 h3
/-- list(range(n)) -/
def tLr1N (ta : TE) : TE := fun σ H Q => ta σ H fun x H1 => ∃ n : Nat, x = natV n ∧ n ≤ 1000000 ∧ ∀ q H2, H1 q = none → Same H1 H2 → H2 q = some (.lst (rowV (List.range n))) → Q (.ref q) H2
theorem rgV_nat (n : Nat) : rgV 0 (n : Int) = rowV (List.range n) := by
  unfold rgV rowV
  rw [show ((n : Int) - 0).toNat = n by omega]
  refine List.map_congr_left fun i _ => ?_
  show V.int (0 + (i : Int)) = V.int (i : Int)
  rw [Int.zero_add]
theorem pe_lr1N {X : Cx} {a : Expr} {ta : TE} {p p2 pos pos2 : Pos} (hc : X.calm = true) (hg : Gl X "list") (hm : X.mg "list" = none) (hg2 : Gl X "range") (hm2 : X.mg "range" = none) (ha : PE X a ta) (na : starEach [a] X.env = (false, eval a X.env) :: starEach [] X.env := by rfl)
    (nb : starEach [.Call (.Name "range" p2) [a] [] pos2] X.env = (false, eval (.Call (.Name "range" p2) [a] [] pos2) X.env) :: starEach [] X.env := by rfl) : PE X (.Call (.Name "list" p) [.Call (.Name "range" p2) [a] [] pos2] [] pos) (tLr1N ta) :=
  PE.imp (pe_listRg hc hg hm (prg_1 hg2 hm2 (PE.weak ha) na) nb) fun σ H Q q => ⟨_, q, fun v H1 ⟨n, e, hn, k⟩ => by
    subst e
    refine ⟨(n : Int), rfl, RgOk.of_le (by omega) (by omega) (by omega) (by omega), fun q hq => ?_⟩
    rw [rgV_nat]
    exact k q _ hq (same_new hq) upd_same⟩
def dPar (i j : Nat) (a : DA) : DS := fun D X ρ => a X ρ fun xs => ∃ x y, xs = [x, y] ∧ D.nx ((ρ.set i (.v x)).set j (.v y))
def dPar3 (i j l : Nat) (a : DA) : DS := fun D X ρ => a X ρ fun xs => ∃ x y z, xs = [x, y, z] ∧ D.nx (((ρ.set i (.v x)).set j (.v y)).set l (.v z))
def dTupRev (a : DE) : DE := fun X ρ P => a X ρ fun x => ∃ xs, x = .lst xs ∧ P (.tup xs.reverse)
def dTru (a : DE) : DT := fun X ρ Q => a X ρ fun x => (∃ xs, x = .lst xs ∧ Q (!xs.isEmpty)) ∨ (∃ xs, x = .tup xs ∧ Q (!xs.isEmpty)) ∨ (∃ k, x = .bl k ∧ Q k) ∨ (∃ s : Str, x = .str s ∧ s.length ≤ 100000 ∧ Q ((s.length : Int) != 0))
def dIxQ : D2 := fun x y P => dIxT x y P ∨ dIxL x y P
def dCatL (a b : DE) : DN := fun X ρ P => a X ρ fun x => b X ρ fun y => ∃ xs ys, x = .lst xs ∧ y = .lst ys ∧ xs.length + ys.length ≤ 100000 ∧ P (xs ++ ys)
def dListOf (a : DA) : DN := fun X ρ P => a X ρ fun xs => (∃ ys, xs = [.lst ys] ∧ P ys) ∨ ∃ ys, xs = [.tup ys] ∧ P ys
def dLr1 (a : DE) : DN := fun X ρ P => a X ρ fun x => ∃ n : Nat, x = nat n ∧ n ≤ 1000000 ∧ P ((List.range n).map nat)
def dRaise0 (k : Nat) : DS := fun _ X _ => X k []
def dRaise (k : Nat) (a : DA) : DS := fun _ X ρ => a X ρ fun xs => xs.length = (fldsOf k).length ∧ X k xs
def dPop0 (i : Nat) : DS := fun D _ ρ => ∃ xs x, ρ[i]? = some (.ol (x :: xs)) ∧ D.nx (ρ.set i (.ol xs))
def dRevO (i : Nat) : DN := fun _ ρ P => ∃ xs, ρ[i]? = some (.ol xs) ∧ P xs.reverse
def dRevL (a : DE) : DN := fun X ρ P => a X ρ fun x => ∃ xs, x = .lst xs ∧ P xs.reverse
def dPop (i : Nat) : DS := fun D _ ρ => ∃ xs x, ρ[i]? = some (.ol (xs ++ [x])) ∧ D.nx (ρ.set i (.ol xs))
def dMin2 : DL := fun xs P => ∃ i j, xs = [.int i, .int j] ∧ P (.int (if j < i then j else i))
def dAbs : DL := fun xs P => ∃ i, xs = [.int i] ∧ P (.int (if i < 0 then -i else i))
def dGcd : DL := fun xs P => ∃ a b : Nat, xs = [nat a, nat b] ∧ P (nat (Nat.gcd a b))
def dIsqrt : DL := fun xs P => ∃ a : Nat, xs = [nat a] ∧ a < 2 ^ 250 ∧ P (nat (Float64.isqrt a))
abbrev rMin2 : List V → Hp → VK → Prop := fun xs H Q => ∃ i j, xs = [.int i, .int j] ∧ Q (.int (if j < i then j else i)) H
abbrev rAbs : List V → Hp → VK → Prop := fun xs H Q => ∃ i, xs = [.int i] ∧ Q (.int (if i < 0 then -i else i)) H
/-- the type of data -/
def tyD : Dt → Option String
  | .non => some "NoneType"
  | .bl _ => some "bool"
  | .int _ => some "int"
  | .str _ => some "str"
  | .tup _ => some "tuple"
  | .lst _ => some "list"
  | .dK _ => some "dict"
  | _ => none
def dIsi : DL := fun xs P => ∃ x t c b, xs = [x, .ty c] ∧ tyD x = some t ∧ kitB t c = some b ∧ P (.bl b)
section
variable {K : PySem.W.Frag} {C : Ec} {E : XK} {σ : L2.St} {H : Hp} {Q : VK} {D : Ends}
theorem ls_asg1 {i : Nat} {a : DE} (q : liftS K C E (dAsg (.nm i) a) D σ H) : tAsg (liftE K C E a) (gName i) D σ H := ls_asg q
theorem Cn.At.st {c : Cn} {v : V} {x : Dt} (a : c.At K C E σ H) (i : Nat) (r : Rp K c.W v x) : Cn.At K C E { c with ρ := c.ρ.set i (.v x) } (σ.set i (some v)) H := ⟨a.lk.set (s := .v x) i ⟨v, rfl, r⟩ rfl, a.fr, a.el, a.lo⟩
theorem ls_par {i j : Nat} {a : DA} (q : liftS K C E (dPar i j a) D σ H) : tPar i j (liftA K C E a) D σ H := by
  obtain ⟨c, DD, at_, en, h⟩ := q
  refine ⟨c, _, at_, h, fun W1 H1 vs xs f o r ⟨x, y, e, q1⟩ => ?_⟩
  subst e
  obtain ⟨v, w, rfl, r1, r2⟩ := rpl2 r
  refine ⟨v, w, rfl, ?_⟩
  have a1 := at_.frm f o
  have a2 := a1.st i r1
  have a3 := a2.st j r2
  exact en.nx W1 _ _ H1 ⟨a3.lk, a3.fr, a3.el, a3.lo⟩ q1
theorem rpl3 {W : Wd} {vs : List V} {x y z : Dt} (r : RpL K W vs [x, y, z]) : ∃ u v w, vs = [u, v, w] ∧ Rp K W u x ∧ Rp K W v y ∧ Rp K W w z := by
  cases r with | cons a b => cases b with | cons b c => cases c with | cons c d => cases d; exact ⟨_, _, _, rfl, a, b, c⟩
theorem ls_par3 {i j l : Nat} {a : DA} (q : liftS K C E (dPar3 i j l a) D σ H) : tPar3 i j l (liftA K C E a) D σ H := by
  obtain ⟨c, DD, at_, en, h⟩ := q
  refine ⟨c, _, at_, h, fun W1 H1 vs xs f o r ⟨x, y, z, e, q1⟩ => ?_⟩
  subst e
  obtain ⟨u, v, w, rfl, r1, r2, r3⟩ := rpl3 r
  refine ⟨u, v, w, rfl, ?_⟩
  have a1 := at_.frm f o
  have a2 := a1.st i r1
  have a3 := a2.st j r2
  have a4 := a3.st l r3
  exact en.nx W1 _ _ H1 ⟨a4.lk, a4.fr, a4.el, a4.lo⟩ q1
theorem o_ipadd : Op2 K (ipI fun i j => i + j) dAdd := fun W H v1 x1 v2 x2 P Q o r1 r2 ⟨i, j, e1, e2, _, q⟩ k => by
  subst e1; subst e2
  exact ⟨i, j, rp_int r1, rp_int r2, k W H _ _ (Frm.refl _ _) o (.int _) q⟩
theorem o_ipsub : Op2 K (ipI fun i j => i - j) dSub := fun W H v1 x1 v2 x2 P Q o r1 r2 ⟨i, j, e1, e2, _, q⟩ k => by
  subst e1; subst e2
  exact ⟨i, j, rp_int r1, rp_int r2, k W H _ _ (Frm.refl _ _) o (.int _) q⟩
theorem le_call00 {d : DSp} (q : liftE K C E (dCall0 d dNil) σ H Q) : tCall (liftSp K C d) [] E0 tNil σ H Q := by
  obtain ⟨c, P, at_, h, k⟩ := q
  exact ⟨c.W, [], P, none_, at_.lk.ok, .nil, h, k, fun W' H' kk fs cls dd f o er px => px⟩
theorem le_tupRev {a : DE} (q : liftE K C E (dTupRev a) σ H Q) : tTupRev K (liftE K C E a) σ H Q := by
  obtain ⟨c, P, at_, h, k⟩ := q
  refine ⟨c, _, at_, h, fun W1 H1 v x f o r ⟨xs, e, q1⟩ => ?_⟩
  subst e
  obtain ⟨a, vs, rfl, hs, rs⟩ := rp_lst r
  exact ⟨a, vs, rfl, sql (o.sF _ _ hs), newT o rs.rev q1 fun W' H' v x f' => k W' H' v x (f.trans f')⟩
theorem isEmpty_rp {W : Wd} {vs : List V} {xs : List Dt} (r : RpL K W vs xs) : vs.isEmpty = xs.isEmpty := by cases r <;> rfl
theorem lt_tru {a : DE} {QB : Bool → Hp → Prop} (q : liftT K C E (dTru a) σ H QB) : liftE K C E a σ H fun x H' => ∃ k, TruV K x H' k ∧ QB k H' := by
  obtain ⟨c, P, at_, h, k⟩ := q
  refine ⟨c, _, at_, h, fun W1 H1 v x f o r q1 => ?_⟩
  rcases q1 with ⟨xs, e, q1⟩ | ⟨xs, e, q1⟩ | ⟨b, e, q1⟩ | ⟨s, e, hs, q1⟩
  · subst e
    obtain ⟨a, vs, rfl, hs, rs⟩ := rp_lst r
    exact ⟨_, .inl ⟨vs, sql (o.sF _ _ hs), rfl⟩, by rw [isEmpty_rp rs]; exact k _ _ _ f o q1⟩
  · subst e
    obtain ⟨a, vs, rfl, hs, rs⟩ := rp_tup r
    exact ⟨_, .inr (.inl ⟨vs, sqt (o.sF _ _ hs), rfl⟩), by rw [isEmpty_rp rs]; exact k _ _ _ f o q1⟩
  · subst e
    rw [rp_bl r]
    exact ⟨b, rfl, k _ _ _ f o q1⟩
  · subst e
    rw [rp_str r]
    exact ⟨_, ⟨szl hs, rfl⟩, k _ _ _ f o q1⟩
theorem o_ixQ : Op2 K (rIxQ K) dIxQ := fun W H v1 x1 v2 x2 P Q o r1 r2 q k => by
  rcases q with q | q
  · exact .inr (o_ixT W H v1 x1 v2 x2 P Q o r1 r2 q k)
  · exact .inl (o_ixL W H v1 x1 v2 x2 P Q o r1 r2 q k)
theorem newL {W : Wd} {c : Cn} {H1 : Hp} {P : List Dt → Prop} {xs : List Dt} {vs : List V} (f : Frm c.W H W H1) (o : Ok K W H1) (r : RpL K W vs xs) (q : P xs)
    (k : ∀ W' H' p vs xs, Frm c.W H W' H' → Ok K W' H' → H p = none → W'.F p = none → ¬ W'.dl p → H' p = some (.lst vs) → RpL K W' vs xs → P xs → Q (.ref p) H') : ∀ p H2, H1 p = none → Same H1 H2 → H2 p = some (.lst vs) → Q (.ref p) H2 := fun p H2 n s hp =>
  k W H2 p _ _ (f.trans (frm_same s)) (o.same s) (f.kp p n) (o.fr n) (o.dice_ne n) hp r q
theorem le_catL {a b : DE} (q : liftN K C E (dCatL a b) σ H Q) : tOp (rCatLN K) (liftE K C E a) (liftE K C E b) σ H Q := by
  obtain ⟨c, P, at_, h, k⟩ := q
  refine ⟨c, _, at_, h, fun W1 H1 v1 x1 f1 o1 r1 q1 => ?_⟩
  refine ⟨{ c with W := W1 }, _, at_.frm f1 o1, q1, fun W2 H2 v2 x2 f2 o2 r2 ⟨xs, ys, e1, e2, hz, q2⟩ => ?_⟩
  subst e1; subst e2
  obtain ⟨a, vs, rfl, hs, rs⟩ := rp_lst (r1.le f2.le)
  obtain ⟨b, ws, rfl, ht, rt⟩ := rp_lst r2
  exact ⟨a, b, vs, ws, rfl, rfl, o2.sF _ _ hs, o2.sF _ _ ht, szl (by rw [rs.length, rt.length]; exact hz), newL (f1.trans f2) o2 (rs.append rt) q2 k⟩
theorem le_listOf {a : DA} (q : liftN K C E (dListOf a) σ H Q) : tCB (rListN K) (liftA K C E a) σ H Q := by
  obtain ⟨c, P, at_, h, k⟩ := q
  refine ⟨c, _, at_, h, fun W1 H1 v1 x1 f1 o1 r1 q1 => ?_⟩
  rcases q1 with ⟨ys, e, q1⟩ | ⟨ys, e, q1⟩
  · subst e
    obtain ⟨v, rfl, rv⟩ := rpl1 r1
    obtain ⟨a, vs, rfl, hs, rs⟩ := rp_lst rv
    exact ⟨a, vs, rfl, .inl (sql (o1.sF _ _ hs)), newL f1 o1 rs q1 k⟩
  · subst e
    obtain ⟨v, rfl, rv⟩ := rpl1 r1
    obtain ⟨a, vs, rfl, hs, rs⟩ := rp_tup rv
    exact ⟨a, vs, rfl, .inr (sqt (o1.sF _ _ hs)), newL f1 o1 rs q1 k⟩
theorem rpl_nats {W : Wd} : ∀ {ns : List Nat}, RpL K W (rowV ns) (ns.map nat)
  | [] => .nil
  | _ :: _ => .cons (.int _) rpl_nats
theorem le_lr1 {a : DE} (q : liftN K C E (dLr1 a) σ H Q) : tLr1N (liftE K C E a) σ H Q := by
  obtain ⟨c, P, at_, h, k⟩ := q
  refine ⟨c, _, at_, h, fun W1 H1 v1 x1 f1 o1 r1 ⟨n, e, hn, q1⟩ => ?_⟩
  subst e
  exact ⟨n, rp_int r1, hn, newL f1 o1 rpl_nats q1 k⟩
theorem ls_pop {i : Nat} (q : liftS K C E (dPop i) D σ H) : tDrop (tBM0 K "list" rPop (tVar i)) D σ H := by
  obtain ⟨c, DD, at_, en, xs, x, e, h⟩ := q
  obtain ⟨p, vs, h1, m, hp, r⟩ := at_.ol e
  have hl := r.length
  rw [List.length_append] at hl
  obtain ⟨v, hv, _⟩ := r.get (i := xs.length) (x := x) (by simp)
  refine ⟨_, h1, .inl ⟨rfl, vs, sql hp⟩, p, vs, v, rfl, rfl, hp, by rw [hl]; exact hv, ?_⟩
  have rd : RpL K c.W vs.dropLast xs := by
    have := r.take xs.length
    rw [List.take_left] at this
    rw [List.dropLast_eq_take, hl]; exact this
  exact en.nx c.W _ σ _ (at_.put (t := .ol xs) e rfl h1 m ⟨p, vs.dropLast, rfl, m, upd_same, rd⟩) h
theorem le_revO {i : Nat} (q : liftN K C E (dRevO i) σ H Q) : tRevLN K (tVar i) σ H Q := by
  obtain ⟨c, P, at_, ⟨xs, e, h⟩, k⟩ := q
  obtain ⟨p, vs, h1, m, hp, r⟩ := at_.ol e
  exact ⟨_, h1, p, vs, rfl, sql hp, newL (Frm.refl _ _) at_.lk.ok r.rev h k⟩
theorem le_revL {a : DE} (q : liftN K C E (dRevL a) σ H Q) : tRevLN K (liftE K C E a) σ H Q := by
  obtain ⟨c, P, at_, h, k⟩ := q
  refine ⟨c, _, at_, h, fun W1 H1 v x f o r ⟨xs, e, q1⟩ => ?_⟩
  subst e
  obtain ⟨a, vs, rfl, hs, rs⟩ := rp_lst r
  exact ⟨a, vs, rfl, sql (o.sF _ _ hs), newL f o rs.rev q1 k⟩
theorem ls_pop0 {i : Nat} {t : TA} (ht : ∀ σ H Q, Q [natV 0] H → t σ H Q) (q : liftS K C E (dPop0 i) D σ H) : tDrop (tBM K "list" rPopAt (tVar i) t) D σ H := by
  obtain ⟨c, DD, at_, en, xs, x, e, h⟩ := q
  obtain ⟨p, vs, h1, m, hp, r⟩ := at_.ol e
  cases r with
  | @cons v _ vs' _ rv rr =>
    refine ⟨_, h1, .inl ⟨rfl, _, sql hp⟩, ht _ _ _ ?_⟩
    refine i_pop0 hp ?_
    exact en.nx c.W _ σ _ (at_.put (t := .ol xs) e rfl h1 m ⟨p, vs', rfl, m, upd_same, rr⟩) h
theorem o_min2 : OpL K rMin2 dMin2 := fun W H vs xs P Q o r ⟨i, j, e, q⟩ k => by
  subst e
  obtain ⟨v, w, rfl, r1, r2⟩ := rpl2 r
  exact ⟨i, j, by rw [rp_int r1, rp_int r2], k W H _ _ (Frm.refl _ _) o (.int _) q⟩
theorem o_abs : OpL K rAbs dAbs := fun W H vs xs P Q o r ⟨i, e, q⟩ k => by
  subst e
  obtain ⟨v, rfl, r1⟩ := rpl1 r
  exact ⟨i, by rw [rp_int r1], k W H _ _ (Frm.refl _ _) o (.int _) q⟩
theorem tyx {W : Wd} {v : V} : ∀ {x : Dt} {t : String}, Ok K W H → Rp K W v x → tyD x = some t → TyX K H v (.type t)
  | .non, _, _, .non, e => by obtain rfl := Option.some.inj e; exact .base .non
  | .bl b, _, _, .bl _, e => by obtain rfl := Option.some.inj e; exact .base (.bl _)
  | .int b, _, _, .int _, e => by obtain rfl := Option.some.inj e; exact .base (.int _)
  | .str b, _, _, .str _, e => by obtain rfl := Option.some.inj e; exact .base (.str _)
  | .tup b, _, o, .tup h r, e => by obtain rfl := Option.some.inj e; exact ty_tup0 (sqt (o.sF _ _ h))
  | .lst b, _, o, .lst h r, e => by obtain rfl := Option.some.inj e; exact .base (.lst (o.sF _ _ h))
  | .dK b, _, o, .dK h r, e => by obtain rfl := Option.some.inj e; exact .fDict (o.sF _ _ h)
theorem o_isi : OpL K (rIsi K) dIsi := fun W H vs xs P Q o r ⟨x, t, c, b, e, et, ek, q⟩ k => by
  subst e
  obtain ⟨v, w, rfl, r1, r2⟩ := rpl2 r
  cases r2
  exact ⟨v, .ty c, .type t, .type c, b, rfl, .ty c, tyx o r1 et, kit_ty ek, k W H _ _ (Frm.refl _ _) o (.bl _) q⟩
end
section
variable {X : Cx} {C : Ec} {E : XK} {e a b : Expr} {pos : Pos} {da db : DE} {dA : DA}
theorem ttru (h : PT X e (fun σ H Q => liftE X.K C E da σ H fun x H' => ∃ k, TruV X.K x H' k ∧ Q k H')) : PT X e (liftT X.K C E (dTru da)) := PT.imp h fun _ _ _ => lt_tru
theorem ncatL (ha : PE X a (liftE X.K C E da)) (hb : PE X b (liftE X.K C E db)) : PE X (.BinOp a .Add b pos) (liftN X.K C E (dCatL da db)) := PE.imp (pe_op op_catLN ha hb) fun _ _ _ => le_catL
theorem nlistof (h : PE X e (tCB (rListN X.K) (liftA X.K C E dA))) : PE X e (liftN X.K C E (dListOf dA)) := PE.imp h fun _ _ _ => le_listOf
theorem nlr1 (h : PE X e (tLr1N (liftE X.K C E da))) : PE X e (liftN X.K C E (dLr1 da)) := PE.imp h fun _ _ _ => le_lr1
end
/-! a comprehension of two clauses -/
def dComp1 (p1 : Pt) (t1 : DT) (e : DE) (ρ0 : Env) (X : DX) : List Dt → List Dt → (List Dt → Prop) → Prop
  | [], acc, P => P acc
  | x :: xs, acc, P => bindD p1 x ρ0 fun ρ => t1 X ρ fun k => if k = true then e X ρ fun y => acc.length ≤ 100000 ∧ dComp1 p1 t1 e ρ0 X xs (acc ++ [y]) P else dComp1 p1 t1 e ρ0 X xs acc P
def dComp2 (p : Pt) (t : DT) (w1 : DA) (p1 : Pt) (t1 : DT) (e : DE) (vs1 : List Nat) (ρ0 : Env) (X : DX) : List Dt → List Dt → (List Dt → Prop) → Prop
  | [], acc, P => P acc
  | x :: xs, acc, P => bindD p x ρ0 fun ρ => t X ρ fun k => if k = true then w1 X ρ fun ys => dComp1 p1 t1 e (wipeD ρ vs1) X ys acc fun acc' => dComp2 p t w1 p1 t1 e vs1 ρ0 X xs acc' P else dComp2 p t w1 p1 t1 e vs1 ρ0 X xs acc P
def dLc2 (w : DA) (p : Pt) (t : DT) (w1 : DA) (p1 : Pt) (t1 : DT) (e : DE) (vs vs1 : List Nat) : DN := fun X ρ P => w X ρ fun xs => dComp2 p t w1 p1 t1 e vs1 (wipeD ρ vs) X xs [] P
theorem wipe_sub {σ : L2.St} {vs us : List Nat} (h : ∀ i ∈ us, i ∈ vs) : L2.wipe (L2.wipe σ vs) us = L2.wipe σ vs := by
  induction us with
  | nil => rfl
  | cons u us ih =>
    show (L2.wipe (L2.wipe σ vs) us).set u none = _
    rw [ih fun i hi => h i (List.mem_cons_of_mem _ hi)]
    have hu := h u List.mem_cons_self
    clear ih h
    induction vs with
    | nil => cases hu
    | cons v vs ih =>
      show ((L2.wipe σ vs).set v none).set u none = _
      by_cases e : v = u
      · subst e; rw [List.set_set]; rfl
      · rw [List.set_comm _ _ e, ih (by
          rcases List.mem_cons.mp hu with z | z
          · exact absurd z.symm e
          · exact z)]; rfl
section
variable {K : PySem.W.Frag} {C : Ec} {E : XK} {σ : L2.St} {H : Hp}
theorem le_lc2 {w w1 : DA} {p p1 : Pt} {t t1 : DT} {e : DE} {vs vs1 : List Nat} {Q : VK} (hp : ptIn vs p = true) (hp1 : ptIn vs1 p1 = true) (hv : ∀ i ∈ vs1, i ∈ vs) (q : liftN K C E (dLc2 w p t w1 p1 t1 e vs vs1) σ H Q) :
    tLc2 (liftI K C E w) (gOf K p) (liftT K C E t) (liftI K C E w1) (gOf K p1) (liftT K C E t1) (liftE K C E e) vs vs1 σ H Q := by
  obtain ⟨c, P, at_, h, k⟩ := q
  refine ⟨c, _, at_, h, fun W1 H1 J xs f1 o1 wk q1 D n => ?_⟩
  have hn0 : H D = none := f1.kp D n
  let Pv : List Dt → (List Dt → Prop) → Hp → Prop := fun acc N H' => ∃ W' vs', Cn.At K C E { c with Wl := W1, W := W' } σ H' ∧ Frm c.W H W' H' ∧ W'.F D = none ∧ ¬ W'.dl D ∧ H' D = some (.lst vs') ∧ RpL K W' vs' acc ∧ N acc
  refine (⟨fun i m H' => m = xs.length - i ∧ i ≤ xs.length ∧ ∃ acc, Pv acc (fun acc => dComp2 p t w1 p1 t1 e vs1 (wipeD c.ρ vs) c.PX (xs.drop i) acc P) H', ⟨xs.length, by simp, Nat.zero_le _, [], W1, [], ?_, f1.trans (Frm.laid n), o1.fr n, o1.dice_ne n, upd_same, .nil, q1⟩, ?_⟩)
  · have a1 := at_.frm f1 o1
    have a2 := a1.frm (Frm.laid (o := .lst []) n) (o1.laid n)
    exact ⟨a2.lk, a2.fr, a2.el, Wd.Le.refl _⟩
  · rintro i m H' ⟨rfl, hi, acc, W', vs', a, fr, nF, nd, hD, ra, q⟩
    have g : Same W1.F H' := Same.trans a.lo.sF a.lk.ok.sF
    rcases Nat.lt_or_ge i xs.length with hlt | hge
    · refine .inr ⟨wk.goes i H' hlt g, fun H2 => ∃ acc, Pv acc (fun acc => dComp2 p t w1 p1 t1 e vs1 (wipeD c.ρ vs) c.PX (xs.drop (i + 1)) acc P) H2, fun H2 h2 => ⟨xs.length - (i + 1), by omega, rfl, hlt, h2⟩, fun u H2 y => ?_⟩
      obtain ⟨W2, x, f2, o2, ex, r⟩ := yd_run (wk.yields i H' u H2 hlt g y) a.lk.ok a.lo
      rw [drop_at ex] at q
      have a2 := (a.frm f2 o2).wipe vs
      refine bind_run (c := { c with Wl := W1, W := W2, ρ := wipeD c.ρ vs }) p a2 r q fun ρ3 σ3 a3 w3 q3 so => ⟨(w3 vs hp).trans (wipe_wipe fun _ h => h), ?_⟩
      refine ⟨{ c with Wl := W1, W := W2, ρ := ρ3 }, _, a3, q3, fun W4 H4 b f4 o4 q4 => ?_⟩
      have f24 := f2.trans f4
      cases b with
      | false =>
        rw [if_neg Bool.false_ne_true] at q4
        refine iteF ?_
        exact ⟨acc, W4, vs', a.frm f24 o4, fr.trans f24, f24.nF D _ hD nd trivial nF, f24.ndl hD nd, f24.sH D _ hD nd, ra.le f24.le, q4⟩
      | true =>
        rw [if_pos rfl] at q4
        refine iteT ?_
        refine ⟨{ c with Wl := W1, W := W4, ρ := ρ3 }, _, a3.frm f4 o4, q4, fun W5 H5 J1 ys f5 o5 wk1 q5 => ?_⟩
        have f25 := f24.trans f5
        have a5 : Cn.At K C E { c with Wl := W1, W := W5, ρ := ρ3 } σ3 H5 := (a3.frm f4 o4).frm f5 o5
        -- the inner walk: the outer scene (σ) and the inner one (σ3) go on together
        refine ⟨fun j m H' => m = ys.length - j ∧ j ≤ ys.length ∧ ∃ acc, ∃ W' vs', Cn.At K C E { c with Wl := W1, W := W' } σ H' ∧ Cn.At K C E { c with Wl := W5, W := W', ρ := ρ3 } σ3 H' ∧ Frm c.W H W' H' ∧ W'.F D = none ∧ ¬ W'.dl D ∧ H' D = some (.lst vs') ∧ RpL K W' vs' acc ∧
            dComp1 p1 t1 e (wipeD ρ3 vs1) c.PX (ys.drop j) acc fun acc' => dComp2 p t w1 p1 t1 e vs1 (wipeD c.ρ vs) c.PX (xs.drop (i + 1)) acc' P,
          ⟨ys.length, by simp, Nat.zero_le _, acc, W5, vs', a.frm f25 o5, ⟨a5.lk, a5.fr, a5.el, Wd.Le.refl _⟩, fr.trans f25, f25.nF D _ hD nd trivial nF, f25.ndl hD nd, f25.sH D _ hD nd, ra.le f25.le, q5⟩, ?_⟩
        rintro j m H6 ⟨rfl, hj, acc6, W6, vs6, a6, b6, fr6, nF6, nd6, hD6, ra6, q6⟩
        have g6 : Same W5.F H6 := Same.trans b6.lo.sF b6.lk.ok.sF
        rcases Nat.lt_or_ge j ys.length with hlt6 | hge6
        · refine .inr ⟨wk1.goes j H6 hlt6 g6, fun H' => ∃ acc, ∃ W' vs', Cn.At K C E { c with Wl := W1, W := W' } σ H' ∧ Cn.At K C E { c with Wl := W5, W := W', ρ := ρ3 } σ3 H' ∧ Frm c.W H W' H' ∧ W'.F D = none ∧ ¬ W'.dl D ∧ H' D = some (.lst vs') ∧ RpL K W' vs' acc ∧
            dComp1 p1 t1 e (wipeD ρ3 vs1) c.PX (ys.drop (j + 1)) acc fun acc' => dComp2 p t w1 p1 t1 e vs1 (wipeD c.ρ vs) c.PX (xs.drop (i + 1)) acc' P, fun H2 h2 => ⟨ys.length - (j + 1), by omega, rfl, hlt6, h2⟩, fun u H7 y => ?_⟩
          obtain ⟨W7, x7, f7, o7, ex7, r7⟩ := yd_run (wk1.yields j H6 u H7 hlt6 g6 y) b6.lk.ok b6.lo
          rw [drop_at ex7] at q6
          have b7 := (b6.frm f7 o7).wipe vs1
          refine bind_run (c := { c with Wl := W5, W := W7, ρ := wipeD ρ3 vs1 }) p1 b7 r7 q6 fun ρ8 σ8 b8 w8 q8 _ => ⟨(w8 vs1 hp1).trans (wipe_wipe fun _ h => h), ?_⟩
          refine ⟨{ c with Wl := W5, W := W7, ρ := ρ8 }, _, b8, q8, fun W9 H9 b f9 o9 q9 => ?_⟩
          have f79 := f7.trans f9
          cases b with
          | false =>
            rw [if_neg Bool.false_ne_true] at q9
            refine iteF ?_
            exact ⟨acc6, W9, vs6, a6.frm f79 o9, b6.frm f79 o9, fr6.trans f79, f79.nF D _ hD6 nd6 trivial nF6, f79.ndl hD6 nd6, f79.sH D _ hD6 nd6, ra6.le f79.le, q9⟩
          | true =>
            rw [if_pos rfl] at q9
            refine iteT ?_
            refine ⟨{ c with Wl := W5, W := W9, ρ := ρ8 }, _, b8.frm f9 o9, q9, fun WA HA v y fA oA rA ⟨hz, qA⟩ => ?_⟩
            have f7A := f79.trans fA
            have hDA := f7A.sH D _ hD6 nd6
            have nFA := f7A.nF D _ hD6 nd6 trivial nF6
            have ndA := f7A.ndl hD6 nd6
            have raA := ra6.le f7A.le
            have frA := fr6.trans f7A
            have up : Frm c.W H WA (upd HA D (.lst (vs6 ++ [v]))) := ⟨frA.le, fun b o hb hd => by rw [upd_ne (ne_new hn0 hb)]; exact frA.sH b o hb hd, frA.nF, frA.dn, fun b hb => by
              by_cases e : b = D
              · rw [e]; exact hn0
              · rw [upd_ne e] at hb; exact frA.kp b hb⟩
            refine ⟨vs6, hDA, Nat.lt_of_le_of_lt (by rw [ra6.length]; exact hz) (by decide), acc6 ++ [y], WA, vs6 ++ [v], ?_, ?_, up, nFA, ndA, upd_same, raA.append (.cons rA .nil), qA⟩
            · have au := at_.frm up (oA.change nFA ndA hDA trivial)
              exact ⟨au.lk, au.fr, at_.el, a6.lo.trans f7A.le⟩
            · -- the inner scene: its own things are those of the outer one
              have au := at_.frm up (oA.change nFA ndA hDA trivial)
              have bA := b6.frm f7A oA
              refine ⟨⟨au.lk.ok, bA.lk.len, fun i' s' e' => ?_, bA.lk.sep⟩, au.fr, at_.el, bA.lo⟩
              obtain ⟨o', g1, g2⟩ := bA.lk.sl i' s' e'
              refine ⟨o', g1, ?_⟩
              have ne : ∀ (p : Addr) (s : Sl) , s' = s → own s = true → o' = some (.ref p) → p ≠ D := fun p s es ow eo z => by
                subst es; subst eo; subst z
                obtain ⟨h1, h2⟩ := (SameOwn.wipe (ρ := c.ρ) (σ := σ) vs |>.trans so) i' s' e' ow
                rw [h2] at g1
                obtain ⟨o2, k1, k2⟩ := at_.lk.sl i' s' h1
                rw [k1] at g1
                obtain rfl := Option.some.inj g1
                cases s' with
                | un => cases ow
                | v x => cases ow
                | pk u => cases ow
                | ol xs' =>
                  obtain ⟨p', vs', e1, _, h', _⟩ := k2
                  obtain rfl := V.ref.inj (Option.some.inj e1)
                  rw [hn0] at h'; cases h'
                | od ps' =>
                  obtain ⟨p', vs', e1, _, h', _⟩ := k2
                  obtain rfl := V.ref.inj (Option.some.inj e1)
                  rw [hn0] at h'; cases h'
                | ob ps' =>
                  obtain ⟨p', vs', _, e1, _, h', _⟩ := k2
                  obtain rfl := V.ref.inj (Option.some.inj e1)
                  rw [hn0] at h'; cases h'
              cases s' with
              | un => trivial
              | v x => exact g2
              | pk u => exact g2
              | ol xs' => obtain ⟨p', vs', e1, m', h', r'⟩ := g2; exact ⟨p', vs', e1, m', by rw [upd_ne (ne p' _ rfl rfl e1)]; exact h', r'⟩
              | od ps' => obtain ⟨p', h0', e1, m', h', r'⟩ := g2; exact ⟨p', h0', e1, m', by rw [upd_ne (ne p' _ rfl rfl e1)]; exact h', r'⟩
              | ob ps' => obtain ⟨p', h0', ks', e1, m', h', b', r'⟩ := g2; exact ⟨p', h0', ks', e1, m', by rw [upd_ne (ne p' _ rfl rfl e1)]; exact h', b', r'⟩
        · obtain rfl : j = ys.length := by omega
          refine .inl ⟨wk1.stops H6 g6, ?_⟩
          rw [List.drop_length] at q6
          exact ⟨acc6, W6, vs6, a6, fr6, nF6, nd6, hD6, ra6, q6⟩
    · obtain rfl : i = xs.length := by omega
      refine .inl ⟨wk.stops H' g, ?_⟩
      rw [List.drop_length] at q
      exact k W' H' D vs' acc fr a.lk.ok hn0 nF nd hD ra q
theorem ls_lc {i : Nat} {w : DA} {p : Pt} {t : DT} {e : DE} {vs : List Nat} {D : Ends} (hp : ptIn vs p = true) (q : liftS K C E (dAsg (.nm i) (dFz (dLc w p t e vs))) D σ H) : tAsg (tLc (liftI K C E w) (gOf K p) (liftT K C E t) (liftE K C E e) vs) (gName i) D σ H := le_lc hp (le_fz (ls_asg1 q))
theorem ls_lcN {i : Nat} {w : DA} {p : Pt} {t : DT} {e : DE} {vs : List Nat} {D : Ends} (hp : ptIn vs p = true) (q : liftS K C E (dAsgN i (dLc w p t e vs)) D σ H) : tAsg (tLc (liftI K C E w) (gOf K p) (liftT K C E t) (liftE K C E e) vs) (gName i) D σ H := le_lc hp (ls_asgN q)
theorem ls_lc2 {i : Nat} {w w1 : DA} {p p1 : Pt} {t t1 : DT} {e : DE} {vs vs1 : List Nat} {D : Ends} (hp : ptIn vs p = true) (hp1 : ptIn vs1 p1 = true) (hv : ∀ i ∈ vs1, i ∈ vs) (q : liftS K C E (dAsg (.nm i) (dFz (dLc2 w p t w1 p1 t1 e vs vs1))) D σ H) : tAsg (tLc2 (liftI K C E w) (gOf K p) (liftT K C E t) (liftI K C E w1) (gOf K p1) (liftT K C E t1) (liftE K C E e) vs vs1) (gName i) D σ H := le_lc2 hp hp1 hv (le_fz (ls_asg1 q))
end
end Dx
end
section
open PySem L2 RT Sx
local macro_rules | `(tactic| walk_at "s") => `(tactic| first
  | ((with_reducible refine' i_var ?k1 ?_); (case k1 => rfl))
  | with_reducible refine' i_c ?_
  | with_reducible refine' i_op ?_
  | with_reducible refine' i_cons ?_
  | with_reducible refine' i_nil ?_
  | with_reducible refine' i_seq ?_
  | with_reducible refine' i_asg ?_
  | ((with_reducible refine' i_gname ?_); try dsimp -proj only [List.set_cons_zero, List.set_cons_succ])
  | with_reducible refine' i_call ?_
  | with_reducible refine' i_cb ?_
  | with_reducible refine' i_ifS ?_
  | with_reducible refine' i_test ?_
  | with_reducible refine' i_exbl ?_
  | with_reducible refine' i_exnat ?_
  | with_reducible refine' i_ret ?_
  | with_reducible refine' i_drop ?_
  | with_reducible refine' i_next ?_
  | with_reducible refine' i_tB ?_
  | with_reducible refine' i_chain ?_
  | with_reducible refine' i_and ?_
  | with_reducible refine' i_or ?_
  | with_reducible refine' i_not ?_
  | with_reducible refine' i_andV ?_
  | with_reducible refine' i_orV ?_
  | with_reducible refine' i_notV ?_
  | with_reducible refine' i_if ?_
  | with_reducible refine' i_un ?_
  | with_reducible refine' i_negN ?_
  | with_reducible refine' i_addN ?_
  | ((with_reducible refine' i_subN ?k1 ?_); (case k1 => omega))
  | ((with_reducible refine' i_mulN ?k1 ?_); (case k1 => omega))
  | ((with_reducible refine' i_fdN ?k1 ?k2 ?_); (case k1 => omega); (case k2 => omega))
  | ((with_reducible refine' i_mdN ?k1 ?_); (case k1 => omega))
  | ((with_reducible refine' i_pwN ?k1 ?k2 ?_); (case k1 => omega); (case k2 => omega))
  | with_reducible refine' i_ltN ?_
  | with_reducible refine' i_leN ?_
  | with_reducible refine' i_gtN ?_
  | with_reducible refine' i_geN ?_
  | with_reducible refine' i_eqN ?_
  | with_reducible refine' i_neN ?_
  | with_reducible refine' i_bit ?_
  | with_reducible refine' i_tup ?_
  | with_reducible refine' i_lst ?_
  | with_reducible refine' i_bm ?_
  | with_reducible refine' i_bm0 ?_
  | with_reducible refine' i_gsub ?_
  | ((with_reducible refine' i_aug ?k1 ?_); (case k1 => rfl))
  | with_reducible refine' i_sl ?_
  | with_reducible refine' i_nopart ?_
  | with_reducible refine' i_part ?_
  | with_reducible refine' i_yes1 ?_
  | with_reducible refine' i_lcR ?_
  | with_reducible refine' i_lcL ?_
  | with_reducible refine' i_lcT ?_
  | with_reducible refine' i_lct ?_
  | with_reducible refine' i_iteT ?_
  | with_reducible refine' i_iteNT ?_
  | with_reducible refine' i_iteNF ?_
  | with_reducible refine' i_iteF ?_
  | ((with_reducible refine' i_yes ?k1 ?_); (case k1 => omega))
  | ((with_reducible refine' i_nay ?k1 ?_); (case k1 => omega))
  | ((with_reducible refine' i_yesN ?k1 ?_); (case k1 => omega))
  | ((with_reducible refine' i_nayN ?k1 ?_); (case k1 => omega)))
local macro_rules | `(tactic| walk_at "go") => `(tactic| (repeat walk_at "s"; try dsimp -proj only [List.set_cons_zero, List.set_cons_succ]))

namespace Sx
def t__law_dice (K : PySem.W.Frag) : TS := (tSeq (tAsg (tC (natV 0)) (gName 1))
  (tSeq (tFor (iList K (tVar 0)) (gName 2)
  (tAsg (tOp rMd (tOp rAdd (tOp rAdd (tOp rMul (tVar 1) (tC (natV 48271))) (tOp rMul (tOp rMd (tVar 2) (tC (natV 2147483647))) (tC (natV 69621)))) (tC (natV 11))) (tC (natV 2147483647))) (gName 1)))
  (tRet (tLstN (tCons (tVar 0) (tCons (tC (natV 0)) (tCons (tOp rMulW (tVar 1) (tCB rInt1 (tCons (tOp rGt (tCB (rLen K) (tCons (tVar 0) tNil)) (tC (natV 2))) tNil))) (tCons (tC (natV 0)) tNil))))))))
def t__law_next (K : PySem.W.Frag) : TS := (tSeq (tIfS (tTest (tOp rGt (tOp (rIxL K) (tVar 0) (tC (natV 3))) (tC (natV 0)))) (tSeq (tAsg (tOp rMd (tOp (rIxL K) (tVar 0) (tC (natV 3))) (tVar 1)) (gName 2))
  (tSeq (tAsg (tOp rFd (tOp (rIxL K) (tVar 0) (tC (natV 3))) (tVar 1)) (gSub (tVar 0) (tC (natV 3)) rSetL))
  (tRet (tVar 2)))) tNext)
  (tSeq (tAsg (tOp rAdd (tOp (rIxL K) (tVar 0) (tC (natV 1))) (tC (natV 1))) (gSub (tVar 0) (tC (natV 1)) rSetL))
  (tSeq (tIfS (tTest (tOp rLe (tOp (rIxL K) (tVar 0) (tC (natV 1))) (tCB (rLen K) (tCons (tOp (rIxL K) (tVar 0) (tC (natV 0))) tNil)))) (tSeq (tAsg (tOp (rIxL K) (tOp (rIxL K) (tVar 0) (tC (natV 0))) (tOp rSub (tOp (rIxL K) (tVar 0) (tC (natV 1))) (tC (natV 1)))) (gName 3))
  (tSeq (tAsg (tIf (tTest (tOp rGe (tVar 3) (tOp rPw (tC (natV 10)) (tC (natV 18))))) (tOp rFd (tVar 3) (tVar 1)) (tC (natV 0))) (gSub (tVar 0) (tC (natV 3)) rSetL))
  (tRet (tOp rMd (tVar 3) (tVar 1))))) tNext)
  (tSeq (tAsg (tOp rMd (tOp rMul (tOp (rIxL K) (tVar 0) (tC (natV 2))) (tC (natV 48271))) (tC (natV 2147483647))) (gSub (tVar 0) (tC (natV 2)) rSetL))
  (tRet (tOp rMd (tOp rFd (tOp (rIxL K) (tVar 0) (tC (natV 2))) (tC (natV 7))) (tVar 1)))))))
def t__law_like (K : PySem.W.Frag) (sp : Sp) : TS := (tSeq (tIfS (tB (tCB (rIsi K) (tCons (tVar 1) (tCons (tC (.ty "str")) tNil)))) (tRet (tAndV (tCB (rIsi K) (tCons (tVar 0) (tCons (tC (.ty "str")) tNil))) (tOp (rEqD K) (tVar 0) (tVar 1)))) tNext)
  (tSeq (tIfS (tB (tCB (rIsi K) (tCons (tVar 1) (tCons (tC (.ty "int")) tNil)))) (tRet (tAndV (tCB (rIsi K) (tCons (tVar 0) (tCons (tC (.ty "int")) tNil))) (tAndV (tNotV (tCB (rIsi K) (tCons (tVar 0) (tCons (tC (.ty "bool")) tNil)))) (tOp (rEqD K) (tVar 0) (tVar 1))))) tNext)
  (tSeq (tIfS (tTest (tOp rIsN (tVar 1) (tC .non))) (tRet (tOp rIsN (tVar 0) (tC .non))) tNext)
  (tSeq (tIfS (tOr (tTest (tOp rNe (tCB (rIsi K) (tCons (tVar 1) (tCons (tC (.ty "tuple")) tNil))) (tCB (rIsi K) (tCons (tVar 0) (tCons (tC (.ty "tuple")) tNil))))) (tTest (tOp rNe (tCB (rIsi K) (tCons (tVar 1) (tCons (tC (.ty "list")) tNil))) (tCB (rIsi K) (tCons (tVar 0) (tCons (tC (.ty "list")) tNil)))))) (tRet (tC (.bl false))) tNext)
  (tSeq (tIfS (tTest (tOp rNe (tCB (rLen K) (tCons (tVar 0) tNil)) (tCB (rLen K) (tCons (tVar 1) tNil)))) (tRet (tC (.bl false))) tNext)
  (tSeq (tFor (iRng1 (tCons (tCB (rLen K) (tCons (tVar 1) tNil)) tNil)) (gName 2)
  (tIfS (tNot (tB (tCall (sp) [] E0 (tCons (tOp (rIxQ K) (tVar 0) (tVar 2)) (tCons (tOp (rIxQ K) (tVar 1) (tVar 2)) tNil))))) (tRet (tC (.bl false))) tNext))
  (tRet (tC (.bl true)))))))))

theorem rowV_ints (r : List Nat) : rowV r = (r.map fun n : Nat => (n : Int)).map V.int := by
  unfold rowV natV; rw [List.map_map]; rfl
theorem rowV_get {r : List Nat} {i d : Nat} (h : r[i]? = some d) : (rowV r)[i]? = some (natV d) := by
  unfold rowV; rw [List.getElem?_map, h]; rfl
theorem rowV_len (r : List Nat) : (rowV r).length = r.length := by unfold rowV; rw [List.length_map]
theorem rowV_of {r : List Nat} {i : Nat} {x : V} (h : (rowV r)[i]? = some x) : ∃ d, r[i]? = some d ∧ x = natV d := by
  unfold rowV at h; rw [List.getElem?_map] at h
  cases e : r[i]? with
  | none => rw [e] at h; cases h
  | some d => rw [e] at h; exact ⟨d, rfl, (Option.some.inj h).symm⟩
theorem sum_cast (r : List Nat) : (r.map fun n : Nat => (n : Int)).sum = ((r.sum : Nat) : Int) := by
  induction r with
  | nil => rfl
  | cons d r ih => rw [List.map_cons, List.sum_cons, List.sum_cons, ih]; omega
section
variable {K : PySem.W.Frag} {H : Hp} {Q : VK} {a : Addr} {r : List Nat}
theorem i_sumN (h : SqT K H a (rowV r)) (q : Q (natV r.sum) H) : rSumT K [.ref a] H Q :=
  ⟨a, _, rfl, by rw [← rowV_ints]; exact h, by rw [sum_cast]; exact q⟩
theorem i_minN (h : SqT K H a (rowV r)) (hn : r ≠ []) (q : ∀ m, m ∈ r → (∀ y ∈ r, m ≤ y) → Q (natV m) H) : rMinT K [.ref a] H Q :=
  ⟨a, _, rfl, by rw [← rowV_ints]; exact h, by rw [List.length_map]; exact List.length_pos_iff.mpr hn, fun m hm hy => by
    obtain ⟨k, hk, rfl⟩ := List.mem_map.mp hm
    exact q k hk fun y hy' => by have := hy (y : Int) (List.mem_map.mpr ⟨y, hy', rfl⟩); omega⟩
theorem i_maxN (h : SqT K H a (rowV r)) (hn : r ≠ []) (q : ∀ m, m ∈ r → (∀ y ∈ r, y ≤ m) → Q (natV m) H) : rMaxT K [.ref a] H Q :=
  ⟨a, _, rfl, by rw [← rowV_ints]; exact h, by rw [List.length_map]; exact List.length_pos_iff.mpr hn, fun m hm hy => by
    obtain ⟨k, hk, rfl⟩ := List.mem_map.mp hm
    exact q k hk fun y hy' => by have := hy (y : Int) (List.mem_map.mpr ⟨y, hy', rfl⟩); omega⟩
/-- the last item -/
theorem i_ixlast {xs : List V} {v : V} (h : SqT K H a xs) (e : xs.getLast? = some v) (q : Q v H) : rIxT K (.ref a) (.int (-1)) H Q := by
  obtain ⟨ys, rfl⟩ := List.getLast?_eq_some_iff.mp e
  exact i_ixTlast h q
theorem row_ne {r : List Nat} (h : IsRow r) : r ≠ [] := by
  rintro rfl; have := h.len.1; simp at this
abbrev endsOf (Q : VK) : Ends := { nx := fun _ H' => Q .non H', rt := Q }
theorem take_more {α : Type} : ∀ {l : List α} {i : Nat} {x : α}, l[i]? = some x → l.take (i + 1) = l.take i ++ [x]
  | [], i, x, h => by simp at h
  | a :: l, 0, x, h => by
    have e : a = x := Option.some.inj h
    subst e; rfl
  | a :: l, i + 1, x, h => by
    have ih := take_more (l := l) (i := i) (x := x) h
    show a :: l.take (i + 1) = a :: l.take i ++ [x]
    rw [ih]; rfl
theorem whole_take {r : List Nat} {i d : Nat} (h : r[i]? = some d) : whole (r.take (i + 1)) = whole (r.take i) * 60 + d := by
  rw [take_more h, whole_append]
theorem figsL_step {n : Nat} {l : List Nat} {k : Nat} (h : 0 < k) (e : figsL n = l ++ figsL k) : figsL n = (l ++ [k % 60]) ++ figsL (k / 60) := by
  rw [e, figsL_pos h, List.append_assoc]; rfl
theorem rowV_snoc (l : List Nat) (d : Nat) : rowV l ++ [natV d] = rowV (l ++ [d]) := by unfold rowV; rw [List.map_append]; rfl
theorem rowV_rev (l : List Nat) : (rowV l).reverse = rowV l.reverse := by unfold rowV; rw [List.map_reverse]
theorem Same.back {H H' : Hp} {p : Addr} (s : L2.Same H H') (h : H' p = none) : H p = none := by
  cases z : H p with
  | none => rfl
  | some o => rw [s _ _ z] at h; cases h
theorem whole12 {r : List Nat} (h : IsRow r) : whole r < 60 ^ 12 := whole_lt h.fig h.len.2
theorem p12 : 60 ^ 12 < 2 ^ 72 := by decide
/-! the laws' helpers -/
theorem pure__law_dice {vs : List V} {E : XK} (h : sp__law_dice K vs H Q E) : t__law_dice K (endsOf Q) (start ["_law_script", "_law_mixed", "_law_cell"] vs) H := by
  obtain ⟨a, ns, rfl, hr, hl, q⟩ := h
  show t__law_dice K (endsOf Q) [some (.ref a), none, none] H
  unfold t__law_dice
  walk_at "go"
  refine i_for (i_iList ?_)
  walk_at "go"
  refine l_list (K := K) (xs := ns.map V.int) hr (fun i σ H' => ∃ x m, σ = [some (.ref a), some (natV m), x] ∧ m < 2147483647 ∧ H' = H) ⟨none, 0, rfl, by decide, rfl⟩ ?_ ?_ ?_
  · rintro i σ H' _ ⟨x, m, rfl, _, rfl⟩
    exact hr
  · rintro i x σ H' hx ⟨y, m, rfl, hm, rfl⟩
    obtain ⟨z, _, rfl⟩ := List.mem_map.mp (List.mem_of_getElem? hx)
    walk_at "go"
    refine i_mdI (by decide) fun k hk => ?_
    walk_at "go"
    exact ⟨_, _, rfl, Nat.mod_lt _ (by decide), rfl⟩
  · rintro σ H' ⟨x, m, rfl, hm, rfl⟩
    walk_at "go"
    refine i_lenL hr ?_
    walk_at "go"
    have key : ∀ c : Nat, c ≤ 1 → m * c < 2147483647 := fun c hc => by
      rcases Nat.le_one_iff_eq_zero_or_eq_one.mp hc with rfl | rfl <;> omega
    refine i_mulWN (m := 31) (n := 1) (by omega) (by split <;> omega) (by decide) (by decide) (by decide) ?_
    walk_at "go"
    refine ⟨szl (by simp), fun d H1 nd s hd => ?_⟩
    exact q d H1 nd s ⟨0, _, 0, hd, key _ (by split <;> omega)⟩
theorem pure__law_next {vs : List V} {E : XK} (h : sp__law_next K vs H Q E) : t__law_next K (endsOf Q) (start ["_law_dice_here", "_law_many", "_law_found", "_law_cell"] vs) H := by
  obtain ⟨d, m, rfl, D, h0, hm, q⟩ := h
  obtain ⟨sc, ⟨i, x, c, hd, hx⟩, ns, hl, hs⟩ := id D
  show t__law_next K (endsOf Q) [some (.ref d), some (natV m), none, none] H
  unfold t__law_next
  have drew : ∀ (i' x' c' : Nat), x' < 2147483647 → ∀ H', SB d H H' → H' d = some (.lst [.ref sc, natV i', natV x', natV c']) → Drew d H H' := fun i' x' c' hx' H' s e => ⟨s, fun sc2 ⟨_, _, _, e2, _⟩ => by
    rw [hd] at e2
    cases e2
    exact ⟨i', x', c', e, hx'⟩⟩
  walk_at "go"
  refine i_ixL (sql hd) rfl ?_
  walk_at "go"
  refine i_ite (fun hc => ?_) (fun hc => ?_)
  · walk_at "go"
    refine i_ixL (sql hd) rfl ?_
    walk_at "go"
    refine i_ixL (sql hd) rfl ?_
    walk_at "go"
    refine i_setL hd (by simp) ?_
    walk_at "go"
    exact q _ _ (Nat.mod_lt _ h0) (drew i x (c / m) hx _ (SB.upd _ _ _) upd_same)
  · walk_at "go"
    refine i_ixL (sql hd) rfl ?_
    walk_at "go"
    refine i_setL hd (by simp) ?_
    walk_at "go"
    have s1 : SB d H (upd H d (.lst [.ref sc, natV (i + 1), natV x, natV c])) := SB.upd _ _ _
    have e1 : (upd H d (.lst [.ref sc, natV (i + 1), natV x, natV c])) d = some (.lst [.ref sc, natV (i + 1), natV x, natV c]) := upd_same
    generalize upd H d (.lst [.ref sc, natV (i + 1), natV x, natV c]) = H1 at s1 e1 ⊢
    have hs1 := hs H1 s1
    refine i_ixL (sql e1) rfl ?_
    walk_at "go"
    refine i_ixL (sql e1) rfl ?_
    walk_at "go"
    refine i_lenL hs1 ?_
    rw [List.length_map]
    walk_at "go"
    refine i_ite (fun hc2 => ?_) (fun hc2 => ?_)
    · walk_at "go"
      refine i_ixL (sql e1) rfl ?_
      walk_at "go"
      refine i_ixL (sql e1) rfl ?_
      walk_at "go"
      obtain ⟨z, hz⟩ : ∃ z, ns[i + 1 - 1]? = some z := ⟨_, List.getElem?_eq_getElem (by omega)⟩
      refine i_ixL hs1 (v := .int z) (by rw [List.getElem?_map, hz]; rfl) ?_
      walk_at "go"
      refine i_geIN ?_
      walk_at "go"
      have fin : ∀ (c' : Nat), rMd (.int z) (natV m) (upd H1 d (.lst [.ref sc, natV (i + 1), natV x, natV c'])) Q := fun c' =>
        i_mdI h0 fun k hk => q _ _ hk (drew (i + 1) x c' hx _ (s1.trans (SB.upd _ _ _)) upd_same)
      refine i_ite (fun hb => ?_) (fun hb => ?_)
      · walk_at "go"
        obtain ⟨y, rfl⟩ : ∃ y : Nat, z = (y : Int) := ⟨z.toNat, by omega⟩
        refine i_fdN (a := y) h0 hm ?_
        walk_at "go"
        refine i_setL e1 (by simp) ?_
        walk_at "go"
        exact fin _
      · walk_at "go"
        refine i_setL e1 (by simp) ?_
        walk_at "go"
        exact fin _
    · walk_at "go"
      refine i_ixL (sql e1) rfl ?_
      walk_at "go"
      refine i_setL e1 (by simp) ?_
      walk_at "go"
      refine i_ixL (sql upd_same) rfl ?_
      walk_at "go"
      exact q _ _ (Nat.mod_lt _ h0) (drew (i + 1) _ c (Nat.mod_lt _ (by decide)) _ (s1.trans (SB.upd _ _ _)) upd_same)
/-- figures, the noughts ahead dropped -/
def dropZ : List Nat → List Nat
  | [] => []
  | d :: r => if d = 0 then dropZ r else d :: r
theorem dropZ_figs (n : Nat) (h : 0 < n) : dropZ (figsL n) = figsL (strip n) := by
  induction n using Nat.strongRecOn with
  | ind n ih =>
    rw [figsL_pos h]
    by_cases e : n % 60 = 0
    · show (if n % 60 = 0 then _ else _) = _
      rw [if_pos e, ih (n / 60) (by omega) (by omega), strip_yes h e]
    · show (if n % 60 = 0 then _ else _) = _
      rw [if_neg e, strip_no h e, figsL_pos h]
theorem i_eqDN {k j : Nat} (q : Q (.bl (decide (k = j))) H) : rEqD K (natV k) (natV j) H Q := by
  refine ⟨.int k, .int j, .int _, .int _, rfl, rfl, ?_⟩
  have e : PyData.eqv (.int (k : Int)) (.int (j : Int)) = decide (k = j) := by
    rw [PyData.eqv]
    by_cases h : k = j
    · subst h; simp
    · rw [decide_eq_false h, beq_eq_false_iff_ne]; omega
  rw [e]; exact q
theorem pow_le9 {p a : Nat} (hp : 1 ≤ p) (h : a ≤ 9) : p ^ a ≤ p ^ 9 := Nat.pow_le_pow_right hp h
theorem smooth_lt {a b c : Nat} (ha : a ≤ 9) (hb : b ≤ 9) (hc : c ≤ 9) : 2 ^ a * 3 ^ b * 5 ^ c < 2 ^ 60 :=
  Nat.lt_of_le_of_lt (Nat.mul_le_mul (Nat.mul_le_mul (pow_le9 (by decide) ha) (pow_le9 (by decide) hb)) (pow_le9 (by decide) hc)) (by decide)
/-- one draw -/
theorem i_draw {d : Addr} {m : Nat} {E : XK} (D : Dice K H d) (h0 : 0 < m := by decide) (h1 : m < 1073741824 := by decide) (q : ∀ n H', n < m → Drew d H H' → Q (natV n) H') : sp__law_next K ([.ref d, natV m] ++ []) H Q E := ⟨d, m, rfl, D, h0, h1, q⟩
theorem getLast_take {α : Type} {l : List α} {n : Nat} (h : l ≠ []) (hn : 1 ≤ n) : l.take n ≠ [] := by
  cases l with
  | nil => exact absurd rfl h
  | cons x r =>
    cases n with
    | zero => omega
    | succ n => simp
theorem rowV_take (r : List Nat) (n : Nat) : (rowV r).take n = rowV (r.take n) := by unfold rowV; rw [List.map_take]
theorem rowV_last {r : List Nat} {x : Nat} (h : r.getLast? = some x) : (rowV r).getLast? = some (natV x) := by unfold rowV; rw [List.getLast?_map, h]; rfl
theorem row_130 : IsRow [1, 30] := ⟨by decide, by decide, by decide, by decide⟩
theorem drawn_row {r : List Nat} {m x : Nat} (h1 : ∀ d ∈ r, d < 60) (h2 : r ≠ []) (h3 : r[0]? ≠ some 0) (hm : 1 ≤ m) (hm2 : m ≤ 12) (hx : (r.take m).getLast? = some x) (h0 : 0 < x) : IsRow (r.take m) := by
  have hne := getLast_take h2 hm
  refine ⟨⟨List.length_pos_iff.mpr hne, by rw [List.length_take]; omega⟩, fun d hd => h1 d (List.mem_of_mem_take hd), ?_, ?_⟩
  · rw [List.getElem?_take]
    rw [if_pos (by omega)]; exact h3
  · rw [hx]; intro e
    have := Option.some.inj e
    omega
theorem isRow_one {n : Nat} (h : 0 < n) (hl : n ≤ 60) : IsRow (rowOf n) ∧ (rowOf n).length = 1 := by
  have key : ∀ k : Fin 60, IsRow (rowOf (k.val + 1)) ∧ (rowOf (k.val + 1)).length = 1 := by
    intro k
    have h1 : IsRow (rowOf (k.val + 1)) := isRow_small (by omega) (Nat.lt_of_le_of_lt (Nat.succ_le_of_lt k.isLt) (by decide))
    refine ⟨h1, ?_⟩
    revert k; intro k _
    have : ∀ k : Fin 60, (rowOf (k.val + 1)).length = 1 := by decide +kernel
    exact this k
  have := key ⟨n - 1, by omega⟩
  rw [show n - 1 + 1 = n by omega] at this
  exact this
theorem smooth_row_lt {a b c k : Nat} (ha : a ≤ 9) (hb : b ≤ 9) (hc : c ≤ 9) (hk : k ≤ 49) : 2 ^ a * 3 ^ b * 5 ^ c * k < 60 ^ 200 := by
  have h1 := smooth_lt ha hb hc
  calc 2 ^ a * 3 ^ b * 5 ^ c * k ≤ 2 ^ 60 * 49 := Nat.mul_le_mul (by omega) hk
    _ < 60 ^ 200 := by decide
theorem rowOf_spec {n : Nat} (h : 0 < n) : (∀ d ∈ rowOf n, d < 60) ∧ rowOf n ≠ [] ∧ (rowOf n)[0]? ≠ some 0 := by
  have h1 := (strip_spec n h).1
  refine ⟨figs_lt _, ?_, figs_head h1⟩
  intro e
  have := figs_len1 h1
  have e2 : figs (strip n) = [] := e
  rw [e2] at this; simp at this
/-! likeness -/
theorem ty_list {xs : List V} (h : SqL K H a xs) : TyX K H (.ref a) (.type "list") := by
  rcases h with (h | ⟨o, h⟩) | ⟨o, its, n, h2, h3, _⟩
  · exact .base (.lst h)
  · exact .base (.frz h)
  · exact .kList h2 h3
theorem ty_tup {xs : List V} (h : SqT K H a xs) : TyX K H (.ref a) (.type "tuple") := by
  rcases h with (h | ⟨o, h⟩) | ⟨o, its, n, h2, h3, _⟩
  · exact .base (.tup h)
  · exact .fTuple h
  · exact .kTuple h2 h3
theorem i_isi {x : V} {t c : String} {b : Bool} (h : TyX K H x (.type t)) (e : kitB t c = some b) (q : Q (.bl b) H) : rIsi K [x, .ty c] H Q := ⟨x, .ty c, .type t, .type c, b, rfl, .ty c, h, kit_ty e, q⟩
theorem i_isNref {b : Addr} (q : Q (.bl false) H) : rIsN (.ref b) .non H Q := ⟨rfl, by rw [decide_eq_false (by intro h; cases h)]; exact q⟩
theorem i_isNint {b : Nat} (q : Q (.bl false) H) : rIsN (natV b) .non H Q := ⟨rfl, by rw [decide_eq_false (by intro h; cases h)]; exact q⟩
theorem i_isNnon (q : Q (.bl true) H) : rIsN .non .non H Q := ⟨rfl, by rw [decide_eq_true rfl]; exact q⟩
theorem i_neBB {b : Bool} (q : Q (.bl false) H) : rNe (.bl b) (.bl b) H Q := ⟨rfl, by rw [decide_eq_true rfl]; exact q⟩
theorem dpAll_len : ∀ {xs : List V} {ds : List PyData}, DpAll K H xs ds → xs.length = ds.length
  | _, _, .nil => rfl
  | _, _, .cons _ h => by rw [List.length_cons, List.length_cons, dpAll_len h]
theorem dpAll_get : ∀ {xs : List V} {ds : List PyData} {i : Nat} {d : PyData}, DpAll K H xs ds → ds[i]? = some d → ∃ x, xs[i]? = some x ∧ Dp K H x d
  | _, _, i, d, .nil, h => by simp at h
  | _, _, 0, d, .cons h _, e => by
    obtain rfl := Option.some.inj e
    exact ⟨_, rfl, h⟩
  | _, _, i + 1, d, .cons _ h, e => dpAll_get (i := i) h e
theorem like_loop {n : Nat} {x y : V} {ds : List PyData} {D : Ends} {z : Option V} (hx : ∃ a xs, x = .ref a ∧ (SqL K H a xs ∨ SqT K H a xs) ∧ DpAll K H xs ds) (hy : ∃ a xs, y = .ref a ∧ (SqL K H a xs ∨ SqT K H a xs) ∧ DpAll K H xs ds)
    (hp : ∀ d ∈ ds, plainD n d) (hz : ds.length < 2 ^ 62) (q : ∀ z, D.nx [some x, some y, z] H) :
    tFor (iRng1 (tCons (tCB (rLen K) (tCons (tVar 1) tNil)) tNil)) (gName 2)
      (tIfS (tNot (tB (tCall (spLike K (n + 1)) [] E0 (tCons (tOp (rIxQ K) (tVar 0) (tVar 2)) (tCons (tOp (rIxQ K) (tVar 1) (tVar 2)) tNil))))) (tRet (tC (.bl false))) tNext) D [some x, some y, z] H := by
  obtain ⟨a, xs, rfl, ha, da⟩ := hx
  obtain ⟨b, ys, rfl, hb, db⟩ := hy
  have ix : ∀ {a : Addr} {xs : List V} {i : Nat} {v : V} {Q : VK}, (SqL K H a xs ∨ SqT K H a xs) → xs[i]? = some v → Q v H → rIxQ K (.ref a) (natV i) H Q := fun h e q => by
    rcases h with h | h
    · exact .inl (i_ixL h e q)
    · exact .inr (i_ixT h e q)
  refine i_for (i_iRng1 ?_)
  walk_at "go"
  refine ⟨b, ys, rfl, hb, ?_⟩
  rw [dpAll_len db]
  refine l_rng1 hz (fun i σ H' => ∃ z, σ = [some (.ref a), some (.ref b), z] ∧ H' = H) ⟨z, rfl, rfl⟩ ?_ ?_
  · rintro i σ H' hi ⟨z, rfl, rfl⟩
    walk_at "go"
    have hd : ds[i]? = some ds[i] := List.getElem?_eq_getElem hi
    obtain ⟨u, hu, du⟩ := dpAll_get da hd
    obtain ⟨w, hw, dw⟩ := dpAll_get db hd
    refine ix ha hu ?_
    walk_at "go"
    refine ix hb hw ?_
    refine ⟨u, w, ds[i], rfl, du, dw, hp _ (List.getElem_mem hi), ?_⟩
    walk_at "go"
    exact ⟨_, rfl, rfl⟩
  · rintro σ H' ⟨z, rfl, rfl⟩
    exact q z
theorem pure__law_like {vs : List V} {E : XK} {n : Nat} (h : spLike K (n + 1) vs H Q E) : t__law_like K (spLike K n) (endsOf Q) (start ["_law_found", "_law_due", "_law_k"] vs) H := by
  obtain ⟨x, y, D, rfl, hx, hy, hp, q⟩ := h
  show t__law_like K (spLike K n) (endsOf Q) [some x, some y, none] H
  unfold t__law_like
  cases D with
  | none =>
    cases hx; cases hy
    walk_at "go"
    refine i_isi (.base .non) (b := false) (by decide +kernel) ?_
    walk_at "go"
    refine i_isi (.base .non) (b := false) (by decide +kernel) ?_
    walk_at "go"
    refine i_isNnon ?_
    walk_at "go"
    refine i_isNnon ?_
    exact q
  | bool b => exact (by cases n <;> exact hp.elim)
  | int i =>
    cases hx; cases hy
    walk_at "go"
    refine i_isi (.base (.int i)) (b := false) (by decide +kernel) ?_
    walk_at "go"
    refine i_isi (.base (.int i)) (b := true) (by decide +kernel) ?_
    walk_at "go"
    refine i_isi (.base (.int i)) (b := true) (by decide +kernel) ?_
    refine ⟨_, rfl, i_iteT ?_⟩
    walk_at "go"
    refine i_isi (.base (.int i)) (b := false) (by decide +kernel) ?_
    refine ⟨_, rfl, ?_⟩
    refine ⟨_, rfl, i_iteT ?_⟩
    walk_at "go"
    refine ⟨.int i, .int i, .int i, .int i, rfl, rfl, ?_⟩
    rw [show PyData.eqv (.int i) (.int i) = true by simp [PyData.eqv]]
    exact q
  | str z =>
    cases hx; cases hy
    have hz : PyData.canLay0 (.str z) = true := by cases n <;> exact hp
    walk_at "go"
    refine i_isi (.base (.str z)) (b := true) (by decide +kernel) ?_
    walk_at "go"
    refine i_isi (.base (.str z)) (b := true) (by decide +kernel) ?_
    refine ⟨_, rfl, i_iteT ?_⟩
    walk_at "go"
    have hsh : SeqAt.shaped (.str z) = true := by simp [SeqAt.shaped, PyData.depth, hz]
    refine ⟨.str z, .str z, .str z, .str z, hsh, hsh, ?_⟩
    rw [show PyData.eqv (.str z) (.str z) = true by simp [PyData.eqv]]
    exact q
  | list ds =>
    cases n with
    | zero => exact hp.elim
    | succ n =>
      obtain ⟨hz, hp⟩ := hp
      cases hx with
      | lst h1 h2 =>
        cases hy with
        | lst h3 h4 =>
          walk_at "go"
          refine i_isi (ty_list h3) (b := false) (by decide +kernel) ?_
          walk_at "go"
          refine i_isi (ty_list h3) (b := false) (by decide +kernel) ?_
          walk_at "go"
          refine i_isNref ?_
          walk_at "go"
          refine i_isi (ty_list h3) (b := false) (by decide +kernel) ?_
          walk_at "go"
          refine i_isi (ty_list h1) (b := false) (by decide +kernel) ?_
          refine i_neBB ?_
          walk_at "go"
          refine i_isi (ty_list h3) (b := true) (by decide +kernel) ?_
          walk_at "go"
          refine i_isi (ty_list h1) (b := true) (by decide +kernel) ?_
          refine i_neBB ?_
          walk_at "go"
          refine i_lenL h1 ?_
          walk_at "go"
          refine i_lenL h3 ?_
          rw [dpAll_len h2, dpAll_len h4]
          walk_at "go"
          refine like_loop (n := n) ⟨_, _, rfl, .inl h1, h2⟩ ⟨_, _, rfl, .inl h3, h4⟩ hp (by omega) fun z => ?_
          walk_at "go"
          exact q
  | tuple ds =>
    cases n with
    | zero => exact hp.elim
    | succ n =>
      obtain ⟨hz, hp⟩ := hp
      cases hx with
      | tup h1 h2 =>
        cases hy with
        | tup h3 h4 =>
          walk_at "go"
          refine i_isi (ty_tup h3) (b := false) (by decide +kernel) ?_
          walk_at "go"
          refine i_isi (ty_tup h3) (b := false) (by decide +kernel) ?_
          walk_at "go"
          refine i_isNref ?_
          walk_at "go"
          refine i_isi (ty_tup h3) (b := true) (by decide +kernel) ?_
          walk_at "go"
          refine i_isi (ty_tup h1) (b := true) (by decide +kernel) ?_
          refine i_neBB ?_
          walk_at "go"
          refine i_isi (ty_tup h3) (b := false) (by decide +kernel) ?_
          walk_at "go"
          refine i_isi (ty_tup h1) (b := false) (by decide +kernel) ?_
          refine i_neBB ?_
          walk_at "go"
          refine i_lenT h1 ?_
          walk_at "go"
          refine i_lenT h3 ?_
          rw [dpAll_len h2, dpAll_len h4]
          walk_at "go"
          refine like_loop (n := n) ⟨_, _, rfl, .inr h1, h2⟩ ⟨_, _, rfl, .inr h3, h4⟩ hp (by omega) fun z => ?_
          walk_at "go"
          exact q
  | dict kvs => exact (by cases n <;> exact hp.elim)
end
end Sx
end
section
/-! readings over data, step by step -/
namespace Dx
open PySem L2 RT Sx
section
variable {X : DX} {ρ : Env} {P : Dt → Prop} {PA : List Dt → Prop} {PB : Bool → Prop} {D : DEnds} {a b c e : DE} {t u : DT} {s r : DS} {dA : DA} {f g : D2} {x y : Dt} {i : Nat} {xs ys : List Dt}
theorem d_var (h : ρ[i]? = some (.v x)) (q : P x) : dVar i X ρ P := ⟨x, h, q⟩
theorem d_c (q : P x) : dC x X ρ P := q
theorem d_op (q : a X ρ fun x => b X ρ fun y => f x y P) : dOp f a b X ρ P := q
theorem d_un {h : D1} (q : a X ρ fun x => h x P) : dUn h a X ρ P := q
theorem d_chain (q : a X ρ fun x => b X ρ fun y => f x y fun z => ∃ k, z = .bl k ∧ (if k = true then c X ρ fun w => g y w P else P (.bl false))) : dChain f g a b c X ρ P := q
theorem d_nil (q : PA []) : dNil X ρ PA := q
theorem d_cons (q : a X ρ fun x => dA X ρ fun xs => PA (x :: xs)) : dCons a dA X ρ PA := q
theorem d_seq (q : s { D with nx := r D X } X ρ) : dSeq s r D X ρ := q
theorem d_asg1 (q : a X ρ fun x => D.nx (ρ.set i (.v x))) : dAsg (.nm i) a D X ρ := q
theorem d_asg {p : Pt} (q : a X ρ fun x => bindD p x ρ D.nx) : dAsg p a D X ρ := q
theorem d_asgN {n : DN} (q : n X ρ fun xs => D.nx (ρ.set i (.ol xs))) : dAsgN i n D X ρ := q
theorem d_bnm {N : Env → Prop} (q : N (ρ.set i (.v x))) : bindD (.nm i) x ρ N := q
theorem d_btp {N : Env → Prop} {ps : List Pt} (q : bindDs ps xs ρ N) : bindD (.tp ps) (.tup xs) ρ N := ⟨xs, rfl, q⟩
theorem d_bcons {N : Env → Prop} {p : Pt} {ps : List Pt} (q : bindD p x ρ fun ρ' => bindDs ps xs ρ' N) : bindDs (p :: ps) (x :: xs) ρ N := ⟨x, xs, rfl, q⟩
theorem d_bnil {N : Env → Prop} (q : N ρ) : bindDs [] [] ρ N := ⟨rfl, q⟩
theorem d_slO {l h : DO} {PN : List Dt → Prop} (hh : ρ[i]? = some (.ol xs)) (q : l X ρ fun lo => h X ρ fun hi => PN (cutD xs lo hi)) : dSlO i l h X ρ PN := ⟨xs, hh, q⟩
theorem d_lenO (hh : ρ[i]? = some (.ol xs)) (q : P (nat xs.length)) : dLenO i X ρ P := ⟨xs, hh, q⟩
theorem d_rev (q : a X ρ fun x => revA x PA) : dRev a X ρ PA := q
theorem d_exrevL (q : PA xs.reverse) : revA (.lst xs) PA := ⟨xs, .inl rfl, q⟩
theorem d_exrevT (q : PA xs.reverse) : revA (.tup xs) PA := ⟨xs, .inr rfl, q⟩
theorem d_lc {w : DA} {p : Pt} {vs : List Nat} (q : w X ρ fun xs => dComp p t e (wipeD ρ vs) X xs [] PA) : dLc w p t e vs X ρ PA := q
theorem d_rng1 (q : dA X ρ fun xs => rngA xs PA) : dRng1 dA X ρ PA := q
theorem d_rng2 (q : dA X ρ fun xs => rngB xs PA) : dRng2 dA X ρ PA := q
theorem d_frz {s' : Sl} (h : ρ[i]? = some s') (q : s D X (ρ.set i (frzS s'))) : dFrz i s D X ρ := ⟨s', h, q⟩
theorem d_lnil {p : Pt} (q : D.nx ρ) : dLoop p s D X [] ρ := q
theorem d_lcons {p : Pt} (q : bindD p x ρ fun ρ' => s { D with nx := dLoop p s D X xs, ct := dLoop p s D X xs, bk := D.nx } X ρ') : dLoop p s D X (x :: xs) ρ := q
theorem d_raise {k : Nat} (q : dA X ρ fun xs => xs.length = (fldsOf k).length ∧ X k xs) : dRaise k dA D X ρ := q
theorem d_cb {h : DL} (q : dA X ρ fun xs => h xs P) : dCB h dA X ρ P := q
theorem d_callX {d : DSp} (q : dA X ρ fun xs => d xs P X) : dCallX d dA X ρ P := q
theorem d_call0 {d : DSp} (q : dA X ρ fun xs => d xs P none_) : dCall0 d dA X ρ P := q
theorem d_ifS (q : t X ρ fun k => if k = true then s D X ρ else r D X ρ) : dIfS t s r D X ρ := q
theorem d_B (q : a X ρ fun x => ∃ k, x = .bl k ∧ PB k) : dB a X ρ PB := q
theorem d_exbl {A : Bool → Prop} {k : Bool} (q : A k) : ∃ k', Dt.bl k = .bl k' ∧ A k' := ⟨k, rfl, q⟩
theorem d_exint {A : Int → Prop} {k : Int} (q : A k) : ∃ k', Dt.int k = .int k' ∧ A k' := ⟨k, rfl, q⟩
theorem d_exsT {A : List Dt → Prop} (q : A xs) : ∃ ys, Dt.tup xs = .tup ys ∧ A ys := ⟨xs, rfl, q⟩
theorem d_exsL {A : List Dt → Prop} (q : A xs) : ∃ ys, Dt.lst xs = .lst ys ∧ A ys := ⟨xs, rfl, q⟩
theorem d_ret (q : a X ρ D.rt) : dRet a D X ρ := q
theorem d_drop (q : a X ρ fun _ => D.nx ρ) : dDrop a D X ρ := q
theorem d_next (q : D.nx ρ) : dNext D X ρ := q
theorem d_and (q : t X ρ fun k => if k = true then u X ρ PB else PB false) : dAnd t u X ρ PB := q
theorem d_or (q : t X ρ fun k => if k = true then PB true else u X ρ PB) : dOr t u X ρ PB := q
theorem d_not (q : t X ρ fun k => PB (!k)) : dNot t X ρ PB := q
theorem d_andV (q : a X ρ fun x => ∃ k, x = .bl k ∧ (if k = true then b X ρ P else P (.bl false))) : dAndV a b X ρ P := q
theorem d_orV (q : a X ρ fun x => ∃ k, x = .bl k ∧ (if k = true then P (.bl true) else b X ρ P)) : dOrV a b X ρ P := q
theorem d_notV (q : a X ρ fun x => ∃ k, x = .bl k ∧ P (.bl (!k))) : dNotV a X ρ P := q
theorem d_if (q : t X ρ fun k => if k = true then a X ρ P else b X ρ P) : dIf t a b X ρ P := q
theorem d_fz {n : DN} (q : n X ρ fun xs => P (.lst xs)) : dFz n X ρ P := q
theorem d_tup (h : ∀ xs : List Dt, True) (q : dA X ρ fun xs => xs.length ≤ 100000 ∧ P (.tup xs)) : dTup dA X ρ P := q
theorem d_tupQ (q : dA X ρ fun xs => xs.length ≤ 100000 ∧ P (.tup xs)) : dTup dA X ρ P := q
theorem d_lstQ (q : dA X ρ fun xs => xs.length ≤ 100000 ∧ PA xs) : dLst dA X ρ PA := q
theorem d_sz {A : Prop} (h : xs.length ≤ 100000) (q : A) : xs.length ≤ 100000 ∧ A := ⟨h, q⟩
theorem d_aug (h : ρ[i]? = some (.v x)) (q : a X ρ fun y => f x y fun z => D.nx (ρ.set i (.v z))) : dAug i f a D X ρ := ⟨x, h, q⟩
theorem d_slT {l h : DO} (q : a X ρ fun x => l X ρ fun lo => h X ρ fun hi => ∃ xs, x = .tup xs ∧ P (.tup (cutD xs lo hi))) : dSlT a l h X ρ P := q
theorem d_slL {l h : DO} (q : a X ρ fun x => l X ρ fun lo => h X ρ fun hi => ∃ xs, x = .lst xs ∧ PA (cutD xs lo hi)) : dSlL a l h X ρ PA := q
theorem d_nopart {PO : Option Int → Prop} (q : PO none) : dNoPart X ρ PO := q
theorem dw_part {PO : Option Int → Prop} (q : a X ρ fun x => ∃ i, x = .int i ∧ PO (some i)) : dPart a X ρ PO := q
theorem d_yes1 (q : PB true) : dYes X ρ PB := q
theorem d_itT (q : a X ρ fun x => ∃ xs, x = .tup xs ∧ PA xs) : dItT a X ρ PA := q
theorem d_itK (q : a X ρ fun x => ∃ xs, x = .ktup xs ∧ PA xs) : dItK a X ρ PA := q
theorem d_exsK {A : List Dt → Prop} (q : A xs) : ∃ ys, Dt.ktup xs = .ktup ys ∧ A ys := ⟨xs, rfl, q⟩
theorem d_itL (q : a X ρ fun x => ∃ xs, x = .lst xs ∧ PA xs) : dItL a X ρ PA := q
theorem d_for {w : DA} {p : Pt} (q : w X ρ fun xs => dLoop p s D X xs ρ) : dFor w p s D X ρ := q
theorem d_tupL (q : P (.tup xs)) : dTupOf [.lst xs] P := .inl ⟨xs, rfl, q⟩
theorem d_tupT (q : P (.tup xs)) : dTupOf [.tup xs] P := .inr ⟨xs, rfl, q⟩
theorem d_lenT (q : P (nat xs.length)) : dLen [.tup xs] P := ⟨_, _, rfl, rfl, q⟩
theorem d_lenL (q : P (nat xs.length)) : dLen [.lst xs] P := ⟨_, _, rfl, rfl, q⟩
/-! whole numbers -/
variable {m n : Nat} {k j : Int}
theorem cast_int {i j : Int} (e : i = j) (q : P (.int i)) : P (.int j) := e ▸ q
theorem d_addN (q : P (nat (m + n))) : dAdd (nat m) (nat n) P := ⟨m, n, rfl, rfl, trivial, cast_int (Int.natCast_add m n) q⟩
theorem d_subN (h : n ≤ m) (q : P (nat (m - n))) : dSub (nat m) (nat n) P := ⟨m, n, rfl, rfl, trivial, cast_int (Int.ofNat_sub h) q⟩
theorem d_subI (q : P (.int ((m : Int) - (n : Int)))) : dSub (nat m) (nat n) P := ⟨m, n, rfl, rfl, trivial, q⟩
theorem d_mulN {p q' : Nat} (h1 : m < 2 ^ p) (h2 : n < 2 ^ q') (h3 : 0 < p) (h4 : 0 < q') (h5 : p + q' ≤ 1000000) (q : P (nat (m * n))) : dMul (nat m) (nat n) P :=
  ⟨m, n, rfl, rfl, wide_mul (by simpa using h1) (by simpa using h2) h3 h4 h5, cast_int (Int.natCast_mul m n) q⟩
theorem d_mulB (h1 : m.log2 < 400000) (h2 : n.log2 < 400000) (q : P (nat (m * n))) : dMul (nat m) (nat n) P := ⟨m, n, rfl, rfl, by
  show (m : Int).natAbs.log2 + (n : Int).natAbs.log2 < 1000000
  rw [Int.natAbs_natCast, Int.natAbs_natCast]; omega, cast_int (Int.natCast_mul m n) q⟩
theorem d_mulL (h1 : m < 2 ^ 250) (h2 : n < 2 ^ 250) (q : P (nat (m * n))) : dMul (nat m) (nat n) P := d_mulN (p := 250) (q' := 250) h1 h2 (by decide) (by decide) (by decide) q
theorem d_fdN (h : 0 < n) (h2 : n < 2 ^ 250) (q : P (nat (m / n))) : dFd (nat m) (nat n) P := ⟨m, n, rfl, rfl, wide_div (b := 250) (by omega) (by simpa using h2) (by decide) (by decide), cast_int (Int.natCast_ediv m n) q⟩
theorem d_fdB (h : 0 < n) (h2 : n.log2 < 9000) (q : P (nat (m / n))) : dFd (nat m) (nat n) P := ⟨m, n, rfl, rfl, ⟨by omega, by rw [Int.natAbs_natCast]; exact h2⟩, cast_int (Int.natCast_ediv m n) q⟩
theorem d_mdN (h : 0 < n) (q : P (nat (m % n))) : dMd (nat m) (nat n) P := ⟨m, n, rfl, rfl, by show (0 : Int) < n; omega, cast_int (Int.natCast_emod m n) q⟩
theorem d_ltN (q : P (.bl (decide (m < n)))) : dLt (nat m) (nat n) P := ⟨m, n, rfl, rfl, trivial, by dsimp only; rw [show decide ((m : Int) < (n : Int)) = decide (m < n) by congr 1; exact propext Int.ofNat_lt]; exact q⟩
theorem d_leN (q : P (.bl (decide (m ≤ n)))) : dLe (nat m) (nat n) P := ⟨m, n, rfl, rfl, trivial, by dsimp only; rw [show decide ((m : Int) ≤ (n : Int)) = decide (m ≤ n) by congr 1; exact propext Int.ofNat_le]; exact q⟩
theorem d_gtN (q : P (.bl (decide (n < m)))) : dGt (nat m) (nat n) P := ⟨m, n, rfl, rfl, trivial, by dsimp only; rw [show decide ((n : Int) < (m : Int)) = decide (n < m) by congr 1; exact propext Int.ofNat_lt]; exact q⟩
theorem d_geN (q : P (.bl (decide (n ≤ m)))) : dGe (nat m) (nat n) P := ⟨m, n, rfl, rfl, trivial, by dsimp only; rw [show decide ((n : Int) ≤ (m : Int)) = decide (n ≤ m) by congr 1; exact propext Int.ofNat_le]; exact q⟩
theorem d_ltI (q : P (.bl (decide (k < j)))) : dLt (.int k) (.int j) P := ⟨k, j, rfl, rfl, trivial, q⟩
theorem d_leI (q : P (.bl (decide (k ≤ j)))) : dLe (.int k) (.int j) P := ⟨k, j, rfl, rfl, trivial, q⟩
theorem d_gtI (q : P (.bl (decide (j < k)))) : dGt (.int k) (.int j) P := ⟨k, j, rfl, rfl, trivial, q⟩
theorem d_geI (q : P (.bl (decide (j ≤ k)))) : dGe (.int k) (.int j) P := ⟨k, j, rfl, rfl, trivial, q⟩
theorem dec_natV {m n : Nat} : decide ((V.int (m : Int)) = V.int (n : Int)) = decide (m = n) := by
  congr 1
  exact propext ⟨fun h => by have := V.int.inj h; omega, fun h => by rw [h]⟩
theorem d_eqN (q : P (.bl (decide (m = n)))) : dEqS (nat m) (nat n) P := ⟨_, _, rfl, rfl, rfl, by rw [dec_natV]; exact q⟩
theorem d_neN (q : P (.bl (!decide (m = n)))) : dNeS (nat m) (nat n) P := ⟨_, _, rfl, rfl, rfl, by rw [dec_natV]; exact q⟩
theorem d_eqI (q : P (.bl (decide (k = j)))) : dEqS (.int k) (.int j) P := ⟨_, _, rfl, rfl, rfl, by
  rw [show decide (V.int k = V.int j) = decide (k = j) by congr 1; exact propext ⟨V.int.inj, fun h => by rw [h]⟩]; exact q⟩
theorem d_neI (q : P (.bl (!decide (k = j)))) : dNeS (.int k) (.int j) P := ⟨_, _, rfl, rfl, rfl, by
  rw [show decide (V.int k = V.int j) = decide (k = j) by congr 1; exact propext ⟨V.int.inj, fun h => by rw [h]⟩]; exact q⟩
theorem d_negN (q : P (.int (-(m : Int)))) : dNeg (nat m) P := ⟨m, rfl, q⟩
theorem d_bit {k : Bool} (q : P (nat (if k then 1 else 0))) : dInt1 [.bl k] P := .inr ⟨k, rfl, by cases k <;> exact q⟩
theorem rangeD_nat (n : Nat) : rangeD 0 n = (List.range n).map nat := by
  unfold rangeD
  exact List.map_congr_left fun i _ => by rw [Int.zero_add]
theorem d_exrng {n : Nat} (h : n < 2 ^ 62) (q : PA ((List.range n).map nat)) : rngA [nat n] PA := ⟨(n : Int), rfl, by omega, by omega, by rw [Int.toNat_natCast, rangeD_nat]; exact q⟩
theorem rangeD_from (a n : Nat) : rangeD a n = (List.range n).map fun i => nat (a + i) := by
  unfold rangeD
  exact List.map_congr_left fun i _ => congrArg Dt.int (Int.natCast_add a i).symm
theorem d_exrng2 {m n : Nat} (h : m < 2 ^ 62) (h2 : n < 2 ^ 62) (q : PA ((List.range (n - m)).map fun i => nat (m + i))) : rngB [nat m, nat n] PA := ⟨(m : Int), (n : Int), rfl, ⟨by omega, by omega, by omega, by omega⟩, by
  rw [show ((n : Int) - (m : Int)).toNat = n - m by omega, rangeD_from]; exact q⟩
theorem d_gcd {m n : Nat} (q : P (nat (Nat.gcd m n))) : dGcd [nat m, nat n] P := ⟨m, n, rfl, q⟩
/-! rows -/
def rowD (r : List Nat) : Dt := .tup (r.map nat)
def rowI (r : List Int) : Dt := .tup (r.map Dt.int)
theorem rowD_I (r : List Nat) : rowD r = rowI (r.map fun n : Nat => (n : Int)) := by unfold rowD rowI; rw [List.map_map]; rfl
theorem atI_nat {α : Type} {l : List α} {i : Nat} {z : α} (h : l[i]? = some z) : atI l (i : Int) = some z := by
  obtain ⟨hl, _⟩ := List.getElem?_eq_some_iff.mp h
  unfold atI
  rw [ixN_nat hl]; exact h
theorem atI_last {α : Type} {l : List α} {z : α} (h : l.getLast? = some z) : atI l (-1) = some z := by
  obtain ⟨ys, rfl⟩ := List.getLast?_eq_some_iff.mp h
  unfold atI ixN
  rw [if_neg (by decide), if_pos (by simp; omega)]
  show (ys ++ [z])[((-1 : Int) + ((ys ++ [z]).length : Nat)).toNat]? = some z
  rw [show ((-1 : Int) + ((ys ++ [z]).length : Nat)).toNat = ys.length by simp; omega]
  simp
theorem d_ixT {z : Dt} (h : xs[i]? = some z) (q : P z) : dIxT (.tup xs) (nat i) P := ⟨xs, i, z, rfl, rfl, Dx.atI_nat h, q⟩
theorem d_ixL {z : Dt} (h : xs[i]? = some z) (q : P z) : dIxL (.lst xs) (nat i) P := ⟨xs, i, z, rfl, rfl, Dx.atI_nat h, q⟩
theorem d_ixTl {z : Dt} (h : xs.getLast? = some z) (q : P z) : dIxT (.tup xs) (.int (-((1 : Nat) : Int))) P := ⟨xs, -1, z, rfl, rfl, Dx.atI_last h, q⟩
theorem d_ixO {bb : DE} (h : ρ[i]? = some (.ol xs)) (q : bb X ρ fun y => ∃ k z, y = .int k ∧ atI xs k = some z ∧ P z) : dIxO i bb X ρ P := ⟨xs, h, q⟩
theorem d_app (h : ρ[i]? = some (.ol xs)) (q : a X ρ fun x => xs.length ≤ 100000 ∧ D.nx (ρ.set i (.ol (xs ++ [x])))) : dApp i a D X ρ := ⟨xs, h, q⟩
theorem d_cat (hz : xs.length + ys.length ≤ 100000) (q : P (.tup (xs ++ ys))) : dCatT (.tup xs) (.tup ys) P := ⟨xs, ys, rfl, rfl, hz, q⟩
theorem cutD_to {n : Nat} : cutD xs none (some (n : Int)) = xs.take n := by
  unfold cutD
  rw [HT.sIx_none, HT.sIx_nat, List.drop_zero, Nat.sub_zero]
  by_cases h : n ≤ xs.length
  · rw [Nat.min_eq_left h]
  · rw [Nat.min_eq_right (by omega), List.take_length, List.take_of_length_le (by omega)]
theorem cutD_from {n : Nat} : cutD xs (some (n : Int)) none = xs.drop n := by
  unfold cutD
  rw [HT.sIx_none, HT.sIx_nat]
  by_cases h : n ≤ xs.length
  · rw [Nat.min_eq_left h, List.take_of_length_le (by rw [List.length_drop]; omega)]
  · rw [Nat.min_eq_right (by omega), List.drop_length, List.drop_of_length_le (by omega), List.take_nil]
theorem cutD_init : cutD xs none (some (-((1 : Nat) : Int))) = xs.dropLast := by
  unfold cutD
  rw [HT.sIx_none, List.drop_zero, Nat.sub_zero, List.dropLast_eq_take]
  congr 1
  unfold HT.sIx
  simp
  omega
theorem rowD_take (r : List Nat) (n : Nat) : (r.map nat).take n = (r.take n).map nat := by rw [List.map_take]
theorem rowD_drop (r : List Nat) (n : Nat) : (r.map nat).drop n = (r.drop n).map nat := by rw [List.map_drop]
/-! loops -/
theorem d_loop {p : Pt} (I : Nat → Env → Prop) (h0 : I 0 ρ) (hs : ∀ (i : Nat) (x : Dt) (ρ : Env) (N : Env → Prop), xs[i]? = some x → I i ρ → (∀ ρ', I (i + 1) ρ' → N ρ') → bindD p x ρ fun ρ' => s { D with nx := N, ct := N, bk := D.nx } X ρ')
    (hd : ∀ ρ, I xs.length ρ → D.nx ρ) : dLoop p s D X xs ρ := by
  have key : ∀ (ys : List Dt) (j : Nat) (ρ : Env), xs.drop j = ys → j ≤ xs.length → I j ρ → dLoop p s D X ys ρ := by
    intro ys
    induction ys with
    | nil =>
      intro j ρ e hj h
      have : j = xs.length := by
        have := congrArg List.length e
        rw [List.length_drop] at this
        simp at this; omega
      subst this
      exact hd ρ h
    | cons y ys ih =>
      intro j ρ e hj h
      have hy : xs[j]? = some y := by
        have := congrArg (fun l => l[0]?) e
        simp at this
        exact this
      have hd : xs.drop (j + 1) = ys := by
        rw [drop_at hy] at e
        exact (List.cons.inj e).2
      have hlt : j < xs.length := (List.getElem?_eq_some_iff.mp hy).1
      exact hs j y ρ _ hy h fun ρ' h' => ih (j + 1) ρ' hd hlt h'
  exact key xs 0 ρ (by simp) (Nat.zero_le _) h0
theorem d_while {t : DT} (I : Nat → Env → Prop) (m : Nat) (h0 : I m ρ) (hs : ∀ (m : Nat) (ρ : Env) (N : Env → Prop), I m ρ → (∀ m' ρ', m' < m → I m' ρ' → N ρ') → t X ρ fun k => if k = true then s { D with nx := N, ct := N, bk := D.nx } X ρ else D.nx ρ) : dWhile t s D X ρ := by
  have key : ∀ (n : Nat) (ρ : Env), (∃ m, m ≤ n ∧ I m ρ) → dWhileF t s D X (n + 1) ρ := by
    intro n
    induction n with
    | zero =>
      rintro ρ ⟨m, hm, h⟩
      exact hs m ρ _ h fun m' ρ' hl _ => by omega
    | succ n ih =>
      rintro ρ ⟨m, hm, h⟩
      exact hs m ρ _ h fun m' ρ' hl h' => ih ρ' ⟨m', by omega, h'⟩
  exact ⟨m + 1, key m ρ ⟨m, Nat.le_refl _, h0⟩⟩
theorem d_compF {p : Pt} {ρ0 : Env} {t : DT} (gg : Dt → Option Dt) (h : ∀ x ∈ xs, ∀ N : Option Dt → Prop, N (gg x) → bindD p x ρ0 fun ρ => t X ρ fun k => if k = true then e X ρ fun y => N (some y) else N none) {acc : List Dt} (hl : acc.length + xs.length ≤ 100000) (q : PA (acc ++ xs.filterMap gg)) :
    dComp p t e ρ0 X xs acc PA := by
  induction xs generalizing acc with
  | nil => rw [List.filterMap_nil, List.append_nil] at q; exact q
  | cons x xs ih =>
    simp only [List.length_cons] at hl
    refine h x List.mem_cons_self (fun o => match o with | some y => acc.length ≤ 100000 ∧ dComp p t e ρ0 X xs (acc ++ [y]) PA | none => dComp p t e ρ0 X xs acc PA) ?_
    have h' : ∀ y ∈ xs, ∀ N : Option Dt → Prop, N (gg y) → bindD p y ρ0 fun ρ => t X ρ fun k => if k = true then e X ρ fun y => N (some y) else N none := fun y hy => h y (List.mem_cons_of_mem _ hy)
    cases e1 : gg x with
    | none => exact ih h' (by omega) (by rw [List.filterMap_cons, e1] at q; exact q)
    | some y => exact ⟨by omega, ih h' (by simp; omega) (by rw [List.filterMap_cons, e1] at q; simpa using q)⟩
theorem d_compM {p : Pt} {ρ0 : Env} (gg : Dt → Dt) (h : ∀ x ∈ xs, ∀ N : Dt → Prop, N (gg x) → bindD p x ρ0 fun ρ => e X ρ N) {acc : List Dt} (hl : acc.length + xs.length ≤ 100000) (q : PA (acc ++ xs.map gg)) :
    dComp p dYes e ρ0 X xs acc PA := by
  induction xs generalizing acc with
  | nil => rw [List.map_nil, List.append_nil] at q; exact q
  | cons x xs ih =>
    simp only [List.length_cons] at hl
    have h1 := h x List.mem_cons_self (fun y => acc.length ≤ 100000 ∧ dComp p dYes e ρ0 X xs (acc ++ [y]) PA) ⟨by omega, ih (fun y hy => h y (List.mem_cons_of_mem _ hy)) (by simp; omega) (by simpa using q)⟩
    have e1 : (fun ρ => dYes X ρ fun k => if k = true then e X ρ fun y => acc.length ≤ 100000 ∧ dComp p dYes e ρ0 X xs (acc ++ [y]) PA else dComp p dYes e ρ0 X xs acc PA) = fun ρ => e X ρ fun y => acc.length ≤ 100000 ∧ dComp p dYes e ρ0 X xs (acc ++ [y]) PA := by
      funext ρ
      unfold dYes
      exact if_pos rfl
    show bindD p x ρ0 (fun ρ => dYes X ρ fun k => if k = true then e X ρ fun y => acc.length ≤ 100000 ∧ dComp p dYes e ρ0 X xs (acc ++ [y]) PA else dComp p dYes e ρ0 X xs acc PA)
    rw [e1]; exact h1
theorem d_comp2M {p p1 : Pt} {ρ0 : Env} {w1 : DA} {vs1 : List Nat} (gg : Dt → List Dt) (h : ∀ x ∈ xs, ∀ (acc : List Dt) (N : List Dt → Prop), acc.length + (gg x).length ≤ 100000 → N (acc ++ gg x) → bindD p x ρ0 fun ρ => w1 X ρ fun ys => dComp1 p1 t e (wipeD ρ vs1) X ys acc N)
    {acc : List Dt} (hl : acc.length + (xs.flatMap gg).length ≤ 100000) (q : PA (acc ++ xs.flatMap gg)) : dComp2 p dYes w1 p1 t e vs1 ρ0 X xs acc PA := by
  induction xs generalizing acc with
  | nil => rw [List.flatMap_nil, List.append_nil] at q; exact q
  | cons x xs ih =>
    rw [List.flatMap_cons, List.length_append] at hl
    have h1 := h x List.mem_cons_self acc (fun acc' => dComp2 p dYes w1 p1 t e vs1 ρ0 X xs acc' PA) (by omega) (ih (fun y hy => h y (List.mem_cons_of_mem _ hy)) (by rw [List.length_append]; omega) (by rw [List.flatMap_cons, ← List.append_assoc] at q; exact q))
    have e1 : (fun ρ => dYes X ρ fun k => if k = true then w1 X ρ fun ys => dComp1 p1 t e (wipeD ρ vs1) X ys acc fun acc' => dComp2 p dYes w1 p1 t e vs1 ρ0 X xs acc' PA else dComp2 p dYes w1 p1 t e vs1 ρ0 X xs acc PA) = fun ρ => w1 X ρ fun ys => dComp1 p1 t e (wipeD ρ vs1) X ys acc fun acc' => dComp2 p dYes w1 p1 t e vs1 ρ0 X xs acc' PA := by
      funext ρ
      unfold dYes
      exact if_pos rfl
    show bindD p x ρ0 (fun ρ => dYes X ρ fun k => if k = true then w1 X ρ fun ys => dComp1 p1 t e (wipeD ρ vs1) X ys acc fun acc' => dComp2 p dYes w1 p1 t e vs1 ρ0 X xs acc' PA else dComp2 p dYes w1 p1 t e vs1 ρ0 X xs acc PA)
    rw [e1]; exact h1
theorem d_lc2 {w w1 : DA} {p p1 : Pt} {t1 : DT} {vs vs1 : List Nat} (q : w X ρ fun xs => dComp2 p t w1 p1 t1 e vs1 (wipeD ρ vs) X xs [] PA) : dLc2 w p t w1 p1 t1 e vs vs1 X ρ PA := q
theorem d_c1nil {p : Pt} {ρ0 : Env} {acc : List Dt} (q : PA acc) : dComp1 p t e ρ0 X [] acc PA := q
theorem d_c1cons {p : Pt} {ρ0 : Env} {acc : List Dt} (q : bindD p x ρ0 fun ρ => t X ρ fun k => if k = true then e X ρ fun y => acc.length ≤ 100000 ∧ dComp1 p t e ρ0 X xs (acc ++ [y]) PA else dComp1 p t e ρ0 X xs acc PA) : dComp1 p t e ρ0 X (x :: xs) acc PA := q
theorem d_divmod (h : 0 < n) (h2 : n.log2 < 9000) (q : P (.tup [nat (m / n), nat (m % n)])) : dDivmod [nat m, nat n] P := ⟨m, n, rfl, ⟨by omega, PyProof.noPylong_of_log2 (by rw [Int.natAbs_natCast]; exact h2)⟩, by rw [← Int.natCast_ediv, ← Int.natCast_emod]; exact q⟩
theorem d_compR {p : Pt} {ρ0 : Env} (R : Dt → Prop) (h : ∀ x ∈ xs, ∀ N : Dt → Prop, (∀ y, R y → N y) → bindD p x ρ0 fun ρ => e X ρ N) {acc : List Dt} (hl : acc.length + xs.length ≤ 100000) (q : ∀ ys : List Dt, ys.length = xs.length → (∀ y ∈ ys, R y) → PA (acc ++ ys)) :
    dComp p dYes e ρ0 X xs acc PA := by
  induction xs generalizing acc with
  | nil => have := q [] rfl (by simp); rw [List.append_nil] at this; exact this
  | cons x xs ih =>
    simp only [List.length_cons] at hl
    have h1 := h x List.mem_cons_self (fun y => acc.length ≤ 100000 ∧ dComp p dYes e ρ0 X xs (acc ++ [y]) PA) fun y hy => ⟨by omega, ih (fun z hz => h z (List.mem_cons_of_mem _ hz)) (by simp; omega) fun ys hl2 hr => by
      have := q (y :: ys) (by simp [hl2]) (fun z hz => by
        rcases List.mem_cons.mp hz with rfl | hz
        · exact hy
        · exact hr z hz)
      rw [List.append_assoc]; exact this⟩
    have e1 : (fun ρ => dYes X ρ fun k => if k = true then e X ρ fun y => acc.length ≤ 100000 ∧ dComp p dYes e ρ0 X xs (acc ++ [y]) PA else dComp p dYes e ρ0 X xs acc PA) = fun ρ => e X ρ fun y => acc.length ≤ 100000 ∧ dComp p dYes e ρ0 X xs (acc ++ [y]) PA := by
      funext ρ
      unfold dYes
      exact if_pos rfl
    show bindD p x ρ0 (fun ρ => dYes X ρ fun k => if k = true then e X ρ fun y => acc.length ≤ 100000 ∧ dComp p dYes e ρ0 X xs (acc ++ [y]) PA else dComp p dYes e ρ0 X xs acc PA)
    rw [e1]; exact h1
theorem d_pop0 (h : ρ[i]? = some (.ol (x :: xs))) (q : D.nx (ρ.set i (.ol xs))) : dPop0 i D X ρ := ⟨xs, x, h, q⟩
theorem d_revO {PN : List Dt → Prop} (h : ρ[i]? = some (.ol xs)) (q : PN xs.reverse) : dRevO i X ρ PN := ⟨xs, h, q⟩
theorem d_revL {PN : List Dt → Prop} (q : a X ρ fun x => ∃ xs, x = .lst xs ∧ PN xs.reverse) : dRevL a X ρ PN := q
theorem nats_of : ∀ {ys : List Dt} {Q : Nat → Prop}, (∀ y ∈ ys, ∃ n : Nat, y = nat n ∧ Q n) → ∃ l : List Nat, ys = l.map nat ∧ ∀ n ∈ l, Q n
  | [], _, _ => ⟨[], rfl, by simp⟩
  | y :: ys, Q, h => by
    obtain ⟨n, rfl, hn⟩ := h y List.mem_cons_self
    obtain ⟨l, rfl, hl⟩ := nats_of (ys := ys) (Q := Q) fun z hz => h z (List.mem_cons_of_mem _ hz)
    exact ⟨n :: l, rfl, fun m hm => by
      rcases List.mem_cons.mp hm with rfl | hm
      · exact hn
      · exact hl m hm⟩
end
end Dx
end
section
/-! the laws' helpers, told over data -/
open PySem L2 RT Sx
namespace Dx
section
variable {K : PySem.W.Frag} {C : Ec} {W : Wd} {H H' : Hp} {d : Addr}
theorem Ok.dice (k : Ok K W H) (h : W.dl d) (nt : ¬ W.tb d) : Dice K H d := by
  obtain ⟨f, ⟨_, sc, ns, dl, hl, hs⟩ | ⟨t, _⟩⟩ := k.dc d h
  · refine ⟨sc, dl, ns, hl, fun H2 s => ?_⟩
    rcases hs with (z | ⟨o, z⟩) | z
    · exact .inl (.inl (s _ _ (fun e => by rw [e, f] at z; cases z) (k.sF _ _ z)))
    · exact .inl (.inr ⟨o, s _ _ (fun e => by rw [e, f] at z; cases z) (k.sF _ _ z)⟩)
    · exact .inr z
  · exact absurd t nt
theorem frm_drew (k : Ok K W H) (h : W.dl d) (nt : ¬ W.tb d) (e : Drew d H H') : Frm W H W H' ∧ Ok K W H' := by
  obtain ⟨f, ⟨_, sc, ns, dl, hl, hs⟩ | ⟨t, _⟩⟩ := k.dc d h
  · obtain ⟨i0, x0, c0, dl0, _⟩ := id dl
    obtain ⟨i, m, r, h2, l⟩ := e.2 sc dl
    have hk : ∀ p, H' p = none → H p = none := fun p hp => by
      cases z : H p with
      | none => rfl
      | some o =>
        by_cases q : p = d
        · rw [q, h2] at hp; cases hp
        · rw [e.1 p o q z] at hp; cases hp
    refine ⟨⟨Wd.Le.refl W, fun p o hp n => e.1 p o (fun z => n (by rw [z]; exact h)) hp, fun _ _ _ _ _ z => z, fun _ z => .inl z, hk⟩, ⟨fun p o z => e.1 p o (fun q => by rw [q, f] at z; cases z) (k.sF p o z), fun d' hd' => ?_, k.td, k.nt⟩⟩
    obtain ⟨f', m'⟩ := k.dc d' hd'
    refine ⟨f', ?_⟩
    by_cases z : d' = d
    · subst z
      exact .inl ⟨nt, sc, ns, ⟨i, m, r, h2, l⟩, hl, hs⟩
    · refine m'.mv rfl (Same.refl _) ?_ fun c hc => e.1 _ _ (fun q => by rw [q, dl0] at hc; cases hc) hc
      cases y : H d' with
      | none => exact absurd y m'.there
      | some o => exact e.1 _ _ z y
  · exact absurd t nt
end
def sp__law_dice : DSp := fun xs P _ => ∃ ns, (xs = [.scr ns] ∨ xs = [.scrT ns]) ∧ ns.length ≤ 63 ∧ P .dice
def sp__law_next : DSp := fun xs P _ => ∃ m : Nat, xs = [.dice, nat m] ∧ 0 < m ∧ m < 1073741824 ∧ ∀ n : Nat, n < m → P (nat n)
/-! no truth values, no dicts, so deep at most -/
mutual
def plB : Nat → Dt → Bool
  | _, .non => true
  | _, .int _ => true
  | _, .str x => PyData.canLay0 (.str x)
  | n + 1, .tup xs => decide (xs.length ≤ 100000) && plBs n xs
  | n + 1, .lst xs => decide (xs.length ≤ 100000) && plBs n xs
  | _, _ => false
def plBs : Nat → List Dt → Bool
  | _, [] => true
  | n, x :: xs => plB n x && plBs n xs
end
theorem plBs_all : ∀ {n : Nat} {xs : List Dt}, plBs n xs = true ↔ ∀ x ∈ xs, plB n x = true
  | n, [] => by simp [plBs]
  | n, x :: xs => by simp [plBs, plBs_all (xs := xs)]
theorem plB_nat {n k : Nat} : plB n (nat k) = true := by cases n <;> rfl
theorem plB_row {n : Nat} {r : List Nat} (h : r.length ≤ 100000) : plB (n + 1) (rowD r) = true := by
  unfold rowD
  simp only [plB, Bool.and_eq_true, decide_eq_true_eq, List.length_map]
  refine ⟨h, plBs_all.mpr fun x hx => ?_⟩
  obtain ⟨k, _, rfl⟩ := List.mem_map.mp hx
  exact plB_nat
def sp__law_like : DSp := fun xs P _ => ∃ x, xs = [x, x] ∧ plB 6 x = true ∧ P (.bl true)
mutual
theorem plB_lay : ∀ (n : Nat) (x : Dt), plB n x = true → (toP x).canLay0 = true ∧ plainD n (toP x)
  | n, .non, _ => ⟨rfl, by cases n <;> trivial⟩
  | n, .int _, _ => ⟨rfl, by cases n <;> trivial⟩
  | n, .str x, h => by
    have h' : PyData.canLay0 (.str x) = true := by cases n <;> simpa [plB] using h
    exact ⟨h', by cases n <;> exact h'⟩
  | n + 1, .tup xs, h => by
    simp only [plB, Bool.and_eq_true, decide_eq_true_eq] at h
    obtain ⟨h1, h2⟩ := plBs_lay n xs h.2
    exact ⟨h1, by rw [toPs_eq, List.length_map]; exact h.1, h2⟩
  | n + 1, .lst xs, h => by
    simp only [plB, Bool.and_eq_true, decide_eq_true_eq] at h
    obtain ⟨h1, h2⟩ := plBs_lay n xs h.2
    exact ⟨h1, by rw [toPs_eq, List.length_map]; exact h.1, h2⟩
  | 0, .tup _, h => by simp [plB] at h
  | 0, .lst _, h => by simp [plB] at h
  | 0, .bl _, h => by simp [plB] at h
  | _ + 1, .bl _, h => by simp [plB] at h
  | 0, .ty _, h => by simp [plB] at h
  | _ + 1, .ty _, h => by simp [plB] at h
  | 0, .dK _, h => by simp [plB] at h
  | _ + 1, .dK _, h => by simp [plB] at h
  | 0, .dT _, h => by simp [plB] at h
  | _ + 1, .dT _, h => by simp [plB] at h
  | 0, .dice, h => by simp [plB] at h
  | _ + 1, .dice, h => by simp [plB] at h
  | 0, .fn _, h => by simp [plB] at h
  | _ + 1, .fn _, h => by simp [plB] at h
  | 0, .scr _, h => by simp [plB] at h
  | _ + 1, .scr _, h => by simp [plB] at h
theorem plBs_lay : ∀ (n : Nat) (xs : List Dt), plBs n xs = true → PyData.canLayAll0 (toPs xs) = true ∧ ∀ d ∈ toPs xs, plainD n d
  | _, [], _ => ⟨rfl, by simp [toPs]⟩
  | n, x :: xs, h => by
    simp only [plBs, Bool.and_eq_true] at h
    obtain ⟨h1, h2⟩ := plB_lay n x h.1
    obtain ⟨h3, h4⟩ := plBs_lay n xs h.2
    refine ⟨by simp [toPs, PyData.canLayAll0, h1, h3], fun d hd => ?_⟩
    rcases List.mem_cons.mp hd with rfl | hd
    · exact h2
    · exact h4 d hd
end
/-! likeness by == -/
theorem toPs_nats (r : List Nat) : toPs (r.map nat) = r.map fun n : Nat => PyData.int (n : Int) := by rw [toPs_eq, List.map_map]; rfl
theorem eqvAll_nats : ∀ r s : List Nat, PyData.eqvAll (r.map fun n : Nat => PyData.int (n : Int)) (s.map fun n : Nat => PyData.int (n : Int)) = decide (r = s)
  | [], [] => rfl
  | [], _ :: _ => rfl
  | _ :: _, [] => rfl
  | a :: r, b :: s => by
    simp only [List.map_cons, PyData.eqvAll, PyData.eqv, eqvAll_nats r s]
    rw [Bool.eq_iff_iff]
    simp
    intro _
    omega
theorem eqD_row (r s : List Nat) : eqD (rowD r) (rowD s) = decide (r = s) := by
  unfold eqD rowD
  simp only [toP, toPs_nats, PyData.eqv, eqvAll_nats]
theorem canLay_nats : ∀ r : List Nat, PyData.canLayAll0 (r.map fun n : Nat => PyData.int (n : Int)) = true ∧ PyData.depthAll (r.map fun n : Nat => PyData.int (n : Int)) ≤ 1
  | [] => by simp [PyData.canLayAll0, PyData.depthAll]
  | a :: r => by
    obtain ⟨h1, h2⟩ := canLay_nats r
    refine ⟨by simp [PyData.canLayAll0, PyData.canLay0, h1], ?_⟩
    simp only [List.map_cons, PyData.depthAll, PyData.depth]; omega
theorem shD_row (r : List Nat) : shD (rowD r) = true := by
  obtain ⟨h1, h2⟩ := canLay_nats r
  unfold shD rowD
  simp only [toP, toPs_nats]
  show (PyData.canLay0 (.tuple _) && decide (PyData.depth (.tuple _) ≤ 64)) = true
  rw [Bool.and_eq_true]
  exact ⟨by simp only [PyData.canLay0]; exact h1, decide_eq_true (by simp only [PyData.depth]; omega)⟩
theorem d_eqR {r s : List Nat} {P : Dt → Prop} (q : P (.bl (decide (r = s)))) : dEq (rowD r) (rowD s) P := ⟨shD_row r, shD_row s, by rw [eqD_row]; exact q⟩
theorem d_neR {r s : List Nat} {P : Dt → Prop} (q : P (.bl (!decide (r = s)))) : dNe (rowD r) (rowD s) P := ⟨shD_row r, shD_row s, by rw [eqD_row]; exact q⟩
section
variable {K : PySem.W.Frag} {C : Ec} {vs : List V} {H : Hp} {Q : VK} {E : XK}
theorem d_draw {X : DX} {P : Dt → Prop} {m : Nat} (h0 : 0 < m := by decide) (h1 : m < 1073741824 := by decide) (q : ∀ n : Nat, n < m → P (nat n)) : sp__law_next [.dice, nat m] P X := ⟨m, rfl, h0, h1, q⟩
theorem conv__law_dice (h : liftSp K C sp__law_dice vs H Q E) : Sx.sp__law_dice K vs H Q E := by
  obtain ⟨W, xs, P, PX, o, r, ⟨ns, ex, hl, q⟩, k, el⟩ := h
  obtain ⟨a, rfl, hs⟩ : ∃ a, vs = [.ref a] ∧ SqL K W.F a (ns.map V.int) := by
    rcases ex with rfl | rfl
    · obtain ⟨v, rfl, rv⟩ := rpl1 r
      cases rv with | scr hs => exact ⟨_, rfl, hs⟩
    · obtain ⟨v, rfl, rv⟩ := rpl1 r
      cases rv with | scrT hs _ => exact ⟨_, rfl, hs⟩
  refine ⟨a, ns, rfl, same_seqL o.sF hs, hl, fun d H' n s hd => ?_⟩
  have nt : ¬ W.tb d := fun z => (o.dc d (o.td d z)).2.there n
  refine k ⟨W.F, fun x => W.dl x ∨ x = d, W.tb⟩ H' _ _ ⟨⟨Same.refl _, fun x hx => .inl hx, rfl⟩, fun p u hp _ => s p u hp, fun _ _ _ _ _ z => z, fun x hx => hx.imp (fun z => z) fun z => by rw [z]; exact n, (frm_same (W := W) s).kp⟩ ⟨Same.trans o.sF s, fun x hx => ?_, fun x hx => .inl (o.td x hx), o.nt⟩ (.dice (.inr rfl) nt) q
  rcases hx with hx | rfl
  · exact (o.same s).dc x hx
  · exact ⟨o.fr n, .inl ⟨nt, a, ns, hd, hl, hs⟩⟩
theorem conv__law_next (h : liftSp K C sp__law_next vs H Q E) : Sx.sp__law_next K vs H Q E := by
  obtain ⟨W, xs, P, PX, o, r, ⟨m, rfl, h1, h2, q⟩, k, el⟩ := h
  obtain ⟨v, w, rfl, rv, rw_⟩ := rpl2 r
  cases rv with
  | @dice a ha nt =>
    rw [rp_int rw_]
    refine ⟨a, m, rfl, o.dice ha nt, h1, h2, fun n H' hn dr => ?_⟩
    obtain ⟨f, o'⟩ := frm_drew o ha nt dr
    exact k W H' _ _ f o' (.int _) (q n hn)
theorem conv__law_like (h : liftSp K C sp__law_like vs H Q E) : Sx.sp__law_like K vs H Q E := by
  obtain ⟨W, xs, P, PX, o, r, ⟨x, rfl, h1, q⟩, k, el⟩ := h
  obtain ⟨v, w, rfl, rv, rw_⟩ := rpl2 r
  obtain ⟨h2, h3⟩ := plB_lay 6 x h1
  exact ⟨v, w, toP x, rfl, dp_of o.sF rv (.inr h2), dp_of o.sF rw_ (.inr h2), h3, k W H _ _ (Frm.refl _ _) o (.bl _) q⟩
end
end Dx
end
section
/-! the laws' common helpers over data -/
open PySem L2 RT Sx Dx
local macro_rules | `(tactic| walk_at "d") => `(tactic| first
  | ((with_reducible refine' d_var ?k1 ?_); (case k1 => rfl))
  | with_reducible refine' d_c ?_
  | with_reducible refine' d_op ?_
  | with_reducible refine' d_cons ?_
  | with_reducible refine' d_nil ?_
  | with_reducible refine' d_seq ?_
  | ((with_reducible refine' d_asg1 ?_); try dsimp -proj only [List.set_cons_zero, List.set_cons_succ])
  | with_reducible refine' d_asg ?_
  | with_reducible refine' d_cb ?_
  | ((with_reducible refine' d_asgN ?_); try dsimp -proj only [List.set_cons_zero, List.set_cons_succ])
  | ((with_reducible refine' d_bnm ?_); try dsimp -proj only [List.set_cons_zero, List.set_cons_succ])
  | with_reducible refine' d_btp ?_
  | with_reducible refine' d_bcons ?_
  | with_reducible refine' d_bnil ?_
  | ((with_reducible refine' d_slO ?k1 ?_); (case k1 => rfl))
  | ((with_reducible refine' d_lenO ?k1 ?_); (case k1 => rfl))
  | ((with_reducible refine' d_ixO ?k1 ?_); (case k1 => rfl))
  | ((with_reducible refine' d_app ?k1 ?_); (case k1 => rfl))
  | ((with_reducible refine' d_frz ?k1 ?_); (case k1 => rfl); try dsimp -proj only [List.set_cons_zero, List.set_cons_succ, frzS])
  | with_reducible refine' d_lnil ?_
  | with_reducible refine' d_lcons ?_
  | with_reducible refine' d_gcd ?_
  | ((with_reducible refine' d_revO ?k1 ?_); (case k1 => rfl))
  | with_reducible refine' d_revL ?_
  | with_reducible refine' d_rev ?_
  | with_reducible refine' d_exrevL ?_
  | with_reducible refine' d_exrevT ?_
  | with_reducible refine' d_lc ?_
  | with_reducible refine' d_rng1 ?_
  | with_reducible refine' d_rng2 ?_
  | ((with_reducible refine' d_exrng ?k1 ?_); (case k1 => omega))
  | ((with_reducible refine' d_exrng2 ?k1 ?k2 ?_); (case k1 => omega); (case k2 => omega))
  | ((with_reducible refine' d_sz ?k1 ?_); (case k1 => simp; done))
  | with_reducible refine' d_tupQ ?_
  | with_reducible refine' d_lstQ ?_
  | with_reducible refine' d_callX ?_
  | with_reducible refine' d_call0 ?_
  | with_reducible refine' d_ifS ?_
  | with_reducible refine' d_B ?_
  | with_reducible refine' d_exbl ?_
  | with_reducible refine' d_ret ?_
  | with_reducible refine' d_drop ?_
  | with_reducible refine' d_next ?_
  | with_reducible refine' d_chain ?_
  | with_reducible refine' d_and ?_
  | with_reducible refine' d_or ?_
  | with_reducible refine' d_not ?_
  | with_reducible refine' d_andV ?_
  | with_reducible refine' d_orV ?_
  | with_reducible refine' d_notV ?_
  | with_reducible refine' d_if ?_
  | with_reducible refine' d_un ?_
  | with_reducible refine' d_fz ?_
  | with_reducible refine' d_addN ?_
  | ((with_reducible refine' d_subN ?k1 ?_); (case k1 => omega))
  | ((with_reducible refine' d_mdN ?k1 ?_); (case k1 => omega))
  | ((with_reducible refine' d_fdN ?k1 ?k2 ?_); (case k1 => omega); (case k2 => omega))
  | ((with_reducible refine' d_mulL ?k1 ?k2 ?_); (case k1 => omega); (case k2 => omega))
  | with_reducible refine' d_ltN ?_
  | with_reducible refine' d_leN ?_
  | with_reducible refine' d_gtN ?_
  | with_reducible refine' d_geN ?_
  | with_reducible refine' d_eqN ?_
  | with_reducible refine' d_neN ?_
  | with_reducible refine' d_negN ?_
  | with_reducible refine' d_bit ?_
  | ((with_reducible refine' d_lenT ?_); try rw [List.length_map])
  | ((with_reducible refine' d_lenL ?_); try rw [List.length_map])
  | ((with_reducible refine' d_aug ?k1 ?_); (case k1 => rfl))
  | with_reducible refine' d_slT ?_
  | with_reducible refine' d_slL ?_
  | with_reducible refine' d_exsT ?_
  | with_reducible refine' d_exsL ?_
  | with_reducible refine' d_nopart ?_
  | with_reducible refine' dw_part ?_
  | with_reducible refine' d_exint ?_
  | with_reducible refine' d_yes1 ?_
  | with_reducible refine' d_itT ?_
  | with_reducible refine' d_itL ?_
  | with_reducible refine' d_itK ?_
  | with_reducible refine' d_exsK ?_
  | with_reducible refine' d_for ?_
  | with_reducible refine' d_tupL ?_
  | with_reducible refine' d_tupT ?_
  | with_reducible refine' i_iteT ?_
  | with_reducible refine' i_iteNT ?_
  | with_reducible refine' i_iteNF ?_
  | with_reducible refine' i_iteF ?_
  | ((with_reducible refine' i_yes ?k1 ?_); (case k1 => omega))
  | ((with_reducible refine' i_nay ?k1 ?_); (case k1 => omega))
  | ((with_reducible refine' i_yesN ?k1 ?_); (case k1 => omega))
  | ((with_reducible refine' i_nayN ?k1 ?_); (case k1 => omega)))
local macro_rules | `(tactic| walk_at "dgo") => `(tactic| (repeat walk_at "d"; try dsimp -proj only [List.set_cons_zero, List.set_cons_succ]))
namespace Dx
def sp__law_whole_of : DSp := fun xs P _ => ∃ r : List Nat, xs = [rowD r] ∧ (∀ d ∈ r, d < 60) ∧ r.length ≤ 10000 ∧ P (nat (whole r))
def sp__law_row : DSp := fun xs P _ => ∃ n : Nat, xs = [nat n] ∧ 0 < n ∧ n.log2 < 400000 ∧ P (rowD (rowOf n))
def sp__law_smooth : DSp := fun xs P _ => xs = [.dice] ∧ ∀ a b c : Nat, a ≤ 9 → b ≤ 9 → c ≤ 9 → P (nat (2 ^ a * 3 ^ b * 5 ^ c))
def sp__law_drawn : DSp := fun xs P _ => ∃ m : Nat, xs = [.dice, nat m] ∧ 2 ≤ m ∧ m ≤ 12 ∧ ∀ r : List Nat, IsRow r → r.length ≤ m → P (rowD r)
def d__law_whole_of : DS := (dSeq (dAsg (.nm 1) (dC (nat 0)))
  (dSeq (dFor (dRng1 (dCons (dCB dLen (dCons (dVar 0) dNil)) dNil)) (.nm 2)
  (dAsg (.nm 1) (dOp dAdd (dOp dMul (dVar 1) (dC (nat 60))) (dOp dIxT (dVar 0) (dVar 2)))))
  (dRet (dVar 1))))
def d__law_row : DS := (dSeq (dAsgN 1 (dLst dNil))
  (dSeq (dWhile (dB (dOp dGt (dVar 0) (dC (nat 0)))) (dSeq (dApp 1 (dOp dMd (dVar 0) (dC (nat 60))))
  (dAsg (.nm 0) (dOp dFd (dVar 0) (dC (nat 60))))))
  (dSeq (dWhile (dB (dOp dEqS (dIxO 1 (dC (nat 0))) (dC (nat 0)))) (dPop0 1))
  (dRet (dCB dTupOf (dCons (dFz (dRevO 1)) dNil))))))
def d__law_smooth : DS := (dSeq (dAsg (.nm 1) (dC (nat 1)))
  (dSeq (dFor (dItL (dFz (dLst (dCons (dC (nat 2)) (dCons (dC (nat 3)) (dCons (dC (nat 5)) dNil)))))) (.nm 2)
  (dFor (dRng1 (dCons (dOp dIxL (dFz (dLst (dCons (dCall0 sp__law_next (dCons (dVar 0) (dCons (dC (nat 4)) dNil))) (dCons (dCall0 sp__law_next (dCons (dVar 0) (dCons (dC (nat 10)) dNil))) dNil)))) (dCB dInt1 (dCons (dOp dEqS (dCall0 sp__law_next (dCons (dVar 0) (dCons (dC (nat 4)) dNil))) (dC (nat 3))) dNil))) dNil)) (.nm 3)
  (dAsg (.nm 1) (dOp dMul (dVar 1) (dVar 2)))))
  (dRet (dVar 1))))
def d__law_drawn : DS := (dSeq (dAsg (.nm 2) (dCall0 sp__law_next (dCons (dVar 0) (dCons (dC (nat 4)) dNil))))
  (dSeq (dIfS (dB (dOp dEqS (dVar 2) (dC (nat 0)))) (dRet (dCallX sp__law_row (dCons (dOp dAdd (dC (nat 1)) (dCall0 sp__law_next (dCons (dVar 0) (dCons (dC (nat 60)) dNil)))) dNil))) dNext)
  (dSeq (dIfS (dB (dOp dLt (dVar 2) (dC (nat 3)))) (dAsg (.nm 3) (dCallX sp__law_row (dCons (dOp dMul (dCallX sp__law_smooth (dCons (dVar 0) dNil)) (dOp dIxL (dFz (dLst (dCons (dC (nat 1)) (dCons (dC (nat 1)) (dCons (dC (nat 1)) (dCons (dC (nat 7)) (dCons (dC (nat 49)) (dCons (dC (nat 11)) dNil)))))))) (dCall0 sp__law_next (dCons (dVar 0) (dCons (dC (nat 6)) dNil))))) dNil))) (dSeq (dAsg (.nm 4) (dFz (dLc (dRng1 (dCons (dOp dAdd (dC (nat 1)) (dCall0 sp__law_next (dCons (dVar 0) (dCons (dVar 1) dNil)))) dNil)) (.nm 5) dYes (dCall0 sp__law_next (dCons (dVar 0) (dCons (dC (nat 60)) dNil))) [5])))
  (dAsg (.nm 3) (dOp dCatT (dOp dCatT (dTup (dCons (dOp dAdd (dC (nat 1)) (dCall0 sp__law_next (dCons (dVar 0) (dCons (dC (nat 59)) dNil)))) dNil)) (dCB dTupOf (dCons (dVar 4) dNil))) (dTup (dCons (dOp dAdd (dC (nat 1)) (dCall0 sp__law_next (dCons (dVar 0) (dCons (dC (nat 59)) dNil)))) dNil))))))
  (dRet (dIf (dB (dOp dGt (dOp dIxT (dSlT (dVar 3) dNoPart (dPart (dVar 1))) (dUn dNeg (dC (nat 1)))) (dC (nat 0)))) (dSlT (dVar 3) dNoPart (dPart (dVar 1))) (dTup (dCons (dC (nat 1)) (dCons (dC (nat 30)) dNil))))))))

section
variable {xs : List Dt} {P : Dt → Prop} {X : DX}
theorem pow60_lt (k : Nat) : 60 ^ k ≤ 2 ^ (6 * k) := by
  rw [Nat.pow_mul]
  exact Nat.pow_le_pow_left (by decide) k
theorem log2_lt {n k : Nat} (h : n < 2 ^ k) (hk : 0 < k) : n.log2 < k := by
  rcases Nat.eq_zero_or_pos n with rfl | hn
  · simpa using hk
  · exact (Nat.log2_lt (by omega)).mpr h
theorem range_get {n i : Nat} {x : Dt} (h : ((List.range n).map nat)[i]? = some x) : i < n ∧ x = nat i := by
  have hi : i < n := by
    have := (List.getElem?_eq_some_iff.mp h).1
    simpa using this
  rw [List.getElem?_map, List.getElem?_range hi] at h
  exact ⟨hi, (Option.some.inj h).symm⟩
theorem dp__law_whole_of (h : sp__law_whole_of xs P X) : d__law_whole_of (dEnds P) X (startD xs (3 - xs.length)) := by
  obtain ⟨r, rfl, h60, hl, q⟩ := h
  show d__law_whole_of (dEnds P) X [.v (.tup (r.map nat)), .un, .un]
  unfold d__law_whole_of
  walk_at "dgo"
  refine d_loop (fun i ρ => ∃ s, ρ = [.v (.tup (r.map nat)), .v (nat (whole (r.take i))), s]) ⟨.un, rfl⟩ ?_ ?_
  · rintro i x ρ N hx ⟨s, rfl⟩ hN
    obtain ⟨hi, rfl⟩ := range_get hx
    obtain ⟨d, hd⟩ : ∃ d, r[i]? = some d := ⟨_, List.getElem?_eq_getElem hi⟩
    walk_at "dgo"
    have hw : whole (r.take i) < 2 ^ (6 * 10000) := Nat.lt_of_lt_of_le (whole_lt (k := 10000) (fun d hd => h60 d (List.mem_of_mem_take hd)) (by rw [List.length_take]; omega)) (pow60_lt _)
    refine d_mulN (q' := 6) hw (by decide) (by decide) (by decide) (by decide) ?_
    walk_at "dgo"
    refine d_ixT (z := nat d) (by rw [List.getElem?_map, hd]; rfl) ?_
    walk_at "dgo"
    exact hN _ ⟨_, by rw [whole_take hd]⟩
  · rintro ρ ⟨s, rfl⟩
    rw [List.length_map, List.length_range, List.take_length]
    walk_at "dgo"
    exact q
theorem dp__law_row (h : sp__law_row xs P X) : d__law_row (dEnds P) X (startD xs (2 - xs.length)) := by
  obtain ⟨n, rfl, hn, hz, q⟩ := h
  show d__law_row (dEnds P) X [.v (nat n), .un]
  unfold d__law_row
  have hb : (figsL n).length ≤ 100000 := by
    refine figsL_len 100000 n ?_
    have h1 : n < 2 ^ 400000 := (Nat.log2_lt (by omega)).mp hz
    refine Nat.lt_of_lt_of_le h1 ?_
    rw [show (400000 : Nat) = 4 * 100000 by rfl, Nat.pow_mul]
    exact Nat.pow_le_pow_left (by decide) _
  walk_at "dgo"
  refine d_while (fun m ρ => ∃ l, figsL n = l ++ figsL m ∧ ρ = [.v (nat m), .ol (l.map nat)]) n ⟨[], rfl, rfl⟩ ?_
  rintro m ρ N ⟨l, e, rfl⟩ hN
  walk_at "dgo"
  by_cases hm : 0 < m
  · refine i_yes hm ?_
    walk_at "dgo"
    refine d_sz ?_ ?_
    · have := congrArg List.length e
      rw [List.length_append] at this
      rw [List.length_map]; omega
    walk_at "dgo"
    refine hN _ _ (Nat.div_lt_self hm (by decide)) ⟨l ++ [m % 60], figsL_step hm e, by rw [List.map_append]; rfl⟩
  · refine i_nay hm ?_
    have e0 : m = 0 := by omega
    subst e0
    rw [figsL_zero, List.append_nil] at e
    walk_at "dgo"
    have hs := dropZ_figs n hn
    have lr := strip_spec n hn
    -- the noughts at the end of the number go
    refine d_while (fun m ρ => ∃ k, m = k ∧ ρ = [.v (nat 0), .ol ((List.replicate k 0 ++ figsL (strip n)).map nat)]) ((figsL n).length - (figsL (strip n)).length) ⟨_, rfl, ?_⟩ ?_
    · have key : ∀ n, 0 < n → ∃ k, figsL n = List.replicate k 0 ++ figsL (strip n) := by
        intro n
        induction n using Nat.strongRecOn with
        | ind n ih =>
          intro hn
          by_cases z : n % 60 = 0
          · obtain ⟨k, hk⟩ := ih (n / 60) (by omega) (by omega)
            exact ⟨k + 1, by rw [figsL_pos hn, z, hk, strip_yes hn z]; rfl⟩
          · exact ⟨0, by rw [strip_no hn z]; rfl⟩
      obtain ⟨k, hk⟩ := key n hn
      rw [← e]
      have : (figsL n).length - (figsL (strip n)).length = k := by rw [hk]; simp
      rw [this, ← hk]
    · rintro m ρ N ⟨k, rfl, rfl⟩ hN
      walk_at "dgo"
      cases m with
      | zero =>
        rw [List.replicate_zero, List.nil_append, figsL_pos lr.1, List.map_cons]
        refine ⟨_, _, rfl, atI_nat (i := 0) rfl, ?_⟩
        have := lr.2.1
        walk_at "dgo"
        have e2 : (nat (strip n % 60) :: (figsL (strip n / 60)).map nat).reverse = (rowOf n).map nat := by
          unfold rowOf figs
          rw [List.map_reverse, figsL_pos lr.1, List.map_cons]
        rw [e2]
        exact q
      | succ m =>
        rw [List.replicate_succ, List.cons_append, List.map_cons]
        refine ⟨_, _, rfl, atI_nat (i := 0) rfl, ?_⟩
        walk_at "dgo"
        refine d_pop0 rfl ?_
        exact hN m _ (Nat.lt_succ_self m) ⟨m, rfl, rfl⟩
theorem dp__law_smooth (h : sp__law_smooth xs P X) : d__law_smooth (dEnds P) X (startD xs (4 - xs.length)) := by
  obtain ⟨rfl, q⟩ := h
  show d__law_smooth (dEnds P) X [.v .dice, .un, .un, .un]
  unfold d__law_smooth
  obtain ⟨F, hF⟩ : ∃ F, F = dFor (dRng1 (dCons (dOp dIxL (dFz (dLst (dCons (dCall0 sp__law_next (dCons (dVar 0) (dCons (dC (nat 4)) dNil))) (dCons (dCall0 sp__law_next (dCons (dVar 0) (dCons (dC (nat 10)) dNil))) dNil)))) (dCB dInt1 (dCons (dOp dEqS (dCall0 sp__law_next (dCons (dVar 0) (dCons (dC (nat 4)) dNil))) (dC (nat 3))) dNil))) dNil)) (.nm 3) (dAsg (.nm 1) (dOp dMul (dVar 1) (dVar 2))) := ⟨_, rfl⟩
  rw [← hF]
  have turn : ∀ (p f : Nat) (s3 : Sl) (D : DEnds), p ≤ 5 → f < 2 ^ 100 → (∀ j, j ≤ 9 → ∀ s, D.nx [.v .dice, .v (nat (f * p ^ j)), .v (nat p), s]) →
      F D X [.v .dice, .v (nat f), .v (nat p), s3] := by
    intro p f s3 D hp hf hq
    rw [hF]
    walk_at "dgo"
    refine d_draw (q := fun a ha => ?_)
    walk_at "dgo"
    refine d_draw (q := fun b hb => ?_)
    walk_at "dgo"
    refine d_draw (q := fun c hc => ?_)
    walk_at "dgo"
    obtain ⟨n, hn, e⟩ : ∃ n, n ≤ 9 ∧ [nat a, nat b][if decide (c = 3) = true then 1 else 0]? = some (nat n) := by
      by_cases h : c = 3
      · exact ⟨b, by omega, by rw [if_pos (decide_eq_true h)]; rfl⟩
      · exact ⟨a, by omega, by rw [if_neg (by simpa using h)]; rfl⟩
    refine d_ixL e ?_
    walk_at "dgo"
    refine d_loop (fun i ρ => ∃ s, ρ = [.v .dice, .v (nat (f * p ^ i)), .v (nat p), s]) ⟨s3, by rw [Nat.pow_zero, Nat.mul_one]⟩ ?_ ?_
    · rintro i x ρ N hx ⟨s, rfl⟩ hN
      obtain ⟨hi, rfl⟩ := range_get hx
      walk_at "dgo"
      have h1 : p ^ i ≤ 5 ^ 9 := by
        calc p ^ i ≤ 5 ^ i := Nat.pow_le_pow_left hp i
          _ ≤ 5 ^ 9 := Nat.pow_le_pow_right (by decide) (by omega)
      refine d_mulN (p := 130) (q' := 4) ?_ (by omega) (by decide) (by decide) (by decide) ?_
      · calc f * p ^ i ≤ f * 5 ^ 9 := Nat.mul_le_mul_left _ h1
          _ < 2 ^ 100 * 2 ^ 30 := Nat.mul_lt_mul'' hf (by decide)
          _ = 2 ^ 130 := by decide
      walk_at "dgo"
      exact hN _ ⟨_, by rw [Nat.pow_succ, Nat.mul_assoc]⟩
    · rintro ρ ⟨s, rfl⟩
      rw [List.length_map, List.length_range]
      exact hq n hn s
  have s2 : ∀ a, a ≤ 9 → 2 ^ a ≤ 2 ^ 9 := fun a h => Nat.pow_le_pow_right (by decide) h
  have s3 : ∀ a, a ≤ 9 → 3 ^ a ≤ 3 ^ 9 := fun a h => Nat.pow_le_pow_right (by decide) h
  walk_at "dgo"
  refine turn 2 1 _ _ (by decide) (by decide) fun a ha s => ?_
  walk_at "dgo"
  have := s2 a ha
  refine turn 3 _ _ _ (by decide) (by omega) fun b hb s => ?_
  walk_at "dgo"
  have := s3 b hb
  refine turn 5 _ _ _ (by decide) ?_ fun c hc s => ?_
  · calc 1 * 2 ^ a * 3 ^ b ≤ 1 * 2 ^ 9 * 3 ^ 9 := Nat.mul_le_mul (by omega) (s3 b hb)
      _ < 2 ^ 100 := by decide
  walk_at "dgo"
  rw [Nat.one_mul]
  exact q a b c ha hb hc
theorem dp__law_drawn (h : sp__law_drawn xs P X) : d__law_drawn (dEnds P) X (startD xs (6 - xs.length)) := by
  obtain ⟨m, rfl, hm, hm2, q⟩ := h
  show d__law_drawn (dEnds P) X [.v .dice, .v (nat m), .un, .un, .un, .un]
  unfold d__law_drawn
  have tail : ∀ (r : List Nat) (s2 s4 s5 : Sl), (∀ d ∈ r, d < 60) → r ≠ [] → r[0]? ≠ some 0 → (dRet (dIf (dB (dOp dGt (dOp dIxT (dSlT (dVar 3) dNoPart (dPart (dVar 1))) (dUn dNeg (dC (nat 1)))) (dC (nat 0)))) (dSlT (dVar 3) dNoPart (dPart (dVar 1))) (dTup (dCons (dC (nat 1)) (dCons (dC (nat 30)) dNil))))) (dEnds P) X
      [.v .dice, .v (nat m), s2, .v (.tup (r.map nat)), s4, s5] := by
    intro r s2 s4 s5 h1 h2 h3
    walk_at "dgo"
    rw [cutD_to, rowD_take]
    have hn : r.take m ≠ [] := getLast_take h2 (by omega)
    obtain ⟨x, hx⟩ : ∃ x, (r.take m).getLast? = some x := ⟨_, List.getLast?_eq_getLast hn⟩
    refine d_ixTl (z := nat x) (by rw [List.getLast?_map, hx]; rfl) ?_
    walk_at "dgo"
    by_cases h0 : 0 < x
    · refine i_yes h0 ?_
      walk_at "dgo"
      rw [cutD_to, rowD_take]
      have hl : (r.take m).length ≤ m := by rw [List.length_take]; omega
      refine q _ ⟨⟨List.length_pos_iff.mpr hn, by omega⟩, fun d hd => h1 d (List.mem_of_mem_take hd), ?_, ?_⟩ hl
      · rw [List.getElem?_take_of_lt (by omega)]; exact h3
      · rw [hx]; intro z; have := Option.some.inj z; omega
    · refine i_nay h0 ?_
      walk_at "dgo"
      exact q [1, 30] row_130 (by simpa using hm)
  walk_at "dgo"
  refine d_draw (q := fun k hk => ?_)
  walk_at "dgo"
  by_cases k0 : k = 0
  · refine i_yes k0 ?_
    walk_at "dgo"
    refine d_draw (q := fun n hn => ?_)
    walk_at "dgo"
    obtain ⟨i1, i2⟩ := isRow_one (n := 1 + n) (by omega) (by omega)
    exact ⟨1 + n, rfl, by omega, Nat.lt_trans (log2_lt (n := 1 + n) (k := 100) (by omega) (by decide)) (by decide), q _ i1 (by omega)⟩
  · refine i_nay k0 ?_
    walk_at "dgo"
    by_cases k3 : k < 3
    · refine i_yes k3 ?_
      walk_at "dgo"
      refine ⟨rfl, fun a b c ha hb hc => ?_⟩
      walk_at "dgo"
      refine d_draw (q := fun j hj => ?_)
      walk_at "dgo"
      obtain ⟨y, hy, hy1, hy2⟩ : ∃ y, [nat 1, nat 1, nat 1, nat 7, nat 49, nat 11][j]? = some (nat y) ∧ 0 < y ∧ y ≤ 49 := by
        rcases j with _ | _ | _ | _ | _ | _ | j
        · exact ⟨1, rfl, by decide, by decide⟩
        · exact ⟨1, rfl, by decide, by decide⟩
        · exact ⟨1, rfl, by decide, by decide⟩
        · exact ⟨7, rfl, by decide, by decide⟩
        · exact ⟨49, rfl, by decide, by decide⟩
        · exact ⟨11, rfl, by decide, by decide⟩
        · omega
      refine d_ixL hy ?_
      have sl := smooth_lt ha hb hc
      refine d_mulL (by omega) (by omega) ?_
      walk_at "dgo"
      have hpos : 0 < 2 ^ a * 3 ^ b * 5 ^ c * y := Nat.mul_pos (Nat.mul_pos (Nat.mul_pos (Nat.pos_of_ne_zero (by simp)) (Nat.pos_of_ne_zero (by simp))) (Nat.pos_of_ne_zero (by simp))) hy1
      have hlt : 2 ^ a * 3 ^ b * 5 ^ c * y < 2 ^ 100 := Nat.lt_of_lt_of_le (Nat.mul_lt_mul'' sl (show y < 2 ^ 6 by omega)) (by decide)
      refine ⟨_, rfl, hpos, Nat.lt_trans (log2_lt (k := 100) hlt (by decide)) (by decide), ?_⟩
      obtain ⟨w1, w2, w3⟩ := rowOf_spec hpos
      exact tail _ _ _ _ w1 w2 w3
    · refine i_nay k3 ?_
      walk_at "dgo"
      refine d_draw (by omega) (by omega) (q := fun n hn => ?_)
      walk_at "dgo"
      refine d_compR (fun y => ∃ n : Nat, y = nat n ∧ n < 60) ?_ (by simp; omega) fun ys hl hr => ?_
      · intro x hx N hN
        walk_at "dgo"
        exact d_draw (q := fun n hn => hN _ ⟨n, rfl, hn⟩)
      obtain ⟨l, rfl, h60⟩ := nats_of hr
      simp only [List.length_map, List.length_range] at hl
      walk_at "dgo"
      refine d_draw (q := fun k1 hk1 => ?_)
      walk_at "dgo"
      rw [List.nil_append]
      refine d_cat (by simp; omega) ?_
      walk_at "dgo"
      refine d_draw (q := fun k2 hk2 => ?_)
      walk_at "dgo"
      refine d_cat (by simp; omega) ?_
      have e : [nat (1 + k1)] ++ l.map nat ++ [nat (1 + k2)] = ((1 + k1) :: l ++ [1 + k2]).map nat := by simp
      rw [e]
      refine tail _ _ _ _ ?_ (by simp) ?_
      · intro x hx
        rcases List.mem_append.mp hx with hx | hx
        · rcases List.mem_cons.mp hx with rfl | hx
          · omega
          · exact h60 x hx
        · rw [List.mem_singleton.mp hx]; omega
      · intro e
        have : 1 + k1 = 0 := Option.some.inj e
        omega
end
end Dx
end
section
/-! dicts over data -/
namespace L2
open PySem PySem.Spec PyProof.Rows
/-- what is made is locked for good -/
def tFzE (t : TE) : TE := fun σ H Q => t σ H fun v H1 => ∃ d u, v = .ref d ∧ H1 d = some u ∧ Mut (some u) ∧ ∀ od, Q v (upd H1 d (.frz od u))
def tFzS (t : TS) : TS := fun D σ H => ∃ d u, H d = some u ∧ Mut (some u) ∧ ∀ od, t D σ (upd H d (.frz od u))
section
variable {X : Cx}
theorem pe_fzE {e : Expr} {t : TE} (h : PE X e t) : PE X e (tFzE t) := ⟨fun pins s σ H Q I q => thn (h.run pins s σ H _ I q) fun v s1 ⟨x, H1, I1, r, d, u, ex, hd, mu, q1⟩ => by
  obtain ⟨od, I2⟩ := I1.lock hd mu
  exact ⟨x, _, I2, r, q1 od⟩⟩
theorem ps_fzS {st : Stmt} {t : TS} (h : PS X st t) : PS X st (tFzS t) := ⟨fun pins s σ H D I ⟨d, u, hd, mu, q⟩ => by
  obtain ⟨od, I2⟩ := I.lock hd mu
  exact h.run pins s σ _ D I2 (q od)⟩
end
theorem hu1 {k : Nat} {A : Around} (hr : Room k A) : A.units + 1 < cLine := by have := hr.un; omega
end L2
namespace Dx
open PySem L2 RT Sx
section
variable {κ : Type} [DecidableEq κ]
def gK (ps : List (κ × Dt)) (k : κ) : Option Dt := (ps.find? fun p => decide (p.1 = k)).map (·.2)
def pK (ps : List (κ × Dt)) (k : κ) (x : Dt) : List (κ × Dt) := if (ps.any fun p => decide (p.1 = k)) = true then ps.map (fun p => if p.1 = k then (p.1, x) else p) else ps ++ [(k, x)]
end
section
variable {K : PySem.W.Frag} {W : Wd}
theorem RpK.get : ∀ {ks : List (Key × V)} {ps : List (Key × Dt)} {k : Key}, RpK K W ks ps → (valV ks k = none ∧ gK ps k = none) ∨ ∃ v x, valV ks k = some v ∧ gK ps k = some x ∧ Rp K W v x
  | _, _, k, .nil => .inl ⟨rfl, rfl⟩
  | _, _, k, @RpK.cons _ _ k' v x ks ps r rr => by
    by_cases e : k' = k
    · exact .inr ⟨v, x, valV_pos (p := (k', v)) e, by unfold gK; simp [List.find?_cons, e], r⟩
    · rw [valV_neg (p := (k', v)) e, show gK ((k', x) :: ps) k = gK ps k by unfold gK; simp [List.find?_cons, e]]
      exact RpK.get rr
theorem RpK.any {k : Key} : ∀ {ks : List (Key × V)} {ps : List (Key × Dt)}, RpK K W ks ps → (ks.any fun p => decide (p.1 = k)) = ps.any fun p => decide (p.1 = k)
  | _, _, .nil => rfl
  | _, _, .cons r rr => by simp only [List.any_cons]; rw [RpK.any rr]
theorem RpK.mapp {k : Key} {v : V} {x : Dt} (h : Rp K W v x) : ∀ {ks : List (Key × V)} {ps : List (Key × Dt)}, RpK K W ks ps → RpK K W (ks.map fun p => if p.1 = k then (p.1, v) else p) (ps.map fun p => if p.1 = k then (p.1, x) else p)
  | _, _, .nil => .nil
  | _, _, @RpK.cons _ _ k' v' x' ks ps r rr => by
    rw [List.map_cons, List.map_cons]
    by_cases e : k' = k
    · simp only [e, if_true]; exact .cons h (RpK.mapp h rr)
    · simp only [e, if_false]; exact .cons r (RpK.mapp h rr)
theorem RpK.snoc {k : Key} {v : V} {x : Dt} (h : Rp K W v x) : ∀ {ks : List (Key × V)} {ps : List (Key × Dt)}, RpK K W ks ps → RpK K W (ks ++ [(k, v)]) (ps ++ [(k, x)])
  | _, _, .nil => .cons h .nil
  | _, _, .cons r rr => .cons r (RpK.snoc h rr)
theorem RpK.put {k : Key} {v : V} {x : Dt} {ks : List (Key × V)} {ps : List (Key × Dt)} (h : Rp K W v x) (r : RpK K W ks ps) : RpK K W (putK ks k v) (pK ps k x) := by
  unfold putK pK
  rw [r.any]
  split
  · exact r.mapp h
  · exact r.snoc h
theorem RpK.length : ∀ {ks : List (Key × V)} {ps : List (Key × Dt)}, RpK K W ks ps → ks.length = ps.length
  | _, _, .nil => rfl
  | _, _, .cons _ h => by rw [List.length_cons, List.length_cons, h.length]
end
/-! a new dict, a dict kept -/
abbrev DD := DX → Env → (Dt → Prop) → Prop
def liftD (K : PySem.W.Frag) (C : Ec) (E : XK) (d : DD) : TE := fun σ H Q => ∃ (c : Cn) (P : Dt → Prop), c.At K C E σ H ∧ d c.PX c.ρ P ∧
  ∀ W' H' p ho x, Frm c.W H W' H' → Ok K W' H' → H p = none → W'.F p = none → ¬ W'.dl p → H' p = some ho → DictR K W' ho x → P x → Q (.ref p) H'
def dFzD (a : DD) : DE := a
def dAsgD (i : Nat) (a : DD) : DS := fun D X ρ => a X ρ fun x => D.nx (ρ.set i (.od x))
def dNewK : DD := fun _ _ P => P (.dK [])
def dNewT : DD := fun _ _ P => P (.dT [])
/-- the dict in the slot is not changed from here on -/
def dFrzD (i : Nat) (t : DS) : DS := fun D X ρ => ∃ x, ρ[i]? = some (.od x) ∧ t D X (ρ.set i (.v x))
def dPutK (i : Nat) (b a : DE) : DS := fun D X ρ => a X ρ fun x => ∃ ps, ρ[i]? = some (.od (.dK ps)) ∧ b X ρ fun y => ∃ k, y = keyD k ∧ ps.length ≤ 100000 ∧ D.nx (ρ.set i (.od (.dK (pK ps k x))))
def dGetK (a b : DE) : DE := fun X ρ P => a X ρ fun x => b X ρ fun y => ∃ ps k z, x = .dK ps ∧ y = keyD k ∧ gK ps k = some z ∧ P z
def dInK (b a : DE) : DE := fun X ρ P => b X ρ fun y => a X ρ fun x => ∃ ps k, x = .dK ps ∧ y = keyD k ∧ P (.bl (gK ps k).isSome)
def dNotInK (b a : DE) : DE := fun X ρ P => b X ρ fun y => a X ρ fun x => ∃ ps k, x = .dK ps ∧ y = keyD k ∧ P (.bl (!(gK ps k).isSome))
/-- .. of one's own dict -/
def dGetO (i : Nat) (b : DE) : DE := fun X ρ P => ∃ ps, ρ[i]? = some (.od (.dK ps)) ∧ b X ρ fun y => ∃ k z, y = keyD k ∧ gK ps k = some z ∧ P z
def dInO (b : DE) (i : Nat) : DE := fun X ρ P => b X ρ fun y => ∃ ps k, ρ[i]? = some (.od (.dK ps)) ∧ y = keyD k ∧ P (.bl (gK ps k).isSome)
def dNotInO (b : DE) (i : Nat) : DE := fun X ρ P => b X ρ fun y => ∃ ps k, ρ[i]? = some (.od (.dK ps)) ∧ y = keyD k ∧ P (.bl (!(gK ps k).isSome))
section
variable {K : PySem.W.Frag} {C : Ec} {E : XK} {σ : L2.St} {H : Hp} {Q : VK} {D : Ends} {W : Wd}
theorem rp_key {k : Key} {v : V} (r : Rp K W v (keyD k)) : v = kV k := by
  cases k with
  | inl i => exact rp_int r
  | inr s => exact rp_str r
theorem rp_dK {v : V} {ps : List (Key × Dt)} (r : Rp K W v (.dK ps)) : ∃ a o ks, v = .ref a ∧ W.F a = some (.frz o (.dK ks)) ∧ RpK K W ks ps := by
  cases r with | dK h r => exact ⟨_, _, _, rfl, h, r⟩
theorem dictR_mut {ho : HO} {x : Dt} (h : DictR K W ho x) : Mut (some ho) := by
  rcases h with ⟨_, _, rfl, _⟩ | ⟨_, _, rfl, _⟩ <;> exact True.intro
theorem dictR_nc {ho : HO} {x : Dt} {H : Hp} {p : Addr} (e : H p = some ho) (h : DictR K W ho x) : ∀ c, H p ≠ some (LamX.CodeO c lamN) := fun c z => by
  rw [e] at z
  rcases h with ⟨_, _, rfl, _⟩ | ⟨_, _, rfl, _⟩ <;> cases z
theorem dictR_frz {W' : Wd} {ho : HO} {x : Dt} {p : Addr} {od : Obj} (h : DictR K W ho x) (l : W.Le W') (e : W'.F p = some (.frz od ho)) : Rp K W' (.ref p) x := by
  rcases h with ⟨ks, ps, rfl, rfl, r⟩ | ⟨ks, ps, rfl, rfl, r⟩
  · exact .dK e (r.le l)
  · exact .dT e (r.le l)
theorem frz_frm {W1 : Wd} {H0 H1 : Hp} {p : Addr} {u o : HO} {W0 : Wd} (f : Frm W0 H0 W1 H1) (ok : Ok K W1 H1) (n : H0 p = none) (nf : W1.F p = none) (nd : ¬ W1.dl p) (hcd : ∀ c, H1 p ≠ some (LamX.CodeO c lamN)) (nt : ∀ ps, o ≠ .tbl ps := by intro _ z; cases z) : Frm W0 H0 (W1.keep p o) (upd H1 p o) ∧ Ok K (W1.keep p o) (upd H1 p o) := by
  have f2 := f.keeps (o := o) n nf
  have hk : ∀ b, upd H1 p o b = none → H0 b = none := fun b hb => by
    by_cases z : b = p
    · rw [z]; exact n
    · rw [upd_ne z] at hb; exact f.kp b hb
  refine ⟨⟨f2.le, fun b v hb hd => by rw [upd_ne (ne_new n hb)]; exact f.sH b v hb hd, f2.nF, f2.dn, hk⟩, ?_⟩
  refine ⟨fun b v e => ?_, fun d e => ?_, ok.td, fun b ps e => by
    by_cases z : b = p
    · subst z
      have e' : upd W1.F b o b = some (.tbl ps) := e
      rw [upd_same] at e'
      exact nt ps (Option.some.inj e')
    · have e' : upd W1.F p o b = some (.tbl ps) := e
      rw [upd_ne z] at e'
      exact ok.nt b ps e'⟩
  · by_cases z : b = p
    · subst z
      have e' : upd W1.F b o b = some v := e
      rw [upd_same] at e' ⊢; exact e'
    · have e' : upd W1.F p o b = some v := e
      rw [upd_ne z] at e'
      rw [upd_ne z]; exact ok.sF b v e'
  · have ne : d ≠ p := fun z => nd (by rw [← z]; exact e)
    obtain ⟨f, m⟩ := ok.dc d e
    refine ⟨?_, m.mv rfl (same_upd nf) (upd_ne ne) fun c hc => by rw [upd_ne (fun q => hcd c (by rw [← q]; exact hc))]; exact hc⟩
    show upd W1.F p o d = none
    rw [upd_ne ne]; exact f
theorem le_fzD {a : DD} (q : liftE K C E (dFzD a) σ H Q) : tFzE (liftD K C E a) σ H Q := by
  obtain ⟨c, P, at_, h, k⟩ := q
  refine ⟨c, P, at_, h, fun W1 H1 p ho x f1 o1 n nf nd e r q1 => ⟨p, ho, rfl, e, dictR_mut r, fun od => ?_⟩⟩
  obtain ⟨f2, o2⟩ := frz_frm (u := ho) (o := .frz od ho) f1 o1 n nf nd (dictR_nc e r)
  exact k _ _ _ _ f2 o2 (dictR_frz r (Wd.le_keep nf) keep_at) q1
theorem ls_asgD {i : Nat} {a : DD} (q : liftS K C E (dAsgD i a) D σ H) : tAsg (liftD K C E a) (gName i) D σ H := by
  obtain ⟨c, DD, at_, en, h⟩ := q
  refine ⟨c, _, at_, h, fun W1 H1 p ho x f o n nf nd e r q1 => ?_⟩
  have a1 := at_.frm f o
  refine en.nx W1 (c.ρ.set i (.od x)) (σ.set i (some (.ref p))) H1 ⟨a1.lk.setOwn i ⟨p, ho, rfl, ⟨nf, at_.fr.kp p n, nd⟩, e, r⟩ fun j t e1 e2 ne e3 => ?_, a1.fr, a1.el, a1.lo⟩ q1
  obtain ⟨w, h1, h2⟩ := at_.lk.sl j t e1
  rw [h1] at e3
  obtain rfl := Option.some.inj e3
  cases t with
  | un => cases e2
  | v x => cases e2
  | pk u => cases e2
  | ol ys =>
    obtain ⟨q, us, z, _, hq, _⟩ := h2
    obtain rfl := V.ref.inj (Option.some.inj z)
    rw [n] at hq; cases hq
  | od ps =>
    obtain ⟨q, us, z, _, hq, _⟩ := h2
    obtain rfl := V.ref.inj (Option.some.inj z)
    rw [n] at hq; cases hq
  | ob ps =>
    obtain ⟨q, us, ks, z, _, hq, _⟩ := h2
    obtain rfl := V.ref.inj (Option.some.inj z)
    rw [n] at hq; cases hq
theorem le_newK (q : liftD K C E dNewK σ H Q) : tDNewK σ H Q := by
  obtain ⟨c, P, at_, h, k⟩ := q
  exact fun p n => k c.W _ p _ _ (Frm.laid n) (at_.lk.ok.laid n) n (at_.lk.ok.fr n) (at_.lk.ok.dice_ne n) upd_same (.inl ⟨[], [], rfl, rfl, .nil⟩) h
theorem le_newT (q : liftD K C E dNewT σ H Q) : tDNewT σ H Q := by
  obtain ⟨c, P, at_, h, k⟩ := q
  exact fun p n => k c.W _ p _ _ (Frm.laid n) (at_.lk.ok.laid n) n (at_.lk.ok.fr n) (at_.lk.ok.dice_ne n) upd_same (.inr ⟨[], [], rfl, rfl, .nil⟩) h
theorem Cn.At.od {c : Cn} {i : Nat} {x : Dt} (a : c.At K C E σ H) (e : c.ρ[i]? = some (.od x)) : ∃ p ho, σ[i]? = some (some (.ref p)) ∧ Mine c.Hin c.W p ∧ H p = some ho ∧ DictR K c.W ho x := by
  obtain ⟨o, h1, p, ho, rfl, m, h, r⟩ := a.lk.sl i _ e
  exact ⟨p, ho, h1, m, h, r⟩
theorem dictR_K {ho : HO} {ps : List (Key × Dt)} (h : DictR K W ho (.dK ps)) : ∃ ks, ho = .dK ks ∧ RpK K W ks ps := by
  rcases h with ⟨ks, qs, rfl, e, r⟩ | ⟨ks, qs, rfl, e, r⟩
  · obtain rfl := Dt.dK.inj e; exact ⟨ks, rfl, r⟩
  · cases e
theorem ls_frzD {i : Nat} {t : DS} (q : liftS K C E (dFrzD i t) D σ H) : tFzS (liftS K C E t) D σ H := by
  obtain ⟨c, DD, at_, en, x, e, h⟩ := q
  obtain ⟨p, ho, h1, m, hp, r⟩ := at_.od e
  refine ⟨p, ho, hp, dictR_mut r, fun od => ?_⟩
  have hset : ∀ (j : Nat) (s : Sl), j ≠ i → c.ρ[j]? = some s → own s = true → σ[j]? ≠ some (some (.ref p)) := fun j s ne ej ow ej2 => at_.lk.sep j i s (.od x) p ne ej e ow rfl ej2 h1
  obtain ⟨f2, o2⟩ := frz_frm (u := ho) (o := .frz od ho) at_.fr at_.lk.ok m.i m.f m.d (dictR_nc hp r)
  have le := Wd.le_keep (o := .frz od ho) m.f
  refine ⟨{ c with W := c.W.keep p (.frz od ho), ρ := c.ρ.set i (.v x) }, DD, ⟨⟨o2, by rw [List.length_set]; exact at_.lk.len, fun j u z => ?_, fun a b s1 t1 q ne e1 e2 o1 o2 g1 g2 => ?_⟩, f2, at_.el, at_.lo.trans le⟩, en.mv, h⟩
  · rcases set_get z with ⟨rfl, rfl⟩ | ⟨ne, zz⟩
    · exact ⟨_, h1, _, rfl, dictR_frz r le keep_at⟩
    · obtain ⟨w, h3, h4⟩ := at_.lk.sl j u zz
      refine ⟨w, h3, ?_⟩
      have oth : ∀ q, own u = true → w = some (.ref q) → q ≠ p := fun q ou ew z2 => by
        subst z2; subst ew
        exact hset j u (Ne.symm ne) zz ou h3
      have mine : ∀ q, q ≠ p → Mine c.Hin c.W q → Mine c.Hin (c.W.keep p (.frz od ho)) q := fun q nq mq => ⟨by
        show upd c.W.F p _ q = none
        rw [upd_ne nq]; exact mq.f, mq.i, mq.d⟩
      cases u with
      | un => trivial
      | v x => obtain ⟨v, e1, r⟩ := h4; exact ⟨v, e1, r.le le⟩
      | pk u => exact h4
      | ol xs => obtain ⟨q, vs, e1, mq, hq, r⟩ := h4; exact ⟨q, vs, e1, mine q (oth q rfl e1) mq, by rw [upd_ne (oth q rfl e1)]; exact hq, r.le le⟩
      | od ps => obtain ⟨q, h0, e1, mq, hq, r⟩ := h4; exact ⟨q, h0, e1, mine q (oth q rfl e1) mq, by rw [upd_ne (oth q rfl e1)]; exact hq, r.le le⟩
      | ob ps => obtain ⟨q, h0, ks, e1, mq, hq, b, r⟩ := h4; exact ⟨q, h0, ks, e1, mine q (oth q rfl e1) mq, by rw [upd_ne (oth q rfl e1)]; exact hq, b, r.le le⟩
  · rcases set_get e1 with ⟨rfl, rfl⟩ | ⟨_, f1⟩
    · cases o1
    rcases set_get e2 with ⟨rfl, rfl⟩ | ⟨_, f2⟩
    · cases o2
    exact at_.lk.sep a b s1 t1 q ne f1 f2 o1 o2 g1 g2
theorem le_getK {a b : DE} (q : liftE K C E (dGetK a b) σ H Q) : tDGet (liftE K C E a) (liftE K C E b) σ H Q := by
  obtain ⟨c, P, at_, h, k⟩ := q
  refine ⟨c, _, at_, h, fun W1 H1 v1 x1 f1 o1 r1 q1 => ?_⟩
  refine ⟨{ c with W := W1 }, _, at_.frm f1 o1, q1, fun W2 H2 v2 x2 f2 o2 r2 ⟨ps, kk, z, e1, e2, eg, q2⟩ => ?_⟩
  subst e1; subst e2
  obtain ⟨a, o, ks, rfl, hf, rk⟩ := rp_dK (r1.le f2.le)
  rcases rk.get (k := kk) with ⟨_, n⟩ | ⟨v, x, hv, hx, rv⟩
  · rw [n] at eg; cases eg
  · rw [hx] at eg
    obtain rfl := Option.some.inj eg
    exact ⟨a, v, rfl, .inl ⟨ks, kk, .inr ⟨o, o2.sF _ _ hf⟩, rp_key r2, hv.symm⟩, k W2 H2 v x (f1.trans f2) o2 rv q2⟩
theorem isSome_eq {ks : List (Key × V)} {ps : List (Key × Dt)} (r : RpK K W ks ps) (k : Key) : (valV ks k).isSome = (gK ps k).isSome := by
  rcases r.get (k := k) with ⟨h1, h2⟩ | ⟨v, x, h1, h2, _⟩ <;> rw [h1, h2] <;> rfl
theorem le_inK {a b : DE} (q : liftE K C E (dInK b a) σ H Q) : tDIn (liftE K C E b) (liftE K C E a) σ H Q := by
  obtain ⟨c, P, at_, h, k⟩ := q
  refine ⟨c, _, at_, h, fun W1 H1 v1 x1 f1 o1 r1 q1 => ?_⟩
  refine ⟨{ c with W := W1 }, _, at_.frm f1 o1, q1, fun W2 H2 v2 x2 f2 o2 r2 ⟨ps, kk, e1, e2, q2⟩ => ?_⟩
  subst e1; subst e2
  obtain ⟨a, o, ks, rfl, hf, rk⟩ := rp_dK r2
  exact ⟨a, valV ks kk, rfl, .inl ⟨ks, kk, .inr ⟨o, o2.sF _ _ hf⟩, rp_key (r1.le f2.le), rfl⟩, by rw [isSome_eq rk]; exact k W2 H2 _ _ (f1.trans f2) o2 (.bl _) q2⟩
theorem le_notInK {a b : DE} (q : liftE K C E (dNotInK b a) σ H Q) : tDNotIn (liftE K C E b) (liftE K C E a) σ H Q := by
  obtain ⟨c, P, at_, h, k⟩ := q
  refine ⟨c, _, at_, h, fun W1 H1 v1 x1 f1 o1 r1 q1 => ?_⟩
  refine ⟨{ c with W := W1 }, _, at_.frm f1 o1, q1, fun W2 H2 v2 x2 f2 o2 r2 ⟨ps, kk, e1, e2, q2⟩ => ?_⟩
  subst e1; subst e2
  obtain ⟨a, o, ks, rfl, hf, rk⟩ := rp_dK r2
  exact ⟨a, valV ks kk, rfl, .inl ⟨ks, kk, .inr ⟨o, o2.sF _ _ hf⟩, rp_key (r1.le f2.le), rfl⟩, by rw [isSome_eq rk]; exact k W2 H2 _ _ (f1.trans f2) o2 (.bl _) q2⟩
end
/-! dict comprehensions over keys that are ints and texts -/
def dDcF (p : Pt) (t : DT) (ek ev : DE) (ρ0 : Env) (X : DX) : List Dt → List (Key × Dt) → (List (Key × Dt) → Prop) → Prop
  | [], acc, P => P acc
  | x :: xs, acc, P => bindD p x ρ0 fun ρ => t X ρ fun b => if b = true then ek X ρ fun y => ev X ρ fun z => ∃ k, y = keyD k ∧ acc.length ≤ 100000 ∧ dDcF p t ek ev ρ0 X xs (pK acc k z) P else dDcF p t ek ev ρ0 X xs acc P
def dDc (w : DA) (p : Pt) (t : DT) (ek ev : DE) (vs : List Nat) : DD := fun X ρ P => w X ρ fun xs => dDcF p t ek ev (wipeD ρ vs) X xs [] fun ps => P (.dK ps)
section
variable {K : PySem.W.Frag} {C : Ec} {E : XK} {σ : L2.St} {H : Hp}
theorem le_dc {w : DA} {p : Pt} {t : DT} {ek ev : DE} {vs : List Nat} {Q : VK} (hp : ptIn vs p = true) (q : liftD K C E (dDc w p t ek ev vs) σ H Q) : tDc (liftI K C E w) (gOf K p) (liftT K C E t) (liftE K C E ek) (liftE K C E ev) vs σ H Q := by
  obtain ⟨c, P, at_, h, k⟩ := q
  refine ⟨c, _, at_, h, fun W1 H1 J xs f1 o1 wk q1 D n => ?_⟩
  have hn0 : H D = none := f1.kp D n
  refine ⟨fun i m H' => m = xs.length - i ∧ i ≤ xs.length ∧ ∃ W' acc ks, Cn.At K C E { c with Wl := W1, W := W' } σ H' ∧ Frm c.W H W' H' ∧ W'.F D = none ∧ ¬ W'.dl D ∧ H' D = some (.dK ks) ∧ RpK K W' ks acc ∧ dDcF p t ek ev (wipeD c.ρ vs) c.PX (xs.drop i) acc fun ps => P (.dK ps),
    ⟨xs.length, by simp, Nat.zero_le _, W1, [], [], ?_, f1.trans (Frm.laid n), o1.fr n, o1.dice_ne n, upd_same, .nil, q1⟩, ?_⟩
  · have a1 := at_.frm f1 o1
    have a2 := a1.frm (Frm.laid (o := .dK []) n) (o1.laid n)
    exact ⟨a2.lk, a2.fr, a2.el, Wd.Le.refl _⟩
  · rintro i m H' ⟨rfl, hi, W', acc, ks, a, fr, nF, nd, hD, ra, q⟩
    have g : Same W1.F H' := Same.trans a.lo.sF a.lk.ok.sF
    rcases Nat.lt_or_ge i xs.length with hlt | hge
    · refine .inr ⟨wk.goes i H' hlt g, fun H2 => ∃ W' acc ks, Cn.At K C E { c with Wl := W1, W := W' } σ H2 ∧ Frm c.W H W' H2 ∧ W'.F D = none ∧ ¬ W'.dl D ∧ H2 D = some (.dK ks) ∧ RpK K W' ks acc ∧ dDcF p t ek ev (wipeD c.ρ vs) c.PX (xs.drop (i + 1)) acc fun ps => P (.dK ps),
        fun H2 h2 => ⟨xs.length - (i + 1), by omega, rfl, hlt, h2⟩, fun u H2 y => ?_⟩
      obtain ⟨W2, x, f2, o2, ex, r⟩ := yd_run (wk.yields i H' u H2 hlt g y) a.lk.ok a.lo
      rw [drop_at ex] at q
      have a2 := (a.frm f2 o2).wipe vs
      refine bind_run (c := { c with Wl := W1, W := W2, ρ := wipeD c.ρ vs }) p a2 r q fun ρ3 σ3 a3 w3 q3 _ => ⟨(w3 vs hp).trans (wipe_wipe fun _ h => h), ?_⟩
      refine ⟨{ c with Wl := W1, W := W2, ρ := ρ3 }, _, a3, q3, fun W4 H4 b f4 o4 q4 => ?_⟩
      have f24 := f2.trans f4
      cases b with
      | false =>
        rw [if_neg Bool.false_ne_true] at q4
        refine iteF ?_
        exact ⟨W4, acc, ks, a.frm f24 o4, fr.trans f24, f24.nF D _ hD nd trivial nF, f24.ndl hD nd, f24.sH D _ hD nd, ra.le f24.le, q4⟩
      | true =>
        rw [if_pos rfl] at q4
        refine iteT ?_
        refine ⟨{ c with Wl := W1, W := W4, ρ := ρ3 }, _, a3.frm f4 o4, q4, fun W5 H5 v5 y5 f5 o5 r5 q5 => ?_⟩
        refine ⟨{ c with Wl := W1, W := W5, ρ := ρ3 }, _, (a3.frm f4 o4).frm f5 o5, q5, fun W6 H6 v6 y6 f6 o6 r6 ⟨kk, ek2, hz, q6⟩ => ?_⟩
        subst ek2
        have f26 := (f24.trans f5).trans f6
        have hD6 := f26.sH D _ hD nd
        have nF6 := f26.nF D _ hD nd trivial nF
        have nd6 := f26.ndl hD nd
        have ra6 := ra.le f26.le
        have fr6 := fr.trans f26
        have up : Frm c.W H W6 (upd H6 D (.dK (putK ks kk v6))) := ⟨fr6.le, fun b o hb hd => by rw [upd_ne (ne_new hn0 hb)]; exact fr6.sH b o hb hd, fr6.nF, fr6.dn, fun b hb => by
          by_cases e : b = D
          · rw [e]; exact hn0
          · rw [upd_ne e] at hb; exact fr6.kp b hb⟩
        refine ⟨ks, kk, rp_key (r5.le f6.le), hD6, Nat.lt_of_le_of_lt (by rw [ra.length]; exact hz) (by decide), W6, pK acc kk y6, putK ks kk v6, ?_, up, nF6, nd6, upd_same, ra6.put r6, q6⟩
        have au := at_.frm up (o6.change nF6 nd6 hD6 trivial)
        exact ⟨au.lk, au.fr, at_.el, a.lo.trans f26.le⟩
    · obtain rfl : i = xs.length := by omega
      refine .inl ⟨wk.stops H' g, ?_⟩
      rw [List.drop_length] at q
      exact k W' H' D (.dK ks) (.dK acc) fr a.lk.ok hn0 nF nd hD (.inl ⟨ks, acc, rfl, rfl, ra⟩) q
end
section
variable {X : Cx} {C : Ec} {E : XK} {e : Expr} {dd : DD} {da db : DE}
theorem efzD (h : PE X e (liftD X.K C E dd)) : PE X e (liftE X.K C E (dFzD dd)) := PE.imp (pe_fzE h) fun _ _ _ => le_fzD
theorem tdict (h : PT X e (tB (liftE X.K C E da))) : PT X e (liftT X.K C E (dB da)) := PT.imp h fun _ _ _ => le_B
end
end Dx
end
section
/-! raising over data -/
namespace Dx
open PySem L2 RT Sx
def ecOf (e : Er) : Ec
  | 0 => e.base
  | 1 => e.bad
  | 2 => e.turned
  | 3 => e.side
  | 4 => e.step
  | _ => e.text
/-- an own error class without an __init__ of its own -/
structure OwnP (K : PySem.W.Frag) (mg : Str → Option Value) (cn : Str) (C : Addr) : Prop where
  gC : mg cn = some (.ref C)
  xC : PySem.W.excIn K C [.type "ValueError", .type "Exception", .type "BaseException", .type "object"] "ValueError.__new__" = true
  kC : PySem.W.keepIn K (.ref C) = true
  bC : PySem.W.subIn K (.ref C) (.type "BaseException") = some true
  tC : PySem.W.typeIn K (.ref C) = some (.type "type")
theorem pmk_p {X : Cx} {cn m : Str} {C : Addr} {j : Nat} {p p2 pos : Pos} (T : OwnP X.K X.mg cn C) (hg : Gl X cn) (hdb : (cn == ("__debug__" : Str)) = false := by decide) : PMk X (.Call (.Name cn p) [.Constant (.str m) j p2] [] pos) (fun _ H Q => Q (.ref C) none H) :=
  pmk_own PySem.F.excBase_ValueError T.xC T.gC T.kC (raises_own T.bC T.tC) hg hdb
section
variable {K : PySem.W.Frag} {C : Ec} {E : XK} {σ : L2.St} {H : Hp} {D : Ends}
theorem ls_raise0 {k : Nat} (hk : fldsOf k = []) (q : liftS K C E (dRaise0 k) D σ H) : E (.ref (C k)) none H := by
  obtain ⟨c, DD, at_, en, h⟩ := q
  exact at_.el c.W H k [] _ _ at_.fr at_.lk.ok ⟨rfl, by rw [hk]; rfl, .inl ⟨rfl, rfl⟩⟩ h
theorem ls_raise1 {k : Nat} {f : Str} {a : DA} (hk : fldsOf k = [f]) (q : liftS K C E (dRaise k a) D σ H) : tRaiseF (C k) f (fun cls d _ H => E cls d H) (liftA K C E a) D σ H := by
  obtain ⟨c, DD, at_, en, h⟩ := q
  refine ⟨c, _, at_, h, fun W1 H1 vs xs f1 o1 r1 ⟨hl, q1⟩ => ?_⟩
  rw [hk] at hl
  match xs, vs, r1, hl, q1 with
  | [x], [v], .cons rv .nil, _, q1 =>
    refine ⟨v, rfl, fun d n => ?_⟩
    refine at_.el W1 _ k [x] _ _ (at_.fr.trans (f1.trans (Frm.laid n))) (o1.laid n) ⟨rfl, by rw [hk]; rfl, .inr ⟨d, [v], rfl, ?_, .cons rv .nil⟩⟩ q1
    rw [hk, upd_same]; rfl
end
end Dx
namespace Dx
open PySem L2 RT Sx
def sp_law : DSp := fun xs P _ => ∃ ns : List Int, xs = [.scr ns] ∧ ns.length ≤ 63 ∧ P (.bl true)
def lawSp (K : PySem.W.Frag) : Sp := fun vs H Q _ => ∃ (a : Addr) (ns : List Int), vs = [.ref a] ∧ SqL K H a (ns.map V.int) ∧ ns.length ≤ 63 ∧ ∀ H', Q (.bl true) H'
/-- the heap without its tables -/
def noTab (H : Hp) : Hp := fun a => match H a with
  | some (.tbl _) => none
  | x => x
theorem noTab_same {H : Hp} : Same (noTab H) H := fun a o h => by
  unfold noTab at h
  cases z : H a with
  | none => rw [z] at h; cases h
  | some u => rw [z] at h; cases u <;> first | exact h | cases h
theorem noTab_nt {H : Hp} {p : Addr} {ps : Array Value} : noTab H p ≠ some (.tbl ps) := fun h => by
  have h2 := noTab_same _ _ h
  unfold noTab at h
  rw [h2] at h; cases h
theorem noTab_seq {K : PySem.W.Frag} {H : Hp} {a : Addr} {xs : List V} (h : SqL K H a xs) : SqL K (noTab H) a xs := by
  rcases h with (z | ⟨o, z⟩) | z
  · exact .inl (.inl (by unfold noTab; rw [z]))
  · exact .inl (.inr ⟨o, by unfold noTab; rw [z]⟩)
  · exact .inr z
theorem conv_law {K : PySem.W.Frag} {C : Ec} {vs : List V} {H : Hp} {Q : VK} {E : XK} (h : lawSp K vs H Q E) : liftSp K C sp_law vs H Q E0 := by
  obtain ⟨a, ns, rfl, hs, hl, q⟩ := h
  refine ⟨⟨noTab H, fun _ => False, fun _ => False⟩, [.scr ns], fun x => x = .bl true, none_, ⟨noTab_same, fun _ z => z.elim, fun _ z => z.elim, fun _ _ => noTab_nt⟩, .cons (.scr (noTab_seq hs)) .nil, ⟨ns, rfl, hl, rfl⟩, fun W' H' v x f o r e => ?_, fun W' H' k fs cls d f o er px => px⟩
  subst e
  rw [rp_bl r]; exact q H'
/-- of a law that hands lambdas on: the table of their code objects is empty -/
def lawSpT (K : PySem.W.Frag) (cP : Addr) : Sp := fun vs H Q _ => ∃ (a : Addr) (ns : List Int), vs = [.ref a] ∧ SqL K H a (ns.map V.int) ∧ ns.length ≤ 63 ∧ H cP = some (.tbl #[]) ∧ ∀ H', Q (.bl true) H'
def sp_lawT : DSp := fun xs P _ => ∃ ns : List Int, xs = [.scrT ns] ∧ ns.length ≤ 63 ∧ P (.bl true)
theorem conv_lawT {K : PySem.W.Frag} {C : Ec} {c cP : Addr} {vs : List V} {H : Hp} {Q : VK} {E : XK} (hK : PySem.W.tabIn K "law" = some (c, cP)) (h : lawSpT K cP vs H Q E) : liftSp K C sp_lawT vs H Q E0 := by
  obtain ⟨a, ns, rfl, hs, hl, hP, q⟩ := h
  have hT : LamX.TabS H cP lamN := LamX.TabS.nil hP
  refine ⟨⟨noTab H, fun a => a = cP, fun a => a = cP⟩, [.scrT ns], fun x => x = .bl true, none_, ⟨noTab_same, fun d z => ?_, fun _ z => z, fun _ _ => noTab_nt⟩, .cons (.scrT (noTab_seq hs) fun c' P' e => ?_) .nil, ⟨ns, rfl, hl, rfl⟩, fun W' H' v x f o r e => ?_, fun W' H' k fs cls d f o er px => px⟩
  · subst z
    exact ⟨by show noTab H d = none; unfold noTab; rw [hP], .inr ⟨rfl, hT⟩⟩
  · rw [hK] at e; cases e; exact ⟨rfl, rfl⟩
  · subst e
    rw [rp_bl r]; exact q H'
theorem lawSp_len {K : PySem.W.Frag} {vs : List V} {H : Hp} {Q : VK} {E : XK} (h : lawSp K vs H Q E) : vs.length = 1 := by
  obtain ⟨_, _, rfl, _⟩ := h; rfl
end Dx
end
section
/-! texts over data; a list taken apart -/
namespace L2
open PySem PySem.Spec PyProof.Rows Sx
section
variable {X : Cx}
theorem iop_mulW : OpR X (inplaceOp .Mult) (rI CMulW fun i j => .int (i * j)) := opI fun _ _ _ _ _ _ _ hc q => imul_int q hc.ok
def rIsqrt : List V → Hp → VK → Prop := fun vs H Q => ∃ a : Nat, vs = [natV a] ∧ a < 2 ^ 250 ∧ Q (natV (Float64.isqrt a)) H
theorem cr_isqrt : CallR X (.builtin "math.isqrt") rIsqrt := fun pins s σ H vs us Q I r ⟨a, e, hz, q⟩ => by
  subst e
  obtain ⟨u, rfl, t, rfl⟩ := vals1 r
  have hl : a.log2 ≤ 249 := PySem.W.mg_log hz
  have hn : ((a : Nat) : Int).toNat = a := Int.toNat_natCast a
  exact PySem.call_function_meets PySem.W.MGF.kind_isqrt PySem.W.MGF.plain_isqrt PySem.W.MGF.entry_isqrt (PySem.W.MGF.args_isqrt _) (PySem.W.mg_run_isqrt (a : Int) t (by omega) (by rw [hn]; omega) (by rw [hn]; omega)).meets ⟨natV (Float64.isqrt a), H, I.tok _, ⟨_, by rw [hn]⟩, q⟩
end
end L2
namespace Dx
open PySem L2 RT Sx
/-- a, b, .. = a list of that length -/
def dAsgL (ps : List Pt) (a : DE) : DS := fun D X ρ => a X ρ fun x => ∃ xs, x = .lst xs ∧ bindDs ps xs ρ D.nx
def dJoin (o e : DE) : DE := fun X ρ P => o X ρ fun x => ∃ a, x = .str a ∧ e X ρ fun y => ∃ ys : List Str, (y = .lst (ys.map Dt.str) ∨ y = .tup (ys.map Dt.str)) ∧ (ys.map (·.length)).sum + ys.length * a.length ≤ 16777216 ∧ P (.str (Txt.join a ys))
def dSplit (o e : DE) : DN := fun X ρ P => o X ρ fun x => ∃ a, x = .str a ∧ e X ρ fun y => ∃ b, y = .str b ∧ (b.length == 0) = false ∧ a.length ≤ 99000 ∧ P ((Txt.split a b).map Dt.str)
abbrev rStrI : List V → Hp → VK → Prop := fun xs H Q => ∃ i : Int, xs = [.int i] ∧ i.natAbs.log2 < 1920 ∧ Q (.str (toString i)) H
abbrev rJoinS (K : PySem.W.Frag) : V → List V → Hp → VK → Prop := fun x xs H Q => ∃ a p, ∃ ys : List Str, x = .str a ∧ xs = [.ref p] ∧ (SqL K H p (ys.map V.str) ∨ SqT K H p (ys.map V.str)) ∧ (ys.map (·.length)).sum + ys.length * a.length ≤ 16777216 ∧ Q (.str (Txt.join a ys)) H
abbrev rSplitS : V → List V → Hp → VK → Prop := fun x xs H Q => ∃ a b, x = .str a ∧ xs = [.str b] ∧ (b.length == 0) = false ∧ a.length + 2 ≤ sizeLine ∧ rNewStrs (Txt.split a b) H Q
mutual
theorem bindD_any : ∀ (p : Pt) {x : Dt} {ρ : Env} {N : Env → Prop}, bindD p x ρ N → ∃ ρ', N ρ'
  | .nm i, _, _, _, h => ⟨_, h⟩
  | .tp ps, _, _, _, ⟨_, _, h⟩ => (bindDs_len ps h).2
theorem bindDs_len : ∀ (ps : List Pt) {xs : List Dt} {ρ : Env} {N : Env → Prop}, bindDs ps xs ρ N → ps.length = xs.length ∧ ∃ ρ', N ρ'
  | [], _, _, _, ⟨e, h⟩ => ⟨by subst e; rfl, ⟨_, h⟩⟩
  | p :: ps, _, _, _, ⟨y, ys, e, h⟩ => by
    obtain ⟨ρ', h'⟩ := bindD_any p h
    obtain ⟨e2, r⟩ := bindDs_len ps h'
    exact ⟨by rw [e, List.length_cons, List.length_cons, e2], r⟩
end
section
variable {K : PySem.W.Frag} {C : Ec} {E : XK} {σ : L2.St} {H : Hp} {Q : VK} {D : Ends} {W : Wd}
theorem o_strI : OpL K rStrI dStrI := fun W H vs xs P Q o r ⟨i, e, hz, q⟩ k => by
  subst e
  obtain ⟨v, rfl, rv⟩ := rpl1 r
  exact ⟨i, by rw [rp_int rv], hz, k W H _ _ (Frm.refl _ _) o (.str _) q⟩
theorem o_gcd : OpL K rGcd dGcd := fun W H vs xs P Q o r ⟨a, b, e, q⟩ k => by
  subst e
  obtain ⟨v, w, rfl, r1, r2⟩ := rpl2 r
  refine ⟨a, b, by rw [rp_int r1, rp_int r2], ?_⟩
  rw [Int.natAbs_natCast, Int.natAbs_natCast]
  exact k W H _ _ (Frm.refl _ _) o (.int _) q
theorem o_isqrt : OpL K rIsqrt dIsqrt := fun W H vs xs P Q o r ⟨a, e, hz, q⟩ k => by
  subst e
  obtain ⟨v, rfl, r1⟩ := rpl1 r
  exact ⟨a, by rw [rp_int r1]; rfl, hz, k W H _ _ (Frm.refl _ _) o (.int _) q⟩
theorem rpl_strs {vs : List V} : ∀ {ys : List Str}, RpL K W vs (ys.map Dt.str) → vs = ys.map V.str := by
  intro ys
  induction ys generalizing vs with
  | nil => intro r; cases r; rfl
  | cons y ys ih =>
    intro r
    cases r with
    | cons a b => rw [rp_str a, ih b]; rfl
theorem rpl_strs' : ∀ {ys : List Str}, RpL K W (ys.map V.str) (ys.map Dt.str)
  | [] => .nil
  | _ :: _ => .cons (.str _) rpl_strs'
theorem le_join {o e : DE} (q : liftE K C E (dJoin o e) σ H Q) : tM1 (rJoinS K) (liftE K C E o) (liftE K C E e) σ H Q := by
  obtain ⟨c, P, at_, h, k⟩ := q
  refine ⟨c, _, at_, h, fun W1 H1 v1 x1 f1 o1 r1 ⟨a, e1, q1⟩ => ?_⟩
  subst e1
  obtain rfl := rp_str r1
  refine ⟨⟨a, rfl⟩, ⟨{ c with W := W1 }, _, at_.frm f1 o1, q1, fun W2 H2 v2 x2 f2 o2 r2 ⟨ys, e2, hz, q2⟩ => ?_⟩⟩
  rcases e2 with e2 | e2
  · subst e2
    obtain ⟨p, vs, rfl, hs, rs⟩ := rp_lst r2
    obtain rfl := rpl_strs rs
    exact ⟨a, p, ys, rfl, rfl, .inl (sql (o2.sF _ _ hs)), hz, k _ _ _ _ (f1.trans f2) o2 (.str _) q2⟩
  · subst e2
    obtain ⟨p, vs, rfl, hs, rs⟩ := rp_tup r2
    obtain rfl := rpl_strs rs
    exact ⟨a, p, ys, rfl, rfl, .inr (sqt (o2.sF _ _ hs)), hz, k _ _ _ _ (f1.trans f2) o2 (.str _) q2⟩
theorem le_split {o e : DE} (q : liftN K C E (dSplit o e) σ H Q) : tM1 rSplitS (liftE K C E o) (liftE K C E e) σ H Q := by
  obtain ⟨c, P, at_, h, k⟩ := q
  refine ⟨c, _, at_, h, fun W1 H1 v1 x1 f1 o1 r1 ⟨a, e1, q1⟩ => ?_⟩
  subst e1
  obtain rfl := rp_str r1
  refine ⟨⟨a, rfl⟩, ⟨{ c with W := W1 }, _, at_.frm f1 o1, q1, fun W2 H2 v2 x2 f2 o2 r2 ⟨b, e2, hb, hz, q2⟩ => ?_⟩⟩
  subst e2
  obtain rfl := rp_str r2
  exact ⟨a, b, rfl, rfl, hb, szl (by omega), fun p n => newL (f1.trans f2) o2 rpl_strs' q2 k p _ n (same_new n) upd_same⟩
theorem ls_asgL {ps : List Pt} {a : DE} (q : liftS K C E (dAsgL ps a) D σ H) : tAsg (liftE K C E a) (gLst K ps.length (gsOf K ps)) D σ H := by
  obtain ⟨c, DD, at_, en, h⟩ := q
  refine ⟨c, _, at_, h, fun W1 H1 v x f o r ⟨xs, e, q1⟩ => ?_⟩
  subst e
  obtain ⟨p, vs, rfl, hs, rs⟩ := rp_lst r
  have hl : ps.length = xs.length := (bindDs_len ps q1).1
  exact ⟨p, vs, rfl, sql (o.sF _ _ hs), by rw [rs.length, ← hl], binds_run (c := { c with W := W1 }) ps (at_.frm f o) rs q1 fun ρ' σ' at' _ n _ => en.nx W1 ρ' σ' H1 at' n⟩
end
section
variable {X : Cx} {C : Ec} {E : XK} {o e : Expr} {do_ de : DE}
theorem ejoin (h : PE X e (tM1 (rJoinS X.K) (liftE X.K C E do_) (liftE X.K C E de))) : PE X e (liftE X.K C E (dJoin do_ de)) := PE.imp h fun _ _ _ => le_join
theorem pgnm {i : Nat} (h : PG X e (gName i)) : PG X e (gOf X.K (.nm i)) := by unfold gOf; exact h
theorem pgnil : PGs X [] (gsOf X.K []) := by unfold gsOf; exact pgs_nil
theorem pgcons {es : List Expr} {p : Pt} {ps : List Pt} (h1 : PG X e (gOf X.K p)) (h2 : PGs X es (gsOf X.K ps)) (hs : (assignEach (e :: es) X.env).map (·.2) = assign e X.env :: (assignEach es X.env).map (·.2) := by rfl) : PGs X (e :: es) (gsOf X.K (p :: ps)) := by
  unfold gsOf; exact pgs_cons h1 h2 hs
theorem pgtup {es : List Expr} {k : Nat} {ps : List Pt} {pos : Pos} (hc : X.calm = true) (h : PGs X es (gsOf X.K ps)) (hn : (assignEach es X.env).length = ps.length := by rfl) (hst : (assignEach es X.env).findIdx? (·.1) = none := by rfl) : PG X (.Tuple es k pos) (gOf X.K (.tp ps)) := by
  unfold gOf; exact pg_tup hc h hn hst
theorem pglst {es : List Expr} {k : Nat} {ps : List Pt} {pos : Pos} (hc : X.calm = true) (h : PGs X es (gsOf X.K ps)) (hn : (assignEach es X.env).length = ps.length := by rfl) (hst : (assignEach es X.env).findIdx? (·.1) = none := by rfl) : PG X (.Tuple es k pos) (gLst X.K ps.length (gsOf X.K ps)) := pg_lst hc h hn hst
theorem tdin {t t' : TE} (h : PT X e (tB t)) (i : ∀ σ H Q, t' σ H Q → t σ H Q) : PT X e (tB t') := PT.imp h fun σ H Q q => i σ H _ q
theorem nsplit (h : PE X e (tM1 rSplitS (liftE X.K C E do_) (liftE X.K C E de))) : PE X e (liftN X.K C E (dSplit do_ de)) := PE.imp h fun _ _ _ => le_split
end
end Dx
end
section
/-! great numbers: isqrt up to 450 digits of 30 bits, divmod by great powers; sums and differences of any sign -/
namespace L2
open PySem PySem.Spec PyProof.Rows RT Sx
variable {X : Cx}
def rIsqrtW : List V → Hp → VK → Prop := fun vs H Q => ∃ a : Nat, vs = [natV a] ∧ a.log2 < 13500 ∧ Q (natV (Float64.isqrt a)) H
theorem cr_isqrtW : CallR X (.builtin "math.isqrt") rIsqrtW := fun pins s σ H vs us Q I r ⟨a, e, hz, q⟩ => by
  subst e
  obtain ⟨u, rfl, t, rfl⟩ := vals1 r
  have hn : ((a : Nat) : Int).toNat = a := Int.toNat_natCast a
  exact PySem.call_function_meets PySem.W.MGF.kind_isqrt PySem.W.MGF.plain_isqrt PySem.W.MGF.entry_isqrt (PySem.W.MGF.args_isqrt _) (PySem.W.mg_run_isqrt (a : Int) t (by omega) (by rw [hn]; omega) (by rw [hn]; omega)).meets ⟨natV (Float64.isqrt a), H, I.tok _, ⟨_, by rw [hn]⟩, q⟩
end L2
namespace Dx
open PySem L2 RT Sx
variable {K : PySem.W.Frag}
def dIsqrtw : DL := fun xs P => ∃ a : Nat, xs = [nat a] ∧ a.log2 < 13500 ∧ P (nat (Float64.isqrt a))
theorem o_isqrtw : OpL K rIsqrtW dIsqrtw := fun W H vs xs P Q o r ⟨a, e, hz, q⟩ k => by
  subst e
  obtain ⟨v, rfl, r1⟩ := rpl1 r
  exact ⟨a, by rw [rp_int r1]; rfl, hz, k W H _ _ (Frm.refl _ _) o (.int _) q⟩
section
variable {P : Dt → Prop} {m n : Nat} {i j : Int}
theorem d_addI (q : P (.int (i + j))) : dAdd (.int i) (.int j) P := ⟨i, j, rfl, rfl, trivial, q⟩
theorem d_subZ (q : P (.int (i - j))) : dSub (.int i) (.int j) P := ⟨i, j, rfl, rfl, trivial, q⟩
theorem d_fdI (h : 0 < n) (h2 : n < 2 ^ 250) (q : P (.int (i / (n : Int)))) : dFd (.int i) (nat n) P := ⟨i, n, rfl, rfl, wide_div (b := 250) (by omega) (by simpa using h2) (by decide) (by decide), q⟩
theorem d_mdZ (h : 0 < n) (q : P (nat (i % (n : Int)).toNat)) : dMd (.int i) (nat n) P := ⟨i, n, rfl, rfl, by show (0 : Int) < (n : Int); omega, by
  have h0 : 0 ≤ i % (n : Int) := Int.emod_nonneg _ (by omega)
  exact cast_int (by omega) q⟩
theorem noPylong2 {x y : Int} (h0 : x ≠ 0) (h1 : y ≠ 0) (h : x.natAbs.log2 < y.natAbs.log2 + 4500) : Builtin.divisionGoesByPylong x y = false := by
  show (decide ((if y == 0 then 0 else y.natAbs.log2 / 30 + 1) > 300) && decide ((if x == 0 then 0 else x.natAbs.log2 / 30 + 1) > (if y == 0 then 0 else y.natAbs.log2 / 30 + 1) + 150)) = false
  rw [if_neg (show ¬ (y == 0) = true by simpa using h1), if_neg (show ¬ (x == 0) = true by simpa using h0)]
  rw [decide_eq_false (p := x.natAbs.log2 / 30 + 1 > y.natAbs.log2 / 30 + 1 + 150) (by omega), Bool.and_false]
theorem d_divmodW (h : 0 < n) (h2 : n.log2 < 9000 ∨ m.log2 < n.log2 + 4500) (q : P (.tup [nat (m / n), nat (m % n)])) : dDivmod [nat m, nat n] P := by
  rcases h2 with h2 | h2
  · exact d_divmod h h2 q
  · rcases Nat.eq_zero_or_pos m with rfl | hm
    · refine ⟨((0 : Nat) : Int), n, rfl, ⟨by omega, ?_⟩, by rw [← Int.natCast_ediv, ← Int.natCast_emod]; exact q⟩
      show (decide ((if (n : Int) == 0 then 0 else (n : Int).natAbs.log2 / 30 + 1) > 300) && decide (0 > (if (n : Int) == 0 then 0 else (n : Int).natAbs.log2 / 30 + 1) + 150)) = false
      rw [decide_eq_false (p := 0 > _) (by omega), Bool.and_false]
    · exact ⟨m, n, rfl, ⟨by omega, noPylong2 (by omega) (by omega) (by rw [Int.natAbs_natCast, Int.natAbs_natCast]; exact h2)⟩, by rw [← Int.natCast_ediv, ← Int.natCast_emod]; exact q⟩
end
end Dx
end
section
/-! // of ints of any size: by the library, where no one watches -/
namespace L2
open PySem PySem.Spec PyProof.Rows
/-- what the long division asks of a heap: no _pylong among the modules, and what __builtins__ names -/
structure SeerH (h : Heap) : Prop where
  mods : ∃ mm, h.Ns sysModules mm ∧ mm "_pylong" = none
  main : ∃ (mg : Str → Option Value) (bm : Addr) (ob : Obj), h.Ns mainGlobals mg ∧ mg "__builtins__" = some (.ref bm) ∧ h.get? bm = some ob ∧ ob.cls = .type "module" ∧ ob.dict = some PySem.builtinsNs
structure SeerK (P : Program) (K : PySem.W.Frag) (base : Heap) : Prop where
  tree : P.given.tree = none
  aud : PySem.W.nsIn K PySem.cStatics "sys.audit-hooks" = some none
  dic : PySem.W.nsIn K PySem.cStatics "sys.dict" = some none
  sh : SeerH base
/-- from a written part that holds both -/
theorem seerH_of {K : PySem.W.Frag} {h : Heap} {mg : Str → Option Value} {bm : Addr} {ob : Obj} (X : K.In h) (G : h.Ns mainGlobals mg) (pok : PySem.W.nsOkIn K PySem.sysModules = true) (pyl : PySem.W.nsIn K PySem.sysModules "_pylong" = some none)
    (h1 : mg "__builtins__" = some (.ref bm)) (h2 : K.lookup bm = some ob) (h3 : ob.cls = .type "module") (h4 : ob.dict = some PySem.builtinsNs) : SeerH h where
  mods := ⟨_, .of_isNs (PySem.W.isNs_of_in X pok), PySem.W.nsMap_none_of_in X pok pyl⟩
  main := ⟨mg, bm, ob, G, h1, X _ _ h2, h3, h4⟩
def CDivR (_ j : Int) : Prop := 0 < j
abbrev rFdR : R2 := rI CDivR fun i j => .int (i / j)
section
variable {X : Cx} {k : Nat}
theorem seer_of {pins : List (Addr × Obj)} {σ : St} {H : Hp} {s : Shared} (S : SeerK X.prog X.K X.base) (I : Inv X pins σ H s) : s.heap.NoSeer where
  statics := by
    obtain ⟨mc, h, _⟩ := I.nolimit
    have kin : X.K.In s.heap := I.mod.kin.keeps I.bk
    exact ⟨mc, h, PySem.W.ns_none_of kin h S.aud, PySem.W.ns_none_of kin h S.dic⟩
  mods := let ⟨mm, a, b⟩ := S.sh.mods; ⟨mm, a.keepsP I.bk, b⟩
  imp := by
    obtain ⟨mb, h, hb⟩ := I.mod.blt
    exact ⟨mb, h.keepsP I.bk, hb⟩
  main := let ⟨mg, bm, ob, a, b, c, d, e⟩ := S.sh.main; ⟨mg, bm, ob, a.keepsP I.bk, b, I.bk _ _ c, d, e⟩
theorem op_fdP (S : SeerK X.prog X.K X.base) (hr : Room k X.A) (hk : 32 ≤ k := by decide) (hs : X.stack = X.env :: X.outer := by rfl) (hg : X.env.scope.isGenerator = false := by rfl) (hc : X.env.scope.isCoroutine = false := by rfl) : OpR X (binaryOp .FloorDiv) rFdR := by
  intro pins s σ H x y v u Q I rx ry h
  obtain ⟨i, j, rfl, rfl, hp, q⟩ := h
  obtain ⟨t, rfl⟩ := rx
  obtain ⟨t', rfl⟩ := ry
  have h1 : (0 : Int) < j := hp
  have room : PylongRoom (model X.prog X.w) X.A s := PylongRoom.of I.nolimit (by
    have := hr.dp
    show X.A.depth + 100 < 1000
    have e : recursionLimit = 1000 := rfl
    omega) (SeerAt.of (env := X.env) (l := X.outer) (seer_of S I) S.tree (by rw [I.ok.frames, hs]) hg hc I.ok.blt I.ok.glob)
  exact floordiv_int (by omega) ⟨.int (i / j), H, I.tok _, ⟨_, by rw [Int.fdiv_eq_ediv_of_nonneg i (by omega)]⟩, q⟩ (.inr room)
/-- where a frame of plain code runs -/
def Plain (X : Cx) : Prop := ∃ e l, X.stack = e :: l ∧ e.scope.isGenerator = false ∧ e.scope.isCoroutine = false ∧ e.builtins = builtinsNs ∧ e.globals = mainGlobals
theorem room_of {pins : List (Addr × Obj)} {σ : St} {H : Hp} {s : Shared} (S : SeerK X.prog X.K X.base) (hd : X.A.depth + 100 < recursionLimit) (hp : Plain X) (I : Inv X pins σ H s) : PylongRoom (model X.prog X.w) X.A s := by
  obtain ⟨e, l, h1, h2, h3, h4, h5⟩ := hp
  exact PylongRoom.of I.nolimit hd (SeerAt.of (env := e) (l := l) (seer_of S I) S.tree (by rw [I.ok.frames, h1]) h2 h3 h4 h5)
def rDivmodR : List V → Hp → VK → Prop := fun xs H Q => ∃ i j, xs = [.int i, .int j] ∧ CDivR i j ∧ ∀ p, H p = none → Q (.ref p) (upd H p (.tup [.int (i / j), .int (i % j)]))
theorem call_divmodR (S : SeerK X.prog X.K X.base) (hd : X.A.depth + 100 < recursionLimit) (hp : Plain X := by exact ⟨_, _, rfl, rfl, rfl, rfl, rfl⟩) : CallR X (.builtin "divmod") rDivmodR := by
  intro pins s σ H xs us Q I r ⟨i, j, ex, hj, q⟩
  subst ex
  have j0 : (0 : Int) < j := hj
  obtain ⟨v1, v2, eu, r1, r2⟩ := vals2 r
  obtain ⟨t1, e1⟩ := r1
  obtain ⟨t2, e2⟩ := r2
  subst eu e1 e2
  have new : H s.heap.objs.size = none := I.hok.fresh (Nat.le_refl _)
  have d1 : i.fdiv j = i / j := Int.fdiv_eq_ediv_of_nonneg i (Int.le_of_lt j0)
  have d2 : i.fmod j = i % j := Int.fmod_eq_emod_of_nonneg i (Int.le_of_lt j0)
  refine divmod_int (Int.ne_of_gt j0) ?_ (Or.inr (room_of S hd hp I))
  refine ⟨.ref s.heap.objs.size, _, ?_, rfl, q _ new⟩
  have sz : [V.int (i / j), .int (i % j)].length ≤ sizeLine := by rw [sizeLine_eq]; exact (by decide : 2 ≤ 16777216)
  refine I.laid (fun b o e => Heap.get?_push_of_some _ e) (Nat.le_refl _) ⟨sz, [.int (i / j) s.toks, .int (i % j) (s.toks + 1)], .cons ⟨s.toks, rfl⟩ (.cons ⟨s.toks + 1, rfl⟩ .nil), ⟨_, Heap.get?_push_size s.heap rfl, rfl, 0, ?_⟩⟩
  rw [d1, d2]
end
end L2
end
section
/-! // of ints of any size -/
namespace Dx
open PySem L2 RT Sx
abbrev dFdP : D2 := dI CDivR fun i j => .int (i / j)
section
variable {K : PySem.W.Frag}
theorem o_fdP : Op2 K rFdR dFdP := o_rI fun i j _ => .int _
end
theorem d_fdP {m n : Nat} {P : Dt → Prop} (h : 0 < n) (q : P (nat (m / n))) : dFdP (nat m) (nat n) P := ⟨m, n, rfl, rfl, by show (0 : Int) < n; omega, cast_int (Int.natCast_ediv m n) q⟩
def dDivmodR : DL := fun xs P => ∃ i j, xs = [.int i, .int j] ∧ CDivR i j ∧ P (.tup [.int (i / j), .int (i % j)])
theorem o_divmodR {K : PySem.W.Frag} : OpL K rDivmodR dDivmodR := fun W H vs xs P Q o r ⟨i, j, e, hc, q⟩ k => by
  subst e
  obtain ⟨v, w, rfl, r1, r2⟩ := rpl2 r
  exact ⟨i, j, by rw [rp_int r1, rp_int r2], hc, fun p n => k _ _ _ _ (Frm.kept o n) (o.kept n) (.tup keep_at (.cons (.int _) (.cons (.int _) .nil))) q⟩
theorem d_divmodR {m n : Nat} {P : Dt → Prop} (h : 0 < n) (q : P (.tup [nat (m / n), nat (m % n)])) : dDivmodR [nat m, nat n] P := ⟨m, n, rfl, by show (0 : Int) < n; omega, by rw [← Int.natCast_ediv, ← Int.natCast_emod]; exact q⟩
theorem hd100 {k : Nat} {A : Around} (hr : Room k A) (hk : 32 ≤ k) : A.depth + 100 < recursionLimit := by
  have := hr.dp
  have e : recursionLimit = 1000 := rfl
  omega
end Dx
end
section
/-! what the program's rows module does, over data -/
open PySem L2 RT Sx Dx
local macro_rules | `(tactic| walk_at "d") => `(tactic| first
  | ((with_reducible refine' d_var ?k1 ?_); (case k1 => rfl))
  | with_reducible refine' d_c ?_
  | with_reducible refine' d_op ?_
  | with_reducible refine' d_cons ?_
  | with_reducible refine' d_nil ?_
  | with_reducible refine' d_seq ?_
  | ((with_reducible refine' d_asg1 ?_); try dsimp -proj only [List.set_cons_zero, List.set_cons_succ])
  | with_reducible refine' d_asg ?_
  | with_reducible refine' d_cb ?_
  | ((with_reducible refine' d_asgN ?_); try dsimp -proj only [List.set_cons_zero, List.set_cons_succ])
  | ((with_reducible refine' d_bnm ?_); try dsimp -proj only [List.set_cons_zero, List.set_cons_succ])
  | with_reducible refine' d_btp ?_
  | with_reducible refine' d_bcons ?_
  | with_reducible refine' d_bnil ?_
  | ((with_reducible refine' d_slO ?k1 ?_); (case k1 => rfl))
  | ((with_reducible refine' d_lenO ?k1 ?_); (case k1 => rfl))
  | ((with_reducible refine' d_ixO ?k1 ?_); (case k1 => rfl))
  | ((with_reducible refine' d_app ?k1 ?_); (case k1 => rfl))
  | ((with_reducible refine' d_frz ?k1 ?_); (case k1 => rfl); try dsimp -proj only [List.set_cons_zero, List.set_cons_succ, frzS])
  | with_reducible refine' d_lnil ?_
  | with_reducible refine' d_lcons ?_
  | with_reducible refine' d_gcd ?_
  | ((with_reducible refine' d_revO ?k1 ?_); (case k1 => rfl))
  | with_reducible refine' d_revL ?_
  | with_reducible refine' d_rev ?_
  | with_reducible refine' d_exrevL ?_
  | with_reducible refine' d_exrevT ?_
  | with_reducible refine' d_lc ?_
  | with_reducible refine' d_rng1 ?_
  | with_reducible refine' d_rng2 ?_
  | ((with_reducible refine' d_exrng ?k1 ?_); (case k1 => omega))
  | ((with_reducible refine' d_exrng2 ?k1 ?k2 ?_); (case k1 => omega); (case k2 => omega))
  | ((with_reducible refine' d_sz ?k1 ?_); (case k1 => simp; done))
  | with_reducible refine' d_tupQ ?_
  | with_reducible refine' d_lstQ ?_
  | with_reducible refine' d_callX ?_
  | with_reducible refine' d_call0 ?_
  | with_reducible refine' d_ifS ?_
  | with_reducible refine' d_B ?_
  | with_reducible refine' d_exbl ?_
  | with_reducible refine' d_ret ?_
  | with_reducible refine' d_drop ?_
  | with_reducible refine' d_next ?_
  | with_reducible refine' d_chain ?_
  | with_reducible refine' d_and ?_
  | with_reducible refine' d_or ?_
  | with_reducible refine' d_not ?_
  | with_reducible refine' d_andV ?_
  | with_reducible refine' d_orV ?_
  | with_reducible refine' d_notV ?_
  | with_reducible refine' d_if ?_
  | with_reducible refine' d_un ?_
  | with_reducible refine' d_fz ?_
  | with_reducible refine' d_addN ?_
  | ((with_reducible refine' d_subN ?k1 ?_); (case k1 => omega))
  | ((with_reducible refine' d_mdN ?k1 ?_); (case k1 => omega))
  | ((with_reducible refine' d_fdN ?k1 ?k2 ?_); (case k1 => omega); (case k2 => omega))
  | ((with_reducible refine' d_mulL ?k1 ?k2 ?_); (case k1 => omega); (case k2 => omega))
  | with_reducible refine' d_ltN ?_
  | with_reducible refine' d_leN ?_
  | with_reducible refine' d_gtN ?_
  | with_reducible refine' d_geN ?_
  | with_reducible refine' d_eqN ?_
  | with_reducible refine' d_neN ?_
  | with_reducible refine' d_negN ?_
  | with_reducible refine' d_bit ?_
  | ((with_reducible refine' d_lenT ?_); try rw [List.length_map])
  | ((with_reducible refine' d_lenL ?_); try rw [List.length_map])
  | ((with_reducible refine' d_aug ?k1 ?_); (case k1 => rfl))
  | with_reducible refine' d_slT ?_
  | with_reducible refine' d_slL ?_
  | with_reducible refine' d_exsT ?_
  | with_reducible refine' d_exsL ?_
  | with_reducible refine' d_nopart ?_
  | with_reducible refine' dw_part ?_
  | with_reducible refine' d_exint ?_
  | with_reducible refine' d_yes1 ?_
  | with_reducible refine' d_itT ?_
  | with_reducible refine' d_itL ?_
  | with_reducible refine' d_itK ?_
  | with_reducible refine' d_exsK ?_
  | with_reducible refine' d_for ?_
  | with_reducible refine' d_tupL ?_
  | with_reducible refine' d_tupT ?_
  | with_reducible refine' i_iteT ?_
  | with_reducible refine' i_iteNT ?_
  | with_reducible refine' i_iteNF ?_
  | with_reducible refine' i_iteF ?_
  | ((with_reducible refine' i_yes ?k1 ?_); (case k1 => omega))
  | ((with_reducible refine' i_nay ?k1 ?_); (case k1 => omega))
  | ((with_reducible refine' i_yesN ?k1 ?_); (case k1 => omega))
  | ((with_reducible refine' i_nayN ?k1 ?_); (case k1 => omega)))
local macro_rules | `(tactic| walk_at "dgo") => `(tactic| (repeat walk_at "d"; try dsimp -proj only [List.set_cons_zero, List.set_cons_succ]))
namespace Dx
/-- figures of a row of any length -/
def longB (r : List Int) : Bool := !r.isEmpty && r.all (fun d => decide (0 ≤ d) && decide (d ≤ 59)) && r[0]? != some 0 && r.getLast? != some 0
def rowB (r : List Int) : Bool := decide (r.length ≤ 12) && longB r
structure LongRow (r : List Nat) : Prop where
  ne : r ≠ []
  fig : ∀ d ∈ r, d < 60
  hd : r[0]? ≠ some 0
  last : r.getLast? ≠ some 0
theorem IsRow.long {r : List Nat} (h : IsRow r) : LongRow r := ⟨row_ne h, h.fig, h.hd, h.last⟩
theorem longB_iff {r : List Int} : longB r = true ↔ ∃ n : List Nat, LongRow n ∧ r = n.map fun k : Nat => (k : Int) := by
  constructor
  · intro h
    unfold longB at h
    simp only [Bool.and_eq_true, Bool.not_eq_true', List.isEmpty_eq_false_iff, List.all_eq_true, decide_eq_true_eq, bne_iff_ne, ne_eq] at h
    obtain ⟨⟨⟨h1, h2⟩, h3⟩, h4⟩ := h
    have e : r = (r.map Int.toNat).map fun k : Nat => (k : Int) := by
      rw [List.map_map]
      conv => lhs; rw [← List.map_id r]
      refine List.map_congr_left fun x hx => ?_
      have := h2 x hx
      simp
      omega
    refine ⟨r.map Int.toNat, ⟨by simpa using h1, fun d hd => ?_, fun z => h3 ?_, fun z => h4 ?_⟩, e⟩
    · obtain ⟨x, hx, rfl⟩ := List.mem_map.mp hd
      have := h2 x hx
      omega
    · rw [e, List.getElem?_map, z]; rfl
    · rw [e, List.getLast?_map, z]; rfl
  · rintro ⟨n, h, rfl⟩
    unfold longB
    simp only [Bool.and_eq_true, Bool.not_eq_true', List.isEmpty_eq_false_iff, List.all_eq_true, decide_eq_true_eq, bne_iff_ne, ne_eq]
    refine ⟨⟨⟨by simpa using h.ne, fun x hx => ?_⟩, fun z => h.hd ?_⟩, fun z => h.last ?_⟩
    · obtain ⟨k, hk, rfl⟩ := List.mem_map.mp hx
      have := h.fig k hk
      omega
    · rw [List.getElem?_map] at z
      cases e : n[0]? with
      | none => rw [e] at z; cases z
      | some k => rw [e] at z; have : (k : Int) = 0 := Option.some.inj z; congr 1; omega
    · rw [List.getLast?_map] at z
      cases e : n.getLast? with
      | none => rw [e] at z; cases z
      | some k => rw [e] at z; have : (k : Int) = 0 := Option.some.inj z; congr 1; omega
theorem rowB_iff {r : List Int} : rowB r = true ↔ ∃ n : List Nat, IsRow n ∧ r = n.map fun k : Nat => (k : Int) := by
  unfold rowB
  rw [Bool.and_eq_true, longB_iff, decide_eq_true_eq]
  constructor
  · rintro ⟨h, n, l, rfl⟩
    rw [List.length_map] at h
    exact ⟨n, ⟨⟨List.length_pos_iff.mpr l.ne, h⟩, l.fig, l.hd, l.last⟩, rfl⟩
  · rintro ⟨n, i, rfl⟩
    exact ⟨by rw [List.length_map]; exact i.len.2, n, IsRow.long i, rfl⟩
def sp_is_long_row : DSp := fun xs P _ => ∃ r : List Int, xs = [rowI r] ∧ P (.bl (longB r))
def sp_is_row : DSp := fun xs P _ => ∃ r : List Int, xs = [rowI r] ∧ P (.bl (rowB r))
def sp_check_row : DSp := fun xs P X => (∃ r, IsRow r ∧ xs = [rowD r] ∧ P .non) ∨ ∃ r, rowB r = false ∧ xs = [rowI r] ∧ X 1 []
def sp_number_of : DSp := fun xs P _ => ∃ r : List Nat, xs = [rowD r] ∧ (∀ d ∈ r, d < 60) ∧ r.length ≤ 10000 ∧ P (nat (whole r))
def sp_whole_of : DSp := fun xs P X => (∃ r, IsRow r ∧ xs = [rowD r] ∧ P (nat (whole r))) ∨ ∃ r, rowB r = false ∧ xs = [rowI r] ∧ X 1 []
def sp_figures_of : DSp := fun xs P _ => ∃ n, xs = [nat n] ∧ 0 < n ∧ n.log2 < 50000 ∧ P (rowD (figs n))
def sp_row_of : DSp := fun xs P _ => ∃ n, xs = [nat n] ∧ 0 < n ∧ n.log2 < 50000 ∧ P (rowD (rowOf n))
def sp_times : DSp := fun xs P X => (∃ r s, IsRow r ∧ IsRow s ∧ xs = [rowD r, rowD s] ∧ P (rowD (rowOf (whole r * whole s)))) ∨
  (∃ r y, rowB r = false ∧ xs = [rowI r, y] ∧ X 1 []) ∨ ∃ r s, IsRow r ∧ rowB s = false ∧ xs = [rowD r, rowI s] ∧ X 1 []
def sp_cast : DSp := fun xs P X => (∃ r, IsRow r ∧ xs = [rowD r] ∧ P (nat (r.sum % 59))) ∨ ∃ r, rowB r = false ∧ xs = [rowI r] ∧ X 1 []
def d_is_long_row : DS := (dSeq (dIfS (dOr (dB (dOp dEqS (dCB dLen (dCons (dVar 0) dNil)) (dC (nat 0)))) (dOr (dB (dOp dLt (dCB dMinT (dCons (dVar 0) dNil)) (dC (nat 0)))) (dB (dOp dGt (dCB dMaxT (dCons (dVar 0) dNil)) (dC (nat 59)))))) (dRet (dC (.bl false))) dNext)
  (dRet (dAndV (dOp dNeS (dOp dIxT (dVar 0) (dC (nat 0))) (dC (nat 0))) (dOp dNeS (dOp dIxT (dVar 0) (dUn dNeg (dC (nat 1)))) (dC (nat 0))))))
def d_is_row : DS := (dRet (dAndV (dOp dLe (dCB dLen (dCons (dVar 0) dNil)) (dC (nat 12))) (dCallX sp_is_long_row (dCons (dVar 0) dNil))))
def d_check_row : DS := (dIfS (dNot (dB (dCallX sp_is_row (dCons (dVar 0) dNil)))) (dRaise0 1) dNext)
def d_number_of : DS := (dSeq (dAsg (.nm 1) (dC (nat 0)))
  (dSeq (dFor (dItT (dVar 0)) (.nm 2)
  (dAsg (.nm 1) (dOp dAdd (dOp dMul (dVar 1) (dC (nat 60))) (dVar 2))))
  (dRet (dVar 1))))
def d_whole_of : DS := (dSeq (dDrop (dCallX sp_check_row (dCons (dVar 0) dNil)))
  (dRet (dCallX sp_number_of (dCons (dVar 0) dNil))))
def d_figures_of : DS := (dSeq (dAsgN 1 (dLst (dCons (dC (nat 60)) dNil)))
  (dSeq (dWhile (dB (dOp dLe (dIxO 1 (dUn dNeg (dC (nat 1)))) (dVar 0))) (dApp 1 (dOp dMul (dIxO 1 (dUn dNeg (dC (nat 1)))) (dIxO 1 (dUn dNeg (dC (nat 1)))))))
  (dSeq (dAsg (.nm 2) (dFz (dLst (dCons (dVar 0) dNil))))
  (dSeq (dFor (dRev (dFz (dSlO 1 dNoPart (dPart (dUn dNeg (dC (nat 1))))))) (.nm 3)
  (dAsg (.nm 2) (dFz (dLc2 (dItL (dVar 2)) (.nm 5) dYes (dItT (dCB dDivmodR (dCons (dVar 5) (dCons (dVar 3) dNil)))) (.nm 6) dYes (dVar 6) [5, 6] [6]))))
  (dSeq (dAsg (.nm 4) (dC (nat 0)))
  (dSeq (dWhile (dB (dOp dEqS (dOp dIxL (dVar 2) (dVar 4)) (dC (nat 0)))) (dAug 4 dAdd (dC (nat 1))))
  (dRet (dCB dTupOf (dCons (dFz (dSlL (dVar 2) (dPart (dVar 4)) dNoPart)) dNil)))))))))
def d_row_of : DS := (dSeq (dAsg (.nm 1) (dCallX sp_figures_of (dCons (dVar 0) dNil)))
  (dSeq (dAsg (.nm 2) (dCB dLen (dCons (dVar 1) dNil)))
  (dSeq (dWhile (dB (dOp dEqS (dOp dIxT (dVar 1) (dOp dSub (dVar 2) (dC (nat 1)))) (dC (nat 0)))) (dAug 2 dSub (dC (nat 1))))
  (dRet (dSlT (dVar 1) dNoPart (dPart (dVar 2)))))))
def d_times : DS := (dRet (dCallX sp_row_of (dCons (dOp dMul (dCallX sp_whole_of (dCons (dVar 0) dNil)) (dCallX sp_whole_of (dCons (dVar 1) dNil))) dNil)))
def d_cast : DS := (dSeq (dDrop (dCallX sp_check_row (dCons (dVar 0) dNil)))
  (dRet (dOp dMd (dCB dSumT (dCons (dVar 0) dNil)) (dC (nat 59)))))

section
variable {xs : List Dt} {P : Dt → Prop} {X : DX}
theorem dp_is_long_row (h : sp_is_long_row xs P X) : d_is_long_row (dEnds P) X (startD xs (1 - xs.length)) := by
  obtain ⟨r, rfl, q⟩ := h
  show d_is_long_row (dEnds P) X [.v (.tup (r.map Dt.int))]
  unfold d_is_long_row
  have no : ∀ c : Bool, c = false → longB r = c → P (.bl false) := fun c e h => by rw [h, e] at q; exact q
  walk_at "dgo"
  by_cases h0 : r = []
  · subst h0
    refine i_yes rfl ?_
    walk_at "dgo"
    exact q
  · refine i_nay (by simpa using h0) ?_
    have hp : 0 < r.length := List.length_pos_iff.mpr h0
    walk_at "dgo"
    refine ⟨r, rfl, hp, fun m hm hmin => ?_⟩
    walk_at "dgo"
    refine d_ltI ?_
    walk_at "dgo"
    by_cases h1 : m < ((0 : Nat) : Int)
    · refine i_yes h1 ?_
      walk_at "dgo"
      refine no _ rfl ?_
      cases e : longB r with
      | false => rfl
      | true =>
        obtain ⟨n, ln, rfl⟩ := longB_iff.mp e
        obtain ⟨k, hk, rfl⟩ := List.mem_map.mp hm
        omega
    · refine i_nay h1 ?_
      walk_at "dgo"
      refine ⟨r, rfl, hp, fun M hM hmax => ?_⟩
      walk_at "dgo"
      refine d_gtI ?_
      walk_at "dgo"
      by_cases h2 : ((59 : Nat) : Int) < M
      · refine i_yes h2 ?_
        walk_at "dgo"
        refine no _ rfl ?_
        cases e : longB r with
        | false => rfl
        | true =>
          obtain ⟨n, ln, rfl⟩ := longB_iff.mp e
          obtain ⟨k, hk, rfl⟩ := List.mem_map.mp hM
          have := ln.fig k hk
          omega
      · refine i_nay h2 ?_
        walk_at "dgo"
        obtain ⟨d, hd⟩ : ∃ d, r[0]? = some d := ⟨_, List.getElem?_eq_getElem hp⟩
        obtain ⟨l, hl⟩ : ∃ l, r.getLast? = some l := ⟨_, List.getLast?_eq_getLast h0⟩
        refine d_ixT (z := .int d) (by rw [List.getElem?_map, hd]; rfl) ?_
        walk_at "dgo"
        refine d_neI ?_
        have el : longB r = ((!decide (d = 0)) && !decide (l = 0)) := by
          unfold longB
          have e1 : r.isEmpty = false := by cases r <;> simp_all
          have e2 : r.all (fun d => decide (0 ≤ d) && decide (d ≤ 59)) = true := by
            rw [List.all_eq_true]
            intro x hx
            have := hmin x hx
            have := hmax x hx
            simp only [Bool.and_eq_true, decide_eq_true_eq]
            omega
          rw [e1, e2, hd, hl]
          simp [bne]; rfl
        rw [el] at q
        by_cases h3 : d = ((0 : Nat) : Int)
        · refine ⟨_, rfl, i_nayN h3 ?_⟩
          rw [show decide (d = 0) = true from decide_eq_true h3] at q
          exact q
        · refine ⟨_, rfl, i_yesN h3 ?_⟩
          rw [show decide (d = 0) = false from decide_eq_false h3] at q
          walk_at "dgo"
          refine d_ixTl (z := .int l) (by rw [List.getLast?_map, hl]; rfl) ?_
          walk_at "dgo"
          exact d_neI q
theorem dp_is_row (h : sp_is_row xs P X) : d_is_row (dEnds P) X (startD xs (1 - xs.length)) := by
  obtain ⟨r, rfl, q⟩ := h
  show d_is_row (dEnds P) X [.v (.tup (r.map Dt.int))]
  unfold d_is_row
  walk_at "dgo"
  unfold rowB at q
  by_cases h : r.length ≤ 12
  · rw [decide_eq_true h] at q
    refine i_yes h ?_
    walk_at "dgo"
    exact ⟨r, rfl, q⟩
  · rw [decide_eq_false h] at q
    exact i_nay h q
theorem dp_check_row (h : sp_check_row xs P X) : d_check_row (dEnds P) X (startD xs (1 - xs.length)) := by
  unfold d_check_row
  rcases h with ⟨r, ir, rfl, q⟩ | ⟨r, hr, rfl, q⟩
  · show (dIfS _ _ _) (dEnds P) X [.v (rowD r)]
    walk_at "dgo"
    refine ⟨_, by rw [rowD_I], ?_⟩
    rw [rowB_iff.mpr ⟨r, ir, rfl⟩]
    walk_at "dgo"
    exact q
  · show (dIfS _ _ _) (dEnds P) X [.v (rowI r)]
    walk_at "dgo"
    refine ⟨_, rfl, ?_⟩
    rw [hr]
    walk_at "dgo"
    exact q
theorem dp_number_of (h : sp_number_of xs P X) : d_number_of (dEnds P) X (startD xs (3 - xs.length)) := by
  obtain ⟨r, rfl, h60, hl, q⟩ := h
  show d_number_of (dEnds P) X [.v (.tup (r.map nat)), .un, .un]
  unfold d_number_of
  walk_at "dgo"
  refine d_loop (fun i ρ => ∃ s, ρ = [.v (.tup (r.map nat)), .v (nat (whole (r.take i))), s]) ⟨.un, rfl⟩ ?_ ?_
  · rintro i x ρ N hx ⟨s, rfl⟩ hN
    rw [List.getElem?_map] at hx
    cases e : r[i]? with
    | none => rw [e] at hx; cases hx
    | some d =>
      rw [e] at hx
      obtain rfl := Option.some.inj hx
      walk_at "dgo"
      have hw : whole (r.take i) < 2 ^ (6 * 10000) := Nat.lt_of_lt_of_le (whole_lt (k := 10000) (fun d hd => h60 d (List.mem_of_mem_take hd)) (by rw [List.length_take]; omega)) (pow60_lt _)
      refine d_mulN (q' := 6) hw (by decide) (by decide) (by decide) (by decide) ?_
      walk_at "dgo"
      exact hN _ ⟨_, by rw [whole_take e]⟩
  · rintro ρ ⟨s, rfl⟩
    rw [List.length_map, List.take_length]
    walk_at "dgo"
    exact q
theorem dp_whole_of (h : sp_whole_of xs P X) : d_whole_of (dEnds P) X (startD xs (1 - xs.length)) := by
  unfold d_whole_of
  rcases h with ⟨r, ir, rfl, q⟩ | ⟨r, hr, rfl, q⟩
  · show (dSeq _ _) (dEnds P) X [.v (rowD r)]
    walk_at "dgo"
    refine .inl ⟨r, ir, rfl, ?_⟩
    walk_at "dgo"
    exact ⟨r, rfl, ir.fig, by have := ir.len.2; omega, q⟩
  · show (dSeq _ _) (dEnds P) X [.v (rowI r)]
    walk_at "dgo"
    exact .inr ⟨r, hr, rfl, q⟩
theorem dp_cast (h : sp_cast xs P X) : d_cast (dEnds P) X (startD xs (1 - xs.length)) := by
  unfold d_cast
  rcases h with ⟨r, ir, rfl, q⟩ | ⟨r, hr, rfl, q⟩
  · show (dSeq _ _) (dEnds P) X [.v (rowD r)]
    walk_at "dgo"
    refine .inl ⟨r, ir, rfl, ?_⟩
    walk_at "dgo"
    refine ⟨_, by rw [rowD_I]; rfl, ?_⟩
    rw [sum_cast]
    walk_at "dgo"
    exact q
  · show (dSeq _ _) (dEnds P) X [.v (rowI r)]
    walk_at "dgo"
    exact .inr ⟨r, hr, rfl, q⟩
/-! figures by halves of halves -/
def wholeB (B : Nat) (l : List Nat) : Nat := l.foldl (fun a d => a * B + d) 0
theorem wholeB_acc (B : Nat) : ∀ (l : List Nat) (a : Nat), l.foldl (fun a d => a * B + d) a = a * B ^ l.length + wholeB B l
  | [], a => by simp [wholeB]
  | d :: l, a => by
    unfold wholeB
    rw [List.foldl_cons, List.foldl_cons, wholeB_acc B l (a * B + d), wholeB_acc B l (0 * B + d), List.length_cons, Nat.pow_succ, Nat.zero_mul, Nat.zero_add, Nat.add_mul]
    unfold wholeB
    rw [Nat.mul_assoc, Nat.mul_comm (B ^ l.length)]
    omega
theorem wholeB_split {B : Nat} (hB : 0 < B) : ∀ l : List Nat, wholeB B (l.flatMap fun p => [p / B, p % B]) = wholeB (B * B) l := by
  intro l
  have key : ∀ (l : List Nat) (a : Nat), (l.flatMap fun p => [p / B, p % B]).foldl (fun a d => a * B + d) a = l.foldl (fun a d => a * (B * B) + d) a := by
    intro l
    induction l with
    | nil => intro a; rfl
    | cons p l ih =>
      intro a
      rw [List.flatMap_cons, List.cons_append, List.cons_append, List.nil_append, List.foldl_cons, List.foldl_cons, ih, List.foldl_cons]
      congr 1
      have := Nat.div_add_mod p B
      rw [Nat.add_mul, Nat.mul_assoc, Nat.add_assoc]
      congr 1
      rw [Nat.mul_comm (p / B)]; exact this
  exact key l 0
theorem wholeB_60 (l : List Nat) : wholeB 60 l = whole l := rfl
/-- the powers: sixty, squared and squared -/
def pw (i : Nat) : Nat := 60 ^ 2 ^ i
theorem pw_succ (i : Nat) : pw (i + 1) = pw i * pw i := by unfold pw; rw [Nat.pow_succ, Nat.pow_mul, Nat.pow_two]
theorem pw_pos (i : Nat) : 0 < pw i := Nat.pos_of_ne_zero (by unfold pw; simp)
theorem pw_lt (i : Nat) : pw i < pw (i + 1) := by
  rw [pw_succ]
  have h : 2 ≤ pw i := by
    unfold pw
    calc 2 ≤ 60 ^ 1 := by decide
      _ ≤ 60 ^ 2 ^ i := Nat.pow_le_pow_right (by decide) (Nat.pos_of_ne_zero (by simp))
  calc pw i < pw i * 2 := by have := pw_pos i; omega
    _ ≤ pw i * pw i := Nat.mul_le_mul_left _ h
theorem pw_gt (i : Nat) : i < pw i := by
  induction i with
  | zero => exact pw_pos 0
  | succ i ih => have := pw_lt i; omega
theorem getLast_range (n : Nat) : ((List.range (n + 1)).map fun i => nat (pw i)).getLast? = some (nat (pw n)) := by
  rw [List.range_succ, List.map_append]; simp
theorem dropLast_range (n : Nat) : ((List.range (n + 1)).map fun i => nat (pw i)).dropLast = (List.range n).map fun i => nat (pw i) := by
  rw [List.range_succ, List.map_append]; simp
theorem log2_le {m n : Nat} (h : m ≤ n) : m.log2 ≤ n.log2 := by
  rcases Nat.eq_zero_or_pos m with rfl | hm
  · simp
  · exact (Nat.le_log2 (by omega)).mpr (Nat.le_trans (Nat.log2_self_le (by omega)) h)
theorem log2_mul_lt {m n k : Nat} (hm : m.log2 < k) (hn : n.log2 < k) : (m * n).log2 < 2 * k := by
  have h1 : m < 2 ^ k := by
    rcases Nat.eq_zero_or_pos m with rfl | h
    · exact Nat.pos_of_ne_zero (by simp)
    · exact (Nat.log2_lt (by omega)).mp hm
  have h2 : n < 2 ^ k := by
    rcases Nat.eq_zero_or_pos n with rfl | h
    · exact Nat.pos_of_ne_zero (by simp)
    · exact (Nat.log2_lt (by omega)).mp hn
  refine log2_lt ?_ (by omega)
  rw [Nat.two_mul, Nat.pow_add]
  exact Nat.mul_lt_mul'' h1 h2
theorem whole_dropZ {l : List Nat} {j : Nat} (h : ∀ i, i < j → l[i]? = some 0) (hj : j ≤ l.length) : whole (l.drop j) = whole l := by
  have e : l.take j = List.replicate j 0 := by
    refine List.ext_getElem? fun i => ?_
    by_cases hi : i < j
    · rw [List.getElem?_take_of_lt hi, h i hi, List.getElem?_replicate, if_pos hi]
    · rw [List.getElem?_eq_none (by rw [List.length_take]; omega), List.getElem?_eq_none (by simp; omega)]
  have z : ∀ j, wholeB 60 (List.replicate j 0) = 0 := by
    intro j
    induction j with
    | zero => rfl
    | succ j ih =>
      show (List.replicate (j + 1) 0).foldl (fun a d => a * 60 + d) 0 = 0
      rw [List.replicate_succ, List.foldl_cons]; exact ih
  conv => rhs; rw [← List.take_append_drop j l]
  rw [e]
  show _ = (List.replicate j 0 ++ l.drop j).foldl (fun a d => a * 60 + d) 0
  rw [List.foldl_append, wholeB_acc]
  have := z j
  unfold wholeB at this
  rw [this]
  rw [Nat.zero_mul, Nat.zero_add]; rfl
theorem two_le_pw (i : Nat) : 2 ^ (5 * 2 ^ i) ≤ pw i := by
  unfold pw
  rw [Nat.pow_mul]
  exact Nat.pow_le_pow_left (by decide) _
theorem wholeB_mem {B : Nat} (hB : 0 < B) : ∀ (l : List Nat) (a : Nat), a ≤ l.foldl (fun a d => a * B + d) a ∧ ∀ d ∈ l, d ≤ l.foldl (fun a d => a * B + d) a
  | [], a => ⟨Nat.le_refl _, fun d h => by cases h⟩
  | x :: l, a => by
    have ih := wholeB_mem hB l (a * B + x)
    have h1 : a ≤ a * B := Nat.le_mul_of_pos_right a hB
    rw [List.foldl_cons]
    refine ⟨by omega, fun d hd => ?_⟩
    rcases List.mem_cons.mp hd with rfl | hd
    · omega
    · exact ih.2 d hd
theorem pw_ge2 (i : Nat) : 2 ^ (11 * 2 ^ i) ≤ pw (i + 1) := by
  unfold pw
  rw [Nat.pow_succ, Nat.mul_comm (2 ^ i), Nat.pow_mul, Nat.pow_mul]
  exact Nat.pow_le_pow_left (by decide) _
theorem pw_small {n i : Nat} (h : pw i ≤ n) (hz : n.log2 < 50000) : 2 ^ i < 10000 := by
  have h1 := Nat.le_trans (two_le_pw i) h
  have h0 : n ≠ 0 := by have := pw_pos i; omega
  have h2 := (Nat.le_log2 h0).mpr h1
  omega
theorem flat_nat {B : Nat} (l : List Nat) : ((l.map nat).flatMap fun x => match x with | .int z => [nat (z.toNat / B), nat (z.toNat % B)] | _ => []) = (l.flatMap fun p => [p / B, p % B]).map nat := by
  induction l with
  | nil => rfl
  | cons a l ih =>
    rw [List.map_cons, List.flatMap_cons, List.flatMap_cons, ih, List.map_append]
    rfl
theorem flat2_len {B : Nat} (l : List Nat) : (l.flatMap fun p => [p / B, p % B]).length = l.length * 2 := by
  induction l with
  | nil => rfl
  | cons a l ih => rw [List.flatMap_cons, List.length_append, ih, List.length_cons]; simp; omega
theorem rev_range_get {k i : Nat} {x : Dt} (h : (((List.range k).map fun i => nat (pw i)).reverse)[i]? = some x) : i < k ∧ x = nat (pw (k - 1 - i)) := by
  have hi : i < k := by
    have := (List.getElem?_eq_some_iff.mp h).1
    simpa using this
  rw [List.getElem?_reverse (by simpa using hi), List.getElem?_map, List.length_map, List.length_range, List.getElem?_range (by omega)] at h
  exact ⟨hi, (Option.some.inj h).symm⟩
theorem dp_figures_of (h : sp_figures_of xs P X) : d_figures_of (dEnds P) X (startD xs (7 - xs.length)) := by
  obtain ⟨n, rfl, hn, hz, q⟩ := h
  show d_figures_of (dEnds P) X [.v (nat n), .un, .un, .un, .un, .un, .un]
  unfold d_figures_of
  walk_at "dgo"
  refine d_while (fun m ρ => ∃ k, m + k = n ∧ (k = 0 ∨ pw (k - 1) ≤ n) ∧ ρ = [.v (nat n), .ol ((List.range (k + 1)).map fun i => nat (pw i)), .un, .un, .un, .un, .un]) n ⟨0, rfl, .inl rfl, rfl⟩ ?_
  rintro m ρ N ⟨k, hm, hk, rfl⟩ hN
  have hk2 : k ≤ 100 := by
    rcases hk with rfl | h
    · decide
    · have h1 := pw_small h hz
      have h2 : k - 1 < 2 ^ (k - 1) := Nat.lt_two_pow_self
      rcases Nat.lt_or_ge (k - 1) 100 with h3 | h3
      · omega
      · have h4 : 2 ^ 100 ≤ 2 ^ (k - 1) := Nat.pow_le_pow_right (by decide) h3
        have h5 : (10000 : Nat) < 2 ^ 100 := by decide
        omega
  walk_at "dgo"
  refine ⟨_, _, rfl, atI_last (getLast_range k), ?_⟩
  walk_at "dgo"
  by_cases hc : pw k ≤ n
  · refine i_yes hc ?_
    have hp := Nat.lt_of_le_of_lt (log2_le hc) hz
    walk_at "dgo"
    refine ⟨_, _, rfl, atI_last (getLast_range k), ?_⟩
    walk_at "dgo"
    refine ⟨_, _, rfl, atI_last (getLast_range k), ?_⟩
    refine d_mulB (by omega) (by omega) ?_
    refine d_sz (by simp; omega) ?_
    have hkn : k < n := Nat.lt_of_lt_of_le (pw_gt k) hc
    refine hN (m - 1) _ (by omega) ⟨k + 1, by omega, .inr hc, ?_⟩
    rw [← pw_succ, List.range_succ (n := k + 1), List.map_append]
    rfl
  · refine i_nay hc ?_
    walk_at "dgo"
    rw [cutD_init, dropLast_range]
    have kb : 2 ^ k ≤ 20000 := by
      rcases hk with rfl | h
      · decide
      · have h1 := pw_small h hz
        rcases Nat.eq_zero_or_pos k with rfl | h0
        · decide
        · rw [show k = (k - 1) + 1 by omega, Nat.pow_succ]; omega
    refine d_loop (fun i ρ => ∃ (l : List Nat) (s3 s5 s6 : Sl), i ≤ k ∧ wholeB (pw (k - i)) l = n ∧ (∀ d ∈ l, d < pw (k - i)) ∧ l.length = 2 ^ i ∧
      ρ = [.v (nat n), .ol ((List.range (k + 1)).map fun i => nat (pw i)), .v (.lst (l.map nat)), s3, .un, s5, s6]) ⟨[n], .un, .un, .un, Nat.zero_le _, by unfold wholeB; simp, by simpa using hc, rfl, rfl⟩ ?_ ?_
    · rintro i x ρ N2 hx ⟨l, s3, s5, s6, hi, hw, hb, hl, rfl⟩ hN2
      obtain ⟨hik, rfl⟩ := rev_range_get hx
      walk_at "dgo"
      refine d_lc2 ?_
      walk_at "dgo"
      have hB := pw_pos (k - 1 - i)
      have e1 : k - i = (k - 1 - i) + 1 := by omega
      have el := flat_nat (B := pw (k - 1 - i)) l
      have hl2 : (l.flatMap fun p => [p / pw (k - 1 - i), p % pw (k - 1 - i)]).length = 2 ^ (i + 1) := by
        rw [flat2_len, Nat.pow_succ, ← hl]
      have hi4 : 2 ^ (i + 1) ≤ 20000 := Nat.le_trans (Nat.pow_le_pow_right (by decide) (by omega)) kb
      refine d_comp2M (fun x => match x with | .int z => [nat (z.toNat / pw (k - 1 - i)), nat (z.toNat % pw (k - 1 - i))] | _ => []) ?_ ?_ ?_
      · intro x hx acc N3 hacc h3
        obtain ⟨p, hp, rfl⟩ := List.mem_map.mp hx
        simp only [Int.toNat_natCast, List.length_cons, List.length_nil] at hacc h3
        walk_at "dgo"
        refine d_divmodR hB ?_
        walk_at "dgo"
        refine d_c1cons ?_
        walk_at "dgo"
        refine d_sz (by omega) (d_c1cons ?_)
        walk_at "dgo"
        refine d_sz (by simp; omega) (d_c1nil ?_)
        rw [List.append_assoc]
        exact h3
      · rw [el]; simp only [List.length_map, hl2, List.length_nil]; omega
      · rw [el, List.nil_append]
        refine hN2 _ ⟨l.flatMap fun p => [p / pw (k - 1 - i), p % pw (k - 1 - i)], _, s5, s6, by omega, ?_, ?_, hl2, rfl⟩
        · rw [show k - (i + 1) = k - 1 - i by omega, wholeB_split hB, ← pw_succ, ← e1]; exact hw
        · intro d hd
          obtain ⟨p, hp, hd⟩ := List.mem_flatMap.mp hd
          have := hb p hp
          rw [show k - (i + 1) = k - 1 - i by omega]
          rw [e1, pw_succ] at this
          simp only [List.mem_cons, List.not_mem_nil, or_false] at hd
          rcases hd with rfl | rfl
          · exact (Nat.div_lt_iff_lt_mul hB).mpr this
          · exact Nat.mod_lt _ hB
    · rintro ρ ⟨l, s3, s5, s6, hi, hw, hb, hl, rfl⟩
      have hlen : (((List.range k).map fun i => nat (pw i)).reverse).length = k := by simp
      rw [hlen] at hw hb hl hi
      rw [Nat.sub_self] at hw hb
      have hw' : whole l = n := hw
      have hb' : ∀ d ∈ l, d < 60 := hb
      walk_at "dgo"
      refine d_while (fun m ρ => ∃ j, m + j = l.length ∧ (∀ i, i < j → l[i]? = some 0) ∧ ρ = [.v (nat n), .ol ((List.range (k + 1)).map fun i => nat (pw i)), .v (.lst (l.map nat)), s3, .v (nat j), s5, s6]) l.length ⟨0, rfl, fun i h => by omega, rfl⟩ ?_
      rintro m' ρ N4 ⟨j, hm', hj, rfl⟩ hN4
      have hlt : j < l.length := by
        rcases Nat.lt_or_ge j l.length with h | h
        · exact h
        · exfalso
          have e : l.drop j = [] := List.drop_of_length_le h
          have := whole_dropZ hj (by omega)
          rw [e, hw'] at this
          have : whole [] = 0 := rfl
          omega
      obtain ⟨d, hd⟩ : ∃ d, l[j]? = some d := ⟨_, List.getElem?_eq_getElem hlt⟩
      walk_at "dgo"
      refine d_ixL (z := nat d) (by rw [List.getElem?_map, hd]; rfl) ?_
      walk_at "dgo"
      by_cases h0 : d = 0
      · refine i_yes h0 ?_
        walk_at "dgo"
        refine hN4 (m' - 1) _ (by omega) ⟨j + 1, by omega, fun i hi => ?_, rfl⟩
        rcases Nat.lt_or_ge i j with h | h
        · exact hj i h
        · rw [show i = j by omega, hd, h0]
      · refine i_nay h0 ?_
        walk_at "dgo"
        rw [cutD_from, rowD_drop]
        have hw2 := whole_dropZ hj (by omega)
        have e : figs n = l.drop j := by
          rw [← hw', ← hw2]
          refine figs_whole (fun d hd => hb' d (List.mem_of_mem_drop hd)) ?_
          rw [List.getElem?_drop, Nat.add_zero, hd]
          intro z
          exact h0 (Option.some.inj z)
        rw [e] at q
        exact q
theorem figs_strip {n : Nat} (hn : 0 < n) : ∃ k, figs n = rowOf n ++ List.replicate k 0 := by
  induction n using Nat.strongRecOn with
  | ind n ih =>
    by_cases e : n % 60 = 0
    · obtain ⟨k, hk⟩ := ih (n / 60) (by omega) (by omega)
      refine ⟨k + 1, ?_⟩
      have h1 : figs n = figs (n / 60) ++ [0] := by
        unfold figs
        rw [figsL_pos hn, List.reverse_cons, e]
      have h2 : rowOf n = rowOf (n / 60) := by unfold rowOf; rw [strip_yes hn e]
      rw [h1, hk, h2, List.append_assoc, List.replicate_succ']
    · refine ⟨0, ?_⟩
      unfold rowOf
      rw [strip_no hn e]; simp
theorem rowOf_long {n : Nat} (h : 0 < n) : LongRow (rowOf n) := by
  obtain ⟨h1, h2, _⟩ := strip_spec n h
  exact ⟨fun e => by have := figs_len1 h1; unfold rowOf at e; rw [e] at this; simp at this, figs_lt _, figs_head h1, figs_last h1 h2⟩
theorem dp_row_of (h : sp_row_of xs P X) : d_row_of (dEnds P) X (startD xs (3 - xs.length)) := by
  obtain ⟨n, rfl, hn, hz, q⟩ := h
  show d_row_of (dEnds P) X [.v (nat n), .un, .un]
  unfold d_row_of
  walk_at "dgo"
  refine ⟨n, rfl, hn, hz, ?_⟩
  walk_at "dgo"
  unfold rowD
  walk_at "dgo"
  obtain ⟨k, hk⟩ := figs_strip hn
  have lr := rowOf_long hn
  have hl : (figs n).length = (rowOf n).length + k := by rw [hk]; simp
  have hp : 0 < (rowOf n).length := List.length_pos_iff.mpr lr.ne
  refine d_while (fun m ρ => m ≤ k ∧ ρ = [.v (nat n), .v (.tup ((figs n).map nat)), .v (nat ((rowOf n).length + m))]) k ⟨Nat.le_refl _, by rw [hl]⟩ ?_
  rintro m ρ N ⟨hm, rfl⟩ hN
  walk_at "dgo"
  rcases Nat.eq_zero_or_pos m with rfl | h0
  · obtain ⟨l, hl2⟩ : ∃ l, (rowOf n).getLast? = some l := ⟨_, List.getLast?_eq_getLast lr.ne⟩
    have e : (figs n)[(rowOf n).length + 0 - 1]? = some l := by
      rw [hk, List.getElem?_append_left (by omega)]
      rw [List.getLast?_eq_getElem?] at hl2
      exact hl2
    refine d_ixT (z := nat l) (by rw [List.getElem?_map, e]; rfl) ?_
    walk_at "dgo"
    have hl0 : l ≠ 0 := fun z => lr.last (by rw [hl2, z])
    refine i_nay hl0 ?_
    walk_at "dgo"
    rw [cutD_to, rowD_take, Nat.add_zero]
    rw [show (figs n).take (rowOf n).length = rowOf n by rw [hk]; simp]
    exact q
  · have e : (figs n)[(rowOf n).length + m - 1]? = some 0 := by
      rw [hk, List.getElem?_append_right (by omega), List.getElem?_replicate, if_pos (by omega)]
    refine d_ixT (z := nat 0) (by rw [List.getElem?_map, e]; rfl) ?_
    walk_at "dgo"
    exact hN (m - 1) _ (by omega) ⟨by omega, by rw [show (rowOf n).length + m - 1 = (rowOf n).length + (m - 1) by omega]⟩
theorem row_log {r s : List Nat} (h : IsRow r) (h2 : IsRow s) : 0 < whole r * whole s ∧ (whole r * whole s).log2 < 200 := by
  have w1 := whole12 h
  have w2 := whole12 h2
  refine ⟨Nat.mul_pos (whole_pos (row_ne h) h.hd) (whole_pos (row_ne h2) h2.hd), log2_lt (Nat.lt_of_lt_of_le (Nat.mul_lt_mul'' w1 w2) (by decide)) (by decide)⟩
theorem dp_times (h : sp_times xs P X) : d_times (dEnds P) X (startD xs (2 - xs.length)) := by
  unfold d_times
  rcases h with ⟨r, s, ir, is', rfl, q⟩ | ⟨r, y, hr, rfl, q⟩ | ⟨r, s, ir, hs, rfl, q⟩
  · show (dRet _) (dEnds P) X [.v (rowD r), .v (rowD s)]
    walk_at "dgo"
    refine .inl ⟨r, ir, rfl, ?_⟩
    walk_at "dgo"
    refine .inl ⟨s, is', rfl, ?_⟩
    have w1 := whole12 ir
    have w2 := whole12 is'
    refine d_mulL (by omega) (by omega) ?_
    walk_at "dgo"
    obtain ⟨h1, h2⟩ := row_log ir is'
    exact ⟨_, rfl, h1, by omega, q⟩
  · show (dRet _) (dEnds P) X [.v (rowI r), .v y]
    walk_at "dgo"
    exact .inr ⟨r, hr, rfl, q⟩
  · show (dRet _) (dEnds P) X [.v (rowD r), .v (rowI s)]
    walk_at "dgo"
    refine .inl ⟨r, ir, rfl, ?_⟩
    walk_at "dgo"
    exact .inr ⟨s, hs, rfl, q⟩
end
end Dx
end
section
/-! twos, threes and fives of a number -/
namespace Sx
open PySem L2
def valF (p : Nat) : Nat → Nat → Nat
  | 0, _ => 0
  | f + 1, n => if n % p = 0 then valF p f (n / p) + 1 else 0
def remF (p : Nat) : Nat → Nat → Nat
  | 0, n => n
  | f + 1, n => if n % p = 0 then remF p f (n / p) else n
def val (p n : Nat) : Nat := valF p n n
def rem (p n : Nat) : Nat := remF p n n
def leftN (n : Nat) : Nat := rem 5 (rem 3 (rem 2 n))
section
variable {p : Nat}
theorem div_lt2 {n : Nat} (hp : 2 ≤ p) (h : 0 < n) : n / p < n := Nat.div_lt_self h hp
theorem div_pos2 {n : Nat} (hp : 2 ≤ p) (h : 0 < n) (e : n % p = 0) : 0 < n / p := Nat.div_pos (Nat.le_of_dvd h (Nat.dvd_of_mod_eq_zero e)) (by omega)
theorem valF_more (hp : 2 ≤ p) : ∀ (f g n : Nat), 0 < n → n ≤ f → n ≤ g → valF p f n = valF p g n
  | 0, _, n, h, h1, _ => by omega
  | _ + 1, 0, n, h, _, h2 => by omega
  | f + 1, g + 1, n, h, h1, h2 => by
    unfold valF
    by_cases e : n % p = 0
    · have := div_lt2 hp h
      rw [if_pos e, if_pos e, valF_more hp f g (n / p) (div_pos2 hp h e) (by omega) (by omega)]
    · rw [if_neg e, if_neg e]
theorem remF_more (hp : 2 ≤ p) : ∀ (f g n : Nat), 0 < n → n ≤ f → n ≤ g → remF p f n = remF p g n
  | 0, _, n, h, h1, _ => by omega
  | _ + 1, 0, n, h, _, h2 => by omega
  | f + 1, g + 1, n, h, h1, h2 => by
    unfold remF
    by_cases e : n % p = 0
    · have := div_lt2 hp h
      rw [if_pos e, if_pos e, remF_more hp f g (n / p) (div_pos2 hp h e) (by omega) (by omega)]
    · rw [if_neg e, if_neg e]
theorem val_yes {n : Nat} (hp : 2 ≤ p) (h : 0 < n) (e : n % p = 0) : val p n = val p (n / p) + 1 := by
  obtain ⟨m, rfl⟩ : ∃ m, n = m + 1 := ⟨n - 1, by omega⟩
  have := div_lt2 hp h
  have e1 : val p (m + 1) = valF p m ((m + 1) / p) + 1 := by
    show (if (m + 1) % p = 0 then _ else _) = _
    rw [if_pos e]
  rw [e1, valF_more hp m ((m + 1) / p) _ (div_pos2 hp h e) (by omega) (by omega)]; rfl
theorem val_no {n : Nat} (h : 0 < n) (e : n % p ≠ 0) : val p n = 0 := by
  obtain ⟨m, rfl⟩ : ∃ m, n = m + 1 := ⟨n - 1, by omega⟩
  show (if (m + 1) % p = 0 then _ else _) = _
  rw [if_neg e]
theorem rem_yes {n : Nat} (hp : 2 ≤ p) (h : 0 < n) (e : n % p = 0) : rem p n = rem p (n / p) := by
  obtain ⟨m, rfl⟩ : ∃ m, n = m + 1 := ⟨n - 1, by omega⟩
  have := div_lt2 hp h
  have e1 : rem p (m + 1) = remF p m ((m + 1) / p) := by
    show (if (m + 1) % p = 0 then _ else _) = _
    rw [if_pos e]
  rw [e1, remF_more hp m ((m + 1) / p) _ (div_pos2 hp h e) (by omega) (by omega)]; rfl
theorem rem_no {n : Nat} (h : 0 < n) (e : n % p ≠ 0) : rem p n = n := by
  obtain ⟨m, rfl⟩ : ∃ m, n = m + 1 := ⟨n - 1, by omega⟩
  show (if (m + 1) % p = 0 then _ else _) = _
  rw [if_neg e]
theorem val_spec (hp : 2 ≤ p) : ∀ (n : Nat), 0 < n → n = p ^ val p n * rem p n ∧ rem p n % p ≠ 0 ∧ 0 < rem p n := by
  intro n
  induction n using Nat.strongRecOn with
  | ind n ih =>
    intro h
    by_cases e : n % p = 0
    · obtain ⟨h1, h2, h3⟩ := ih (n / p) (div_lt2 hp h) (div_pos2 hp h e)
      rw [val_yes hp h e, rem_yes hp h e]
      refine ⟨?_, h2, h3⟩
      rw [Nat.pow_succ, Nat.mul_assoc, Nat.mul_comm p, ← Nat.mul_assoc, ← h1]
      exact (Nat.div_mul_cancel (Nat.dvd_of_mod_eq_zero e)).symm
    · rw [val_no h e, rem_no h e]
      exact ⟨by simp, e, h⟩
theorem val_uniq (hp : 2 ≤ p) : ∀ (a m : Nat), 0 < m → m % p ≠ 0 → val p (p ^ a * m) = a ∧ rem p (p ^ a * m) = m
  | 0, m, h, e => by
    rw [Nat.pow_zero, Nat.one_mul]
    exact ⟨val_no h e, rem_no h e⟩
  | a + 1, m, h, e => by
    obtain ⟨h1, h2⟩ := val_uniq hp a m h e
    have pos : 0 < p ^ (a + 1) * m := Nat.mul_pos (Nat.pos_of_ne_zero (by simp; omega)) h
    have e1 : p ^ (a + 1) * m = p * (p ^ a * m) := by rw [Nat.pow_succ, Nat.mul_comm (p ^ a), Nat.mul_assoc]
    have e2 : p ^ (a + 1) * m % p = 0 := by rw [e1]; exact Nat.mul_mod_right _ _
    have e3 : p ^ (a + 1) * m / p = p ^ a * m := by rw [e1]; exact Nat.mul_div_cancel_left _ (by omega)
    exact ⟨by rw [val_yes hp pos e2, e3, h1], by rw [rem_yes hp pos e2, e3, h2]⟩
theorem pow_mod_ne {q : Nat} (h : ∀ m, m % p ≠ 0 → (q * m) % p ≠ 0) : ∀ (a m : Nat), m % p ≠ 0 → (q ^ a * m) % p ≠ 0
  | 0, m, e => by rw [Nat.pow_zero, Nat.one_mul]; exact e
  | a + 1, m, e => by
    rw [Nat.pow_succ, Nat.mul_comm (q ^ a), Nat.mul_assoc]
    exact h _ (pow_mod_ne h a m e)
end
/-- a number by its twos, threes, fives -/
structure Fac (n a b c u : Nat) : Prop where
  eq : n = 2 ^ a * (3 ^ b * (5 ^ c * u))
  u2 : u % 2 ≠ 0
  u3 : u % 3 ≠ 0
  u5 : u % 5 ≠ 0
theorem Fac.pos {n a b c u : Nat} (f : Fac n a b c u) : 0 < u := by
  rcases Nat.eq_zero_or_pos u with h | h
  · have := f.u2; rw [h] at this; exact absurd rfl this
  · exact h
theorem Fac.all {n a b c u : Nat} (f : Fac n a b c u) : val 2 n = a ∧ val 3 (rem 2 n) = b ∧ val 5 (rem 3 (rem 2 n)) = c ∧ leftN n = u ∧ val 3 n = b ∧ val 5 n = c := by
  have p0 := f.pos
  have pc : 0 < 5 ^ c * u := Nat.mul_pos (Nat.pos_of_ne_zero (by simp)) p0
  have pb : 0 < 3 ^ b * (5 ^ c * u) := Nat.mul_pos (Nat.pos_of_ne_zero (by simp)) pc
  have m2 : (3 ^ b * (5 ^ c * u)) % 2 ≠ 0 := pow_mod_ne (fun m h => by omega) b _ (pow_mod_ne (fun m h => by omega) c _ f.u2)
  have m3 : (5 ^ c * u) % 3 ≠ 0 := pow_mod_ne (fun m h => by omega) c _ f.u3
  have m3' : (2 ^ a * (5 ^ c * u)) % 3 ≠ 0 := pow_mod_ne (fun m h => by omega) a _ m3
  have m5' : (2 ^ a * (3 ^ b * u)) % 5 ≠ 0 := pow_mod_ne (fun m h => by omega) a _ (pow_mod_ne (fun m h => by omega) b _ f.u5)
  obtain ⟨h1, h2⟩ := val_uniq (p := 2) (by decide) a _ pb m2
  obtain ⟨h3, h4⟩ := val_uniq (p := 3) (by decide) b _ pc m3
  obtain ⟨h5, h6⟩ := val_uniq (p := 5) (by decide) c _ p0 f.u5
  rw [← f.eq] at h1 h2
  have e3 : n = 3 ^ b * (2 ^ a * (5 ^ c * u)) := by rw [f.eq]; ac_rfl
  have e5 : n = 5 ^ c * (2 ^ a * (3 ^ b * u)) := by rw [f.eq]; ac_rfl
  obtain ⟨h7, _⟩ := val_uniq (p := 3) (by decide) b _ (Nat.mul_pos (Nat.pos_of_ne_zero (by simp)) pc) m3'
  obtain ⟨h8, _⟩ := val_uniq (p := 5) (by decide) c (2 ^ a * (3 ^ b * u)) (Nat.mul_pos (Nat.pos_of_ne_zero (by simp)) (Nat.mul_pos (Nat.pos_of_ne_zero (by simp)) p0)) m5'
  rw [← e3] at h7
  rw [← e5] at h8
  refine ⟨h1, by rw [h2, h3], by rw [h2, h4, h5], ?_, h7, h8⟩
  unfold leftN
  rw [h2, h4, h6]
theorem fac_of {n : Nat} (h : 0 < n) : Fac n (val 2 n) (val 3 n) (val 5 n) (leftN n) := by
  obtain ⟨h1, h2, h3⟩ := val_spec (p := 2) (by decide) n h
  obtain ⟨h4, h5, h6⟩ := val_spec (p := 3) (by decide) _ h3
  obtain ⟨h7, h8, h9⟩ := val_spec (p := 5) (by decide) _ h6
  have f : Fac n (val 2 n) (val 3 (rem 2 n)) (val 5 (rem 3 (rem 2 n))) (leftN n) := by
    have e3 : rem 2 n = 3 ^ val 3 (rem 2 n) * (5 ^ val 5 (rem 3 (rem 2 n)) * leftN n) := by
      unfold leftN; rw [← h7]; exact h4
    have d5 : rem 5 (rem 3 (rem 2 n)) ∣ rem 3 (rem 2 n) := ⟨_, h7.trans (Nat.mul_comm _ _)⟩
    have d3 : rem 3 (rem 2 n) ∣ rem 2 n := ⟨_, h4.trans (Nat.mul_comm _ _)⟩
    refine ⟨?_, fun e => h2 ?_, fun e => h5 ?_, h8⟩
    · rw [← e3]; exact h1
    · exact Nat.mod_eq_zero_of_dvd (Nat.dvd_trans (Nat.dvd_of_mod_eq_zero e) (Nat.dvd_trans d5 d3))
    · exact Nat.mod_eq_zero_of_dvd (Nat.dvd_trans (Nat.dvd_of_mod_eq_zero e) d5)
  obtain ⟨_, _, _, _, h10, h11⟩ := f.all
  rw [← h10, ← h11] at f
  exact f
theorem left_dvd {n : Nat} (h : 0 < n) : leftN n ∣ n := ⟨2 ^ val 2 n * (3 ^ val 3 n * 5 ^ val 5 n), by
  have := (fac_of h).eq
  calc n = _ := this
    _ = _ := by ac_rfl⟩
theorem left_pos {n : Nat} (h : 0 < n) : 0 < leftN n := (fac_of h).pos
theorem left_le {n : Nat} (h : 0 < n) : leftN n ≤ n := Nat.le_of_dvd h (left_dvd h)
theorem smooth_part {n : Nat} (h : 0 < n) : n / leftN n = 2 ^ val 2 n * (3 ^ val 3 n * 5 ^ val 5 n) := by
  have f := fac_of h
  have e := f.eq
  have p := f.pos
  have e2 : n = (2 ^ val 2 n * (3 ^ val 3 n * 5 ^ val 5 n)) * leftN n := by
    calc n = _ := e
      _ = _ := by ac_rfl
  conv => lhs; rw [e2]
  have e3 : leftN ((2 ^ val 2 n * (3 ^ val 3 n * 5 ^ val 5 n)) * leftN n) = leftN n := congrArg leftN e2.symm
  rw [e3]
  exact Nat.mul_div_cancel _ p
/-- sixty often enough takes in what has but twos, threes and fives -/
theorem smooth_dvd {n k : Nat} (h : 0 < n) (hk : n < 2 ^ (k + 1)) : n / leftN n ∣ 60 ^ k := by
  have f := fac_of h
  rw [smooth_part h]
  have le : ∀ {p a : Nat}, 2 ≤ p → p ^ a ∣ n → a ≤ k := fun {p a} hp hd => by
    have h1 := Nat.le_of_dvd h hd
    have h2 : 2 ^ a ≤ p ^ a := Nat.pow_le_pow_left hp a
    have h3 : 2 ^ a < 2 ^ (k + 1) := by omega
    have := (Nat.pow_lt_pow_iff_right (a := 2) (by decide)).mp h3
    omega
  have e := f.eq
  have a2 := le (p := 2) (a := val 2 n) (by decide) ⟨_, e⟩
  have a3 := le (p := 3) (a := val 3 n) (by decide) ⟨2 ^ val 2 n * (5 ^ val 5 n * leftN n), by calc n = _ := e
                                                                                                  _ = _ := by ac_rfl⟩
  have a5 := le (p := 5) (a := val 5 n) (by decide) ⟨2 ^ val 2 n * (3 ^ val 3 n * leftN n), by calc n = _ := e
                                                                                                  _ = _ := by ac_rfl⟩
  have d2 : 2 ^ val 2 n ∣ 4 ^ k := Nat.dvd_trans (Nat.pow_dvd_pow 2 a2) ⟨2 ^ k, by rw [← Nat.mul_pow]⟩
  have d3 : 3 ^ val 3 n ∣ 3 ^ k := Nat.pow_dvd_pow 3 a3
  have d5 : 5 ^ val 5 n ∣ 5 ^ k := Nat.pow_dvd_pow 5 a5
  have e60 : 60 ^ k = 4 ^ k * (3 ^ k * 5 ^ k) := by rw [← Nat.mul_pow, ← Nat.mul_pow]
  rw [e60]
  exact Nat.mul_dvd_mul d2 (Nat.mul_dvd_mul d3 d5)
end Sx
end
section
/-! turned numbers, over data -/
open PySem L2 RT Sx Dx
local macro_rules | `(tactic| walk_at "d") => `(tactic| first
  | ((with_reducible refine' d_var ?k1 ?_); (case k1 => rfl))
  | with_reducible refine' d_c ?_
  | with_reducible refine' d_op ?_
  | with_reducible refine' d_cons ?_
  | with_reducible refine' d_nil ?_
  | with_reducible refine' d_seq ?_
  | ((with_reducible refine' d_asg1 ?_); try dsimp -proj only [List.set_cons_zero, List.set_cons_succ])
  | with_reducible refine' d_asg ?_
  | with_reducible refine' d_cb ?_
  | ((with_reducible refine' d_asgN ?_); try dsimp -proj only [List.set_cons_zero, List.set_cons_succ])
  | ((with_reducible refine' d_bnm ?_); try dsimp -proj only [List.set_cons_zero, List.set_cons_succ])
  | with_reducible refine' d_btp ?_
  | with_reducible refine' d_bcons ?_
  | with_reducible refine' d_bnil ?_
  | ((with_reducible refine' d_slO ?k1 ?_); (case k1 => rfl))
  | ((with_reducible refine' d_lenO ?k1 ?_); (case k1 => rfl))
  | ((with_reducible refine' d_ixO ?k1 ?_); (case k1 => rfl))
  | ((with_reducible refine' d_app ?k1 ?_); (case k1 => rfl))
  | ((with_reducible refine' d_frz ?k1 ?_); (case k1 => rfl); try dsimp -proj only [List.set_cons_zero, List.set_cons_succ, frzS])
  | with_reducible refine' d_lnil ?_
  | with_reducible refine' d_lcons ?_
  | with_reducible refine' d_gcd ?_
  | ((with_reducible refine' d_revO ?k1 ?_); (case k1 => rfl))
  | with_reducible refine' d_revL ?_
  | with_reducible refine' d_rev ?_
  | with_reducible refine' d_exrevL ?_
  | with_reducible refine' d_exrevT ?_
  | with_reducible refine' d_lc ?_
  | with_reducible refine' d_rng1 ?_
  | with_reducible refine' d_rng2 ?_
  | ((with_reducible refine' d_exrng ?k1 ?_); (case k1 => omega))
  | ((with_reducible refine' d_exrng2 ?k1 ?k2 ?_); (case k1 => omega); (case k2 => omega))
  | ((with_reducible refine' d_sz ?k1 ?_); (case k1 => simp; done))
  | with_reducible refine' d_tupQ ?_
  | with_reducible refine' d_lstQ ?_
  | with_reducible refine' d_callX ?_
  | with_reducible refine' d_call0 ?_
  | with_reducible refine' d_ifS ?_
  | with_reducible refine' d_B ?_
  | with_reducible refine' d_exbl ?_
  | with_reducible refine' d_ret ?_
  | with_reducible refine' d_drop ?_
  | with_reducible refine' d_next ?_
  | with_reducible refine' d_chain ?_
  | with_reducible refine' d_and ?_
  | with_reducible refine' d_or ?_
  | with_reducible refine' d_not ?_
  | with_reducible refine' d_andV ?_
  | with_reducible refine' d_orV ?_
  | with_reducible refine' d_notV ?_
  | with_reducible refine' d_if ?_
  | with_reducible refine' d_un ?_
  | with_reducible refine' d_fz ?_
  | with_reducible refine' d_addN ?_
  | ((with_reducible refine' d_subN ?k1 ?_); (case k1 => omega))
  | ((with_reducible refine' d_mdN ?k1 ?_); (case k1 => omega))
  | ((with_reducible refine' d_fdN ?k1 ?k2 ?_); (case k1 => omega); (case k2 => omega))
  | ((with_reducible refine' d_mulL ?k1 ?k2 ?_); (case k1 => omega); (case k2 => omega))
  | with_reducible refine' d_ltN ?_
  | with_reducible refine' d_leN ?_
  | with_reducible refine' d_gtN ?_
  | with_reducible refine' d_geN ?_
  | with_reducible refine' d_eqN ?_
  | with_reducible refine' d_neN ?_
  | with_reducible refine' d_negN ?_
  | with_reducible refine' d_bit ?_
  | ((with_reducible refine' d_lenT ?_); try rw [List.length_map])
  | ((with_reducible refine' d_lenL ?_); try rw [List.length_map])
  | ((with_reducible refine' d_aug ?k1 ?_); (case k1 => rfl))
  | with_reducible refine' d_slT ?_
  | with_reducible refine' d_slL ?_
  | with_reducible refine' d_exsT ?_
  | with_reducible refine' d_exsL ?_
  | with_reducible refine' d_nopart ?_
  | with_reducible refine' dw_part ?_
  | with_reducible refine' d_exint ?_
  | with_reducible refine' d_yes1 ?_
  | with_reducible refine' d_itT ?_
  | with_reducible refine' d_itL ?_
  | with_reducible refine' d_itK ?_
  | with_reducible refine' d_exsK ?_
  | with_reducible refine' d_for ?_
  | with_reducible refine' d_tupL ?_
  | with_reducible refine' d_tupT ?_
  | with_reducible refine' i_iteT ?_
  | with_reducible refine' i_iteNT ?_
  | with_reducible refine' i_iteNF ?_
  | with_reducible refine' i_iteF ?_
  | ((with_reducible refine' i_yes ?k1 ?_); (case k1 => omega))
  | ((with_reducible refine' i_nay ?k1 ?_); (case k1 => omega))
  | ((with_reducible refine' i_yesN ?k1 ?_); (case k1 => omega))
  | ((with_reducible refine' i_nayN ?k1 ?_); (case k1 => omega)))
local macro_rules | `(tactic| walk_at "dgo") => `(tactic| (repeat walk_at "d"; try dsimp -proj only [List.set_cons_zero, List.set_cons_succ]))
namespace Dx
def facD (n : Nat) : Dt := .tup [.tup [nat (val 2 n), nat (val 3 n), nat (val 5 n)], nat (leftN n)]
def sp_factors_of : DSp := fun xs P _ => ∃ n : Nat, xs = [nat n] ∧ 0 < n ∧ P (facD n)
def sp_left_of : DSp := fun xs P _ => ∃ n : Nat, xs = [nat n] ∧ 0 < n ∧ P (nat (leftN n))
def sp_parted : DSp := fun xs P _ => ∃ n d : Nat, xs = [nat n, nat d] ∧ 0 < n ∧ 0 < d ∧ leftN d ∣ n ∧ n.log2 < 14700 ∧ d.log2 < 8900 ∧
  ∀ q k : Nat, k ≤ d.log2 + 1 → 0 < q → q * d = n * 60 ^ k → (∀ j, j < k → ¬ d ∣ n * 60 ^ j) → P (.tup [nat q, nat k])
def sp_factors : DSp := fun xs P X => (∃ r, IsRow r ∧ xs = [rowD r] ∧ P (facD (whole r))) ∨ ∃ r, rowB r = false ∧ xs = [rowI r] ∧ X 1 []
def sp_part : DSp := fun xs P X => (∃ r s, IsRow r ∧ IsRow s ∧ xs = [rowD r, rowD s] ∧ (whole r % leftN (whole s) = 0 → ∀ q k : Nat, 0 < q → q < 2 ^ 600 → q * whole s = whole r * 60 ^ k → P (rowD (rowOf q))) ∧
    (whole r % leftN (whole s) ≠ 0 → X 2 [nat (leftN (whole s) / Nat.gcd (leftN (whole s)) (whole r))])) ∨
  (∃ r y, rowB r = false ∧ xs = [rowI r, y] ∧ X 1 []) ∨ ∃ r s, IsRow r ∧ rowB s = false ∧ xs = [rowD r, rowI s] ∧ X 1 []
def sp_turned : DSp := fun xs P X => (∃ s, IsRow s ∧ xs = [rowD s] ∧ (leftN (whole s) = 1 → ∀ q k : Nat, 0 < q → q < 2 ^ 600 → q * whole s = 60 ^ k → P (rowD (rowOf q))) ∧
    (leftN (whole s) ≠ 1 → X 2 [nat (leftN (whole s))])) ∨ ∃ s, rowB s = false ∧ xs = [rowI s] ∧ X 1 []
def sp__law_left : DSp := fun xs P _ => ∃ n : Nat, xs = [nat n] ∧ 0 < n ∧ P (nat (leftN n))
def sp__law_many : DSp := fun xs P _ => ∃ n p : Nat, xs = [nat n, nat p] ∧ 0 < n ∧ 2 ≤ p ∧ p < 64 ∧ P (nat (val p n))
def sp__law_short : DSp := fun xs P _ => ∃ m : Nat, xs = [.dice, nat m] ∧ 2 ≤ m ∧ m ≤ 12 ∧ ∀ r : List Nat, IsRow r → r.length ≤ m → P (rowD r)
def d_factors_of : DS := (dSeq (dAsg (.nm 1) (dVar 0))
  (dSeq (dAsgN 2 (dLst dNil))
  (dSeq (dFor (dItK (dC (.ktup [(nat 2), (nat 3), (nat 5)]))) (.nm 3)
  (dSeq (dAsg (.nm 4) (dC (nat 0)))
  (dSeq (dWhile (dB (dOp dEqS (dOp dMd (dVar 1) (dVar 3)) (dC (nat 0)))) (dSeq (dAug 1 dFd (dVar 3))
  (dAug 4 dAdd (dC (nat 1)))))
  (dApp 2 (dVar 4)))))
  (dFrz 2 (dRet (dTup (dCons (dCB dTupOf (dCons (dVar 2) dNil)) (dCons (dVar 1) dNil))))))))
def d_left_of : DS := (dSeq (dAsg (.tp [(.nm 1), (.nm 2)]) (dCallX sp_factors_of (dCons (dVar 0) dNil)))
  (dRet (dVar 2)))
def d_factors : DS := (dRet (dCallX sp_factors_of (dCons (dCallX sp_whole_of (dCons (dVar 0) dNil)) dNil)))
def d_parted : DS := (dSeq (dAsg (.nm 2) (dC (nat 0)))
  (dSeq (dWhile (dB (dOp dNeS (dOp dMd (dVar 0) (dVar 1)) (dC (nat 0)))) (dSeq (dAug 0 dMul (dC (nat 60)))
  (dAug 2 dAdd (dC (nat 1)))))
  (dRet (dTup (dCons (dOp dFd (dVar 0) (dVar 1)) (dCons (dVar 2) dNil))))))
def d_part : DS := (dSeq (dAsg (.nm 2) (dCallX sp_whole_of (dCons (dVar 0) dNil)))
  (dSeq (dAsg (.nm 3) (dCallX sp_whole_of (dCons (dVar 1) dNil)))
  (dSeq (dAsg (.nm 4) (dCallX sp_left_of (dCons (dVar 3) dNil)))
  (dSeq (dIfS (dB (dOp dNeS (dOp dMd (dVar 2) (dVar 4)) (dC (nat 0)))) (dRaise 2 (dCons (dOp dFd (dVar 4) (dCB dGcd (dCons (dVar 4) (dCons (dVar 2) dNil)))) dNil)) dNext)
  (dSeq (dAsg (.tp [(.nm 5), (.nm 6)]) (dCallX sp_parted (dCons (dVar 2) (dCons (dVar 3) dNil))))
  (dRet (dCallX sp_row_of (dCons (dVar 5) dNil))))))))
def d_turned : DS := (dRet (dCallX sp_part (dCons (dTup (dCons (dC (nat 1)) dNil)) (dCons (dVar 0) dNil))))
def d__law_many : DS := (dSeq (dAsg (.nm 2) (dC (nat 0)))
  (dSeq (dWhile (dB (dOp dEqS (dOp dMd (dVar 0) (dVar 1)) (dC (nat 0)))) (dSeq (dAsg (.nm 0) (dOp dFd (dVar 0) (dVar 1)))
  (dAsg (.nm 2) (dOp dAdd (dVar 2) (dC (nat 1))))))
  (dRet (dVar 2))))
def d__law_left : DS := (dSeq (dFor (dItL (dFz (dLst (dCons (dC (nat 2)) (dCons (dC (nat 3)) (dCons (dC (nat 5)) dNil)))))) (.nm 1)
  (dWhile (dB (dOp dEqS (dOp dMd (dVar 0) (dVar 1)) (dC (nat 0)))) (dAsg (.nm 0) (dOp dFd (dVar 0) (dVar 1)))))
  (dRet (dVar 0)))
def d__law_short : DS := (dSeq (dAsg (.nm 2) (dCallX sp__law_drawn (dCons (dVar 0) (dCons (dVar 1) dNil))))
  (dRet (dIf (dB (dOp dLe (dCB dLen (dCons (dVar 2) dNil)) (dVar 1))) (dVar 2) (dSlT (dVar 2) dNoPart (dPart (dC (nat 1)))))))

section
variable {xs : List Dt} {P : Dt → Prop} {X : DX}
theorem dp_factors_of (h : sp_factors_of xs P X) : d_factors_of (dEnds P) X (startD xs (5 - xs.length)) := by
  obtain ⟨n, rfl, hn, q⟩ := h
  show d_factors_of (dEnds P) X [.v (nat n), .un, .un, .un, .un]
  unfold d_factors_of
  have turn : ∀ (m p : Nat) (c : List Dt) (D : DEnds), 0 < m → 2 ≤ p → p < 64 → D.nx [.v (nat n), .v (nat (rem p m)), .ol c, .v (nat p), .v (nat (val p m))] →
      dWhile (dB (dOp dEqS (dOp dMd (dVar 1) (dVar 3)) (dC (nat 0)))) (dSeq (dAug 1 dFd (dVar 3)) (dAug 4 dAdd (dC (nat 1)))) D X [.v (nat n), .v (nat m), .ol c, .v (nat p), .v (nat 0)] := by
    intro m p c D hm hp hp2 q
    refine d_while (fun k ρ => ∃ j, 0 < k ∧ rem p k = rem p m ∧ j + val p k = val p m ∧ ρ = [.v (nat n), .v (nat k), .ol c, .v (nat p), .v (nat j)]) m ⟨0, hm, rfl, by omega, rfl⟩ ?_
    rintro k ρ N ⟨j, hk, e, ej, rfl⟩ hN
    walk_at "dgo"
    by_cases z : k % p = 0
    · refine i_yes z ?_
      walk_at "dgo"
      exact hN _ _ (div_lt2 hp hk) ⟨j + 1, div_pos2 hp hk z, by rw [← e, rem_yes hp hk z], by rw [val_yes hp hk z] at ej; omega, rfl⟩
    · refine i_nay z ?_
      rw [rem_no hk z] at e
      rw [val_no hk z] at ej
      rw [e, show j = val p m by omega]
      exact q
  have p2 := (val_spec (p := 2) (by decide) n hn).2.2
  have p3 := (val_spec (p := 3) (by decide) _ p2).2.2
  obtain ⟨_, f3, f5, _, g3, g5⟩ := (fac_of hn).all
  walk_at "dgo"
  refine turn _ _ _ _ hn (by decide) (by decide) ?_
  walk_at "dgo"
  refine turn _ _ _ _ p2 (by decide) (by decide) ?_
  walk_at "dgo"
  refine turn _ _ _ _ p3 (by decide) (by decide) ?_
  walk_at "dgo"
  rw [f3, f5]
  exact q
theorem dp_left_of (h : sp_left_of xs P X) : d_left_of (dEnds P) X (startD xs (3 - xs.length)) := by
  obtain ⟨n, rfl, hn, q⟩ := h
  show d_left_of (dEnds P) X [.v (nat n), .un, .un]
  unfold d_left_of
  walk_at "dgo"
  refine ⟨n, rfl, hn, ?_⟩
  unfold facD
  walk_at "dgo"
  exact q
theorem dp_factors (h : sp_factors xs P X) : d_factors (dEnds P) X (startD xs (1 - xs.length)) := by
  unfold d_factors
  rcases h with ⟨r, ir, rfl, q⟩ | ⟨r, hr, rfl, q⟩
  · show (dRet _) (dEnds P) X [.v (rowD r)]
    walk_at "dgo"
    refine .inl ⟨r, ir, rfl, ?_⟩
    walk_at "dgo"
    exact ⟨_, rfl, whole_pos (row_ne ir) ir.hd, q⟩
  · show (dRet _) (dEnds P) X [.v (rowI r)]
    walk_at "dgo"
    exact .inr ⟨r, hr, rfl, q⟩
theorem smooth_mul {n d : Nat} (hd : 0 < d) (h : leftN d ∣ n) : d ∣ n * 60 ^ (d.log2 + 1) := by
  have h1 := smooth_dvd (k := d.log2 + 1) hd (by
    have := (Nat.log2_lt (n := d) (k := d.log2 + 1) (by omega)).mp (by omega)
    exact Nat.lt_trans this (Nat.pow_lt_pow_right (by decide) (by omega)))
  have e := Nat.div_mul_cancel (left_dvd hd)
  have h2 := Nat.mul_dvd_mul h h1
  rw [Nat.mul_comm (leftN d), e] at h2
  exact h2
theorem pow_log2_mul {n k : Nat} (hn : n.log2 < 14700) (hk : k ≤ 8901) : (n * 60 ^ k).log2 < 70000 := by
  have h1 : n < 2 ^ 14700 := by
    rcases Nat.eq_zero_or_pos n with rfl | h
    · exact Nat.pos_of_ne_zero (by simp)
    · exact (Nat.log2_lt (by omega)).mp hn
  have h2 : 60 ^ k ≤ 2 ^ (6 * k) := pow60_lt k
  refine log2_lt (Nat.lt_of_lt_of_le (Nat.mul_lt_mul_of_lt_of_le h1 h2 (Nat.pos_of_ne_zero (by simp))) ?_) (by decide)
  rw [← Nat.pow_add]
  exact Nat.pow_le_pow_right (by decide) (by omega)
theorem dp_parted (h : sp_parted xs P X) : d_parted (dEnds P) X (startD xs (3 - xs.length)) := by
  obtain ⟨n, d, rfl, hn, hd, hl, hz, hz2, q⟩ := h
  show d_parted (dEnds P) X [.v (nat n), .v (nat d), .un]
  unfold d_parted
  walk_at "dgo"
  refine d_while (fun m ρ => ∃ k, m + k = d.log2 + 1 ∧ (∀ j, j < k → ¬ d ∣ n * 60 ^ j) ∧ ρ = [.v (nat (n * 60 ^ k)), .v (nat d), .v (nat k)]) (d.log2 + 1) ⟨0, rfl, fun j h => by omega, by rw [Nat.pow_zero, Nat.mul_one]⟩ ?_
  rintro m ρ N ⟨k, hm, hk, rfl⟩ hN
  walk_at "dgo"
  by_cases z : n * 60 ^ k % d = 0
  · refine i_nayN z ?_
    walk_at "dgo"
    refine d_fdB hd (by omega) ?_
    walk_at "dgo"
    have hdv : d ∣ n * 60 ^ k := Nat.dvd_of_mod_eq_zero z
    have hp : 0 < n * 60 ^ k := Nat.mul_pos hn (Nat.pos_of_ne_zero (by simp))
    exact q _ _ (by omega) (Nat.div_pos (Nat.le_of_dvd hp hdv) hd) (Nat.div_mul_cancel hdv) hk
  · refine i_yesN z ?_
    have hm0 : m ≠ 0 := fun e => z (Nat.mod_eq_zero_of_dvd (by rw [show k = d.log2 + 1 by omega]; exact smooth_mul hd hl))
    walk_at "dgo"
    refine d_mulB (Nat.lt_trans (pow_log2_mul hz (by omega)) (by decide)) (by decide) ?_
    walk_at "dgo"
    refine hN (m - 1) _ (by omega) ⟨k + 1, by omega, fun j hj => ?_, by rw [Nat.pow_succ, Nat.mul_assoc]⟩
    rcases Nat.lt_or_ge j k with h | h
    · exact hk j h
    · rw [show j = k by omega]; exact fun hh => z (Nat.mod_eq_zero_of_dvd hh)
theorem dp_part (h : sp_part xs P X) : d_part (dEnds P) X (startD xs (7 - xs.length)) := by
  unfold d_part
  rcases h with ⟨r, s, ir, is', rfl, q1, q2⟩ | ⟨r, y, hr, rfl, q⟩ | ⟨r, s, ir, hs, rfl, q⟩
  · show (dSeq _ _) (dEnds P) X [.v (rowD r), .v (rowD s), .un, .un, .un, .un, .un]
    have n1 := whole_pos (row_ne ir) ir.hd
    have n2 := whole_pos (row_ne is') is'.hd
    have b1 := whole12 ir
    have b2 := whole12 is'
    have lp := left_pos n2
    have ll := left_le n2
    walk_at "dgo"
    refine .inl ⟨r, ir, rfl, ?_⟩
    walk_at "dgo"
    refine .inl ⟨s, is', rfl, ?_⟩
    walk_at "dgo"
    refine ⟨_, rfl, n2, ?_⟩
    walk_at "dgo"
    by_cases e : whole r % leftN (whole s) = 0
    · refine i_nayN e ?_
      walk_at "dgo"
      have l1 : (whole r).log2 < 72 := log2_lt (Nat.lt_trans b1 (by decide)) (by decide)
      have l2 : (whole s).log2 < 72 := log2_lt (Nat.lt_trans b2 (by decide)) (by decide)
      refine ⟨_, _, rfl, n1, n2, Nat.dvd_of_mod_eq_zero e, by omega, by omega, fun x k hk hx ex _ => ?_⟩
      walk_at "dgo"
      have hx2 : x < 2 ^ 600 := by
        have h1 : x ≤ x * whole s := Nat.le_mul_of_pos_right x n2
        have h2 : 60 ^ k ≤ 60 ^ 73 := Nat.pow_le_pow_right (by decide) (by omega)
        calc x ≤ whole r * 60 ^ k := by omega
          _ ≤ 60 ^ 12 * 60 ^ 73 := Nat.mul_le_mul (by omega) h2
          _ < 2 ^ 600 := by decide
      exact ⟨x, rfl, hx, Nat.lt_trans (log2_lt (k := 600) hx2 (by decide)) (by decide), q1 e x k hx hx2 ex⟩
    · refine i_yesN e ?_
      refine d_raise ?_
      walk_at "dgo"
      refine d_fdN (Nat.pos_of_ne_zero fun z => ?_) ?_ ?_
      · have := Nat.eq_zero_of_gcd_eq_zero_left z; omega
      · exact Nat.lt_of_le_of_lt (Nat.le_of_dvd lp (Nat.gcd_dvd_left _ _)) (by omega)
      walk_at "dgo"
      exact ⟨rfl, q2 e⟩
  · show (dSeq _ _) (dEnds P) X [.v (rowI r), .v y, .un, .un, .un, .un, .un]
    walk_at "dgo"
    exact .inr ⟨r, hr, rfl, q⟩
  · show (dSeq _ _) (dEnds P) X [.v (rowD r), .v (rowI s), .un, .un, .un, .un, .un]
    walk_at "dgo"
    refine .inl ⟨r, ir, rfl, ?_⟩
    walk_at "dgo"
    exact .inr ⟨s, hs, rfl, q⟩
theorem row_one : IsRow [1] := ⟨by decide, by decide, by decide, by decide⟩
theorem dp_turned (h : sp_turned xs P X) : d_turned (dEnds P) X (startD xs (1 - xs.length)) := by
  unfold d_turned
  rcases h with ⟨s, is', rfl, q1, q2⟩ | ⟨s, hs, rfl, q⟩
  · show (dRet _) (dEnds P) X [.v (rowD s)]
    have n2 := whole_pos (row_ne is') is'.hd
    have lp := left_pos n2
    walk_at "dgo"
    have e1 : whole [1] = 1 := rfl
    refine .inl ⟨[1], s, row_one, is', rfl, fun e x k hx hx2 ex => ?_, fun e => ?_⟩
    · rw [e1] at e
      rw [e1, Nat.one_mul] at ex
      refine q1 ?_ x k hx hx2 ex
      rcases Nat.lt_or_ge 1 (leftN (whole s)) with h | h
      · rw [Nat.mod_eq_of_lt h] at e; omega
      · omega
    · rw [e1] at e
      rw [e1, Nat.gcd_one_right, Nat.div_one]
      exact q2 fun z => by rw [z] at e; exact e rfl
  · show (dRet _) (dEnds P) X [.v (rowI s)]
    walk_at "dgo"
    exact .inr (.inr ⟨[1], s, row_one, hs, rfl, q⟩)
theorem dp__law_many (h : sp__law_many xs P X) : d__law_many (dEnds P) X (startD xs (3 - xs.length)) := by
  obtain ⟨n, p, rfl, hn, hp, hp2, q⟩ := h
  show d__law_many (dEnds P) X [.v (nat n), .v (nat p), .un]
  unfold d__law_many
  walk_at "dgo"
  refine d_while (fun m ρ => ∃ k, 0 < m ∧ k + val p m = val p n ∧ ρ = [.v (nat m), .v (nat p), .v (nat k)]) n ⟨0, hn, by omega, rfl⟩ ?_
  rintro m ρ N ⟨k, hm, hk, rfl⟩ hN
  walk_at "dgo"
  by_cases e : m % p = 0
  · refine i_yes e ?_
    walk_at "dgo"
    exact hN _ _ (div_lt2 hp hm) ⟨k + 1, div_pos2 hp hm e, by rw [val_yes hp hm e] at hk; omega, rfl⟩
  · refine i_nay e ?_
    walk_at "dgo"
    rw [val_no hm e] at hk
    rw [show k = val p n by omega]
    exact q
theorem dp__law_left (h : sp__law_left xs P X) : d__law_left (dEnds P) X (startD xs (2 - xs.length)) := by
  obtain ⟨n, rfl, hn, q⟩ := h
  show d__law_left (dEnds P) X [.v (nat n), .un]
  unfold d__law_left
  have turn : ∀ (m p : Nat) (D : DEnds), 0 < m → 2 ≤ p → p < 64 → D.nx [.v (nat (rem p m)), .v (nat p)] →
      dWhile (dB (dOp dEqS (dOp dMd (dVar 0) (dVar 1)) (dC (nat 0)))) (dAsg (.nm 0) (dOp dFd (dVar 0) (dVar 1))) D X [.v (nat m), .v (nat p)] := by
    intro m p D hm hp hp2 q
    refine d_while (fun k ρ => 0 < k ∧ rem p k = rem p m ∧ ρ = [.v (nat k), .v (nat p)]) m ⟨hm, rfl, rfl⟩ ?_
    rintro k ρ N ⟨hk, e, rfl⟩ hN
    walk_at "dgo"
    by_cases z : k % p = 0
    · refine i_yes z ?_
      walk_at "dgo"
      exact hN _ _ (div_lt2 hp hk) ⟨div_pos2 hp hk z, by rw [← e, rem_yes hp hk z], rfl⟩
    · refine i_nay z ?_
      rw [rem_no hk z] at e
      rw [e]
      exact q
  have p2 := (val_spec (p := 2) (by decide) n hn).2.2
  have p3 := (val_spec (p := 3) (by decide) _ p2).2.2
  walk_at "dgo"
  refine turn _ _ _ hn (by decide) (by decide) ?_
  walk_at "dgo"
  refine turn _ _ _ p2 (by decide) (by decide) ?_
  walk_at "dgo"
  refine turn _ _ _ p3 (by decide) (by decide) ?_
  walk_at "dgo"
  exact q
theorem dp__law_short (h : sp__law_short xs P X) : d__law_short (dEnds P) X (startD xs (3 - xs.length)) := by
  obtain ⟨m, rfl, h2, h12, q⟩ := h
  show d__law_short (dEnds P) X [.v .dice, .v (nat m), .un]
  unfold d__law_short
  walk_at "dgo"
  refine ⟨m, rfl, h2, h12, fun r ir hl => ?_⟩
  walk_at "dgo"
  unfold rowD
  walk_at "dgo"
  exact q r ir hl
end
end Dx
end
section
/-! sets of tuples of any size, where the way of each through the table is known -/
namespace SxSet
open PySem PySem.Spec PyProof.Rows L2
/-- one more entry, whose hash is met nowhere on its way -/
def stepG {α : Type} (es : Array (Int × α)) (t : SetTable) (h : Int) (x : α) : Option (Array (Int × α) × SetTable) :=
  match t.probe (fun i => (es[i]?.map (·.1)).getD 0) h (t.probeStart h) with
  | some (.empty j none) =>
    if (t.put j).1.fits (es.size + 1) = false then none else
    if (t.put j).1.tooFull then
      match (t.put j).1.relaid ((SetTable.insertAt es (t.put j).2 (h, x)).map (·.1)) (SetTable.grown (es.size + 1)) with
      | some (t2, order) =>
        if SetTable.sizeAbove (SetTable.grown (es.size + 1)) ≤ 100000 ∧ (order.filterMap ((SetTable.insertAt es (t.put j).2 (h, x))[·]?)).size = (SetTable.insertAt es (t.put j).2 (h, x)).size then some (order.filterMap ((SetTable.insertAt es (t.put j).2 (h, x))[·]?), t2) else none
      | none => none
    else some (SetTable.insertAt es (t.put j).2 (h, x), (t.put j).1)
  | _ => none
def goodT (n : Nat) (t : SetTable) : Bool := t.fits n && (t.plain && (t.mask % 2 == 1 && decide (n ≤ 50000)))
theorem goodT_get {n : Nat} {t : SetTable} (g : goodT n t = true) : t.fits n = true ∧ t.plain = true ∧ t.mask % 2 = 1 ∧ n ≤ 50000 := by
  unfold goodT at g
  rw [Bool.and_eq_true, Bool.and_eq_true, Bool.and_eq_true, beq_iff_eq, decide_eq_true_iff] at g
  exact g
section
variable {P : Program} {w : World} {A : Around} {E : Value → Shared → Prop} {s : Shared}
variable {a : Addr} {es es' : Array (Int × Value)} {ep : Nat} {t t' : SetTable}
theorem put_plain (t : SetTable) (j : Nat) : (t.put j).1.plain = t.plain ∧ (t.put j).1.mask = t.mask := ⟨rfl, rfl⟩
theorem insert_size {α : Type} (xs : Array α) (p : Nat) (x : α) : (SetTable.insertAt xs p x).size = xs.size + 1 := by
  have h := (SetTable.insertAt_perm xs p x).length_eq
  rw [Array.length_toList, Array.length_toList, Array.size_push] at h
  exact h
theorem big_add {o : Obj} {x : Addr} {k : List Int} (ho : s.heap.get? a = some o) (hex : o.ExactSet) (hd : o.data = .set es ep t) (hg : goodT es.size t = true) (hx : IsT P w s.heap k x)
    (hst : stepG es t (thash P w k) (.ref x) = some (es', t')) {Q : Bool → Shared → Prop}
    (hQ : ∀ h' o' ep', Heap.SameBut a s.heap h' → h'.get? a = some o' → o'.ExactSet → o'.data = .set es' ep' t' → Q true { s with heap := h' }) :
    wpAny (model P w) A (setAddHashed a (.ref x) (thash P w k)) Q E s := by
  obtain ⟨g1, g2, g3, g4⟩ := goodT_get hg
  have gw : ¬ t.gaveWay = true := by unfold SetTable.gaveWay; rw [g3]; decide
  obtain ⟨j, hp⟩ : ∃ j, t.probe (fun i => (es[i]?.map (·.1)).getD 0) (thash P w k) (t.probeStart (thash P w k)) = some (.empty j none) := by
    unfold stepG at hst
    split at hst
    · exact ⟨_, by assumption⟩
    · cases hst
  unfold stepG at hst
  rw [hp] at hst
  dsimp only at hst
  have hpf : (t.put j).1.fits (es.size + 1) = true := by
    cases z : (t.put j).1.fits (es.size + 1) with
    | true => rfl
    | false => rw [if_pos z] at hst; cases hst
  rw [if_neg (by rw [hpf]; decide)] at hst
  -- what is put in
  obtain ⟨es1, e1⟩ : ∃ es1, es1 = SetTable.insertAt es (t.put j).2 (thash P w k, Value.ref x) := ⟨_, rfl⟩
  have hz1 : es1.size = es.size + 1 := by rw [e1]; exact insert_size ..
  rw [← e1] at hst
  unfold setAddHashed
  refine wpAny_holding ?_
  rw [show (100000 : Nat) = 99999 + 1 from rfl, setAddHashedIn_succ]
  refine wpAny_bind (wpAny_setState_of ho hd g1 ?_)
  dsimp only
  refine wp_if_neg (by simp [byScan, Value.scannable]) ?_
  try refine wpAny_bind (wpAny_pure ?_)
  unfold setSearch
  rw [show (100000 : Nat) = 99999 + 1 from rfl, setSearchFrom_succ]
  refine wpAny_bind ?_
  refine wpAny_bind (wpAny_setState_of ho hd g1 ?_)
  dsimp only
  refine wp_if_neg gw ?_
  try refine wpAny_bind (wpAny_pure ?_)
  rw [show (none : Option SetTable.Probe).getD (t.probeStart (thash P w k)) = t.probeStart (thash P w k) from rfl, hp]
  dsimp only
  refine wpAny_pure ?_
  dsimp only
  refine wpAny_bind (wpAny_setState_of ho hd g1 ?_)
  dsimp only
  have hp1 : (t.put j).1.plain = true := g2
  have hpm : (t.put j).1.mask = t.mask := rfl
  generalize hpt : t.put j = pt at e1 hp1 hpm hst hpf ⊢
  obtain ⟨t1, p⟩ := pt
  dsimp only at e1 hp1 hpm hst hpf ⊢
  first
    | (refine wpAny_bind ?_; refine wp_if_pos hp1 ?_; refine hashBy_tup hx ?_)
    | refine wp_if_pos hp1 (wpAny_bind (hashBy_tup hx ?_))
  simp only [if_true]
  rw [← e1]
  refine wpAny_bind (wpAny_storeSet_of ho hd ?_ (by rw [hz1, sizeLine_eq]; omega))
  have sb : Heap.SameBut a s.heap (s.heap.update a (Obj.putSet es1 t1)) := Heap.SameBut.update ..
  have ho1 := store_at (es' := es1) (t' := t1) ho hd
  by_cases hf : t1.tooFull = true
  · rw [if_pos hf] at hst
    first
      | (refine wpAny_bind ?_; refine wp_if_pos (by simp [hf]) ?_)
      | (refine wp_if_pos (by simp [hf]) ?_; refine wpAny_bind ?_)
    split at hst
    · rename_i t2 order er
      split at hst
      · rename_i hc
        obtain ⟨c1, c2⟩ := hc
        obtain ⟨rfl, rfl⟩ := Prod.mk.inj (Option.some.inj hst)
        rw [setRelay_eq]
        refine wpAny_bind (wpAny_setState_of ho1 rfl (by rw [hz1]; exact hpf) ?_)
        dsimp only
        refine wp_if_neg (by rw [sizeLine_eq]; omega) ?_
        try refine wpAny_bind (wpAny_pure ?_)
        rw [er]
        dsimp only
        refine wpAny_bind ?_
        refine wp_if_neg (by rw [c2]; simp) ?_
        try refine wpAny_bind (wpAny_pure ?_)
        refine wpAny_pure ?_
        dsimp only
        refine wpAny_storeSet_of ho1 rfl ?_ (by rw [c2, hz1, sizeLine_eq]; omega)
        refine wpAny_pure (hQ _ _ _ (sb.trans (Heap.SameBut.update ..)) (store_at ho1 rfl) ⟨hex.1, hex.2.1, hex.2.2⟩ rfl)
      · cases hst
    · cases hst
  · rw [if_neg hf] at hst
    obtain ⟨rfl, rfl⟩ := Prod.mk.inj (Option.some.inj hst)
    first
      | refine wp_if_neg (by simp [hf]) ?_
      | (refine wpAny_bind ?_; refine wp_if_neg (by simp [hf]) ?_; refine wpAny_pure ?_)
    exact wpAny_pure (hQ _ _ _ sb ho1 ⟨hex.1, hex.2.1, hex.2.2⟩ rfl)
end
/-! a run of adding, told by the hashes alone -/
def runG {α : Type} : List (Int × α) → Array (Int × α) → SetTable → Option (Array (Int × α) × SetTable)
  | [], es, t => some (es, t)
  | p :: l, es, t => match stepG es t p.1 p.2 with
    | some r => if goodT r.1.size r.2 then runG l r.1 r.2 else none
    | none => none
section
variable {α β : Type} (f : α → β)
def onE (p : Int × α) : Int × β := (p.1, f p.2)
theorem map_insertAt {γ δ : Type} (g : γ → δ) (xs : Array γ) (p : Nat) (x : γ) : SetTable.insertAt (xs.map g) p (g x) = (SetTable.insertAt xs p x).map g := by
  unfold SetTable.insertAt
  rw [Array.map_append, Array.map_push, Array.map_extract, Array.map_extract, Array.size_map]
theorem map_fst (xs : Array (Int × α)) : (xs.map (onE f)).map (·.1) = xs.map (·.1) := by
  rw [Array.map_map]; rfl
theorem map_order (xs : Array (Int × α)) (order : Array Nat) : order.filterMap ((xs.map (onE f))[·]?) = (order.filterMap (xs[·]?)).map (onE f) := by
  have : (fun i : Nat => (xs.map (onE f))[i]?) = fun i => (xs[i]?).map (onE f) := funext fun i => Array.getElem?_map
  rw [this, Array.map_filterMap]
theorem step_nat (es : Array (Int × α)) (t : SetTable) (h : Int) (x : α) : stepG (es.map (onE f)) t h (f x) = (stepG es t h x).map fun r => (r.1.map (onE f), r.2) := by
  have ep : (fun i : Nat => ((es.map (onE f))[i]?.map (·.1)).getD 0) = fun i => (es[i]?.map (·.1)).getD 0 := funext fun i => by
    rw [Array.getElem?_map, Option.map_map]; rfl
  unfold stepG
  rw [ep]
  cases t.probe (fun i => (es[i]?.map (·.1)).getD 0) h (t.probeStart h) with
  | none => rfl
  | some m =>
    cases m with
    | candidate a b c => rfl
    | empty j d =>
      cases d with
      | some d => rfl
      | none =>
        dsimp only
        rw [show ((h, f x) : Int × β) = onE f (h, x) from rfl, map_insertAt, map_fst, Array.size_map]
        split
        · rfl
        · split
          · cases ((t.put j).1.relaid ((SetTable.insertAt es (t.put j).2 (h, x)).map (·.1)) (SetTable.grown (es.size + 1))) with
            | none => rfl
            | some r =>
              obtain ⟨t2, order⟩ := r
              dsimp only
              rw [map_order, Array.size_map, Array.size_map]
              split <;> rfl
          · rfl
theorem run_nat : ∀ (l : List (Int × α)) (es : Array (Int × α)) (t : SetTable), runG (l.map (onE f)) (es.map (onE f)) t = (runG l es t).map fun r => (r.1.map (onE f), r.2)
  | [], es, t => rfl
  | p :: l, es, t => by
    show (match stepG (es.map (onE f)) t p.1 (f p.2) with
      | some r => if goodT r.1.size r.2 then runG (l.map (onE f)) r.1 r.2 else none
      | none => none) = _
    rw [step_nat]
    rw [show runG (p :: l) es t = (match stepG es t p.1 p.2 with
      | some r => if goodT r.1.size r.2 then runG l r.1 r.2 else none
      | none => none) from rfl]
    cases stepG es t p.1 p.2 with
    | none => rfl
    | some r =>
      dsimp only [Option.map_some]
      rw [Array.size_map]
      split
      · exact run_nat l r.1 r.2
      · rfl
end
/-- what a set holds -/
def SetB (h : Heap) (a : Addr) (es : Array (Int × Value)) (ep : Nat) (t : SetTable) : Prop := ∃ o, h.get? a = some o ∧ o.ExactSet ∧ o.data = .set es ep t
section
variable {P : Program} {w : World} {A : Around} {E : Value → Shared → Prop}
abbrev entE (P : Program) (w : World) (p : Addr × List Int) : Int × Value := (thash P w p.2, .ref p.1)
theorem loop_big {I : Addr} {fp wr : List Addr} {G : Array GenState → Array GenState → Prop} {n : Nat} {Pv : Nat → Value → Prop} {St : Nat → Shared → Prop} {R : Result → Shared → Prop}
    (W : WalksS P w A.in1 I fp wr G n Pv St) (S : Addr) (hSf : S ∉ fp) (ks : List (Addr × List Int)) (hn : n = ks.length) (hval : ∀ i v, Pv i v → ∃ p, ks[i]? = some p ∧ v = .ref p.1)
    (h0 : Heap) (hk : ∀ p ∈ ks, IsT P w h0 p.2 p.1) (hS0 : h0.get? S = none) (hw0 : ∀ b ∈ wr, h0.get? b = none) (hu : A.in1.units < cLine) {esF : Array (Int × Value)} {tF : SetTable} :
    ∀ (m i : Nat) (s : Shared) (es : Array (Int × Value)) (ep : Nat) (t : SetTable), n - i = m → i ≤ n → St i s → (∀ b o, h0.get? b = some o → s.heap.get? b = some o) → SetB s.heap S es ep t → goodT es.size t = true →
      runG ((ks.drop i).map (entE P w)) es t = some (esF, tF) →
      (∀ s' ep', Moved (S :: wr) G s s' → SetB s'.heap S esF ep' tF → (∀ b o, h0.get? b = some o → s'.heap.get? b = some o) → R (.ok (.ret .none)) s') →
      codeAny (model P w) A (.builtin "set.update.loop" ⟨[.ref S, .ref I], []⟩) R s := by
  have hSw : S ∉ wr := fun h => hSf (W.sub _ h)
  have hsub : ∀ b ∈ wr, b ∈ S :: wr := fun b hb => List.mem_cons_of_mem _ hb
  have keepM : ∀ {s s' : Shared}, Moved wr G s s' → (∀ b o, h0.get? b = some o → s.heap.get? b = some o) → ∀ b o, h0.get? b = some o → s'.heap.get? b = some o := fun hm hkp b o e =>
    hm.heap b o (fun hb => by rw [hw0 b hb] at e; cases e) (hkp b o e)
  have keepS : ∀ {s s' : Shared} {es : Array (Int × Value)} {ep : Nat} {t : SetTable}, Moved wr G s s' → SetB s.heap S es ep t → SetB s'.heap S es ep t := fun hm ⟨o, ho, r⟩ => ⟨o, hm.heap S o hSw ho, r⟩
  intro m
  induction m with
  | zero =>
    intro i s es ep t hm hi hst hkp hS hg hr hR
    obtain rfl : i = n := by omega
    rw [hn, List.drop_length] at hr
    obtain ⟨rfl, rfl⟩ := Prod.mk.inj (Option.some.inj hr)
    refine codeAny_builtin PyProof.Rows.F.entry_set_update_loop ?_
    rw [Around.under_plainId PyProof.Rows.F.plain_set_update_loop _]
    show wpAny _ A.in1 (pyNext (.ref I) >>= _) _ _ s
    refine wpAny_bind (W.done s _ _ hst fun s' hm => ?_)
    show wpAny _ A.in1 (ret Value.none) _ _ s'
    exact wpAny_pure (hR s' ep (hm.mono hsub) (keepS hm hS) (keepM hm hkp))
  | succ m ih =>
    intro i s es ep t hm hi hst hkp hS hg hr hR
    have hlt : i < n := by omega
    refine codeAny_builtin PyProof.Rows.F.entry_set_update_loop ?_
    rw [Around.under_plainId PyProof.Rows.F.plain_set_update_loop _]
    show wpAny _ A.in1 (pyNext (.ref I) >>= _) _ _ s
    refine wpAny_bind (W.item i s _ _ hlt hst fun v s' hP hst' hm' => ?_)
    obtain ⟨p, hp, rfl⟩ := hval i v hP
    have hkp' := keepM hm' hkp
    obtain ⟨o, ho, hex, hd⟩ := keepS hm' hS
    have hx : IsT P w s'.heap p.2 p.1 := isT_keep (hk p (List.mem_of_getElem? hp)) hkp'
    rw [show ks.drop i = p :: ks.drop (i + 1) from by
      obtain ⟨hl, e⟩ := List.getElem?_eq_some_iff.mp hp
      rw [← e]; exact List.drop_eq_getElem_cons hl] at hr
    rw [List.map_cons] at hr
    unfold runG at hr
    cases hs : stepG es t (thash P w p.2) (Value.ref p.1) with
    | none => rw [hs] at hr; cases hr
    | some r =>
      rw [hs] at hr
      dsimp only at hr
      cases hgg : goodT r.1.size r.2 with
      | false => rw [hgg] at hr; cases hr
      | true =>
        rw [hgg, if_pos rfl] at hr
        obtain ⟨es2, t2⟩ := r
        show wpAny _ A.in1 (holding [Value.ref p.1] (setAdd S (.ref p.1)) >>= _) _ _ s'
        refine wpAny_bind (wpAny_holding ?_)
        unfold setAdd
        refine wpAny_holding ?_
        refine wpAny_bind (wpAny_pyHash_tuple hu hx ?_)
        refine big_add (s := { s' with toks := s'.toks + (p.2.length + 1) }) ho hex hd hg hx hs fun h' o' ep' hsb ho' hex' hd' => ?_
        have hkp2 : ∀ b o, h0.get? b = some o → h'.get? b = some o := fun b o e => (hsb.2 b (fun z => by rw [z, hS0] at e; cases e)).trans (hkp' b o e)
        refine wpAny_pure ⟨plainId_quiet PyProof.Rows.F.plain_set_update_loop _, ih (i + 1) _ es2 ep' t2 (by omega) hlt (W.frame _ s' _ _ hst' (Nat.le_add_right _ _) fun b hb o e => ?_) hkp2 ⟨o', ho', hex', hd'⟩ hgg hr fun s'' ep2 hm'' hS'' hkp'' => ?_⟩
        · rw [hsb.2 b (fun h : b = S => hSf (by rw [← h]; exact hb))]; exact e
        · refine hR s'' ep2 (Moved.trans W.gtrans ((hm'.mono hsub).then_heap (Nat.le_add_right _ _) fun b o hb e => ?_) hm'') hS'' hkp''
          rw [hsb.2 b (fun h : b = S => hb (by rw [h]; exact List.mem_cons_self))]; exact e
end
end SxSet
end
section
/-! sets of entries of unlike hashes: there is always room on the way -/
namespace SxSet
open PySem PySem.Spec PyProof.Rows L2
/-! the round of i -> 5 i + 1 reaches every slot: told by one great number -/
def walkN (m : Nat) : Nat → Nat → List Nat
  | 0, _ => []
  | n + 1, x => x :: walkN m n ((x * 5 + 1) % (m + 1))
def bitsN : List Nat → Nat
  | [] => 0
  | x :: l => 2 ^ x ||| bitsN l
theorem bitsN_mem : ∀ {l : List Nat} {j : Nat}, (bitsN l).testBit j = true → j ∈ l
  | [], j, h => by
    rw [show bitsN [] = 0 from rfl, Nat.zero_testBit] at h; cases h
  | x :: l, j, h => by
    rw [show bitsN (x :: l) = 2 ^ x ||| bitsN l from rfl, Nat.testBit_or, Bool.or_eq_true] at h
    rcases h with h | h
    · rw [Nat.testBit_two_pow] at h
      rw [of_decide_eq_true h]; exact List.mem_cons_self
    · exact List.mem_cons_of_mem _ (bitsN_mem h)
theorem walkN_mem (m : Nat) : ∀ (n a j : Nat), j ∈ walkN m n (lcgN m a) → ∃ b, b < n ∧ lcgN m (a + b) = j
  | 0, a, j, h => by cases h
  | n + 1, a, j, h => by
    rcases List.mem_cons.mp h with e | e
    · exact ⟨0, by omega, e.symm⟩
    · obtain ⟨b, hb, e⟩ := walkN_mem m n (a + 1) j e
      exact ⟨b + 1, by omega, by rw [← e]; congr 1; omega⟩
structure Full (m : Nat) : Prop where
  all : ∀ j ≤ m, ∃ b, b ≤ m ∧ lcgN m b = j
  rnd : lcgN m (m + 1) = 0
  odd : m % 2 = 1
def lcgB (m : Nat) : Bool := Nat.beq (bitsN (walkN m (m + 1) 0)) (2 ^ (m + 1) - 1)
def lastN (m : Nat) : Nat → Nat → Nat
  | 0, x => x
  | n + 1, x => lastN m n ((x * 5 + 1) % (m + 1))
theorem lastN_eq (m : Nat) : ∀ n a, lastN m n (lcgN m a) = lcgN m (a + n)
  | 0, a => rfl
  | n + 1, a => by
    show lastN m n (lcgN m (a + 1)) = _
    rw [lastN_eq m n (a + 1)]; congr 1; omega
theorem full_of {m : Nat} (h1 : lcgB m = true) (h2 : Nat.beq (lastN m (m + 1) 0) 0 = true) (h3 : m % 2 = 1) : Full m := by
  refine ⟨fun j hj => ?_, ?_, h3⟩
  · have e := Nat.eq_of_beq_eq_true h1
    have : (bitsN (walkN m (m + 1) (lcgN m 0))).testBit j = true := by
      rw [show lcgN m 0 = 0 from rfl, e, Nat.testBit_two_pow_sub_one]; exact decide_eq_true (by omega)
    obtain ⟨b, hb, e⟩ := walkN_mem m (m + 1) 0 j (bitsN_mem this)
    exact ⟨b, by omega, by rw [← e]; congr 1; omega⟩
  · have e := Nat.eq_of_beq_eq_true h2
    have := lastN_eq m (m + 1) 0
    rw [show lcgN m 0 = 0 from rfl, e, Nat.zero_add] at this
    exact this.symm
theorem full7 : Full 7 := full_of (by decide +kernel) (by decide +kernel) rfl
theorem full31 : Full 31 := full_of (by decide +kernel) (by decide +kernel) rfl
theorem full127 : Full 127 := full_of (by decide +kernel) (by decide +kernel) rfl
theorem full511 : Full 511 := full_of (by decide +kernel) (by decide +kernel) rfl
theorem full2047 : Full 2047 := full_of (by decide +kernel) (by decide +kernel) rfl
section
variable {m : Nat}
theorem Full.back (F : Full m) : ∀ k, lcgN m (m + 1 + k) = lcgN m k
  | 0 => F.rnd
  | k + 1 => by
    show (lcgN m (m + 1 + k) * 5 + 1) % (m + 1) = (lcgN m k * 5 + 1) % (m + 1)
    rw [F.back k]
theorem Full.from_ (F : Full m) {i j : Nat} (hi : i ≤ m) (hj : j ≤ m) : ∃ k, k ≤ m ∧ lcgI m i k = j := by
  obtain ⟨a, ha, rfl⟩ := F.all i hi
  obtain ⟨b, hb, rfl⟩ := F.all j hj
  by_cases c : a ≤ b
  · exact ⟨b - a, by omega, by rw [lcgN_add]; congr 1; omega⟩
  · refine ⟨b + (m + 1) - a, by omega, ?_⟩
    rw [lcgN_add, show a + (b + (m + 1) - a) = m + 1 + b by omega, F.back]
theorem Full.runs (F : Full m) (h : Int) {j : Nat} (hj : j ≤ m) : ∃ n, n ≤ m + 12 ∧ runI m (SetTable.bits h) n = j := by
  obtain ⟨k, hk, e⟩ := F.from_ (runI_le m (SetTable.bits h) 12) hj
  exact ⟨12 + k, by omega, (runI_tail (bits_lt h) k).trans e⟩
theorem Full.meets (F : Full m) (h : Int) {j : Nat} (hj : j ≤ m) : ∃ k, k < 10 * SetTable.turns m ∧ way m h k = j := by
  obtain ⟨n, hn, e⟩ := F.runs h hj
  obtain ⟨k, hk, e2⟩ := run_nth m (SetTable.bits h) n
  have ht : SetTable.turns m = m + 15 := rfl
  refine ⟨k, by omega, ?_⟩
  show (nth m _ k).j = j
  rw [e2]; exact e
theorem way_in {h : Int} {k : Nat} : way m h k ≤ m := by
  have h0 : (runAt m (SetTable.bits h % (m + 1)) (SetTable.bits h)).j + (runAt m (SetTable.bits h % (m + 1)) (SetTable.bits h)).more ≤ m := by
    have hi : SetTable.bits h % (m + 1) ≤ m := Nat.le_of_lt_succ (Nat.mod_lt _ (Nat.succ_pos _))
    obtain ⟨a, b, c⟩ := runEnd_bd hi
    show SetTable.bits h % (m + 1) + (SetTable.runEnd m (SetTable.bits h % (m + 1)) - SetTable.bits h % (m + 1)) ≤ m
    omega
  have := nth_in k _ h0
  show (nth m _ k).j ≤ m
  omega
/-- a free slot for one more -/
theorem Full.free (F : Full m) (owner : Array (Option Nat)) (h : Int) {j : Nat} (hj : j ≤ m) (hf : oAt owner j = none) :
    ∃ i, SetTable.layClean.free m owner (SetTable.turns m) (SetTable.bits h % (m + 1)) (SetTable.bits h) = some i ∧ i ≤ m ∧ oAt owner i = none := by
  obtain ⟨n, hn, e⟩ := F.runs h hj
  obtain ⟨o, eo⟩ : ∃ o, o = off m (SetTable.bits h % (m + 1)) (SetTable.bits h) n := ⟨_, rfl⟩
  have hw : way m h o = j := by
    rw [eo]
    show (nth m (runAt m _ _) (off m _ _ n)).j = j
    rw [nth_off, itL_run]; exact e
  obtain ⟨K, k1, k2, k3⟩ := st_least (p := fun k => oAt owner (way m h k) = none) o (by show oAt owner (way m h o) = none; rw [hw]; exact hf)
  have ht : SetTable.turns m = m + 15 := rfl
  refine ⟨way m h K, free_spec m owner (SetTable.turns m) n _ _ K (by omega) (by rw [← eo]; exact k1) (fun k hk => ?_) ?_, way_in, k2⟩
  · have q := k3 k hk
    cases z : oAt owner (way m h k) with
    | none => exact absurd z q
    | some x => rfl
  · have k2' : oAt owner (nth m (runAt m (SetTable.bits h % (m + 1)) (SetTable.bits h)) K).j = none := k2
    rw [k2']; rfl
/-- who sits where, no word of how he came there -/
structure Sits (m n : Nat) (owner : Array (Option Nat)) : Prop where
  sz : owner.size = m + 1
  all : ∀ k < n, ∃ j, j ≤ m ∧ oAt owner j = some k
  ps : ∃ ps : List Nat, ps.length = n ∧ ∀ j, j ≤ m → oAt owner j ≠ none → j ∈ ps
theorem Sits.one (F : Full m) {n : Nat} {owner : Array (Option Nat)} (W : Sits m n owner) (hl : n ≤ m) (h : Int) :
    ∃ j, SetTable.layClean.free m owner (SetTable.turns m) (SetTable.bits h % (m + 1)) (SetTable.bits h) = some j ∧ Sits m (n + 1) (owner.setIfInBounds j (some n)) := by
  obtain ⟨ps, hps, hin⟩ := W.ps
  obtain ⟨j0, h0, hn0⟩ := st_missing ps (m + 1) (by omega)
  have hj0 : oAt owner j0 = none := by
    cases z : oAt owner j0 with
    | none => rfl
    | some k => exact absurd (hin j0 (by omega) (by rw [z]; simp)) hn0
  obtain ⟨i, e1, hi, e2⟩ := F.free owner h (Nat.le_of_lt_succ h0) hj0
  have his : i < owner.size := by rw [W.sz]; omega
  have hself := oAt_set_self (some n) his
  refine ⟨i, e1, ⟨by rw [Array.size_setIfInBounds]; exact W.sz, fun k hk => ?_, ⟨i :: ps, by rw [List.length_cons, hps], fun j hj e => ?_⟩⟩⟩
  · by_cases c : k < n
    · obtain ⟨j, hj, e⟩ := W.all k c
      exact ⟨j, hj, by rw [oAt_set_ne _ fun z => by rw [z, e2] at e; cases e]; exact e⟩
    · exact ⟨i, hi, by rw [show k = n by omega]; exact hself⟩
  · by_cases c : j = i
    · rw [c]; exact List.mem_cons_self
    · rw [oAt_set_ne _ c] at e
      exact List.mem_cons_of_mem _ (hin j hj e)
theorem Sits.more (F : Full m) : ∀ (rest : List Int) (n : Nat) (owner : Array (Option Nat)), Sits m n owner → n + rest.length ≤ m →
    ∃ owner', rest.foldl (stepF m) (some (owner, n)) = some (owner', n + rest.length) ∧ Sits m (n + rest.length) owner'
  | [], n, owner, W, _ => ⟨owner, rfl, W⟩
  | h :: rest, n, owner, W, hl => by
    rw [List.length_cons] at hl
    obtain ⟨j, e, W'⟩ := W.one F (by omega) h
    obtain ⟨owner', f, W2⟩ := Sits.more F rest (n + 1) _ W' (by omega)
    refine ⟨owner', ?_, by rw [List.length_cons, show n + (rest.length + 1) = n + 1 + rest.length by omega]; exact W2⟩
    rw [List.foldl_cons, stepF_some e, f, List.length_cons, show n + (rest.length + 1) = n + 1 + rest.length by omega]
/-- the table, no word of the ways -/
structure TabA (t : SetTable) (n : Nat) : Prop where
  ris : Ris t.place.toList
  dm : t.dummies = #[]
  sz : t.place.size = n
  bd : ∀ x ∈ t.place.toList, x ≤ t.mask
theorem laid_anew (F : Full m) (t : SetTable) {hs : Array Int} {wanted : Nat} (hw : SetTable.sizeAbove wanted - 1 = m) (hn : hs.size ≤ m) :
    ∃ t' order, t.relaid hs wanted = some (t', order) ∧ order.toList.Perm (List.range hs.size) ∧ TabA t' hs.size ∧ t'.mask = m ∧ t'.led = t.led ∧ t'.plain = t.plain := by
  have W0 : Sits m 0 (Array.replicate (m + 1) none) := ⟨by simp, fun k hk => by omega, [], rfl, fun j hj e => absurd (oAt_init hj) e⟩
  obtain ⟨owner, f, W⟩ := Sits.more F hs.toList 0 _ W0 (by rw [Array.length_toList]; omega)
  rw [Nat.zero_add, Array.length_toList] at f W
  have hr : t.relaid hs wanted = some (tabOf t m owner, ((liveOf m owner).map (·.2)).toArray) := by
    rw [relaid_eq, hw, layClean_eq, f]; rfl
  have ris := ris_live (fun j => owner.getD j none) (List.range (m + 1)) (by unfold Ris; first | exact List.pairwise_lt_range | exact List.pairwise_lt_range _)
  have r1 : Ris ((liveOf m owner).map (·.1)) := ris.1
  have r2 : ∀ x ∈ (liveOf m owner).map (·.1), x ∈ List.range (m + 1) := ris.2
  have nd : ((liveOf m owner).map (·.1)).Nodup := List.Pairwise.imp (fun h => Nat.ne_of_lt h) r1
  have hlen : (liveOf m owner).length = hs.size := by
    obtain ⟨ps, p1, p2⟩ := W.ps
    have a := nat_nodup_len _ ps nd fun x hx => by
      obtain ⟨⟨y, k⟩, hq, rfl⟩ := List.mem_map.mp hx
      obtain ⟨b1, b2⟩ := (mem_live W.sz).1 hq
      exact p2 y b1 (by rw [b2]; simp)
    have b := nat_nodup_len (List.range hs.size) ((liveOf m owner).map (·.2)) List.nodup_range fun k hk => by
      obtain ⟨j, b1, b2⟩ := W.all k (List.mem_range.mp hk)
      exact List.mem_map.mpr ⟨(j, k), (mem_live W.sz).2 ⟨b1, b2⟩, rfl⟩
    rw [List.length_map] at a b
    rw [List.length_range] at b
    omega
  refine ⟨_, _, hr, ?_, ⟨r1, rfl, ?_, fun x hx => ?_⟩, rfl, rfl, rfl⟩
  · refine perm_range hs.size _ ?_ fun k hk => ?_
    · show ((liveOf m owner).map (·.2)).length = _
      rw [List.length_map]; exact hlen
    · obtain ⟨j, b1, b2⟩ := W.all k hk
      exact List.mem_map.mpr ⟨(j, k), (mem_live W.sz).2 ⟨b1, b2⟩, rfl⟩
  · show ((liveOf m owner).map (·.1)).toArray.size = _
    rw [List.size_toArray, List.length_map]; exact hlen
  · exact Nat.le_of_lt_succ (List.mem_range.mp (r2 x hx))
/-- fewer than the table holds, the mask by their number -/
def MaskN (m n : Nat) : Prop := (m = 7 ∧ n ≤ 4) ∨ (m = 31 ∧ n ≤ 18) ∨ (m = 127 ∧ n ≤ 76) ∨ (m = 511 ∧ n ≤ 306) ∨ (m = 2047 ∧ n ≤ 1228)
theorem MaskN.full {n : Nat} (h : MaskN m n) : Full m ∧ n * 5 < m * 3 ∧ n < m := by
  rcases h with ⟨rfl, h⟩ | ⟨rfl, h⟩ | ⟨rfl, h⟩ | ⟨rfl, h⟩ | ⟨rfl, h⟩
  · exact ⟨full7, by omega, by omega⟩
  · exact ⟨full31, by omega, by omega⟩
  · exact ⟨full127, by omega, by omega⟩
  · exact ⟨full511, by omega, by omega⟩
  · exact ⟨full2047, by omega, by omega⟩
theorem MaskN.next {n : Nat} (h : MaskN m n) (hn : n + 1 ≤ 1200) : ((n + 1) * 5 < m * 3 ∧ MaskN m (n + 1)) ∨
    (m * 3 ≤ (n + 1) * 5 ∧ ∃ M, SetTable.sizeAbove (SetTable.grown (n + 1)) - 1 = M ∧ SetTable.sizeAbove (SetTable.grown (n + 1)) ≤ 100000 ∧ MaskN M (n + 1)) := by
  rcases h with ⟨rfl, h⟩ | ⟨rfl, h⟩ | ⟨rfl, h⟩ | ⟨rfl, h⟩ | ⟨rfl, h⟩
  · by_cases c : n + 1 ≤ 4
    · exact .inl ⟨by omega, .inl ⟨rfl, c⟩⟩
    · obtain rfl : n = 4 := by omega
      exact .inr ⟨by decide, 31, by decide +kernel, by decide +kernel, .inr (.inl ⟨rfl, by decide⟩)⟩
  · by_cases c : n + 1 ≤ 18
    · exact .inl ⟨by omega, .inr (.inl ⟨rfl, c⟩)⟩
    · obtain rfl : n = 18 := by omega
      exact .inr ⟨by decide, 127, by decide +kernel, by decide +kernel, .inr (.inr (.inl ⟨rfl, by decide⟩))⟩
  · by_cases c : n + 1 ≤ 76
    · exact .inl ⟨by omega, .inr (.inr (.inl ⟨rfl, c⟩))⟩
    · obtain rfl : n = 76 := by omega
      exact .inr ⟨by decide, 511, by decide +kernel, by decide +kernel, .inr (.inr (.inr (.inl ⟨rfl, by decide⟩)))⟩
  · by_cases c : n + 1 ≤ 306
    · exact .inl ⟨by omega, .inr (.inr (.inr (.inl ⟨rfl, c⟩)))⟩
    · obtain rfl : n = 306 := by omega
      exact .inr ⟨by decide, 2047, by decide +kernel, by decide +kernel, .inr (.inr (.inr (.inr ⟨rfl, by decide⟩)))⟩
  · exact .inl ⟨by omega, .inr (.inr (.inr (.inr ⟨rfl, by omega⟩)))⟩
/-- what a run of adding keeps -/
structure Keeps {α : Type} (es : Array (Int × α)) (t : SetTable) (led : Bool) : Prop where
  tab : TabA t es.size
  msk : MaskN t.mask es.size
  pl : t.plain = true
  ld : t.led = led
theorem TabA.fits {t : SetTable} {n : Nat} (T : TabA t n) (h : n ≤ t.mask) : t.fits n = true := by
  unfold SetTable.fits SetTable.fill
  rw [T.sz, T.dm, beq_self_eq_true, Bool.true_and]
  exact decide_eq_true (by simpa using h)
theorem Keeps.good {α : Type} {es : Array (Int × α)} {t : SetTable} {led : Bool} (k : Keeps es t led) : goodT es.size t = true := by
  obtain ⟨F, h1, h2⟩ := k.msk.full
  have hm : t.mask ≤ 2047 := by rcases k.msk with ⟨e, _⟩ | ⟨e, _⟩ | ⟨e, _⟩ | ⟨e, _⟩ | ⟨e, _⟩ <;> omega
  unfold goodT
  rw [k.tab.fits (Nat.le_of_lt h2), k.pl, F.odd]
  simp; omega
theorem step_ok {α : Type} {es : Array (Int × α)} {t : SetTable} {led : Bool} (k : Keeps es t led) {h : Int} {x : α} (nh : h ∉ es.toList.map (·.1)) (hn : es.size + 1 ≤ 1200) :
    ∃ es' t', stepG es t h x = some (es', t') ∧ Keeps es' t' led ∧ es'.toList.Perm ((h, x) :: es.toList) ∧ es'.size = es.size + 1 := by
  obtain ⟨F, h5, hm⟩ := k.msk.full
  have T := k.tab
  -- the first empty slot
  obtain ⟨j0, hj0, hn0⟩ := st_missing t.place.toList (t.mask + 1) (by rw [Array.length_toList, T.sz]; omega)
  obtain ⟨k0, hk0, e0⟩ := F.meets h (Nat.le_of_lt_succ hj0)
  obtain ⟨K, h1, h2, h3⟩ := st_least (p := fun k => way t.mask h k ∉ t.place.toList) k0 (by show way t.mask h k0 ∉ _; rw [e0]; exact hn0)
  have hin : ∀ k', k' < K → way t.mask h k' ∈ t.place.toList := fun k' hk' => Classical.byContradiction fun c => h3 k' hk' c
  have pr : t.probe (fun i => (es[i]?.map (·.1)).getD 0) h (t.probeStart h) = some (.empty (way t.mask h K) none) := by
    unfold SetTable.probe
    rcases go_spec t T.ris T.dm (fun i => (es[i]?.map (·.1)).getD 0) h (10 * SetTable.turns t.mask) K (t.probeStart h) rfl (Nat.lt_of_le_of_lt h1 hk0) hin h2 with ⟨k', i, a1, a2, a3, _⟩ | ⟨_, a2⟩
    · exfalso
      have hi : i < es.size := by
        have := (List.getElem?_eq_some_iff.mp a2).1
        rw [Array.length_toList, T.sz] at this
        exact this
      refine nh ?_
      rw [Array.getElem?_eq_getElem hi] at a3
      rw [← show es[i].1 = h from a3]
      exact List.mem_map.mpr ⟨es[i], Array.getElem_mem_toList hi, rfl⟩
    · exact a2
  obtain ⟨j, ej⟩ : ∃ j, j = way t.mask h K := ⟨_, rfl⟩
  have hjm : j ≤ t.mask := by rw [ej]; exact way_in
  rw [← ej] at pr h2
  obtain ⟨c1, _, _⟩ := below_cut T.ris j
  have hpl : SetTable.below t.place j ≤ t.place.toList.length := by rw [Array.length_toList]; exact c1
  have hnp : t.place[SetTable.below t.place j]? ≠ some j := fun e => h2 (List.mem_of_getElem? (by rw [Array.getElem?_toList]; exact e))
  have hpp := put_place t j
  have hsz1 : (t.put j).1.place.size = es.size + 1 := by
    rw [← Array.length_toList, hpp, len_ins _ hpl, Array.length_toList, T.sz]
  have T1 : TabA (t.put j).1 (es.size + 1) := ⟨ris_insert T.ris hnp, put_dm T.dm j, hsz1, fun x hx => by
    rw [hpp] at hx
    rcases mem_ins.1 hx with z | z
    · rw [z]; exact hjm
    · exact T.bd x z⟩
  obtain ⟨t1, et1⟩ : ∃ t1, t1 = (t.put j).1 := ⟨_, rfl⟩
  obtain ⟨es1, ee1⟩ : ∃ es1, es1 = SetTable.insertAt es (t.put j).2 (h, x) := ⟨_, rfl⟩
  have hm1 : t1.mask = t.mask := by rw [et1]; rfl
  have hp1 : t1.plain = true := by rw [et1]; exact k.pl
  have hl1 : t1.led = led := by rw [et1]; exact k.ld
  have z1 : es1.size = es.size + 1 := by rw [ee1]; exact insert_size ..
  have p1 : es1.toList.Perm ((h, x) :: es.toList) := by
    rw [ee1]
    refine (SetTable.insertAt_perm es (t.put j).2 (h, x)).trans ?_
    rw [Array.toList_push]
    exact List.perm_append_singleton _ _
  rw [← et1] at T1
  have fl : t1.fill = es.size + 1 := by
    unfold SetTable.fill
    rw [T1.sz, T1.dm]; rfl
  unfold stepG
  rw [pr]
  dsimp only
  rw [← et1, ← ee1, if_neg (by rw [T1.fits (by rw [hm1]; omega)]; decide)]
  rcases k.msk.next hn with ⟨q1, q2⟩ | ⟨q1, M, q2, q3, q4⟩
  · have hf : t1.tooFull = false := by
      unfold SetTable.tooFull
      rw [fl, hm1]; exact decide_eq_false (by omega)
    rw [hf, if_neg (by decide)]
    exact ⟨es1, t1, rfl, ⟨by rw [z1]; exact T1, by rw [z1, hm1]; exact q2, hp1, hl1⟩, p1, z1⟩
  · have hf : t1.tooFull = true := by
      unfold SetTable.tooFull
      rw [fl, hm1]; exact decide_eq_true (by omega)
    rw [hf, if_pos rfl]
    obtain ⟨FM, _, hM⟩ := q4.full
    have hz2 : (es1.map (·.1)).size = es.size + 1 := by rw [Array.size_map, z1]
    obtain ⟨t2, order, r1, r2, r3, r4, r5, r6⟩ := laid_anew FM t1 (hs := es1.map (·.1)) q2 (by rw [hz2]; omega)
    rw [r1]
    dsimp only
    rw [hz2] at r2 r3
    have pm : (order.filterMap (es1[·]?)).toList.Perm es1.toList := by
      rw [Array.toList_filterMap]
      refine (r2.filterMap _).trans ?_
      have : (List.range (es.size + 1)).filterMap (fun i => es1[i]?) = es1.toList := by
        rw [← z1, ← Array.length_toList]
        have hg : (fun i => es1[i]?) = fun i => es1.toList[i]? := funext fun i => (Array.getElem?_toList (xs := es1)).symm
        rw [hg]
        refine List.ext_getElem? fun i => ?_
        have hx : ∀ (l : List (Int × α)), (List.range l.length).filterMap (fun i => l[i]?) = l := fun l => by
          have : ∀ n, (List.range n).filterMap (fun i => l[i]?) = l.take n := fun n => by
            induction n with
            | zero => rfl
            | succ n ih =>
              rw [List.range_succ, List.filterMap_append, ih, List.take_succ]
              congr 1
              try (cases l[n]? <;> simp)
          rw [this, List.take_length]
        rw [hx]
      rw [this]
    have sz2 : (order.filterMap (es1[·]?)).size = es1.size := by
      rw [← Array.length_toList, pm.length_eq, Array.length_toList]
    rw [if_pos ⟨q3, sz2⟩]
    exact ⟨_, t2, rfl, ⟨by rw [sz2, z1]; exact r3, by rw [sz2, z1, r4]; exact q4, by rw [r6]; exact hp1, by rw [r5]; exact hl1⟩, pm.trans p1, by rw [sz2, z1]⟩
theorem run_ok {α : Type} {led : Bool} : ∀ (l : List (Int × α)) (es : Array (Int × α)) (t : SetTable), Keeps es t led → ((es.toList ++ l).map (·.1)).Nodup → es.size + l.length ≤ 1200 →
    ∃ es' t', runG l es t = some (es', t') ∧ Keeps es' t' led ∧ es'.toList.Perm (es.toList ++ l)
  | [], es, t, k, _, _ => ⟨es, t, rfl, k, by rw [List.append_nil]⟩
  | (h, x) :: l, es, t, k, nd, hl => by
    rw [List.length_cons] at hl
    have nh : h ∉ es.toList.map (·.1) := fun z => by
      rw [List.map_append, List.map_cons] at nd
      exact (List.nodup_append.mp nd).2.2 _ z _ List.mem_cons_self rfl
    obtain ⟨es1, t1, e1, k1, p1, z1⟩ := step_ok k (x := x) nh (by omega)
    have p2 : (es1.toList ++ l).Perm (es.toList ++ (h, x) :: l) := (p1.append_right l).trans (by
      rw [List.cons_append]; exact List.perm_middle.symm)
    obtain ⟨es2, t2, e2, k2, q2⟩ := run_ok l es1 t1 k1 ((p2.map _).nodup_iff.mpr nd) (by omega)
    refine ⟨es2, t2, ?_, k2, q2.trans p2⟩
    unfold runG
    rw [e1]
    dsimp only
    rw [k1.good, if_pos rfl]
    exact e2
theorem keeps_fresh {α : Type} (led : Bool) : Keeps (α := α) #[] (.fresh 0 0 led) led := ⟨⟨List.Pairwise.nil, rfl, rfl, fun x h => by cases h⟩, .inl ⟨rfl, Nat.zero_le _⟩, rfl, rfl⟩
theorem run_fresh {α : Type} (led : Bool) {l : List (Int × α)} (nd : (l.map (·.1)).Nodup) (hl : l.length ≤ 1200) : ∃ es t, runG l #[] (.fresh 0 0 led) = some (es, t) ∧ Keeps es t led ∧ es.toList.Perm l := by
  obtain ⟨es, t, e, k, p⟩ := run_ok l #[] _ (keeps_fresh led) (by simpa using nd) (by simpa using hl)
  exact ⟨es, t, e, k, by simpa using p⟩
end
end SxSet
end
section
/-! set(xs) and sorted(set), of tuples of ints of unlike hashes -/
namespace SxSet
open PySem PySem.Spec PyProof.Rows L2
section
variable {P : Program} {w : World} {A : Around} {E : Value → Shared → Prop} {s : Shared}
abbrev ledW (w : World) : Bool := !w.params.followText "set-order"
abbrev newSet (w : World) : Obj := { cls := .type "set", dict := none, data := .set #[] 0 (.fresh 0 0 (ledW w)) }
theorem call_set_big {l : Addr} {its : Array Value} (kk : List (Addr × List Int)) {Q : Value → Shared → Prop} {esF : Array (Int × Value)} {tF : SetTable} (hh : A.handled = none) (hl : s.heap.IsList l its) (hit : its.toList = kk.map fun p => Value.ref p.1)
    (hk : ∀ p ∈ kk, IsT P w s.heap p.2 p.1) (hu : A.units + 3 < cLine) (hr : runG (kk.map (entE P w)) #[] (.fresh 0 0 (ledW w)) = some (esF, tF))
    (hQ : ∀ (h' : Heap) (tk : Nat) (ep : Nat), SetB h' s.heap.objs.size esF ep tF → (∀ b o, s.heap.get? b = some o → h'.get? b = some o) → Q (.ref s.heap.objs.size) { s with heap := h', toks := tk }) :
    wpAny (model P w) A (call (.type "set") [.ref l]) Q E s := by
  have hisz : its.size = kk.length := by
    have q := congrArg List.length hit
    rwa [Array.length_toList, List.length_map] at q
  obtain ⟨c, tl, hmro⟩ := F.called_set.mro
  have f1 := F.called_set.made
  have f2 := F.called_set.sub
  refine wpAny_call (codeAny_of_tree ?_)
  show wpAny _ _ (callAny (.type "set") _) _ _ _
  refine wpAny_pure ⟨Code.quiet_builtin _ (by decide +kernel), codeAny_builtin F.entry_type_call ?_⟩
  rw [Around.under_plain (weight_type_call_type "set" [.ref l] []) rfl]
  have f3 := F.called_set.notType
  have f4 := F.called_set.canCreate
  have f5 := F.typeCall_set_1 (.ref l)
  (repeat (any_goals (first | assumption | wp_step)))
  refine codeAny_mono (code_set_led1 (.ref l) (E := E) (Q₁ := fun x s₁ => x = .ref s.heap.objs.size ∧ s₁ = { s with heap := s.heap.push (newSet w) }) ⟨rfl, rfl⟩) fun r s₁ hr1 => ?_
  cases r with
  | error e => exact hr1
  | ok fl =>
    cases fl with
    | ret x =>
      obtain ⟨rfl, rfl⟩ := hr1
      have hS : (s.heap.push (newSet w)).get? s.heap.objs.size = some (newSet w) := Heap.get?_push_size _ rfl
      have hT : Shared.TypeIs { s with heap := s.heap.push (newSet w) } (.ref s.heap.objs.size) "set" := ⟨_, hS, rfl⟩
      have f6 := F.called_set.init.lookup
      have f7 := F.called_set.init.bind (.ref s.heap.objs.size)
      (repeat (any_goals (first | assumption | wp_step)))
      refine codeAny_mono (codeAny_call_builtin (R := wants (fun r s₂ => r = .none ∧ ∃ h' tk ep, s₂ = { s with heap := h', toks := tk } ∧ SetB h' s.heap.objs.size esF ep tF ∧ (∀ b o, s.heap.get? b = some o → h'.get? b = some o)) E) F.called_set.init.plain F.entry_set_init (check_set_init_1 hT ?_)) fun r₂ s₂ hr₂ => ?_
      · obtain ⟨ol, hol, hcl, nl, hdl⟩ := hl
        obtain ⟨ocls, odict, odata, oslots⟩ := ol
        simp only at hcl hdl
        subst hcl; subst hdl
        have hol' : (s.heap.push (newSet w)).get? l = some { cls := .type "list", dict := odict, data := .seq its nl, slots := oslots } := Heap.get?_push_of_some _ hol
        have f8 := F.sub_list_set
        have f9 := F.sub_list_frozenset
        have f10 : (Value.type "list" == Value.type "dict") = false := by decide
        have hl1 : (s.heap.push (newSet w)).IsList l its := ⟨_, hol', rfl, nl, rfl⟩
        unfold Builtin.«set.__init__» noKeywords Builtin.Frozenset.updateFrom
        generalize hPI : pyIter = PI
        wp_walk
        subst hPI
        refine wpAny_pyIter_list hl1 ?_
        refine wpAny_bind (wpAny_runValue ?_)
        have hlS : l < s.heap.objs.size := Heap.lt_size hol
        have hh3 : A.in1.in1.in1.handled = none := by simp [hh]
        have z1 : (s.heap.push (newSet w)).objs.size = s.heap.objs.size + 1 := Heap.size_push ..
        have nI : l ≠ (s.heap.push (newSet w)).objs.size := by rw [z1]; exact Nat.ne_of_lt (Nat.lt_succ_of_lt hlS)
        have nS : s.heap.objs.size ∉ [(s.heap.push (newSet w)).objs.size, l] := by
          rw [z1]; simp only [List.mem_cons, List.not_mem_nil, or_false, not_or]
          exact ⟨Nat.ne_of_lt (Nat.lt_succ_self _), Nat.ne_of_gt hlS⟩
        have hval : ∀ (i : Nat) (v : Value), its[i]? = some v → ∃ p, kk[i]? = some p ∧ v = .ref p.1 := fun i v hv => by
          have q : its.toList[i]? = some v := by rw [Array.getElem?_toList]; exact hv
          rw [hit, List.getElem?_map] at q
          obtain ⟨p, e1, e2⟩ := Option.map_eq_some_iff.mp q
          exact ⟨p, e1, e2.symm⟩
        have above : ∀ b, s.heap.objs.size ≤ b → s.heap.get? b = none := fun b hb => by
          cases q : s.heap.get? b with
          | none => rfl
          | some o => exact absurd (Nat.lt_of_lt_of_le (Heap.lt_size q) hb) (Nat.lt_irrefl _)
        refine loop_big ((Walks.list hh3 _ l nI its).toS) s.heap.objs.size nS kk hisz hval s.heap hk (above _ (Nat.le_refl _)) (fun b hb => above b (by
            rw [List.mem_singleton.mp hb, z1]; exact Nat.le_succ _)) hu (its.size - 0) 0 _ #[] 0 (.fresh 0 0 (ledW w)) (by omega) (Nat.zero_le _)
          ⟨⟨_, Heap.get?_push_size _ rfl, rfl, rfl⟩, (hl1.push _)⟩ (fun b o e => Heap.get?_push_of_some _ (Heap.get?_push_of_some _ e)) ⟨newSet w, Heap.get?_push_of_some _ hS, ⟨rfl, rfl, rfl⟩, rfl⟩ (keeps_fresh (ledW w)).good hr ?_
        intro s' ep hm hS' hkp
        obtain ⟨h', g2, d', tk', os'⟩ := s'
        have eg : g2 = s.gens := hm.gens
        have ed : d' = s.drawn := hm.drawn
        have eo : os' = s.os := hm.os
        subst eg; subst ed; subst eo
        show wpAny _ _ _ _ _ _
        refine wpAny_pure ?_
        show wpAny _ _ (ret Value.none) _ _ _
        exact wpAny_pure ⟨rfl, h', tk', ep, rfl, hS', hkp⟩
      · cases r₂ with
        | error e => exact hr₂
        | ok fl₂ =>
          cases fl₂ with
          | ret r =>
            obtain ⟨rfl, h', tk, ep, rfl, hS', hk'⟩ := hr₂
            (repeat (any_goals (first | assumption | wp_step)))
            exact hQ _ _ _ hS' hk'
          | _ => exact hr₂.elim
    | _ => exact hr1.elim
/-- sorted(set) -/
theorem sorted_big {a : Addr} {kk : List (Addr × List Int)} {es : Array (Int × Value)} {ep : Nat} {t : SetTable} {Q : Value → Shared → Prop} (R : SetB s.heap a es ep t) (K : Keeps es t (ledW w)) (hes : (es.toList.map (·.2)).Perm (kk.map fun p => Value.ref p.1)) (hh : A.handled = none)
    (hk : ∀ p ∈ kk, IsT P w s.heap p.2 p.1) (hfew : kk.length ≤ 1200) (hu : A.units + 65 < cLine) (hal : PySem.W.AllAlike (kk.map fun p => PyData.tuple (p.2.map PyData.int))) (hso : PySem.W.Sortable (kk.map fun p => PyData.tuple (p.2.map PyData.int)))
    (hQ : ∀ s' p (out : Array Value) (c : Nat) (L' : List (Addr × List Int)), (∀ b o, s.heap.get? b = some o → s'.heap.get? b = some o) → s'.gens = s.gens → s'.os = s.os → s.heap.objs.size ≤ p →
      s'.heap.get? p = some (seqObj "list" out c) → out.toList = L'.map (fun q => Value.ref q.1) → (∃ L1 : List (Addr × List Int), L1.Perm kk ∧ L' = L1.mergeSort (PySem.W.dataLe false fun p => PyData.tuple (p.2.map PyData.int))) → Q (.ref p) s') :
    wpAny (model P w) A (call (.builtin "sorted") [.ref a]) Q E s := by
  obtain ⟨o, ho, hex, hd⟩ := R
  obtain ⟨F, _, hm⟩ := K.msk.full
  have hsz : es.size = kk.length := by
    have := hes.length_eq
    rwa [List.length_map, List.length_map, Array.length_toList] at this
  refine Calls.call_function_entry kind_sorted plain_sorted entry_sorted (args_sorted1 _) ?_
  unfold Builtin.«sorted»
  refine wpAny_bind (m := checkCount "sorted" 1 1 _) (wpAny_pure ?_)
  refine wpAny_bind (collect_set (A := A.in1) hh ⟨o, ho, hex.1, hd⟩ (K.tab.fits (Nat.le_of_lt hm)) (by unfold scanBound; omega) K.tab.ris (by
    have := K.ld
    cases z : w.params.followText "set-order"
    · right; rw [this]; unfold ledW; rw [z]; rfl
    · exact .inl rfl) fun s1 vs k1 hz g1 o1 pm => ?_)
  have pm2 := pm.trans hes
  obtain ⟨L1, e1, p1⟩ : ∃ L1 : List (Addr × List Int), vs = L1.map (fun q => Value.ref q.1) ∧ L1.Perm kk := by
    clear hQ
    have gen : ∀ (kk : List (Addr × List Int)) (vs : List Value), vs.Perm (kk.map fun p => Value.ref p.1) → ∃ L1 : List (Addr × List Int), vs = L1.map (fun q => Value.ref q.1) ∧ L1.Perm kk := by
      intro kk vs
      induction vs generalizing kk with
      | nil => intro h; exact ⟨[], rfl, by
          have := h.length_eq
          rw [List.length_map] at this
          rw [List.eq_nil_of_length_eq_zero this.symm]⟩
      | cons v vs ih =>
        intro h
        obtain ⟨q, hq, e⟩ := List.mem_map.mp (h.mem_iff.mp List.mem_cons_self)
        obtain ⟨l1, l2, el⟩ := List.append_of_mem hq
        have pq : kk.Perm (q :: (l1 ++ l2)) := by rw [el]; exact List.perm_middle
        have h2 : (v :: vs).Perm (Value.ref q.1 :: (l1 ++ l2).map fun p => Value.ref p.1) := h.trans (pq.map _)
        rw [e] at h2
        obtain ⟨L1, a1, a2⟩ := ih (l1 ++ l2) (h2.cons_inv)
        exact ⟨q :: L1, by rw [List.map_cons, e, a1], (a2.cons q).trans pq.symm⟩
    exact gen kk vs pm2
  refine wpAny_bind (wpAny_newList ?_ (by rw [e1, List.length_map, p1.length_eq, sizeLine_eq]; omega))
  have hoL : (s1.heap.push (seqObj "list" vs.toArray 0)).get? s1.heap.objs.size = some (seqObj "list" vs.toArray 0) := Heap.get?_push_size _ rfl
  have tk : ∀ q ∈ kk, IsT P w (s1.heap.push (seqObj "list" vs.toArray 0)) q.2 q.1 := fun q hq => isT_keep (hk q hq) fun b u e => Heap.get?_push_of_some _ (k1 b u e)
  have ev : PySem.W.EachIs (fun (v : Value) (b : Addr × List Int) => v = .ref b.1 ∧ b ∈ kk) vs L1 := by
    have hin : ∀ b ∈ L1, b ∈ kk := fun b hb => p1.mem_iff.mp hb
    clear hoL tk
    subst e1
    clear pm pm2 p1
    induction L1 with
    | nil => exact .nil
    | cons b L1 ih => exact .cons ⟨rfl, hin b List.mem_cons_self⟩ (ih fun c hc => hin c (List.mem_cons_of_mem _ hc))
  have rd : ∀ {h : Heap} {b : Addr} {k : List Int}, IsT P w h k b → Reads h (.ref b) (.tuple (k.map PyData.int)) [] := fun {h b k} hx => by
    obtain ⟨o, items, n, ho, hc, hd, hi⟩ := hx
    have all : ∀ (k : List Int) (vs : List Value), ItemsAre (intKind P w) k vs → ReadsAll h vs (k.map PyData.int) [] := fun k vs hi => by
      induction hi with
      | nil => exact .nil
      | @cons k0 v ks vs h1 _ ih =>
        obtain ⟨t, rfl⟩ := Value.isInt_shape h1
        have := ReadsAll.cons (Reads.int k0 t) ih
        simpa using this
    exact Reads.tuple ho hc hd (all _ _ hi)
  have er : PySem.W.EachIs (fun (v : Value) (b : Addr × List Int) => ∃ as, Reads (s1.heap.push (seqObj "list" vs.toArray 0)) v (.tuple (b.2.map PyData.int)) as ∧ s1.heap.objs.size ∉ as) vs L1 := by
    clear hoL pm pm2 p1 e1
    generalize s1.heap.push (seqObj "list" vs.toArray 0) = hp at tk ⊢
    induction ev with
    | nil => exact .nil
    | cons h _ ih => exact .cons (by obtain ⟨rfl, hb⟩ := h; exact ⟨[], rd (tk _ hb), by simp⟩) ih
  have mem1 : ∀ d ∈ L1.map (fun p => PyData.tuple (p.2.map PyData.int)), d ∈ kk.map (fun p => PyData.tuple (p.2.map PyData.int)) := fun d hd => (p1.map _).mem_iff.mp hd
  have hal1 : PySem.W.AllAlike (L1.map fun p => PyData.tuple (p.2.map PyData.int)) := fun d hd d' hd' => hal d (mem1 d hd) d' (mem1 d' hd')
  have hso1 : PySem.W.Sortable (L1.map fun p => PyData.tuple (p.2.map PyData.int)) := hso.imp (fun h d hd => h d (mem1 d hd)) fun h d hd => h d (mem1 d hd)
  refine wpAny_bind (wpAny_holding (PySem.W.list_sort_data (s := { s1 with heap := s1.heap.push (seqObj "list" vs.toArray 0) }) (enc := fun p : Addr × List Int => PyData.tuple (p.2.map PyData.int)) hoL ev er hal1 hso1 (by rw [p1.length_eq, sizeLine_eq]; omega) ?_ fun out hl eo => ?_))
  · intro b hb
    have dz : ∀ l : List Int, PyData.depthAll (l.map PyData.int) = 0 := fun l => by
      induction l with
      | nil => simp [PyData.depthAll]
      | cons n l ih => rw [List.map_cons]; simp only [PyData.depthAll, PyData.depth, ih]; omega
    have : (PyData.tuple (b.2.map PyData.int)).depth ≤ 60 := by
      simp only [PyData.depth, dz]; omega
    show A.units + 1 + 1 + (PyData.tuple (b.2.map PyData.int)).depth < cLine
    omega
  · obtain ⟨c, hc⟩ := sortedHeap_at (vs := vs) (out := out.toArray) hoL
    refine wpAny_pure ⟨_, rfl, hQ _ s1.heap.objs.size out.toArray c _ (fun b u e => ?_) g1 o1 hz hc ?_ ⟨L1, p1, rfl⟩⟩
    · have q := k1 b u e
      have hlt := Heap.lt_size q
      show (sortedHeap (s1.heap.push (seqObj "list" vs.toArray 0)) s1.heap.objs.size vs out.toArray).get? b = some u
      rw [sortedHeap_old (Nat.ne_of_lt hlt) (by rw [size_push']; exact Nat.lt_succ_of_lt hlt)]
      exact Heap.get?_push_of_some _ q
    · show out = _
      clear hl hc
      generalize L1.mergeSort (PySem.W.dataLe false fun p => PyData.tuple (p.2.map PyData.int)) = LL at eo ⊢
      induction eo with
      | nil => rfl
      | cons h _ ih => rw [List.map_cons, h.1, ← ih]
end
end SxSet
end
section
/-! zip of a tuple and a list; enumerate(zip(list, list)): the inner pair stays with the outer one -/
namespace IterX
open PySem PySem.Spec PySem.W PySem.Calls PyProof.Rows
/-- a zip by its first two fields -/
abbrev ZF (h : Heap) (z TI TO : Addr) (x : Value) (f : Bool) : Prop := h.get? z = some { cls := .type "zip", dict := none, data := .fields #[x, .bool f, .bool false, .ref TI, .ref TO], slots := #[] }
section
variable {prog : Program} {w : World} {A : Around} {E : Value → Shared → Prop} {s : Shared} {z TI TO i1 i2 l1 l2 : Addr} {x : Value} {f : Bool} {k : Nat} {xs ys : Array Value}
theorem alive_any {a : Addr} {Q : Option Obj → Shared → Prop} (h : Q (s.heap.get? a) s) : wpAny (model prog w) A (loadIfAlive a) Q E s := fun _ _ _ => h
theorem free_any {Q : Bool → Shared → Prop} (hz : ZF s.heap z TI TO x f) (hx : x = .none ∨ ∃ T : Addr, x = rawInt T) (h1 : Q true s) (h2 : ∀ h', ZF h' z TI TO x true → Heap.SameBut z s.heap h' → Q false { s with heap := h' }) :
    wpAny (model prog w) A (Builtin.SmallTypes.ownedTupleIsFree (.ref z)) Q E s := by
  rcases hx with rfl | ⟨T, rfl⟩
  · unfold Builtin.SmallTypes.ownedTupleIsFree
    exact wpAny_bind (wpAny_field hz rfl (x := .none) rfl (wpAny_pure h1))
  · cases hT : s.heap.get? T with
    | some oT => exact wpAny_tupleHeld_zip hz hT h2
    | none =>
      unfold Builtin.SmallTypes.ownedTupleIsFree
      refine wpAny_bind (wpAny_field hz rfl (x := rawInt T) rfl ?_)
      show wpAny _ _ (loadIfAlive ((T : Int).toNat) >>= _) _ _ _
      rw [Int.toNat_natCast]
      refine wpAny_bind (alive_any ?_)
      rw [hT]
      simp only [Option.isNone_none, reduceIte]
      exact wpAny_pure h1
/-- its next pair, told to whoever asked -/
theorem zipF_item {u v a b : Value} {Q : Value → Shared → Prop} (D : ZipApart z TI TO i1 i2 l1 l2) (hz : ZF s.heap z TI TO x f) (hx : x = .none ∨ ∃ T : Addr, x = rawInt T) (hTI : IsPair s.heap TI (.ref i1) (.ref i2)) (hTO : IsPair s.heap TO a b)
    (c1 : s.heap.IsListIter i1 l1 k) (c2 : s.heap.IsListIter i2 l2 k) (o1 : s.heap.IsList l1 xs) (o2 : s.heap.IsList l2 ys) (gu : xs[k]? = some u) (gv : ys[k]? = some v)
    (q : ∀ h' x' f' a' b', ZF h' z TI TO x' f' → (x' = .none ∨ ∃ T : Addr, x' = rawInt T) → IsPair h' TO a' b' → h'.IsListIter i1 l1 (k + 1) → h'.IsListIter i2 l2 (k + 1) → IsPair h' s.heap.objs.size u v → h'.objs.size = s.heap.objs.size + 1 →
      (∀ c o, c ≠ z → c ≠ TO → c ≠ i1 → c ≠ i2 → s.heap.get? c = some o → h'.get? c = some o) → Q (.ref s.heap.objs.size) { s with heap := h' }) :
    wpAny (model prog w) A (Builtin.«zip.__next__» ⟨[.ref z], []⟩) (fun fin s' => ∃ v, fin = .done (.ret v) ∧ Q v s') E s := by
  show wpAny _ _ (field (.ref z) 2 >>= _) _ _ _
  refine wpAny_bind (wpAny_field hz rfl (x := .bool false) rfl (show wpAny _ _ (field (.ref z) 3 >>= _) _ _ _ from wpAny_bind (wpAny_field hz rfl (x := .ref TI) rfl (wpAny_bind (wpAny_seqItems hTI rfl ?_)))))
  show wpAny _ _ (Builtin.SmallTypes.ownedTupleIsFree (.ref z) >>= _) _ _ _
  refine wpAny_bind (free_any hz hx ?_ fun g1 z1 s1 => ?_)
  · simp only [reduceIte]
    refine wpAny_bind (wpAny_rule (wpAny_bind (wpAny_field hz rfl (x := .ref TO) rfl (wpAny_bind (wpAny_setField_rec hz (by simp) fun g1 z1 s1 => ?_)))))
    replace z1 : ZF g1 z TI TO .ellipsis f := z1
    refine wpAny_bind ?_
    simp only [List.zipIdx_cons, List.zipIdx_nil, List.forIn_cons, List.forIn_nil]
    refine wpAny_bind (wpAny_bind (wpAny_onRaise (show wpAny _ _ (Builtin.SmallTypes.nextOf (.ref i1) >>= _) _ _ _ from wpAny_bind (wpAny_nextOf_list_item (c1.extBut s1.extBut D.i1z) (o1.extBut s1.extBut D.l1z) gu fun g2 c2' s2 => wpAny_pure ?_))))
    have t2 : IsPair g2 TO a b := s2.extBut _ _ D.TOi1 (s1.extBut _ _ D.TOz hTO)
    refine wpAny_bind (wpAny_seqItems t2 rfl (wpAny_bind (wpAny_updateSeq_pair t2 fun g3 t3 s3 => wpAny_bind (wpAny_letGo (wpAny_pure ?_)))))
    replace t3 : IsPair g3 TO u b := t3
    refine wpAny_bind (wpAny_bind (wpAny_onRaise (show wpAny _ _ (Builtin.SmallTypes.nextOf (.ref i2) >>= _) _ _ _ from wpAny_bind (wpAny_nextOf_list_item (((c2.extBut s1.extBut D.i2z).extBut s2.extBut D.i12.symm).extBut s3.extBut D.TOi2.symm)
      (((o2.extBut s1.extBut D.l2z).extBut s2.extBut D.l2i1).extBut s3.extBut D.l2TO) gv fun g4 c4 s4 => wpAny_pure ?_))))
    have t4 : IsPair g4 TO u b := s4.extBut _ _ D.TOi2 t3
    refine wpAny_bind (wpAny_seqItems t4 rfl (wpAny_bind (wpAny_updateSeq_pair t4 fun g5 t5 s5 => wpAny_bind (wpAny_letGo (wpAny_pure (wpAny_pure ?_))))))
    replace t5 : IsPair g5 TO u v := t5
    refine wpAny_bind (wpAny_seqItems t5 rfl (wpAny_bind (wpAny_newTuple ?_)))
    have sz : g5.objs.size = s.heap.objs.size := by rw [s5.1, s4.1, s3.1, s2.1, s1.1]
    have z5 : ZF g5 z TI TO .ellipsis f := s5.extBut _ _ D.TOz.symm (s4.extBut _ _ D.i2z.symm (s3.extBut _ _ D.TOz.symm (s2.extBut _ _ D.i1z.symm z1)))
    have k5 : ∀ c o, c ≠ z → c ≠ TO → c ≠ i1 → c ≠ i2 → s.heap.get? c = some o → g5.get? c = some o := fun c o n1 n2 n3 n4 e => s5.extBut _ _ n2 (s4.extBut _ _ n4 (s3.extBut _ _ n2 (s2.extBut _ _ n3 (s1.extBut _ _ n1 e))))
    have d1 : g5.IsListIter i1 l1 (k + 1) := ((c2'.extBut s3.extBut D.TOi1.symm).extBut s4.extBut D.i12).extBut s5.extBut D.TOi1.symm
    have d2 : g5.IsListIter i2 l2 (k + 1) := c4.extBut s5.extBut D.TOi2.symm
    have lz : z < g5.objs.size := Heap.lt_size z5
    show wpAny _ _ (Builtin.SmallTypes.ownedTupleHandOut (.ref z) (.ref g5.objs.size) >>= _) _ _ _
    refine wpAny_bind ?_
    unfold Builtin.SmallTypes.ownedTupleHandOut
    refine wpAny_bind (wpAny_setField_rec (show ZF (g5.push { cls := .type "tuple", data := .seq #[u, v] }) z TI TO .ellipsis f from Heap.get?_push_of_some _ z5) (by simp) fun g7 z7 s7 => ?_)
    replace z7 : ZF g7 z TI TO (rawInt g5.objs.size) f := z7
    refine wpAny_setField_rec z7 (by simp) fun g8 z8 s8 => ?_
    replace z8 : ZF g8 z TI TO (rawInt g5.objs.size) false := z8
    have up : ∀ c o, c ≠ z → g5.get? c = some o → g8.get? c = some o := fun c o n e => s8.extBut _ _ n (s7.extBut _ _ n (Heap.get?_push_of_some _ e))
    have p8 : IsPair g8 g5.objs.size u v := s8.extBut _ _ (Nat.ne_of_gt lz) (s7.extBut _ _ (Nat.ne_of_gt lz) (Heap.get?_push_size _ rfl))
    have w8 : g8.objs.size = g5.objs.size + 1 := by rw [s8.1, s7.1, Heap.size_push]
    rw [sz] at z8 p8 w8
    refine wpAny_pure ⟨_, rfl, ?_⟩
    show Q (.ref g5.objs.size) _
    rw [sz]
    exact q g8 _ _ u v z8 (.inr ⟨_, rfl⟩) (up _ _ D.TOz t5) (d1.at fun o e => up _ o D.i1z e) (d2.at fun o e => up _ o D.i2z e) p8 w8 fun c o n1 n2 n3 n4 e => up c o n1 (k5 c o n1 n2 n3 n4 e)
  · simp only [Bool.false_eq_true, reduceIte]
    refine wpAny_bind ?_
    rw [← Array.forIn_toList]
    simp only [List.forIn_cons, List.forIn_nil]
    refine wpAny_bind (wpAny_bind (wpAny_holding (show wpAny _ _ (Builtin.SmallTypes.nextOf (.ref i1) >>= _) _ _ _ from wpAny_bind (wpAny_nextOf_list_item (s := { s with heap := g1 }) (c1.extBut s1.extBut D.i1z) (o1.extBut s1.extBut D.l1z) gu fun g2 c2' s2 => wpAny_pure (wpAny_pure ?_)))))
    refine wpAny_bind (wpAny_bind (wpAny_holding (show wpAny _ _ (Builtin.SmallTypes.nextOf (.ref i2) >>= _) _ _ _ from wpAny_bind (wpAny_nextOf_list_item (s := { s with heap := g2 }) ((c2.extBut s1.extBut D.i2z).extBut s2.extBut D.i12.symm) ((o2.extBut s1.extBut D.l2z).extBut s2.extBut D.l2i1) gv fun g3 c3 s3 => wpAny_pure (wpAny_pure (wpAny_pure ?_))))))
    show wpAny _ _ (newTuple [u, v] >>= _) _ _ _
    refine wpAny_bind (wpAny_newTuple (wpAny_pure ⟨_, rfl, ?_⟩))
    have sz : g3.objs.size = s.heap.objs.size := by rw [s3.1, s2.1, s1.1]
    have z3 : ZF g3 z TI TO x true := s3.extBut _ _ D.i2z.symm (s2.extBut _ _ D.i1z.symm z1)
    have k3 : ∀ c o, c ≠ z → c ≠ i1 → c ≠ i2 → s.heap.get? c = some o → g3.get? c = some o := fun c o n1 n2 n3 e => s3.extBut _ _ n3 (s2.extBut _ _ n2 (s1.extBut _ _ n1 e))
    have d1 : g3.IsListIter i1 l1 (k + 1) := c2'.extBut s3.extBut D.i12
    show Q (.ref g3.objs.size) _
    have hp : IsPair (g3.push { cls := .type "tuple", data := .seq #[u, v] }) g3.objs.size u v := Heap.get?_push_size _ rfl
    have w4 : (g3.push { cls := .type "tuple", data := .seq #[u, v] }).objs.size = g3.objs.size + 1 := Heap.size_push ..
    rw [sz] at hp w4 ⊢
    exact q _ x true a b (Heap.get?_push_of_some _ z3) hx (Heap.get?_push_of_some _ (k3 _ _ D.TOz D.TOi1 D.TOi2 hTO)) (d1.at fun o e => Heap.get?_push_of_some _ e) (c3.at fun o e => Heap.get?_push_of_some _ e) hp w4 fun c o n1 _ n3 n4 e => Heap.get?_push_of_some _ (k3 c o n1 n3 n4 e)
theorem nextOf_zipF_item {u v a b : Value} {Q : Value → Shared → Prop} (D : ZipApart z TI TO i1 i2 l1 l2) (hz : ZF s.heap z TI TO x f) (hx : x = .none ∨ ∃ T : Addr, x = rawInt T) (hTI : IsPair s.heap TI (.ref i1) (.ref i2)) (hTO : IsPair s.heap TO a b)
    (c1 : s.heap.IsListIter i1 l1 k) (c2 : s.heap.IsListIter i2 l2 k) (o1 : s.heap.IsList l1 xs) (o2 : s.heap.IsList l2 ys) (gu : xs[k]? = some u) (gv : ys[k]? = some v)
    (q : ∀ h' x' f' a' b', ZF h' z TI TO x' f' → (x' = .none ∨ ∃ T : Addr, x' = rawInt T) → IsPair h' TO a' b' → h'.IsListIter i1 l1 (k + 1) → h'.IsListIter i2 l2 (k + 1) → IsPair h' s.heap.objs.size u v → h'.objs.size = s.heap.objs.size + 1 →
      (∀ c o, c ≠ z → c ≠ TO → c ≠ i1 → c ≠ i2 → s.heap.get? c = some o → h'.get? c = some o) → Q (.ref s.heap.objs.size) { s with heap := h' }) :
    wpAny (model prog w) A (Builtin.SmallTypes.nextOf (.ref z)) Q E s := by
  have ty : s.TypeIs (.ref z) "zip" := ⟨_, hz, rfl⟩
  unfold Builtin.SmallTypes.nextOf
  exact wpAny_bind (wpAny_callSpecial?_slot (name := Str.ofString "__next__") ty F.slot_zip_next (wpAny_call_entry F.slot_zip_next ty F.entry_zip_next
    (zipF_item D hz hx hTI hTO c1 c2 o1 o2 gu gv fun h' x' f' a' b' r1 r2 r3 r4 r5 r6 r7 r8 => wpAny_pure (q h' x' f' a' b' r1 r2 r3 r4 r5 r6 r7 r8)) (F.args_zip_next_1 _)))
end
end IterX
end
section
/-! enumerate over a zip of two lists; zip of a tuple and a list -/
namespace IterX
open PySem PySem.Spec PySem.W PySem.Calls PyProof.Rows
section
variable {prog : Program} {w : World} {A : Around} {E : Value → Shared → Prop} {s : Shared} {z TI TO i1 i2 l1 l2 : Addr} {x : Value} {f : Bool} {k : Nat} {xs ys : Array Value}
theorem zipF_end {a b : Value} {Q : Fin → Shared → Prop} (hh : A.handled = none) (D : ZipApart z TI TO i1 i2 l1 l2) (hz : ZF s.heap z TI TO x f) (hx : x = .none ∨ ∃ T : Addr, x = rawInt T) (hTI : IsPair s.heap TI (.ref i1) (.ref i2)) (hTO : IsPair s.heap TO a b)
    (c1 : s.heap.IsListIter i1 l1 k) (c2 : s.heap.IsListIter i2 l2 k) (o1 : s.heap.IsList l1 xs) (o2 : s.heap.IsList l2 ys) (he : xs[k]? = none ∨ ys[k]? = none)
    (q : ∀ h' e, (∀ c o, c ≠ z → c ≠ TO → c ≠ i1 → c ≠ i2 → s.heap.get? c = some o → h'.get? c = some o) → (∃ o, h'.get? e = some o ∧ o.cls = .type "StopIteration") → E (.ref e) { s with heap := h' }) :
    wpAny (model prog w) A (Builtin.«zip.__next__» ⟨[.ref z], []⟩) Q E s := by
  show wpAny _ _ (field (.ref z) 2 >>= _) _ _ _
  refine wpAny_bind (wpAny_field hz rfl (x := .bool false) rfl (show wpAny _ _ (field (.ref z) 3 >>= _) _ _ _ from wpAny_bind (wpAny_field hz rfl (x := .ref TI) rfl (wpAny_bind (wpAny_seqItems hTI rfl ?_)))))
  show wpAny _ _ (Builtin.SmallTypes.ownedTupleIsFree (.ref z) >>= _) _ _ _
  refine wpAny_bind (free_any hz hx ?_ fun g1 z1 s1 => ?_)
  · simp only [reduceIte]
    refine wpAny_bind (wpAny_rule (wpAny_bind (wpAny_field hz rfl (x := .ref TO) rfl (wpAny_bind (wpAny_setField_rec hz (by simp) fun g1 z1 s1 => ?_)))))
    replace z1 : ZF g1 z TI TO .ellipsis f := z1
    refine wpAny_bind ?_
    simp only [List.zipIdx_cons, List.zipIdx_nil, List.forIn_cons, List.forIn_nil]
    refine wpAny_bind (wpAny_bind (wpAny_onRaise ?_))
    show wpAny _ _ (Builtin.SmallTypes.nextOf (.ref i1) >>= _) _ _ _
    cases hu : xs[k]? with
    | none =>
      refine wpAny_bind (wpAny_nextOf_list_end hh (c1.extBut s1.extBut D.i1z) (o1.extBut s1.extBut D.l1z) hu fun g2 e s2 hs => ?_)
      obtain ⟨oe, hoe, hce⟩ := hs
      have z2 : ZF g2 z TI TO .ellipsis f := s2 _ _ D.i1z.symm z1
      have ez : e ≠ z := fun y => by subst y; rw [z2] at hoe; cases hoe; simp at hce
      exact wpAny_setField_rec z2 (by simp) fun g3 _ s3 => q g3 e (fun c o n1 _ n3 _ y => s3.extBut _ _ n1 (s2 _ _ n3 (s1.extBut _ _ n1 y))) ⟨oe, s3.extBut _ _ ez hoe, hce⟩
    | some u =>
      have hy : ys[k]? = none := by rcases he with h | h; rw [hu] at h; cases h; exact h
      refine wpAny_bind (wpAny_nextOf_list_item (c1.extBut s1.extBut D.i1z) (o1.extBut s1.extBut D.l1z) hu fun g2 c1' s2 => wpAny_pure ?_)
      have t2 : IsPair g2 TO a b := s2.extBut _ _ D.TOi1 (s1.extBut _ _ D.TOz hTO)
      refine wpAny_bind (wpAny_seqItems t2 rfl (wpAny_bind (wpAny_updateSeq_pair t2 fun g3 t3 s3 => wpAny_bind (wpAny_letGo (wpAny_pure ?_)))))
      refine wpAny_bind (wpAny_bind (wpAny_onRaise ?_))
      show wpAny _ _ (Builtin.SmallTypes.nextOf (.ref i2) >>= _) _ _ _
      refine wpAny_bind (wpAny_nextOf_list_end hh (((c2.extBut s1.extBut D.i2z).extBut s2.extBut D.i12.symm).extBut s3.extBut D.TOi2.symm)
        (((o2.extBut s1.extBut D.l2z).extBut s2.extBut D.l2i1).extBut s3.extBut D.l2TO) hy fun g4 e s4 hs => ?_)
      obtain ⟨oe, hoe, hce⟩ := hs
      have z4 : ZF g4 z TI TO .ellipsis f := s4 _ _ D.i2z.symm (s3.extBut _ _ D.TOz.symm (s2.extBut _ _ D.i1z.symm z1))
      have ez : e ≠ z := fun y => by subst y; rw [z4] at hoe; cases hoe; simp at hce
      exact wpAny_setField_rec z4 (by simp) fun g5 _ s5 => q g5 e (fun c o n1 n2 n3 n4 y => s5.extBut _ _ n1 (s4 _ _ n4 (s3.extBut _ _ n2 (s2.extBut _ _ n3 (s1.extBut _ _ n1 y))))) ⟨oe, s5.extBut _ _ ez hoe, hce⟩
  · simp only [Bool.false_eq_true, reduceIte]
    refine wpAny_bind ?_
    rw [← Array.forIn_toList]
    simp only [List.forIn_cons, List.forIn_nil]
    refine wpAny_bind (wpAny_bind (wpAny_holding ?_))
    show wpAny _ _ (Builtin.SmallTypes.nextOf (.ref i1) >>= _) _ _ _
    cases hu : xs[k]? with
    | none =>
      refine wpAny_bind (wpAny_nextOf_list_end (s := { s with heap := g1 }) hh (c1.extBut s1.extBut D.i1z) (o1.extBut s1.extBut D.l1z) hu fun g2 e s2 hs => ?_)
      exact q g2 e (fun c o n1 _ n3 _ y => s2 _ _ n3 (s1.extBut _ _ n1 y)) hs
    | some u =>
      have hy : ys[k]? = none := by rcases he with h | h; rw [hu] at h; cases h; exact h
      refine wpAny_bind (wpAny_nextOf_list_item (s := { s with heap := g1 }) (c1.extBut s1.extBut D.i1z) (o1.extBut s1.extBut D.l1z) hu fun g2 c1' s2 => wpAny_pure ?_)
      refine wpAny_pure ?_
      refine wpAny_bind (wpAny_bind (wpAny_holding ?_))
      show wpAny _ _ (Builtin.SmallTypes.nextOf (.ref i2) >>= _) _ _ _
      refine wpAny_bind (wpAny_nextOf_list_end (s := { s with heap := g2 }) hh ((c2.extBut s1.extBut D.i2z).extBut s2.extBut D.i12.symm) ((o2.extBut s1.extBut D.l2z).extBut s2.extBut D.l2i1) hy fun g3 e s3 hs => ?_)
      exact q g3 e (fun c o n1 _ n3 n4 y => s3 _ _ n4 (s2.extBut _ _ n3 (s1.extBut _ _ n1 y))) hs
theorem nextOf_zipF_end {a b : Value} {Q : Value → Shared → Prop} (hh : A.handled = none) (D : ZipApart z TI TO i1 i2 l1 l2) (hz : ZF s.heap z TI TO x f) (hx : x = .none ∨ ∃ T : Addr, x = rawInt T) (hTI : IsPair s.heap TI (.ref i1) (.ref i2)) (hTO : IsPair s.heap TO a b)
    (c1 : s.heap.IsListIter i1 l1 k) (c2 : s.heap.IsListIter i2 l2 k) (o1 : s.heap.IsList l1 xs) (o2 : s.heap.IsList l2 ys) (he : xs[k]? = none ∨ ys[k]? = none)
    (q : ∀ h' e, (∀ c o, c ≠ z → c ≠ TO → c ≠ i1 → c ≠ i2 → s.heap.get? c = some o → h'.get? c = some o) → (∃ o, h'.get? e = some o ∧ o.cls = .type "StopIteration") → E (.ref e) { s with heap := h' }) :
    wpAny (model prog w) A (Builtin.SmallTypes.nextOf (.ref z)) Q E s := by
  have ty : s.TypeIs (.ref z) "zip" := ⟨_, hz, rfl⟩
  unfold Builtin.SmallTypes.nextOf
  exact wpAny_bind (wpAny_callSpecial?_slot (name := Str.ofString "__next__") ty F.slot_zip_next (wpAny_call_entry F.slot_zip_next ty F.entry_zip_next
    (zipF_end hh D hz hx hTI hTO c1 c2 o1 o2 he q) (F.args_zip_next_1 _)))
/-- all that an enumerate over a zip stands on, but the lists -/
structure EZ (h : Heap) (e z TI TO i1 i2 l1 l2 : Addr) (k : Nat) : Prop where
  en : ∃ old, IsEnum h e z (k : Nat) old
  zp : ∃ x f, ZF h z TI TO x f ∧ (x = .none ∨ ∃ T : Addr, x = rawInt T)
  ti : IsPair h TI (.ref i1) (.ref i2)
  to : ∃ a b, IsPair h TO a b
  c1 : h.IsListIter i1 l1 k
  c2 : h.IsListIter i2 l2 k
theorem EZ.at {h h' : Heap} {e : Addr} (S : EZ h e z TI TO i1 i2 l1 l2 k) (q : ∀ b ∈ [e, z, TI, TO, i1, i2], ∀ o, h.get? b = some o → h'.get? b = some o) : EZ h' e z TI TO i1 i2 l1 l2 k := by
  obtain ⟨⟨o, a⟩, ⟨x, f, b, hx⟩, c, ⟨u, v, d⟩, g, j⟩ := S
  exact ⟨⟨o, q _ (by simp) _ a⟩, ⟨x, f, q _ (by simp) _ b, hx⟩, q _ (by simp) _ c, ⟨u, v, q _ (by simp) _ d⟩, g.at fun o y => q _ (by simp) o y, j.at fun o y => q _ (by simp) o y⟩
/-- e lies apart from the zip's own things -/
structure EApart (e z TI TO i1 i2 l1 l2 : Addr) : Prop where
  z : e ≠ z
  TI : e ≠ TI
  TO : e ≠ TO
  i1 : e ≠ i1
  i2 : e ≠ i2
theorem enumZ_item {e : Addr} {u v : Value} {Q : Option Value → Shared → Prop} (D : ZipApart z TI TO i1 i2 l1 l2) (N : EApart e z TI TO i1 i2 l1 l2) (S : EZ s.heap e z TI TO i1 i2 l1 l2 k)
    (o1 : s.heap.IsList l1 xs) (o2 : s.heap.IsList l2 ys) (gu : xs[k]? = some u) (gv : ys[k]? = some v)
    (q : ∀ h1 h' tk, IsPair h1 s.heap.objs.size u v → h1.objs.size = s.heap.objs.size + 1 → (∀ c o, c ≠ z → c ≠ TO → c ≠ i1 → c ≠ i2 → s.heap.get? c = some o → h1.get? c = some o) →
      IsEnumOut h' e z ((k : Int) + 1) (.ref s.heap.objs.size) (s.heap.objs.size + 1) → (∀ h2, (∀ c o, c ≠ e → h'.get? c = some o → h2.get? c = some o) → (∃ old, IsEnum h2 e z ((k : Int) + 1) old) → EZ h2 e z TI TO i1 i2 l1 l2 (k + 1)) →
      IsPair h' (s.heap.objs.size + 1) (.int (k : Nat) tk) (.ref s.heap.objs.size) → h'.objs.size = s.heap.objs.size + 2 →
      (∀ c o, c ≠ e → h1.get? c = some o → h'.get? c = some o) → Q (some (.ref (s.heap.objs.size + 1))) { s with heap := h', toks := tk + 1 }) :
    wpAny (model prog w) A (pyNext (.ref e)) Q E s := by
  obtain ⟨⟨old, he⟩, ⟨x, f, hz, hx⟩, hTI, ⟨a, b, hTO⟩, c1, c2⟩ := S
  have hT : s.TypeIs (.ref e) "enumerate" := ⟨_, he, rfl⟩
  unfold pyNext
  refine wpAny_bind (wpAny_attempt (wpAny_callSpecial?_slot (name := Str.ofString "__next__") hT F.slot_enumerate_next
    (wpAny_call_entry F.slot_enumerate_next hT F.entry_enumerate_next ?_ (F.args_enumerate_next_1 _))))
  obtain ⟨hp, g, d, tk₀, os⟩ := s
  show wpAny _ _ (field (.ref e) 2 >>= _) _ _ _
  refine wpAny_bind (wpAny_field he rfl (x := .ref z) rfl ?_)
  refine wpAny_bind (nextOf_zipF_item D hz hx hTI hTO c1 c2 o1 o2 gu gv fun h₁ x1 f1 a1 b1 z1 hx1 t1 c11 c21 p1 w1 k1 => ?_)
  have he₁ : IsEnum h₁ e z k old := k1 _ _ N.z N.TO N.i1 N.i2 he
  have hTI₁ : IsPair h₁ TI (.ref i1) (.ref i2) := k1 _ _ D.TIz D.TITO D.TIi1 D.TIi2 hTI
  show wpAny _ _ (field (.ref e) 3 >>= _) _ _ ⟨h₁, g, d, tk₀, os⟩
  refine wpAny_bind (wpAny_field he₁ rfl (x := rawInt k) rfl ?_)
  show wpAny _ _ (field (.ref e) 4 >>= _) _ _ ⟨h₁, g, d, tk₀, os⟩
  refine wpAny_bind (wpAny_field he₁ rfl (x := .none) rfl ?_)
  show wpAny _ _ (mkInt k >>= _) _ _ ⟨h₁, g, d, tk₀, os⟩
  refine wpAny_bind (wpAny_mkInt ?_)
  show wpAny _ _ (setField (.ref e) 3 (rawInt ((k : Int) + 1)) >>= _) _ _ ⟨h₁, g, d, tk₀ + 1, os⟩
  refine wpAny_bind (wpAny_setField_rec he₁ (by simp) fun h₂ he₂ hs₂ => ?_)
  replace hs₂ : Heap.SameBut e h₁ h₂ := hs₂
  replace he₂ : IsEnum h₂ e z ((k : Int) + 1) old := he₂
  show wpAny _ _ (setField (.ref e) 4 .none >>= _) _ _ ⟨h₂, g, d, tk₀ + 1, os⟩
  refine wpAny_bind (wpAny_setField_rec he₂ (by simp) fun h₃ he₃ hs₃ => ?_)
  replace hs₃ : Heap.SameBut e h₂ h₃ := hs₃
  replace he₃ : IsEnum h₃ e z ((k : Int) + 1) old := he₃
  show wpAny _ _ (newTuple [.int k tk₀, .ref hp.objs.size] >>= _) _ _ ⟨h₃, g, d, tk₀ + 1, os⟩
  refine wpAny_bind (wpAny_newTuple ?_)
  have he₄ : IsEnum (h₃.push { cls := .type "tuple", data := .seq #[.int k tk₀, .ref hp.objs.size] }) e z ((k : Int) + 1) old := Heap.get?_push_of_some _ he₃
  generalize hh₄ : h₃.push { cls := .type "tuple", data := .seq #[.int k tk₀, .ref hp.objs.size] } = h₄ at he₄
  replace w1 : h₁.objs.size = hp.objs.size + 1 := w1
  have hsz : h₃.objs.size = hp.objs.size + 1 := by rw [hs₃.1, hs₂.1, w1]
  have hel : e < hp.objs.size := Heap.lt_size he
  have hel' : e ≠ hp.objs.size + 1 := Nat.ne_of_lt (Nat.lt_succ_of_lt hel)
  have ht₄ : h₄.get? (hp.objs.size + 1) = some { cls := .type "tuple", data := .seq #[.int k tk₀, .ref hp.objs.size] } := by rw [← hh₄, ← hsz]; exact Heap.get?_push_size _ rfl
  have hz₄ : h₄.objs.size = hp.objs.size + 2 := by rw [← hh₄, Heap.size_push, hsz]
  have hk₄ : ∀ b o, b ≠ e → h₁.get? b = some o → h₄.get? b = some o := fun b o hbe hb => by
    rw [← hh₄]; exact Heap.get?_push_of_some _ (hs₃.extBut b o hbe (hs₂.extBut b o hbe hb))
  show wpAny _ _ (Builtin.SmallTypes.ownedTupleIsFree (.ref e) >>= _) _ _ ⟨h₄, g, d, tk₀ + 1, os⟩
  rw [hsz]
  clear hh₄ he₃ hs₃ he₂ hs₂ he₁ hsz h₃ h₂
  refine wpAny_bind ?_
  · unfold Builtin.SmallTypes.ownedTupleIsFree
    refine wpAny_bind (wpAny_field he₄ rfl (x := .none) rfl (wpAny_pure ?_))
    simp only [if_true]
    refine wpAny_bind (wpAny_rule ?_)
    refine wpAny_bind (wpAny_field he₄ rfl (x := old) rfl ?_)
    refine wpAny_bind (wpAny_setField_rec he₄ (by simp) fun h₅ he₅ hs₅ => ?_)
    replace hs₅ : Heap.SameBut e h₄ h₅ := hs₅
    replace he₅ : IsEnum h₅ e z ((k : Int) + 1) (.ref hp.objs.size) := he₅
    show wpAny _ _ (Builtin.SmallTypes.ownedTupleHandOut (.ref e) (.ref (hp.objs.size + 1)) >>= _) _ _ ⟨h₅, g, d, tk₀ + 1, os⟩
    refine wpAny_bind ?_
    · unfold Builtin.SmallTypes.ownedTupleHandOut
      refine wpAny_bind (wpAny_setField_rec he₅ (by simp) fun h₆ he₆ hs₆ => ?_)
      replace hs₆ : Heap.SameBut e h₅ h₆ := hs₆
      replace he₆ : IsEnumOut h₆ e z ((k : Int) + 1) (.ref hp.objs.size) (hp.objs.size + 1) := he₆
      refine wpAny_setField_rec he₆ (by simp) fun h₇ he₇ hs₇ => ?_
      replace hs₇ : Heap.SameBut e h₆ h₇ := hs₇
      replace he₇ : IsEnumOut h₇ e z ((k : Int) + 1) (.ref hp.objs.size) (hp.objs.size + 1) := he₇
      have k7 : ∀ c o, c ≠ e → h₁.get? c = some o → h₇.get? c = some o := fun c o n y => hs₇.extBut _ _ n (hs₆.extBut _ _ n (hs₅.extBut _ _ n (hk₄ _ _ n y)))
      refine wpAny_bind (wpAny_letGo (wpAny_pure ⟨_, rfl, wpAny_pure (q h₁ h₇ tk₀ p1 w1 k1 he₇ (fun h2 y en => ?_) ?_ ?_ k7)⟩))
      · have ky : ∀ c o, c ≠ e → h₁.get? c = some o → h2.get? c = some o := fun c o n r => y c o n (k7 c o n r)
        exact ⟨en, ⟨x1, f1, ky _ _ N.z.symm z1, hx1⟩, ky _ _ N.TI.symm hTI₁, ⟨a1, b1, ky _ _ N.TO.symm t1⟩, c11.at fun o r => ky _ o N.i1.symm r, c21.at fun o r => ky _ o N.i2.symm r⟩
      · exact hs₇.extBut _ _ (Ne.symm hel') (hs₆.extBut _ _ (Ne.symm hel') (hs₅.extBut _ _ (Ne.symm hel') ht₄))
      · rw [hs₇.1, hs₆.1, hs₅.1, hz₄]
theorem enumZ_end {e : Addr} {Q : Option Value → Shared → Prop} (hh : A.handled = none) (D : ZipApart z TI TO i1 i2 l1 l2) (S : EZ s.heap e z TI TO i1 i2 l1 l2 k)
    (o1 : s.heap.IsList l1 xs) (o2 : s.heap.IsList l2 ys) (he : xs[k]? = none ∨ ys[k]? = none)
    (q : ∀ h', (∀ c o, c ≠ z → c ≠ TO → c ≠ i1 → c ≠ i2 → s.heap.get? c = some o → h'.get? c = some o) → Q none { s with heap := h' }) :
    wpAny (model prog w) A (pyNext (.ref e)) Q E s := by
  obtain ⟨⟨old, hen⟩, ⟨x, f, hz, hx⟩, hTI, ⟨a, b, hTO⟩, c1, c2⟩ := S
  have hT : s.TypeIs (.ref e) "enumerate" := ⟨_, hen, rfl⟩
  unfold pyNext
  refine wpAny_bind (wpAny_attempt (wpAny_callSpecial?_slot (name := Str.ofString "__next__") hT F.slot_enumerate_next
    (wpAny_call_entry F.slot_enumerate_next hT F.entry_enumerate_next ?_ (F.args_enumerate_next_1 _))))
  show wpAny _ _ (field (.ref e) 2 >>= _) _ _ _
  refine wpAny_bind (wpAny_field hen rfl (x := .ref z) rfl ?_)
  refine wpAny_bind (nextOf_zipF_end hh D hz hx hTI hTO c1 c2 o1 o2 he fun h' y hk hs => ?_)
  obtain ⟨o, ho, hc⟩ := hs
  refine wpAny_bind (wpAny_isInstance (T := "StopIteration") (b := true) ⟨o, ho, hc⟩ isSubtype_stop ?_)
  exact wpAny_pure (q _ hk)
end
set_option maxHeartbeats 1000000 in
theorem meets_enumerate_newZ (z TI TO : Addr) (x : Value) (f : Bool) :
    Meets (Builtin.«enumerate.__new__» ⟨[.type "enumerate", .ref z], []⟩) (fun _ R s => ZF s.heap z TI TO x f ∧
      R (.ok (.ret (.ref s.heap.objs.size))) { s with heap := s.heap.push { cls := .type "enumerate", data := .fields #[.none, .bool false, .ref z, rawInt 0, .none, .none] } }) :=
  .of_wp fun prog w A R s h => by
    obtain ⟨hp, g, d, tk, os⟩ := s; obtain ⟨h1, h⟩ := h
    have hsub := sub_enumerate
    have q1 : ∀ {A' : Around} {E : Value → Shared → Prop} {Q : Value → Shared → Prop}, Q (.ref z) ⟨hp, g, d, tk, os⟩ → wpAny (model prog w) A' (pyIter (.ref z)) Q E ⟨hp, g, d, tk, os⟩ := fun q => by
      have ty : Shared.TypeIs ⟨hp, g, d, tk, os⟩ (.ref z) "zip" := ⟨_, h1, rfl⟩
      refine wpAny_pyIter_slot ty F.slot_zip_iter (wpAny_call_entry F.slot_zip_iter ty F.entry_zip_iter ?_ (F.args_zip_iter_1 _))
      show wpAny _ _ (ret (.ref z)) _ _ _
      exact wpAny_pure ⟨_, rfl, "zip", _, ty, F.slot_zip_next.lookup, q⟩
    wp_walk using wpAny_loadPart' h1, q1
    refine wpAny_stack_any fun st => wpAny_pure ?_
    split
    · rename_i c _ _ _ _ _
      cases (c == Value.type "enumerate")
      · wp_walk using wpAny_loadPart' h1, q1
        exact ⟨_, rfl, h⟩
      · wp_walk using wpAny_loadPart' h1, q1
        exact ⟨_, rfl, h⟩
    · wp_walk using wpAny_loadPart' h1, q1
      exact ⟨_, rfl, h⟩
section
variable {prog : Program} {w : World} {A : Around} {E : Value → Shared → Prop} {s : Shared}
theorem enumZ_begins {z TI TO : Addr} {x : Value} {f : Bool} {Q : Value → Shared → Prop} (hz : ZF s.heap z TI TO x f)
    (h : ∀ h', IsEnum h' s.heap.objs.size z 0 .none → h'.objs.size = s.heap.objs.size + 1 → (∀ b o, s.heap.get? b = some o → h'.get? b = some o) → Q (.ref s.heap.objs.size) { s with heap := h' }) :
    wpAny (model prog w) A (call (.type "enumerate") [.ref z]) Q E s := by
  refine callType_new F.called_enumerate (by decide) (F.typeCall_enumerate_1 _) (F.newCall_enumerate_1 _) (fun obj => F.args_object_init_2 obj _) F.entry_enumerate_new
    (meets_enumerate_newZ z TI TO x f) ⟨hz, ?_⟩
  have he : IsEnum (s.heap.push { cls := .type "enumerate", data := .fields #[.none, .bool false, .ref z, rawInt 0, .none, .none] }) s.heap.objs.size z 0 .none := Heap.get?_push_size _ rfl
  exact ⟨⟨_, he, rfl⟩, h _ he (Heap.size_push ..) fun b o y => Heap.get?_push_of_some _ y⟩
end
end IterX
end
section
/-! for number, (due, told) in enumerate(zip(xs, ys)); for multiple, told in zip(TUPLE, xs) -/
namespace L2
open PySem PySem.Spec PySem.W PySem.Calls PyProof.Rows IterX
/-- the lists at a and b as they stand at each turn, the items in new pairs, each in a new pair with its number -/
def ItEz (K : PySem.W.Frag) (a b : Addr) : It :=
  ⟨fun i H => ∃ (xs ys : List V) (x y : V), SqL K H a xs ∧ SqL K H b ys ∧ xs[i]? = some x ∧ ys[i]? = some y,
    fun i H v H' => ∃ T1 T2 x y, v = .ref T2 ∧ H T1 = none ∧ upd H T1 (.tup [x, y]) T2 = none ∧ H' = upd (upd H T1 (.tup [x, y])) T2 (.tup [.int (i : Nat), .ref T1]) ∧ (∀ xs, SqL K H a xs → xs[i]? = some x) ∧ ∀ ys, SqL K H b ys → ys[i]? = some y,
    fun i H => ∃ xs ys : List V, SqL K H a xs ∧ SqL K H b ys ∧ (xs.length ≤ i ∨ ys.length ≤ i)⟩
theorem turn_enumZ {P : Program} {w : World} {K : PySem.W.Frag} {elts : List Expr} {kk : Nat} {tpos : Pos} {a b e z TI TO i1 i2 : Addr} (D : ZipApart z TI TO i1 i2 a b) (N : EApart e z TI TO i1 i2 a b) :
    Turn P w K (.Tuple elts kk tpos) (ItEz K a b) [e, z, TI, TO, i1, i2] e (fun i h => EZ h e z TI TO i1 i2 a b i) where
  mem := by simp
  obj := fun i h st c hc => by
    obtain ⟨⟨o, ha⟩, ⟨x, f, hz, hx⟩, hTI, ⟨u, v, hTO⟩, ⟨o1, e1, _, d1⟩, ⟨o2, e2, _, d2⟩⟩ := st
    have e' : c = e ∨ c = z ∨ c = TI ∨ c = TO ∨ c = i1 ∨ c = i2 := by simpa using hc
    rcases e' with q | q | q | q | q | q
    · rw [q]; exact ⟨_, ha, fun v q => nomatch q⟩
    · rw [q]; exact ⟨_, hz, fun v q => nomatch q⟩
    · rw [q]; exact ⟨_, hTI, fun v q => nomatch q⟩
    · rw [q]; exact ⟨_, hTO, fun v q => nomatch q⟩
    · rw [q]; exact ⟨o1, e1, fun v q => by rw [d1] at q; cases q⟩
    · rw [q]; exact ⟨o2, e2, fun v q => by rw [d2] at q; cases q⟩
  keep := fun i h h' st k => st.at k
  item := by
    intro X hP hw hK hc i pins s σ H E I hf st hg
    subst hP hw hK
    obtain ⟨xs, ys, x, y, hqx, hqy, hx, hy⟩ := hg
    obtain ⟨its, rv, p, _⟩ := I.list hqx
    obtain ⟨its2, rv2, p2, _⟩ := I.list hqy
    obtain ⟨u, hu, ru⟩ := rv.get hx
    obtain ⟨u2, hu2, ru2⟩ := rv2.get hy
    have hel : e < s.heap.objs.size := by obtain ⟨_, q⟩ := st.en; exact Heap.lt_size q
    have hlt : ∀ c ∈ [e, z, TI, TO, i1, i2], c < s.heap.objs.size := fun c hcm => by
      obtain ⟨⟨o, ha⟩, ⟨x, f, hz, hx⟩, hTI, ⟨u, v, hTO⟩, ⟨o1, e1, _, d1⟩, ⟨o2, e2, _, d2⟩⟩ := id st
      have e' : c = e ∨ c = z ∨ c = TI ∨ c = TO ∨ c = i1 ∨ c = i2 := by simpa using hcm
      rcases e' with q | q | q | q | q | q
      · rw [q]; exact hel
      · rw [q]; exact Heap.lt_size hz
      · rw [q]; exact Heap.lt_size hTI
      · rw [q]; exact Heap.lt_size hTO
      · rw [q]; exact Heap.lt_size e1
      · rw [q]; exact Heap.lt_size e2
    refine enumZ_item D N st p.isList p2.isList (u := u) (v := u2) (by simpa using hu) (by simpa using hu2) fun h1 h' tk t1 w1 k1 eo st' t2 w2 k2 => ?_
    refine ⟨_, rfl, wpAny_letOwnedTupleGo_enum (s := { s with heap := h', toks := tk + 1 }) eo fun h'' he' sb => ?_⟩
    have new1 : ObjOk X.prog X.w (upd H s.heap.objs.size (.tup [x, y])) h1 s.heap.objs.size (.tup [x, y]) :=
      ⟨by show 2 ≤ sizeLine; decide, [u, u2], .cons ru (.cons ru2 .nil), ⟨_, t1, rfl, _, rfl⟩⟩
    have I1 : Inv X pins σ (upd H s.heap.objs.size (.tup [x, y])) { s with heap := h1 } :=
      I.turnedNew (t' := s.toks) (ch := [e, z, TI, TO, i1, i2]) (fun c o hb q => k1 c o (fun q' => hb (by simp [q'])) (fun q' => hb (by simp [q'])) (fun q' => hb (by simp [q'])) (fun q' => hb (by simp [q'])) q) hf (Nat.le_refl _) new1
    have hn1 : upd H s.heap.objs.size (.tup [x, y]) (s.heap.objs.size + 1) = none := by
      rw [upd_ne (Nat.succ_ne_self _)]
      exact I.hok.fresh (Nat.le_succ _)
    have kk : ∀ c o, c ≠ e → h1.get? c = some o → h''.get? c = some o := fun c o n q => (sb.2 c n).trans (k2 c o n q)
    have t3 : h''.get? (s.heap.objs.size + 1) = some { cls := .type "tuple", data := .seq #[.int (i : Nat) tk, .ref s.heap.objs.size] } := (sb.2 _ (Nat.ne_of_gt (Nat.lt_succ_of_lt hel))).trans t2
    have new2 : ObjOk X.prog X.w (upd (upd H s.heap.objs.size (.tup [x, y])) (s.heap.objs.size + 1) (.tup [.int (i : Nat), .ref s.heap.objs.size])) h'' (s.heap.objs.size + 1) (.tup [.int (i : Nat), .ref s.heap.objs.size]) :=
      ⟨by show 2 ≤ sizeLine; decide, [.int (i : Nat) tk, .ref s.heap.objs.size], .cons ⟨_, rfl⟩ (.cons rfl .nil), ⟨_, t3, rfl, _, rfl⟩⟩
    have hf1 : ∀ c ∈ [e], FpOk X pins (upd H s.heap.objs.size (.tup [x, y])) c := fun c hc => by
      have q : c = e := by simpa using hc
      subst q
      obtain ⟨f0, f1⟩ := hf c (by simp)
      exact ⟨by rw [upd_ne (Nat.ne_of_lt hel)]; exact f0, f1⟩
    have I2 : Inv X pins σ (upd (upd H s.heap.objs.size (.tup [x, y])) (s.heap.objs.size + 1) (.tup [.int (i : Nat), .ref s.heap.objs.size])) { s with heap := h'', toks := tk + 1 } :=
      I1.turnedNew (t' := tk + 1) (ch := [e]) (fun c o hb q => kk c o (fun q' => hb (by simp [q'])) q) hf1 (show h1.objs.size ≤ s.heap.objs.size + 1 from Nat.le_of_eq w1) new2
    refine ⟨.ref (s.heap.objs.size + 1), _, I2, rfl, ⟨_, _, x, y, rfl, I.hok.fresh (Nat.le_refl _), hn1, rfl, fun l hl => by rw [I.list_inj hl hqx]; exact hx, fun l hl => by rw [I.list_inj hl hqy]; exact hy⟩, st' h'' (fun c o n q => (sb.2 c n).trans q) ⟨_, he'⟩, fun c hcm => ?_⟩
    have q := hlt c hcm
    rw [upd_ne (Nat.ne_of_lt (Nat.lt_succ_of_lt q)), upd_ne (Nat.ne_of_lt q)]
    exact (hf c hcm).1
  done := by
    intro X hP hw hK hc i pins s σ H E I hf st hg
    subst hP hw hK
    obtain ⟨xs, ys, hqx, hqy, hend⟩ := hg
    obtain ⟨its, rv, p, _⟩ := I.list hqx
    obtain ⟨its2, rv2, p2, _⟩ := I.list hqy
    have l1 := rv.length
    have l2 := rv2.length
    have he : its.toArray[i]? = none ∨ its2.toArray[i]? = none := by
      rcases hend with q | q
      · exact .inl (by simp; omega)
      · exact .inr (by simp; omega)
    exact enumZ_end (I.ok.hd hc) D st p.isList p2.isList he fun h' hk => ⟨rfl, I.turnedL (t' := s.toks) (ch := [e, z, TI, TO, i1, i2]) (fun c o hb q =>
      hk c o (fun q' => hb (by simp [q'])) (fun q' => hb (by simp [q'])) (fun q' => hb (by simp [q'])) (fun q' => hb (by simp [q'])) q) hf⟩
  self := fun A i s Q E st h => let ⟨_, he⟩ := st.en; wpAny_pyIter_enum he h
def iEnumZ (K : PySem.W.Frag) (ta : TA) : TI := fun σ H R => ta σ H fun vs H1 => ∃ a b xs ys, vs = [.ref a, .ref b] ∧ SqL K H1 a xs ∧ SqL K H1 b ys ∧ R (ItEz K a b) H1
theorem pi_enumZ {X : Cx} {e e2 : Expr} {ta : TA} {p p2 pos pos2 tpos : Pos} {elts : List Expr} {kk : Nat} (hg : Gl X "enumerate") (hm : X.mg "enumerate" = none) (hg2 : Gl X "zip") (hm2 : X.mg "zip" = none) (ha : PA X [e, e2] ta)
    (hs : starEach [e, e2] X.env = (false, eval e X.env) :: starEach [e2] X.env := by rfl) (hpl : (backTo pos2 (starEach [e2] X.env)).any (·.1) = false := by rfl)
    (hs2 : starEach [.Call (.Name "zip" p2) [e, e2] [] pos2] X.env = [(false, eval (.Call (.Name "zip" p2) [e, e2] [] pos2) X.env)] := by rfl) :
    PI X (.Tuple elts kk tpos) (.Call (.Name "enumerate" p) [.Call (.Name "zip" p2) [e, e2] [] pos2] [] pos) (iEnumZ X.K ta) := by
  refine ⟨fun pins s σ H R I h => ?_⟩
  refine Call_ (ld_blt I hg hm boot_enumerate (PyProof.Rows.callWith_type1 ?_ hs2 rfl))
  rw [hs2]
  refine Calls.spliced_cons (thn (Q := fun (v : Value) (s1 : Shared) => ∃ (z a b : Addr) (H1 : Hp) (N : Nat), v = .ref z ∧ Inv X pins σ H1 s1 ∧ R (ItEz X.K a b) H1 ∧ a < N ∧ b < N ∧ z = N + 4 ∧ s1.heap.objs.size = N + 5 ∧
    IsZip s1.heap z (N + 2) (N + 3) .none ∧ IsPair s1.heap (N + 2) (.ref N) (.ref (N + 1)) ∧ IsPair s1.heap (N + 3) .none .none ∧ s1.heap.IsListIter N a 0 ∧ s1.heap.IsListIter (N + 1) b 0 ∧ ∀ c, N ≤ c → FpOk X pins H1 c) ?_ ?_)
  · refine Call_ (ld_blt I hg2 hm2 PyProof.Rows.boot_zip (PyProof.Rows.callWith_type1 (thn (ha.run pos2 pins s σ H _ I h) fun us s1 ⟨vs, H1, I1, r1, q1⟩ => ?_) hs hpl))
    obtain ⟨a, b, xs, ys, ex, hqx, hqy, q⟩ := q1
    subst ex
    cases r1 with
    | cons r rr =>
      cases rr with
      | cons r' rr =>
        cases rr
        cases r
        cases r'
        obtain ⟨its, rv, p1, _⟩ := I1.list hqx
        obtain ⟨its2, rv2, p2, _⟩ := I1.list hqy
        refine call_zip_2 p1.isList p2.isList fun h' hz hTI hTO h1 h2 hsz hk => ?_
        exact ⟨_, a, b, H1, s1.heap.objs.size, rfl, I1.kept (t' := s1.toks) hk, q, p1.lt, p2.lt, rfl, hsz, hz, hTI, hTO, h1, h2, fun c hc => I1.fpOk hc (I1.hok.fresh hc)⟩
  · rintro v s1 ⟨z, a, b, H1, N, rfl, I1, q, la, lb, rfl, sz, hz, hTI, hTO, h1, h2, fo⟩
    refine Calls.spliced_nil ?_
    refine enumZ_begins hz fun h' he hsz hk => wpAny_pyIter_enum he ?_
    have I2 : Inv X pins σ H1 { s1 with heap := h' } := I1.kept (t' := s1.toks) hk
    rw [sz] at he hsz ⊢
    refine ⟨N + 5, [N + 5, N + 4, N + 2, N + 3, N, N + 1], _, _, H1, rfl, I2, turn_enumZ (PySem.W.ktu_apart N a b la lb) ⟨show (N + 5 : Nat) ≠ N + 4 by omega, show (N + 5 : Nat) ≠ N + 2 by omega, show (N + 5 : Nat) ≠ N + 3 by omega, show (N + 5 : Nat) ≠ N by omega, show (N + 5 : Nat) ≠ N + 1 by omega⟩,
      ⟨⟨_, he⟩, ⟨_, _, hk _ _ hz, .inl rfl⟩, hk _ _ hTI, ⟨_, _, hk _ _ hTO⟩, h1.at fun o q => hk _ o q, h2.at fun o q => hk _ o q⟩, fun c hcm => fo c ?_, q⟩
    have e' : c = N + 5 ∨ c = N + 4 ∨ c = N + 2 ∨ c = N + 3 ∨ c = N ∨ c = N + 1 := by simpa using hcm
    rcases e' with z | z | z | z | z | z
    · rw [z]; exact Nat.le_add_right _ _
    · rw [z]; exact Nat.le_add_right _ _
    · rw [z]; exact Nat.le_add_right _ _
    · rw [z]; exact Nat.le_add_right _ _
    · rw [z]; exact Nat.le_refl _
    · rw [z]; exact Nat.le_add_right _ _
/-! zip of a tuple and a list -/
def ItzX (K : PySem.W.Frag) (a b : Addr) : It :=
  ⟨fun i H => ∃ (xs ys : List V) (x y : V), SqT K H a xs ∧ SqL K H b ys ∧ xs[i]? = some x ∧ ys[i]? = some y,
    fun i H v H' => ∃ T x y, v = .ref T ∧ H T = none ∧ H' = upd H T (.tup [x, y]) ∧ (∀ xs, SqT K H a xs → xs[i]? = some x) ∧ ∀ ys, SqL K H b ys → ys[i]? = some y,
    fun i H => ∃ xs ys : List V, SqT K H a xs ∧ SqL K H b ys ∧ i = min xs.length ys.length⟩
theorem turn_zipX {P : Program} {w : World} {K : PySem.W.Frag} {elts : List Expr} {kk : Nat} {tpos : Pos} {a b z TI TO i1 i2 : Addr} (D : ZipSep2 z TI TO i1 i2 [i1, a] [i2, b]) (ne1 : a ≠ i1) (ne2 : b ≠ i2) :
    Turn P w K (.Tuple elts kk tpos) (ItzX K a b) [z, TI, TO, i1, i2] z (fun i h => IsZip h z TI TO .none ∧ IsPair h TI (.ref i1) (.ref i2) ∧ (∃ x y, IsPair h TO x y) ∧ h.IsTupleIter i1 a i ∧ h.IsListIter i2 b i) where
  mem := by simp
  obj := fun i h st c hc => by
    obtain ⟨hz, hTI, ⟨x, y, hTO⟩, ⟨o1, e1, _, d1⟩, ⟨o2, e2, _, d2⟩⟩ := st
    have e' : c = z ∨ c = TI ∨ c = TO ∨ c = i1 ∨ c = i2 := by simpa using hc
    rcases e' with q | q | q | q | q
    · rw [q]; exact ⟨_, hz, fun v q => nomatch q⟩
    · rw [q]; exact ⟨_, hTI, fun v q => nomatch q⟩
    · rw [q]; exact ⟨_, hTO, fun v q => nomatch q⟩
    · rw [q]; exact ⟨o1, e1, fun v q => by rw [d1] at q; cases q⟩
    · rw [q]; exact ⟨o2, e2, fun v q => by rw [d2] at q; cases q⟩
  keep := fun i h h' st k => by
    obtain ⟨hz, hTI, ⟨x, y, hTO⟩, h1, h2⟩ := st
    exact ⟨k z (by simp) _ hz, k TI (by simp) _ hTI, ⟨x, y, k TO (by simp) _ hTO⟩, h1.at fun o q => k i1 (by simp) o q, h2.at fun o q => k i2 (by simp) o q⟩
  item := by
    intro X hP hw hK hc i pins s σ H E I hf st hg
    subst hP hw hK
    obtain ⟨hz, hTI, ⟨x0, y0, hTO⟩, h1, h2⟩ := st
    obtain ⟨xs, ys, x, y, hqx, hqy, hx, hy⟩ := hg
    obtain ⟨its, rv, p, _⟩ := I.tuple hqx
    obtain ⟨its2, rv2, p2, _⟩ := I.list hqy
    obtain ⟨u, hu, ru⟩ := rv.get hx
    obtain ⟨u2, hu2, ru2⟩ := rv2.get hy
    have hzl : z < s.heap.objs.size := Heap.lt_size hz
    have hu' : its.toArray[i]? = some u := by simpa using hu
    have hu2' : its2.toArray[i]? = some u2 := by simpa using hu2
    have lt1 : i < its.toArray.size := (Array.getElem?_eq_some_iff.mp hu').1
    have lt2 : i < its2.toArray.size := (Array.getElem?_eq_some_iff.mp hu2').1
    have hh : X.A.in1.handled = none := I.ok.hd hc
    refine wpAny_pyNext_zipD2_item D (Draws.tuple hh i1 a ne1 its.toArray) (Draws.list hh i2 b ne2 its2.toArray) hz hTI hTO ⟨h1, show s.heap.IsTuple a its.toArray from p⟩ ⟨h2, p2.isList⟩ lt1 lt2 fun x1 x2 h' tk g1 g2 z' TO' st1 st2 hT hsz hk => ?_
    rw [hu'] at g1
    rw [hu2'] at g2
    obtain rfl := Option.some.inj g1
    obtain rfl := Option.some.inj g2
    refine ⟨_, rfl, wpAny_letOwnedTupleGo_zip (s := { s with heap := h', toks := tk }) z' fun h'' z'' sb => ?_⟩
    have hT2 : h''.get? s.heap.objs.size = some { cls := .type "tuple", data := .seq #[u, u2] } := (sb.2 _ (Nat.ne_of_gt hzl)).trans hT
    have new : ObjOk X.prog X.w (upd H s.heap.objs.size (.tup [x, y])) h'' s.heap.objs.size (.tup [x, y]) :=
      ⟨by show 2 ≤ sizeLine; decide, [u, u2], .cons ru (.cons ru2 .nil), ⟨_, hT2, rfl, _, rfl⟩⟩
    have I1 : Inv X pins σ (upd H s.heap.objs.size (.tup [x, y])) { s with heap := h'', toks := tk } :=
      I.turnedNew (t' := tk) (ch := [z, TI, TO, i1, i2]) (fun c o hb q => (sb.2 c (fun q' => hb (by simp [q']))).trans (hk c o (fun q' => hb (by simp [q'])) (fun q' => hb (by simp [q'])) (fun q' => hb (by simp [q'])) (fun q' => hb (by simp [q'])) q)) hf (Nat.le_refl _) new
    refine ⟨.ref s.heap.objs.size, _, I1, rfl, ⟨_, x, y, rfl, I.hok.fresh (Nat.le_refl _), rfl, fun l hl => by rw [I.tuple_inj hl hqx]; exact hx, fun l hl => by rw [I.list_inj hl hqy]; exact hy⟩, ⟨z'', ?_, ⟨u, u2, ?_⟩, ?_, ?_⟩, fun c hcm => ?_⟩
    · exact (sb.2 _ D.TIz).trans (hk _ _ D.TIz D.TITO D.TIi1 D.TIi2 hTI)
    · exact (sb.2 _ D.TOz).trans TO'
    · exact st1.1.at fun o q => (sb.2 _ D.zi1.symm).trans q
    · exact st2.1.at fun o q => (sb.2 _ D.zi2.symm).trans q
    · have hlt : c < s.heap.objs.size := by
        have e' : c = z ∨ c = TI ∨ c = TO ∨ c = i1 ∨ c = i2 := by simpa using hcm
        rcases e' with q | q | q | q | q
        · rw [q]; exact hzl
        · rw [q]; exact Heap.lt_size hTI
        · rw [q]; exact Heap.lt_size hTO
        · rw [q]; obtain ⟨_, e1, _⟩ := h1; exact Heap.lt_size e1
        · rw [q]; obtain ⟨_, e2, _⟩ := h2; exact Heap.lt_size e2
      rw [upd_ne (Nat.ne_of_lt hlt)]
      exact (hf c hcm).1
  done := by
    intro X hP hw hK hc i pins s σ H E I hf st hg
    subst hP hw hK
    obtain ⟨hz, hTI, ⟨x0, y0, hTO⟩, h1, h2⟩ := st
    obtain ⟨xs, ys, hqx, hqy, hend⟩ := hg
    obtain ⟨its, rv, p, _⟩ := I.tuple hqx
    obtain ⟨its2, rv2, p2, _⟩ := I.list hqy
    have l1 := rv.length
    have l2 := rv2.length
    have s1 : its.toArray.size = its.length := by simp
    have s2 : its2.toArray.size = its2.length := by simp
    have hh : X.A.in1.handled = none := I.ok.hd hc
    exact wpAny_pyNext_zipD2_end D (Draws.tuple hh i1 a ne1 its.toArray) (Draws.list hh i2 b ne2 its2.toArray) hz hTI hTO ⟨h1, show s.heap.IsTuple a its.toArray from p⟩ ⟨h2, p2.isList⟩ (by omega) (by omega) (by omega) fun h' tk hk => ⟨rfl, I.turnedL (t' := tk) (ch := [z, TI, TO, i1, i2]) (fun c o hb q =>
      hk c o (fun q' => hb (by simp [q'])) (fun q' => hb (by simp [q'])) (fun q' => hb (by simp [q'])) (fun q' => hb (by simp [q'])) q) hf⟩
  self := fun A i s Q E st h => wpAny_pyIter_zip st.1 h
def iZipX (K : PySem.W.Frag) (ta : TA) : TI := fun σ H R => ta σ H fun vs H1 => ∃ a b xs ys, vs = [.ref a, .ref b] ∧ SqT K H1 a xs ∧ SqL K H1 b ys ∧ R (ItzX K a b) H1
theorem pi_zipX {X : Cx} {e e2 : Expr} {ta : TA} {p pos tpos : Pos} {elts : List Expr} {kk : Nat} (hg : Gl X "zip") (hm : X.mg "zip" = none) (ha : PA X [e, e2] ta)
    (hs : starEach [e, e2] X.env = (false, eval e X.env) :: starEach [e2] X.env := by rfl) (hpl : (backTo pos (starEach [e2] X.env)).any (·.1) = false := by rfl) :
    PI X (.Tuple elts kk tpos) (.Call (.Name "zip" p) [e, e2] [] pos) (iZipX X.K ta) := by
  refine ⟨fun pins s σ H R I h => ?_⟩
  refine Call_ (ld_blt I hg hm PyProof.Rows.boot_zip (PyProof.Rows.callWith_type1 (thn (ha.run pos pins s σ H _ I h) fun us s1 ⟨vs, H1, I1, r1, q1⟩ => ?_) hs hpl))
  obtain ⟨a, b, xs, ys, ex, hqx, hqy, q⟩ := q1
  subst ex
  cases r1 with
  | cons r rr =>
    cases rr with
    | cons r' rr =>
      cases rr
      cases r
      cases r'
      obtain ⟨its, rv, p1, _⟩ := I1.tuple hqx
      obtain ⟨its2, rv2, p2, _⟩ := I1.list hqy
      obtain ⟨o1, ho1, _⟩ := id p1
      have la : a < s1.heap.objs.size := Heap.lt_size ho1
      have lb : b < s1.heap.objs.size := p2.lt
      refine zip_begins2 (begins_tuple a its.toArray) (begins_list b its2.toArray) (show s1.heap.IsTuple a its.toArray from p1) p2.isList fun h' hz hTI hTO h1 h2 hsz hk => wpAny_pyIter_zip hz ?_
      have I2 : Inv X pins σ H1 { s1 with heap := h' } := I1.kept (t' := s1.toks) hk
      refine ⟨s1.heap.objs.size + 4, [s1.heap.objs.size + 4, s1.heap.objs.size + 2, s1.heap.objs.size + 3, s1.heap.objs.size, s1.heap.objs.size + 1], _, _, H1, rfl, I2,
        turn_zipX (zip_sep2 (fp1 := [a]) (fp2 := [b]) (fun c hc => by rw [List.mem_singleton.mp hc]; exact la) (fun c hc => by rw [List.mem_singleton.mp hc]; exact lb)) (Nat.ne_of_lt la) (Nat.ne_of_lt (Nat.lt_succ_of_lt lb)), ⟨hz, hTI, ⟨_, _, hTO⟩, ⟨_, h1, rfl, rfl⟩, ⟨_, h2, rfl, rfl⟩⟩, fun c hcm => ?_, q⟩
      have e' : c = s1.heap.objs.size + 4 ∨ c = s1.heap.objs.size + 2 ∨ c = s1.heap.objs.size + 3 ∨ c = s1.heap.objs.size ∨ c = s1.heap.objs.size + 1 := by simpa using hcm
      have hle : s1.heap.objs.size ≤ c := by
        rcases e' with z | z | z | z | z
        · rw [z]; exact Nat.le_add_right _ _
        · rw [z]; exact Nat.le_add_right _ _
        · rw [z]; exact Nat.le_add_right _ _
        · rw [z]; exact Nat.le_refl _
        · rw [z]; exact Nat.le_add_right _ _
      exact I1.fpOk hle (I1.hok.fresh hle)
end L2
end
section
/-! over data: enumerate(zip(xs, ys)), zip(TUPLE, xs) -/
namespace Dx
open PySem L2 RT Sx
def dEnumZ (a : DA) : DA := fun X ρ P => a X ρ fun xs => ∃ ys zs, xs = [.lst ys, .lst zs] ∧ P ((List.range (min ys.length zs.length)).zipWith (fun i y => .tup [nat i, y]) (ys.zipWith (fun y z => .tup [y, z]) zs))
def dZipX (a : DA) : DA := fun X ρ P => a X ρ fun xs => ∃ ys zs, xs = [.ktup ys, .lst zs] ∧ P (ys.zipWith (fun y z => .tup [y, z]) zs)
section
variable {K : PySem.W.Frag} {C : Ec} {E : XK} {σ : L2.St} {H : Hp} {W : Wd} {R : It → Hp → Prop}
theorem dwalk_enumZ {a b : Addr} {vs ws : List V} {xs ys : List Dt} (h : W.F a = some (.lst vs)) (r : RpL K W vs xs) (h2 : W.F b = some (.lst ws)) (r2 : RpL K W ws ys) :
    DWalk K W (ItEz K a b) ((List.range (min xs.length ys.length)).zipWith (fun i y => .tup [nat i, y]) (xs.zipWith (fun y z => .tup [y, z]) ys)) := by
  unfold DWalk
  have l1 := r.length
  have l2 := r2.length
  have hl : ((List.range (min xs.length ys.length)).zipWith (fun i y => Dt.tup [nat i, y]) (xs.zipWith (fun y z => .tup [y, z]) ys)).length = min vs.length ws.length := by
    rw [List.length_zipWith, List.length_range, List.length_zipWith, Nat.min_self, l1, l2]
  rw [hl]
  refine ⟨fun i H hi s => ?_, fun H s => ⟨vs, ws, sql (s _ _ h), sql (s _ _ h2), by omega⟩, fun i H u H' hi s y => ?_⟩
  · have h1 : i < vs.length := by omega
    have h2' : i < ws.length := by omega
    exact ⟨vs, ws, vs[i], ws[i], sql (s _ _ h), sql (s _ _ h2), by simp [h1], by simp [h2']⟩
  · obtain ⟨T1, T2, va, vb, e1, n1, n2, e2, e3, e4⟩ := y
    obtain ⟨z, hz, rz⟩ := r.getV (e3 vs (sql (s _ _ h)))
    obtain ⟨z2, hz2, rz2⟩ := r2.getV (e4 ws (sql (s _ _ h2)))
    refine .inr (.inr ⟨T1, T2, (i : Nat), z, z2, va, vb, e1, n1, n2, e2, ?_, rz, rz2⟩)
    rw [List.getElem?_zipWith, List.getElem?_range (by rw [← l1, ← l2]; exact hi), List.getElem?_zipWith, hz, hz2]
theorem dwalk_zipX {a b : Addr} {vs ws : List V} {xs ys : List Dt} (h : ∀ H, Same W.F H → SqT K H a vs) (r : RpL K W vs xs) (h2 : W.F b = some (.lst ws)) (r2 : RpL K W ws ys) :
    DWalk K W (ItzX K a b) (xs.zipWith (fun y z => .tup [y, z]) ys) := by
  unfold DWalk
  have l1 := r.length
  have l2 := r2.length
  have hl : (xs.zipWith (fun y z => Dt.tup [y, z]) ys).length = min vs.length ws.length := by
    rw [List.length_zipWith, l1, l2]
  rw [hl]
  refine ⟨fun i H hi s => ?_, fun H s => ⟨vs, ws, h H s, sql (s _ _ h2), rfl⟩, fun i H u H' hi s y => ?_⟩
  · have h1 : i < vs.length := by omega
    have h2' : i < ws.length := by omega
    exact ⟨vs, ws, vs[i], ws[i], h H s, sql (s _ _ h2), by simp [h1], by simp [h2']⟩
  · obtain ⟨T, va, vb, e1, n, e2, e3, e4⟩ := y
    obtain ⟨z, hz, rz⟩ := r.getV (e3 vs (h H s))
    obtain ⟨z2, hz2, rz2⟩ := r2.getV (e4 ws (sql (s _ _ h2)))
    refine .inr (.inl ⟨T, z, z2, va, vb, e1, n, e2, ?_, rz, rz2⟩)
    rw [List.getElem?_zipWith, hz, hz2]
theorem li_enumZ {a : DA} (q : liftI K C E (dEnumZ a) σ H R) : iEnumZ K (liftA K C E a) σ H R := by
  obtain ⟨c, P, at_, h, k⟩ := q
  refine ⟨c, _, at_, h, fun W1 H1 v1 x1 f1 o1 r1 ⟨ys, zs, e, q1⟩ => ?_⟩
  subst e
  obtain ⟨v, w, rfl, rv, rw_⟩ := rpl2 r1
  obtain ⟨a, vs, rfl, hs, rs⟩ := rp_lst rv
  obtain ⟨b, ws, rfl, ht, rt⟩ := rp_lst rw_
  exact ⟨a, b, vs, ws, rfl, sql (o1.sF _ _ hs), sql (o1.sF _ _ ht), k _ _ _ _ f1 o1 (dwalk_enumZ hs rs ht rt) q1⟩
theorem li_zipX {a : DA} (q : liftI K C E (dZipX a) σ H R) : iZipX K (liftA K C E a) σ H R := by
  obtain ⟨c, P, at_, h, k⟩ := q
  refine ⟨c, _, at_, h, fun W1 H1 v1 x1 f1 o1 r1 ⟨ys, zs, e, q1⟩ => ?_⟩
  subst e
  obtain ⟨v, w, rfl, rv, rw_⟩ := rpl2 r1
  obtain ⟨b, ws, rfl, ht, rt⟩ := rp_lst rw_
  cases rv with
  | ktup hs rs => exact ⟨_, b, _, ws, rfl, hs _, sql (o1.sF _ _ ht), k _ _ _ _ f1 o1 (dwalk_zipX (fun H s => hs H) rs ht rt) q1⟩
end
end Dx
end
section
/-! one's own dict by rows; the list of its keys; one's own dict by ints and texts, asked -/
namespace L2
open PySem PySem.Spec PyProof.Rows
def rListDT : List V → Hp → VK → Prop := fun xs H Q => ∃ d kvs, xs = [V.ref d] ∧ Rd H d (.dT kvs) ∧ ∀ p bs, H p = none → IsKeys H kvs bs → Q (.ref p) (upd H p (.lst (bs.map V.ref)))
theorem call_listDT {X : Cx} (hc : X.calm = true := by rfl) : CallR X (.type "list") rListDT := call_list_dT hc
end L2
namespace Dx
open PySem L2 RT Sx
def dPutT (i : Nat) (b a : DE) : DS := fun D X ρ => a X ρ fun x => ∃ ps, ρ[i]? = some (.od (.dT ps)) ∧ b X ρ fun y => ∃ k, y = .tup (k.map keyD) ∧ ps.length ≤ 100000 ∧ D.nx (ρ.set i (.od (.dT (pK ps k x))))
def dListD (a : DA) : DN := fun X ρ P => a X ρ fun xs => ∃ ps, xs = [.dT ps] ∧ P (ps.map fun p => .tup (p.1.map keyD))
section
variable {K : PySem.W.Frag} {W : Wd}
theorem RpT.any {k : List Key} : ∀ {ks : List (List Key × V)} {ps : List (List Key × Dt)}, RpT K W ks ps → (ks.any fun p => decide (p.1 = k)) = ps.any fun p => decide (p.1 = k)
  | _, _, .nil => rfl
  | _, _, .cons r rr => by simp only [List.any_cons]; rw [RpT.any rr]
theorem RpT.mapp {k : List Key} {v : V} {x : Dt} (h : Rp K W v x) : ∀ {ks : List (List Key × V)} {ps : List (List Key × Dt)}, RpT K W ks ps → RpT K W (ks.map fun p => if p.1 = k then (p.1, v) else p) (ps.map fun p => if p.1 = k then (p.1, x) else p)
  | _, _, .nil => .nil
  | _, _, @RpT.cons _ _ k' v' x' ks ps r rr => by
    rw [List.map_cons, List.map_cons]
    by_cases e : k' = k
    · simp only [e, if_true]; exact .cons h (RpT.mapp h rr)
    · simp only [e, if_false]; exact .cons r (RpT.mapp h rr)
theorem RpT.snoc {k : List Key} {v : V} {x : Dt} (h : Rp K W v x) : ∀ {ks : List (List Key × V)} {ps : List (List Key × Dt)}, RpT K W ks ps → RpT K W (ks ++ [(k, v)]) (ps ++ [(k, x)])
  | _, _, .nil => .cons h .nil
  | _, _, .cons r rr => .cons r (RpT.snoc h rr)
theorem RpT.put {k : List Key} {v : V} {x : Dt} {ks : List (List Key × V)} {ps : List (List Key × Dt)} (h : Rp K W v x) (r : RpT K W ks ps) : RpT K W (putK ks k v) (pK ps k x) := by
  unfold putK pK
  rw [r.any]
  split
  · exact r.mapp h
  · exact r.snoc h
theorem RpT.length : ∀ {ks : List (List Key × V)} {ps : List (List Key × Dt)}, RpT K W ks ps → ks.length = ps.length
  | _, _, .nil => rfl
  | _, _, .cons _ h => by rw [List.length_cons, List.length_cons, h.length]
theorem dictR_T {ho : HO} {ps : List (List Key × Dt)} (h : DictR K W ho (.dT ps)) : ∃ ks, ho = .dT ks ∧ RpT K W ks ps := by
  rcases h with ⟨ks, qs, rfl, e, r⟩ | ⟨ks, qs, rfl, e, r⟩
  · cases e
  · obtain rfl := Dt.dT.inj e; exact ⟨ks, rfl, r⟩
theorem rp_dT {v : V} {ps : List (List Key × Dt)} (r : Rp K W v (.dT ps)) : ∃ a o ks, v = .ref a ∧ W.F a = some (.frz o (.dT ks)) ∧ RpT K W ks ps := by
  cases r with | dT h r => exact ⟨_, _, _, rfl, h, r⟩
theorem rpl_keys : ∀ {k : List Key} {vs : List V}, RpL K W vs (k.map keyD) → vs = k.map kV
  | [], _, .nil => rfl
  | a :: r, _, .cons h t => by rw [List.map_cons, rp_key h, rpl_keys t]
theorem rpl_keysV : ∀ {k : List Key}, RpL K W (k.map kV) (k.map keyD)
  | [] => .nil
  | .inl i :: r => .cons (.int i) rpl_keysV
  | .inr s :: r => .cons (.str s) rpl_keysV
/-- the keys' tuples are kept -/
theorem keepKeys {ks : List (List Key × V)} {bs : List Addr} {H : Hp} (r : IsKeys H ks bs) : ∀ {W : Wd} {ps : List (List Key × Dt)}, Ok K W H → RpT K W ks ps → ∃ W', Frm W H W' H ∧ Ok K W' H ∧ RpL K W' (bs.map V.ref) (ps.map fun p => .tup (p.1.map keyD)) := by
  unfold IsKeys at r
  induction r with
  | nil => exact fun o rt => by cases rt; exact ⟨_, Frm.refl _ _, o, .nil⟩
  | cons h t ih =>
    intro W ps o rt
    cases rt with
    | cons rv rr =>
      obtain ⟨W1, f1, o1, e1⟩ := keepT o (Same.refl _) h
      obtain ⟨W2, f2, o2, r2⟩ := ih o1 (rr.le f1.le)
      exact ⟨W2, f1.trans f2, o2, .cons (.tup (f2.le.sF _ _ e1) rpl_keysV) r2⟩
end
section
variable {K : PySem.W.Frag} {C : Ec} {E : XK} {σ : L2.St} {H : Hp} {Q : VK} {D : Ends} {W : Wd}
theorem ls_putT {i : Nat} {b a : DE} (q : liftS K C E (dPutT i b a) D σ H) : sDPut (tVar i) (liftE K C E b) (liftE K C E a) D σ H := by
  obtain ⟨c, DD, at_, en, h⟩ := q
  refine ⟨c, _, at_, h, fun W1 H1 v1 x1 f1 o1 r1 ⟨ps, e, q1⟩ => ?_⟩
  have a1 := at_.frm f1 o1
  obtain ⟨p, ho, h1, m, hp, dr⟩ := at_.od e
  obtain ⟨ks, rfl, rk⟩ := dictR_T dr
  refine ⟨_, h1, { c with W := W1 }, _, a1, q1, fun W2 H2 v2 x2 f2 o2 r2 ⟨k, e2, hz, q2⟩ => ?_⟩
  subst e2
  have f12 := f1.trans f2
  have hp2 := f12.sH p _ hp m.d
  have m2 := m.frm f12 hp trivial
  have a2 := at_.frm f12 o2
  obtain ⟨ta, vs, rfl, hs, rs⟩ := rp_tup r2
  obtain rfl := rpl_keys rs
  refine ⟨p, _, rfl, DPut.t (k := k) hp2 (o2.sF _ _ hs) (by rw [rk.length]; exact Nat.lt_of_le_of_lt hz (by decide)), ?_⟩
  exact en.nx W2 _ σ _ (a2.put (t := .od (.dT (pK ps k x1))) e rfl h1 m2 ⟨p, _, rfl, m2, upd_same, .inr ⟨_, _, rfl, rfl, (rk.le f12.le).put (r1.le f2.le)⟩⟩) q2
theorem ls_putK {i : Nat} {b a : DE} (q : liftS K C E (dPutK i b a) D σ H) : sDPut (tVar i) (liftE K C E b) (liftE K C E a) D σ H := by
  obtain ⟨c, DD, at_, en, h⟩ := q
  refine ⟨c, _, at_, h, fun W1 H1 v1 x1 f1 o1 r1 ⟨ps, e, q1⟩ => ?_⟩
  have a1 := at_.frm f1 o1
  obtain ⟨p, ho, h1, m, hp, dr⟩ := at_.od e
  obtain ⟨ks, rfl, rk⟩ := dictR_K dr
  refine ⟨_, h1, { c with W := W1 }, _, a1, q1, fun W2 H2 v2 x2 f2 o2 r2 ⟨k, e2, hz, q2⟩ => ?_⟩
  subst e2
  have f12 := f1.trans f2
  have hp2 := f12.sH p _ hp m.d
  have m2 := m.frm f12 hp trivial
  have a2 := at_.frm f12 o2
  obtain rfl := rp_key r2
  refine ⟨p, _, rfl, DPut.k (k := k) hp2 (by rw [rk.length]; exact Nat.lt_of_le_of_lt hz (by decide)), ?_⟩
  exact en.nx W2 _ σ _ (a2.put (t := .od (.dK (pK ps k x1))) e rfl h1 m2 ⟨p, _, rfl, m2, upd_same, .inl ⟨_, _, rfl, rfl, (rk.le f12.le).put (r1.le f2.le)⟩⟩) q2
theorem le_getOK {i : Nat} {b : DE} (q : liftE K C E (dGetO i b) σ H Q) : tDGet (tVar i) (liftE K C E b) σ H Q := by
  obtain ⟨c, P, at_, ⟨ps, e, h⟩, k⟩ := q
  obtain ⟨p, ho, h1, m, hp, dr⟩ := at_.od e
  obtain ⟨ks, rfl, rk⟩ := dictR_K dr
  refine ⟨_, h1, c, _, at_, h, fun W1 H1 v1 x1 f1 o1 r1 ⟨kk, z, e1, eg, q1⟩ => ?_⟩
  subst e1
  rcases (rk.le f1.le).get (k := kk) with ⟨_, n⟩ | ⟨v, x, hv, hx, rv⟩
  · rw [n] at eg; cases eg
  · rw [hx] at eg
    obtain rfl := Option.some.inj eg
    exact ⟨p, v, rfl, .inl ⟨ks, kk, .inl (f1.sH p _ hp m.d), rp_key r1, hv.symm⟩, k W1 H1 v x f1 o1 rv q1⟩
theorem le_inO {i : Nat} {b : DE} (q : liftE K C E (dInO b i) σ H Q) : tDIn (liftE K C E b) (tVar i) σ H Q := by
  obtain ⟨c, P, at_, h, k⟩ := q
  refine ⟨c, _, at_, h, fun W1 H1 v1 x1 f1 o1 r1 ⟨ps, kk, e, e1, q1⟩ => ?_⟩
  subst e1
  have a1 := at_.frm f1 o1
  obtain ⟨p, ho, h1, m, hp, dr⟩ := a1.od e
  obtain ⟨ks, rfl, rk⟩ := dictR_K dr
  exact ⟨_, h1, p, valV ks kk, rfl, .inl ⟨ks, kk, .inl hp, rp_key r1, rfl⟩, by rw [isSome_eq rk]; exact k W1 H1 _ _ f1 o1 (.bl _) q1⟩
theorem le_notInO {i : Nat} {b : DE} (q : liftE K C E (dNotInO b i) σ H Q) : tDNotIn (liftE K C E b) (tVar i) σ H Q := by
  obtain ⟨c, P, at_, h, k⟩ := q
  refine ⟨c, _, at_, h, fun W1 H1 v1 x1 f1 o1 r1 ⟨ps, kk, e, e1, q1⟩ => ?_⟩
  subst e1
  have a1 := at_.frm f1 o1
  obtain ⟨p, ho, h1, m, hp, dr⟩ := a1.od e
  obtain ⟨ks, rfl, rk⟩ := dictR_K dr
  exact ⟨_, h1, p, valV ks kk, rfl, .inl ⟨ks, kk, .inl hp, rp_key r1, rfl⟩, by rw [isSome_eq rk]; exact k W1 H1 _ _ f1 o1 (.bl _) q1⟩
theorem le_listD {a : DA} (q : liftN K C E (dListD a) σ H Q) : tCB rListDT (liftA K C E a) σ H Q := by
  obtain ⟨c, P, at_, h, k⟩ := q
  refine ⟨c, _, at_, h, fun W1 H1 v1 x1 f1 o1 r1 ⟨ps, e, q1⟩ => ?_⟩
  subst e
  obtain ⟨v, rfl, rv⟩ := rpl1 r1
  obtain ⟨d, od, ks, rfl, hf, rk⟩ := rp_dT rv
  refine ⟨d, ks, rfl, .inr ⟨od, o1.sF _ _ hf⟩, fun p bs n hk => ?_⟩
  obtain ⟨W2, f2, o2, r2⟩ := keepKeys hk o1 rk
  have fr := f1.trans f2
  exact k W2 _ p _ _ (fr.trans (Frm.laid n)) (o2.laid n) (fr.kp p n) (o2.fr n) (o2.dice_ne n) upd_same r2 q1
end
/-- list(range(a, b)) -/
def tLr2N (ta tb : TE) : TE := fun σ H Q => ta σ H fun x H1 => tb σ H1 fun y H2 => ∃ i j : Int, x = .int i ∧ y = .int j ∧ RgOk i j ∧ ∀ q H3, H2 q = none → Same H2 H3 → H3 q = some (.lst (rgV i j)) → Q (.ref q) H3
theorem pe_lr2N {X : Cx} {a b : Expr} {ta tb : TE} {p p2 pos pos2 : Pos} (hc : X.calm = true) (hg : Gl X "list") (hm : X.mg "list" = none) (hg2 : Gl X "range") (hm2 : X.mg "range" = none) (ha : PE X a ta) (hb : PE X b tb) (na : starEach [a, b] X.env = (false, eval a X.env) :: starEach [b] X.env := by rfl)
    (nb : starEach [b] X.env = (false, eval b X.env) :: starEach [] X.env := by rfl) (hp : (backTo pos2 (starEach [b] X.env)).any (·.1) = false := by rfl)
    (nc : starEach [.Call (.Name "range" p2) [a, b] [] pos2] X.env = (false, eval (.Call (.Name "range" p2) [a, b] [] pos2) X.env) :: starEach [] X.env := by rfl) : PE X (.Call (.Name "list" p) [.Call (.Name "range" p2) [a, b] [] pos2] [] pos) (tLr2N ta tb) :=
  PE.imp (pe_listRg hc hg hm (prg_2 hg2 hm2 (PE.weak ha) (PE.weak hb) na nb hp) nc) fun σ H Q q => ⟨_, q, fun v H1 q1 => ⟨_, q1, fun w H2 ⟨i, j, e1, e2, ok, k⟩ => ⟨i, j, e1, e2, ok, fun q hq => k q _ hq (same_new hq) upd_same⟩⟩⟩
def dLr2 (a b : DE) : DN := fun X ρ P => a X ρ fun x => b X ρ fun y => ∃ i j : Int, x = .int i ∧ y = .int j ∧ RgOk i j ∧ P (rangeD i (j - i).toNat)
theorem rpl_rg {K : PySem.W.Frag} {W : Wd} (i j : Int) : RpL K W (rgV i j) (rangeD i (j - i).toNat) := by
  have e : rangeD i (j - i).toNat = ((List.range (j - i).toNat).map fun k : Nat => i + (k : Int)).map Dt.int := by unfold rangeD; rw [List.map_map]; rfl
  have e2 : rgV i j = ((List.range (j - i).toNat).map fun k : Nat => i + (k : Int)).map V.int := by unfold rgV; rw [List.map_map]; rfl
  rw [e, e2]
  exact RpL.ints
theorem le_lr2 {K : PySem.W.Frag} {C : Ec} {E : XK} {σ : L2.St} {H : Hp} {Q : VK} {a b : DE} (q : liftN K C E (dLr2 a b) σ H Q) : tLr2N (liftE K C E a) (liftE K C E b) σ H Q := by
  obtain ⟨c, P, at_, h, k⟩ := q
  refine ⟨c, _, at_, h, fun W1 H1 v1 x1 f1 o1 r1 q1 => ?_⟩
  refine ⟨{ c with W := W1 }, _, at_.frm f1 o1, q1, fun W2 H2 v2 x2 f2 o2 r2 ⟨i, j, e1, e2, ok, q2⟩ => ?_⟩
  subst e1; subst e2
  exact ⟨i, j, rp_int r1, rp_int r2, ok, newL (f1.trans f2) o2 (rpl_rg i j) q2 k⟩
theorem nlr2 {X : Cx} {C : Ec} {E : XK} {e : Expr} {da db : DE} (h : PE X e (tLr2N (liftE X.K C E da) (liftE X.K C E db))) : PE X e (liftN X.K C E (dLr2 da db)) := PE.imp h fun _ _ _ => le_lr2
theorem d_lr2 {X : DX} {ρ : Env} {P : List Dt → Prop} {a b : DE} (q : a X ρ fun x => b X ρ fun y => ∃ i j : Int, x = .int i ∧ y = .int j ∧ RgOk i j ∧ P (rangeD i (j - i).toNat)) : dLr2 a b X ρ P := q
theorem nlistD {X : Cx} {C : Ec} {E : XK} {e : Expr} {dA : DA} (h : PE X e (tCB rListDT (liftA X.K C E dA))) : PE X e (liftN X.K C E (dListD dA)) := PE.imp h fun _ _ _ => le_listD
theorem d_putT {X : DX} {ρ : Env} {D : DEnds} {i : Nat} {b a : DE} (q : a X ρ fun x => ∃ ps, ρ[i]? = some (.od (.dT ps)) ∧ b X ρ fun y => ∃ k, y = .tup (k.map keyD) ∧ ps.length ≤ 100000 ∧ D.nx (ρ.set i (.od (.dT (pK ps k x))))) : dPutT i b a D X ρ := q
theorem d_newT {X : DX} {ρ : Env} {D : DEnds} {i : Nat} (q : D.nx (ρ.set i (.od (.dT [])))) : dAsgD i dNewT D X ρ := q
theorem d_newK {X : DX} {ρ : Env} {D : DEnds} {i : Nat} (q : D.nx (ρ.set i (.od (.dK [])))) : dAsgD i dNewK D X ρ := q
theorem d_listD {X : DX} {ρ : Env} {P : List Dt → Prop} {a : DA} (q : a X ρ fun xs => ∃ ps, xs = [.dT ps] ∧ P (ps.map fun p => .tup (p.1.map keyD))) : dListD a X ρ P := q
end Dx
end
section
/-! {**d, k: v} -/
namespace Spr
open PySem PySem.Spec PySem.Calls PyProof.Rows L2
section
variable {prog : Program} {w : World} {A : Around} {E : Value → Shared → Prop} {s : Shared}
theorem dictPut_pairs {d : Addr} {kvs : List (Key × Value)} {k : Key} {key v : Value} {Q : Unit → Shared → Prop} (hkey : (mixKind prog w).is k key = true) (hm : s.heap.DictOf (mixKind prog w) d kvs)
    (hQ : ∀ h', h'.DictOf (mixKind prog w) d (stored kvs k v) → Heap.SameBut d s.heap h' → Q () { s with heap := h' }) (hsz : kvs.length ≤ sizeLine) :
    wpAny (model prog w) A (dictPut d ((mixKind prog w).hash k) key v) Q E s := by
  obtain ⟨o, es, ep, ho, hc, hd, hk, hp, hn⟩ := hm
  have hes : es.size ≤ sizeLine := by have e1 := hp.length; have e2 : es.toList.length = es.size := by simp
                                      omega
  unfold dictPut
  refine wpAny_bind (wpAny_dictFind_of hkey ho hd hk ?_)
  have hidx : (es.findIdx? fun e => (mixKind prog w).is k e.key) = kvs.findIdx? fun kv => decide (kv.1 = k) := by
    rw [← hp.findIdx k]; obtain ⟨l⟩ := es; simp
  cases hi : es.findIdx? fun e => (mixKind prog w).is k e.key with
  | some i =>
    refine wpAny_updateDict ho hd (hQ _ ⟨_, _, ep, Heap.get?_update_self _ ho (Obj.isFreed_of_dict (Obj.data_mapDict hd _)),
      hc.mapDict _, Obj.data_mapDict hd _, hk.modify _ _, ?_, ?_⟩ (Heap.SameBut.update ..))
    · rw [stored, if_pos (any_of_findIdx_some (hidx ▸ hi))]
      have hl : (es.toList.findIdx? fun e => (mixKind prog w).is k e.key) = some i := by rw [← hi]; obtain ⟨l⟩ := es; simp
      have := hp.modify hn hl v
      obtain ⟨l⟩ := es
      simpa using this
    · rw [stored, if_pos (any_of_findIdx_some (hidx ▸ hi)), keys_map_store]; exact hn
  | none =>
    have hnot : k ∉ kvs.map (·.1) := not_mem_of_findIdx_none (hidx ▸ hi)
    have hany : ¬ (kvs.any fun kv => decide (kv.1 = k)) = true := by
      rw [List.any_eq_true]; rintro ⟨kv, hkv, he⟩
      exact hnot (List.mem_map.mpr ⟨kv, hkv, of_decide_eq_true he⟩)
    refine wpAny_updateDictKeys (hz := hes) ho hd (hQ _ ⟨_, _, ep + 1, Heap.get?_update_self _ ho (Obj.isFreed_of_dict (Obj.data_mapDictKeys hd _)),
      hc.mapDictKeys _, Obj.data_mapDictKeys hd _, hk.push hkey _, ?_, ?_⟩ (Heap.SameBut.update ..))
    · rw [stored, if_neg hany]
      have := hp.append hkey ((mixKind prog w).hash k) v
      obtain ⟨l⟩ := es
      simpa using this
    · rw [stored, if_neg hany, List.map_append, List.nodup_append]
      refine ⟨hn, by simp, ?_⟩
      intro a ha b hb
      simp only [List.map_cons, List.map_nil, List.mem_singleton] at hb
      subst hb
      exact fun e => hnot (e ▸ ha)
theorem key_noref {k : Key} {v : Value} (h : (mixKind prog w).is k v = true) : ∀ a, v ≠ .ref a := by
  rcases keyIs_shape h with ⟨i, t, _, rfl⟩ | ⟨x, t, _, rfl⟩ <;> exact fun a z => nomatch z
theorem mergeMapping_dict {d o : Addr} {kvs more : List (Key × Value)} {Q : Unit → Shared → Prop} (hdo : d ≠ o) (hoS : (o == sysModules) = false)
    (hd : s.heap.DictOf (mixKind prog w) d kvs) (ho : s.heap.DictOf (mixKind prog w) o more)
    (hQ : ∀ h', h'.DictOf (mixKind prog w) d (merged kvs more) → h'.DictOf (mixKind prog w) o more → Heap.SameBut d s.heap h' → Q () { s with heap := h' })
    (hsz : kvs.length + more.length ≤ sizeLine) :
    wpAny (model prog w) A (mergeMapping d (.ref o) false) Q E s := by
  obtain ⟨od, esd, epd, hod, hcd, hdd, hkd, hpd, hnd⟩ := id hd
  obtain ⟨oo, eso, epo, hoo, hco, hdo', hko, hpo, hno⟩ := id ho
  have hlen : more.length = eso.size := by rw [← hpo.length]; simp
  -- the loop
  have loop : wpAny (model prog w) A (do
      let l ← dictEntries o
      let epoch ← dictEpoch o
      forIn (List.range l.size) PUnit.unit fun i (_ : PUnit) => (do
          let l' ← dictEntries o
          match l'[i]? with
            | some e => do
              holding [e.key, e.val] (dictPut d e.hash e.key e.val)
              let ep' ← dictEpoch o
              if (ep' != epoch) = true then do
                  (unsupported "dict.changed-during-merge" : Sem PUnit)
                  pure (ForInStep.yield PUnit.unit)
                else pure (ForInStep.yield PUnit.unit)
            | _ => do
              (unsupported "dict.changed-during-merge" : Sem PUnit)
              pure (ForInStep.yield PUnit.unit) : Sem (ForInStep PUnit))
      pure ()) Q E s := by
    refine wpAny_bind (wpAny_dictEntries hoo hdo' ?_)
    refine wpAny_bind (wpAny_dictEpoch hoo hdo' ?_)
    refine wpAny_bind ?_
    rw [List.range_eq_range']
    refine wpAny_forIn_list _
      (fun rest _ s' => ∃ h' i, s' = { s with heap := h' } ∧ rest = List.range' i (eso.size - i) ∧ i ≤ eso.size ∧ h'.DictOf (mixKind prog w) d (merged kvs (more.take i)) ∧ h'.get? o = some oo ∧ Heap.SameBut d s.heap h')
      _ ?_ ?_ _ _ ⟨s.heap, 0, rfl, by simp, Nat.zero_le _, by simpa [merged] using hd, hoo, Heap.SameBut.refl _ _⟩
    · rintro x rest b s' ⟨h', i, rfl, hr, hi, hd', hoo', hs'⟩
      have hlt : i < eso.size := by
        rcases Nat.lt_or_ge i eso.size with h | h
        · exact h
        · rw [Nat.sub_eq_zero_of_le h] at hr; simp at hr
      obtain ⟨rfl, hrest⟩ : x = i ∧ rest = List.range' (i + 1) (eso.size - (i + 1)) := by
        have e : eso.size - i = (eso.size - (i + 1)) + 1 := by omega
        rw [e, List.range'_succ] at hr
        injection hr with h1 h2
        exact ⟨h1, h2⟩
      refine wpAny_bind (wpAny_dictEntries hoo' hdo' ?_)
      rw [Array.getElem?_eq_getElem hlt]
      obtain ⟨kv, hkv⟩ : ∃ kv, more[x]? = some kv := ⟨more[x]'(by rw [hlen]; exact hlt), List.getElem?_eq_getElem _⟩
      obtain ⟨k, v⟩ := kv
      obtain ⟨hkey, hval⟩ := hpo.get? (e := eso[x]) (by simp [hlt]) hkv
      obtain ⟨k', hkey', hhash⟩ := hko eso[x] (Array.getElem_mem hlt)
      obtain rfl : k' = k := (mixKind prog w).inj _ _ _ hkey' hkey
      show wpAny _ _ (holding [eso[x].key, eso[x].val] (dictPut d eso[x].hash eso[x].key eso[x].val) >>= _) _ _ _
      rw [hhash, hval]
      have hmx : (merged kvs (more.take x)).length ≤ sizeLine := by
        have e1 := merged_length_le kvs (more.take x)
        have e2 : (more.take x).length ≤ more.length := by rw [List.length_take]; omega
        omega
      refine wpAny_bind (wpAny_holding (dictPut_pairs (hsz := hmx) hkey hd' fun h'' hd'' hs'' => ?_))
      have hoo'' : h''.get? o = some oo := (hs''.2 o (Ne.symm hdo)).trans hoo'
      refine wpAny_bind (wpAny_dictEpoch hoo'' hdo' ?_)
      rw [if_neg (by simp)]
      exact wpAny_pure ⟨h'', x + 1, rfl, hrest, hlt, by rw [merged_take_succ kvs more x (k', v) hkv]; exact hd'', hoo'', hs'.trans hs''⟩
    · rintro b s' ⟨h', i, rfl, hr, hi, hd', hoo', hs'⟩
      have hin : i = eso.size := by
        rcases Nat.lt_or_ge i eso.size with h | h
        · have e : eso.size - i = (eso.size - (i + 1)) + 1 := by omega
          rw [e, List.range'_succ] at hr; exact nomatch hr
        · exact Nat.le_antisymm hi h
      refine wpAny_pure (hQ h' ?_ ⟨oo, eso, epo, hoo', hco, hdo', hko, hpo, hno⟩ hs')
      rw [hin, ← hlen, List.take_length] at hd'; exact hd'
  unfold mergeMapping
  show wpAny _ _ (isInstance (.ref o) (.type "dict") >>= _) _ _ _
  refine wpAny_bind (wpAny_isInstance (T := "dict") (b := true) ho.typeIs F.sub_dict_dict ?_)
  simp only [if_true]
  show wpAny _ _ (specialOf (.ref o) "__iter__" >>= _) _ _ _
  refine wpAny_bind (wpAny_specialOf ho.typeIs F.slot_dict_iter.lookup ?_)
  refine wpAny_bind (wpAny_pure ?_)
  simp only [beq_self_eq_true, hoS, Bool.false_eq_true, if_false]
  refine wpAny_bind (wpAny_dictEntries hod hdd ?_)
  split
  · refine wpAny_bind (wpAny_dictEntries hoo hdo' ?_)
    refine wpAny_bind ?_
    rw [← Array.forIn_toList]
    refine wpAny_forIn_list _ (fun rest _ s' => s' = s ∧ ∀ e ∈ rest, e ∈ eso.toList) _ ?_ ?_ _ _ ⟨rfl, fun e h => h⟩
    · rintro e rest b s' ⟨rfl, hm⟩
      obtain ⟨k, hk, _⟩ := hko e (by have := hm e List.mem_cons_self; simpa using this)
      have hr : ∀ e' ∈ rest, e' ∈ eso.toList := fun e' h => hm e' (List.mem_cons_of_mem _ h)
      rcases keyIs_shape hk with ⟨i, t, _, e1⟩ | ⟨x, t, _, e1⟩
      · rw [e1]; exact wpAny_pure ⟨rfl, hr⟩
      · rw [e1]; exact wpAny_pure ⟨rfl, hr⟩
    · rintro b s' ⟨rfl, _⟩
      exact loop
  · exact loop
end
end Spr
end
section
namespace Spr
open PySem PySem.Spec PySem.Calls PyProof.Rows L2
section
variable {prog : Program} {w : World} {A : Around} {E : Value → Shared → Prop} {s : Shared} {env : Env}
theorem Dict_spread {a k v : Expr} {pos : Pos} {Q : Value → Shared → Prop}
    (h : wpAny (model prog w) A (eval a env) (fun m s1 => ∃ o kvs, m = .ref o ∧ s.heap.objs.size ≠ o ∧ (o == sysModules) = false ∧ s1.heap.DictOf (mixKind prog w) s.heap.objs.size [] ∧ s1.heap.DictOf (mixKind prog w) o kvs ∧ kvs.length + 16 ≤ sizeLine ∧
      ∀ h', h'.DictOf (mixKind prog w) s.heap.objs.size kvs → Heap.SameBut s.heap.objs.size s1.heap h' →
        wpAny (model prog w) A (evalPairs (pairTrees [some k] [v] env pos)) (fun vs s3 => ∃ ks, Carries (mixKind prog w) vs ks ∧ ks.length ≤ 15 ∧ s3.heap.DictOf (mixKind prog w) h'.objs.size [] ∧ s.heap.objs.size ≠ h'.objs.size ∧ (h'.objs.size == sysModules) = false ∧ (∃ k3, s3.heap.DictOf (mixKind prog w) s.heap.objs.size k3 ∧ k3.length + 16 ≤ sizeLine ∧
          ∀ h4 h5, h4.DictOf (mixKind prog w) h'.objs.size (merged [] ks) → Heap.SameBut h'.objs.size s3.heap h4 → h5.DictOf (mixKind prog w) s.heap.objs.size (merged k3 (merged [] ks)) → Heap.SameBut s.heap.objs.size h4 h5 →
            Q (.ref s.heap.objs.size) { s3 with heap := h5, toks := s3.toks + vs.length })) E { s1 with heap := h'.push { cls := .type "dict", data := .dict #[] } }) E
      { s with heap := s.heap.push { cls := .type "dict", data := .dict #[] } }) :
    wpAny (model prog w) A (eval (.Dict [none, some k] [a, v] pos) env) Q E s := by
  rw [arm_eval_Dict]
  refine wpAny_bind (wpAny_standAt ?_)
  have e : (evalEachOpt [none, some k] env).zip ((evalEach [a, v] env).map fun v => do let x ← v; standAt pos; pure x) = [(none, do let x ← eval a env; standAt pos; pure x), (some (eval k env), do let x ← eval v env; standAt pos; pure x)] := by rfl
  rw [e]
  unfold dictDisplay
  simp only [List.forIn_cons, List.forIn_nil]
  simp only [List.isEmpty_nil, if_true, pure_bind, bind_assoc, List.nil_append, List.length_cons, List.length_nil, List.isEmpty_cons, Bool.false_eq_true, if_false, Nat.reduceAdd, Nat.reduceBEq]
  refine wpAny_bind (wpAny_alloc (wpAny_bind (wpAny_holding (wpAny_bind (thn h fun m s1 h1 => wpAny_bind (wpAny_standAt (wpAny_pure ?_)))))))
  obtain ⟨o, kvs, rfl, ne, hs, hd, ho, hz, h2⟩ := h1
  have hnd : (kvs.map (·.1)).Nodup := by obtain ⟨_, _, _, _, _, _, _, _, n⟩ := id ho; exact n
  refine wpAny_bind (wpAny_onRaise (wpAny_tryCatch (wpAny_onRaise (wpAny_holding (mergeMapping_dict ne hs hd ho (fun h' hd' ho' sb => ?_) (by rw [List.length_nil]; omega))))))
  rw [merged_nil_of_nodup kvs hnd] at hd'
  refine wpAny_bind (wpAny_holding (wpAny_subDict (knd := mixKind prog w) (Nat.le_trans (Nat.le_refl 1) (by decide)) (thn (h2 h' hd' sb) fun vs s3 h3 => ?_)))
  obtain ⟨ks, hc, hk15, hq, neq, hqs, k3, hd3, hz3, h4⟩ := h3
  refine ⟨ks, hc, hq, fun h4' hq' sb4 => ?_⟩
  have hm := merged_length_le ([] : List (Key × Value)) ks
  rw [List.length_nil] at hm
  refine wpAny_bind (wpAny_onRaise (wpAny_holding (mergeMapping_dict neq hqs (hd3.sameBut sb4 neq) hq' (fun h5 hd5 _ sb5 => wpAny_pure (h4 h4' h5 hq' sb4 hd5 sb5)) (by omega))))
end
end Spr
namespace L2
open PySem PySem.Spec PySem.Calls PyProof.Rows
/-- {**d, k: v}: a new dict -/
def tSpread (ta tk tv : TE) : TE := fun σ H Q => ∀ p, H p = none → ta σ (upd H p (.dK [])) fun x H1 => ∃ o kvs, x = .ref o ∧ o ≠ p ∧ Rd H1 o (.dK kvs) ∧ H1 p = some (.dK []) ∧ kvs.length ≤ 1000 ∧
  ∀ q, upd H1 p (.dK kvs) q = none → tk σ (upd (upd H1 p (.dK kvs)) q (.dK [])) fun y H2 => tv σ H2 fun z H3 => ∃ key : Key, y = kV key ∧ H3 q = some (.dK []) ∧ H3 p = some (.dK kvs) ∧ p ≠ q ∧ Q (.ref p) (upd (upd H3 q (.dK [(key, z)])) p (.dK (putK kvs key z)))
theorem pe_spread {X : Cx} {a k v : Expr} {pos : Pos} {ta tk tv : TE} (ha : PE X a ta) (hk : PE X k tk) (hv : PE X v tv) : PE X (.Dict [none, some k] [a, v] pos) (tSpread ta tk tv) := by
  refine ⟨fun pins s σ H Q I q => ?_⟩
  have hn := I.hok.fresh (Nat.le_refl s.heap.objs.size)
  have I1 := I.laid (a := s.heap.objs.size) (o := .dK []) (h' := s.heap.push { cls := .type "dict", data := .dict #[] }) (t' := s.toks) (fun _ _ q => Heap.get?_push_of_some _ q) (Nat.le_refl _) (dk_empty s.heap I.big)
  refine Spr.Dict_spread (thn (ha.run pins _ σ _ _ I1 (q _ hn)) fun m s1 ⟨x, H1, I2, rx, o, kvs, ex, no, rd, e1, hz, q2⟩ => ?_)
  subst ex
  obtain rfl : m = Value.ref o := rx
  obtain ⟨z1, hs1, vs1, rel1, dd1⟩ := dk_rd I2.hok rd
  obtain ⟨z0, hs0, vs0, r0, dd0⟩ := dk_of I2.hok e1
  cases r0
  have hl1 := rel1.length
  refine ⟨o, vs1, rfl, Ne.symm no, hs1, dd0, dd1, by rw [sizeLine_eq]; omega, fun h' hd' sb => ?_⟩
  have he : ∃ q, h'.get? s.heap.objs.size = some q := let ⟨q, _, _, hq, _⟩ := hd'; ⟨q, hq⟩
  have I3 : Inv X pins σ (upd H1 s.heap.objs.size (.dK kvs)) { s1 with heap := h' } := d_write (t' := s1.toks) I2 (by rw [e1]; exact True.intro) sb he (dk_new z1 hs0 rel1 hd')
  have hn3 := I3.hok.fresh (Nat.le_refl h'.objs.size)
  have I4 := I3.laid (a := h'.objs.size) (o := .dK []) (h' := h'.push { cls := .type "dict", data := .dict #[] }) (t' := s1.toks) (fun _ _ q => Heap.get?_push_of_some _ q) (Nat.le_refl _) (dk_empty h' I3.big)
  have pp : PPs X pos [some k] [v] [(tk, tv)] := pps_cons hk hv pps_nil
  refine thn (pp.run pins _ σ _ (fun ps H3 => match ps with
    | [(y, z)] => ∃ key : Key, y = kV key ∧ H3 h'.objs.size = some (.dK []) ∧ H3 s.heap.objs.size = some (.dK kvs) ∧ s.heap.objs.size ≠ h'.objs.size ∧ Q (.ref s.heap.objs.size) (upd (upd H3 h'.objs.size (.dK [(key, z)])) s.heap.objs.size (.dK (putK kvs key z)))
    | _ => False) I4 (q2 _ hn3)) fun ws s3 ⟨ps, H3, I5, rel, q5⟩ => ?_
  match ps, q5 with
  | [(y, z)], ⟨key, ey, e3, e4, npq, q6⟩ =>
    subst ey
    cases rel with
    | @cons _ b _ bs hr ht =>
      cases ht
      obtain ⟨hr1, hr2⟩ := hr
      obtain ⟨zq, hsq, vq, rq, ddq⟩ := dk_of I5.hok e3
      cases rq
      obtain ⟨zp, hsp, vp, rp, ddp⟩ := dk_of I5.hok e4
      have hlp := rp.length
      refine ⟨[(key, b.2)], ⟨kV_is hr1, rfl, True.intro⟩, by simp, ddq, npq, hsq, vp, ddp, by rw [sizeLine_eq]; omega, fun h4 h5 hq4 sb4 hd5 sb5 => ?_⟩
      · have hone : merged ([] : List (Key × Value)) [(key, b.2)] = [(key, b.2)] := merged_nil_of_nodup _ (by simp)
        rw [hone] at hq4 hd5
        have kv1 : KV [(key, z)] [(key, b.2)] := .cons ⟨rfl, hr2⟩ .nil
        have he4 : ∃ q, h4.get? h'.objs.size = some q := let ⟨q, _, _, hq, _⟩ := hq4; ⟨q, hq⟩
        have I6 : Inv X pins σ (upd H3 h'.objs.size (.dK [(key, z)])) { s3 with heap := h4 } := d_write (t' := s3.toks) I5 (by rw [e3]; exact True.intro) sb4 he4 (dk_new (by simp; exact Nat.le_trans (show 1 ≤ 1000 by decide) (by decide)) hsq kv1 hq4)
        have e4' : upd H3 h'.objs.size (.dK [(key, z)]) s.heap.objs.size = some (.dK kvs) := by rw [upd_ne npq]; exact e4
        have he5 : ∃ q, h5.get? s.heap.objs.size = some q := let ⟨q, _, _, hq, _⟩ := hd5; ⟨q, hq⟩
        have km : KV (putK kvs key z) (merged vp [(key, b.2)]) := rp.put key hr2
        have lz := length_putK kvs key z
        have I7 := d_write (s := { s3 with heap := h4 }) (t' := s3.toks + 1) I6 (by rw [e4']; exact True.intro) sb5 he5 (dk_new (by rw [sizeLine_eq]; omega) hsp km hd5)
        exact ⟨.ref s.heap.objs.size, _, I7, rfl, q6⟩
end L2
end
section
/-! {**d, k: v}; the values and the pairs of a dict; a dict of one's own read by a call -/
namespace Dx
open PySem L2 RT Sx
def dSpread (a k v : DE) : DD := fun X ρ P => a X ρ fun x => ∃ ps, x = .dK ps ∧ ps.length ≤ 900 ∧ k X ρ fun y => v X ρ fun z => ∃ key, y = keyD key ∧ P (.dK (pK ps key z))
section
variable {K : PySem.W.Frag} {W W' : Wd} {H H' : Hp} {p : Addr} {o : HO}
theorem Frm.updN (f : Frm W H W' H') (n : H p = none) : Frm W H W' (upd H' p o) :=
  ⟨f.le, fun q u hq nd => by rw [upd_ne (ne_new n hq)]; exact f.sH q u hq nd, f.nF, f.dn, fun q hq => by
    by_cases e : q = p
    · rw [e]; exact n
    · rw [upd_ne e] at hq; exact f.kp q hq⟩
end
section
variable {K : PySem.W.Frag} {C : Ec} {E : XK} {σ : L2.St} {H : Hp} {Q : VK} {D : Ends} {W : Wd} {X : Cx}
theorem le_spread {a k v : DE} (q : liftD K C E (dSpread a k v) σ H Q) : tSpread (liftE K C E a) (liftE K C E k) (liftE K C E v) σ H Q := by
  obtain ⟨c, P, at_, h, kk⟩ := q
  intro p n
  have f0 : Frm c.W H c.W (upd H p (.dK [])) := Frm.laid n
  have o0 : Ok K c.W (upd H p (.dK [])) := at_.lk.ok.laid n
  have nd0 : ¬ c.W.dl p := at_.lk.ok.dice_ne n
  refine ⟨c, _, at_.frm f0 o0, h, fun W1 H1 v1 x1 f1 o1 r1 ⟨ps, e, hz, q1⟩ => ?_⟩
  subst e
  obtain ⟨o, od, ks, rfl, hf, rk⟩ := rp_dK r1
  have hp1 : H1 p = some (.dK []) := f1.sH p _ upd_same nd0
  have ho1 := o1.sF _ _ hf
  have nF1 : W1.F p = none := f1.nF p _ upd_same nd0 trivial (at_.lk.ok.fr n)
  have nd1 : ¬ W1.dl p := f1.ndl upd_same nd0
  refine ⟨o, ks, rfl, (fun z => by rw [z, hp1] at ho1; cases ho1), .inr ⟨od, ho1⟩, hp1, by rw [rk.length]; omega, fun q nq => ?_⟩
  have npq : p ≠ q := fun z => by rw [← z, upd_same] at nq; cases nq
  have nq1 : H1 q = none := by rw [upd_ne (Ne.symm npq)] at nq; exact nq
  have nq0 : H q = none := f0.kp q (f1.kp q nq1)
  have o2 : Ok K W1 (upd H1 p (.dK ks)) := o1.change nF1 nd1 hp1 trivial
  have F2 : Frm c.W H W1 (upd (upd H1 p (.dK ks)) q (.dK [])) := ((f0.trans f1).updN n).updN nq0
  have O2 : Ok K W1 (upd (upd H1 p (.dK ks)) q (.dK [])) := o2.laid nq
  have hp2 : upd (upd H1 p (.dK ks)) q (.dK []) p = some (.dK ks) := by rw [upd_ne npq]; exact upd_same
  have nF2 : W1.F q = none := o2.fr nq
  have nd2 : ¬ W1.dl q := o2.dice_ne nq
  refine ⟨_, _, at_.frm F2 O2, q1, fun W2 H2 v2 y2 f2 o3 r2 q2 => ?_⟩
  refine ⟨_, _, at_.frm (F2.trans f2) o3, q2, fun W3 H3 v3 z3 f3 o4 r3 ⟨key, ey, q3⟩ => ?_⟩
  subst ey
  have f23 := f2.trans f3
  have hp3 := f23.sH p _ hp2 nd1
  have hq3 := f23.sH q _ upd_same nd2
  have nF3 := f23.nF p _ hp2 nd1 trivial nF1
  have nd3 := f23.ndl hp2 nd1
  have nFq := f23.nF q _ upd_same nd2 trivial nF2
  have ndq := f23.ndl upd_same nd2
  refine ⟨key, rp_key (r2.le f3.le), hq3, hp3, npq, ?_⟩
  have O4 : Ok K W3 (upd H3 q (.dK [(key, v3)])) := o4.change nFq ndq hq3 trivial
  have hp4 : upd H3 q (.dK [(key, v3)]) p = some (.dK ks) := by rw [upd_ne npq]; exact hp3
  exact kk W3 _ p _ _ ((((F2.trans f23).updN nq0)).updN n) (O4.change nF3 nd3 hp4 trivial) n nF3 nd3 upd_same (.inl ⟨_, _, rfl, rfl, (rk.le f23.le).put r3⟩) q3
/-! views -/
def dVals (a : DE) : DA := fun X ρ P => a X ρ fun x => ∃ ps, x = .dK ps ∧ P (ps.map (·.2))
def dItems (a : DE) : DA := fun X ρ P => a X ρ fun x => ∃ ps, x = .dK ps ∧ P (ps.map fun p => .tup [keyD p.1, p.2])
theorem RpK.getV : ∀ {ks : List (Key × V)} {ps : List (Key × Dt)} {i : Nat} {k : Key} {v : V}, RpK K W ks ps → ks[i]? = some (k, v) → ∃ x, ps[i]? = some (k, x) ∧ Rp K W v x
  | _, _, _, _, _, .nil, h => by cases h
  | _, _, 0, _, _, .cons r _, h => by
    obtain ⟨rfl, rfl⟩ := Prod.mk.inj (Option.some.inj h)
    exact ⟨_, rfl, r⟩
  | _, _, i + 1, k, v, .cons _ rr, h => by obtain ⟨x, h1, h2⟩ := RpK.getV (i := i) (k := k) (v := v) rr h; exact ⟨x, h1, h2⟩
theorem rp_keyV {k : Key} : Rp K W (kV k) (keyD k) := by cases k with | inl i => exact .int i | inr s => exact .str s
theorem dwalk_vals {a : Addr} {o : Obj} {ks : List (Key × V)} {ps : List (Key × Dt)} (h : W.F a = some (.frz o (.dK ks))) (r : RpK K W ks ps) : DWalk K W (Itd a o ks) (ps.map (·.2)) := by
  unfold DWalk
  rw [List.length_map, ← r.length]
  refine ⟨fun i H hi s => ⟨s _ _ h, hi⟩, fun H s => ⟨s _ _ h, Nat.le_refl _⟩, fun i H x H' hi s ⟨e1, k, e2⟩ => .inl ⟨e1, ?_⟩⟩
  obtain ⟨y, hy, ry⟩ := r.getV e2
  exact ⟨y, by rw [List.getElem?_map, hy]; rfl, ry⟩
theorem dwalk_items {a : Addr} {o : Obj} {ks : List (Key × V)} {ps : List (Key × Dt)} (h : W.F a = some (.frz o (.dK ks))) (r : RpK K W ks ps) : DWalk K W (Iti a o ks) (ps.map fun p => .tup [keyD p.1, p.2]) := by
  unfold DWalk
  rw [List.length_map, ← r.length]
  refine ⟨fun i H hi s => ⟨s _ _ h, hi⟩, fun H s => ⟨s _ _ h, Nat.le_refl _⟩, fun i H x H' hi s ⟨T, k, v, e2, ex, n, e3⟩ => .inr (.inl ?_)⟩
  obtain ⟨y, hy, ry⟩ := r.getV e2
  exact ⟨T, keyD k, y, kV k, v, ex, n, e3, by rw [List.getElem?_map, hy]; rfl, rp_keyV, ry⟩
theorem li_vals {R : It → Hp → Prop} {a : DE} (q : liftI K C E (dVals a) σ H R) : iVals (liftE K C E a) σ H R := by
  obtain ⟨c, P, at_, h, k⟩ := q
  refine ⟨c, _, at_, h, fun W1 H1 v1 x1 f1 o1 r1 ⟨ps, e, q1⟩ => ?_⟩
  subst e
  obtain ⟨d, od, ks, rfl, hf, rk⟩ := rp_dK r1
  exact ⟨d, od, ks, rfl, o1.sF _ _ hf, k _ _ _ _ f1 o1 (dwalk_vals hf rk) q1⟩
theorem li_items {R : It → Hp → Prop} {a : DE} (q : liftI K C E (dItems a) σ H R) : iItems (liftE K C E a) σ H R := by
  obtain ⟨c, P, at_, h, k⟩ := q
  refine ⟨c, _, at_, h, fun W1 H1 v1 x1 f1 o1 r1 ⟨ps, e, q1⟩ => ?_⟩
  subst e
  obtain ⟨d, od, ks, rfl, hf, rk⟩ := rp_dK r1
  exact ⟨d, od, ks, rfl, o1.sF _ _ hf, k _ _ _ _ f1 o1 (dwalk_items hf rk) q1⟩
/-! one's own dict, read while a call runs -/
def dLockE (i : Nat) (e : DE) : DE := fun X ρ P => ∃ x, ρ[i]? = some (.od x) ∧ e X (ρ.set i (.v x)) fun y => (∃ v, scalD y = some v) ∧ P y
theorem rp_sc : ∀ {x : Dt} {v a : V}, scalD x = some a → Rp K W v x → ∀ W', Rp K W' v x
  | .non, _, _, _, .non, _ => .non
  | .bl _, _, _, _, .bl _, _ => .bl _
  | .int _, _, _, _, .int _, _ => .int _
  | .str _, _, _, _, .str _, _ => .str _
theorem le_lockE {i : Nat} {e : DE} (q : liftE K C E (dLockE i e) σ H Q) : tLockE (liftE K C E e) σ H Q := by
  obtain ⟨c, P, at_, ⟨x, ex, h⟩, k⟩ := q
  obtain ⟨p, ho, h1, m, hp, r⟩ := at_.od ex
  refine ⟨p, ho, hp, dictR_mut r, fun od => ?_⟩
  have hset : ∀ (j : Nat) (s : Sl), j ≠ i → c.ρ[j]? = some s → own s = true → σ[j]? ≠ some (some (.ref p)) := fun j s ne ej ow ej2 => at_.lk.sep j i s (.od x) p ne ej ex ow rfl ej2 h1
  obtain ⟨f2, o2⟩ := frz_frm (u := ho) (o := .frz od ho) at_.fr at_.lk.ok m.i m.f m.d (dictR_nc hp r)
  have le := Wd.le_keep (o := .frz od ho) m.f
  refine ⟨{ c with W := c.W.keep p (.frz od ho), ρ := c.ρ.set i (.v x) }, _, ⟨⟨o2, by rw [List.length_set]; exact at_.lk.len, fun j u z => ?_, fun a b s1 t1 q ne e1 e2 o1 o2 g1 g2 => ?_⟩, f2, at_.el, at_.lo.trans le⟩, h, fun W' H' v y f' o' ry ⟨⟨sv, sc⟩, py⟩ => ?_⟩
  · rcases set_get z with ⟨rfl, rfl⟩ | ⟨ne, zz⟩
    · exact ⟨_, h1, _, rfl, dictR_frz r le keep_at⟩
    · obtain ⟨w, h3, h4⟩ := at_.lk.sl j u zz
      refine ⟨w, h3, ?_⟩
      have oth : ∀ q, own u = true → w = some (.ref q) → q ≠ p := fun q ou ew z2 => by
        subst z2; subst ew
        exact hset j u (Ne.symm ne) zz ou h3
      have mine : ∀ q, q ≠ p → Mine c.Hin c.W q → Mine c.Hin (c.W.keep p (.frz od ho)) q := fun q nq mq => ⟨by
        show upd c.W.F p _ q = none
        rw [upd_ne nq]; exact mq.f, mq.i, mq.d⟩
      cases u with
      | un => trivial
      | v x => obtain ⟨v, e1, r⟩ := h4; exact ⟨v, e1, r.le le⟩
      | pk u => exact h4
      | ol xs => obtain ⟨q, vs, e1, mq, hq, r⟩ := h4; exact ⟨q, vs, e1, mine q (oth q rfl e1) mq, by rw [upd_ne (oth q rfl e1)]; exact hq, r.le le⟩
      | od ps => obtain ⟨q, h0, e1, mq, hq, r⟩ := h4; exact ⟨q, h0, e1, mine q (oth q rfl e1) mq, by rw [upd_ne (oth q rfl e1)]; exact hq, r.le le⟩
      | ob ps => obtain ⟨q, h0, ks, e1, mq, hq, b, r⟩ := h4; exact ⟨q, h0, ks, e1, mine q (oth q rfl e1) mq, by rw [upd_ne (oth q rfl e1)]; exact hq, b, r.le le⟩
  · rcases set_get e1 with ⟨rfl, rfl⟩ | ⟨_, f1⟩
    · cases o1
    rcases set_get e2 with ⟨rfl, rfl⟩ | ⟨_, f2⟩
    · cases o2
    exact at_.lk.sep a b s1 t1 q ne f1 f2 o1 o2 g1 g2
  · -- unlocked again
    have f3 : Frm (c.W.keep p (.frz od ho)) (upd H p (.frz od ho)) W' H' := f'
    have hp' : H' p = some (.frz od ho) := o'.sF _ _ (f3.le.sF _ _ keep_at)
    have nC : ∀ c, H' p ≠ some (LamX.CodeO c lamN) := fun c z => by rw [hp'] at z; cases z
    refine ⟨hp', ?_⟩
    have own_ : Ownish ho := r.ownish
    have hF : ∀ q, q ≠ p → ∀ u, W'.F q = some u → upd H' p ho q = some u := fun q nq u z => by rw [upd_ne nq]; exact o'.sF _ _ z
    have ndp : ¬ W'.dl p := fun z => by
      obtain ⟨f0, _⟩ := o'.dc p z
      rw [f3.le.sF _ _ keep_at] at f0; cases f0
    have o4 : Ok K ⟨fun q => if q = p then none else W'.F q, W'.dl, W'.tb⟩ (upd H' p ho) := by
      refine ⟨fun q u z => ?_, fun d z => ?_, o'.td, fun q ps z => ?_⟩
      · have z' : (if q = p then none else W'.F q) = some u := z
        split at z'
        · cases z'
        · exact hF q (by assumption) u z'
      · obtain ⟨f0, mu⟩ := o'.dc d z
        have dp : d ≠ p := fun e => ndp (e ▸ z)
        refine ⟨?_, ?_⟩
        · show (if d = p then none else W'.F d) = none
          rw [if_neg dp]; exact f0
        · rcases mu with ⟨nt, sc, ns, ⟨i0, m0, r0, e0, l0⟩, hl, hs⟩ | ⟨tt, ps, e0, t0, q0⟩
          · refine .inl ⟨nt, sc, ns, ⟨i0, m0, r0, by rw [upd_ne dp]; exact e0, l0⟩, hl, ?_⟩
            have fp := f3.le.sF _ _ keep_at
            rcases hs with (h5 | ⟨oo, h5⟩) | h5
            · refine .inl (.inl ?_)
              show (if sc = p then none else W'.F sc) = _
              rw [if_neg (fun e => by rw [e, fp] at h5; cases h5)]; exact h5
            · refine .inl (.inr ⟨oo, ?_⟩)
              show (if sc = p then none else W'.F sc) = _
              rw [if_neg (fun e => by
                rw [e, fp] at h5
                obtain ⟨_, h6⟩ := HO.frz.inj (Option.some.inj h5)
                rcases r with ⟨_, _, r1, _⟩ | ⟨_, _, r1, _⟩ <;> (rw [r1] at h6; cases h6))]; exact h5
            · exact .inr h5
          · exact .inr ⟨tt, ps, by rw [upd_ne dp]; exact e0, t0, fun pos cv h => by
              obtain ⟨c5, g5, g6⟩ := q0 pos cv h
              exact ⟨c5, g5, by rw [upd_ne (fun e => nC c5 (by rw [← e]; exact g6))]; exact g6⟩⟩
      · have z' : (if q = p then none else W'.F q) = some (.tbl ps) := z
        split at z'
        · cases z'
        · exact o'.nt q ps z'
    refine k ⟨fun q => if q = p then none else W'.F q, W'.dl, W'.tb⟩ (upd H' p ho) v y ⟨⟨fun q u z => ?_, fun d z => f3.le.dd d z, f3.le.tt⟩, fun q u hq nd => ?_, fun q u hq nd ow z => ?_, fun d z => ?_, fun q hq => ?_⟩ o4 (rp_sc sc ry _) py
    · show (if q = p then none else W'.F q) = some u
      rw [if_neg (fun e => by rw [e, m.f] at z; cases z)]
      exact f3.le.sF q u (le.sF q u z)
    · by_cases e : q = p
      · subst e; rw [hp] at hq; obtain rfl := Option.some.inj hq; exact upd_same
      · rw [upd_ne e]; exact f3.sH q u (by rw [upd_ne e]; exact hq) nd
    · show (if q = p then none else W'.F q) = none
      by_cases e : q = p
      · rw [if_pos e]
      · rw [if_neg e]
        exact f3.nF q u (by rw [upd_ne e]; exact hq) nd ow (by show upd c.W.F p _ q = none; rw [upd_ne e]; exact z)
    · rcases f3.dn d z with y1 | y1
      · exact .inl y1
      · by_cases e : d = p
        · exact absurd (e ▸ z) ndp
        · rw [upd_ne e] at y1; exact .inr y1
    · by_cases e : q = p
      · rw [e, upd_same] at hq; cases hq
      · rw [upd_ne e] at hq
        have := f3.kp q hq
        rw [upd_ne e] at this; exact this
end
end Dx
end
section
/-! a dict of the module, text by def: its keys walked, a def taken out, called -/
namespace L2
open PySem PySem.Spec PyProof.Rows
/-- a written dict: its texts in order, each with the def behind it -/
theorem fun_ne {K : PySem.W.Frag} {x y : Str} {s t : Stmt} {a b : Addr} {d e : FuncData} (F : Fun K x x s a d) (G : Fun K y y t b e) (h : x ≠ y) : a ≠ b := by
  rintro rfl
  obtain ⟨_, _, _, _, _, _, _, _, _, rfl, l1, _⟩ := F.ex
  obtain ⟨_, _, _, _, _, _, _, _, _, rfl, l2, _⟩ := G.ex
  rw [l1] at l2
  have e1 := congrArg Obj.data (Option.some.inj l2)
  injection e1 with e2
  exact h (congrArg FuncData.name e2)
structure KWr (K : PySem.W.Frag) (w : World) (d : Addr) (ks : List (Str × Addr)) : Prop where
  ex : ∃ (es : Array DictEntry) (n : Nat), K.lookup d = some ⟨.type "dict", none, .dict es n, #[]⟩ ∧ (d == sysModules) = false ∧ PySem.W.KeysLit w.params es.toList ∧ es.size = ks.length ∧
    (∀ (i : Nat) (z : Str) (a : Addr), ks[i]? = some (z, a) → ∃ (en : DictEntry) (t : Tok), es[i]? = some en ∧ en.key = .str z t) ∧ ∀ z a, (z, a) ∈ ks → PySem.W.nsIn K d z = some (some (.ref a))
def Itkw (ks : List (Str × Addr)) : It := ⟨fun i _ => i < ks.length, fun i H x H' => H' = H ∧ ∃ z a, ks[i]? = some (z, a) ∧ x = .str z, fun i _ => ks.length ≤ i⟩
section
variable {P : Program} {w : World} {K : PySem.W.Frag} {tg : Expr} {d : Addr}
theorem turn_kw {ks : List (Str × Addr)} {es : Array DictEntry} {n : Nat} (it : Addr) (hl : K.lookup d = some ⟨.type "dict", none, .dict es n, #[]⟩) (hz : es.size = ks.length) (hk : ∀ (i : Nat) (z : Str) (a : Addr), ks[i]? = some (z, a) → ∃ (en : DictEntry) (t : Tok), es[i]? = some en ∧ en.key = .str z t) :
    Turn P w K tg (Itkw ks) [it] it (fun i h => h.IsKeyIter it d i ks.length n) where
  mem := by simp
  obj := fun i h st b hb => by
    have e : b = it := by simpa using hb
    subst e
    obtain ⟨oi, e, c, dd⟩ := st
    exact ⟨oi, e, fun v z => by rw [dd] at z; cases z⟩
  keep := fun i h h' st k => st.at fun oi e => k it (by simp) oi e
  item := by
    intro X hP hw hK hc i pins s σ H E I hf st hg
    subst hP hw hK
    obtain ⟨f0, f1, f2, f3, f4, f5⟩ := hf it (by simp)
    have hgd := I.kIn _ _ hl
    obtain ⟨⟨z, a⟩, hza⟩ : ∃ p, ks[i]? = some p := ⟨ks[i], List.getElem?_eq_getElem hg⟩
    obtain ⟨en, t, hen, hkey⟩ := hk i z a hza
    refine next_key_item st hgd rfl hz hen fun h' st' sb => ?_
    have I1 : Inv X pins σ H { s with heap := h' } := I.turned (t' := s.toks) (fun b ob hb e => (sb.2 b hb).trans e) f0 f1 f3 f4 f5
    obtain ⟨oi, e, c, dd⟩ := id st'
    exact ⟨en.key, rfl, go_of (s := { s with heap := h' }) e c dd (by decide) ⟨.str z, H, I1, ⟨t, hkey⟩, ⟨rfl, z, a, hza, rfl⟩, st', fun b hb => (hf b hb).1⟩⟩
  done := by
    intro X hP hw hK hc i pins s σ H E I hf st hg
    subst hP hw hK
    obtain ⟨f0, f1, f2, f3, f4, f5⟩ := hf it (by simp)
    have hgd := I.kIn _ _ hl
    exact next_key_end (I.ok.hd hc) st hgd rfl hz hg fun h' eb => ⟨rfl, I.turned (t' := s.toks) (fun b ob hb e => eb b ob hb e) f0 f1 f3 f4 f5⟩
  self := fun A i s Q E st h => wpAny_pyIter_keyiter st h
end
section
variable {X : Cx} {tg e : Expr} {d : Addr} {ks : List (Str × Addr)}
theorem pi_kw (he : PE X e (tC (.ref d))) (D : KWr X.K X.w d ks) : PI X tg e (fun σ H R => R (Itkw ks) H) := by
  refine ⟨fun pins s σ H R I h => ?_⟩
  refine thn (he.run pins s σ H (fun v H1 => v = .ref d ∧ H1 = H) I ⟨rfl, rfl⟩) fun u s1 ⟨x, H1, I1, rx, ex, eh⟩ => ?_
  subst ex; subst eh
  obtain rfl : u = Value.ref d := rx
  obtain ⟨es, n, hl, hs, hk, hz, hkk, hn⟩ := D.ex
  have hgd := I1.kIn _ _ hl
  refine iter_keys hs hgd ⟨rfl, rfl, rfl⟩ rfl (pi_one (tk := s1.toks) I1 _ (turn_kw _ hl hz hkk) ⟨_, Heap.get?_push_size _ rfl, rfl, ?_⟩ h)
  rw [hz] <;> rfl
theorem KWr.get {z : Str} {a : Addr} {K : PySem.W.Frag} {w : World} (D : KWr K w d ks) (h : (z, a) ∈ ks) : KDct K w d z (.ref a) := by
  obtain ⟨es, n, hl, hs, hk, hz, hkk, hn⟩ := D.ex
  exact ⟨es, n, .ref a, hl, hk, hn z a h, rfl⟩
end
theorem kwr_lit {P : Params} : ∀ l : List (Str × Addr × Tok), PySem.W.KeysLit P (l.map fun p => (⟨PyData.keyHash P p.1, .str p.1 p.2.2, .ref p.2.1⟩ : DictEntry))
  | [] => trivial
  | p :: l => ⟨⟨p.1, p.2.2, rfl, rfl⟩, kwr_lit l⟩
theorem kwr_mk {K : PySem.W.Frag} {w : World} {d : Addr} {n : Nat} (l : List (Str × Addr × Tok)) (hl : K.lookup d = some ⟨.type "dict", none, .dict (l.map fun p => (⟨PyData.keyHash w.params p.1, .str p.1 p.2.2, .ref p.2.1⟩ : DictEntry)).toArray n, #[]⟩)
    (hs : (d == sysModules) = false) (hn : ∀ p ∈ l, PySem.W.nsIn K d p.1 = some (some (.ref p.2.1))) : KWr K w d (l.map fun p => (p.1, p.2.1)) := by
  refine ⟨_, n, hl, hs, by rw [List.toList_toArray]; exact kwr_lit l, by simp, fun i z a h => ?_, fun z a h => ?_⟩
  · rw [List.getElem?_map] at h
    cases e : l[i]? with
    | none => rw [e] at h; cases h
    | some p =>
      rw [e] at h
      cases h
      exact ⟨_, p.2.2, by rw [List.getElem?_toArray, List.getElem?_map, e]; rfl, rfl⟩
  · obtain ⟨p, hp, e⟩ := List.mem_map.mp h
    cases e
    exact hn p hp
end L2
namespace Dx
open PySem L2 RT Sx
/-- for x in a dict of the module -/
def dKeysW (ks : List (Str × Addr)) : DA := fun _ _ P => P (ks.map fun p => .str p.1)
/-- a dict of the module at a text -/
def dIxW (d : Addr) (ks : List (Str × Addr)) : D2 := fun x y P => x = .fn d ∧ ∃ z a, y = .str z ∧ (z, a) ∈ ks ∧ P (.fn a)
/-- the promise that goes with a def -/
def spAt (tab : List (Addr × DSp)) (a : Addr) : Option DSp := (tab.find? fun p => decide (p.1 = a)).map (·.2)
def dCallF (i : Nat) (tab : List (Addr × DSp)) (args : DA) : DE := fun X ρ P => ∃ a sp, ρ[i]? = some (.v (.fn a)) ∧ spAt tab a = some sp ∧ args X ρ fun xs => sp xs P none_
section
variable {K : PySem.W.Frag} {C : Ec} {E : XK} {σ : L2.St} {H : Hp} {W : Wd} {w : World}
theorem walk_kw {ks : List (Str × Addr)} : Walk (Itkw ks) ks.length (fun _ => True) (fun i H x H' => H' = H ∧ ∃ z a, ks[i]? = some (z, a) ∧ x = .str z) := ⟨fun i H h _ => h, fun H _ => Nat.le_refl _, fun i H x H' _ _ h => h⟩
theorem dwalk_kw {ks : List (Str × Addr)} : DWalk K W (Itkw ks) (ks.map fun p => .str p.1) := by
  unfold DWalk
  rw [List.length_map]
  exact walk_kw.mono (fun _ _ => trivial) fun i H x H' hi g ⟨e1, z, a, e2, e3⟩ => .inl ⟨e1, .str z, by rw [List.getElem?_map, e2]; rfl, by rw [e3]; exact .str z⟩
theorem li_kw {ks : List (Str × Addr)} {R : It → Hp → Prop} (q : liftI K C E (dKeysW ks) σ H R) : R (Itkw ks) H := by
  obtain ⟨c, P, at_, h, k⟩ := q
  exact k _ _ _ _ (Frm.refl _ _) at_.lk.ok dwalk_kw h
theorem rp_fn {v : V} {a : Addr} (r : Rp K W v (.fn a)) : v = .ref a := by cases r; rfl
theorem o_ixW {d : Addr} {ks : List (Str × Addr)} (D : KWr K w d ks) : Op2 K (rIxD K w) (dIxW d ks) := fun W H v1 x1 v2 x2 P Q o r1 r2 ⟨e1, z, a, e2, hm, q⟩ k => by
  subst e1; subst e2
  exact ⟨d, z, .ref a, rp_fn r1, rp_str r2, D.get hm, k W H _ _ (Frm.refl _ _) o (.fn a) q⟩
def spTab (K : PySem.W.Frag) (C : Ec) (tab : List (Addr × DSp)) (a : Addr) : Option Sp := (spAt tab a).map (liftSp K C)
def HeldT (P : Program) (w : World) (K : PySem.W.Frag) (mg : Str → Option Value) (base : Heap) (C : Ec) (k : Nat) (tab : List (Addr × DSp)) : Prop := ∀ f sp, spTab K C tab f = some sp → Held P w K mg base k f sp
theorem held_nil {P : Program} {mg : Str → Option Value} {base : Heap} {k : Nat} : HeldT P w K mg base C k [] := fun f sp h => by cases h
theorem held_cons {P : Program} {mg : Str → Option Value} {base : Heap} {k j : Nat} {a : Addr} {s : DSp} {tab : List (Addr × DSp)} {fd : FuncData} {ps : List Str} (F : FnOk P w K mg base (fun _ _ _ _ _ _ => False) j a fd ps (liftSp K C s)) (hj : j ≤ k) (hk : PySem.W.keepIn K (.ref a) = true) (hb : L2.Binds K fd ps [])
    (r : HeldT P w K mg base C k tab) : HeldT P w K mg base C k ((a, s) :: tab) := fun f sp h => by
  unfold spTab spAt at h
  by_cases e : a = f
  · subst e
    rw [List.find?_cons_of_pos (by simp)] at h
    obtain rfl : liftSp K C s = sp := Option.some.inj h
    exact ⟨fd, ps, F.mono hj, hk, hb⟩
  · rw [List.find?_cons_of_neg (by simpa using e)] at h
    exact r f sp h
theorem le_callF {i : Nat} {tab : List (Addr × DSp)} {args : DA} {Q : VK} (q : liftE K C E (dCallF i tab args) σ H Q) : tCallA i (spTab K C tab) (liftA K C E args) σ H Q := by
  obtain ⟨c, P, at_, ⟨a, sp, e, es, h⟩, k⟩ := q
  obtain ⟨v, h1, r⟩ := at_.lk.sl i _ e
  obtain ⟨u, rfl, ru⟩ := r
  obtain rfl := rp_fn ru
  refine ⟨a, liftSp K C sp, h1, by unfold spTab; rw [es]; rfl, ⟨c, _, at_, h, fun W1 H1 vs xs f1 o1 r1 q1 => ?_⟩⟩
  exact ⟨W1, xs, P, none_, o1, r1, q1, fun W' H' v x f => k W' H' v x (f1.trans f), fun W' H' kk fs cls dd f o er px => px⟩
end
end Dx
end
section
/-! <= of alike data, texts letter by letter, all(..) -/
namespace L2
open PySem PySem.Spec PyProof.Rows
open PySem.W (alike dataLt)
def rLeD (K : PySem.W.Frag) : R2 := fun x y H Q => ∃ d e, Dp K H x d ∧ Dp K H y e ∧ alike d e = true ∧ d ≠ .none ∧ d.depth ≤ 60 ∧ Q (.bl (!dataLt e d)) H
theorem op_leD {X : Cx} (hu : X.A.units + 64 < cLine) : OpR X (compareOp .LtE) (rLeD X.K) := by
  intro pins s σ H x y v u Q I rx ry h
  obtain ⟨d, e, hd, he, ha, hn, hz, q⟩ := h
  obtain ⟨as, r1⟩ := Dp.reads I d x v hd rx
  obtain ⟨bs, r2⟩ := Dp.reads I e y u he ry
  have R := PySem.W.rcLe_alike d e X.A s v u as bs r1 r2 ha hn (by have := Nat.min_le_left d.depth e.depth; omega)
  exact R X.prog X.w _ _ ⟨.bl _, H, I, rfl, q⟩
end L2
namespace Dx
open PySem L2 RT Sx
open PySem.W (alike dataLt)
def dLeD : D2 := fun x y P => alike (toP x) (toP y) = true ∧ (toP x).canLay0 = true ∧ (toP y).canLay0 = true ∧ toP x ≠ .none ∧ (toP x).depth ≤ 60 ∧ P (.bl (!dataLt (toP y) (toP x)))
theorem o_leD {K : PySem.W.Frag} : Op2 K (rLeD K) dLeD := fun W H v1 x1 v2 x2 P Q o r1 r2 ⟨ha, l1, l2, hn, hz, q⟩ k =>
  ⟨_, _, dp_of o.sF r1 (.inr l1), dp_of o.sF r2 (.inr l2), ha, hn, hz, k W H _ _ (Frm.refl _ _) o (.bl _) q⟩
/-! a text's letters -/
def dItS (a : DE) : DA := fun X ρ P => a X ρ fun x => ∃ s : Str, x = .str s ∧ P (s.cps.toList.map fun c => .str ⟨#[c]⟩)
section
variable {K : PySem.W.Frag} {C : Ec} {E : XK} {σ : L2.St} {H : Hp} {Q : VK} {W : Wd} {R : It → Hp → Prop}
theorem dwalk_str {s : Str} : DWalk K W (Its s) (s.cps.toList.map fun c => .str ⟨#[c]⟩) := by
  unfold DWalk
  rw [List.length_map, Array.length_toList]
  refine ⟨fun i H hi _ => hi, fun H _ => Nat.le_refl _, fun i H x H' hi _ ⟨e1, c, e2, e3⟩ => .inl ⟨e1, _, by rw [List.getElem?_map, Array.getElem?_toList, e2]; rfl, by rw [e3]; exact .str _⟩⟩
theorem li_str {a : DE} (q : liftI K C E (dItS a) σ H R) : iStr (liftE K C E a) σ H R := by
  obtain ⟨c, P, at_, h, k⟩ := q
  refine ⟨c, _, at_, h, fun W1 H1 v1 x1 f1 o1 r1 ⟨s, e, q1⟩ => ?_⟩
  subst e
  exact ⟨s, rp_str r1, k _ _ _ _ f1 o1 dwalk_str q1⟩
end
/-! all(..) of a list of truth values -/
def dAll : DL := fun xs P => ∃ bs : List Bool, xs = [.lst (bs.map Dt.bl)] ∧ P (.bl (bs.all id))
theorem rpl_bls {K : PySem.W.Frag} {W : Wd} : ∀ {bs : List Bool} {vs : List V}, RpL K W vs (bs.map Dt.bl) → vs = bs.map V.bl
  | [], _, .nil => rfl
  | b :: r, _, .cons h t => by rw [List.map_cons, rp_bl h, rpl_bls t]
theorem o_all {K : PySem.W.Frag} : OpL K (rAll K) dAll := fun W H vs xs P Q o r ⟨bs, e, q⟩ k => by
  subst e
  obtain ⟨v, rfl, r1⟩ := rpl1 r
  obtain ⟨a, us, rfl, hs, rs⟩ := rp_lst r1
  obtain rfl := rpl_bls rs
  exact ⟨a, bs, rfl, sql (o.sF _ _ hs), k W H _ _ (Frm.refl _ _) o (.bl _) q⟩
end Dx
namespace Dx
open PySem L2 RT Sx
/-! one text or another; a name asked of a dict, as a value; one's own list asked whether it is empty -/
def dOrS (a b : DE) : DE := fun X ρ P => a X ρ fun x => ∃ s : Str, x = .str s ∧ s.length ≤ 100000 ∧ (if ((s.length : Int) != 0) = true then P (.str s) else b X ρ P)
def dNilO (i : Nat) : DE := fun _ ρ P => ∃ xs, ρ[i]? = some (.ol xs) ∧ shD (.lst xs) = true ∧ P (.bl (eqD (.lst xs) (.lst [])))
section
variable {K : PySem.W.Frag} {C : Ec} {E : XK} {σ : L2.St} {H : Hp} {Q : VK} {W : Wd} {X : Cx}
theorem le_orS {a b : DE} (q : liftE K C E (dOrS a b) σ H Q) : tOrT K (liftE K C E a) (liftE K C E b) σ H Q := by
  obtain ⟨c, P, at_, h, k⟩ := q
  refine ⟨c, _, at_, h, fun W1 H1 v1 x1 f1 o1 r1 ⟨s, e, hs, q1⟩ => ?_⟩
  subst e
  rw [rp_str r1]
  refine ⟨_, ⟨szl hs, rfl⟩, ?_⟩
  by_cases hc : ((s.length : Int) != 0) = true
  · rw [if_pos hc] at q1 ⊢
    exact k W1 H1 _ _ f1 o1 (.str s) q1
  · rw [if_neg hc] at q1 ⊢
    exact ⟨{ c with W := W1 }, P, at_.frm f1 o1, q1, fun W2 H2 v x f2 => k W2 H2 v x (f1.trans f2)⟩
theorem eorS {a b : Expr} {rest : List Expr} {pos : Pos} {da db : DE} (ha : PE X a (liftE X.K C E da)) (hb : PE X (.BoolOp .Or (b :: rest) pos) (liftE X.K C E db)) : PE X (.BoolOp .Or (a :: b :: rest) pos) (liftE X.K C E (dOrS da db)) := PE.imp (pe_orT ha hb) fun _ _ _ => le_orS
theorem le_nilO {i : Nat} {b : DN} (hb : ∀ X ρ P, b X ρ P ↔ P []) (q : liftE K C E (dNilO i) σ H Q) : tOp (rEqD K) (tVar i) (liftE K C E (dFz b)) σ H Q := by
  obtain ⟨c, P, at_, ⟨xs, e, hs, h⟩, k⟩ := q
  obtain ⟨p, vs, e1, m, hp, r⟩ := at_.ol e
  refine ⟨_, e1, c, fun x => x = .lst [], at_, ?_, fun W1 H1 v1 x1 f1 o1 r1 q1 => ?_⟩
  · show b _ _ _
    rw [hb]
  subst q1
  have hs' : SeqAt.shaped (.list (toPs xs)) = true := hs
  have hp1 := f1.sH p _ hp m.d
  refine ⟨.list (toPs xs), .list [], .lst (sql hp1) (dps_of o1.sF (r.le f1.le) (Bool.and_eq_true _ _ ▸ hs' : _ ∧ _).1), ?_, hs', by decide +kernel, k W1 H1 _ _ f1 o1 (.bl _) h⟩
  obtain ⟨a, ws, rfl, hf, rs⟩ := rp_lst r1
  cases rs
  exact .lst (sql (o1.sF _ _ hf)) .nil
theorem tnilO {e1 e2 : Expr} {pos : Pos} {i : Nat} {b : DN} (hb : ∀ X ρ P, b X ρ P ↔ P []) (h : OpR X (compareOp .Eq) (rEqD X.K)) (ha : PE X e1 (tVar i)) (h2 : PE X e2 (liftE X.K C E (dFz b))) (hm : behindInMarks .Eq e2 = false) : PT X (.Compare e1 [.Eq] [e2] pos) (liftT X.K C E (dB (dNilO i))) :=
  PT.imp (pt_cmpR h ha h2 hm) fun _ _ _ q => le_nilO hb (le_B q)
end
end Dx
end
section
/-! f(*xs), f a variable that holds a def of the module -/
namespace L2
open PySem PySem.Spec PyProof.Rows
def tCallAS (K : PySem.W.Frag) (i : Nat) (S : Addr → Option Sp) (te : TE) : TE := fun σ H Q => ∃ f sp, σ[i]? = some (some (.ref f)) ∧ S f = some sp ∧ te σ H fun y H1 => ∃ a xs, y = V.ref a ∧ (SqT K H1 a xs ∨ SqL K H1 a xs) ∧ sp xs H1 Q (fun _ _ _ => False)
theorem pe_callAS {X : Cx} {k i : Nat} {x : Str} {e : Expr} {te : TE} {p sp_ pos : Pos} {S : Addr → Option Sp} (A : ∀ f sp, S f = some sp → Held X.prog X.w X.K X.mg X.base k f sp) (hr : Room k X.A) (hN : X.N[i]? = some x) (hv : Vis X.env.scope x) (he : PE X e te)
    (hdb : (x == ("__debug__" : Str)) = false := by decide) (hcd : (x == ("__classdict__" : Str)) = false := by decide)
    (hst : starEach [.Starred e sp_] X.env = [(true, eval e X.env)] := by rfl) :
    PE X (.Call (.Name x p) [.Starred e sp_] [] pos) (tCallAS X.K i S te) := by
  refine ⟨fun pins s σ H Q I h => ?_⟩
  obtain ⟨f, sp, hs, hS, ht⟩ := h
  obtain ⟨fd, ps, F, hk, hb⟩ := (A f sp hS).ex
  have R := FnOk.raw F hb .nil
  refine wpAny_Call_Name_kw (thn ((pe_var hN hv hdb hcd).run pins s σ H (fun v H1 => v = .ref f ∧ H1 = H) I ⟨_, hs, rfl, rfl⟩) fun fv s1 ⟨v, H1, I1, rv, ev, eH⟩ => ?_)
  subst ev eH
  obtain rfl : fv = Value.ref f := rv
  refine PySem.W.callWith_S (h₀ := X.base) I1.ok.mod.kin hk (thn (he.run pins s1 σ H1 _ I1 ht) fun v s2 ⟨y, H2, I2, ry, a, xs, ey, hxs, q⟩ => ?_) hst
  subst ey
  obtain rfl : v = Value.ref a := ry
  refine StX.star_any I2 hxs fun us s3 I3 rv => ⟨I3.kIn, wpAny_call (run_fnR (E := fun _ _ _ => False) R hr (fun _ _ _ _ _ _ _ z => z.elim) I3 rv ?_)⟩
  show sp (xs ++ []) _ _ _
  rw [List.append_nil]
  exact q
end L2
namespace Dx
open PySem L2 RT Sx
def dCallFS (i : Nat) (tab : List (Addr × DSp)) (a : DE) : DE := fun X ρ P => ∃ f sp, ρ[i]? = some (.v (.fn f)) ∧ spAt tab f = some sp ∧ a X ρ fun x => ∃ xs, (x = .lst xs ∨ x = .tup xs) ∧ sp xs P none_
theorem le_callFS {K : PySem.W.Frag} {C : Ec} {E : XK} {σ : L2.St} {H : Hp} {i : Nat} {tab : List (Addr × DSp)} {a : DE} {Q : VK} (q : liftE K C E (dCallFS i tab a) σ H Q) : tCallAS K i (spTab K C tab) (liftE K C E a) σ H Q := by
  obtain ⟨c, P, at_, ⟨f, sp, e, es, h⟩, k⟩ := q
  obtain ⟨v, h1, r⟩ := at_.lk.sl i _ e
  obtain ⟨u, rfl, ru⟩ := r
  obtain rfl := rp_fn ru
  refine ⟨f, liftSp K C sp, h1, by unfold spTab; rw [es]; rfl, c, _, at_, h, fun W1 H1 v1 x1 f1 o1 r1 ⟨xs, ex, q1⟩ => ?_⟩
  rcases ex with rfl | rfl
  · obtain ⟨a, vs, rfl, hs, rs⟩ := rp_lst r1
    exact ⟨a, vs, rfl, .inr (sql (o1.sF _ _ hs)), W1, xs, P, none_, o1, rs, q1, fun W' H' v x f => k W' H' v x (f1.trans f), fun W' H' kk fs cls dd f o er px => px⟩
  · obtain ⟨a, vs, rfl, hs, rs⟩ := rp_tup r1
    exact ⟨a, vs, rfl, .inl (sqt (o1.sF _ _ hs)), W1, xs, P, none_, o1, rs, q1, fun W' H' v x f => k W' H' v x (f1.trans f), fun W' H' kk fs cls dd f o er px => px⟩
end Dx
end
section
/-! a dict of the module with texts to ints; not in a tuple -/
namespace L2
open PySem PySem.Spec PyProof.Rows
/-- at d: a written dict with these ints, and without those texts -/
structure KWi (K : PySem.W.Frag) (w : World) (d : Addr) (ks : List (Str × Nat)) (no : List Str) : Prop where
  ex : ∃ es n, KDict K w d es n
  has : ∀ z m, (z, m) ∈ ks → ∃ t, PySem.W.nsIn K d z = some (some (.int (m : Int) t))
  hasnt : ∀ z, z ∈ no → PySem.W.nsIn K d z = some none
def rInKd (K : PySem.W.Frag) (w : World) : R2 := fun x y H Q => ∃ d es n z r, x = .str z ∧ y = .ref d ∧ KDict K w d es n ∧ PySem.W.nsIn K d z = some r ∧ Q (.bl r.isSome) H
def rNotInKd (K : PySem.W.Frag) (w : World) : R2 := fun x y H Q => ∃ d es n z r, x = .str z ∧ y = .ref d ∧ KDict K w d es n ∧ PySem.W.nsIn K d z = some r ∧ Q (.bl (!r.isSome)) H
theorem op_inKd {X : Cx} : OpR X (compareOp .In) (rInKd X.K X.w) := fun pins s σ H x y v u Q I rx ry ⟨d, es, n, z, r, e1, e2, D, e3, q⟩ => op_in_kd D pins s σ H x y v u Q I rx ry ⟨z, r, e1, e2, e3, q⟩
theorem op_notInKd {X : Cx} : OpR X (compareOp .NotIn) (rNotInKd X.K X.w) := fun pins s σ H x y v u Q I rx ry ⟨d, es, n, z, r, e1, e2, D, e3, q⟩ => op_notIn_kd D pins s σ H x y v u Q I rx ry ⟨z, r, e1, e2, e3, q⟩
theorem kwi_lit {P : Params} : ∀ l : List (Str × Nat × Tok × Tok), PySem.W.KeysLit P (l.map fun p => (⟨PyData.keyHash P p.1, .str p.1 p.2.2.1, .int (p.2.1 : Int) p.2.2.2⟩ : DictEntry))
  | [] => trivial
  | p :: l => ⟨⟨p.1, p.2.2.1, rfl, rfl⟩, kwi_lit l⟩
theorem kwi_mk {K : PySem.W.Frag} {w : World} {d : Addr} {n : Nat} {no : List Str} (l : List (Str × Nat × Tok × Tok)) (hl : K.lookup d = some ⟨.type "dict", none, .dict (l.map fun p => (⟨PyData.keyHash w.params p.1, .str p.1 p.2.2.1, .int (p.2.1 : Int) p.2.2.2⟩ : DictEntry)).toArray n, #[]⟩)
    (hs : (d == sysModules) = false) (hn : ∀ p ∈ l, PySem.W.nsIn K d p.1 = some (some (.int (p.2.1 : Int) p.2.2.2))) (ho : ∀ z, z ∈ no → PySem.W.nsIn K d z = some none) : KWi K w d (l.map fun p => (p.1, p.2.1)) no := by
  refine ⟨⟨_, n, hl, by rw [List.toList_toArray]; exact kwi_lit l, hs⟩, fun z m h => ?_, ho⟩
  obtain ⟨p, hp, e⟩ := List.mem_map.mp h
  cases e
  exact ⟨_, hn p hp⟩
def rNotInDT (K : PySem.W.Frag) : R2 := fun x y H Q => ∃ d ds, Dp K H x d ∧ Dp K H y (.tuple ds) ∧ SeqAt.shaped d = true ∧ SeqAt.shaped (.tuple ds) = true ∧ Q (.bl (!ds.any fun z => PyData.eqv z d)) H
theorem op_notInDT {X : Cx} (hu : X.A.units + 65 < cLine) : OpR X (compareOp .NotIn) (rNotInDT X.K) := fun pins s σ H x y v u Q I rx ry ⟨d, ds, hd, he, sd, se, q⟩ => by
  have ⟨_, r1⟩ := Dp.reads I d x v hd rx
  have ⟨_, r2⟩ := Dp.reads I (.tuple ds) y u he ry
  exact SeqAt.notIn_tuple_reads r2 r1 (SeqAt.canLay_of_shaped se) (SeqAt.canLay_of_shaped sd) (room_in_shaped sd hu) ⟨.bl _, H, I, rfl, q⟩
end L2
namespace Dx
open PySem L2 RT Sx
variable {K : PySem.W.Frag} {w : World}
/-- a text in such a dict -/
def dInI (ng : Bool) (d : Addr) (ks : List (Str × Nat)) (no : List Str) : D2 := fun x y P => y = .fn d ∧ ∃ z, x = .str z ∧ ((∃ m, (z, m) ∈ ks ∧ P (.bl (!ng))) ∨ (z ∈ no ∧ P (.bl ng)))
def dIxI (d : Addr) (ks : List (Str × Nat)) : D2 := fun x y P => x = .fn d ∧ ∃ z m, y = .str z ∧ (z, m) ∈ ks ∧ P (nat m)
def dNotInT : D2 := fun x y P => ∃ ys, y = .tup ys ∧ shD x = true ∧ shD (.tup ys) = true ∧ P (.bl (!ys.any fun z => eqD z x))
theorem o_inI {d : Addr} {ks : List (Str × Nat)} {no : List Str} (D : KWi K w d ks no) : Op2 K (rInKd K w) (dInI false d ks no) := fun W H v1 x1 v2 x2 P Q o r1 r2 ⟨e1, z, e2, q⟩ k => by
  subst e1; subst e2
  obtain ⟨es, n, D1⟩ := D.ex
  rcases q with ⟨m, hm, q⟩ | ⟨hm, q⟩
  · obtain ⟨t, h⟩ := D.has z m hm
    exact ⟨d, es, n, z, _, rp_str r1, rp_fn r2, D1, h, k W H _ _ (Frm.refl _ _) o (.bl _) q⟩
  · exact ⟨d, es, n, z, _, rp_str r1, rp_fn r2, D1, D.hasnt z hm, k W H _ _ (Frm.refl _ _) o (.bl _) q⟩
theorem o_notinI {d : Addr} {ks : List (Str × Nat)} {no : List Str} (D : KWi K w d ks no) : Op2 K (rNotInKd K w) (dInI true d ks no) := fun W H v1 x1 v2 x2 P Q o r1 r2 ⟨e1, z, e2, q⟩ k => by
  subst e1; subst e2
  obtain ⟨es, n, D1⟩ := D.ex
  rcases q with ⟨m, hm, q⟩ | ⟨hm, q⟩
  · obtain ⟨t, h⟩ := D.has z m hm
    exact ⟨d, es, n, z, _, rp_str r1, rp_fn r2, D1, h, k W H _ _ (Frm.refl _ _) o (.bl _) q⟩
  · exact ⟨d, es, n, z, _, rp_str r1, rp_fn r2, D1, D.hasnt z hm, k W H _ _ (Frm.refl _ _) o (.bl _) q⟩
theorem o_ixI {d : Addr} {ks : List (Str × Nat)} {no : List Str} (D : KWi K w d ks no) : Op2 K (rIxD K w) (dIxI d ks) := fun W H v1 x1 v2 x2 P Q o r1 r2 ⟨e1, z, m, e2, hm, q⟩ k => by
  subst e1; subst e2
  obtain ⟨es, n, D1⟩ := D.ex
  obtain ⟨t, h⟩ := D.has z m hm
  exact ⟨d, z, .int (m : Int), rp_fn r1, rp_str r2, ⟨es, n, _, D1.at_, D1.lit, h, _, rfl⟩, k W H _ _ (Frm.refl _ _) o (.int _) q⟩
theorem o_notinT : Op2 K (rNotInDT K) dNotInT := fun W H v1 x1 v2 x2 P Q o r1 r2 ⟨ys, e, h1, h2, q⟩ k => by
  subst e
  have h2' : SeqAt.shaped (.tuple (toPs ys)) = true := h2
  exact ⟨_, toPs ys, dp_of o.sF r1 (.inl h1), dp_of o.sF r2 (.inl h2), h1, h2', by rw [any_toPs]; exact k W H _ _ (Frm.refl _ _) o (.bl _) q⟩
end Dx
end
section
/-! dict(list of pairs); a list of one thing many times -/
namespace Dx
open PySem L2 RT Sx
def mgK (ps : List (Key × Dt)) : List (Key × Dt) := ps.foldl (fun a p => pK a p.1 p.2) []
def prKD (p : Key × Dt) : Dt := .tup [keyD p.1, p.2]
def dDictP (a : DA) : DD := fun X ρ P => a X ρ fun xs => ∃ ps : List (Key × Dt), xs = [.lst (ps.map prKD)] ∧ P (.dK (mgK ps))
section
variable {K : PySem.W.Frag} {C : Ec} {E : XK} {σ : L2.St} {H : Hp} {Q : VK} {W : Wd}
theorem RpK.merge : ∀ {kvs : List (Key × V)} {ps : List (Key × Dt)} {ks : List (Key × V)} {qs : List (Key × Dt)}, RpK K W kvs ps → RpK K W ks qs → RpK K W (mergeK ks kvs) (ps.foldl (fun a p => pK a p.1 p.2) qs)
  | _, _, _, _, .nil, r => r
  | _, _, _, _, .cons h rr, r => by
    unfold mergeK
    rw [List.foldl_cons, List.foldl_cons]
    exact RpK.merge rr (r.put h)
theorem pairs_rp (o : Ok K W H) : ∀ {ps : List (Key × Dt)} {vs : List V}, RpL K W vs (ps.map prKD) → ∃ (as : List Addr) (kvs : List (Key × V)), vs = as.map V.ref ∧ Paired (fun p kv => SqT K H p [kV kv.1, kv.2]) as kvs ∧ RpK K W kvs ps
  | [], vs, r => by
    cases r
    exact ⟨[], [], rfl, .nil, .nil⟩
  | p :: ps, vs, r => by
    rw [List.map_cons] at r
    cases r with
    | cons h t =>
      obtain ⟨as, kvs, rfl, pp, rk⟩ := pairs_rp o t
      obtain ⟨a, us, rfl, hs, rs⟩ := rp_tup h
      obtain ⟨u, w, rfl, r1, r2⟩ := rpl2 rs
      obtain rfl := rp_key r1
      exact ⟨a :: as, (p.1, w) :: kvs, rfl, .cons (sqt (o.sF _ _ hs)) pp, .cons r2 rk⟩
def rDictP (K : PySem.W.Frag) : List V → Hp → VK → Prop := fun xs H Q => ∃ (a : Addr) (ps : List Addr) (kvs : List (Key × V)), xs = [.ref a] ∧ SqL K H a (ps.map V.ref) ∧ Paired (fun p kv => SqT K H p [kV kv.1, kv.2]) ps kvs ∧
    ∀ p, H p = none → Q (.ref p) (upd H p (.dK (mergeK [] kvs)))
theorem cr_dictP {X : Cx} (hc : X.calm = true := by rfl) : CallR X (.type "dict") (rDictP X.K) := call_dictP hc
theorem le_dictP {a : DA} (q : liftD K C E (dDictP a) σ H Q) : tCB (rDictP K) (liftA K C E a) σ H Q := by
  obtain ⟨c, P, at_, h, k⟩ := q
  refine ⟨c, _, at_, h, fun W1 H1 vs xs f1 o1 rl ⟨ps, e, q1⟩ => ?_⟩
  subst e
  obtain ⟨v, rfl, r1⟩ := rpl1 rl
  obtain ⟨a, us, rfl, hs, rs⟩ := rp_lst r1
  obtain ⟨as, kvs, rfl, pp, rk⟩ := pairs_rp o1 rs
  refine ⟨a, as, kvs, rfl, sql (o1.sF _ _ hs), pp, fun p n => ?_⟩
  exact k W1 _ p _ _ (f1.updN (f1.kp p n)) (o1.laid n) (f1.kp p n) (o1.fr n) (o1.dice_ne n) upd_same (.inl ⟨_, _, rfl, rfl, RpK.merge rk .nil⟩) q1
end
end Dx
end
section
/-! a new list many times -/
namespace Dx
open PySem L2 RT Sx
def dRepN (n : DN) (b : DE) : DN := fun X ρ P => n X ρ fun xs => b X ρ fun y => ∃ k : Nat, y = nat k ∧ k < 2 ^ 60 ∧ xs.length * k ≤ 100000 ∧ P (List.replicate k xs).flatten
section
variable {K : PySem.W.Frag} {C : Ec} {E : XK} {σ : L2.St} {H : Hp} {Q : VK} {W : Wd}
theorem RpL.rep {vs : List V} {xs : List Dt} (r : RpL K W vs xs) : ∀ k : Nat, RpL K W (List.replicate k vs).flatten (List.replicate k xs).flatten
  | 0 => .nil
  | k + 1 => by
    rw [List.replicate_succ, List.replicate_succ, List.flatten_cons, List.flatten_cons]
    exact r.append (RpL.rep r k)
theorem le_repN {n : DN} {b : DE} (q : liftN K C E (dRepN n b) σ H Q) : tOp rRep (liftN K C E n) (liftE K C E b) σ H Q := by
  obtain ⟨c, P, at_, h, k⟩ := q
  refine ⟨c, _, at_, h, fun W1 H1 p vs xs f o hn nf nd e r q1 => ?_⟩
  refine ⟨{ c with W := W1 }, _, at_.frm f o, q1, fun W2 H2 v2 x2 f2 o2 r2 ⟨m, e1, hk, hz, q2⟩ => ?_⟩
  subst e1
  have e2 := f2.sH p _ e nd
  refine ⟨p, (m : Int), vs, rfl, rp_int r2, e2, by omega, by omega, ?_, ?_⟩
  · rw [Int.toNat_natCast, sizeLine_eq, r.length]; omega
  · rw [Int.toNat_natCast]
    exact fun q hq => newL (f.trans f2) o2 ((r.le f2.le).rep m) q2 k q _ hq (same_upd hq) upd_same
end
section
variable {X : Cx} {C : Ec} {E : XK} {a b : Expr} {pos : Pos} {dn : DN} {db : DE}
theorem nrepN (ha : PE X a (liftN X.K C E dn)) (hb : PE X b (liftE X.K C E db)) : PE X (.BinOp a .Mult b pos) (liftN X.K C E (dRepN dn db)) := PE.imp (pe_op op_rep ha hb) fun _ _ _ => le_repN
end
end Dx
end
section
/-! != of dicts that are equal; a list == [] -/
namespace L2
open PySem PySem.Spec PyProof.Rows
def AllD (K : PySem.W.Frag) (H : Hp) (ks ls : List (Key × V)) : Prop := ∀ p ∈ ks, ∃ u, valV ls p.1 = some u ∧ ∃ d, Dp K H p.2 d ∧ Dp K H u d ∧ SeqAt.shaped d = true
def rNeDX (b : Bool) (K : PySem.W.Frag) : R2 := fun x y H Q => ∃ a c ks ls, x = .ref a ∧ y = .ref c ∧ Rd H a (.dK ks) ∧ Rd H c (.dK ls) ∧ ks.length = ls.length ∧ AllD K H ks ls ∧ Q (.bl b) H
section
variable {X : Cx} {pins : List (Addr × Obj)} {σ : St} {H : Hp} {s : Shared}
theorem hitsD (I : Inv X pins σ H s) {A : Around} (hu : A.in1.units + 64 < cLine) {ls : List (Key × V)} {vb : List (Key × Value)} (rb : KV ls vb) {ks : List (Key × V)} {va : List (Key × Value)}
    (ra : KV ks va) : AllD X.K H ks ls → PySem.W.KeqHits A.in1 s vb va true := by
  unfold KV at ra
  induction ra with
  | nil => intro _; exact .nil
  | @cons p q ps qs h t k =>
    intro hp
    obtain ⟨h1, h2⟩ := h
    obtain ⟨u, e, d, d1, d2, sh⟩ := hp p List.mem_cons_self
    have rr : RelO (some u) (valueAt vb p.1) := by rw [← e]; exact rb.val p.1
    obtain ⟨y, hy, ry⟩ := rr.some_of
    obtain ⟨key, v⟩ := q
    have h1' : p.1 = key := h1
    rw [h1'] at hy
    obtain ⟨_, r1⟩ := Dp.reads I d _ v d1 h2
    obtain ⟨_, r2⟩ := Dp.reads I d _ y d2 ry
    have ee := SeqAt.eqv_refl d (SeqAt.canLay_of_shaped sh)
    have := PySem.W.keq_at (A := A) r1 r2 sh sh hu
    rw [ee] at this
    show PySem.W.KeqHits A.in1 s vb ((key, v) :: qs) (true && true)
    exact .hit hy this (k fun p' hm => hp p' (List.mem_cons_of_mem _ hm))
end
section
variable {X : Cx}
theorem op_neDX (hu : X.A.units + 65 < cLine) : OpR X (compareOp .NotEq) (rNeDX false X.K) := by
  intro pins s σ H x y v u Q I rx ry h
  obtain ⟨a, b, ks, ls, rfl, rfl, ea, eb, hlen, hp, q⟩ := h
  obtain rfl : v = Value.ref a := rx
  obtain rfl : u = Value.ref b := ry
  obtain ⟨_, ya, va, ra, da⟩ := dk_rd I.hok ea
  obtain ⟨_, yb, vb, rb, db⟩ := dk_rd I.hok eb
  have hl : va.length = vb.length := by rw [← ra.length, ← rb.length]; exact hlen
  exact PySem.W.keq_ne (knd := mixKind X.prog X.w) (r := true) ya yb da db (by omega) (fun _ => hitsD I (A := X.A) (by show X.A.units + 1 + 64 < cLine; omega) rb ra hp) (fin_bl I q (by simp [hl]))
theorem op_eqDX (hu : X.A.units + 65 < cLine) : OpR X (compareOp .Eq) (rNeDX true X.K) := by
  intro pins s σ H x y v u Q I rx ry h
  obtain ⟨a, b, ks, ls, rfl, rfl, ea, eb, hlen, hp, q⟩ := h
  obtain rfl : v = Value.ref a := rx
  obtain rfl : u = Value.ref b := ry
  obtain ⟨_, ya, va, ra, da⟩ := dk_rd I.hok ea
  obtain ⟨_, yb, vb, rb, db⟩ := dk_rd I.hok eb
  have hl : va.length = vb.length := by rw [← ra.length, ← rb.length]; exact hlen
  exact PySem.W.keq_eq (knd := mixKind X.prog X.w) (r := true) ya yb da db (by omega) (fun _ => hitsD I (A := X.A) (by show X.A.units + 1 + 64 < cLine; omega) rb ra hp) (fin_bl I q (by simp [hl]))
def rEqNil (K : PySem.W.Frag) : R2 := fun x y H Q => ∃ a b xs, x = .ref a ∧ y = .ref b ∧ SqL K H a xs ∧ SqL K H b [] ∧ Q (.bl xs.isEmpty) H
theorem op_eqNil (hu : X.A.units + 65 < cLine) : OpR X (compareOp .Eq) (rEqNil X.K) := by
  intro pins s σ H x y v u Q I rx ry h
  obtain ⟨a, b, xs, rfl, rfl, ha, hb, q⟩ := h
  obtain rfl : v = Value.ref a := rx
  obtain rfl : u = Value.ref b := ry
  obtain ⟨us, r1, p1, _⟩ := I.list ha
  obtain ⟨ws, r2, p2, _⟩ := I.list hb
  cases r2
  cases r1 with
  | nil => exact PySem.W.eq_listsT (n := 0) (e := fun _ => true) p1.isList p2.isList rfl (fun j h1 h2 => absurd h1 (by simp)) (by omega) ⟨.bl true, H, I, rfl, q⟩
  | cons h t => exact SeqAt.RcAt.lists_lengths p1.isList p2.isList (by simp) (by omega) _ _ _ _ ⟨.bl false, H, I, rfl, q⟩
end
end L2
namespace Dx
open PySem L2 RT Sx
/-- two dicts of the same keys and values -/
def dNeDX (b : Bool) : D2 := fun x y P => ∃ ps qs, x = .dK ps ∧ y = .dK qs ∧ ps.length = qs.length ∧ (∀ p ∈ ps, gK qs p.1 = some p.2 ∧ shD p.2 = true) ∧ P (.bl b)
def dEqNil : D2 := fun x y P => ∃ xs, x = .lst xs ∧ y = .lst [] ∧ P (.bl xs.isEmpty)
section
variable {K : PySem.W.Frag} {W : Wd} {H : Hp}
theorem RpK.mem : ∀ {ks : List (Key × V)} {ps : List (Key × Dt)} {p : Key × V}, RpK K W ks ps → p ∈ ks → ∃ x, (p.1, x) ∈ ps ∧ Rp K W p.2 x
  | _, _, p, .nil, h => by cases h
  | _, _, p, .cons r rr, h => by
    rcases List.mem_cons.mp h with rfl | h
    · exact ⟨_, List.mem_cons_self, r⟩
    · obtain ⟨x, hx, rx⟩ := RpK.mem rr h
      exact ⟨x, List.mem_cons_of_mem _ hx, rx⟩
theorem o_neDX {b : Bool} : Op2 K (rNeDX b K) (dNeDX b) := fun W H v1 x1 v2 x2 P Q o r1 r2 ⟨ps, qs, e1, e2, hl, h, q⟩ k => by
  subst e1; subst e2
  obtain ⟨a, o1, ks, rfl, h1, k1⟩ := rp_dK r1
  obtain ⟨c, o2, ls, rfl, h2, k2⟩ := rp_dK r2
  refine ⟨a, c, ks, ls, rfl, rfl, .inr ⟨_, o.sF _ _ h1⟩, .inr ⟨_, o.sF _ _ h2⟩, by rw [k1.length, k2.length, hl], fun p hp => ?_, k W H _ _ (Frm.refl _ _) o (.bl _) q⟩
  obtain ⟨x, hx, rx⟩ := k1.mem hp
  obtain ⟨g, sh⟩ := h _ hx
  rcases k2.get (k := p.1) with ⟨_, g2⟩ | ⟨u, y, g1, g2, ry⟩
  · rw [g] at g2; cases g2
  · rw [g] at g2
    obtain rfl := Option.some.inj g2
    exact ⟨u, g1, _, dp_of o.sF rx (.inl sh), dp_of o.sF ry (.inl sh), sh⟩
theorem o_eqNil : Op2 K (rEqNil K) dEqNil := fun W H v1 x1 v2 x2 P Q o r1 r2 ⟨xs, e1, e2, q⟩ k => by
  subst e1; subst e2
  obtain ⟨a, vs, rfl, h1, k1⟩ := rp_lst r1
  obtain ⟨b, ws, rfl, h2, k2⟩ := rp_lst r2
  cases k2
  refine ⟨a, b, vs, rfl, rfl, sql (o.sF _ _ h1), sql (o.sF _ _ h2), ?_⟩
  rw [show vs.isEmpty = xs.isEmpty by cases k1 <;> rfl]
  exact k W H _ _ (Frm.refl _ _) o (.bl _) q
end
end Dx
end
section
/-! dicts and texts, step by step -/
namespace Dx
open PySem L2 RT Sx TL
section
variable {X : DX} {ρ : Env} {P : Dt → Prop} {PA : List Dt → Prop} {PB : Bool → Prop} {D : DEnds} {a b c e : DE} {t u : DT} {s r : DS} {x y : Dt} {i : Nat} {xs ys : List Dt}
theorem d_join (q : a X ρ fun x => ∃ s, x = .str s ∧ b X ρ fun y => ∃ ys : List Str, (y = .lst (ys.map Dt.str) ∨ y = .tup (ys.map Dt.str)) ∧ (ys.map (·.length)).sum + ys.length * s.length ≤ 16777216 ∧ P (.str (Txt.join s ys))) : dJoin a b X ρ P := q
theorem d_split (q : a X ρ fun x => ∃ s, x = .str s ∧ b X ρ fun y => ∃ t, y = .str t ∧ (t.length == 0) = false ∧ s.length ≤ 99000 ∧ PA ((Txt.split s t).map Dt.str)) : dSplit a b X ρ PA := q
theorem d_exstr {s : Str} {A : Str → Prop} (q : A s) : ∃ s', Dt.str s = .str s' ∧ A s' := ⟨s, rfl, q⟩
theorem d_asgL {ps : List Pt} (q : a X ρ fun x => ∃ xs, x = .lst xs ∧ bindDs ps xs ρ D.nx) : dAsgL ps a D X ρ := q
theorem d_fzD {d : DD} (q : d X ρ P) : dFzD d X ρ P := q
theorem d_dc {w : DA} {p : Pt} {ek ev : DE} {vs : List Nat} (q : w X ρ fun xs => dDcF p t ek ev (wipeD ρ vs) X xs [] fun ps => P (.dK ps)) : dDc w p t ek ev vs X ρ P := q
theorem d_notInK (q : b X ρ fun y => a X ρ fun x => ∃ ps k, x = .dK ps ∧ y = keyD k ∧ P (.bl (!(gK ps k).isSome))) : dNotInK b a X ρ P := q
theorem d_inK (q : b X ρ fun y => a X ρ fun x => ∃ ps k, x = .dK ps ∧ y = keyD k ∧ P (.bl (gK ps k).isSome)) : dInK b a X ρ P := q
theorem d_getK (q : a X ρ fun x => b X ρ fun y => ∃ ps k z, x = .dK ps ∧ y = keyD k ∧ gK ps k = some z ∧ P z) : dGetK a b X ρ P := q
theorem d_exks {A : List (Key × Dt) → Key → Prop} {ps : List (Key × Dt)} {s : Str} (q : A ps (.inr s)) : ∃ ps' k, Dt.dK ps = .dK ps' ∧ Dt.str s = keyD k ∧ A ps' k := ⟨ps, .inr s, rfl, rfl, q⟩
theorem d_cnil {p : Pt} {ρ0 : Env} {acc : List Dt} (q : PA acc) : dComp p t e ρ0 X [] acc PA := q
theorem d_ccons {p : Pt} {ρ0 : Env} {acc : List Dt} (q : bindD p x ρ0 fun ρ => t X ρ fun k => if k = true then e X ρ fun y => acc.length ≤ 100000 ∧ dComp p t e ρ0 X xs (acc ++ [y]) PA else dComp p t e ρ0 X xs acc PA) : dComp p t e ρ0 X (x :: xs) acc PA := q
theorem d_listOf {dA : DA} (q : dA X ρ fun xs => (∃ ys, xs = [.lst ys] ∧ PA ys) ∨ ∃ ys, xs = [.tup ys] ∧ PA ys) : dListOf dA X ρ PA := q
theorem d_oflT {A B : List Dt → Prop} (q : B xs) : (∃ ys, [Dt.tup xs] = [.lst ys] ∧ A ys) ∨ ∃ ys, [Dt.tup xs] = [.tup ys] ∧ B ys := .inr ⟨xs, rfl, q⟩
theorem d_oflL {A B : List Dt → Prop} (q : A xs) : (∃ ys, [Dt.lst xs] = [.lst ys] ∧ A ys) ∨ ∃ ys, [Dt.lst xs] = [.tup ys] ∧ B ys := .inl ⟨xs, rfl, q⟩
theorem d_exsR {r : List Nat} {A : List Dt → Prop} (q : A (r.map nat)) : ∃ ys, rowD r = .tup ys ∧ A ys := ⟨_, rfl, q⟩
theorem d_lenR {r : List Nat} (q : P (nat r.length)) : dLen [rowD r] P := ⟨_, _, rfl, by rfl, by rw [List.length_map]; exact q⟩
theorem d_ixR {r : List Nat} {k : Nat} {d : Nat} (h : r[k]? = some d) (q : P (nat d)) : dIxT (rowD r) (nat k) P := ⟨_, k, nat d, rfl, rfl, Dx.atI_nat (by rw [List.getElem?_map, h]; rfl), q⟩
theorem d_raise0 {k : Nat} (q : X k []) : dRaise0 k D X ρ := q
theorem d_neStr {s t : Str} (q : P (.bl (!decide (s = t)))) : dNeS (.str s) (.str t) P := ⟨_, _, rfl, rfl, rfl, by
  rw [show decide (V.str s = V.str t) = decide (s = t) by congr 1; exact propext ⟨V.str.inj, fun h => by rw [h]⟩]; exact q⟩
theorem d_eqStr {s t : Str} (q : P (.bl (decide (s = t)))) : dEqS (.str s) (.str t) P := ⟨_, _, rfl, rfl, rfl, by
  rw [show decide (V.str s = V.str t) = decide (s = t) by congr 1; exact propext ⟨V.str.inj, fun h => by rw [h]⟩]; exact q⟩
theorem d_listOfT (q : PA xs) : dListOf (dCons (dC (.tup xs)) dNil) X ρ PA := .inr ⟨xs, rfl, q⟩
theorem pK_new {k : Key} {z : Dt} {acc : List (Key × Dt)} (h : k ∉ acc.map (·.1)) : pK acc k z = acc ++ [(k, z)] := by
  unfold pK
  rw [if_neg]
  intro e
  obtain ⟨p, hp, e2⟩ := List.any_eq_true.mp e
  exact h (List.mem_map.mpr ⟨p, hp, of_decide_eq_true e2⟩)
/-- a dict comprehension whose keys are all different -/
theorem d_dcM {p : Pt} {ek ev : DE} {ρ0 : Env} {PP : List (Key × Dt) → Prop} (gk : Dt → Key) (gv : Dt → Dt) (h : ∀ x ∈ xs, ∀ N : Dt → Dt → Prop, N (keyD (gk x)) (gv x) → bindD p x ρ0 fun ρ => ek X ρ fun y => ev X ρ fun z => N y z)
    {acc : List (Key × Dt)} (nd : (acc.map (·.1) ++ xs.map gk).Nodup) (hl : acc.length + xs.length ≤ 100000) (q : PP (acc ++ xs.map fun x => (gk x, gv x))) : dDcF p dYes ek ev ρ0 X xs acc PP := by
  induction xs generalizing acc with
  | nil => rw [List.map_nil, List.append_nil] at q; exact q
  | cons x xs ih =>
    simp only [List.length_cons] at hl
    have hn : gk x ∉ acc.map (·.1) := fun e => by
      rw [List.map_cons, List.nodup_append] at nd
      exact nd.2.2 _ e _ List.mem_cons_self rfl
    have h1 := h x List.mem_cons_self (fun y z => ∃ k, y = keyD k ∧ acc.length ≤ 100000 ∧ dDcF p dYes ek ev ρ0 X xs (pK acc k z) PP) ⟨gk x, rfl, by omega, by
      rw [pK_new hn]
      exact ih (fun y hy => h y (List.mem_cons_of_mem _ hy)) (by rw [List.map_append, List.append_assoc]; simpa using nd) (by simp; omega) (by simpa using q)⟩
    have e1 : (fun ρ => dYes X ρ fun b => if b = true then ek X ρ fun y => ev X ρ fun z => ∃ k, y = keyD k ∧ acc.length ≤ 100000 ∧ dDcF p dYes ek ev ρ0 X xs (pK acc k z) PP else dDcF p dYes ek ev ρ0 X xs acc PP) = fun ρ => ek X ρ fun y => ev X ρ fun z => ∃ k, y = keyD k ∧ acc.length ≤ 100000 ∧ dDcF p dYes ek ev ρ0 X xs (pK acc k z) PP := by
      funext ρ
      unfold dYes
      exact if_pos rfl
    show bindD p x ρ0 (fun ρ => dYes X ρ fun b => if b = true then ek X ρ fun y => ev X ρ fun z => ∃ k, y = keyD k ∧ acc.length ≤ 100000 ∧ dDcF p dYes ek ev ρ0 X xs (pK acc k z) PP else dDcF p dYes ek ev ρ0 X xs acc PP)
    rw [e1]; exact h1
theorem d_neL {r s : List Nat} (q : P (.bl (!decide (r = s)))) : dNe (.lst (r.map nat)) (.lst (s.map nat)) P := by
  obtain ⟨h1, h2⟩ := canLay_nats r
  obtain ⟨h3, h4⟩ := canLay_nats s
  have sh : ∀ r : List Nat, shD (.lst (r.map nat)) = true := fun r => by
    obtain ⟨h1, h2⟩ := canLay_nats r
    unfold shD
    simp only [toP, toPs_nats]
    show (PyData.canLay0 (.list _) && decide (PyData.depth (.list _) ≤ 64)) = true
    rw [Bool.and_eq_true]
    exact ⟨by simp only [PyData.canLay0]; exact h1, decide_eq_true (by simp only [PyData.depth]; omega)⟩
  refine ⟨sh r, sh s, ?_⟩
  rw [show eqD (.lst (r.map nat)) (.lst (s.map nat)) = decide (r = s) by
    unfold eqD
    simp only [toP, toPs_nats, PyData.eqv, eqvAll_nats]]
  exact q
theorem rows_of : ∀ {ys : List Dt} {Q : List Nat → Prop}, (∀ y ∈ ys, ∃ r : List Nat, y = rowD r ∧ Q r) → ∃ l : List (List Nat), ys = l.map rowD ∧ ∀ r ∈ l, Q r
  | [], _, _ => ⟨[], rfl, by simp⟩
  | y :: ys, Q, h => by
    obtain ⟨n, rfl, hn⟩ := h y List.mem_cons_self
    obtain ⟨l, rfl, hl⟩ := rows_of (ys := ys) (Q := Q) fun z hz => h z (List.mem_cons_of_mem _ hz)
    exact ⟨n :: l, rfl, fun m hm => by
      rcases List.mem_cons.mp hm with rfl | hm
      · exact hn
      · exact hl m hm⟩
/-! texts of figures -/
def numS (d : Nat) : Str := Str.ofString (toString ((d : Nat) : Int))
def txt (r : List Nat) : Str := Txt.join " " (r.map numS)
theorem numS_inj {a b : Nat} (h : numS a = numS b) : a = b := by
  have e := congrArg tl h
  unfold numS at e
  rw [tl_num, tl_num] at e
  exact numL_inj e
theorem numS_blank (d : Nat) : (32 : Nat) ∉ tl (numS d) := by
  unfold numS
  rw [tl_num]
  exact numL_free (.inl (by decide))
theorem txt_split {r : List Nat} (h : r ≠ []) : Txt.split (txt r) " " = r.map numS := by
  refine split_join (s := 32) (S := []) (by decide) (by decide +kernel) (by simpa using h) fun p hp => ?_
  obtain ⟨d, _, rfl⟩ := List.mem_map.mp hp
  exact numS_blank d
theorem numS_len (d : Nat) (h : d < 60) : (numS d).length ≤ 2 := by
  have : ∀ d, d < 60 → (numS d).length ≤ 2 := by decide +kernel
  exact this d h
theorem sum_le : ∀ {r : List Nat}, (∀ d ∈ r, d < 60) → ((r.map numS).map (·.length)).sum ≤ 2 * r.length
  | [], _ => by simp
  | d :: r, h => by
    have h1 := numS_len d (h d (by simp))
    have h2 := sum_le (r := r) fun x hx => h x (List.mem_cons_of_mem _ hx)
    simp only [List.map_cons, List.sum_cons, List.length_cons]
    omega
theorem join_len {r : List Nat} (h : ∀ d ∈ r, d < 60) (hl : r.length ≤ 1000) : ((r.map numS).map (·.length)).sum + (r.map numS).length * (" " : Str).length ≤ 16777216 := by
  have h1 := sum_le h
  have h2 : (" " : Str).length = 1 := by decide
  rw [h2, List.length_map]; omega
theorem txt_len {r : List Nat} (h : ∀ d ∈ r, d < 60) (hl : r.length ≤ 1000) : (txt r).length ≤ 4000 := by
  have h1 := sum_le h
  have h2 := StrLaws.join_length_le " " (r.map numS)
  have h3 : (" " : Str).length = 1 := by decide
  unfold txt
  rw [join_eq]
  rw [h3, List.length_map] at h2
  omega
/-- the text of a whole number -/
def strOf : Dt → Dt
  | .int z => .str (numS z.toNat)
  | _ => .non
theorem nums_map (r : List Nat) : (r.map nat).map strOf = (r.map numS).map Dt.str := by
  rw [List.map_map, List.map_map]
  exact List.map_congr_left fun d _ => rfl
theorem d_strN {n : Nat} (h : n < 2 ^ 64) (q : P (.str (numS n))) : dStrI [nat n] P := ⟨(n : Int), rfl, by
  rw [Int.natAbs_natCast]
  rcases Nat.eq_zero_or_pos n with rfl | h0
  · decide
  · exact (Nat.log2_lt (by omega)).mpr (Nat.lt_trans h (Nat.pow_lt_pow_right (by decide) (by decide))), q⟩
/-- a row's figures put together -/
theorem d_joinR {r : List Nat} {e : DE} {p : Pt} (h60 : ∀ d ∈ r, d < 60) (hl : r.length ≤ 1000) (h : ∀ Q : Dt → Prop, Q (.lst ((r.map numS).map Dt.str)) → e X ρ Q) (q : P (.str (txt r))) : dJoin (dC (.str " ")) e X ρ P :=
  ⟨" ", rfl, h _ ⟨r.map numS, .inl rfl, join_len h60 hl, q⟩⟩
theorem gK_num : ∀ {l : List Nat} {d : Nat}, d ∈ l → gK (l.map fun d => ((.inr (numS d) : Key), nat d)) (.inr (numS d)) = some (nat d)
  | a :: l, d, h => by
    unfold gK
    by_cases e : a = d
    · subst e; simp
    · have ne : ¬ ((.inr (numS a) : Key) = .inr (numS d)) := fun z => e (numS_inj (Sum.inr.inj z))
      rw [List.map_cons, List.find?_cons_of_neg (by simpa using ne)]
      rcases List.mem_cons.mp h with h | h
      · exact absurd h.symm e
      · exact gK_num h
theorem gK_num_no : ∀ {l : List Nat} {w : Str}, (∀ d ∈ l, w ≠ numS d) → gK (l.map fun d => ((.inr (numS d) : Key), nat d)) (.inr w) = none
  | [], _, _ => rfl
  | a :: l, w, h => by
    have ne : ¬ ((.inr (numS a) : Key) = .inr w) := fun z => h a List.mem_cons_self (Sum.inr.inj z).symm
    unfold gK
    rw [List.map_cons, List.find?_cons_of_neg (by simpa using ne)]
    exact gK_num_no (l := l) fun d hd => h d (List.mem_cons_of_mem _ hd)
end
end Dx
end
section
/-! a tuple turned round by [::-1] -/
namespace RevT
open PySem PyProof.Rows PySem.SeqAt HT
open PySem.AutoSeq1 (wpAny_loadPart')
open PySem.MeetsSeq PySem.MeetsSeq2 PySem.MeetsSeq3
variable {prog : Program} {w : World} {A : Around} {E : Value → Shared → Prop} {s : Shared}
theorem adj_back (n : Nat) : Builtin.Slice.sliceAdjust none none (-1) (n : Int) = ((n : Int) - 1, -1) := rfl
theorem pl_back (n : Nat) : Builtin.Slice.slicePlaces ((n : Int) - 1) (-1) (-1) = n := by
  unfold Builtin.Slice.slicePlaces
  have h1 : ¬ ((-1 : Int) > 0) := by decide
  simp only [h1, if_false, show (-(-1) : Int) = 1 by decide, Int.ediv_one]
  split <;> omega
theorem app_back {sl : Addr} {vl vu vs : Value} {n : Nat} {Q : Int × Int × Nat → Shared → Prop} (hs : s.heap.IsSliceOf sl vl vu vs) (pl : IsPart vl none) (pu : IsPart vu none) (ps : IsPart vs (some (-1))) (h : Q ((n : Int) - 1, -1, n) s) :
    wpAny (model prog w) A (Builtin.Slice.sliceApplied (.ref sl) (pure (n : Int))) Q E s := by
  obtain ⟨os, hos, hcs, hds⟩ := id hs
  unfold Builtin.Slice.sliceApplied Builtin.Slice.sliceFields
  refine wpAny_bind (wpAny_bind (wpAny_field hos hds (x := vl) rfl ?_))
  refine wpAny_bind (wpAny_field hos hds (x := vu) rfl ?_)
  refine wpAny_bind (wpAny_field hos hds (x := vs) rfl (wpAny_pure ?_))
  refine wpAny_bind (slicePart_ ps ?_)
  show wpAny _ _ (if ((-1 : Int) == 0) = true then _ else _) _ _ s
  rw [if_neg (by decide)]
  refine wpAny_bind (slicePart_ pl ?_)
  refine wpAny_bind (slicePart_ pu (wpAny_bind (wpAny_pure ?_)))
  show wpAny _ _ (match Builtin.Slice.sliceAdjust none none (-1) (n : Int) with | (a, b) => pure (a, (-1 : Int), Builtin.Slice.slicePlaces a b (-1))) _ _ s
  rw [adj_back n]
  show wpAny _ _ (pure ((n : Int) - 1, (-1 : Int), Builtin.Slice.slicePlaces ((n : Int) - 1) (-1) (-1))) _ _ s
  rw [pl_back]
  exact wpAny_pure h
theorem pick_back (xs : Array Value) : ((List.range xs.size).filterMap fun (k : Nat) => xs[(((xs.size : Nat) : Int) - 1 + (k : Int) * (-1)).toNat]?).toArray = xs.toList.reverse.toArray := by
  have e : (fun (k : Nat) => xs[(((xs.size : Nat) : Int) - 1 + (k : Int) * (-1)).toNat]?) = (fun i => xs[i]?) ∘ fun k => xs.size - 1 - k := by
    funext k
    have : (((xs.size : Nat) : Int) - 1 + (k : Int) * (-1)).toNat = xs.size - 1 - k := by omega
    show xs[_]? = xs[_]?
    rw [this]
  rw [e, ← List.filterMap_map, PySem.W.krv_range, List.filterMap_reverse, PySem.W.krv_all]
theorem get_back {t sl : Addr} {items : Array Value} {vl vu vs : Value} {Q : Value → Shared → Prop} (ht : IsTup s.heap t items) (hs : s.heap.IsSliceOf sl vl vu vs) (pl : IsPart vl none) (pu : IsPart vu none) (ps : IsPart vs (some (-1)))
    (h : Q (.ref s.heap.objs.size) { s with heap := s.heap.push { cls := .type "tuple", data := .seq items.toList.reverse.toArray } }) (hsz : items.size ≤ sizeLine) : wpAny (model prog w) A (getItem (.ref t) (.ref sl)) Q E s := by
  have hz : sizeOk (.seq items.toList.reverse.toArray) := by
    show items.toList.reverse.toArray.size ≤ sizeLine
    simpa using hsz
  obtain ⟨os, hos, hcs, hds⟩ := id hs
  have hTs : s.TypeIs (.ref sl) "slice" := ⟨os, hos, hcs⟩
  unfold getItem
  try with_reducible refine wpAny_holding ?_
  first | refine wpAny_bind (wpAny_pure ?_) | skip
  refine wpAny_bind (wpAny_sequenceKey ht.typeIs (by decide) ?_)
  refine wpAny_bind (wpAny_callSpecial?_slot (name := Str.ofString "__getitem__") ht.typeIs slot_tuple_getitem (wpAny_call_entry slot_tuple_getitem ht.typeIs entry_tuple_getitem ?_ (args_tuple_getitem _ _)))
  show wpAny _ _ (Builtin.Tuple.tupleItemsOf (.ref t) >>= _) _ _ s
  refine wpAny_bind (tupleItemsOf_ ht (wpAny_bind (wpAny_typeOf hTs ?_)))
  rw [if_pos (by decide)]
  refine wpAny_bind (app_back hs pl pu ps ?_)
  show wpAny _ _ (if (((items.size : Nat) : Int) - 1 == 0 && (-1 : Int) == 1 && items.size == items.size) = true then _ else _) _ _ s
  rw [if_neg (by rw [show ((-1 : Int) == 1) = false by decide, Bool.and_false, Bool.false_and]; exact Bool.false_ne_true), pick_back]
  first
    | exact wpAny_bind (m := Builtin.Tuple.tupleExact _) (wpAny_newObj_type (wpAny_pure ⟨_, rfl, wpAny_pure h⟩) hz)
    | exact wpAny_bind (m := Builtin.Tuple.tupleExact _) (wpAny_newObj_type (wpAny_bind (wpAny_pure (wpAny_pure ⟨_, rfl, wpAny_pure h⟩))) hz)
    | exact wpAny_bind (wpAny_bind (m := Builtin.Tuple.tupleExact _) (wpAny_newObj_type (wpAny_pure (wpAny_pure ⟨_, rfl, wpAny_pure h⟩)) hz))
    | exact wpAny_bind (wpAny_bind (m := Builtin.Tuple.tupleExact _) (wpAny_newObj_type (wpAny_pure ⟨_, rfl, wpAny_pure h⟩) hz))
end RevT
namespace L2
open PySem PySem.Spec PyProof.Rows
/-- xs[::-1], xs a tuple -/
def tRevT (K : PySem.W.Frag) (te : TE) : TE := fun σ H Q => te σ H fun x H1 => ∃ a xs, x = .ref a ∧ SqT K H1 a xs ∧ ∀ p, H1 p = none → Q (.ref p) (upd H1 p (.tup xs.reverse))
theorem pe_revT {X : Cx} {e : Expr} {te : TE} {k : Nat} {p1 p2 p3 pos : Pos} (he : PE X e te) : PE X (.Subscript e (.Slice none none (some (.UnaryOp .USub (.Constant (.int 1) k p1) p2)) p3) pos) (tRevT X.K te) := ⟨fun pins s σ H Q I h => by
  refine Subscript_ (thn (he.run pins s σ H _ I h) fun v s1 ⟨x, H1, I1, r1, a, xs, ex, hx, q⟩ => ?_)
  subst ex
  cases r1
  have part : PO X (some (.UnaryOp .USub (.Constant (.int 1) k p1) p2)) (tPart (tUn (rU fun i => .int (-i)) (tC (.int 1)))) := po_some (pe_un un_neg pe_int)
  have none_ : ∀ {s : Shared} {H : Hp}, Inv X pins σ H s → wpAny (model X.prog X.w) X.A _ _ X.xe s := fun {s H} I => po_none.run pins s σ H (fun o H2 => o = none ∧ H2 = H) I ⟨rfl, rfl⟩
  refine wpAny_Slice (thn (none_ I1) fun vl s2 ⟨_, _, I2, pl, el, e2⟩ => thn (none_ I2) fun vu s3 ⟨_, _, I3, pu, eu, e3⟩ => ?_)
  subst el e2 eu e3
  refine thn (part.run pins s3 σ _ (fun o H4 => o = some (-1) ∧ H4 = _) I3 ⟨1, rfl, -1, rfl, rfl, rfl⟩) fun vs s4 ⟨_, _, I4, ps, eo, e4⟩ => ?_
  subst eo e4
  have I5 : Inv X pins σ _ { s4 with heap := s4.heap.push { cls := .type "slice", data := .fields #[vl, vu, vs] } } := I4.kept (t' := s4.toks) fun b ob q => Heap.get?_push_of_some _ q
  obtain ⟨its, r, ht, hz⟩ := I5.tuple hx
  have hl := r.length
  refine tail_any (ops := [.ref a, .ref s4.heap.objs.size]) ht.typeIs slot_tuple_getitem.lookup (RevT.get_back ht (Heap.IsSliceOf.new _ vl vu vs) pl pu ps ?_ (by rw [List.size_toArray]; omega)) (by with_unfolding_all rfl)
  refine ⟨.ref _, _, I5.laid (t' := s4.toks) (o := .tup xs.reverse) (fun b ob q => Heap.get?_push_of_some _ q) (Nat.le_refl _) ?_, rfl, q _ (I5.hok.fresh (Nat.le_refl _))⟩
  exact ⟨by rw [List.length_reverse]; exact hz, _, r.reverse, IsTup.new _ _⟩⟩
end L2
namespace Dx
open PySem L2 RT Sx
def dRevT (a : DE) : DE := fun X ρ P => a X ρ fun x => ∃ xs, x = .tup xs ∧ P (.tup xs.reverse)
section
variable {K : PySem.W.Frag} {C : Ec} {E : XK} {σ : L2.St} {H : Hp} {Q : VK}
theorem le_revT {a : DE} (q : liftE K C E (dRevT a) σ H Q) : tRevT K (liftE K C E a) σ H Q := by
  obtain ⟨c, P, at_, h, k⟩ := q
  refine ⟨c, _, at_, h, fun W1 H1 v x f o r ⟨xs, e, q1⟩ => ?_⟩
  subst e
  obtain ⟨a, vs, rfl, hs, rs⟩ := rp_tup r
  exact ⟨a, vs, rfl, sqt (o.sF _ _ hs), newT o rs.rev q1 fun W' H' v x f' => k W' H' v x (f.trans f')⟩
end
end Dx
end
section
/-! rows cut and put together, step by step -/
namespace Dx
open PySem L2 RT Sx TL
def slA (x : Dt) (lo hi : Option Int) (P : Dt → Prop) : Prop := ∃ xs, x = .tup xs ∧ P (.tup (cutD xs lo hi))
section
variable {X : DX} {ρ : Env} {P : Dt → Prop} {PA : List Dt → Prop} {PB : Bool → Prop} {D : DEnds} {a b c e : DE} {t u : DT} {s r : DS} {x y : Dt} {i m n : Nat} {xs ys : List Dt} {v w : List Nat}
theorem d_slTA {l h : DO} (q : a X ρ fun x => l X ρ fun lo => h X ρ fun hi => slA x lo hi P) : dSlT a l h X ρ P := q
theorem cutD_mid {xs : List Dt} {m n : Nat} : cutD xs (some (m : Int)) (some (n : Int)) = (xs.drop m).take (n - m) := by
  unfold cutD
  rw [HT.sIx_nat, HT.sIx_nat]
  by_cases h : m ≤ xs.length
  · rw [Nat.min_eq_left h]
    by_cases h2 : n ≤ xs.length
    · rw [Nat.min_eq_left h2]
    · rw [Nat.min_eq_right (by omega), List.take_of_length_le (by rw [List.length_drop]; omega), List.take_of_length_le (by rw [List.length_drop]; omega)]
  · rw [List.drop_of_length_le (show xs.length ≤ min m xs.length by omega), List.drop_of_length_le (show xs.length ≤ m by omega), List.take_nil, List.take_nil]
theorem d_slTo (q : P (rowD (v.take n))) : slA (rowD v) none (some (n : Int)) P := ⟨_, rfl, by rw [cutD_to, rowD_take]; exact q⟩
theorem d_slFrom (q : P (rowD (v.drop n))) : slA (rowD v) (some (n : Int)) none P := ⟨_, rfl, by rw [cutD_from, rowD_drop]; exact q⟩
theorem d_slMid (q : P (rowD ((v.drop m).take (n - m)))) : slA (rowD v) (some (m : Int)) (some (n : Int)) P := ⟨_, rfl, by rw [cutD_mid, rowD_drop, rowD_take]; exact q⟩
theorem d_slT0 {lo hi : Option Int} (q : P (.tup (cutD xs lo hi))) : slA (.tup xs) lo hi P := ⟨_, rfl, q⟩
theorem d_catR (hz : v.length + w.length ≤ 100000) (q : P (rowD (v ++ w))) : dCatT (rowD v) (rowD w) P := ⟨_, _, rfl, rfl, by simpa using hz, by rw [← List.map_append]; exact q⟩
theorem d_catR1 (hz : v.length + 1 ≤ 100000) (q : P (rowD (v ++ [n]))) : dCatT (rowD v) (.tup [nat n]) P := d_catR (w := [n]) hz q
theorem d_catR2 (hz : v.length + 2 ≤ 100000) (q : P (rowD (v ++ [m, n]))) : dCatT (rowD v) (.tup [nat m, nat n]) P := d_catR (w := [m, n]) hz q
theorem sum_natI (v : List Nat) : ((v.map fun n : Nat => (n : Int)).sum) = ((v.sum : Nat) : Int) := sum_cast v
theorem d_sumR (q : P (nat v.sum)) : dSumT [rowD v] P := ⟨v.map fun n : Nat => (n : Int), by rw [List.map_map]; rfl, by rw [sum_natI]; exact q⟩
theorem d_revT (q : a X ρ fun x => ∃ xs, x = .tup xs ∧ P (.tup xs.reverse)) : dRevT a X ρ P := q
theorem d_keysW {ks : List (Str × Addr)} (q : PA (ks.map fun p => .str p.1)) : dKeysW ks X ρ PA := q
theorem d_isNN (q : P (.bl true)) : dIsN .non .non P := ⟨rfl, .inl ⟨rfl, q⟩⟩
theorem d_isNT (q : P (.bl false)) : dIsN (.tup xs) .non P := ⟨rfl, .inr ⟨(fun z => nomatch z), q⟩⟩
theorem d_notNN (q : P (.bl false)) : dNotN .non .non P := ⟨rfl, .inl ⟨rfl, q⟩⟩
theorem d_notNT (q : P (.bl true)) : dNotN (.tup xs) .non P := ⟨rfl, .inr ⟨(fun z => nomatch z), q⟩⟩
theorem d_notNR (q : P (.bl true)) : dNotN (rowD v) .non P := ⟨rfl, .inr ⟨(fun z => nomatch z), q⟩⟩
theorem d_isNR (q : P (.bl false)) : dIsN (rowD v) .non P := ⟨rfl, .inr ⟨(fun z => nomatch z), q⟩⟩
theorem i_yesS {p q : Str} {A B : Prop} (h : p = q) (r : A) : if decide (p = q) = true then A else B := by rw [decide_eq_true h, if_pos rfl]; exact r
theorem i_nayS {p q : Str} {A B : Prop} (h : p ≠ q) (r : B) : if decide (p = q) = true then A else B := by rw [decide_eq_false h, if_neg Bool.false_ne_true]; exact r
theorem i_yesSN {p q : Str} {A B : Prop} (h : p ≠ q) (r : A) : if (!decide (p = q)) = true then A else B := by rw [decide_eq_false h]; exact r
theorem i_naySN {p q : Str} {A B : Prop} (h : p = q) (r : B) : if (!decide (p = q)) = true then A else B := by rw [decide_eq_true h]; exact r
theorem shD_non : shD .non = true := by decide +kernel
theorem d_eqNR (q : P (.bl false)) : dEq .non (rowD v) P := ⟨shD_non, shD_row v, q⟩
theorem d_neNR (q : P (.bl true)) : dNe .non (rowD v) P := ⟨shD_non, shD_row v, q⟩
end
mutual
theorem plB_depth : ∀ (n : Nat) (x : Dt), plB n x = true → PyData.depth (toP x) ≤ n + 1
  | n, .non, _ => by simp [toP, PyData.depth]
  | n, .int _, _ => by simp [toP, PyData.depth]
  | n, .str _, _ => by simp [toP, PyData.depth]
  | n + 1, .tup xs, h => by
    simp only [plB, Bool.and_eq_true] at h
    have := plBs_depth n xs h.2
    simp only [toP, PyData.depth]; omega
  | n + 1, .lst xs, h => by
    simp only [plB, Bool.and_eq_true] at h
    have := plBs_depth n xs h.2
    simp only [toP, PyData.depth]; omega
  | 0, .tup _, h => by simp [plB] at h
  | 0, .lst _, h => by simp [plB] at h
  | 0, .bl _, h => by simp [plB] at h
  | _ + 1, .bl _, h => by simp [plB] at h
  | 0, .ty _, h => by simp [plB] at h
  | _ + 1, .ty _, h => by simp [plB] at h
  | 0, .dK _, h => by simp [plB] at h
  | _ + 1, .dK _, h => by simp [plB] at h
  | 0, .dT _, h => by simp [plB] at h
  | _ + 1, .dT _, h => by simp [plB] at h
  | 0, .dice, h => by simp [plB] at h
  | _ + 1, .dice, h => by simp [plB] at h
  | 0, .fn _, h => by simp [plB] at h
  | _ + 1, .fn _, h => by simp [plB] at h
  | 0, .scr _, h => by simp [plB] at h
  | _ + 1, .scr _, h => by simp [plB] at h
  | 0, .ktup _, h => by simp [plB] at h
  | _ + 1, .ktup _, h => by simp [plB] at h
theorem plBs_depth : ∀ (n : Nat) (xs : List Dt), plBs n xs = true → PyData.depthAll (toPs xs) ≤ n + 1
  | _, [], _ => by simp [toPs, PyData.depthAll]
  | n, x :: xs, h => by
    simp only [plBs, Bool.and_eq_true] at h
    have h1 := plB_depth n x h.1
    have h2 := plBs_depth n xs h.2
    simp only [toPs, PyData.depthAll]; omega
end
theorem plB_sh {n : Nat} {x : Dt} (h : plB n x = true) (hn : n ≤ 60) : shD x = true := by
  have h1 := (plB_lay n x h).1
  have h2 := plB_depth n x h
  show (PyData.canLay0 (toP x) && decide (PyData.depth (toP x) ≤ 64)) = true
  rw [Bool.and_eq_true]
  exact ⟨h1, decide_eq_true (by omega)⟩
end Dx
end
section
/-! one's own dict by truth values -/
namespace Dx
open PySem L2 RT Sx
def dNewB (i : Nat) : DS := fun D _ ρ => D.nx (ρ.set i (.ob []))
def dPutB (i : Nat) (b a : DE) : DS := fun D X ρ => a X ρ fun x => ∃ ps, ρ[i]? = some (.ob ps) ∧ b X ρ fun y => ∃ k, y = .bl k ∧ ps.length ≤ 900 ∧ D.nx (ρ.set i (.ob (pK ps k x)))
def dGetB (i : Nat) (b : DE) : DE := fun X ρ P => ∃ ps, ρ[i]? = some (.ob ps) ∧ b X ρ fun y => ∃ k z, y = .bl k ∧ gK ps k = some z ∧ P z
section
variable {K : PySem.W.Frag} {W : Wd}
theorem RpB.get : ∀ {ks : List (Bool × V)} {ps : List (Bool × Dt)} {k : Bool}, RpB K W ks ps → (valV ks k = none ∧ gK ps k = none) ∨ ∃ v x, valV ks k = some v ∧ gK ps k = some x ∧ Rp K W v x
  | _, _, k, .nil => .inl ⟨rfl, rfl⟩
  | _, _, k, @RpB.cons _ _ k' v x ks ps r rr => by
    by_cases e : k' = k
    · exact .inr ⟨v, x, valV_pos (p := (k', v)) e, by unfold gK; simp [List.find?_cons, e], r⟩
    · rw [valV_neg (p := (k', v)) e, show gK ((k', x) :: ps) k = gK ps k by unfold gK; simp [List.find?_cons, e]]
      exact RpB.get rr
theorem RpB.any {k : Bool} : ∀ {ks : List (Bool × V)} {ps : List (Bool × Dt)}, RpB K W ks ps → (ks.any fun p => decide (p.1 = k)) = ps.any fun p => decide (p.1 = k)
  | _, _, .nil => rfl
  | _, _, .cons r rr => by simp only [List.any_cons]; rw [RpB.any rr]
theorem RpB.mapp {k : Bool} {v : V} {x : Dt} (h : Rp K W v x) : ∀ {ks : List (Bool × V)} {ps : List (Bool × Dt)}, RpB K W ks ps → RpB K W (ks.map fun p => if p.1 = k then (p.1, v) else p) (ps.map fun p => if p.1 = k then (p.1, x) else p)
  | _, _, .nil => .nil
  | _, _, @RpB.cons _ _ k' v' x' ks ps r rr => by
    rw [List.map_cons, List.map_cons]
    by_cases e : k' = k
    · simp only [e, if_true]; exact .cons h (RpB.mapp h rr)
    · simp only [e, if_false]; exact .cons r (RpB.mapp h rr)
theorem RpB.snoc {k : Bool} {v : V} {x : Dt} (h : Rp K W v x) : ∀ {ks : List (Bool × V)} {ps : List (Bool × Dt)}, RpB K W ks ps → RpB K W (ks ++ [(k, v)]) (ps ++ [(k, x)])
  | _, _, .nil => .cons h .nil
  | _, _, .cons r rr => .cons r (RpB.snoc h rr)
theorem RpB.put {k : Bool} {v : V} {x : Dt} {ks : List (Bool × V)} {ps : List (Bool × Dt)} (h : Rp K W v x) (r : RpB K W ks ps) : RpB K W (putK ks k v) (pK ps k x) := by
  unfold putK pK
  rw [r.any]
  split
  · exact r.mapp h
  · exact r.snoc h
theorem RpB.length : ∀ {ks : List (Bool × V)} {ps : List (Bool × Dt)}, RpB K W ks ps → ks.length = ps.length
  | _, _, .nil => rfl
  | _, _, .cons _ h => by rw [List.length_cons, List.length_cons, h.length]
end
section
variable {K : PySem.W.Frag} {C : Ec} {E : XK} {σ : L2.St} {H : Hp} {Q : VK} {D : Ends} {W : Wd}
theorem ls_newB {i : Nat} (q : liftS K C E (dNewB i) D σ H) : tAsg tDNewK (gName i) D σ H := by
  obtain ⟨c, DD, at_, en, h⟩ := q
  refine fun p n => ?_
  have a1 := at_.frm (Frm.laid (o := .dK []) n) (at_.lk.ok.laid n)
  refine en.nx c.W (c.ρ.set i (.ob [])) (σ.set i (some (.ref p))) _ ⟨a1.lk.setOwn i ⟨p, .dK [], [], rfl, ⟨at_.lk.ok.fr n, at_.fr.kp p n, at_.lk.ok.dice_ne n⟩, upd_same, .inl ⟨rfl, rfl⟩, .nil⟩ fun j t e1 e2 ne e3 => ?_, a1.fr, a1.el, a1.lo⟩ h
  obtain ⟨w, h1, h2⟩ := at_.lk.sl j t e1
  rw [h1] at e3
  obtain rfl := Option.some.inj e3
  cases t with
  | un => cases e2
  | v x => cases e2
  | pk u => cases e2
  | ol ys =>
    obtain ⟨q, us, z, _, hq, _⟩ := h2
    obtain rfl := V.ref.inj (Option.some.inj z)
    rw [n] at hq; cases hq
  | od ps =>
    obtain ⟨q, us, z, _, hq, _⟩ := h2
    obtain rfl := V.ref.inj (Option.some.inj z)
    rw [n] at hq; cases hq
  | ob ps =>
    obtain ⟨q, us, ks, z, _, hq, _⟩ := h2
    obtain rfl := V.ref.inj (Option.some.inj z)
    rw [n] at hq; cases hq
theorem Cn.At.ob {c : Cn} {i : Nat} {ps : List (Bool × Dt)} (a : c.At K C E σ H) (e : c.ρ[i]? = some (.ob ps)) : ∃ p ho ks, σ[i]? = some (some (.ref p)) ∧ Mine c.Hin c.W p ∧ H p = some ho ∧ BoolO p ho ks ∧ RpB K c.W ks ps := by
  obtain ⟨o, h1, p, ho, ks, rfl, m, h, b, r⟩ := a.lk.sl i _ e
  exact ⟨p, ho, ks, h1, m, h, b, r⟩
theorem ls_putB {i : Nat} {b a : DE} (q : liftS K C E (dPutB i b a) D σ H) : tPutB (tVar i) (liftE K C E b) (liftE K C E a) D σ H := by
  obtain ⟨c, DD, at_, en, h⟩ := q
  refine ⟨c, _, at_, h, fun W1 H1 v1 x1 f1 o1 r1 ⟨ps, e, q1⟩ => ?_⟩
  have a1 := at_.frm f1 o1
  obtain ⟨p, ho, ks, h1, m, hp, bo, rb⟩ := at_.ob e
  refine ⟨_, h1, { c with W := W1 }, _, a1, q1, fun W2 H2 v2 x2 f2 o2 r2 ⟨k, e2, hz, q2⟩ => ?_⟩
  subst e2
  have f12 := f1.trans f2
  have a2 := at_.frm f12 o2
  have hp2 := f12.sH p _ hp m.d
  have m2 := m.frm f12 hp bo.ownish
  refine ⟨p, k, ks, rfl, rp_bl r2, ?_, by rw [rb.length]; omega, ?_⟩
  · rcases bo with ⟨rfl, rfl⟩ | rfl
    · exact .inl ⟨hp2, rfl⟩
    · exact .inr hp2
  · exact en.nx W2 _ σ _ (a2.put (t := .ob (pK ps k x1)) e rfl h1 m2 ⟨p, _, putK ks k v1, rfl, m2, upd_same, .inr rfl, (rb.le f12.le).put (r1.le f2.le)⟩) q2
theorem le_getB {i : Nat} {b : DE} (q : liftE K C E (dGetB i b) σ H Q) : tGetB (tVar i) (liftE K C E b) σ H Q := by
  obtain ⟨c, P, at_, ⟨ps, e, h⟩, k⟩ := q
  obtain ⟨p, ho, ks, h1, m, hp, bo, rb⟩ := at_.ob e
  refine ⟨_, h1, c, _, at_, h, fun W1 H1 v1 x1 f1 o1 r1 ⟨kk, z, e1, eg, q1⟩ => ?_⟩
  subst e1
  rcases (rb.le f1.le).get (k := kk) with ⟨_, n⟩ | ⟨v, x, hv, hx, rv⟩
  · rw [n] at eg; cases eg
  · rw [hx] at eg
    obtain rfl := Option.some.inj eg
    refine ⟨p, kk, ks, v, rfl, rp_bl r1, ?_, hv, k W1 H1 v x f1 o1 rv q1⟩
    rcases bo with ⟨rfl, rfl⟩ | rfl
    · cases hv
    · exact f1.sH p _ hp m.d
end
/-- a tuple so many times -/
def dRepT : D2 := fun x y P => ∃ xs k, x = .tup xs ∧ y = .int k ∧ xs ≠ [] ∧ 2 ≤ k ∧ k ≤ 1000 ∧ xs.length ≤ 1000 ∧ P (.tup (List.replicate k.toNat xs).flatten)
theorem rpl_rep {K : PySem.W.Frag} {W : Wd} {vs : List V} {xs : List Dt} (r : RpL K W vs xs) : ∀ n : Nat, RpL K W (List.replicate n vs).flatten (List.replicate n xs).flatten
  | 0 => .nil
  | n + 1 => by
    rw [List.replicate_succ, List.replicate_succ, List.flatten_cons, List.flatten_cons]
    exact r.append (rpl_rep r n)
theorem o_repT {K : PySem.W.Frag} : Op2 K (rRepT K) dRepT := fun W H v1 x1 v2 x2 P Q o r1 r2 ⟨xs, k, e1, e2, hn, h2, h3, hz, q⟩ kk => by
  subst e1; subst e2
  obtain ⟨a, vs, rfl, hs, rs⟩ := rp_tup r1
  refine ⟨a, k, vs, rfl, rp_int r2, sqt (o.sF _ _ hs), fun e => ?_, h2, h3, by rw [rs.length]; exact hz, newT o (rpl_rep rs _) q kk⟩
  subst e; cases rs; exact hn rfl
theorem d_repT {n : Nat} {xs : List Dt} {P : Dt → Prop} (hn : xs ≠ []) (h2 : 2 ≤ n) (h3 : n ≤ 1000) (hz : xs.length ≤ 1000) (q : P (.tup (List.replicate n xs).flatten)) : dRepT (.tup xs) (nat n) P := ⟨xs, n, rfl, rfl, hn, by omega, by omega, hz, q⟩
theorem d_newB {X : DX} {ρ : Env} {D : DEnds} {i : Nat} (q : D.nx (ρ.set i (.ob []))) : dNewB i D X ρ := q
theorem d_putB {X : DX} {ρ : Env} {D : DEnds} {i : Nat} {b a : DE} (q : a X ρ fun x => ∃ ps, ρ[i]? = some (.ob ps) ∧ b X ρ fun y => ∃ k, y = .bl k ∧ ps.length ≤ 900 ∧ D.nx (ρ.set i (.ob (pK ps k x)))) : dPutB i b a D X ρ := q
theorem d_getB {X : DX} {ρ : Env} {P : Dt → Prop} {i : Nat} {b : DE} {ps : List (Bool × Dt)} (h : ρ[i]? = some (.ob ps)) (q : b X ρ fun y => ∃ k z, y = .bl k ∧ gK ps k = some z ∧ P z) : dGetB i b X ρ P := ⟨ps, h, q⟩
end Dx
end
section
/-! a lambda handed to what tells a refusal's word -/
namespace Dx
open PySem L2 RT Sx
def wordX (P : Dt → Prop) : DX := fun k xs => (k = 3 ∧ ∃ z, xs = [z] ∧ P (.tup [.str "side", z])) ∨ (k = 2 ∧ ∃ z, xs = [z] ∧ P (.tup [.str "turned", z]))
/-- own things are not seen from within -/
def disown : Sl → Sl
  | .v x => .v x
  | _ => .un
def dLamW (e : DE) : DE := fun _ ρ P => ∃ ns, ρ[0]? = some (.v (.scrT ns)) ∧ e (wordX P) (ρ.map disown) P
section
variable {K : PySem.W.Frag} {C : Ec} {E : XK} {σ : L2.St} {H : Hp} {Q : VK}
theorem frm_ext {W : Wd} {H H1 : Hp} (o : Ok K W H) (ht : ∀ b ps, H b = some (.tbl ps) → W.dl b) (x : LamX.ExtN H H1) (kp : ∀ b, H1 b = none → H b = none) : Frm W H W H1 := ⟨Wd.Le.refl W, fun p u hp nd => x p u hp fun ps z => nd (ht p ps (by rw [hp, z])), fun _ _ _ _ _ h => h, fun _ h => .inl h, kp⟩
end
end Dx
end
section
/-! more steps: pairs to two names, lambdas, dicts by truth values, types -/
namespace Dx
open PySem L2 RT Sx TL
section
variable {X : DX} {ρ : Env} {P : Dt → Prop} {PA : List Dt → Prop} {PB : Bool → Prop} {D : DEnds} {a b c e : DE} {t u : DT} {s r : DS} {x y : Dt} {i j l m n : Nat} {xs ys : List Dt} {v w : List Nat} {dA : DA}
theorem d_par (q : dA X ρ fun xs => ∃ x y, xs = [x, y] ∧ D.nx ((ρ.set i (.v x)).set j (.v y))) : dPar i j dA D X ρ := q
theorem d_par3 (q : dA X ρ fun xs => ∃ x y z, xs = [x, y, z] ∧ D.nx (((ρ.set i (.v x)).set j (.v y)).set l (.v z))) : dPar3 i j l dA D X ρ := q
theorem d_ex2 {A : Dt → Dt → Prop} (q : A x y) : ∃ x' y', [x, y] = [x', y'] ∧ A x' y' := ⟨x, y, rfl, q⟩
theorem d_ex3 {z : Dt} {A : Dt → Dt → Dt → Prop} (q : A x y z) : ∃ x' y' z', [x, y, z] = [x', y', z'] ∧ A x' y' z' := ⟨x, y, z, rfl, q⟩
theorem d_lamW {ns : List Int} (h : ρ[0]? = some (.v (.scrT ns))) (q : e (wordX P) (ρ.map disown) P) : dLamW e X ρ P := ⟨ns, h, q⟩
theorem wordX_side {z : Dt} (q : P (.tup [.str "side", z])) : wordX P 3 [z] := .inl ⟨rfl, z, rfl, q⟩
theorem wordX_turned {z : Dt} (q : P (.tup [.str "turned", z])) : wordX P 2 [z] := .inr ⟨rfl, z, rfl, q⟩
/-- what an expression tells, and what follows from just that -/
theorem d_cut (R : Dt → Prop) (h : ∀ M : Dt → Prop, (∀ x, R x → M x) → e X ρ M) (k : ∀ x, R x → P x) : e X ρ P := h P k
/-- a statement done, and what follows where nothing changed -/
theorem s_cut (h : ∀ N : Env → Prop, N ρ → s { D with nx := N } X ρ) (k : r D X ρ) : dSeq s r D X ρ := h _ k
/-- .. where just that much is known of what changed -/
theorem s_cutR (R : Env → Prop) (h : ∀ N : Env → Prop, (∀ ρ', R ρ' → N ρ') → s { D with nx := N } X ρ) (k : ∀ ρ', R ρ' → r D X ρ') : dSeq s r D X ρ := h _ k
theorem d_eqB {k l : Bool} (q : P (.bl (decide (k = l)))) : dEqS (.bl k) (.bl l) P := ⟨_, _, rfl, rfl, rfl, by
  rw [show decide (V.bl k = V.bl l) = decide (k = l) by congr 1; exact propext ⟨V.bl.inj, fun h => by rw [h]⟩]; exact q⟩
theorem d_isiI (q : P (.bl false)) : dIsi [nat n, .ty "str"] P := ⟨nat n, "int", "str", false, rfl, rfl, by decide +kernel, q⟩
theorem d_isiS {z : Str} (q : P (.bl true)) : dIsi [.str z, .ty "str"] P := ⟨.str z, "str", "str", true, rfl, rfl, by decide +kernel, q⟩
theorem d_exbl2 {A : Bool → Prop} {k : Bool} (q : A k) : ∃ k', Dt.bl k = .bl k' ∧ A k' := ⟨k, rfl, q⟩
theorem i_ifC {k : Bool} {F : Dt → Prop} (q : F (nat (if k then m else n))) : if k = true then dC (nat m) X ρ F else dC (nat n) X ρ F := by
  cases k <;> exact q
/-- a test and its value, both ways -/
theorem i_both {p : Prop} [Decidable p] {A B : Prop} (h : p → A) (h' : ¬ p → B) : if decide p = true then A else B := by
  by_cases e : p
  · rw [decide_eq_true e, if_pos rfl]; exact h e
  · rw [decide_eq_false e, if_neg Bool.false_ne_true]; exact h' e
end
section
variable {κ : Type} [DecidableEq κ] {ps : List (κ × Dt)} {k j : κ} {x : Dt}
theorem gK_mapp : gK (ps.map fun p => if p.1 = k then (p.1, x) else p) j = (gK ps j).map fun y => if j = k then x else y := by
  induction ps with
  | nil => rfl
  | cons p ps ih =>
    unfold gK at ih ⊢
    rw [List.map_cons, List.find?_cons, List.find?_cons]
    by_cases e : p.1 = j
    · subst e
      by_cases e2 : p.1 = k
      · simp [e2]
      · simp [e2]
    · have e3 : (if p.1 = k then (p.1, x) else p).1 = p.1 := by split <;> rfl
      rw [e3, decide_eq_false e]
      exact ih
theorem gK_any : (ps.any fun p => decide (p.1 = k)) = (gK ps k).isSome := by
  induction ps with
  | nil => rfl
  | cons p ps ih =>
    unfold gK at ih ⊢
    rw [List.any_cons, List.find?_cons]
    by_cases e : p.1 = k
    · simp [e]
    · rw [decide_eq_false e, Bool.false_or]; exact ih
theorem gK_snoc (h : gK ps k = none) : gK (ps ++ [(k, x)]) j = if j = k then some x else gK ps j := by
  induction ps with
  | nil =>
    unfold gK
    by_cases e : j = k
    · subst e; simp
    · simp [e, show ¬ k = j from fun z => e z.symm]
  | cons p ps ih =>
    unfold gK at ih h ⊢
    rw [List.cons_append, List.find?_cons, List.find?_cons]
    rw [List.find?_cons] at h
    by_cases e : p.1 = j
    · subst e
      by_cases e2 : p.1 = k
      · subst e2; simp at h
      · simp [e2]
    · rw [decide_eq_false e]
      refine ih ?_
      by_cases e2 : p.1 = k
      · simp [e2] at h
      · rw [decide_eq_false e2] at h; exact h
theorem gK_put : gK (pK ps k x) j = if j = k then some x else gK ps j := by
  unfold pK
  rw [gK_any]
  cases h : gK ps k with
  | none =>
    rw [if_neg (by simp)]
    exact gK_snoc h
  | some y =>
    rw [if_pos (by rfl), gK_mapp]
    by_cases e : j = k
    · subst e; rw [h, if_pos rfl]; simp
    · rw [if_neg e]
      cases gK ps j <;> simp [e]
theorem gK_put_self : gK (pK ps k x) k = some x := by rw [gK_put, if_pos rfl]
theorem gK_put_ne (h : j ≠ k) : gK (pK ps k x) j = gK ps j := by rw [gK_put, if_neg h]
theorem pK_len : (pK ps k x).length ≤ ps.length + 1 := by
  unfold pK
  split
  · rw [List.length_map]; omega
  · simp
end
theorem shD_rows {l : List (List Nat)} : shD (.tup (l.map rowD)) = true := by
  have h : ∀ l : List (List Nat), PyData.canLayAll0 (toPs (l.map rowD)) = true ∧ PyData.depthAll (toPs (l.map rowD)) ≤ 3 := by
    intro l
    induction l with
    | nil => simp [toPs, PyData.canLayAll0, PyData.depthAll]
    | cons r l ih =>
      obtain ⟨h1, h2⟩ := canLay_nats r
      have hs := shD_row r
      simp only [List.map_cons, toPs, PyData.canLayAll0, PyData.depthAll]
      unfold rowD at *
      simp only [toP, toPs_nats, PyData.canLay0, PyData.depth] at *
      refine ⟨by rw [h1, ih.1]; rfl, by omega⟩
  obtain ⟨h1, h2⟩ := h l
  show (PyData.canLay0 (.tuple _) && decide (PyData.depth (.tuple _) ≤ 64)) = true
  rw [Bool.and_eq_true]
  exact ⟨by simp only [PyData.canLay0]; exact h1, decide_eq_true (by simp only [PyData.depth]; omega)⟩
theorem any_row {l : List (List Nat)} {r : List Nat} : ((l.map rowD).any fun z => eqD z (rowD r)) = decide (r ∈ l) := by
  induction l with
  | nil => simp
  | cons a l ih =>
    rw [List.map_cons, List.any_cons, ih, eqD_row]
    by_cases h : a = r
    · rw [decide_eq_true h, Bool.true_or, decide_eq_true (by rw [h]; exact List.mem_cons_self)]
    · rw [decide_eq_false h, Bool.false_or]
      congr 1
      exact propext ⟨List.mem_cons_of_mem _, fun z => (List.mem_cons.mp z).elim (fun y => absurd y.symm h) id⟩
theorem d_inTR {l : List (List Nat)} {r : List Nat} {P : Dt → Prop} (q : P (.bl (decide (r ∈ l)))) : dInT (rowD r) (.tup (l.map rowD)) P := ⟨_, rfl, shD_row r, shD_rows, by rw [any_row]; exact q⟩
end Dx
end
section
/-! min of a list of pairs: a number and a row -/
namespace MinX
open PySem PySem.Spec PySem.W
section
variable {prog : Program} {w : World} {A : Around} {E : Value → Shared → Prop} {s : Shared}
theorem min_list_at {l : Addr} {vs : Array Value} {x : PyData} {xs : List PyData} {as : List Addr} {Q : Value → Shared → Prop} (hh : A.handled = none) (hl : s.heap.IsList l vs) (hr : ReadsAll s.heap vs.toList (x :: xs) as) (ha : AlikeAll (x :: xs)) (hu : A.units + 1 + PyData.depthAll (x :: xs) < cLine)
    (h : ∀ (i : Nat) v h' tk, vs[i]? = some v → (x :: xs).getD i .none = minD x xs → (∀ b o, s.heap.get? b = some o → h'.get? b = some o) → Q v { s with heap := h', toks := tk }) :
    wpAny (model prog w) A (call (.builtin "min") [.ref l]) Q E s := by
  have hn : vs.size = xs.length + 1 := readsAll_len hr
  refine call_min_walkH (iter_listW (A := A.in1) hh hl fun s₂ e W st hfp hw hk => ?_)
  refine ⟨_, _, _, _, _, _, _, s.heap, _, rfl, W, st, hfp, by omega, hw, hk, cmpIn_lt (A := A.in1) hr ha (by show A.units + 1 + _ < _; exact hu), fun v s' hP m => ?_⟩
  obtain ⟨h', tk, rfl, hk'⟩ := moved_old e rfl m
  have e1 : vs.size - 1 = xs.length := by omega
  have e2 := (argBest_fold dataLt PyData.none x xs xs.length (Nat.le_refl _)).2
  rw [List.take_length] at e2
  rw [e1] at hP
  exact h _ v h' tk hP e2 hk'
end
theorem minD_strict {y : PyData} : ∀ (xs : List PyData) (x : PyData), (∀ z ∈ x :: xs, z = y ∨ dataLt y z = true ∧ dataLt z y = false) → y ∈ x :: xs → minD x xs = y
  | [], x, _, m => (List.mem_singleton.mp m).symm
  | v :: vs, x, h, m => by
    show minD (if dataLt v x = true then v else x) vs = y
    have hv := h v (by simp)
    have hx := h x (by simp)
    by_cases e : x = y
    · subst e
      have : dataLt v x = false := by
        rcases hv with rfl | hv
        · exact dataLt_self _
        · exact hv.2
      rw [this]
      refine minD_strict vs x (fun z hz => h z ?_) List.mem_cons_self
      rcases List.mem_cons.mp hz with q | q
      · rw [q]; exact List.mem_cons_self
      · exact List.mem_cons_of_mem _ (List.mem_cons_of_mem _ q)
    · by_cases e2 : v = y
      · subst e2
        have : dataLt v x = true := (hx.resolve_left e).1
        rw [if_pos this]
        exact minD_strict vs v (fun z hz => h z (List.mem_cons_of_mem _ hz)) (by simp)
      · have hm : y ∈ vs := by
          rcases List.mem_cons.mp m with q | q
          · exact absurd q.symm e
          · rcases List.mem_cons.mp q with q | q
            · exact absurd q.symm e2
            · exact q
        refine minD_strict vs _ (fun z hz => ?_) (List.mem_cons_of_mem _ hm)
        rcases List.mem_cons.mp hz with q | q
        · rw [q]; split
          · exact hv
          · exact hx
        · exact h z (List.mem_cons_of_mem _ (List.mem_cons_of_mem _ q))
end MinX
namespace L2
open PySem PySem.Spec PyProof.Rows
open PySem.W (AlikeAll minD)
def rMinP (K : PySem.W.Frag) : List V → Hp → VK → Prop := fun vs H Q => ∃ (a : Addr) (xs : List V) (d : PyData) (ds : List PyData), vs = [.ref a] ∧ SqL K H a xs ∧ DpAll K H xs (d :: ds) ∧ AlikeAll (d :: ds) ∧ PyData.depthAll (d :: ds) ≤ 60 ∧
  ∀ (i : Nat) (x : V), xs[i]? = some x → (d :: ds).getD i .none = minD d ds → Q x H
theorem call_minP {X : Cx} (hu : X.A.units + 64 < cLine) (hc : X.calm = true := by rfl) : CallR X (.builtin "min") (rMinP X.K) := by
  intro pins s σ H vs us Q I r h
  obtain ⟨a, xs, d, ds, rfl, hs, hd, ha, hz, q⟩ := h
  obtain ⟨its, rv, hl, _⟩ := I.list hs
  rw [Vals.ref1 r]
  obtain ⟨as, hr⟩ := Dp.readsAll I _ _ _ hd rv
  refine MinX.min_list_at (I.ok.hd hc) hl.isList (as := as) (vs := its.toArray) (show ReadsAll s.heap its (d :: ds) as from hr) ha (by omega) fun i v h' tk hv e hk => ?_
  have hl2 := rv.length
  have hi : i < its.length := by
    have := (Array.getElem?_eq_some_iff.mp hv).1
    simpa using this
  obtain ⟨x, hx⟩ : ∃ x, xs[i]? = some x := ⟨_, List.getElem?_eq_getElem (by omega)⟩
  obtain ⟨u, hu', ru⟩ := rv.get hx
  have : v = u := by
    have e2 : its.toArray[i]? = its[i]? := by simp
    rw [e2, hu'] at hv
    exact (Option.some.inj hv).symm
  subst this
  exact ⟨x, H, I.kept (t' := tk) hk, ru, q i x hx e⟩
end L2
namespace Dx
open PySem L2 RT Sx
open PySem.W (alike alikeAll dataLt minD dataLt_pair dataLt_int dataLt_self)
def pairD (p : Nat × List Nat) : Dt := .tup [nat p.1, .tup (p.2.map nat)]
/-- min of such a list, where one has the least number by itself -/
def dMinP : DL := fun xs P => ∃ (ys : List (Nat × List Nat)) (y : Nat × List Nat), xs = [.lst (ys.map pairD)] ∧ y ∈ ys ∧ (∀ p ∈ ys, p = y ∨ y.1 < p.1) ∧ P (pairD y)
theorem toP_pair (p : Nat × List Nat) : toP (pairD p) = .tuple [.int (p.1 : Int), .tuple (p.2.map fun k : Nat => PyData.int (k : Int))] := by
  show PyData.tuple (toPs [nat p.1, .tup (p.2.map nat)]) = _
  rw [toPs_eq]
  show PyData.tuple [.int (p.1 : Int), .tuple (toPs (p.2.map nat))] = _
  rw [toPs_eq, List.map_map]
  rfl
theorem alike_ints : ∀ xs ys : List Nat, alikeAll (xs.map fun k : Nat => PyData.int (k : Int)) (ys.map fun k : Nat => PyData.int (k : Int)) = true
  | [], _ => rfl
  | _ :: _, [] => rfl
  | x :: xs, y :: ys => by
    show (alike (.int x) (.int y) && alikeAll (xs.map fun k : Nat => PyData.int (k : Int)) (ys.map fun k : Nat => PyData.int (k : Int))) = true
    rw [alike_ints xs ys]; rfl
theorem pair_alike (p q : Nat × List Nat) : alike (toP (pairD p)) (toP (pairD q)) = true := by
  rw [toP_pair, toP_pair]
  show (alike (.int p.1) (.int q.1) && (alikeAll (p.2.map fun k : Nat => PyData.int (k : Int)) (q.2.map fun k : Nat => PyData.int (k : Int)) && alikeAll [] [])) = true
  rw [alike_ints]; rfl
theorem pair_lt {p q : Nat × List Nat} (h : p.1 ≠ q.1) : dataLt (toP (pairD p)) (toP (pairD q)) = decide (p.1 < q.1) := by
  rw [toP_pair, toP_pair, dataLt_pair (by rfl) (by show alikeAll _ _ = true; exact alike_ints _ _), dataLt_int]
  have e : PyData.eqv (.int (p.1 : Int)) (.int (q.1 : Int)) = false := by
    show (((p.1 : Int)) == ((q.1 : Int))) = false
    rw [beq_eq_false_iff_ne]
    omega
  rw [e, if_neg Bool.false_ne_true]
  by_cases z : p.1 < q.1
  · rw [decide_eq_true z, decide_eq_true (by omega)]
  · rw [decide_eq_false z, decide_eq_false (by omega)]
theorem depth_ints : ∀ xs : List Nat, PyData.depthAll (xs.map fun k : Nat => PyData.int (k : Int)) ≤ 1
  | [] => by show PyData.depthAll [] ≤ 1; decide
  | x :: xs => by
    show max (PyData.depth (.int x)) (PyData.depthAll (xs.map fun k : Nat => PyData.int (k : Int))) ≤ 1
    have := depth_ints xs
    have h2 : PyData.depth (.int (x : Int)) ≤ 1 := by show (_ : Nat) ≤ 1; first | decide | exact Nat.le_refl _ | simp [PyData.depth]
    omega
theorem pair_depth (p : Nat × List Nat) : (toP (pairD p)).depth ≤ 10 := by
  rw [toP_pair]
  have := depth_ints p.2
  simp only [PyData.depth, PyData.depthAll]
  omega
theorem depth_all : ∀ ys : List (Nat × List Nat), PyData.depthAll (toPs (ys.map pairD)) ≤ 10
  | [] => by show PyData.depthAll [] ≤ 10; decide
  | y :: ys => by
    show max (toP (pairD y)).depth (PyData.depthAll (toPs (ys.map pairD))) ≤ 10
    have := depth_all ys
    have := pair_depth y
    omega
theorem pair_lay (p : Nat × List Nat) : (toP (pairD p)).canLay0 = true := by
  rw [toP_pair]
  have h : ∀ xs : List Nat, PyData.canLayAll0 (xs.map fun k : Nat => PyData.int (k : Int)) = true := by
    intro xs
    induction xs with
    | nil => rfl
    | cons x xs ih => show (PyData.canLay0 (.int x) && _) = true; rw [ih]; rfl
  show (PyData.canLay0 (.int (p.1 : Int)) && (PyData.canLayAll0 (p.2.map fun k : Nat => PyData.int (k : Int)) && PyData.canLayAll0 [])) = true
  rw [h]; rfl
theorem o_minP {K : PySem.W.Frag} : OpL K (rMinP K) dMinP := fun W H vs xs P Q o r ⟨ys, y, e, hm, hl, q⟩ k => by
  subst e
  obtain ⟨v, rfl, r1⟩ := rpl1 r
  obtain ⟨a, us, rfl, hs, rs⟩ := rp_lst r1
  cases ys with
  | nil => cases hm
  | cons z zs =>
    have lay : PyData.canLayAll0 (toPs ((z :: zs).map pairD)) = true := by
      have : ∀ l : List (Nat × List Nat), PyData.canLayAll0 (toPs (l.map pairD)) = true := by
        intro l
        induction l with
        | nil => rfl
        | cons p l ih => show (PyData.canLay0 (toP (pairD p)) && _) = true; rw [pair_lay]; exact ih
      exact this _
    have dp := dps_of o.sF rs lay
    have em : toPs ((z :: zs).map pairD) = toP (pairD z) :: zs.map fun p => toP (pairD p) := by
      rw [toPs_eq, List.map_map]; rfl
    refine ⟨a, us, toP (pairD z), zs.map fun p => toP (pairD p), rfl, sql (o.sF _ _ hs), by rw [← em]; exact dp, ⟨fun x hx w hw => ?_, fun x hx => ?_⟩, by rw [← em]; exact Nat.le_trans (depth_all _) (by decide), fun i x hx e => ?_⟩
    · rw [← em, toPs_eq, List.map_map] at hx hw
      obtain ⟨p, _, rfl⟩ := List.mem_map.mp hx
      obtain ⟨p', _, rfl⟩ := List.mem_map.mp hw
      exact pair_alike p p'
    · rw [← em, toPs_eq, List.map_map] at hx
      obtain ⟨p, _, rfl⟩ := List.mem_map.mp hx
      show toP (pairD p) ≠ .none
      rw [toP_pair]; exact fun z => nomatch z
    · have me : minD (toP (pairD z)) (zs.map fun p => toP (pairD p)) = toP (pairD y) := by
        refine MinX.minD_strict _ _ (fun w hw => ?_) ?_
        · rw [← em, toPs_eq, List.map_map] at hw
          obtain ⟨p, hp, rfl⟩ := List.mem_map.mp hw
          rcases hl p hp with rfl | lt
          · exact .inl rfl
          · refine .inr ⟨?_, ?_⟩
            · show dataLt (toP (pairD y)) (toP (pairD p)) = true
              rw [pair_lt (Nat.ne_of_lt lt), decide_eq_true lt]
            · show dataLt (toP (pairD p)) (toP (pairD y)) = false
              rw [pair_lt (Nat.ne_of_gt lt), decide_eq_false (by omega)]
        · rw [← em, toPs_eq, List.map_map]
          exact List.mem_map.mpr ⟨y, hm, rfl⟩
      rw [me] at e
      obtain ⟨p, hp, rp⟩ := rs.getV hx
      obtain ⟨p', hp', rfl⟩ := List.mem_map.mp (List.mem_of_getElem? hp)
      have e3 : toP (pairD p') = toP (pairD y) := by
        rw [← e, ← em, toPs_eq, List.getD_eq_getElem?_getD, List.getElem?_map, hp]; rfl
      have : p' = y := by
        rcases hl p' hp' with h | h
        · exact h
        · have := pair_lt (p := y) (q := p') (Nat.ne_of_lt h)
          rw [e3, dataLt_self, decide_eq_true h] at this
          cases this
      subst this
      exact k W H _ _ (Frm.refl _ _) o rp q
theorem d_minP {ys : List (Nat × List Nat)} {y : Nat × List Nat} {P : Dt → Prop} (hm : y ∈ ys) (h : ∀ p ∈ ys, p = y ∨ y.1 < p.1) (q : P (pairD y)) : dMinP [.lst (ys.map pairD)] P := ⟨ys, y, rfl, hm, h, q⟩
end Dx
end
section
/-! x, y = new list, new list; x in one's own list -/
namespace Dx
open PySem L2 RT Sx
def dParN (i j : Nat) (a b : DN) : DS := fun D X ρ => a X ρ fun xs => b X ρ fun ys => D.nx ((ρ.set i (.ol xs)).set j (.ol ys))
section
variable {K : PySem.W.Frag} {C : Ec} {E : XK} {σ : L2.St} {H : Hp} {Q : VK} {D : Ends} {W : Wd}
theorem Cn.At.newOwn {c : Cn} {p : Addr} (a : c.At K C E σ H) (n : ∀ (j : Nat) (t : Sl), c.ρ[j]? = some t → own t = true → σ[j]? ≠ some (some (.ref p))) (i : Nat) {vs : List V} {xs : List Dt} (m : Mine c.Hin c.W p) (h : H p = some (.lst vs)) (r : RpL K c.W vs xs) :
    Cn.At K C E { c with ρ := c.ρ.set i (.ol xs) } (σ.set i (some (.ref p))) H :=
  ⟨a.lk.setOwn i ⟨p, vs, rfl, m, h, r⟩ fun j t e1 e2 ne => n j t e1 e2, a.fr, a.el, a.lo⟩
theorem own_ne {c : Cn} {p : Addr} (a : c.At K C E σ H) (n : ∀ o, H p = some o → False) (j : Nat) (t : Sl) (e1 : c.ρ[j]? = some t) (e2 : own t = true) : σ[j]? ≠ some (some (.ref p)) := fun e3 => by
  obtain ⟨w, h1, h2⟩ := a.lk.sl j t e1
  rw [h1] at e3
  obtain rfl := Option.some.inj e3
  cases t with
  | un => cases e2
  | v x => cases e2
  | pk u => cases e2
  | ol ys =>
    obtain ⟨q, us, z, _, hq, _⟩ := h2
    obtain rfl := V.ref.inj (Option.some.inj z)
    exact n _ hq
  | od ps =>
    obtain ⟨q, us, z, _, hq, _⟩ := h2
    obtain rfl := V.ref.inj (Option.some.inj z)
    exact n _ hq
  | ob ps =>
    obtain ⟨q, us, ks, z, _, hq, _⟩ := h2
    obtain rfl := V.ref.inj (Option.some.inj z)
    exact n _ hq
theorem ls_parN {i j : Nat} {a b : DN} (q : liftS K C E (dParN i j a b) D σ H) : tPar i j (tCons (liftN K C E a) (tCons (liftN K C E b) tNil)) D σ H := by
  obtain ⟨c, DD, at_, en, h⟩ := q
  refine ⟨c, _, at_, h, fun W1 H1 p vs xs f o n nf nd e r q1 => ?_⟩
  have a1 := at_.frm f o
  refine ⟨{ c with W := W1 }, _, a1, q1, fun W2 H2 p2 vs2 xs2 f2 o2 n2 nf2 nd2 e2 r2 q2 => ⟨_, _, rfl, ?_⟩⟩
  have a2 := at_.frm (f.trans f2) o2
  have ne : p ≠ p2 := ne_new n2 e
  have m1 : Mine c.Hin W2 p := ⟨f2.nF p _ e nd trivial nf, at_.fr.kp p n, f2.ndl e nd⟩
  have m2 : Mine c.Hin W2 p2 := ⟨nf2, at_.fr.kp p2 (f.kp p2 n2), nd2⟩
  have hp : H2 p = some (.lst vs) := f2.sH p _ e nd
  -- none of the slots holds either of the two
  have o1 : ∀ (j : Nat) (t : Sl), c.ρ[j]? = some t → own t = true → σ[j]? ≠ some (some (.ref p)) := own_ne at_ fun o z => by rw [n] at z; cases z
  have o2' : ∀ (j : Nat) (t : Sl), c.ρ[j]? = some t → own t = true → σ[j]? ≠ some (some (.ref p2)) := own_ne at_ fun o z => by rw [f.kp p2 n2] at z; cases z
  have a3 := a2.newOwn (c := { c with W := W2 }) o1 i m1 hp (r.le f2.le)
  have a4 := a3.newOwn (c := { c with W := W2, ρ := c.ρ.set i (.ol xs) }) (fun k t e1 e3 z => by
    rcases set_get e1 with ⟨rfl, rfl⟩ | ⟨nk, e1⟩
    · have hl : i < σ.length := by
        rcases Nat.lt_or_ge i σ.length with y | y
        · exact y
        · rw [List.set_eq_of_length_le y, List.getElem?_eq_none y] at z; cases z
      rw [List.getElem?_set_self hl] at z
      exact ne (V.ref.inj (Option.some.inj (Option.some.inj z)))
    · rw [List.getElem?_set_ne nk] at z
      exact o2' k t e1 e3 z) j m2 e2 r2
  exact en.nx W2 _ _ H2 ⟨a4.lk, a4.fr, a4.el, a4.lo⟩ q2
theorem ls_parNT {i j : Nat} {a b : DN} (q : liftS K C E (dParN i j a b) D σ H) : tAsg (tTup (tCons (liftN K C E a) (tCons (liftN K C E b) tNil))) (gOf K (.tp [.nm i, .nm j])) D σ H := by
  obtain ⟨c, DD, at_, en, h⟩ := q
  unfold gOf gsOf gsOf gsOf gOf
  refine ⟨c, _, at_, h, fun W1 H1 p vs xs f o n nf nd e r q1 => ?_⟩
  have a1 := at_.frm f o
  refine ⟨{ c with W := W1 }, _, a1, q1, fun W2 H2 p2 vs2 xs2 f2 o2 n2 nf2 nd2 e2 r2 q2 => ⟨by show 2 ≤ sizeLine; decide, fun T nT => ?_⟩⟩
  have ne : p ≠ p2 := ne_new n2 e
  have hT : upd H2 T (.tup [.ref p, .ref p2]) T = some (.tup [.ref p, .ref p2]) := upd_same
  refine ⟨T, [.ref p, .ref p2], rfl, sqt hT, rfl, ?_⟩
  have f3 : Frm W2 H2 W2 (upd H2 T (.tup [.ref p, .ref p2])) := Frm.laid nT
  have o3 : Ok K W2 (upd H2 T (.tup [.ref p, .ref p2])) := o2.laid nT
  have a2 := at_.frm ((f.trans f2).trans f3) o3
  have m1 : Mine c.Hin W2 p := ⟨f2.nF p _ e nd trivial nf, at_.fr.kp p n, f2.ndl e nd⟩
  have m2 : Mine c.Hin W2 p2 := ⟨nf2, at_.fr.kp p2 (f.kp p2 n2), nd2⟩
  have hp : upd H2 T (.tup [.ref p, .ref p2]) p = some (.lst vs) := f3.sH p _ (f2.sH p _ e nd) (f2.ndl e nd)
  have hp2 : upd H2 T (.tup [.ref p, .ref p2]) p2 = some (.lst vs2) := f3.sH p2 _ e2 nd2
  have o1 : ∀ (j : Nat) (t : Sl), c.ρ[j]? = some t → own t = true → σ[j]? ≠ some (some (.ref p)) := own_ne at_ fun o z => by rw [n] at z; cases z
  have o2' : ∀ (j : Nat) (t : Sl), c.ρ[j]? = some t → own t = true → σ[j]? ≠ some (some (.ref p2)) := own_ne at_ fun o z => by rw [f.kp p2 n2] at z; cases z
  have a3 := a2.newOwn (c := { c with W := W2 }) o1 i m1 hp (r.le f2.le)
  have a4 := a3.newOwn (c := { c with W := W2, ρ := c.ρ.set i (.ol xs) }) (fun k t e1 e3 z => by
    rcases set_get e1 with ⟨rfl, rfl⟩ | ⟨nk, e1⟩
    · have hl : i < σ.length := by
        rcases Nat.lt_or_ge i σ.length with y | y
        · exact y
        · rw [List.set_eq_of_length_le y, List.getElem?_eq_none y] at z; cases z
      rw [List.getElem?_set_self hl] at z
      exact ne (V.ref.inj (Option.some.inj (Option.some.inj z)))
    · rw [List.getElem?_set_ne nk] at z
      exact o2' k t e1 e3 z) j m2 hp2 r2
  refine ⟨_, _, rfl, ⟨_, _, rfl, ⟨rfl, ?_⟩⟩⟩
  exact en.nx W2 _ _ _ ⟨a4.lk, a4.fr, a4.el, a4.lo⟩ q2
end
/-- x in one's own list -/
def dInLO (ng : Bool) (a : DE) (i : Nat) : DE := fun X ρ P => a X ρ fun x => ∃ ys, ρ[i]? = some (.ol ys) ∧ shD x = true ∧ shD (.lst ys) = true ∧ P (.bl (ng != ys.any fun z => eqD z x))
section
variable {K : PySem.W.Frag} {C : Ec} {E : XK} {σ : L2.St} {H : Hp} {Q : VK} {D : Ends} {W : Wd} {X : Cx}
theorem le_notinO {a : DE} {i : Nat} (q : liftE K C E (dInLO true a i) σ H Q) : tOp (rNotInD K) (liftE K C E a) (tVar i) σ H Q := by
  obtain ⟨c, P, at_, h, k⟩ := q
  refine ⟨c, _, at_, h, fun W1 H1 v1 x1 f1 o1 r1 ⟨ys, e, h1, h2, q1⟩ => ?_⟩
  have a1 := at_.frm f1 o1
  obtain ⟨p, vs, e1, m, hp, r⟩ := a1.ol e
  have h2' : SeqAt.shaped (.list (toPs ys)) = true := h2
  refine ⟨_, e1, toP x1, toPs ys, dp_of o1.sF r1 (.inl h1), .lst (sql hp) (dps_of o1.sF r (Bool.and_eq_true _ _ ▸ h2' : _ ∧ _).1), h1, h2', by
    rw [any_toPs]
    have := k W1 H1 _ _ f1 o1 (.bl _) q1
    rw [Bool.true_bne] at this
    exact this⟩
theorem le_inLO {a : DE} {i : Nat} (q : liftE K C E (dInLO false a i) σ H Q) : tOp (rInD K) (liftE K C E a) (tVar i) σ H Q := by
  obtain ⟨c, P, at_, h, k⟩ := q
  refine ⟨c, _, at_, h, fun W1 H1 v1 x1 f1 o1 r1 ⟨ys, e, h1, h2, q1⟩ => ?_⟩
  have a1 := at_.frm f1 o1
  obtain ⟨p, vs, e1, m, hp, r⟩ := a1.ol e
  have h2' : SeqAt.shaped (.list (toPs ys)) = true := h2
  refine ⟨_, e1, toP x1, toPs ys, dp_of o1.sF r1 (.inl h1), .lst (sql hp) (dps_of o1.sF r (Bool.and_eq_true _ _ ▸ h2' : _ ∧ _).1), h1, h2', by
    rw [any_toPs]
    have := k W1 H1 _ _ f1 o1 (.bl _) q1
    rw [Bool.false_bne] at this
    exact this⟩
theorem tinO {e : Expr} {p : Pos} {i : Nat} {b : Expr} {da : DE} (hb : OpR X (compareOp .In) (rInD X.K)) (ha : PE X e (liftE X.K C E da)) (hv : PE X b (tVar i)) (hm : behindInMarks .In b = false) : PT X (.Compare e [.In] [b] p) (liftT X.K C E (dB (dInLO false da i))) :=
  PT.imp (pt_cmpR hb ha hv hm) fun _ _ _ q => le_inLO (le_B q)
theorem tnotinO {e : Expr} {p : Pos} {i : Nat} {b : Expr} {da : DE} (hb : OpR X (compareOp .NotIn) (rNotInD X.K)) (ha : PE X e (liftE X.K C E da)) (hv : PE X b (tVar i)) (hm : behindInMarks .NotIn b = false) : PT X (.Compare e [.NotIn] [b] p) (liftT X.K C E (dB (dInLO true da i))) :=
  PT.imp (pt_cmpR hb ha hv hm) fun _ _ _ q => le_notinO (le_B q)
end
theorem d_inLO {X : DX} {ρ : Env} {P : Dt → Prop} {ng : Bool} {a : DE} {i : Nat} (q : a X ρ fun x => ∃ ys, ρ[i]? = some (.ol ys) ∧ shD x = true ∧ shD (.lst ys) = true ∧ P (.bl (ng != ys.any fun z => eqD z x))) : dInLO ng a i X ρ P := q
/-- sorted ints -/
def dSortI (a : DA) : DN := fun X ρ P => a X ρ fun xs => ∃ ns : List Int, xs = [.lst (ns.map Dt.int)] ∧ ∀ ms : List Int, ms.Perm ns → ms.Pairwise (· ≤ ·) → P (ms.map Dt.int)
theorem le_sortI {K : PySem.W.Frag} {C : Ec} {E : XK} {σ : L2.St} {H : Hp} {Q : VK} {a : DA} (q : liftN K C E (dSortI a) σ H Q) : tCB (rSortedI K) (liftA K C E a) σ H Q := by
  obtain ⟨c, P, at_, h, k⟩ := q
  refine ⟨c, _, at_, h, fun W1 H1 v1 x1 f1 o1 r1 ⟨ns, e, q1⟩ => ?_⟩
  subst e
  obtain ⟨v, rfl, rv⟩ := rpl1 r1
  obtain ⟨a, vs, rfl, hs, rs⟩ := rp_lst rv
  obtain rfl := RpL.of_ints rs
  refine ⟨a, ns, rfl, sql (o1.sF _ _ hs), fun ms p h1 h2 n => ?_⟩
  exact k W1 _ p _ _ (f1.trans (Frm.laid n)) (o1.laid n) (f1.kp p n) (o1.fr n) (o1.dice_ne n) upd_same RpL.ints (q1 ms h1 h2)
theorem nsortI {X : Cx} {C : Ec} {E : XK} {e : Expr} {dA : DA} (h : PE X e (tCB (rSortedI X.K) (liftA X.K C E dA))) : PE X e (liftN X.K C E (dSortI dA)) := PE.imp h fun _ _ _ => le_sortI
theorem d_sortI {X : DX} {ρ : Env} {P : List Dt → Prop} {a : DA} (q : a X ρ fun xs => ∃ ns : List Int, xs = [.lst (ns.map Dt.int)] ∧ ∀ ms : List Int, ms.Perm ns → ms.Pairwise (· ≤ ·) → P (ms.map Dt.int)) : dSortI a X ρ P := q
theorem d_parN {X : DX} {ρ : Env} {D : DEnds} {i j : Nat} {a b : DN} (q : a X ρ fun xs => b X ρ fun ys => D.nx ((ρ.set i (.ol xs)).set j (.ol ys))) : dParN i j a b D X ρ := q
end Dx
end
section
/-! steps: two walked side by side, own dicts by rows, comprehensions over what comes of a list -/
namespace Dx
open PySem L2 RT Sx
section
variable {X : DX} {ρ : Env} {D : DEnds} {PA : List Dt → Prop} {e : DE} {t : DT} {p : Pt} {ρ0 : Env}
theorem d_enumZ {a : DA} (q : a X ρ fun xs => ∃ ys zs, xs = [.lst ys, .lst zs] ∧ PA ((List.range (min ys.length zs.length)).zipWith (fun i y => .tup [nat i, y]) (ys.zipWith (fun y z => .tup [y, z]) zs))) : dEnumZ a X ρ PA := q
theorem d_zipX {a : DA} (q : a X ρ fun xs => ∃ ys zs, xs = [.ktup ys, .lst zs] ∧ PA (ys.zipWith (fun y z => .tup [y, z]) zs)) : dZipX a X ρ PA := q
theorem enumZ_get {ys zs : List Dt} {i : Nat} {x : Dt} (h : ((List.range (min ys.length zs.length)).zipWith (fun i y => Dt.tup [nat i, y]) (ys.zipWith (fun y z => .tup [y, z]) zs))[i]? = some x) : ∃ y z, ys[i]? = some y ∧ zs[i]? = some z ∧ x = .tup [nat i, .tup [y, z]] := by
  rw [List.getElem?_zipWith, List.getElem?_zipWith] at h
  cases hy : ys[i]? with
  | none => rw [hy] at h; split at h <;> simp_all
  | some y =>
    cases hz : zs[i]? with
    | none => rw [hy, hz] at h; split at h <;> simp_all
    | some z =>
      rw [hy, hz] at h
      have h1 := (List.getElem?_eq_some_iff.mp hy).1
      have h2 := (List.getElem?_eq_some_iff.mp hz).1
      rw [List.getElem?_range (by omega)] at h
      exact ⟨y, z, rfl, rfl, (Option.some.inj h).symm⟩
theorem enumZ_len {ys zs : List Dt} : ((List.range (min ys.length zs.length)).zipWith (fun i y => Dt.tup [nat i, y]) (ys.zipWith (fun y z => .tup [y, z]) zs)).length = min ys.length zs.length := by
  rw [List.length_zipWith, List.length_range, List.length_zipWith, Nat.min_self]
theorem zip_get {ys zs : List Dt} {i : Nat} {x : Dt} (h : (ys.zipWith (fun y z => Dt.tup [y, z]) zs)[i]? = some x) : ∃ y z, ys[i]? = some y ∧ zs[i]? = some z ∧ x = .tup [y, z] := by
  rw [List.getElem?_zipWith] at h
  cases hy : ys[i]? with
  | none => rw [hy] at h; simp_all
  | some y =>
    cases hz : zs[i]? with
    | none => rw [hy, hz] at h; simp_all
    | some z =>
      rw [hy, hz] at h
      exact ⟨y, z, rfl, rfl, (Option.some.inj h).symm⟩
theorem map_get {α : Type} {l : List α} {f : α → Dt} {i : Nat} {x : Dt} (h : (l.map f)[i]? = some x) : ∃ a, l[i]? = some a ∧ x = f a := by
  rw [List.getElem?_map] at h
  cases e : l[i]? with
  | none => rw [e] at h; cases h
  | some a => rw [e] at h; exact ⟨a, rfl, (Option.some.inj h).symm⟩
theorem d_compA {α : Type} (l : List α) (f g : α → Dt) (h : ∀ a ∈ l, ∀ N : Dt → Prop, N (g a) → bindD p (f a) ρ0 fun ρ => e X ρ N) {acc : List Dt} (hl : acc.length + l.length ≤ 100000) (q : PA (acc ++ l.map g)) :
    dComp p dYes e ρ0 X (l.map f) acc PA := by
  induction l generalizing acc with
  | nil => rw [List.map_nil, List.append_nil] at q; exact q
  | cons x xs ih =>
    simp only [List.length_cons] at hl
    have h1 := h x List.mem_cons_self (fun y => acc.length ≤ 100000 ∧ dComp p dYes e ρ0 X (xs.map f) (acc ++ [y]) PA) ⟨by omega, ih (fun y hy => h y (List.mem_cons_of_mem _ hy)) (by simp; omega) (by simpa using q)⟩
    have e1 : (fun ρ => dYes X ρ fun k => if k = true then e X ρ fun y => acc.length ≤ 100000 ∧ dComp p dYes e ρ0 X (xs.map f) (acc ++ [y]) PA else dComp p dYes e ρ0 X (xs.map f) acc PA) = fun ρ => e X ρ fun y => acc.length ≤ 100000 ∧ dComp p dYes e ρ0 X (xs.map f) (acc ++ [y]) PA := by
      funext ρ
      unfold dYes
      exact if_pos rfl
    show bindD p (f x) ρ0 (fun ρ => dYes X ρ fun k => if k = true then e X ρ fun y => acc.length ≤ 100000 ∧ dComp p dYes e ρ0 X (xs.map f) (acc ++ [y]) PA else dComp p dYes e ρ0 X (xs.map f) acc PA)
    rw [e1]; exact h1
theorem d_compB {α : Type} (l : List α) (f : α → Dt) (b : α → Bool) (g : α → Dt) (h : ∀ a ∈ l, ∀ N : Option Dt → Prop, N (if b a = true then some (g a) else none) → bindD p (f a) ρ0 fun ρ => t X ρ fun k => if k = true then e X ρ fun y => N (some y) else N none) {acc : List Dt} (hl : acc.length + l.length ≤ 100000) (q : PA (acc ++ (l.filter b).map g)) :
    dComp p t e ρ0 X (l.map f) acc PA := by
  induction l generalizing acc with
  | nil => rw [List.filter_nil, List.map_nil, List.append_nil] at q; exact q
  | cons x xs ih =>
    simp only [List.length_cons] at hl
    refine h x List.mem_cons_self (fun o => match o with | some y => acc.length ≤ 100000 ∧ dComp p t e ρ0 X (xs.map f) (acc ++ [y]) PA | none => dComp p t e ρ0 X (xs.map f) acc PA) ?_
    have h' : ∀ y ∈ xs, ∀ N : Option Dt → Prop, N (if b y = true then some (g y) else none) → bindD p (f y) ρ0 fun ρ => t X ρ fun k => if k = true then e X ρ fun y => N (some y) else N none := fun y hy => h y (List.mem_cons_of_mem _ hy)
    rw [List.filter_cons] at q
    by_cases e1 : b x = true
    · rw [if_pos e1] at q ⊢
      exact ⟨by omega, ih h' (by simp; omega) (by simpa using q)⟩
    · rw [if_neg e1] at q ⊢
      exact ih h' (by omega) q
theorem d_truO {i : Nat} {l : List Dt} {QB : Bool → Prop} (h : ρ[i]? = some (.v (.lst l))) (q : QB (!l.isEmpty)) : dTru (dVar i) X ρ QB := ⟨_, h, .inl ⟨l, rfl, q⟩⟩
theorem d_catLL {a b : DE} (q : a X ρ fun x => b X ρ fun y => ∃ xs ys, x = .lst xs ∧ y = .lst ys ∧ xs.length + ys.length ≤ 100000 ∧ PA (xs ++ ys)) : dCatL a b X ρ PA := q
theorem d_putO {i : Nat} {bb aa : DE} {xs : List Dt} (h : ρ[i]? = some (.ol xs)) (q : aa X ρ fun x => bb X ρ fun y => ∃ k j, y = .int k ∧ ixN xs.length k = some j ∧ D.nx (ρ.set i (.ol (xs.set j x)))) : dPutO i bb aa D X ρ := ⟨xs, h, q⟩
theorem d_frzD {i : Nat} {x : Dt} {t : DS} (h : ρ[i]? = some (.od x)) (q : t D X (ρ.set i (.v x))) : dFrzD i t D X ρ := ⟨x, h, q⟩
end
/-- a row as a key -/
def keyR (g : List Nat) : List Key := g.map fun k : Nat => Sum.inl (k : Int)
theorem keyR_D (g : List Nat) : (keyR g).map keyD = g.map nat := by unfold keyR; rw [List.map_map]; rfl
theorem keyR_inj : ∀ {g h : List Nat}, keyR g = keyR h → g = h
  | [], [], _ => rfl
  | [], _ :: _, e => by cases e
  | _ :: _, [], e => by cases e
  | a :: g, b :: h, e => by
    have e1 := (List.cons.inj e).1
    have e2 : (a : Int) = b := Sum.inl.inj e1
    rw [show a = b by omega, keyR_inj (List.cons.inj e).2]
def headE (g : List Nat) : List Key × Dt := (keyR g, .bl true)
theorem pK_heads {ks : List (List Nat)} {g : List Nat} : pK (ks.map headE) (keyR g) (.bl true) = (if g ∈ ks then ks else ks ++ [g]).map headE := by
  have ha : ((ks.map headE).any fun p => decide (p.1 = keyR g)) = decide (g ∈ ks) := by
    rw [Bool.eq_iff_iff, List.any_eq_true, decide_eq_true_iff]
    constructor
    · rintro ⟨p, hp, e⟩
      obtain ⟨h, hh, rfl⟩ := List.mem_map.mp hp
      rw [← keyR_inj (of_decide_eq_true e)]; exact hh
    · intro h
      exact ⟨_, List.mem_map.mpr ⟨g, h, rfl⟩, decide_eq_true rfl⟩
  unfold pK
  rw [ha]
  by_cases h : g ∈ ks
  · rw [if_pos (decide_eq_true h), if_pos h, List.map_map]
    refine List.map_congr_left fun k _ => ?_
    show (if (headE k).1 = keyR g then ((headE k).1, Dt.bl true) else headE k) = headE k
    split <;> rfl
  · rw [if_neg (by rw [decide_eq_true_iff]; exact h), if_neg h, List.map_append]
    rfl
theorem plB_two {n : Nat} {a b : Dt} (h1 : plB n a = true) (h2 : plB n b = true) : plB (n + 1) (.tup [a, b]) = true := by
  show (decide ([a, b].length ≤ 100000) && (plB n a && (plB n b && true))) = true
  rw [h1, h2]; rfl
theorem plB_nil {n : Nat} : plB (n + 1) (.lst []) = true := rfl
theorem eqD_self {n : Nat} {x : Dt} (h : plB n x = true) : eqD x x = true := PySem.SeqAt.eqv_refl _ (plB_lay n x h).1
theorem d_eqSame {n : Nat} {x : Dt} {P : Dt → Prop} (h : plB n x = true) (hn : n ≤ 60) (q : P (.bl true)) : dEq x x P := ⟨plB_sh h hn, plB_sh h hn, by rw [eqD_self h]; exact q⟩
theorem d_neSame {n : Nat} {x : Dt} {P : Dt → Prop} (h : plB n x = true) (hn : n ≤ 60) (q : P (.bl false)) : dNe x x P := ⟨plB_sh h hn, plB_sh h hn, by rw [eqD_self h]; exact q⟩
end Dx
end
section
/-! the steps of the walk for problems -/
namespace L2
open PySem PySem.Spec PyProof.Rows
def rLenS : List V → Hp → VK → Prop := fun xs H Q => ∃ z : Str, xs = [.str z] ∧ z.length ≤ 100000 ∧ Q (.int (z.length : Int)) H
theorem cr_lenS {X : Cx} : CallR X (.builtin "len") rLenS := fun pins s σ H xs us Q I r ⟨z, e, hz, q⟩ => call_len_str pins s σ H xs us Q I r ⟨z, e, by rw [sizeLine_eq]; omega, q⟩
end L2
namespace Dx
open PySem L2 RT Sx
open PySem.W (alike dataLt)
def dLenS : DL := fun xs P => ∃ z : Str, xs = [.str z] ∧ z.length ≤ 100000 ∧ P (nat z.length)
theorem o_lenS {K : PySem.W.Frag} : OpL K rLenS dLenS := fun W H vs xs P Q o r ⟨z, e, hz, q⟩ k => by
  subst e
  obtain ⟨v, rfl, r1⟩ := rpl1 r
  obtain rfl := rp_str r1
  exact ⟨z, rfl, hz, k W H _ _ (Frm.refl _ _) o (.int _) q⟩
def leB (s t : Str) : Bool := !dataLt (.str t) (.str s)
section
variable {X : DX} {ρ : Env} {P : Dt → Prop} {PA : List Dt → Prop} {D : DEnds} {i : Nat} {s t : Str} {x : Dt}
theorem d_lenS (h : s.length ≤ 100000) (q : P (nat s.length)) : dLenS [.str s] P := ⟨s, rfl, h, q⟩
def okS (s : Str) : Bool := PyData.canLay0 (.str s)
theorem d_leS (h1 : okS s = true) (h2 : okS t = true) (q : P (.bl (leB s t))) : dLeD (.str s) (.str t) P := ⟨rfl, h1, h2, (fun z => nomatch z), Nat.zero_le _, q⟩
theorem d_itS {a : DE} (q : a X ρ fun x => ∃ s : Str, x = .str s ∧ PA (s.cps.toList.map fun c => .str ⟨#[c]⟩)) : dItS a X ρ PA := q
theorem d_all {bs : List Bool} (q : P (.bl (bs.all id))) : dAll [.lst (bs.map Dt.bl)] P := ⟨bs, rfl, q⟩
theorem d_orS {a b : DE} (q : a X ρ fun x => ∃ s : Str, x = .str s ∧ s.length ≤ 100000 ∧ (if ((s.length : Int) != 0) = true then P (.str s) else b X ρ P)) : dOrS a b X ρ P := q
theorem d_neB {k l : Bool} (q : P (.bl (!decide (k = l)))) : dNeS (.bl k) (.bl l) P := ⟨_, _, rfl, rfl, rfl, by
  have : decide ((V.bl k) = V.bl l) = decide (k = l) := by congr 1; exact propext ⟨fun h => by injection h, fun h => by rw [h]⟩
  rw [this]; exact q⟩
theorem d_lockE {e : DE} (h : ρ[i]? = some (.od x)) (q : e X (ρ.set i (.v x)) fun y => (∃ v, scalD y = some v) ∧ P y) : dLockE i e X ρ P := ⟨x, h, q⟩
theorem d_putK {a b : DE} (q : a X ρ fun x => ∃ ps, ρ[i]? = some (.od (.dK ps)) ∧ b X ρ fun y => ∃ k, y = keyD k ∧ ps.length ≤ 100000 ∧ D.nx (ρ.set i (.od (.dK (pK ps k x))))) : dPutK i b a D X ρ := q
theorem d_enum {a : DA} (q : a X ρ fun xs => ∃ ys, xs = [.lst ys] ∧ PA ((List.range ys.length).zipWith (fun i y => .tup [nat i, y]) ys)) : dEnum a X ρ PA := q
theorem d_vals {a : DE} (q : a X ρ fun x => ∃ ps, x = .dK ps ∧ PA (ps.map (·.2))) : dVals a X ρ PA := q
theorem d_items {a : DE} (q : a X ρ fun x => ∃ ps, x = .dK ps ∧ PA (ps.map fun p => .tup [keyD p.1, p.2])) : dItems a X ρ PA := q
theorem d_spread {a k v : DE} (q : a X ρ fun x => ∃ ps, x = .dK ps ∧ ps.length ≤ 900 ∧ k X ρ fun y => v X ρ fun z => ∃ key, y = keyD key ∧ P (.dK (pK ps key z))) : dSpread a k v X ρ P := q
theorem d_newKD (q : P (.dK [])) : dNewK X ρ P := q
end
end Dx
end
section
/-! sorted(..) of a list of alike data -/
namespace L2
open PySem PySem.Spec PyProof.Rows
def rSortD (K : PySem.W.Frag) : List V → Hp → VK → Prop := fun xs H Q => ∃ (a : Addr) (β : Type) (bs : List β) (f : β → V) (enc : β → PyData), xs = [.ref a] ∧ SqL K H a (bs.map f) ∧ (∀ b ∈ bs, Dp K H (f b) (enc b) ∧ (enc b).depth ≤ 60) ∧
  PySem.W.AllAlike (bs.map enc) ∧ PySem.W.Sortable (bs.map enc) ∧ ∀ p, H p = none → Q (.ref p) (upd H p (.lst ((bs.mergeSort (PySem.W.dataLe false enc)).map f)))
theorem each_of {β : Type} {f : β → V} : ∀ {bs : List β} {its : List Value}, Vals (bs.map f) its → PySem.W.EachIs (fun v b => RelV (f b) v) its bs
  | [], _, r => by
    cases r
    exact .nil
  | b :: bs, _, r => by
    rw [List.map_cons] at r
    cases r with
    | cons h t => exact .cons h (each_of t)
theorem of_each {β : Type} {f : β → V} : ∀ {bs : List β} {its : List Value}, PySem.W.EachIs (fun v b => RelV (f b) v) its bs → Vals (bs.map f) its
  | [], _, r => by
    cases r
    exact .nil
  | b :: bs, _, r => by
    cases r with
    | cons h t => exact .cons h (of_each t)
theorem cr_sortD {X : Cx} (hu : X.A.units + 65 < cLine) : CallR X (.builtin "sorted") (rSortD X.K) := by
  intro pins s σ H vs us Q I r h
  obtain ⟨a, β, bs, f, enc, rfl, hs, hd, al, so, q⟩ := h
  obtain ⟨its, rv, hl, hz⟩ := I.list hs
  rw [Vals.ref1 r]
  have e := each_of rv
  have er : PySem.W.EachIs (fun v b => ∃ as, Reads s.heap v (enc b) as) its bs := by
    have hm : ∀ {bs' : List β} {its' : List Value}, (∀ b ∈ bs', b ∈ bs) → PySem.W.EachIs (fun v b => RelV (f b) v) its' bs' → PySem.W.EachIs (fun v b => ∃ as, Reads s.heap v (enc b) as) its' bs' := by
      intro bs' its' hsub r
      induction r with
      | nil => exact .nil
      | cons h t ih => exact .cons (Dp.reads I _ _ _ (hd _ (hsub _ List.mem_cons_self)).1 h) (ih fun b hb => hsub b (List.mem_cons_of_mem _ hb))
    exact hm (fun _ h => h) e
  refine PySem.W.sorted_data hl.isList e er al so (by rw [List.length_map] at hz; exact hz) (fun b hb => by have := (hd b hb).2; omega) fun out ho eo => ?_
  obtain ⟨ep, he'⟩ := PyProof.Rows.sortedAll_at s.heap its out.toArray
  have hv := of_each eo
  have hlen : ((bs.mergeSort (PySem.W.dataLe false enc)).map f).length ≤ sizeLine := by
    rw [List.length_map, List.length_mergeSort]
    rw [List.length_map] at hz
    exact hz
  exact ⟨.ref _, upd H (s.heap.objs.size + 1) (.lst ((bs.mergeSort (PySem.W.dataLe false enc)).map f)), I.laid (t' := s.toks) (fun _ _ => PyProof.Rows.sortedAll_old) (Nat.le_succ _) ⟨hlen, out, ep, hv, he'⟩, rfl, q _ (I.hok.fresh (Nat.le_succ _))⟩
end L2
namespace Dx
open PySem L2 RT Sx
open PySem.W (AllAlike Sortable dataLe)
def sortOk (ys : List Dt) : Prop := AllAlike (ys.map toP) ∧ Sortable (ys.map toP) ∧ ∀ y ∈ ys, (toP y).canLay0 = true ∧ (toP y).depth ≤ 60
def dSortD (a : DA) : DN := fun X ρ P => a X ρ fun xs => ∃ ys, xs = [.lst ys] ∧ sortOk ys ∧ P (ys.mergeSort (dataLe false toP))
section
variable {K : PySem.W.Frag} {C : Ec} {E : XK} {σ : L2.St} {H : Hp} {Q : VK} {W : Wd}
theorem rpl_zip : ∀ {us : List V} {ys : List Dt}, RpL K W us ys → us = (us.zip ys).map (·.1) ∧ ys = (us.zip ys).map (·.2) ∧ ∀ b ∈ us.zip ys, Rp K W b.1 b.2
  | _, _, .nil => ⟨rfl, rfl, fun b h => by cases h⟩
  | _, _, .cons r rr => by
    obtain ⟨h1, h2, h3⟩ := rpl_zip rr
    refine ⟨?_, ?_, fun b h => ?_⟩
    · rw [List.zip_cons_cons, List.map_cons, ← h1]
    · rw [List.zip_cons_cons, List.map_cons, ← h2]
    · rw [List.zip_cons_cons] at h
      rcases List.mem_cons.mp h with rfl | h
      · exact r
      · exact h3 b h
theorem zip_rpl : ∀ {l : List (V × Dt)}, (∀ b ∈ l, Rp K W b.1 b.2) → RpL K W (l.map (·.1)) (l.map (·.2))
  | [], _ => .nil
  | b :: l, h => .cons (h b List.mem_cons_self) (zip_rpl fun c hc => h c (List.mem_cons_of_mem _ hc))
theorem le_sortD {a : DA} (q : liftN K C E (dSortD a) σ H Q) : tCB (rSortD K) (liftA K C E a) σ H Q := by
  obtain ⟨c, P, at_, h, k⟩ := q
  refine ⟨c, _, at_, h, fun W1 H1 vs xs f1 o1 rl ⟨ys, e, so, q1⟩ => ?_⟩
  subst e
  obtain ⟨v, rfl, r1⟩ := rpl1 rl
  obtain ⟨a, us, rfl, hs, rs⟩ := rp_lst r1
  obtain ⟨h1, h2, h3⟩ := rpl_zip rs
  obtain ⟨s1, s2, s3⟩ := so
  have e2 : (us.zip ys).map (fun b => toP b.2) = ys.map toP := by
    conv => rhs; rw [h2]
    rw [List.map_map]; rfl
  have e3 : ((us.zip ys).mergeSort (dataLe false fun b => toP b.2)).map (·.2) = ys.mergeSort (dataLe false toP) := by
    refine (List.map_mergeSort (r := dataLe false fun b : V × Dt => toP b.2) (s := dataLe false toP) (f := (·.2)) (fun _ _ _ _ => rfl)).trans ?_
    rw [← h2]
  refine ⟨a, V × Dt, us.zip ys, (·.1), fun b => toP b.2, rfl, ?_, fun b hb => ?_, by rw [e2]; exact s1, by rw [e2]; exact s2, fun p n => ?_⟩
  · rw [← h1]; exact sql (o1.sF _ _ hs)
  · have hy : b.2 ∈ ys := by rw [h2]; exact List.mem_map.mpr ⟨b, hb, rfl⟩
    exact ⟨dp_of o1.sF (h3 b hb) (.inr (s3 _ hy).1), (s3 _ hy).2⟩
  · have r2 : RpL K W1 (((us.zip ys).mergeSort (dataLe false fun b => toP b.2)).map (·.1)) (((us.zip ys).mergeSort (dataLe false fun b => toP b.2)).map (·.2)) :=
      zip_rpl fun b hb => h3 b (List.mem_mergeSort.mp hb)
    rw [e3] at r2
    exact newL f1 o1 r2 q1 k p _ n (same_upd n) upd_same
end
section
variable {X : DX} {ρ : Env} {PA : List Dt → Prop}
theorem d_sortD {a : DA} (q : a X ρ fun xs => ∃ ys, xs = [.lst ys] ∧ sortOk ys ∧ PA (ys.mergeSort (dataLe false toP))) : dSortD a X ρ PA := q
end
theorem nsortD {X : Cx} {C : Ec} {E : XK} {e : Expr} {dA : DA} (h : PE X e (tCB (rSortD X.K) (liftA X.K C E dA))) : PE X e (liftN X.K C E (dSortD dA)) := PE.imp h fun _ _ _ => le_sortD
end Dx
end
section
/-! sorted(set(..)) of a list of rows -/
namespace SxSet
open PySem PySem.Spec PyProof.Rows L2
/-- the hash of a tuple of ints -/
def hashT (k : List Int) : Int := reduceHash (Builtin.Tuple.tupleHashOf (k.map hashInt))
theorem hashT_eq {P : Program} {w : World} (k : List Int) : thash P w k = hashT k := rfl
abbrev encT (p : Addr × List Int) : PyData := .tuple (p.2.map PyData.int)
structure SetH (P : Program) (w : World) (h : Heap) (a : Addr) (kk : List (Addr × List Int)) : Prop where
  ex : ∃ (es : Array (Int × Value)) (ep : Nat) (t : SetTable), SetB h a es ep t ∧ Keeps es t (ledW w) ∧ (es.toList.map (·.2)).Perm (kk.map fun p => Value.ref p.1)
def SetHO (P : Program) (w : World) (a : Addr) (kk : List (Addr × List Int)) : HO := .ext fun h => SetH P w h a kk
theorem setHO_new {P : Program} {w : World} {H : Hp} {h : Heap} {a : Addr} {kk : List (Addr × List Int)} (R : SetH P w h a kk) : ObjOk P w H h a (SetHO P w a kk) := by
  obtain ⟨es, ep, t, ⟨o, ho, _⟩, _⟩ := id R.ex
  refine ⟨R, ⟨o, ho⟩, fun h1 h2 p k => ?_⟩
  obtain ⟨es', ep', t', ⟨o', ho', r'⟩, q'⟩ := SetH.ex p
  exact ⟨es', ep', t', ⟨o', k o' ho', r'⟩, q'⟩
section
variable {X : Cx}
def rSetBig (K : PySem.W.Frag) (P : Program) (w : World) : List V → Hp → VK → Prop := fun xs H Q => ∃ (l : Addr) (kk : List (Addr × List Int)), xs = [V.ref l] ∧ SqL K H l (kk.map fun p => V.ref p.1) ∧ (∀ p ∈ kk, SqT K H p.1 (p.2.map V.int)) ∧ (kk.map fun p => hashT p.2).Nodup ∧ kk.length ≤ 1200 ∧
  ∀ a, H a = none → Q (.ref a) (upd H a (SetHO P w a kk))
theorem cr_setBig (hc : X.calm = true) (hu : X.A.units + 65 < cLine) : CallR X (.type "set") (rSetBig X.K X.prog X.w) := by
  intro pins s σ H xs us Q I r h
  obtain ⟨l, kk, rfl, hl, hk, nd, hf, q⟩ := h
  rw [Vals.ref1 r]
  obtain ⟨its, rv, pl, hz⟩ := I.list hl
  have hn : H s.heap.objs.size = none := I.hok.fresh (Nat.le_refl _)
  have nd' : ((kk.map (entE X.prog X.w)).map (·.1)).Nodup := by rw [List.map_map]; exact nd
  obtain ⟨es, t, e1, k1, p1⟩ := run_fresh (ledW X.w) nd' (by rw [List.length_map]; exact hf)
  refine call_set_big (P := X.prog) (w := X.w) kk (I.ok.hd hc) pl.isList (by simpa using refs_of_vals rv) (fun p hp => I.isT (hk p hp)) (by omega) e1 fun h' tk ep sb k => ?_
  refine ⟨.ref s.heap.objs.size, upd H s.heap.objs.size (SetHO X.prog X.w s.heap.objs.size kk), I.laid (t' := tk) k (Nat.le_refl _) (setHO_new ⟨es, ep, t, sb, k1, ?_⟩), rfl, q _ hn⟩
  have := p1.map (·.2)
  rw [List.map_map] at this
  exact this
def rSortBig (K : PySem.W.Frag) (P : Program) (w : World) : List V → Hp → VK → Prop := fun vs H Q => ∃ (a : Addr) (kk : List (Addr × List Int)), vs = [V.ref a] ∧ H a = some (SetHO P w a kk) ∧ (∀ p ∈ kk, SqT K H p.1 (p.2.map V.int)) ∧ kk.length ≤ 1200 ∧
  PySem.W.AllAlike (kk.map encT) ∧ PySem.W.Sortable (kk.map encT) ∧
  ∀ (L1 : List (Addr × List Int)) (p : Addr), L1.Perm kk → H p = none → Q (.ref p) (upd H p (.lst ((L1.mergeSort (PySem.W.dataLe false encT)).map fun q => V.ref q.1)))
theorem cr_sortBig (hc : X.calm = true) (hu : X.A.units + 65 < cLine) : CallR X (.builtin "sorted") (rSortBig X.K X.prog X.w) := by
  intro pins s σ H vs us Q I r h
  obtain ⟨a, kk, rfl, ha, hk, hf, al, so, q⟩ := h
  have R0 : SetH X.prog X.w s.heap a kk := (I.hok a _ ha).1
  obtain ⟨es, ep, t, sb, k1, p1⟩ := R0.ex
  rw [Vals.ref1 r]
  refine sorted_big sb k1 p1 (I.ok.hd hc) (fun p hp => I.isT (hk p hp)) hf hu al so fun s' p out c L' hp g o hpl hg hout hL => ?_
  obtain ⟨L1, pm, rfl⟩ := hL
  have hlen : ((L1.mergeSort (PySem.W.dataLe false encT)).map fun q => V.ref q.1).length ≤ sizeLine := by rw [List.length_map, List.length_mergeSort, pm.length_eq, sizeLine_eq]; omega
  have hn : H p = none := I.hok.fresh hpl
  have hv : Vals ((L1.mergeSort (PySem.W.dataLe false encT)).map fun q => V.ref q.1) out.toList := by rw [hout]; exact vals_of_refs _
  have J : Inv X pins σ (upd H p (.lst ((L1.mergeSort (PySem.W.dataLe false encT)).map fun q => V.ref q.1))) { s with heap := s'.heap, gens := s'.gens, drawn := s'.drawn, toks := s'.toks } :=
    I.call (ch := []) (Un.laid hp hpl hn) (I.hok.laid hp hpl ⟨hlen, out.toList, c, hv, hg⟩) (by rw [g]; exact I.bare) (fun _ z => nomatch z)
  have e : s' = { s with heap := s'.heap, gens := s'.gens, drawn := s'.drawn, toks := s'.toks } := by
    cases s'; cases s; cases o; rfl
  rw [e]
  exact ⟨.ref p, _, J, rfl, q L1 p pm hn⟩
end
end SxSet
namespace Dx
open PySem L2 RT Sx SxSet
open PySem.W (AllAlike Sortable dataLe dataLt)
open PySem.W (alike alikeAll)
def iRow (r : List Nat) : List Int := r.map fun n : Nat => (n : Int)
theorem toP_row (r : List Nat) : toP (rowD r) = .tuple ((iRow r).map PyData.int) := by
  show PyData.tuple (toPs (r.map nat)) = _
  rw [toPs_nats]; unfold iRow; rw [List.map_map]; rfl
theorem alike_intsI : ∀ a b : List Int, alikeAll (a.map PyData.int) (b.map PyData.int) = true
  | [], _ => by simp [alikeAll]
  | _ :: _, [] => by simp [alikeAll]
  | x :: a, y :: b => by
    simp only [List.map_cons, alikeAll, alike, alike_intsI a b, Bool.and_self]
theorem rows_ok (rs : List (List Nat)) (h : ∀ r ∈ rs, r ≠ []) : AllAlike (rs.map fun r => toP (rowD r)) ∧ Sortable (rs.map fun r => toP (rowD r)) := by
  refine ⟨fun d hd d' hd' => ?_, .inl fun d hd => ?_⟩
  · obtain ⟨r, _, rfl⟩ := List.mem_map.mp hd
    obtain ⟨r', _, rfl⟩ := List.mem_map.mp hd'
    rw [toP_row, toP_row]
    simp only [alike]; exact alike_intsI _ _
  · obtain ⟨r, hr, rfl⟩ := List.mem_map.mp hd
    rw [toP_row]
    cases r with
    | nil => exact absurd rfl (h _ hr)
    | cons a r => exact ⟨_, _, rfl⟩
theorem lt_row (r s : List Nat) : dataLt (toP (rowD r)) (toP (rowD s)) = decide (iRow r < iRow s) := by
  rw [toP_row, toP_row, ← PySem.W.dataLt_ints]; rfl
theorem le_row (r s : List Nat) : dataLe false toP (rowD r) (rowD s) = decide (iRow r ≤ iRow s) := by
  show (!dataLt (toP (rowD s)) (toP (rowD r))) = _
  rw [lt_row]
  by_cases h : iRow s < iRow r
  · rw [decide_eq_true h, decide_eq_false (List.not_le.mpr h)]; rfl
  · rw [decide_eq_false h, decide_eq_true (List.not_lt.mp h)]; rfl
def leR (r s : List Nat) : Bool := decide (iRow r ≤ iRow s)
theorem leR_trans (a b c : List Nat) (h1 : leR a b = true) (h2 : leR b c = true) : leR a c = true := decide_eq_true (List.le_trans (of_decide_eq_true h1) (of_decide_eq_true h2))
theorem leR_total (a b : List Nat) : (leR a b || leR b a) = true := by
  rcases List.le_total (iRow a) (iRow b) with h | h
  · simp [leR, h]
  · simp [leR, h]
theorem iRow_inj {r s : List Nat} (h : iRow r = iRow s) : r = s := by
  unfold iRow at h
  exact List.map_inj_right (fun a b e => Int.ofNat.inj e) |>.mp h
theorem leR_anti {a b : List Nat} (h1 : leR a b = true) (h2 : leR b a = true) : a = b := iRow_inj (List.le_antisymm (of_decide_eq_true h1) (of_decide_eq_true h2))
def sortR (rs : List (List Nat)) : List (List Nat) := rs.mergeSort leR
theorem sortR_D (rs : List (List Nat)) : (rs.map rowD).mergeSort (dataLe false toP) = (sortR rs).map rowD :=
  (List.map_mergeSort (r := leR) (s := dataLe false toP) (f := rowD) (fun a _ b _ => (le_row a b).symm)).symm
theorem sortR_pw (rs : List (List Nat)) : (sortR rs).Pairwise (fun a b => leR a b = true) := List.pairwise_mergeSort leR_trans leR_total rs
theorem sortR_mem {rs : List (List Nat)} {r : List Nat} : r ∈ sortR rs ↔ r ∈ rs := List.mem_mergeSort
theorem sortR_len (rs : List (List Nat)) : (sortR rs).length = rs.length := List.length_mergeSort _
theorem sortR_of {rs L : List (List Nat)} (h : rs.Pairwise (fun a b => leR a b = true)) (p : L.Perm rs) : sortR L = rs :=
  List.Perm.eq_of_pairwise (fun a b _ _ h1 h2 => leR_anti h1 h2) (sortR_pw L) h ((List.mergeSort_perm L leR).trans p)
/-- sorted(set(..)) of rows that rise already -/
def setOk (rs : List (List Nat)) : Prop := (rs.map fun r => hashT (iRow r)).Nodup ∧ rs.length ≤ 1200 ∧ (∀ r ∈ rs, r ≠ []) ∧ rs.Pairwise (fun a b => leR a b = true)
def dSortSet (a : DA) : DN := fun X ρ P => a X ρ fun xs => ∃ rs : List (List Nat), xs = [.lst (rs.map rowD)] ∧ setOk rs ∧ P (rs.map rowD)
section
variable {K : PySem.W.Frag} {C : Ec} {E : XK} {σ : L2.St} {H : Hp} {Q : VK} {W : Wd}
theorem rpl_ints : ∀ {r : List Nat} {vs : List V}, RpL K W vs (r.map nat) → vs = (iRow r).map V.int
  | [], _, .nil => rfl
  | a :: r, _, .cons h t => by
    rw [rpl_ints t]
    cases h; rfl
theorem rpl_rows : ∀ {rs : List (List Nat)} {us : List V}, RpL K W us (rs.map rowD) → ∃ kk : List (Addr × List Nat), us = kk.map (fun p => V.ref p.1) ∧ kk.map (·.2) = rs ∧ ∀ p ∈ kk, W.F p.1 = some (.tup ((iRow p.2).map V.int))
  | [], _, .nil => ⟨[], rfl, rfl, fun p h => by cases h⟩
  | r :: rs, _, .cons h t => by
    obtain ⟨kk, e1, e2, e3⟩ := rpl_rows t
    obtain ⟨a, vs, rfl, hF, rv⟩ := rp_tup h
    refine ⟨(a, r) :: kk, by rw [e1]; rfl, by rw [List.map_cons, e2], fun p hp => ?_⟩
    rcases List.mem_cons.mp hp with rfl | hp
    · rw [hF, rpl_ints rv]
    · exact e3 p hp
theorem perm_back {α β : Type} {f : α → β} : ∀ (L1 : List β) (kk : List α), L1.Perm (kk.map f) → ∃ L2 : List α, L1 = L2.map f ∧ L2.Perm kk
  | [], kk, pm => ⟨[], rfl, by
    have := pm.length_eq
    rw [List.length_map] at this
    rw [List.eq_nil_of_length_eq_zero this.symm]⟩
  | x :: L1, kk, pm => by
    obtain ⟨p, hp, e⟩ := List.mem_map.mp (pm.mem_iff.mp List.mem_cons_self)
    obtain ⟨l1, l2, el⟩ := List.append_of_mem hp
    have pq : kk.Perm (p :: (l1 ++ l2)) := by rw [el]; exact List.perm_middle
    have h2 := pm.trans (pq.map f)
    rw [← e, List.map_cons] at h2
    obtain ⟨L2, a1, a2⟩ := perm_back L1 (l1 ++ l2) h2.cons_inv
    exact ⟨p :: L2, by rw [List.map_cons, e, a1], (a2.cons p).trans pq.symm⟩
theorem le_sortSet {P : Program} {w : World} {a : DA} (q : liftN K C E (dSortSet a) σ H Q) : tCB (rSortBig K P w) (tCons (tCB (rSetBig K P w) (liftA K C E a)) tNil) σ H Q := by
  obtain ⟨c, PP, at_, h, k⟩ := q
  refine ⟨c, _, at_, h, fun W1 H1 vs xs f1 o1 rl ⟨rs, e, ⟨s1, s2, s3, s4⟩, q1⟩ => ?_⟩
  subst e
  obtain ⟨v, rfl, r1⟩ := rpl1 rl
  obtain ⟨l, us, rfl, hs, rs'⟩ := rp_lst r1
  obtain ⟨kk, e1, e2, e3⟩ := rpl_rows rs'
  subst e1; subst e2
  have hkk : (kk.map fun p => ((p.1, iRow p.2) : Addr × List Int)).map (fun p => V.ref p.1) = kk.map fun p => V.ref p.1 := by rw [List.map_map]; rfl
  have enc2 : (kk.map fun p => ((p.1, iRow p.2) : Addr × List Int)).map encT = (kk.map (·.2)).map fun r => toP (rowD r) := by
    rw [List.map_map, List.map_map]
    exact List.map_congr_left fun p _ => (toP_row p.2).symm
  refine ⟨l, kk.map fun p => (p.1, iRow p.2), rfl, by rw [hkk]; exact sql (o1.sF _ _ hs), fun p hp => ?_, ?_, by rw [List.length_map]; rw [List.length_map] at s2; exact s2, fun a2 n2 => ?_⟩
  · obtain ⟨p, hq, rfl⟩ := List.mem_map.mp hp
    exact sqt (o1.sF _ _ (e3 p hq))
  · rw [List.map_map] at s1 ⊢; exact s1
  have o2 : Ok K W1 (upd H1 a2 (SetHO P w a2 (kk.map fun p => (p.1, iRow p.2)))) := o1.laid n2
  obtain ⟨ra, rb⟩ := rows_ok (kk.map (·.2)) s3
  refine ⟨a2, kk.map fun p => (p.1, iRow p.2), rfl, upd_same, fun p hp => ?_, by rw [List.length_map]; rw [List.length_map] at s2; exact s2, by rw [enc2]; exact ra, by rw [enc2]; exact rb, fun L1 p pm n => ?_⟩
  · obtain ⟨p, hq, rfl⟩ := List.mem_map.mp hp
    exact sqt (o2.sF _ _ (e3 p hq))
  obtain ⟨L2, eL, pm2⟩ := perm_back (f := fun p : Addr × List Nat => ((p.1, iRow p.2) : Addr × List Int)) L1 kk pm
  have es : L1.mergeSort (dataLe false encT) = (L2.mergeSort fun p q => leR p.2 q.2).map fun p => (p.1, iRow p.2) := by
    rw [eL]
    refine (List.map_mergeSort (r := fun p q : Addr × List Nat => leR p.2 q.2) (s := dataLe false encT) (f := fun p => (p.1, iRow p.2)) fun a _ b _ => ?_).symm
    have := le_row a.2 b.2
    show leR a.2 b.2 = !dataLt (.tuple ((iRow b.2).map PyData.int)) (.tuple ((iRow a.2).map PyData.int))
    rw [← toP_row, ← toP_row]
    exact this.symm
  have e2 : (L2.mergeSort fun p q => leR p.2 q.2).map (·.2) = kk.map (·.2) := by
    have m := List.map_mergeSort (r := fun p q : Addr × List Nat => leR p.2 q.2) (s := leR) (f := (·.2)) (l := L2) fun _ _ _ _ => rfl
    rw [m]
    exact sortR_of s4 (pm2.map _)
  rw [es, List.map_map]
  refine newL (f1.trans (Frm.laid n2)) o2 (vs := (L2.mergeSort fun p q => leR p.2 q.2).map fun p => V.ref p.1) (xs := (kk.map (·.2)).map rowD) ?_ q1 k p _ n (same_upd n) upd_same
  rw [← e2, List.map_map]
  have hin : ∀ p ∈ L2.mergeSort (fun p q => leR p.2 q.2), p ∈ kk := fun p hp => pm2.mem_iff.mp (List.mem_mergeSort.mp hp)
  generalize L2.mergeSort (fun p q => leR p.2 q.2) = LL at hin ⊢
  induction LL with
  | nil => exact .nil
  | cons p LL ih =>
    refine .cons (.tup (e3 p (hin p List.mem_cons_self)) ?_) (ih fun q hq => hin q (List.mem_cons_of_mem _ hq))
    have gen : ∀ r : List Nat, RpL K W1 ((iRow r).map V.int) (r.map nat) := fun r => by
      induction r with
      | nil => exact .nil
      | cons a r ih => exact .cons (.int _) ih
    exact gen p.2
end
section
variable {X : DX} {ρ : Env} {PA : List Dt → Prop}
theorem d_sortSet {a : DA} (q : a X ρ fun xs => ∃ rs : List (List Nat), xs = [.lst (rs.map rowD)] ∧ setOk rs ∧ PA (rs.map rowD)) : dSortSet a X ρ PA := q
end
theorem nsortSet {X : Cx} {C : Ec} {E : XK} {e : Expr} {dA : DA} (h : PE X e (tCB (rSortBig X.K X.prog X.w) (tCons (tCB (rSetBig X.K X.prog X.w) (liftA X.K C E dA)) tNil))) : PE X e (liftN X.K C E (dSortSet dA)) := PE.imp h fun _ _ _ => le_sortSet
end Dx
end
section
/-! products without a point: arithmetic -/
namespace Sx
open PySem L2
theorem nat60 (k : Nat) : 0 < 60 ^ k := Nat.pos_of_ne_zero (by simp)
theorem strip_mul {n : Nat} (h : 0 < n) : ∀ k : Nat, strip (n * 60 ^ k) = strip n
  | 0 => by rw [Nat.pow_zero, Nat.mul_one]
  | k + 1 => by
    have e : n * 60 ^ (k + 1) = n * 60 ^ k * 60 := by rw [Nat.pow_succ, Nat.mul_assoc]
    have p : 0 < n * 60 ^ k := Nat.mul_pos h (nat60 k)
    rw [e, strip_yes (by omega) (by omega), Nat.mul_div_cancel _ (by decide), strip_mul h k]
theorem rowOf_eq {x a k j : Nat} (hx : 0 < x) (ha : 0 < a) (e : x * 60 ^ k = a * 60 ^ j) : rowOf x = rowOf a := by
  unfold rowOf
  rw [← strip_mul hx k, e, strip_mul ha j]
theorem whole_rowOf {n : Nat} : whole (rowOf n) = strip n := whole_figs _
theorem cop60 {u : Nat} (h2 : u % 2 ≠ 0) (h3 : u % 3 ≠ 0) (h5 : u % 5 ≠ 0) (k : Nat) : Nat.Coprime u (60 ^ k) := by
  have c2 : Nat.Coprime u 2 := by
    unfold Nat.Coprime
    rw [Nat.gcd_comm, Nat.gcd_rec, show u % 2 = 1 by omega]; decide
  have c3 : Nat.Coprime u 3 := by
    unfold Nat.Coprime
    rw [Nat.gcd_comm, Nat.gcd_rec]
    rcases (show u % 3 = 1 ∨ u % 3 = 2 by omega) with e | e <;> rw [e] <;> decide
  have c5 : Nat.Coprime u 5 := by
    unfold Nat.Coprime
    rw [Nat.gcd_comm, Nat.gcd_rec]
    rcases (show u % 5 = 1 ∨ u % 5 = 2 ∨ u % 5 = 3 ∨ u % 5 = 4 by omega) with e | e | e | e <;> rw [e] <;> decide
  exact Nat.Coprime.pow_right k (show Nat.Coprime u (2 * 2 * (3 * 5)) from (c2.mul_right c2).mul_right (c3.mul_right c5))
theorem left_strip {n m : Nat} (hm : 0 < m) (hn : 0 < n) (d : leftN m ∣ n) : strip n % leftN m = 0 := by
  obtain ⟨_, _, k, e⟩ := strip_spec n hn
  have f := fac_of hm
  rw [e] at d
  exact Nat.mod_eq_zero_of_dvd ((cop60 f.u2 f.u3 f.u5 k).dvd_of_dvd_mul_right d)
theorem perm3 {o : List Nat} (h : o.Perm (List.range 3)) : ∃ i j k, o = [i, j, k] ∧ i < 3 ∧ j < 3 ∧ k < 3 ∧ i ≠ j ∧ i ≠ k ∧ j ≠ k := by
  have hl : o.length = 3 := by rw [h.length_eq]; rfl
  have hn : o.Nodup := h.nodup_iff.mpr List.nodup_range
  have hm : ∀ x ∈ o, x < 3 := fun x hx => List.mem_range.mp (h.mem_iff.mp hx)
  match o, hl, hn, hm with
  | [i, j, k], _, hn, hm =>
    simp only [List.nodup_cons, List.mem_cons, List.not_mem_nil, or_false, not_or, List.nodup_nil, and_true, not_false_eq_true] at hn
    exact ⟨i, j, k, rfl, hm i (by simp), hm j (by simp), hm k (by simp), hn.1.1, hn.1.2, hn.2⟩
theorem strip_eq {n : Nat} (h : 0 < n) : ∃ k, strip n * 60 ^ k = n := by
  obtain ⟨_, _, k, e⟩ := strip_spec n h
  exact ⟨k, e.symm⟩
theorem rowOf_strip {n m : Nat} (h : 0 < n) (hm : 0 < m) : rowOf (strip n * m) = rowOf (n * m) := by
  obtain ⟨h1, _, k, e⟩ := strip_spec n h
  refine rowOf_eq (k := k) (j := 0) (Nat.mul_pos h1 hm) (Nat.mul_pos h hm) ?_
  rw [Nat.pow_zero, Nat.mul_one]
  conv => rhs; rw [e]
  ac_rfl
theorem part_eq {w1 w2 x j : Nat} (p1 : 0 < w1) (p2 : 0 < w2) (hx : 0 < x) (e : x * w2 = strip (w1 * w2) * 60 ^ j) : rowOf x = rowOf w1 := by
  obtain ⟨h1, _, k, ek⟩ := strip_spec (w1 * w2) (Nat.mul_pos p1 p2)
  refine rowOf_eq (k := k) (j := j) hx p1 (Nat.eq_of_mul_eq_mul_right p2 ?_)
  calc x * 60 ^ k * w2 = x * w2 * 60 ^ k := by ac_rfl
    _ = strip (w1 * w2) * 60 ^ j * 60 ^ k := by rw [e]
    _ = strip (w1 * w2) * 60 ^ k * 60 ^ j := by ac_rfl
    _ = w1 * w2 * 60 ^ j := by rw [← ek]
    _ = w1 * 60 ^ j * w2 := by ac_rfl
theorem cast_eq {r1 r2 : List Nat} (p1 : 0 < whole r1) (p2 : 0 < whole r2) : (rowOf (whole r1 * whole r2)).sum % 59 = (r1.sum % 59) * (r2.sum % 59) % 59 := by
  rw [cast_rowOf (Nat.mul_pos p1 p2), Nat.mul_mod, ← whole_mod, ← whole_mod]
end Sx
end
section
/-! all turned numbers, over data -/
open PySem L2 RT Sx Dx
local macro_rules | `(tactic| walk_at "d") => `(tactic| first
  | ((with_reducible refine' d_var ?k1 ?_); (case k1 => rfl))
  | with_reducible refine' d_c ?_
  | with_reducible refine' d_op ?_
  | with_reducible refine' d_cons ?_
  | with_reducible refine' d_nil ?_
  | with_reducible refine' d_seq ?_
  | ((with_reducible refine' d_asg1 ?_); try dsimp -proj only [List.set_cons_zero, List.set_cons_succ])
  | with_reducible refine' d_asg ?_
  | with_reducible refine' d_cb ?_
  | ((with_reducible refine' d_asgN ?_); try dsimp -proj only [List.set_cons_zero, List.set_cons_succ])
  | ((with_reducible refine' d_bnm ?_); try dsimp -proj only [List.set_cons_zero, List.set_cons_succ])
  | with_reducible refine' d_btp ?_
  | with_reducible refine' d_bcons ?_
  | with_reducible refine' d_bnil ?_
  | ((with_reducible refine' d_slO ?k1 ?_); (case k1 => rfl))
  | ((with_reducible refine' d_lenO ?k1 ?_); (case k1 => rfl))
  | ((with_reducible refine' d_ixO ?k1 ?_); (case k1 => rfl))
  | ((with_reducible refine' d_app ?k1 ?_); (case k1 => rfl))
  | ((with_reducible refine' d_frz ?k1 ?_); (case k1 => rfl); try dsimp -proj only [List.set_cons_zero, List.set_cons_succ, frzS])
  | with_reducible refine' d_newT ?_
  | ((with_reducible refine' d_newK ?_); try dsimp -proj only [List.set_cons_zero, List.set_cons_succ])
  | with_reducible refine' d_putT ?_
  | with_reducible refine' d_listD ?_
  | with_reducible refine' d_lr2 ?_
  | with_reducible refine' d_enumZ ?_
  | ((with_reducible refine' d_parN ?_); try dsimp -proj only [List.set_cons_zero, List.set_cons_succ])
  | with_reducible refine' d_sortI ?_
  | with_reducible refine' d_inLO ?_
  | ((with_reducible refine' d_putO ?k1 ?_); (case k1 => rfl))
  | with_reducible refine' d_catLL ?_
  | with_reducible refine' d_zipX ?_
  | ((with_reducible refine' d_frzD ?k1 ?_); (case k1 => rfl); try dsimp -proj only [List.set_cons_zero, List.set_cons_succ])
  | ((with_reducible refine' d_newB ?_); try dsimp -proj only [List.set_cons_zero, List.set_cons_succ])
  | with_reducible refine' d_putB ?_
  | ((with_reducible refine' d_getB ?k1 ?_); (case k1 => rfl))
  | ((with_reducible refine' d_par ?_); try dsimp -proj only [List.set_cons_zero, List.set_cons_succ])
  | ((with_reducible refine' d_par3 ?_); try dsimp -proj only [List.set_cons_zero, List.set_cons_succ])
  | ((with_reducible refine' d_ex2 ?_); try dsimp -proj only [List.set_cons_zero, List.set_cons_succ])
  | ((with_reducible refine' d_ex3 ?_); try dsimp -proj only [List.set_cons_zero, List.set_cons_succ])
  | with_reducible refine' d_isiI ?_
  | with_reducible refine' d_isiS ?_
  | with_reducible refine' d_lnil ?_
  | with_reducible refine' d_lcons ?_
  | with_reducible refine' d_gcd ?_
  | ((with_reducible refine' d_revO ?k1 ?_); (case k1 => rfl))
  | with_reducible refine' d_revL ?_
  | with_reducible refine' d_rev ?_
  | with_reducible refine' d_exrevL ?_
  | with_reducible refine' d_exrevT ?_
  | with_reducible refine' d_lc ?_
  | with_reducible refine' d_rng1 ?_
  | with_reducible refine' d_rng2 ?_
  | ((with_reducible refine' d_exrng ?k1 ?_); (case k1 => omega))
  | ((with_reducible refine' d_exrng2 ?k1 ?k2 ?_); (case k1 => omega); (case k2 => omega))
  | ((with_reducible refine' d_sz ?k1 ?_); (case k1 => simp; done))
  | with_reducible refine' d_tupQ ?_
  | with_reducible refine' d_lstQ ?_
  | with_reducible refine' d_callX ?_
  | with_reducible refine' d_call0 ?_
  | with_reducible refine' d_ifS ?_
  | with_reducible refine' d_B ?_
  | with_reducible refine' d_exbl ?_
  | with_reducible refine' d_ret ?_
  | with_reducible refine' d_drop ?_
  | with_reducible refine' d_next ?_
  | with_reducible refine' d_chain ?_
  | with_reducible refine' d_and ?_
  | with_reducible refine' d_or ?_
  | with_reducible refine' d_not ?_
  | with_reducible refine' d_andV ?_
  | with_reducible refine' d_orV ?_
  | with_reducible refine' d_notV ?_
  | with_reducible refine' d_neR ?_
  | with_reducible refine' d_eqR ?_
  | with_reducible refine' d_ccons ?_
  | ((with_reducible refine' d_cnil ?_); try dsimp -proj only [List.nil_append, List.cons_append])
  | with_reducible refine' d_listOf ?_
  | with_reducible refine' d_oflT ?_
  | with_reducible refine' d_oflL ?_
  | with_reducible refine' d_exsR ?_
  | with_reducible refine' d_lenR ?_
  | ((with_reducible refine' d_retO ?k1 ?_); (case k1 => rfl))
  | with_reducible refine' d_retW ?_
  | with_reducible refine' d_callXN ?_
  | with_reducible refine' d_call0N ?_
  | ((with_reducible refine' d_likeO ?k1 ?_); (case k1 => rfl))
  | with_reducible refine' d_join ?_
  | with_reducible refine' d_split ?_
  | with_reducible refine' d_exstr ?_
  | with_reducible refine' d_asgL ?_
  | with_reducible refine' d_fzD ?_
  | with_reducible refine' d_dc ?_
  | with_reducible refine' d_notInK ?_
  | with_reducible refine' d_inK ?_
  | with_reducible refine' d_getK ?_
  | with_reducible refine' d_exks ?_
  | with_reducible refine' d_raise0 ?_
  | ((with_reducible refine' d_strN ?k1 ?_); (case k1 => omega))
  | with_reducible refine' d_if ?_
  | with_reducible refine' d_un ?_
  | with_reducible refine' d_fz ?_
  | with_reducible refine' d_addN ?_
  | ((with_reducible refine' d_subN ?k1 ?_); (case k1 => omega))
  | ((with_reducible refine' d_mdN ?k1 ?_); (case k1 => omega))
  | ((with_reducible refine' d_fdN ?k1 ?k2 ?_); (case k1 => omega); (case k2 => omega))
  | ((with_reducible refine' d_mulL ?k1 ?k2 ?_); (case k1 => omega); (case k2 => omega))
  | with_reducible refine' d_ltN ?_
  | with_reducible refine' d_leN ?_
  | with_reducible refine' d_gtN ?_
  | with_reducible refine' d_geN ?_
  | with_reducible refine' d_eqN ?_
  | with_reducible refine' d_neN ?_
  | with_reducible refine' d_negN ?_
  | with_reducible refine' d_bit ?_
  | ((with_reducible refine' d_lenT ?_); try rw [List.length_map])
  | ((with_reducible refine' d_lenL ?_); try rw [List.length_map])
  | ((with_reducible refine' d_aug ?k1 ?_); (case k1 => rfl))
  | with_reducible refine' d_slTA ?_
  | with_reducible refine' d_slTo ?_
  | with_reducible refine' d_slFrom ?_
  | with_reducible refine' d_slMid ?_
  | with_reducible refine' d_slT0 ?_
  | ((with_reducible refine' d_catR ?k1 ?_); (case k1 => simp only [List.length_take, List.length_drop, List.length_append, List.length_cons, List.length_nil]; omega))
  | ((with_reducible refine' d_catR1 ?k1 ?_); (case k1 => simp only [List.length_take, List.length_drop, List.length_append, List.length_cons, List.length_nil]; omega))
  | ((with_reducible refine' d_catR2 ?k1 ?_); (case k1 => simp only [List.length_take, List.length_drop, List.length_append, List.length_cons, List.length_nil]; omega))
  | with_reducible refine' d_sumR ?_
  | with_reducible refine' d_revT ?_
  | with_reducible refine' d_keysW ?_
  | with_reducible refine' d_isNN ?_
  | with_reducible refine' d_isNT ?_
  | with_reducible refine' d_notNN ?_
  | with_reducible refine' d_notNT ?_
  | with_reducible refine' d_notNR ?_
  | with_reducible refine' d_isNR ?_
  | with_reducible refine' d_eqNR ?_
  | with_reducible refine' d_neNR ?_
  | with_reducible refine' d_neStr ?_
  | with_reducible refine' d_eqStr ?_
  | with_reducible refine' d_slL ?_
  | with_reducible refine' d_exsT ?_
  | with_reducible refine' d_exsL ?_
  | with_reducible refine' d_nopart ?_
  | with_reducible refine' dw_part ?_
  | with_reducible refine' d_exint ?_
  | with_reducible refine' d_yes1 ?_
  | with_reducible refine' d_itT ?_
  | with_reducible refine' d_itL ?_
  | with_reducible refine' d_itK ?_
  | with_reducible refine' d_exsK ?_
  | with_reducible refine' d_for ?_
  | with_reducible refine' d_tupL ?_
  | with_reducible refine' d_tupT ?_
  | with_reducible refine' i_iteT ?_
  | with_reducible refine' i_iteNT ?_
  | with_reducible refine' i_iteNF ?_
  | with_reducible refine' i_iteF ?_
  | ((with_reducible refine' i_yes ?k1 ?_); (case k1 => omega))
  | ((with_reducible refine' i_nay ?k1 ?_); (case k1 => omega))
  | ((with_reducible refine' i_yesN ?k1 ?_); (case k1 => omega))
  | ((with_reducible refine' i_nayN ?k1 ?_); (case k1 => omega))
  | ((with_reducible refine' i_yesS ?k1 ?_); (case k1 => decide))
  | ((with_reducible refine' i_nayS ?k1 ?_); (case k1 => decide))
  | ((with_reducible refine' i_yesSN ?k1 ?_); (case k1 => decide))
  | ((with_reducible refine' i_naySN ?k1 ?_); (case k1 => decide)))
local macro_rules | `(tactic| walk_at "dgo") => `(tactic| (repeat walk_at "d"; try dsimp -proj only [List.set_cons_zero, List.set_cons_succ]))
local macro_rules | `(tactic| walk_at "b") => `(tactic| (try dsimp -proj only [List.set_cons_zero, List.set_cons_succ]))
namespace Dx
def pwN (q k : Nat) : List Nat := (List.range k).map fun i => q ^ i
def mulN (L : Nat) (ns ps : List Nat) : List Nat := ns.flatMap fun n => ps.filterMap fun w => if n * w < L then some (n * w) else none
def numsN (L k2 k3 k5 : Nat) : List Nat := (mulN L (mulN L (pwN 2 k2) (pwN 3 k3)) (pwN 5 k5)).filter fun n => n % 60 != 0
def turnR (L k2 k3 k5 : Nat) : List (List Nat) := sortR ((numsN L k2 k3 k5).map rowOf)
/-- just the powers below L -/
def Lens (q L k : Nat) : Prop := (∀ i < k, q ^ i < L) ∧ L ≤ q ^ k
theorem lens_uniq {q L k j : Nat} (h : Lens q L k) (h2 : Lens q L j) : k = j := by
  rcases Nat.lt_trichotomy k j with c | c | c
  · have := h2.1 k c; have := h.2; omega
  · exact c
  · have := h.1 j c; have := h2.2; omega
def lensB (q L k : Nat) : Bool := ((List.range k).all fun i => Nat.blt (q ^ i) L) && Nat.ble L (q ^ k)
theorem lens_of {q L k : Nat} (h : lensB q L k = true) : Lens q L k := by
  unfold lensB at h
  rw [Bool.and_eq_true, List.all_eq_true] at h
  exact ⟨fun i hi => Nat.le_of_ble_eq_true (h.1 i (List.mem_range.mpr hi)), Nat.le_of_ble_eq_true h.2⟩
theorem lens_le {q L k : Nat} (h : Lens q L k) (hq : 2 ≤ q) (hL : L ≤ 2 ^ 30) : k ≤ 30 := by
  rcases Nat.lt_or_ge 30 k with c | c
  · have h1 := h.1 30 c
    have : 2 ^ 30 ≤ q ^ 30 := Nat.pow_le_pow_left hq 30
    omega
  · exact c
theorem mem_mulN {L : Nat} {ns ps : List Nat} {x : Nat} : x ∈ mulN L ns ps ↔ ∃ n ∈ ns, ∃ w ∈ ps, x = n * w ∧ n * w < L := by
  unfold mulN
  rw [List.mem_flatMap]
  constructor
  · rintro ⟨n, hn, h⟩
    obtain ⟨w, hw, e⟩ := List.mem_filterMap.mp h
    split at e
    · exact ⟨n, hn, w, hw, (Option.some.inj e).symm, by assumption⟩
    · cases e
  · rintro ⟨n, hn, w, hw, rfl, hl⟩
    exact ⟨n, hn, List.mem_filterMap.mpr ⟨w, hw, by rw [if_pos hl]⟩⟩
theorem len_mulN {L : Nat} {ns ps : List Nat} : (mulN L ns ps).length ≤ ns.length * ps.length := by
  unfold mulN
  induction ns with
  | nil => simp
  | cons n ns ih =>
    rw [List.flatMap_cons, List.length_append, List.length_cons, Nat.succ_mul]
    have := List.length_filterMap_le (fun w => if n * w < L then some (n * w) else none) ps
    omega
theorem len_pwN {q k : Nat} : (pwN q k).length = k := by unfold pwN; rw [List.length_map, List.length_range]
theorem mem_pwN {q k x : Nat} : x ∈ pwN q k ↔ ∃ i < k, x = q ^ i := by
  unfold pwN
  rw [List.mem_map]
  exact ⟨fun ⟨i, hi, e⟩ => ⟨i, List.mem_range.mp hi, e.symm⟩, fun ⟨i, hi, e⟩ => ⟨i, List.mem_range.mpr hi, e.symm⟩⟩
theorem pos_pow {q i : Nat} (hq : 0 < q) : 0 < q ^ i := Nat.pos_of_ne_zero (by simp; omega)
theorem mem_nums {L k2 k3 k5 x : Nat} (h2 : Lens 2 L k2) (h3 : Lens 3 L k3) (h5 : Lens 5 L k5) : x ∈ numsN L k2 k3 k5 ↔ (∃ a b c, x = 2 ^ a * 3 ^ b * 5 ^ c) ∧ x < L ∧ x % 60 ≠ 0 := by
  unfold numsN
  rw [List.mem_filter, mem_mulN]
  have e60 : (x % 60 != 0) = true ↔ x % 60 ≠ 0 := by simp
  rw [e60]
  constructor
  · rintro ⟨⟨n, hn, w, hw, rfl, hl⟩, h60⟩
    obtain ⟨m, hm, v, hv, rfl, hl2⟩ := mem_mulN.mp hn
    obtain ⟨a, _, rfl⟩ := mem_pwN.mp hm
    obtain ⟨b, _, rfl⟩ := mem_pwN.mp hv
    obtain ⟨c, _, rfl⟩ := mem_pwN.mp hw
    exact ⟨⟨a, b, c, rfl⟩, hl, h60⟩
  · rintro ⟨⟨a, b, c, rfl⟩, hl, h60⟩
    have pa : 0 < 2 ^ a := pos_pow (by decide)
    have pb : 0 < 3 ^ b := pos_pow (by decide)
    have pc : 0 < 5 ^ c := pos_pow (by decide)
    have hab : 2 ^ a * 3 ^ b < L := Nat.lt_of_le_of_lt (Nat.le_mul_of_pos_right _ pc) hl
    have ha : 2 ^ a < L := Nat.lt_of_le_of_lt (Nat.le_mul_of_pos_right _ pb) hab
    have hb : 3 ^ b < L := Nat.lt_of_le_of_lt (Nat.le_mul_of_pos_left _ pa) hab
    have hc : 5 ^ c < L := Nat.lt_of_le_of_lt (Nat.le_mul_of_pos_left _ (Nat.mul_pos pa pb)) hl
    have lt : ∀ {q k i : Nat}, 2 ≤ q → Lens q L k → q ^ i < L → i < k := fun {q k i} hq h hi => by
      rcases Nat.lt_or_ge i k with z | z
      · exact z
      · have := Nat.pow_le_pow_right (n := q) (by omega) z
        have := h.2
        omega
    exact ⟨⟨_, mem_mulN.mpr ⟨_, mem_pwN.mpr ⟨a, lt (by decide) h2 ha, rfl⟩, _, mem_pwN.mpr ⟨b, lt (by decide) h3 hb, rfl⟩, rfl, hab⟩, _, mem_pwN.mpr ⟨c, lt (by decide) h5 hc, rfl⟩, rfl, hl⟩, h60⟩
def sp_powers_below : DSp := fun xs P _ => ∃ q L : Nat, xs = [nat q, nat L] ∧ 2 ≤ q ∧ q < 64 ∧ L ≤ 2 ^ 30 ∧ ∀ k, Lens q L k → P (.lst ((pwN q k).map nat))
def sp_turnables : DSp := fun xs P _ => ∃ p : Nat, xs = [nat p] ∧ 1 ≤ p ∧ p ≤ 4 ∧ ∀ k2 k3 k5, Lens 2 (60 ^ p) k2 → Lens 3 (60 ^ p) k3 → Lens 5 (60 ^ p) k5 → P (.lst ((turnR (60 ^ p) k2 k3 k5).map rowD))
def d_powers_below : DS := (dSeq (dAsgN 2 (dLst dNil))
  (dSeq (dAsg (.nm 3) (dC (nat 1)))
  (dSeq (dWhile (dB (dOp dLt (dVar 3) (dVar 1))) (dSeq (dApp 2 (dVar 3))
  (dAug 3 dMul (dVar 0))))
  (dFrz 2 (dRet (dVar 2))))))
def d_turnables : DS := (dSeq (dAsg (.nm 1) (dC (nat 1)))
  (dSeq (dFor (dRng1 (dCons (dVar 0) dNil)) (.nm 2)
  (dAug 1 dMul (dC (nat 60))))
  (dSeq (dAsg (.nm 3) (dCallX sp_powers_below (dCons (dC (nat 2)) (dCons (dVar 1) dNil))))
  (dSeq (dFor (dItT (dTup (dCons (dC (nat 3)) (dCons (dC (nat 5)) dNil)))) (.nm 4)
  (dSeq (dAsg (.nm 5) (dCallX sp_powers_below (dCons (dVar 4) (dCons (dVar 1) dNil))))
  (dAsg (.nm 3) (dFz (dLc2 (dItL (dVar 3)) (.nm 6) dYes (dItL (dVar 5)) (.nm 7) (dB (dOp dLt (dOp dMul (dVar 6) (dVar 7)) (dVar 1))) (dOp dMul (dVar 6) (dVar 7)) [6, 7] [7])))))
  (dRet (dFz (dSortD (dCons (dFz (dLc (dItL (dVar 3)) (.nm 6) (dB (dOp dNeS (dOp dMd (dVar 6) (dC (nat 60))) (dC (nat 0)))) (dCall0 sp_row_of (dCons (dVar 6) dNil)) [6])) dNil))))))))

section
variable {xs : List Dt} {P : Dt → Prop} {X : DX}
theorem dp_powers_below (h : sp_powers_below xs P X) : d_powers_below (dEnds P) X (startD xs (4 - xs.length)) := by
  obtain ⟨q, L, rfl, hq, hq2, hL, h⟩ := h
  show d_powers_below (dEnds P) X [.v (nat q), .v (nat L), .un, .un]
  unfold d_powers_below
  walk_at "dgo"
  refine d_while (fun m ρ => ∃ k, m = 40 - k ∧ k ≤ 31 ∧ (∀ i < k, q ^ i < L) ∧ ρ = [.v (nat q), .v (nat L), .ol ((pwN q k).map nat), .v (nat (q ^ k))]) 40 ⟨0, rfl, by decide, fun i h => by omega, rfl⟩ ?_
  rintro m ρ N ⟨k, rfl, hk, hlt, rfl⟩ hN
  walk_at "dgo"
  by_cases c : q ^ k < L
  · rw [decide_eq_true c]
    have hk30 : k ≤ 29 := by
      rcases Nat.lt_or_ge k 30 with z | z
      · omega
      · have : 2 ^ 30 ≤ q ^ k := Nat.le_trans (Nat.pow_le_pow_left hq 30) (Nat.pow_le_pow_right (by omega) z)
        omega
    walk_at "dgo"
    refine ⟨by rw [List.length_map, len_pwN]; omega, ?_⟩
    walk_at "dgo"
    refine hN (40 - (k + 1)) _ (by omega) ⟨k + 1, rfl, by omega, fun i hi => ?_, ?_⟩
    · rcases Nat.lt_or_ge i k with z | z
      · exact hlt i z
      · rw [show i = k by omega]; exact c
    · have e1 : (pwN q k).map nat ++ [nat (q ^ k)] = (pwN q (k + 1)).map nat := by
        unfold pwN
        rw [List.range_succ, List.map_append, List.map_append]; rfl
      rw [e1, Nat.pow_succ]
  · rw [decide_eq_false c]
    walk_at "dgo"
    exact h k ⟨hlt, by omega⟩
/-- one round: all times all, below L -/
def gMul (L : Nat) (ps : List Nat) : Dt → List Dt
  | .int k => (ps.filterMap fun w => if k.toNat * w < L then some (k.toNat * w) else none).map nat
  | _ => []
theorem gMul_all {L : Nat} {ns ps : List Nat} : (ns.map nat).flatMap (gMul L ps) = (mulN L ns ps).map nat := by
  unfold mulN
  rw [List.flatMap_map, List.map_flatMap]; rfl
theorem d_comp1F {p : Pt} {e : DE} {ρ0 : Env} {PA : List Dt → Prop} {t : DT} (gg : Dt → Option Dt) : ∀ {ys acc : List Dt}, (∀ x ∈ ys, ∀ N : Option Dt → Prop, N (gg x) → bindD p x ρ0 fun ρ => t X ρ fun k => if k = true then e X ρ fun y => N (some y) else N none) → acc.length + (ys.filterMap gg).length ≤ 100000 → PA (acc ++ ys.filterMap gg) → dComp1 p t e ρ0 X ys acc PA
  | [], acc, h, hl, q => by rw [List.filterMap_nil, List.append_nil] at q; exact q
  | x :: ys, acc, h, hl, q => by
    refine h x List.mem_cons_self (fun o => match o with | some y => acc.length ≤ 100000 ∧ dComp1 p t e ρ0 X ys (acc ++ [y]) PA | none => dComp1 p t e ρ0 X ys acc PA) ?_
    have h' := fun y hy => h y (List.mem_cons_of_mem x hy)
    cases e1 : gg x with
    | none => exact d_comp1F gg h' (by rw [List.filterMap_cons, e1] at hl; exact hl) (by rw [List.filterMap_cons, e1] at q; exact q)
    | some y =>
      rw [List.filterMap_cons, e1] at hl
      dsimp only at hl
      rw [List.length_cons] at hl
      exact ⟨by omega, d_comp1F gg h' (by rw [List.length_append, List.length_singleton]; omega) (by rw [List.filterMap_cons, e1] at q; simpa using q)⟩
def gOne (L n : Nat) : Dt → Option Dt
  | .int k => if n * k.toNat < L then some (nat (n * k.toNat)) else none
  | _ => none
theorem gOne_all {L n : Nat} {ps : List Nat} : (ps.map nat).filterMap (gOne L n) = gMul L ps (nat n) := by
  show _ = (ps.filterMap fun w => if (n : Int).toNat * w < L then some ((n : Int).toNat * w) else none).map nat
  rw [List.filterMap_map, List.map_filterMap, Int.toNat_natCast]
  congr 1
  funext w
  show (if n * (w : Int).toNat < L then some (nat (n * (w : Int).toNat)) else none) = _
  rw [Int.toNat_natCast]
  by_cases c : n * w < L
  · rw [if_pos c, if_pos c]; rfl
  · rw [if_neg c, if_neg c]; rfl
def gRow : Dt → Option Dt
  | .int k => if k.toNat % 60 = 0 then none else some (rowD (rowOf k.toNat))
  | _ => none
theorem gRow_all (ns : List Nat) : (ns.map nat).filterMap gRow = ((ns.filter fun n => n % 60 != 0).map rowOf).map rowD := by
  rw [List.filterMap_map, List.map_map]
  induction ns with
  | nil => rfl
  | cons n ns ih =>
    have e : (gRow ∘ nat) n = if n % 60 = 0 then none else some (rowD (rowOf n)) := by
      show (if (n : Int).toNat % 60 = 0 then none else some (rowD (rowOf (n : Int).toNat))) = _
      rw [Int.toNat_natCast]
    rw [List.filterMap_cons, e, List.filter_cons]
    by_cases c : n % 60 = 0
    · rw [if_pos c, if_neg (by simp [c])]; exact ih
    · rw [if_neg c, if_pos (by simp [c]), List.map_cons]
      exact congrArg _ ih
theorem dp_turnables (h : sp_turnables xs P X) : d_turnables (dEnds P) X (startD xs (8 - xs.length)) := by
  obtain ⟨p, rfl, hp1, hp4, h⟩ := h
  show d_turnables (dEnds P) X [.v (nat p), .un, .un, .un, .un, .un, .un, .un]
  unfold d_turnables
  have hL : 60 ^ p ≤ 2 ^ 30 := Nat.le_trans (Nat.pow_le_pow_right (by decide) hp4) (by decide)
  have round : ∀ (ns : List Nat) (q k : Nat) (D : DEnds) (s2 s6 s7 : Sl), (∀ n ∈ ns, n < 60 ^ p) → Lens q (60 ^ p) k → ns.length * k ≤ 30000 → D.nx [.v (nat p), .v (nat (60 ^ p)), s2, .v (.lst ((mulN (60 ^ p) ns (pwN q k)).map nat)), .v (nat q), .v (.lst ((pwN q k).map nat)), s6, s7] →
      (dAsg (.nm 3) (dFz (dLc2 (dItL (dVar 3)) (.nm 6) dYes (dItL (dVar 5)) (.nm 7) (dB (dOp dLt (dOp dMul (dVar 6) (dVar 7)) (dVar 1))) (dOp dMul (dVar 6) (dVar 7)) [6, 7] [7]))) D X [.v (nat p), .v (nat (60 ^ p)), s2, .v (.lst (ns.map nat)), .v (nat q), .v (.lst ((pwN q k).map nat)), s6, s7] := by
    intro ns q k D s2 s6 s7 hn hk hl hD
    walk_at "dgo"
    refine d_lc2 ?_
    walk_at "dgo"
    refine d_comp2M (gMul (60 ^ p) (pwN q k)) (fun x hx acc N hl1 hN => ?_) ?_ ?_
    · obtain ⟨n, hn', rfl⟩ := List.mem_map.mp hx
      have n30 := hn n hn'
      walk_at "dgo"
      refine d_comp1F (gOne (60 ^ p) n) (fun y hy N' hN' => ?_) (by rw [gOne_all]; exact hl1) (by rw [gOne_all]; exact hN)
      obtain ⟨w, hw, rfl⟩ := List.mem_map.mp hy
      obtain ⟨i, hi, rfl⟩ := mem_pwN.mp hw
      have w30 := hk.1 i hi
      have ew : gOne (60 ^ p) n (nat (q ^ i)) = if n * q ^ i < 60 ^ p then some (nat (n * q ^ i)) else none := by
        show (if n * ((q ^ i : Nat) : Int).toNat < 60 ^ p then some (nat (n * ((q ^ i : Nat) : Int).toNat)) else none) = _
        rw [Int.toNat_natCast]
      rw [ew] at hN'
      walk_at "dgo"
      by_cases c : n * q ^ i < 60 ^ p
      · rw [if_pos c] at hN'
        rw [decide_eq_true c]
        walk_at "dgo"
        exact hN'
      · rw [if_neg c] at hN'
        rw [decide_eq_false c]
        walk_at "dgo"
        exact hN'
    · rw [gMul_all, List.length_map]
      have := len_mulN (L := 60 ^ p) (ns := ns) (ps := pwN q k)
      rw [len_pwN] at this
      simp; omega
    · rw [gMul_all, List.nil_append]
      walk_at "dgo"
      exact hD
  walk_at "dgo"
  refine d_loop (fun i ρ => ∃ s2, ρ = [.v (nat p), .v (nat (60 ^ i)), s2, .un, .un, .un, .un, .un]) ⟨_, rfl⟩ ?_ ?_
  · rintro i x ρ N hx ⟨s2, rfl⟩ hN
    obtain ⟨hi, rfl⟩ := range_get hx
    have : 60 ^ i ≤ 60 ^ 4 := Nat.pow_le_pow_right (by decide) (by omega)
    walk_at "dgo"
    exact hN _ ⟨_, by rw [Nat.pow_succ]⟩
  · rintro ρ ⟨s2, rfl⟩
    rw [List.length_map, List.length_range]
    walk_at "dgo"
    refine ⟨2, _, rfl, by decide, by decide, hL, fun k2 h2 => ?_⟩
    have l2 := lens_le h2 (by decide) hL
    have b2 : ∀ n ∈ pwN 2 k2, n < 60 ^ p := fun n hn => by
      obtain ⟨i, hi, rfl⟩ := mem_pwN.mp hn
      exact h2.1 i hi
    walk_at "dgo"
    refine ⟨3, _, rfl, by decide, by decide, hL, fun k3 h3 => ?_⟩
    have l3 := lens_le h3 (by decide) hL
    walk_at "b"
    refine round (pwN 2 k2) 3 k3 _ _ _ _ b2 h3 (by rw [len_pwN]; exact Nat.le_trans (Nat.mul_le_mul l2 l3) (by decide)) ?_
    have b3 : ∀ n ∈ mulN (60 ^ p) (pwN 2 k2) (pwN 3 k3), n < 60 ^ p := fun n hn => by
      obtain ⟨_, _, _, _, rfl, h⟩ := mem_mulN.mp hn
      exact h
    have c3 := len_mulN (L := 60 ^ p) (ns := pwN 2 k2) (ps := pwN 3 k3)
    rw [len_pwN, len_pwN] at c3
    have d3 : (mulN (60 ^ p) (pwN 2 k2) (pwN 3 k3)).length ≤ 900 := Nat.le_trans c3 (Nat.mul_le_mul l2 l3)
    walk_at "dgo"
    refine ⟨5, _, rfl, by decide, by decide, hL, fun k5 h5 => ?_⟩
    have l5 := lens_le h5 (by decide) hL
    walk_at "b"
    refine round _ 5 k5 _ _ _ _ b3 h5 (Nat.le_trans (Nat.mul_le_mul d3 l5) (by decide)) ?_
    have c5 := len_mulN (L := 60 ^ p) (ns := mulN (60 ^ p) (pwN 2 k2) (pwN 3 k3)) (ps := pwN 5 k5)
    rw [len_pwN] at c5
    have d5 : (mulN (60 ^ p) (mulN (60 ^ p) (pwN 2 k2) (pwN 3 k3)) (pwN 5 k5)).length ≤ 27000 := Nat.le_trans c5 (Nat.mul_le_mul d3 l5)
    have p5 : ∀ n ∈ mulN (60 ^ p) (mulN (60 ^ p) (pwN 2 k2) (pwN 3 k3)) (pwN 5 k5), 0 < n ∧ n < 60 ^ p := fun n hn => by
      obtain ⟨m, hm, w, hw, rfl, h⟩ := mem_mulN.mp hn
      obtain ⟨x, hx, y, hy, rfl, _⟩ := mem_mulN.mp hm
      obtain ⟨_, _, rfl⟩ := mem_pwN.mp hw
      obtain ⟨_, _, rfl⟩ := mem_pwN.mp hx
      obtain ⟨_, _, rfl⟩ := mem_pwN.mp hy
      exact ⟨Nat.mul_pos (Nat.mul_pos (pos_pow (by decide)) (pos_pow (by decide))) (pos_pow (by decide)), h⟩
    walk_at "dgo"
    refine d_sortD ?_
    walk_at "dgo"
    refine d_compF gRow (fun x hx N hN => ?_) (by rw [List.length_map]; simp; omega) ?_
    · obtain ⟨n, hn, rfl⟩ := List.mem_map.mp hx
      obtain ⟨n0, n1⟩ := p5 n hn
      have e : gRow (nat n) = if n % 60 = 0 then none else some (rowD (rowOf n)) := by
        show (if (n : Int).toNat % 60 = 0 then none else some (rowD (rowOf (n : Int).toNat))) = _
        rw [Int.toNat_natCast]
      rw [e] at hN
      walk_at "dgo"
      by_cases c : n % 60 = 0
      · rw [if_pos c] at hN
        rw [decide_eq_true c]
        walk_at "dgo"
        exact hN
      · rw [if_neg c] at hN
        rw [decide_eq_false c]
        walk_at "dgo"
        exact ⟨n, rfl, n0, Nat.lt_trans (log2_lt (k := 40) (Nat.lt_of_lt_of_le n1 (Nat.le_trans hL (by decide))) (by decide)) (by decide), hN⟩
    · rw [gRow_all, List.nil_append]
      walk_at "dgo"
      have ne : ∀ r ∈ (numsN (60 ^ p) k2 k3 k5).map rowOf, r ≠ [] := fun r hr => by
        obtain ⟨n, hn, rfl⟩ := List.mem_map.mp hr
        have n0 := (p5 n (List.mem_filter.mp hn |>.1)).1
        intro z
        have := figs_len1 (strip_spec n n0).1
        have z' : figs (strip n) = [] := z
        rw [z'] at this
        simp at this
      obtain ⟨a1, a2⟩ := rows_ok _ ne
      refine ⟨((numsN (60 ^ p) k2 k3 k5).map rowOf).map rowD, rfl, ⟨by rw [List.map_map]; exact a1, by rw [List.map_map]; exact a2, fun y hy => ?_⟩, ?_⟩
      · obtain ⟨r, _, rfl⟩ := List.mem_map.mp hy
        obtain ⟨c1, c2⟩ := canLay_nats r
        have e : toP (rowD r) = .tuple (r.map fun n : Nat => PyData.int (n : Int)) := by unfold rowD; simp only [toP, toPs_nats]
        rw [e]
        exact ⟨by simp only [PyData.canLay0]; exact c1, by simp only [PyData.depth]; omega⟩
      · rw [sortR_D]
        exact h k2 k3 k5 h2 h3 h5
end
end Dx
end
section
/-! what all turned numbers are -/
open PySem L2 RT Sx SxSet
namespace Dx
theorem left_smooth (a b c : Nat) : leftN (2 ^ a * 3 ^ b * 5 ^ c) = 1 := by
  have f : Fac (2 ^ a * 3 ^ b * 5 ^ c) a b c 1 := ⟨by rw [Nat.mul_one, Nat.mul_assoc], by decide, by decide, by decide⟩
  exact f.all.2.2.2.1
theorem smooth_left {n : Nat} (h : 0 < n) (e : leftN n = 1) : n = 2 ^ val 2 n * 3 ^ val 3 n * 5 ^ val 5 n := by
  have f := (fac_of h).eq
  rw [e, Nat.mul_one, ← Nat.mul_assoc] at f
  exact f
structure Tn (p k2 k3 k5 : Nat) : Prop where
  a : Lens 2 (60 ^ p) k2
  b : Lens 3 (60 ^ p) k3
  c : Lens 5 (60 ^ p) k5
section
variable {p k2 k3 k5 : Nat}
theorem Tn.mem (T : Tn p k2 k3 k5) {r : List Nat} : r ∈ turnR (60 ^ p) k2 k3 k5 ↔ ∃ n, r = figs n ∧ 0 < n ∧ leftN n = 1 ∧ n < 60 ^ p ∧ n % 60 ≠ 0 := by
  unfold turnR
  rw [sortR_mem, List.mem_map]
  constructor
  · rintro ⟨n, hn, rfl⟩
    obtain ⟨⟨a, b, c, rfl⟩, h1, h2⟩ := (mem_nums T.a T.b T.c).mp hn
    have n0 : 0 < 2 ^ a * 3 ^ b * 5 ^ c := Nat.mul_pos (Nat.mul_pos (pos_pow (by decide)) (pos_pow (by decide))) (pos_pow (by decide))
    exact ⟨_, by unfold rowOf; rw [strip_no n0 h2], n0, left_smooth a b c, h1, h2⟩
  · rintro ⟨n, rfl, n0, hl, h1, h2⟩
    exact ⟨n, (mem_nums T.a T.b T.c).mpr ⟨⟨_, _, _, smooth_left n0 hl⟩, h1, h2⟩, by unfold rowOf; rw [strip_no n0 h2]⟩
theorem Tn.row (T : Tn p k2 k3 k5) {r : List Nat} (h : IsRow r) : r ∈ turnR (60 ^ p) k2 k3 k5 ↔ leftN (whole r) = 1 ∧ r.length ≤ p := by
  rw [T.mem]
  constructor
  · rintro ⟨n, rfl, n0, hl, h1, h2⟩
    rw [whole_figs]
    exact ⟨hl, figs_len h1⟩
  · rintro ⟨hl, hp⟩
    exact ⟨whole r, (figs_whole h.fig h.hd).symm, whole_pos (row_ne h) h.hd, hl, whole_lt h.fig hp, whole_last h.fig (row_ne h) h.last⟩
/-- each is a row -/
theorem Tn.isRow (T : Tn p k2 k3 k5) (hp : p ≤ 12) {r : List Nat} (h : r ∈ turnR (60 ^ p) k2 k3 k5) : IsRow r ∧ leftN (whole r) = 1 ∧ r.length ≤ p := by
  obtain ⟨n, rfl, n0, hl, h1, h2⟩ := T.mem.mp h
  have e : rowOf n = figs n := by unfold rowOf; rw [strip_no n0 h2]
  refine ⟨by rw [← e]; exact isRow_small n0 (Nat.lt_of_lt_of_le h1 (Nat.pow_le_pow_right (by decide) hp)), by rw [whole_figs]; exact hl, figs_len h1⟩
/-- how many: by the count of figures -/
def kOf (p : Nat) : Nat × Nat × Nat := match p with
  | 1 => (6, 4, 3)
  | 2 => (12, 8, 6)
  | 3 => (18, 12, 8)
  | _ => (24, 15, 11)
theorem tn_of {p : Nat} (h1 : 1 ≤ p) (h4 : p ≤ 4) : Tn p (kOf p).1 (kOf p).2.1 (kOf p).2.2 := by
  have : ∀ p < 5, 1 ≤ p → (lensB 2 (60 ^ p) (kOf p).1 && (lensB 3 (60 ^ p) (kOf p).2.1 && lensB 5 (60 ^ p) (kOf p).2.2)) = true := by decide +kernel
  have t := this p (by omega) h1
  rw [Bool.and_eq_true, Bool.and_eq_true] at t
  exact ⟨lens_of t.1, lens_of t.2.1, lens_of t.2.2⟩
theorem Tn.same (T : Tn p k2 k3 k5) (h1 : 1 ≤ p) (h4 : p ≤ 4) : k2 = (kOf p).1 ∧ k3 = (kOf p).2.1 ∧ k5 = (kOf p).2.2 := by
  have U := tn_of h1 h4
  exact ⟨lens_uniq T.a U.a, lens_uniq T.b U.b, lens_uniq T.c U.c⟩
def numsP (p : Nat) : List Nat := numsN (60 ^ p) (kOf p).1 (kOf p).2.1 (kOf p).2.2
def nodupB : List Int → Bool
  | [] => true
  | x :: l => l.all (fun y => !decide (x = y)) && nodupB l
theorem nodupB_ok : ∀ {l : List Int}, nodupB l = true → l.Nodup
  | [], _ => List.nodup_nil
  | x :: l, h => by
    unfold nodupB at h
    rw [Bool.and_eq_true, List.all_eq_true] at h
    refine List.nodup_cons.mpr ⟨fun z => ?_, nodupB_ok h.2⟩
    have := h.1 x z
    simp at this
theorem hash_1 : nodupB ((numsP 1).map fun n => hashT (iRow (rowOf n))) = true := by decide +kernel
theorem hash_2 : nodupB ((numsP 2).map fun n => hashT (iRow (rowOf n))) = true := by decide +kernel
theorem hash_3 : nodupB ((numsP 3).map fun n => hashT (iRow (rowOf n))) = true := by decide +kernel
theorem hash_4 : nodupB ((numsP 4).map fun n => hashT (iRow (rowOf n))) = true := by decide +kernel
theorem len_p : (numsP 1).length = 25 ∧ (numsP 2).length = 104 ∧ (numsP 3).length = 240 ∧ (numsP 4).length = 432 := by decide +kernel
def cntP (p : Nat) : Nat := [0, 25, 104, 240, 432].getD p 0
theorem Tn.len (T : Tn p k2 k3 k5) (h1 : 1 ≤ p) (h4 : p ≤ 4) : (turnR (60 ^ p) k2 k3 k5).length = cntP p := by
  obtain ⟨rfl, rfl, rfl⟩ := T.same h1 h4
  unfold turnR
  rw [sortR_len, List.length_map]
  obtain ⟨a, b, c, d⟩ := len_p
  have : p = 1 ∨ p = 2 ∨ p = 3 ∨ p = 4 := by omega
  rcases this with rfl | rfl | rfl | rfl
  · exact a
  · exact b
  · exact c
  · exact d
theorem Tn.setOk (T : Tn p k2 k3 k5) (h1 : 1 ≤ p) (h4 : p ≤ 4) : setOk (turnR (60 ^ p) k2 k3 k5) := by
  refine ⟨?_, ?_, fun r hr => row_ne (T.isRow (by omega) hr).1, sortR_pw _⟩
  · obtain ⟨rfl, rfl, rfl⟩ := T.same h1 h4
    have pm : (turnR (60 ^ p) (kOf p).1 (kOf p).2.1 (kOf p).2.2).Perm ((numsP p).map rowOf) := List.mergeSort_perm _ _
    refine ((pm.map _).nodup_iff).mpr ?_
    rw [List.map_map]
    have : p = 1 ∨ p = 2 ∨ p = 3 ∨ p = 4 := by omega
    rcases this with rfl | rfl | rfl | rfl
    · exact nodupB_ok hash_1
    · exact nodupB_ok hash_2
    · exact nodupB_ok hash_3
    · exact nodupB_ok hash_4
  · rw [T.len h1 h4]
    have : p = 1 ∨ p = 2 ∨ p = 3 ∨ p = 4 := by omega
    rcases this with rfl | rfl | rfl | rfl <;> decide
end
end Dx
end
section
/-! texts of rows, over data -/
open PySem L2 RT Sx Dx
local macro_rules | `(tactic| walk_at "d") => `(tactic| first
  | ((with_reducible refine' d_var ?k1 ?_); (case k1 => rfl))
  | with_reducible refine' d_c ?_
  | with_reducible refine' d_op ?_
  | with_reducible refine' d_cons ?_
  | with_reducible refine' d_nil ?_
  | with_reducible refine' d_seq ?_
  | ((with_reducible refine' d_asg1 ?_); try dsimp -proj only [List.set_cons_zero, List.set_cons_succ])
  | with_reducible refine' d_asg ?_
  | with_reducible refine' d_cb ?_
  | ((with_reducible refine' d_asgN ?_); try dsimp -proj only [List.set_cons_zero, List.set_cons_succ])
  | ((with_reducible refine' d_bnm ?_); try dsimp -proj only [List.set_cons_zero, List.set_cons_succ])
  | with_reducible refine' d_btp ?_
  | with_reducible refine' d_bcons ?_
  | with_reducible refine' d_bnil ?_
  | ((with_reducible refine' d_slO ?k1 ?_); (case k1 => rfl))
  | ((with_reducible refine' d_lenO ?k1 ?_); (case k1 => rfl))
  | ((with_reducible refine' d_ixO ?k1 ?_); (case k1 => rfl))
  | ((with_reducible refine' d_app ?k1 ?_); (case k1 => rfl))
  | ((with_reducible refine' d_frz ?k1 ?_); (case k1 => rfl); try dsimp -proj only [List.set_cons_zero, List.set_cons_succ, frzS])
  | with_reducible refine' d_lnil ?_
  | with_reducible refine' d_lcons ?_
  | with_reducible refine' d_gcd ?_
  | ((with_reducible refine' d_revO ?k1 ?_); (case k1 => rfl))
  | with_reducible refine' d_revL ?_
  | with_reducible refine' d_rev ?_
  | with_reducible refine' d_exrevL ?_
  | with_reducible refine' d_exrevT ?_
  | with_reducible refine' d_lc ?_
  | with_reducible refine' d_rng1 ?_
  | with_reducible refine' d_rng2 ?_
  | ((with_reducible refine' d_exrng ?k1 ?_); (case k1 => omega))
  | ((with_reducible refine' d_exrng2 ?k1 ?k2 ?_); (case k1 => omega); (case k2 => omega))
  | ((with_reducible refine' d_sz ?k1 ?_); (case k1 => simp; done))
  | with_reducible refine' d_tupQ ?_
  | with_reducible refine' d_lstQ ?_
  | with_reducible refine' d_callX ?_
  | with_reducible refine' d_call0 ?_
  | with_reducible refine' d_ifS ?_
  | with_reducible refine' d_B ?_
  | with_reducible refine' d_exbl ?_
  | with_reducible refine' d_ret ?_
  | with_reducible refine' d_drop ?_
  | with_reducible refine' d_next ?_
  | with_reducible refine' d_chain ?_
  | with_reducible refine' d_and ?_
  | with_reducible refine' d_or ?_
  | with_reducible refine' d_not ?_
  | with_reducible refine' d_andV ?_
  | with_reducible refine' d_orV ?_
  | with_reducible refine' d_notV ?_
  | with_reducible refine' d_neR ?_
  | with_reducible refine' d_eqR ?_
  | with_reducible refine' d_ccons ?_
  | ((with_reducible refine' d_cnil ?_); try dsimp -proj only [List.nil_append, List.cons_append])
  | with_reducible refine' d_listOf ?_
  | with_reducible refine' d_oflT ?_
  | with_reducible refine' d_oflL ?_
  | with_reducible refine' d_exsR ?_
  | with_reducible refine' d_lenR ?_
  | with_reducible refine' d_join ?_
  | with_reducible refine' d_split ?_
  | with_reducible refine' d_exstr ?_
  | with_reducible refine' d_asgL ?_
  | with_reducible refine' d_fzD ?_
  | with_reducible refine' d_dc ?_
  | with_reducible refine' d_notInK ?_
  | with_reducible refine' d_inK ?_
  | with_reducible refine' d_getK ?_
  | with_reducible refine' d_exks ?_
  | with_reducible refine' d_raise0 ?_
  | ((with_reducible refine' d_strN ?k1 ?_); (case k1 => omega))
  | with_reducible refine' d_if ?_
  | with_reducible refine' d_un ?_
  | with_reducible refine' d_fz ?_
  | with_reducible refine' d_addN ?_
  | ((with_reducible refine' d_subN ?k1 ?_); (case k1 => omega))
  | ((with_reducible refine' d_mdN ?k1 ?_); (case k1 => omega))
  | ((with_reducible refine' d_fdN ?k1 ?k2 ?_); (case k1 => omega); (case k2 => omega))
  | ((with_reducible refine' d_mulL ?k1 ?k2 ?_); (case k1 => omega); (case k2 => omega))
  | with_reducible refine' d_ltN ?_
  | with_reducible refine' d_leN ?_
  | with_reducible refine' d_gtN ?_
  | with_reducible refine' d_geN ?_
  | with_reducible refine' d_eqN ?_
  | with_reducible refine' d_neN ?_
  | with_reducible refine' d_negN ?_
  | with_reducible refine' d_bit ?_
  | ((with_reducible refine' d_lenT ?_); try rw [List.length_map])
  | ((with_reducible refine' d_lenL ?_); try rw [List.length_map])
  | ((with_reducible refine' d_aug ?k1 ?_); (case k1 => rfl))
  | with_reducible refine' d_slT ?_
  | with_reducible refine' d_slL ?_
  | with_reducible refine' d_exsT ?_
  | with_reducible refine' d_exsL ?_
  | with_reducible refine' d_nopart ?_
  | with_reducible refine' dw_part ?_
  | with_reducible refine' d_exint ?_
  | with_reducible refine' d_yes1 ?_
  | with_reducible refine' d_itT ?_
  | with_reducible refine' d_itL ?_
  | with_reducible refine' d_itK ?_
  | with_reducible refine' d_exsK ?_
  | with_reducible refine' d_for ?_
  | with_reducible refine' d_tupL ?_
  | with_reducible refine' d_tupT ?_
  | with_reducible refine' i_iteT ?_
  | with_reducible refine' i_iteNT ?_
  | with_reducible refine' i_iteNF ?_
  | with_reducible refine' i_iteF ?_
  | ((with_reducible refine' i_yes ?k1 ?_); (case k1 => omega))
  | ((with_reducible refine' i_nay ?k1 ?_); (case k1 => omega))
  | ((with_reducible refine' i_yesN ?k1 ?_); (case k1 => omega))
  | ((with_reducible refine' i_nayN ?k1 ?_); (case k1 => omega)))
local macro_rules | `(tactic| walk_at "dgo") => `(tactic| (repeat walk_at "d"; try dsimp -proj only [List.set_cons_zero, List.set_cons_succ]))
namespace Dx
def sp_written : DSp := fun xs P X => (∃ r, IsRow r ∧ xs = [rowD r] ∧ P (.str (txt r))) ∨ ∃ r, rowB r = false ∧ xs = [rowI r] ∧ X 1 []
def sp_read : DSp := fun xs P X => ∃ t : Str, xs = [.str t] ∧ t.length ≤ 99000 ∧ (Txt.split t " ").length ≤ 99000 ∧ (∀ r, IsRow r → Txt.split t " " = r.map numS → P (rowD r)) ∧
  ((∀ r, IsRow r → Txt.split t " " ≠ r.map numS) → X 1 [])
def d_written : DS := (dSeq (dDrop (dCallX sp_check_row (dCons (dVar 0) dNil)))
  (dRet (dJoin (dC (.str " ")) (dFz (dLc (dItT (dVar 0)) (.nm 1) dYes (dCB dStrI (dCons (dVar 1) dNil)) [1])))))
def d_read : DS := (dSeq (dAsg (.nm 1) (dFzD (dDc (dRng1 (dCons (dC (nat 60)) dNil)) (.nm 5) dYes (dCB dStrI (dCons (dVar 5) dNil)) (dVar 5) [5])))
  (dSeq (dAsg (.nm 2) (dFz (dSplit (dVar 0) (dC (.str " ")))))
  (dSeq (dFor (dItL (dVar 2)) (.nm 3)
  (dIfS (dB (dNotInK (dVar 3) (dVar 1))) (dRaise0 1) dNext))
  (dSeq (dAsg (.nm 4) (dCB dTupOf (dCons (dFz (dLc (dItL (dVar 2)) (.nm 3) dYes (dGetK (dVar 1) (dVar 3)) [3])) dNil)))
  (dSeq (dDrop (dCallX sp_check_row (dCons (dVar 4) dNil)))
  (dRet (dVar 4)))))))

section
variable {xs : List Dt} {P : Dt → Prop} {X : DX}
theorem dp_written (h : sp_written xs P X) : d_written (dEnds P) X (startD xs (2 - xs.length)) := by
  unfold d_written
  rcases h with ⟨r, ir, rfl, q⟩ | ⟨r, hr, rfl, q⟩
  · show (dSeq _ _) (dEnds P) X [.v (rowD r), .un]
    walk_at "dgo"
    refine .inl ⟨r, ir, rfl, ?_⟩
    walk_at "dgo"
    refine d_compM strOf ?_ (by have := ir.len.2; simp; omega) ?_
    · intro x hx N hN
      obtain ⟨d, hd, rfl⟩ := List.mem_map.mp hx
      have := ir.fig d hd
      walk_at "dgo"
      exact hN
    rw [List.nil_append, nums_map]
    exact ⟨r.map numS, .inl rfl, join_len ir.fig (by have := ir.len.2; omega), q⟩
  · show (dSeq _ _) (dEnds P) X [.v (rowI r), .un]
    walk_at "dgo"
    exact .inr ⟨r, hr, rfl, q⟩
theorem map_numS_inj : ∀ {r s : List Nat}, r.map numS = s.map numS → r = s
  | [], [], _ => rfl
  | [], _ :: _, h => by cases h
  | _ :: _, [], h => by cases h
  | a :: r, b :: s, h => by
    rw [List.map_cons, List.map_cons] at h
    obtain ⟨h1, h2⟩ := List.cons.inj h
    rw [numS_inj h1, map_numS_inj h2]
theorem keys_nodup (n : Nat) : (((List.range n).map nat).map fun x => match x with | .int z => (.inr (numS z.toNat) : Key) | _ => .inl 0).Nodup := by
  rw [List.map_map]
  exact List.Pairwise.map _ (fun a b ne e => ne (numS_inj (Sum.inr.inj e))) List.nodup_range
theorem words_of : ∀ {ws : List Str}, (∀ w ∈ ws, ∃ d, d < 60 ∧ w = numS d) → ∃ r : List Nat, ws = r.map numS ∧ ∀ d ∈ r, d < 60
  | [], _ => ⟨[], rfl, by simp⟩
  | w :: ws, h => by
    obtain ⟨d, hd, rfl⟩ := h w List.mem_cons_self
    obtain ⟨r, rfl, hr⟩ := words_of (ws := ws) fun v hv => h v (List.mem_cons_of_mem _ hv)
    exact ⟨d :: r, rfl, fun x hx => by
      rcases List.mem_cons.mp hx with rfl | hx
      · exact hd
      · exact hr x hx⟩
theorem dp_read (h : sp_read xs P X) : d_read (dEnds P) X (startD xs (6 - xs.length)) := by
  obtain ⟨t, rfl, hz, hz2, q, q2⟩ := h
  show d_read (dEnds P) X [.v (.str t), .un, .un, .un, .un, .un]
  unfold d_read
  walk_at "dgo"
  refine d_dcM (fun x => match x with | .int z => (.inr (numS z.toNat) : Key) | _ => .inl 0) (fun x => x) ?_ ?_ (by simp) ?_
  · intro x hx N hN
    obtain ⟨d, hd, rfl⟩ := List.mem_map.mp hx
    have := List.mem_range.mp hd
    walk_at "dgo"
    exact hN
  · rw [List.map_nil, List.nil_append]; exact keys_nodup 60
  have e60 : ([] : List (Key × Dt)) ++ ((List.range 60).map nat).map (fun x => ((match x with | .int z => (.inr (numS z.toNat) : Key) | _ => .inl 0), x)) = (List.range 60).map fun d => ((.inr (numS d) : Key), nat d) := by
    rw [List.nil_append, List.map_map]
    exact List.map_congr_left fun d _ => rfl
  rw [e60]
  walk_at "dgo"
  refine ⟨by decide, hz, ?_⟩
  walk_at "dgo"
  refine d_loop (fun i ρ => (∀ j, j < i → ∀ w, (Txt.split t " ")[j]? = some w → ∃ d, d < 60 ∧ w = numS d) ∧ ∃ s, ρ = [.v (.str t), .v (.dK ((List.range 60).map fun d => ((.inr (numS d) : Key), nat d))), .v (.lst ((Txt.split t " ").map Dt.str)), s, .un, .un]) ⟨fun j hj => by omega, _, rfl⟩ ?_ ?_
  · rintro i x ρ N hx ⟨hg, s, rfl⟩ hN
    rw [List.getElem?_map] at hx
    cases e : (Txt.split t " ")[i]? with
    | none => rw [e] at hx; cases hx
    | some w =>
      rw [e] at hx
      obtain rfl := Option.some.inj hx
      walk_at "dgo"
      by_cases hw : ∃ d, d < 60 ∧ w = numS d
      · obtain ⟨d, hd, rfl⟩ := hw
        rw [gK_num (List.mem_range.mpr hd)]
        walk_at "dgo"
        refine hN _ ⟨fun j hj w hw => ?_, _, rfl⟩
        rcases Nat.lt_or_ge j i with h | h
        · exact hg j h w hw
        · rw [show j = i by omega, e] at hw
          exact ⟨d, hd, (Option.some.inj hw).symm⟩
      · rw [gK_num_no (fun d hd z => hw ⟨d, List.mem_range.mp hd, z⟩)]
        walk_at "dgo"
        refine q2 fun r ir z => hw ?_
        have hm : w ∈ r.map numS := by rw [← z]; exact List.mem_of_getElem? e
        obtain ⟨d, hd, rfl⟩ := List.mem_map.mp hm
        exact ⟨d, ir.fig d hd, rfl⟩
  · rintro ρ ⟨hg, s, rfl⟩
    obtain ⟨r, er, h60⟩ := words_of (ws := Txt.split t " ") fun w hw => by
      obtain ⟨j, hj, e⟩ := List.getElem_of_mem hw
      exact hg j (by simpa using hj) w (by rw [List.getElem?_eq_getElem hj, e])
    rw [er]
    have hl : r.length ≤ 99000 := by have := congrArg List.length er; rw [List.length_map] at this; omega
    walk_at "dgo"
    refine d_compM (fun x => match x with | .str z => ((gK ((List.range 60).map fun d => ((.inr (numS d) : Key), nat d)) (.inr z)).getD .non) | _ => .non) ?_ (by simp; omega) ?_
    · intro x hx N hN
      rw [List.map_map] at hx
      obtain ⟨d, hd, rfl⟩ := List.mem_map.mp hx
      dsimp only [Function.comp] at hN ⊢
      have hg := gK_num (List.mem_range.mpr (h60 d hd))
      rw [hg] at hN
      walk_at "dgo"
      exact ⟨_, .inr _, _, rfl, rfl, hg, hN⟩
    have em : ((r.map numS).map Dt.str).map (fun x => match x with | .str z => ((gK ((List.range 60).map fun d => ((.inr (numS d) : Key), nat d)) (.inr z)).getD .non) | _ => .non) = r.map nat := by
      rw [List.map_map, List.map_map]
      exact List.map_congr_left fun d hd => by
        show (gK _ (Sum.inr (numS d) : Key)).getD .non = _
        rw [gK_num (List.mem_range.mpr (h60 d hd))]; rfl
    rw [List.nil_append, em]
    walk_at "dgo"
    by_cases ir : IsRow r
    · refine .inl ⟨r, ir, rfl, ?_⟩
      walk_at "dgo"
      exact q r ir er
    · refine .inr ⟨r.map fun n : Nat => (n : Int), ?_, by rw [← rowD_I]; rfl, q2 fun r' ir' z => ir ?_⟩
      · cases e : rowB (r.map fun n : Nat => (n : Int)) with
        | false => rfl
        | true =>
          obtain ⟨n, hn, en⟩ := rowB_iff.mp e
          have : r = n := by
            have := congrArg (List.map Int.toNat) en
            rw [List.map_map, List.map_map] at this
            have ee : (Int.toNat ∘ fun n : Nat => (n : Int)) = id := funext fun n => Int.toNat_natCast n
            rwa [ee, List.map_id, List.map_id] at this
          rw [this] at ir
          exact absurd hn ir
      · rw [er] at z
        rw [map_numS_inj z]; exact ir'
end
end Dx
end
section
/-! near sides: arithmetic -/
open PySem L2 RT Sx
namespace Sx
/-- what the near side of a row is the root of -/
def nearN (r : List Nat) (b : Bool) (p : Nat) : Nat := whole r * (if b then 60 else 1) * 3600 ^ p
def nearF (r : List Nat) (b : Bool) (p : Nat) : List Nat := (figs (Float64.isqrt (nearN r b p))).take p
theorem isqrt_le (n : Nat) : Float64.isqrt n ≤ n := by
  have h := (Float64.isqrt_spec n).1
  rcases Nat.eq_zero_or_pos (Float64.isqrt n) with e | e
  · omega
  · calc Float64.isqrt n = Float64.isqrt n * 1 := by omega
      _ ≤ Float64.isqrt n * Float64.isqrt n := Nat.mul_le_mul_left _ e
      _ ≤ n := h
theorem isqrt_eq {n k : Nat} (h1 : k * k ≤ n) (h2 : n < (k + 1) * (k + 1)) : Float64.isqrt n = k := by
  obtain ⟨h3, h4⟩ := Float64.isqrt_spec n
  rcases Nat.lt_trichotomy (Float64.isqrt n) k with h | h | h
  · have := Nat.mul_le_mul (show Float64.isqrt n + 1 ≤ k by omega) (show Float64.isqrt n + 1 ≤ k by omega); omega
  · exact h
  · have := Nat.mul_le_mul (show k + 1 ≤ Float64.isqrt n by omega) (show k + 1 ≤ Float64.isqrt n by omega); omega
theorem nearN_lt {r : List Nat} {b : Bool} {p : Nat} (ir : IsRow r) (hp : p ≤ 10) : nearN r b p < 2 ^ 200 := by
  have h1 := whole12 ir
  have h2 : (if b then 60 else 1) ≤ 60 := by cases b <;> decide
  have h3 : 3600 ^ p ≤ 3600 ^ 10 := Nat.pow_le_pow_right (by decide) hp
  calc nearN r b p ≤ 60 ^ 12 * 60 * 3600 ^ 10 := Nat.mul_le_mul (Nat.mul_le_mul (by omega) h2) h3
    _ < 2 ^ 200 := by decide
/-- one is within sixty times sixty as often as wanted of a square -/
def Near (n f : Nat) : Prop := ∃ k, k ≤ 12 ∧ ((f * f ≤ n * 3600 ^ k ∧ n * 3600 ^ k < (f + 1) * (f + 1)) ∨ (f * f * 3600 ^ k ≤ n ∧ n < (f + 1) * (f + 1) * 3600 ^ k))
theorem near_lo {n f k j : Nat} (h0 : 0 < f) (hj : j < k) (h : n * 3600 ^ k < (f + 1) * (f + 1)) : n * 3600 ^ j < f * f := by
  obtain ⟨i, rfl⟩ : ∃ i, k = j + 1 + i := ⟨k - (j + 1), by omega⟩
  have h1 : (f + 1) * (f + 1) ≤ f * f * 3600 := by
    have : (f + 1) * (f + 1) ≤ (60 * f) * (60 * f) := Nat.mul_le_mul (by omega) (by omega)
    calc (f + 1) * (f + 1) ≤ (60 * f) * (60 * f) := this
      _ = f * f * 3600 := by rw [Nat.mul_mul_mul_comm]; omega
  have h2 : n * 3600 ^ j * 3600 ≤ n * 3600 ^ (j + 1 + i) := by
    rw [Nat.pow_add, Nat.pow_add, Nat.pow_one, ← Nat.mul_assoc, ← Nat.mul_assoc]
    exact Nat.le_mul_of_pos_right _ (Nat.pos_of_ne_zero (by simp))
  omega
theorem near_hi {n f k j : Nat} (h0 : 0 < f) (hj : j < k) (h : f * f * 3600 ^ k ≤ n) : (f + 1) * (f + 1) * 3600 ^ j ≤ n := by
  obtain ⟨i, rfl⟩ : ∃ i, k = j + 1 + i := ⟨k - (j + 1), by omega⟩
  have h1 : (f + 1) * (f + 1) ≤ f * f * 3600 := by
    have : (f + 1) * (f + 1) ≤ (60 * f) * (60 * f) := Nat.mul_le_mul (by omega) (by omega)
    calc (f + 1) * (f + 1) ≤ (60 * f) * (60 * f) := this
      _ = f * f * 3600 := by rw [Nat.mul_mul_mul_comm]; omega
  calc (f + 1) * (f + 1) * 3600 ^ j ≤ f * f * 3600 * 3600 ^ j := Nat.mul_le_mul_right _ h1
    _ = f * f * 3600 ^ (j + 1) := by rw [Nat.pow_succ, Nat.mul_assoc, Nat.mul_comm 3600]
    _ ≤ f * f * 3600 ^ (j + 1 + i) := Nat.mul_le_mul_left _ (Nat.pow_le_pow_right (by decide) (by omega))
    _ ≤ n := h
/-! the near side's figures -/
theorem figs_take {s p : Nat} (hs : 0 < s) (hp : p ≤ (figs s).length) : ∃ e, (figs s).length = p + e ∧ whole ((figs s).take p) * 60 ^ e ≤ s ∧ s < (whole ((figs s).take p) + 1) * 60 ^ e := by
  refine ⟨(figs s).length - p, by omega, ?_⟩
  have e1 : figs s = (figs s).take p ++ (figs s).drop p := (List.take_append_drop p _).symm
  have e2 : ∀ (l r : List Nat), whole (l ++ r) = whole l * 60 ^ r.length + whole r := by
    intro l r
    have key : ∀ (r : List Nat) (a : Nat), r.foldl (fun a d => a * 60 + d) a = a * 60 ^ r.length + whole r := by
      intro r
      induction r with
      | nil => intro a; simp [whole]
      | cons d r ih =>
        intro a
        have h1 : whole (d :: r) = r.foldl (fun a d => a * 60 + d) (0 * 60 + d) := rfl
        rw [h1, List.foldl_cons, ih, ih, List.length_cons, Nat.pow_succ, Nat.add_mul, Nat.zero_mul, Nat.zero_add, Nat.mul_assoc a, Nat.mul_comm 60]; omega
    show (l ++ r).foldl _ 0 = _
    rw [List.foldl_append, key]; rfl
  have e3 := whole_figs s
  rw [e1, e2, List.length_drop] at e3
  have e4 : whole ((figs s).drop p) < 60 ^ ((figs s).length - p) := whole_lt (fun d hd => figs_lt s d (List.mem_of_mem_drop hd)) (by rw [List.length_drop]; exact Nat.le_refl _)
  rw [Nat.add_mul]
  omega
theorem figs_long : ∀ (k s : Nat), 60 ^ k ≤ s → k + 1 ≤ (figs s).length
  | 0, s, h => figs_len1 (by rw [Nat.pow_zero] at h; omega)
  | k + 1, s, h => by
    have h1 : 60 ^ k ≤ s / 60 := by
      rw [Nat.pow_succ] at h
      exact (Nat.le_div_iff_mul_le (by decide)).mpr h
    have := figs_long k (s / 60) h1
    have h0 : 0 < s := Nat.lt_of_lt_of_le (Nat.pos_of_ne_zero (by simp)) h
    rw [figs, List.length_reverse] at this ⊢
    rw [figsL_pos h0, List.length_cons]; omega
theorem root_ge {r : List Nat} {b : Bool} {p : Nat} (ir : IsRow r) : 60 ^ p ≤ Float64.isqrt (nearN r b p) := by
  have h1 := whole_pos (row_ne ir) ir.hd
  have h2 : 1 ≤ (if b then 60 else 1) := by cases b <;> decide
  have h3 : 3600 ^ p ≤ nearN r b p := by
    calc 3600 ^ p = 1 * 1 * 3600 ^ p := by omega
      _ ≤ nearN r b p := Nat.mul_le_mul_right _ (Nat.mul_le_mul h1 h2)
  have h4 := (Float64.isqrt_spec (nearN r b p)).2
  rcases Nat.lt_or_ge (Float64.isqrt (nearN r b p)) (60 ^ p) with h | h
  · have h5 := Nat.mul_le_mul (show Float64.isqrt (nearN r b p) + 1 ≤ 60 ^ p by omega) (show Float64.isqrt (nearN r b p) + 1 ≤ 60 ^ p by omega)
    rw [← Nat.mul_pow] at h5
    have h6 : (60 * 60) ^ p = 3600 ^ p := rfl
    omega
  · exact h
theorem nearF_len {r : List Nat} {b : Bool} {p : Nat} (ir : IsRow r) : (nearF r b p).length = p := by
  have := figs_long p _ (root_ge (b := b) ir)
  unfold nearF
  rw [List.length_take]; omega
theorem nearF_lt {r : List Nat} {b : Bool} {p : Nat} : ∀ d ∈ nearF r b p, d < 60 := fun d hd => figs_lt _ d (List.mem_of_mem_take hd)
theorem nearF_hd {r : List Nat} {b : Bool} {p : Nat} (ir : IsRow r) (hp : 1 ≤ p) : (nearF r b p)[0]? ≠ some 0 := by
  unfold nearF
  rw [List.getElem?_take, if_pos (by omega)]
  exact figs_head (Nat.lt_of_lt_of_le (Nat.pos_of_ne_zero (by simp)) (root_ge (b := b) ir))
theorem sq60 (x e : Nat) : (x * 60 ^ e) * (x * 60 ^ e) = x * x * 3600 ^ e := by
  rw [Nat.mul_mul_mul_comm, ← Nat.mul_pow]
theorem nearF_near {r : List Nat} {b : Bool} {p : Nat} (ir : IsRow r) (hp : 1 ≤ p) (hp6 : p ≤ 6) : Near (whole r * (if b then 60 else 1)) (whole (nearF r b p)) := by
  have hge := root_ge (b := b) (p := p) ir
  have hs : 0 < Float64.isqrt (nearN r b p) := Nat.lt_of_lt_of_le (Nat.pos_of_ne_zero (by simp)) hge
  have hl := figs_long p _ hge
  obtain ⟨e, e1, e2, e3⟩ := figs_take hs (p := p) (by omega)
  obtain ⟨s1, s2⟩ := Float64.isqrt_spec (nearN r b p)
  have hF : whole (nearF r b p) = whole ((figs (Float64.isqrt (nearN r b p))).take p) := rfl
  rw [hF]
  generalize hf : whole ((figs (Float64.isqrt (nearN r b p))).take p) = f at *
  generalize hsq : Float64.isqrt (nearN r b p) = s at *
  have hup : s < 60 ^ (p + 7) := by
    rcases Nat.lt_or_ge s (60 ^ (p + 7)) with h | h
    · exact h
    · have h1 := whole12 ir
      have h2 : (if b then 60 else 1) ≤ 60 := by cases b <;> decide
      have h3 : nearN r b p < 60 ^ 13 * 3600 ^ p := by
        have : whole r * (if b then 60 else 1) < 60 ^ 13 := by
          calc whole r * (if b then 60 else 1) ≤ whole r * 60 := Nat.mul_le_mul_left _ h2
            _ < 60 ^ 13 := by rw [show 60 ^ 13 = 60 ^ 12 * 60 by decide]; omega
        exact Nat.mul_lt_mul_of_pos_right this (Nat.pos_of_ne_zero (by simp))
      have h4 := Nat.mul_le_mul h h
      rw [← Nat.mul_pow] at h4
      have h5 : (60 * 60) ^ (p + 7) = 3600 ^ 7 * 3600 ^ p := by show 3600 ^ (p + 7) = _; rw [Nat.pow_add, Nat.mul_comm]
      rw [h5] at h4
      have h6 : 60 ^ 13 * 3600 ^ p ≤ 3600 ^ 7 * 3600 ^ p := Nat.mul_le_mul_right _ (by decide)
      omega
  have hle := figs_len hup
  have t1 : f * f * 3600 ^ e ≤ whole r * (if b then 60 else 1) * 3600 ^ p := by
    rw [← sq60]; exact Nat.le_trans (Nat.mul_le_mul e2 e2) s1
  have t2 : whole r * (if b then 60 else 1) * 3600 ^ p < (f + 1) * (f + 1) * 3600 ^ e := by
    rw [← sq60]; exact Nat.lt_of_lt_of_le s2 (Nat.mul_le_mul e3 e3)
  generalize whole r * (if b then 60 else 1) = n at *
  have pos : ∀ k, 0 < 3600 ^ k := fun k => Nat.pos_of_ne_zero (by simp)
  rcases Nat.le_total e p with h | h
  · obtain ⟨k, rfl⟩ := Nat.exists_eq_add_of_le h
    refine ⟨k, by omega, .inl ⟨?_, ?_⟩⟩
    · have : f * f * 3600 ^ e ≤ n * 3600 ^ k * 3600 ^ e := by rw [Nat.mul_assoc n, ← Nat.pow_add, Nat.add_comm k e]; exact t1
      exact Nat.le_of_mul_le_mul_right this (pos e)
    · have : n * 3600 ^ k * 3600 ^ e < (f + 1) * (f + 1) * 3600 ^ e := by rw [Nat.mul_assoc n, ← Nat.pow_add, Nat.add_comm k e]; exact t2
      exact Nat.lt_of_mul_lt_mul_right this
  · obtain ⟨k, rfl⟩ := Nat.exists_eq_add_of_le h
    refine ⟨k, by omega, .inr ⟨?_, ?_⟩⟩
    · have : f * f * 3600 ^ k * 3600 ^ p ≤ n * 3600 ^ p := by rw [Nat.mul_assoc (f * f), ← Nat.pow_add, Nat.add_comm k p]; exact t1
      exact Nat.le_of_mul_le_mul_right this (pos p)
    · have : n * 3600 ^ p < (f + 1) * (f + 1) * 3600 ^ k * 3600 ^ p := by rw [Nat.mul_assoc ((f + 1) * (f + 1)), ← Nat.pow_add, Nat.add_comm k p]; exact t2
      exact Nat.lt_of_mul_lt_mul_right this
/-! figures of greater places -/
theorem figs_div : ∀ (j s : Nat), 60 ^ j ≤ s → ∃ l, figs s = figs (s / 60 ^ j) ++ l ∧ l.length = j
  | 0, s, _ => ⟨[], by rw [Nat.pow_zero, Nat.div_one, List.append_nil], rfl⟩
  | j + 1, s, h => by
    have h0 : 0 < s := Nat.lt_of_lt_of_le (nat60 _) h
    have h1 : 60 ^ j ≤ s / 60 := by
      rw [Nat.pow_succ] at h
      exact (Nat.le_div_iff_mul_le (by decide)).mpr h
    obtain ⟨l, e1, e2⟩ := figs_div j (s / 60) h1
    refine ⟨l ++ [s % 60], ?_, by rw [List.length_append, e2]; rfl⟩
    have e3 : figs s = figs (s / 60) ++ [s % 60] := by unfold figs; rw [figsL_pos h0, List.reverse_cons]
    rw [e3, e1, List.append_assoc, Nat.div_div_eq_div_mul, Nat.pow_succ, Nat.mul_comm 60]
theorem isqrt_div (n j : Nat) : Float64.isqrt (n * 3600 ^ j) / 60 ^ j = Float64.isqrt n := by
  obtain ⟨h1, h2⟩ := Float64.isqrt_spec (n * 3600 ^ j)
  have p := nat60 j
  refine (isqrt_eq ?_ ?_).symm
  · have h3 := Nat.div_mul_le_self (Float64.isqrt (n * 3600 ^ j)) (60 ^ j)
    generalize Float64.isqrt (n * 3600 ^ j) / 60 ^ j = q at *
    have h4 := Nat.mul_le_mul h3 h3
    rw [sq60] at h4
    exact Nat.le_of_mul_le_mul_right (Nat.le_trans h4 h1) (Nat.pos_of_ne_zero (by simp))
  · have h3 := Nat.lt_div_mul_add p (a := Float64.isqrt (n * 3600 ^ j))
    have h4 : Float64.isqrt (n * 3600 ^ j) + 1 ≤ (Float64.isqrt (n * 3600 ^ j) / 60 ^ j + 1) * 60 ^ j := by rw [Nat.add_mul]; omega
    generalize Float64.isqrt (n * 3600 ^ j) / 60 ^ j = q at *
    have h5 := Nat.mul_le_mul h4 h4
    rw [sq60] at h5
    exact Nat.lt_of_mul_lt_mul_right (Nat.lt_of_lt_of_le h2 h5)
theorem nearF_take {r : List Nat} {b : Bool} {p q : Nat} (ir : IsRow r) (h : p ≤ q) : nearF r b p = (nearF r b q).take p := by
  obtain ⟨j, rfl⟩ := Nat.exists_eq_add_of_le h
  have e : nearN r b (p + j) = nearN r b p * 3600 ^ j := by unfold nearN; rw [Nat.pow_add, ← Nat.mul_assoc]
  unfold nearF
  rw [e, List.take_take, Nat.min_eq_left (Nat.le_add_right p j)]
  have g : 60 ^ j ≤ Float64.isqrt (nearN r b p * 3600 ^ j) := by
    rw [← e]
    exact Nat.le_trans (Nat.pow_le_pow_right (by decide) (Nat.le_add_left j p)) (root_ge ir)
  obtain ⟨l, e1, e2⟩ := figs_div j _ g
  have fl := figs_long p _ (root_ge (b := b) (p := p) ir)
  rw [e1, isqrt_div, List.take_append_of_le_length (by omega)]
/-- the side's own row with noughts behind -/
theorem near_side_eq {r : List Nat} {s : Nat} {b : Bool} (hs : 0 < s) (e : s * s = whole r * (if b then 60 else 1)) : (rowOf s ++ List.replicate 6 0).take 6 = nearF r b 6 := by
  have e1 : Float64.isqrt (nearN r b 6) = s * 60 ^ 6 := by
    unfold nearN
    rw [← e, ← sq60]
    exact isqrt_eq (Nat.le_refl _) (Nat.mul_lt_mul'' (Nat.lt_succ_self _) (Nat.lt_succ_self _))
  have key : ∀ j m, 0 < m → figs (m * 60 ^ j) = figs m ++ List.replicate j 0 := by
    intro j
    induction j with
    | zero => intro m _; simp
    | succ j ih =>
      intro m hm
      have e3 : m * 60 ^ (j + 1) = m * 60 ^ j * 60 := by rw [Nat.pow_succ, Nat.mul_assoc]
      have p : 0 < m * 60 ^ j * 60 := Nat.mul_pos (Nat.mul_pos hm (nat60 j)) (by decide)
      rw [e3]
      have e4 : figs (m * 60 ^ j * 60) = figs (m * 60 ^ j) ++ [0] := by
        unfold figs
        rw [figsL_pos p, Nat.mul_div_cancel _ (by decide), Nat.mul_mod_left, List.reverse_cons]
      rw [e4, ih m hm, List.append_assoc]
      congr 1
      rw [show (0 : Nat) :: [] = List.replicate 1 0 from rfl, List.replicate_append_replicate]
  obtain ⟨p0, _, k, ek⟩ := strip_spec s hs
  unfold nearF
  rw [e1]
  have e5 : figs (s * 60 ^ 6) = rowOf s ++ List.replicate (k + 6) 0 := by
    conv => lhs; rw [ek, Nat.mul_assoc, ← Nat.pow_add]
    rw [key _ _ p0]; rfl
  rw [e5, List.take_append, List.take_append, List.take_replicate, List.take_replicate]
  congr 2
  omega
end Sx
end
section
/-! sides: arithmetic -/
open PySem L2 RT Sx
namespace Sx
def sideW (n : Nat) : Option String :=
  if val 2 n % 2 ≠ 0 then some "two" else if (val 3 n + val 5 n) % 2 ≠ 0 then some "three" else if Float64.isqrt (leftN n) * Float64.isqrt (leftN n) ≠ leftN n then some "left" else none
theorem sq_of_even {n a b c u v : Nat} (f : n = 2 ^ (2 * a) * (3 ^ (2 * b) * (5 ^ (2 * c) * u))) (hu : v * v = u) : (2 ^ a * (3 ^ b * (5 ^ c * v))) * (2 ^ a * (3 ^ b * (5 ^ c * v))) = n := by
  rw [f, ← hu, Nat.two_mul, Nat.two_mul, Nat.two_mul, Nat.pow_add, Nat.pow_add, Nat.pow_add]
  ac_rfl
theorem side_sq {n : Nat} (hn : 0 < n) (h : sideW n = none) : ∃ s, s * s = n * (if val 3 n % 2 = 0 then 1 else 60) := by
  unfold sideW at h
  by_cases h2 : val 2 n % 2 ≠ 0
  · rw [if_pos h2] at h; cases h
  rw [if_neg h2] at h
  by_cases h3 : (val 3 n + val 5 n) % 2 ≠ 0
  · rw [if_pos h3] at h; cases h
  rw [if_neg h3] at h
  by_cases h4 : Float64.isqrt (leftN n) * Float64.isqrt (leftN n) ≠ leftN n
  · rw [if_pos h4] at h; cases h
  have hu : Float64.isqrt (leftN n) * Float64.isqrt (leftN n) = leftN n := Decidable.not_not.mp h4
  have f := (fac_of hn).eq
  generalize Float64.isqrt (leftN n) = v at *
  generalize leftN n = u at *
  generalize val 2 n = a at *
  generalize val 3 n = b at *
  generalize val 5 n = c at *
  obtain ⟨a', rfl⟩ : ∃ k, a = 2 * k := ⟨a / 2, by omega⟩
  by_cases hb : b % 2 = 0
  · obtain ⟨b', rfl⟩ : ∃ k, b = 2 * k := ⟨b / 2, by omega⟩
    obtain ⟨c', rfl⟩ : ∃ k, c = 2 * k := ⟨c / 2, by omega⟩
    rw [if_pos hb]
    exact ⟨_, (sq_of_even f hu).trans (Nat.mul_one n).symm⟩
  · obtain ⟨b', rfl⟩ : ∃ k, b = 2 * k + 1 := ⟨b / 2, by omega⟩
    obtain ⟨c', rfl⟩ : ∃ k, c = 2 * k + 1 := ⟨c / 2, by omega⟩
    rw [if_neg hb]
    refine ⟨_, sq_of_even (a := a' + 1) (b := b' + 1) (c := c' + 1) ?_ hu⟩
    rw [f, show 2 * (a' + 1) = 2 * a' + 2 by omega, show 2 * (b' + 1) = 2 * b' + 1 + 1 by omega, show 2 * (c' + 1) = 2 * c' + 1 + 1 by omega, Nat.pow_add 2, Nat.pow_succ 3 (2 * b' + 1), Nat.pow_succ 5 (2 * c' + 1), show (60 : Nat) = 2 ^ 2 * (3 * 5) by decide]
    ac_rfl
end Sx
end
section
/-! squares and sides, over data -/
open PySem L2 RT Sx Dx
local macro_rules | `(tactic| walk_at "d") => `(tactic| first
  | ((with_reducible refine' d_var ?k1 ?_); (case k1 => rfl))
  | with_reducible refine' d_c ?_
  | with_reducible refine' d_op ?_
  | with_reducible refine' d_cons ?_
  | with_reducible refine' d_nil ?_
  | with_reducible refine' d_seq ?_
  | ((with_reducible refine' d_asg1 ?_); try dsimp -proj only [List.set_cons_zero, List.set_cons_succ])
  | with_reducible refine' d_asg ?_
  | with_reducible refine' d_cb ?_
  | ((with_reducible refine' d_asgN ?_); try dsimp -proj only [List.set_cons_zero, List.set_cons_succ])
  | ((with_reducible refine' d_bnm ?_); try dsimp -proj only [List.set_cons_zero, List.set_cons_succ])
  | with_reducible refine' d_btp ?_
  | with_reducible refine' d_bcons ?_
  | with_reducible refine' d_bnil ?_
  | ((with_reducible refine' d_slO ?k1 ?_); (case k1 => rfl))
  | ((with_reducible refine' d_lenO ?k1 ?_); (case k1 => rfl))
  | ((with_reducible refine' d_ixO ?k1 ?_); (case k1 => rfl))
  | ((with_reducible refine' d_app ?k1 ?_); (case k1 => rfl))
  | ((with_reducible refine' d_frz ?k1 ?_); (case k1 => rfl); try dsimp -proj only [List.set_cons_zero, List.set_cons_succ, frzS])
  | with_reducible refine' d_lnil ?_
  | with_reducible refine' d_lcons ?_
  | with_reducible refine' d_gcd ?_
  | ((with_reducible refine' d_revO ?k1 ?_); (case k1 => rfl))
  | with_reducible refine' d_revL ?_
  | with_reducible refine' d_rev ?_
  | with_reducible refine' d_exrevL ?_
  | with_reducible refine' d_exrevT ?_
  | with_reducible refine' d_lc ?_
  | with_reducible refine' d_rng1 ?_
  | with_reducible refine' d_rng2 ?_
  | ((with_reducible refine' d_exrng ?k1 ?_); (case k1 => omega))
  | ((with_reducible refine' d_exrng2 ?k1 ?k2 ?_); (case k1 => omega); (case k2 => omega))
  | ((with_reducible refine' d_sz ?k1 ?_); (case k1 => simp; done))
  | with_reducible refine' d_tupQ ?_
  | with_reducible refine' d_lstQ ?_
  | with_reducible refine' d_callX ?_
  | with_reducible refine' d_call0 ?_
  | with_reducible refine' d_ifS ?_
  | with_reducible refine' d_B ?_
  | with_reducible refine' d_exbl ?_
  | with_reducible refine' d_ret ?_
  | with_reducible refine' d_drop ?_
  | with_reducible refine' d_next ?_
  | with_reducible refine' d_chain ?_
  | with_reducible refine' d_and ?_
  | with_reducible refine' d_or ?_
  | with_reducible refine' d_not ?_
  | with_reducible refine' d_andV ?_
  | with_reducible refine' d_orV ?_
  | with_reducible refine' d_notV ?_
  | with_reducible refine' d_neR ?_
  | with_reducible refine' d_eqR ?_
  | with_reducible refine' d_ccons ?_
  | ((with_reducible refine' d_cnil ?_); try dsimp -proj only [List.nil_append, List.cons_append])
  | with_reducible refine' d_listOf ?_
  | with_reducible refine' d_oflT ?_
  | with_reducible refine' d_oflL ?_
  | with_reducible refine' d_exsR ?_
  | with_reducible refine' d_lenR ?_
  | with_reducible refine' d_join ?_
  | with_reducible refine' d_split ?_
  | with_reducible refine' d_exstr ?_
  | with_reducible refine' d_asgL ?_
  | with_reducible refine' d_fzD ?_
  | with_reducible refine' d_dc ?_
  | with_reducible refine' d_notInK ?_
  | with_reducible refine' d_inK ?_
  | with_reducible refine' d_getK ?_
  | with_reducible refine' d_exks ?_
  | with_reducible refine' d_raise0 ?_
  | ((with_reducible refine' d_strN ?k1 ?_); (case k1 => omega))
  | with_reducible refine' d_if ?_
  | with_reducible refine' d_un ?_
  | with_reducible refine' d_fz ?_
  | with_reducible refine' d_addN ?_
  | ((with_reducible refine' d_subN ?k1 ?_); (case k1 => omega))
  | ((with_reducible refine' d_mdN ?k1 ?_); (case k1 => omega))
  | ((with_reducible refine' d_fdN ?k1 ?k2 ?_); (case k1 => omega); (case k2 => omega))
  | ((with_reducible refine' d_mulL ?k1 ?k2 ?_); (case k1 => omega); (case k2 => omega))
  | with_reducible refine' d_ltN ?_
  | with_reducible refine' d_leN ?_
  | with_reducible refine' d_gtN ?_
  | with_reducible refine' d_geN ?_
  | with_reducible refine' d_eqN ?_
  | with_reducible refine' d_neN ?_
  | with_reducible refine' d_negN ?_
  | with_reducible refine' d_bit ?_
  | ((with_reducible refine' d_lenT ?_); try rw [List.length_map])
  | ((with_reducible refine' d_lenL ?_); try rw [List.length_map])
  | ((with_reducible refine' d_aug ?k1 ?_); (case k1 => rfl))
  | with_reducible refine' d_slTA ?_
  | with_reducible refine' d_slTo ?_
  | with_reducible refine' d_slFrom ?_
  | with_reducible refine' d_slMid ?_
  | with_reducible refine' d_slT0 ?_
  | ((with_reducible refine' d_catR ?k1 ?_); (case k1 => simp only [List.length_take, List.length_drop, List.length_append, List.length_cons, List.length_nil]; omega))
  | ((with_reducible refine' d_catR1 ?k1 ?_); (case k1 => simp only [List.length_take, List.length_drop, List.length_append, List.length_cons, List.length_nil]; omega))
  | ((with_reducible refine' d_catR2 ?k1 ?_); (case k1 => simp only [List.length_take, List.length_drop, List.length_append, List.length_cons, List.length_nil]; omega))
  | with_reducible refine' d_sumR ?_
  | with_reducible refine' d_revT ?_
  | with_reducible refine' d_keysW ?_
  | with_reducible refine' d_isNN ?_
  | with_reducible refine' d_isNT ?_
  | with_reducible refine' d_notNN ?_
  | with_reducible refine' d_notNT ?_
  | with_reducible refine' d_notNR ?_
  | with_reducible refine' d_isNR ?_
  | with_reducible refine' d_eqNR ?_
  | with_reducible refine' d_neNR ?_
  | with_reducible refine' d_neStr ?_
  | with_reducible refine' d_eqStr ?_
  | with_reducible refine' d_slL ?_
  | with_reducible refine' d_exsT ?_
  | with_reducible refine' d_exsL ?_
  | with_reducible refine' d_nopart ?_
  | with_reducible refine' dw_part ?_
  | with_reducible refine' d_exint ?_
  | with_reducible refine' d_yes1 ?_
  | with_reducible refine' d_itT ?_
  | with_reducible refine' d_itL ?_
  | with_reducible refine' d_itK ?_
  | with_reducible refine' d_exsK ?_
  | with_reducible refine' d_for ?_
  | with_reducible refine' d_tupL ?_
  | with_reducible refine' d_tupT ?_
  | with_reducible refine' i_iteT ?_
  | with_reducible refine' i_iteNT ?_
  | with_reducible refine' i_iteNF ?_
  | with_reducible refine' i_iteF ?_
  | ((with_reducible refine' i_yes ?k1 ?_); (case k1 => omega))
  | ((with_reducible refine' i_nay ?k1 ?_); (case k1 => omega))
  | ((with_reducible refine' i_yesN ?k1 ?_); (case k1 => omega))
  | ((with_reducible refine' i_nayN ?k1 ?_); (case k1 => omega))
  | ((with_reducible refine' i_yesS ?k1 ?_); (case k1 => decide))
  | ((with_reducible refine' i_nayS ?k1 ?_); (case k1 => decide))
  | ((with_reducible refine' i_yesSN ?k1 ?_); (case k1 => decide))
  | ((with_reducible refine' i_naySN ?k1 ?_); (case k1 => decide)))
local macro_rules | `(tactic| walk_at "dgo") => `(tactic| (repeat walk_at "d"; try dsimp -proj only [List.set_cons_zero, List.set_cons_succ]))
namespace Dx
def sp_squared : DSp := fun xs P X => (∃ r, IsRow r ∧ xs = [rowD r] ∧ P (rowD (rowOf (whole r * whole r)))) ∨ ∃ r, rowB r = false ∧ xs = [rowI r] ∧ X 1 []
def sp_side : DSp := fun xs P X => (∃ r, IsRow r ∧ xs = [rowD r] ∧ (∀ z, sideW (whole r) = some z → X 3 [.str z]) ∧
    (sideW (whole r) = none → ∀ s, 0 < s → s < 60 ^ 7 → (s * s = whole r ∨ s * s = whole r * 60) → P (rowD (rowOf s)))) ∨ ∃ r, rowB r = false ∧ xs = [rowI r] ∧ X 1 []
def d_squared : DS := (dRet (dCallX sp_times (dCons (dVar 0) (dCons (dVar 0) dNil))))
def d_side : DS := (dSeq (dAsg (.tp [(.tp [(.nm 1), (.nm 2), (.nm 3)]), (.nm 4)]) (dCallX sp_factors (dCons (dVar 0) dNil)))
  (dSeq (dIfS (dB (dOp dNeS (dOp dMd (dVar 1) (dC (nat 2))) (dC (nat 0)))) (dRaise 3 (dCons (dC (.str "two")) dNil)) dNext)
  (dSeq (dIfS (dB (dOp dNeS (dOp dMd (dOp dSub (dVar 2) (dVar 3)) (dC (nat 2))) (dC (nat 0)))) (dRaise 3 (dCons (dC (.str "three")) dNil)) dNext)
  (dSeq (dIfS (dB (dOp dNeS (dOp dMul (dCB dIsqrt (dCons (dVar 4) dNil)) (dCB dIsqrt (dCons (dVar 4) dNil))) (dVar 4))) (dRaise 3 (dCons (dC (.str "left")) dNil)) dNext)
  (dSeq (dAsg (.nm 5) (dCallX sp_whole_of (dCons (dVar 0) dNil)))
  (dSeq (dIfS (dB (dOp dNeS (dOp dMd (dVar 2) (dC (nat 2))) (dC (nat 0)))) (dAug 5 dMul (dC (nat 60))) dNext)
  (dRet (dCallX sp_row_of (dCons (dCB dIsqrt (dCons (dVar 5) dNil)) dNil)))))))))

section
variable {xs : List Dt} {P : Dt → Prop} {X : DX}
theorem d_mdI {i : Int} {b : Nat} (h : 0 < b) (q : P (nat (i % (b : Int)).toNat)) : dMd (.int i) (nat b) P := ⟨i, b, rfl, rfl, by show (0 : Int) < (b : Int); omega, by
  have h0 : 0 ≤ i % (b : Int) := Int.emod_nonneg _ (by omega)
  exact cast_int (by omega) q⟩
theorem dp_squared (h : sp_squared xs P X) : d_squared (dEnds P) X (startD xs (1 - xs.length)) := by
  unfold d_squared
  rcases h with ⟨r, ir, rfl, q⟩ | ⟨r, hr, rfl, q⟩
  · show (dRet _) (dEnds P) X [.v (rowD r)]
    walk_at "dgo"
    exact .inl ⟨r, r, ir, ir, rfl, q⟩
  · show (dRet _) (dEnds P) X [.v (rowI r)]
    walk_at "dgo"
    exact .inr (.inl ⟨r, _, hr, rfl, q⟩)
theorem dp_side (h : sp_side xs P X) : d_side (dEnds P) X (startD xs (6 - xs.length)) := by
  unfold d_side
  rcases h with ⟨r, ir, rfl, qE, q⟩ | ⟨r, hr, rfl, q⟩
  · show (dSeq _ _) (dEnds P) X [.v (rowD r), .un, .un, .un, .un, .un]
    have n1 := whole_pos (row_ne ir) ir.hd
    have b1 := whole12 ir
    walk_at "dgo"
    refine .inl ⟨r, ir, rfl, ?_⟩
    have sq := side_sq n1
    have ll := left_le n1
    unfold facD
    walk_at "dgo"
    by_cases e2 : val 2 (whole r) % 2 = 0
    case neg =>
      refine i_yesN e2 ?_
      walk_at "dgo"
      exact ⟨rfl, qE "two" (by unfold sideW; rw [if_pos e2])⟩
    refine i_nayN e2 ?_
    walk_at "dgo"
    refine d_subI ?_
    walk_at "dgo"
    refine d_mdI (by decide) ?_
    walk_at "dgo"
    have e3' : (((val 3 (whole r) : Int) - (val 5 (whole r) : Int)) % ((2 : Nat) : Int)).toNat = (val 3 (whole r) + val 5 (whole r)) % 2 := by omega
    rw [e3']
    by_cases e3 : (val 3 (whole r) + val 5 (whole r)) % 2 = 0
    case neg =>
      refine i_yesN e3 ?_
      walk_at "dgo"
      exact ⟨rfl, qE "three" (by unfold sideW; rw [if_neg (fun z => z e2), if_pos e3])⟩
    refine i_nayN e3 ?_
    walk_at "dgo"
    refine ⟨_, rfl, by omega, ?_⟩
    walk_at "dgo"
    refine ⟨_, rfl, by omega, ?_⟩
    have hq := isqrt_le (leftN (whole r))
    refine d_mulL (by omega) (by omega) ?_
    walk_at "dgo"
    by_cases e4 : Float64.isqrt (leftN (whole r)) * Float64.isqrt (leftN (whole r)) = leftN (whole r)
    case neg =>
      refine i_yesN e4 ?_
      walk_at "dgo"
      exact ⟨rfl, qE "left" (by unfold sideW; rw [if_neg (fun z => z e2), if_neg (fun z => z e3), if_pos e4])⟩
    have nn : sideW (whole r) = none := by unfold sideW; rw [if_neg (fun z => z e2), if_neg (fun z => z e3), if_neg (fun z => z e4)]
    refine i_nayN e4 ?_
    walk_at "dgo"
    refine .inl ⟨r, ir, rfl, ?_⟩
    walk_at "dgo"
    obtain ⟨s, es⟩ := sq nn
    have tail : ∀ m, s * s = m → 0 < m → m ≤ whole r * 60 → (m = whole r ∨ m = whole r * 60) → (dRet (dCallX sp_row_of (dCons (dCB dIsqrt (dCons (dVar 5) dNil)) dNil))) (dEnds P) X
        [.v (rowD r), .v (nat (val 2 (whole r))), .v (nat (val 3 (whole r))), .v (nat (val 5 (whole r))), .v (nat (leftN (whole r))), .v (nat m)] := by
      intro m hm mp ml mw
      walk_at "dgo"
      refine ⟨_, rfl, by omega, ?_⟩
      have ei : Float64.isqrt m = s := isqrt_eq (by omega) (by rw [← hm]; exact Nat.mul_lt_mul'' (by omega) (by omega))
      rw [ei]
      have sp : 0 < s := Nat.pos_of_ne_zero fun z => by rw [z] at hm; omega
      have sl : s < 60 ^ 7 := by
        rcases Nat.lt_or_ge s (60 ^ 7) with h | h
        · exact h
        · have := Nat.mul_le_mul h h; omega
      walk_at "dgo"
      exact ⟨s, rfl, sp, Nat.lt_trans (log2_lt (k := 60) (Nat.lt_trans sl (by decide)) (by decide)) (by decide), q nn s sp sl (mw.imp (fun h => hm.trans h) fun h => hm.trans h)⟩
    by_cases e5 : val 3 (whole r) % 2 = 0
    · rw [if_pos e5] at es
      refine i_nayN e5 ?_
      walk_at "d"
      exact tail (whole r) (by omega) n1 (by omega) (.inl rfl)
    · rw [if_neg e5] at es
      refine i_yesN e5 ?_
      walk_at "d"
      walk_at "d"
      walk_at "d"
      walk_at "d"
      exact tail (whole r * 60) es (by omega) (by omega) (.inr rfl)
  · show (dSeq _ _) (dEnds P) X [.v (rowI r), .un, .un, .un, .un, .un]
    walk_at "dgo"
    exact .inr ⟨r, hr, rfl, q⟩
end
end Dx
end
section
/-! near sides, over data -/
open PySem L2 RT Sx Dx
local macro_rules | `(tactic| walk_at "d") => `(tactic| first
  | ((with_reducible refine' d_var ?k1 ?_); (case k1 => rfl))
  | with_reducible refine' d_c ?_
  | with_reducible refine' d_op ?_
  | with_reducible refine' d_cons ?_
  | with_reducible refine' d_nil ?_
  | with_reducible refine' d_seq ?_
  | ((with_reducible refine' d_asg1 ?_); try dsimp -proj only [List.set_cons_zero, List.set_cons_succ])
  | with_reducible refine' d_asg ?_
  | with_reducible refine' d_cb ?_
  | ((with_reducible refine' d_asgN ?_); try dsimp -proj only [List.set_cons_zero, List.set_cons_succ])
  | ((with_reducible refine' d_bnm ?_); try dsimp -proj only [List.set_cons_zero, List.set_cons_succ])
  | with_reducible refine' d_btp ?_
  | with_reducible refine' d_bcons ?_
  | with_reducible refine' d_bnil ?_
  | ((with_reducible refine' d_slO ?k1 ?_); (case k1 => rfl))
  | ((with_reducible refine' d_lenO ?k1 ?_); (case k1 => rfl))
  | ((with_reducible refine' d_ixO ?k1 ?_); (case k1 => rfl))
  | ((with_reducible refine' d_app ?k1 ?_); (case k1 => rfl))
  | ((with_reducible refine' d_frz ?k1 ?_); (case k1 => rfl); try dsimp -proj only [List.set_cons_zero, List.set_cons_succ, frzS])
  | with_reducible refine' d_lnil ?_
  | with_reducible refine' d_lcons ?_
  | with_reducible refine' d_gcd ?_
  | ((with_reducible refine' d_revO ?k1 ?_); (case k1 => rfl))
  | with_reducible refine' d_revL ?_
  | with_reducible refine' d_rev ?_
  | with_reducible refine' d_exrevL ?_
  | with_reducible refine' d_exrevT ?_
  | with_reducible refine' d_lc ?_
  | with_reducible refine' d_rng1 ?_
  | with_reducible refine' d_rng2 ?_
  | ((with_reducible refine' d_exrng ?k1 ?_); (case k1 => omega))
  | ((with_reducible refine' d_exrng2 ?k1 ?k2 ?_); (case k1 => omega); (case k2 => omega))
  | ((with_reducible refine' d_sz ?k1 ?_); (case k1 => simp; done))
  | with_reducible refine' d_tupQ ?_
  | with_reducible refine' d_lstQ ?_
  | with_reducible refine' d_callX ?_
  | with_reducible refine' d_call0 ?_
  | with_reducible refine' d_ifS ?_
  | with_reducible refine' d_B ?_
  | with_reducible refine' d_exbl ?_
  | with_reducible refine' d_ret ?_
  | with_reducible refine' d_drop ?_
  | with_reducible refine' d_next ?_
  | with_reducible refine' d_chain ?_
  | with_reducible refine' d_and ?_
  | with_reducible refine' d_or ?_
  | with_reducible refine' d_not ?_
  | with_reducible refine' d_andV ?_
  | with_reducible refine' d_orV ?_
  | with_reducible refine' d_notV ?_
  | with_reducible refine' d_neR ?_
  | with_reducible refine' d_eqR ?_
  | with_reducible refine' d_ccons ?_
  | ((with_reducible refine' d_cnil ?_); try dsimp -proj only [List.nil_append, List.cons_append])
  | with_reducible refine' d_listOf ?_
  | with_reducible refine' d_oflT ?_
  | with_reducible refine' d_oflL ?_
  | with_reducible refine' d_exsR ?_
  | with_reducible refine' d_lenR ?_
  | with_reducible refine' d_join ?_
  | with_reducible refine' d_split ?_
  | with_reducible refine' d_exstr ?_
  | with_reducible refine' d_asgL ?_
  | with_reducible refine' d_fzD ?_
  | with_reducible refine' d_dc ?_
  | with_reducible refine' d_notInK ?_
  | with_reducible refine' d_inK ?_
  | with_reducible refine' d_getK ?_
  | with_reducible refine' d_exks ?_
  | with_reducible refine' d_raise0 ?_
  | ((with_reducible refine' d_strN ?k1 ?_); (case k1 => omega))
  | with_reducible refine' d_if ?_
  | with_reducible refine' d_un ?_
  | with_reducible refine' d_fz ?_
  | with_reducible refine' d_addN ?_
  | ((with_reducible refine' d_subN ?k1 ?_); (case k1 => omega))
  | ((with_reducible refine' d_mdN ?k1 ?_); (case k1 => omega))
  | ((with_reducible refine' d_fdN ?k1 ?k2 ?_); (case k1 => omega); (case k2 => omega))
  | ((with_reducible refine' d_mulL ?k1 ?k2 ?_); (case k1 => omega); (case k2 => omega))
  | with_reducible refine' d_ltN ?_
  | with_reducible refine' d_leN ?_
  | with_reducible refine' d_gtN ?_
  | with_reducible refine' d_geN ?_
  | with_reducible refine' d_eqN ?_
  | with_reducible refine' d_neN ?_
  | with_reducible refine' d_negN ?_
  | with_reducible refine' d_bit ?_
  | ((with_reducible refine' d_lenT ?_); try rw [List.length_map])
  | ((with_reducible refine' d_lenL ?_); try rw [List.length_map])
  | ((with_reducible refine' d_aug ?k1 ?_); (case k1 => rfl))
  | with_reducible refine' d_slT ?_
  | with_reducible refine' d_slL ?_
  | with_reducible refine' d_exsT ?_
  | with_reducible refine' d_exsL ?_
  | with_reducible refine' d_nopart ?_
  | with_reducible refine' dw_part ?_
  | with_reducible refine' d_exint ?_
  | with_reducible refine' d_yes1 ?_
  | with_reducible refine' d_itT ?_
  | with_reducible refine' d_itL ?_
  | with_reducible refine' d_itK ?_
  | with_reducible refine' d_exsK ?_
  | with_reducible refine' d_for ?_
  | with_reducible refine' d_tupL ?_
  | with_reducible refine' d_tupT ?_
  | with_reducible refine' i_iteT ?_
  | with_reducible refine' i_iteNT ?_
  | with_reducible refine' i_iteNF ?_
  | with_reducible refine' i_iteF ?_
  | ((with_reducible refine' i_yes ?k1 ?_); (case k1 => omega))
  | ((with_reducible refine' i_nay ?k1 ?_); (case k1 => omega))
  | ((with_reducible refine' i_yesN ?k1 ?_); (case k1 => omega))
  | ((with_reducible refine' i_nayN ?k1 ?_); (case k1 => omega)))
local macro_rules | `(tactic| walk_at "dgo") => `(tactic| (repeat walk_at "d"; try dsimp -proj only [List.set_cons_zero, List.set_cons_succ]))
namespace Dx
def sp_near_side : DSp := fun xs P X => (∃ r b, ∃ p : Nat, IsRow r ∧ xs = [rowD r, .bl b, nat p] ∧ p ≤ 10 ∧ P (rowD (nearF r b p))) ∨ ∃ r y z, rowB r = false ∧ xs = [rowI r, y, z] ∧ X 1 []
def sp__law_whole : DSp := fun xs P _ => ∃ n : Nat, xs = [nat n] ∧ P (.bl true)
def sp__law_is_near : DSp := fun xs P _ => ∃ n f : Nat, xs = [nat n, nat f] ∧ 0 < f ∧ n < 2 ^ 200 ∧ f < 2 ^ 200 ∧ Near n f ∧ P (.bl true)
def d_near_side : DS := (dSeq (dAsg (.nm 3) (dCallX sp_whole_of (dCons (dVar 0) dNil)))
  (dSeq (dIfS (dB (dVar 1)) (dAug 3 dMul (dC (nat 60))) dNext)
  (dSeq (dFor (dRng1 (dCons (dVar 2) dNil)) (.nm 4)
  (dAug 3 dMul (dC (nat 3600))))
  (dRet (dSlT (dCallX sp_figures_of (dCons (dCB dIsqrt (dCons (dVar 3) dNil)) dNil)) dNoPart (dPart (dVar 2)))))))
def d__law_whole : DS := (dRet (dAndV (dCB dIsi (dCons (dVar 0) (dCons (dC (.ty "int")) dNil))) (dNotV (dCB dIsi (dCons (dVar 0) (dCons (dC (.ty "bool")) dNil))))))
def d__law_is_near : DS := (dSeq (dAsg (.nm 2) (dOp dMul (dVar 1) (dVar 1)))
  (dSeq (dAsg (.nm 3) (dOp dMul (dOp dAdd (dVar 1) (dC (nat 1))) (dOp dAdd (dVar 1) (dC (nat 1)))))
  (dSeq (dFor (dRng1 (dCons (dC (nat 30)) dNil)) (.nm 4)
  (dSeq (dIfS (dAnd (dB (dOp dLe (dVar 2) (dVar 0))) (dB (dOp dLt (dVar 0) (dVar 3)))) (dRet (dC (.bl true))) dNext)
  (dIfS (dB (dOp dLt (dVar 0) (dVar 2))) (dAsg (.nm 0) (dOp dMul (dVar 0) (dC (nat 3600)))) (dSeq (dAsg (.nm 2) (dOp dMul (dVar 2) (dC (nat 3600))))
  (dSeq (dAsg (.nm 3) (dOp dMul (dVar 3) (dC (nat 3600))))
  (dIfS (dB (dOp dLt (dVar 0) (dVar 2))) (dRet (dC (.bl false))) dNext))))))
  (dRet (dC (.bl false))))))

section
variable {xs : List Dt} {P : Dt → Prop} {X : DX}
theorem dp_near_side (h : sp_near_side xs P X) : d_near_side (dEnds P) X (startD xs (5 - xs.length)) := by
  unfold d_near_side
  rcases h with ⟨r, b, p, ir, rfl, hp, q⟩ | ⟨r, y, z, hr, rfl, q⟩
  · show (dSeq _ _) (dEnds P) X [.v (rowD r), .v (.bl b), .v (nat p), .un, .un]
    have w1 := whole12 ir
    have tail : ∀ m : Nat, m = whole r * (if b then 60 else 1) → dLoop (.nm 4) (dAug 3 dMul (dC (nat 3600))) { dEnds P with nx := dRet (dSlT (dCallX sp_figures_of (dCons (dCB dIsqrt (dCons (dVar 3) dNil)) dNil)) dNoPart (dPart (dVar 2))) (dEnds P) X } X ((List.range p).map nat) [.v (rowD r), .v (.bl b), .v (nat p), .v (nat m), .un] := by
      intro m hm
      refine d_loop (fun i ρ => ∃ s, ρ = [.v (rowD r), .v (.bl b), .v (nat p), .v (nat (m * 3600 ^ i)), s]) ⟨.un, by rw [Nat.pow_zero, Nat.mul_one]⟩ ?_ ?_
      · rintro i x ρ N hx ⟨s, rfl⟩ hN
        obtain ⟨hi, rfl⟩ := range_get hx
        walk_at "dgo"
        have e : m * 3600 ^ i = nearN r b i := by rw [hm]; rfl
        have hz := nearN_lt (b := b) ir (show i ≤ 10 by omega)
        refine d_mulL (by omega) (by omega) ?_
        walk_at "dgo"
        exact hN _ ⟨_, by rw [Nat.pow_succ, Nat.mul_assoc]⟩
      · rintro ρ ⟨s, rfl⟩
        simp only [List.length_map, List.length_range]
        have e : m * 3600 ^ p = nearN r b p := by rw [hm]; rfl
        have hz := nearN_lt (b := b) ir hp
        rw [e]
        walk_at "dgo"
        refine ⟨_, rfl, by omega, ?_⟩
        walk_at "dgo"
        have hge := root_ge (b := b) (p := p) ir
        have hpos : 0 < 60 ^ p := nat60 p
        have hz2 := isqrt_le (nearN r b p)
        refine ⟨_, rfl, by omega, Nat.lt_trans (log2_lt (k := 200) (Nat.lt_of_le_of_lt hz2 hz) (by decide)) (by decide), ?_⟩
        unfold rowD
        walk_at "dgo"
        rw [cutD_to, rowD_take]
        exact q
    walk_at "dgo"
    refine .inl ⟨r, ir, rfl, ?_⟩
    walk_at "dgo"
    cases b with
    | true =>
      walk_at "dgo"
      exact tail (whole r * 60) rfl
    | false =>
      walk_at "dgo"
      exact tail (whole r) (by simp)
  · show (dSeq _ _) (dEnds P) X [.v (rowI r), .v y, .v z, .un, .un]
    walk_at "dgo"
    exact .inr ⟨r, hr, rfl, q⟩
/-! the law's own looks -/
theorem dp__law_whole (h : sp__law_whole xs P X) : d__law_whole (dEnds P) X (startD xs (1 - xs.length)) := by
  obtain ⟨n, rfl, q⟩ := h
  show d__law_whole (dEnds P) X [.v (nat n)]
  unfold d__law_whole
  walk_at "dgo"
  refine ⟨nat n, "int", "int", true, rfl, rfl, by decide +kernel, ?_⟩
  walk_at "dgo"
  refine ⟨nat n, "int", "bool", false, rfl, rfl, by decide +kernel, ?_⟩
  walk_at "dgo"
  exact q
theorem dp__law_is_near (h : sp__law_is_near xs P X) : d__law_is_near (dEnds P) X (startD xs (5 - xs.length)) := by
  obtain ⟨n, f, rfl, h0, hn, hf, ⟨k, hk, hN⟩, q⟩ := h
  show d__law_is_near (dEnds P) X [.v (nat n), .v (nat f), .un, .un, .un]
  unfold d__law_is_near
  have b30 : ∀ i, i ≤ 12 → 3600 ^ i ≤ 3600 ^ 12 := fun i h => Nat.pow_le_pow_right (by decide) h
  have h3600 : 3600 ^ 12 < 2 ^ 200 := by decide
  have hff : f * f < 2 ^ 400 := by
    calc f * f < 2 ^ 200 * 2 ^ 200 := Nat.mul_lt_mul'' hf hf
      _ = 2 ^ 400 := by decide
  have hff1 : (f + 1) * (f + 1) < 2 ^ 402 := by
    calc (f + 1) * (f + 1) < 2 ^ 201 * 2 ^ 201 := Nat.mul_lt_mul'' (by omega) (by omega)
      _ = 2 ^ 402 := by decide
  have big : ∀ m i : Nat, m < 2 ^ 402 → i ≤ 12 → m * 3600 ^ i < 2 ^ 700 := fun m i hm hi => by
    calc m * 3600 ^ i < 2 ^ 402 * 2 ^ 200 := Nat.mul_lt_mul'' hm (Nat.lt_of_le_of_lt (b30 i hi) h3600)
      _ = 2 ^ 602 := by rw [← Nat.pow_add]
      _ < 2 ^ 700 := Nat.pow_lt_pow_right (by decide) (by decide)
  have up : ∀ (m : Nat) (P : Dt → Prop), m < 2 ^ 700 → P (nat (m * 3600)) → dMul (nat m) (nat 3600) P := fun m P hm q => d_mulN (p := 700) (q' := 12) hm (by decide) (by decide) (by decide) (by decide) q
  walk_at "dgo"
  rcases hN with ⟨ha, hb⟩ | ⟨ha, hb⟩
  · refine d_loop (fun i ρ => i ≤ k ∧ ∃ s, ρ = [.v (nat (n * 3600 ^ i)), .v (nat f), .v (nat (f * f)), .v (nat ((f + 1) * (f + 1))), s]) ⟨Nat.zero_le _, .un, by rw [Nat.pow_zero, Nat.mul_one]⟩ ?_ ?_
    · rintro i x ρ N hx ⟨hik, s, rfl⟩ hN
      walk_at "dgo"
      rcases Nat.lt_or_ge i k with hlt | hge
      · have hlo := near_lo h0 hlt hb
        refine i_nay (by omega) ?_
        walk_at "dgo"
        refine up _ _ (big n i (by omega) (by omega)) ?_
        exact hN _ ⟨by omega, _, by rw [Nat.pow_succ, Nat.mul_assoc]⟩
      · obtain rfl : i = k := by omega
        refine i_yes ha ?_
        walk_at "dgo"
        exact q
    · rintro ρ ⟨hik, _⟩
      simp only [List.length_map, List.length_range] at hik
      omega
  · refine d_loop (fun i ρ => i ≤ k ∧ ∃ s, ρ = [.v (nat n), .v (nat f), .v (nat (f * f * 3600 ^ i)), .v (nat ((f + 1) * (f + 1) * 3600 ^ i)), s]) ⟨Nat.zero_le _, .un, by rw [Nat.pow_zero, Nat.mul_one, Nat.mul_one]⟩ ?_ ?_
    · rintro i x ρ N hx ⟨hik, s, rfl⟩ hN
      walk_at "dgo"
      have hle : f * f * 3600 ^ i ≤ n := Nat.le_trans (Nat.mul_le_mul_left _ (Nat.pow_le_pow_right (by decide) hik)) ha
      refine i_yes hle ?_
      walk_at "dgo"
      rcases Nat.lt_or_ge i k with hlt | hge
      · have hhi := near_hi h0 hlt ha
        refine i_nay (by omega) ?_
        walk_at "dgo"
        have hle2 : f * f * 3600 ^ (i + 1) ≤ n := Nat.le_trans (Nat.mul_le_mul_left _ (Nat.pow_le_pow_right (by decide) hlt)) ha
        have e1 : f * f * 3600 ^ i * 3600 = f * f * 3600 ^ (i + 1) := by rw [Nat.pow_succ, Nat.mul_assoc]
        have e2 : (f + 1) * (f + 1) * 3600 ^ i * 3600 = (f + 1) * (f + 1) * 3600 ^ (i + 1) := by rw [Nat.pow_succ, Nat.mul_assoc]
        refine i_nay (by omega) ?_
        walk_at "dgo"
        exact hN _ ⟨by omega, _, by rw [e1, e2]⟩
      · obtain rfl : i = k := by omega
        refine i_yes hb ?_
        walk_at "dgo"
        exact q
    · rintro ρ ⟨hik, _⟩
      simp only [List.length_map, List.length_range] at hik
      omega
end
end Dx
end
section
/-! a lambda made: just what changes -/
namespace LamP
open PySem PySem.Spec PyProof.Rows L2 LamX
/-- all but the table stays -/
def ExtP (P : Addr) (H H1 : Hp) : Prop := ∀ b o, b ≠ P → H b = some o → H1 b = some o
section
variable {X : Cx} {pins : List (Addr × Obj)} {σ : L2.St} {H : Hp} {s : Shared}
theorem makeP {c P : Addr} {pr : Arguments} {bd : Expr} {sc : Scope} {pos : Pos} {E Q : Value → Shared → Prop} (J : Inv X pins σ H s) (B : TabB X.base X.mg c P) (hcode : X.env.code = .ref c) (tS : TabS H P (X.env.qual ++ "<lambda>"))
    (hd : defaultsOf pr X.env = ([], [])) (hfr : ∀ y ∈ sc.names, y.2 = .free → ∃ c, X.env.cells.lookup y.1 = some c)
    (k : ∀ (f d : Addr) (pm ctv : Value) (H1 : Hp) (s' : Shared), Inv X pins σ H1 s' → ExtP P H H1 → TabS H1 P (X.env.qual ++ "<lambda>") →
      s'.heap.get? f = some (PySem.W.kla_obj "<lambda>" (X.env.qual ++ "<lambda>") pr bd sc (cloFrom X.env.cells sc.names []) pm d ctv) → H1 f = none → f ∉ frs X.stack → H1 d = some (CodeO d (X.env.qual ++ "<lambda>")) → Q (.ref f) s') :
    wpAny (model X.prog X.w) X.A (eval (.Lambda pr bd sc pos) X.env) Q E s := by
  obtain ⟨ps, hP, t3, known⟩ := tS
  refine PySem.W.kla_eval hd ?_
  have bmP := B.bm.keeps J.bk
  have atP : s.heap.get? P = some { cls := .none, data := .fields ps } := J.hok P _ hP
  have far : ∀ f, s.heap.objs.size ≤ f → f ∉ frs X.stack := fun f hf z => (List.mem_cons.mp (J.stkSub _ z)).elim (fun e => Nat.lt_irrefl f (Nat.lt_of_lt_of_le (by rw [e]; exact J.lt) hf)) fun e => J.nofs hf e
  cases hc : codeAmong pos ps.toList with
  | some cv =>
    obtain ⟨d, rfl, hco⟩ := known pos cv hc
    refine PySem.W.kla_makeFunctionHit (mg := X.mg) (c := c) (P := P) (ps := ps) (closure_ok hfr) J.ok.glob (J.mod.glob.keeps J.bk) hcode (B.code.keeps J.bk) atP t3 hc bmP fun ctv h' tk hx hz => ?_
    exact k h'.objs.size d _ ctv H _ (J.kept (t' := tk) fun b o e => Heap.get?_push_of_some _ (hx b o e)) (fun _ _ _ e => e) ⟨ps, hP, t3, known⟩ (Heap.get?_push_size _ rfl) (J.hok.fresh hz) (far _ hz) hco
  | none =>
    refine PySem.W.kla_makeFunction (mg := X.mg) (c := c) (P := P) (ps := ps) (closure_ok hfr) J.ok.glob (J.mod.glob.keeps J.bk) hcode (B.code.keeps J.bk) atP t3 hc B.gP bmP fun d ctv h' tk hx hge hlt hrec htb => ?_
    obtain ⟨d2, oc, vs, t, e2, hoc, hdt, hv⟩ := hrec
    cases e2
    have big : s.heap.objs.size ≤ h'.objs.size := Nat.le_trans hge (Nat.le_of_lt hlt)
    have nD : H d = none := J.hok.fresh hge
    have J1 := inv_table (t' := tk) (more := #[rawInt pos.line, rawInt pos.col, .ref d]) (h' := h'.push (PySem.W.kla_obj "<lambda>" (X.env.qual ++ "<lambda>") pr bd sc (cloFrom X.env.cells sc.names []) ((X.mg "__name__").getD .none) d ctv)) J hP
      (fun b o hb e => Heap.get?_push_of_some _ (hx b o hb e)) (Heap.get?_push_of_some _ htb) hge ⟨oc, vs, t, Heap.get?_push_of_some _ hoc, hdt, hv⟩
    have ext : ExtP P H (upd (upd H P (.tbl (ps ++ #[rawInt pos.line, rawInt pos.col, .ref d]))) d (CodeO d (X.env.qual ++ "<lambda>"))) := fun b o nb e => by
      rw [upd_ne (ne_of_none e nD), upd_ne nb]; exact e
    have eL : (ps ++ #[rawInt pos.line, rawInt pos.col, .ref d]).toList = ps.toList ++ [rawInt pos.line, rawInt pos.col, .ref d] := by simp
    refine k h'.objs.size d _ ctv _ _ J1 ext ⟨_, by rw [upd_ne (ne_of_none hP nD), upd_same], by rw [eL]; exact PySem.TriplesOk_snoc _ _ _ _ t3, fun p cv hcv => ?_⟩ (Heap.get?_push_size _ rfl) ?_ (far _ big) upd_same
    · rw [eL] at hcv
      rcases among_app _ t3 hcv with z | z
      · obtain ⟨c0, e1, e2⟩ := known p cv z
        exact ⟨c0, e1, ext _ _ (fun y => by rw [y, hP] at e2; exact codeO_ne _ (Option.some.inj e2).symm) e2⟩
      · exact ⟨d, z, upd_same⟩
    · rw [upd_ne (Nat.ne_of_gt hlt), upd_ne (Nat.ne_of_gt (Nat.lt_of_lt_of_le (Heap.lt_size atP) big))]
      exact J.hok.fresh big
end
/-- x(lambda: ..) -/
def tLamP (P : Addr) (q : Str) (TT : (XK → Hp → VK → Prop) → Hp → VK → Prop) (t : XK → TE) : TE := fun σ H Q => TabS H P q ∧ ∀ H1, ExtP P H H1 → TabS H1 P q → TT (fun E H' Q' => t E σ H' Q') H1 Q
theorem pe_lamP {X : Cx} {TT : (XK → Hp → VK → Prop) → Hp → VK → Prop} {x a : Str} {g c P : Addr} {k : Nat} {pg : Arguments} {bg : List Stmt} {sg : Scope} {dV kV doc pm cdv ct oc : Value} {an od : Option Addr} {osl : Array (Option Value)} {Ng : List Str}
    {pr : Arguments} {bd : Expr} {sc : Scope} {t : XK → TE} {p lpos pos : Pos} (hg : Gl X x) (hm : X.mg x = some (.ref g)) (hk : PySem.W.keepIn X.K (.ref g) = true)
    (lk : X.K.lookup g = some ⟨oc, od, .func (PySem.W.fnOf x x pg bg sg dV kV doc pm an cdv ct), osl⟩) (hcg : PySem.W.codeIn X.K cdv x = true) (hb : L2.Binds X.K (PySem.W.fnOf x x pg bg sg dV kV doc pm an cdv ct) [a] []) (Sg : FnScope Ng [a] sg) (hNg : Ng[0]? = some a) (hva : Vis sg a)
    (hG : GivesTo X Ng x sg g cdv bg a (X.env.qual ++ "<lambda>") TT) (TB : TabB X.base X.mg c P) (hcode : X.env.code = .ref c) (hr : Room (k + 2) X.A) (L : LamS X.env.scope sc) (hdef : defaultsOf pr X.env = ([], []))
    (hbind : ∀ (q : Str) (cl : List (Str × Addr)) (pm cv ctv : Value), bindArgs (PySem.W.kla_fn "<lambda>" q pr bd sc cl pm cv ctv) ⟨[], []⟩ = pure [])
    (hbody : ∀ (A : Around) (outer : List Env) (s : Shared) (H : Hp) (E : XK) (f d : Addr), Room k (A.deeper (lamEnv X sc s.heap.objs.size f d)) → PE (lamCx X A outer s H E sc f d) bd (t E))
    (hdb : (x == ("__debug__" : Str)) = false := by decide) (hd : (a == ("__debug__" : Str)) = false := by decide) (hcd : (a == ("__classdict__" : Str)) = false := by decide) :
    PE X (.Call (.Name x p) [.Lambda pr bd sc lpos] [] pos) (tLamP P (X.env.qual ++ "<lambda>") TT t) := ⟨fun pins s σ H Q J ⟨tS, h⟩ => by
  refine wpAny_Call_Name_kw (ld_glob J hg hm ?_ hdb)
  refine PySem.W.callWith_K (h₀ := X.base) J.ok.mod.kin hk ?_ (by rfl) (by rfl)
  show wpAny _ _ (spliced ((false, eval (.Lambda pr bd sc lpos) X.env) :: backTo pos (starEach [] X.env))) _ _ s
  refine Calls.spliced_cons (makeP J TB hcode tS hdef (L.has J.ok) fun f d pm' ctv H1 s' J1 eP T1 hf hn hfr hco => Calls.spliced_nil ⟨J1.kIn, ?_⟩)
  have ran : codeAny (model X.prog X.w) X.A (.call (.ref g) ⟨[.ref f], []⟩) (CR C8.CX0 X.stack X.prog X.w H1 s' Q C8.E0) s' := by
    refine run_ofS (N := Ng) (ps := [a]) (us := [.ref f]) (vs := [.ref f]) lk hcg Sg hr J1.env0 (hb s' [.ref f] J1.kIn rfl) (.cons rfl .nil) rfl fun hr' => ?_
    obtain ⟨u', hu, hq⟩ := hG f d s' H1 Q (fun E H' Q' => t E σ H' Q') (fun W pn xe E p1 p2 tk hW => pe_act (i := 0) J1 L hf hn hfr (hbind _ _ _ _ _) tk hW hr' (fun A outer s H hr2 => hbody A outer s H E f d hr2) hNg hva hd hcd) hco (h H1 eP T1)
    exact ⟨u', hu.nox, hq⟩
  refine wpAny_call (codeAny_mono ran fun r s2 hq => ?_)
  cases r with
  | error e => exact (show False from hq).elim
  | ok fl =>
    cases fl with
    | ret u => exact J1.after hq
    | _ => exact False.elim hq⟩
end LamP
end
section
/-! what is told, or the word of a refusal with its field: the laws' own helper, handed a lambda -/
namespace LamP
open LamX PySem PySem.Spec PyProof.Rows L2
/-- the errors' wish -/
def WordE (K : PySem.W.Frag) (cS cT : Addr) (Q : VK) : XK := fun cls d H' =>
  (cls = .ref cS ∧ ∃ (dd : Addr) (z : V), d = some dd ∧ H' dd = some (.xd [("why", z)]) ∧ ∀ p, H' p = none → Q (.ref p) (upd H' p (.tup [.str "side", z]))) ∨
  (cls = .ref cT ∧ ∃ (dd : Addr) (z : V), d = some dd ∧ H' dd = some (.xd [("left", z)]) ∧ ∀ p, H' p = none → Q (.ref p) (upd H' p (.tup [.str "turned", z])))
def TTword (K : PySem.W.Frag) (cS cT : Addr) : (XK → Hp → VK → Prop) → Hp → VK → Prop := fun tl H Q => tl (WordE K cS cT Q) H Q
section
variable {X : Cx}
theorem word_gives {q : Str} {sg : Scope} {g cS cT cB : Addr} {cdg : Value} {j1 j2 j3 k1 k2 k3 : Nat} {p1 p2 p3 p4 p5 p6 p7 p8 p9 p10 p11 p12 p13 p14 p15 p16 p17 p18 p19 p20 p21 p22 p23 : Pos} (W0 : WordK X.K X.mg cS cT cB)
    (hS : sg.names.lookup ("NoSide" : Str) = some .globalImplicit) (hT : sg.names.lookup ("NotTurned" : Str) = some .globalImplicit) (hB : sg.names.lookup ("BadRow" : Str) = some .globalImplicit) (he : sg.names.lookup ("e" : Str) = some .local) :
    GivesTo X ["_law_work", "e"] "_law_word" sg g cdg [.Try [.Return (some (.Call (.Name "_law_work" p1) [] [] p2)) p3]
      [.ExceptHandler (some (.Name "NoSide" p4)) (some "e") [.Return (some (.Tuple [.Constant (.str "side") j1 p5, .Attribute (.Name "e" p6) "why" p7] k1 p8)) p9] p10,
       .ExceptHandler (some (.Name "NotTurned" p11)) (some "e") [.Return (some (.Tuple [.Constant (.str "turned") j2 p12, .Attribute (.Name "e" p13) "left" p14] k2 p15)) p16] p17,
       .ExceptHandler (some (.Name "BadRow" p18)) none [.Return (some (.Tuple [.Constant (.str "row") j3 p19] k3 p20)) p21] p22] [] [] p23] "_law_work" q (TTword X.K cS cT) := by
  intro f c' s H Q tl act hc h
  have hgl : ∀ {x : Str}, sg.names.lookup x = some .globalImplicit → Gl (cxOf C8.CX0 X.prog X.w X.K X.mg X.base ["_law_work", "e"] "_law_word" sg g cdg X.A X.stack s H C8.E0).nox x := fun h => h
  refine ⟨_, pss_one (ps_tryC (X := (cxOf C8.CX0 X.prog X.w X.K X.mg X.base ["_law_work", "e"] "_law_word" sg g cdg X.A X.stack s H C8.E0).nox)
      (l := [⟨.ref cS, some 1, fun a cls d => tRet (tTup (tCons (tC (.str "side")) (tCons (tXf a cls d cS "why" (tVar 1)) tNil)))⟩,
        ⟨.ref cT, some 1, fun a cls d => tRet (tTup (tCons (tC (.str "turned")) (tCons (tXf a cls d cT "left" (tVar 1)) tNil)))⟩,
        ⟨.ref cB, none, fun a cls d => tRet (tTup (tCons (tC (.str "row")) tNil))⟩])
      (tb := fun W D σ H => ∃ Ech : XK, (∀ cls d σ' H', σ'.length = 2 → Ech cls d H' → W cls d σ' H') ∧ σ[0]? = some (some (.ref f)) ∧ H c' = some (CodeO c' q) ∧ tl Ech H D.rt)
      rfl rfl (show (["_law_work", "e"] : List Str).Nodup by decide) LamX.takes0 (fun W pn xe tk _ => ?_)
      (.name (i := 1) ⟨hgl hS, by decide, .inl W0.gS⟩ rfl he (fun a oe cls d pn hz hf => pss_one (ps_ret (pe_tup (pa_cons pe_str (pa_cons (by exact (pe_xf W0.xS W0.nS hz hf (pe_var (i := 1) rfl (Or.inl he)))) pa_nil)))))
      (.name (i := 1) ⟨hgl hT, by decide, .inl W0.gT⟩ rfl he (fun a oe cls d pn hz hf => pss_one (ps_ret (pe_tup (pa_cons pe_str (pa_cons (by exact (pe_xf W0.xT W0.nT hz hf (pe_var (i := 1) rfl (Or.inl he)))) pa_nil)))))
      (.bare ⟨hgl hB, by decide, .inl W0.gB⟩ (fun a oe cls d pn hz hf => pss_one (ps_ret (pe_tup (pa_cons pe_str pa_nil)))) .nil)))), ?_⟩
  · refine ⟨fun pins t σ1 H1 D I r => ?_⟩
    obtain ⟨W1, into, slot, code, told⟩ := r
    have tk2 : Takes ((cxOf C8.CX0 X.prog X.w X.K X.mg X.base ["_law_work", "e"] "_law_word" sg g cdg X.A X.stack s H C8.E0).nox.tr pn xe) (fun cls d _ H' => W1 cls d H') := fun u s' ⟨a, B, sI, pins, σ2, H2, cls, d, e, I1, nb, up, sky, na, os, ag, w⟩ =>
      tk u s' ⟨a, B, sI, pins, σ2, H2, cls, d, e, I1, nb, up, sky, na, os, ag, into cls d σ2 H2 I1.len w⟩
    exact (pss_one (ps_ret (pos := p3) (act _ pn xe W1 p1 p2 tk2 fun _ _ _ _ h => h))).run pins t σ1 H1 D I ⟨slot, code, told⟩
  · refine ⟨WordE X.K cS cT Q, fun cls d σ' H' hl w => ?_, rfl, hc, h⟩
    have h1 : ∀ a : Addr, (σ'.set 1 (some (V.ref a)))[1]? = some (some (V.ref a)) := fun a => by simp [hl]
    rcases w with ⟨rfl, dd, z, rfl, hd, w⟩ | ⟨rfl, dd, z, rfl, hd, w⟩
    · refine .inl ⟨W0.eSS, fun a ha => ?_⟩
      show tTup (tCons (tC (.str "side")) (tCons (tXf a (.ref cS) (some dd) cS "why" (tVar 1)) tNil)) (σ'.set 1 (some (.ref a))) H' Q
      exact ⟨_, h1 a, rfl, rfl, dd, _, z, rfl, hd, by simp [List.lookup], (show 2 ≤ sizeLine by decide), fun p hp => w p hp⟩
    · refine .inr ⟨W0.eTS, .inl ⟨W0.eTT, fun a ha => ?_⟩⟩
      show tTup (tCons (tC (.str "turned")) (tCons (tXf a (.ref cT) (some dd) cT "left" (tVar 1)) tNil)) (σ'.set 1 (some (.ref a))) H' Q
      exact ⟨_, h1 a, rfl, rfl, dd, _, z, rfl, hd, by simp [List.lookup], (show 2 ≤ sizeLine by decide), fun p hp => w p hp⟩
end
end LamP
end
section
/-! a lambda handed to what tells a refusal's word: read over data -/
namespace Dx
open PySem L2 RT Sx
section
variable {K : PySem.W.Frag} {C : Ec} {E : XK} {σ : L2.St} {H : Hp} {Q : VK}
theorem le_lamW {e : DE} {c cP : Addr} (hK : PySem.W.tabIn K "law" = some (c, cP)) (q : liftE K C E (dLamW e) σ H Q) : LamP.tLamP cP lamN (LamP.TTword K (C 3) (C 2)) (fun E' => liftE K C E' e) σ H Q := by
  obtain ⟨cn, P, at_, ⟨ns, e0, h⟩, k⟩ := q
  obtain ⟨o, h1, u, rfl, r⟩ := at_.lk.sl 0 _ e0
  cases r with
  | scrT hs ht =>
    obtain ⟨hdl, htb⟩ := ht c cP hK
    obtain ⟨hF, m⟩ := at_.lk.ok.dc cP hdl
    have tS : LamX.TabS H cP lamN := by
      rcases m with ⟨n, _⟩ | ⟨_, t⟩
      · exact absurd htb n
      · exact t
    refine ⟨tS, fun H1 ex t1 => ?_⟩
    show liftE K C (LamP.WordE K (C 3) (C 2) Q) e σ H1 Q
    have kp : ∀ b, H1 b = none → H b = none := fun b hb => by
      cases z : H b with
      | none => rfl
      | some o =>
        by_cases y : b = cP
        · obtain ⟨ps, e1, _⟩ := t1
          rw [y, e1] at hb; cases hb
        · rw [ex b o y z] at hb; cases hb
    have f1 : Frm cn.W H cn.W H1 := ⟨Wd.Le.refl _, fun p u hp nd => ex p u (fun z => nd (by rw [z]; exact hdl)) hp, fun _ _ _ _ _ h => h, fun _ h => .inl h, kp⟩
    have o1 : Ok K cn.W H1 := by
      refine ⟨fun p u z => ex p u (fun y => by rw [y, hF] at z; cases z) (at_.lk.ok.sF p u z), fun d hd => ?_, at_.lk.ok.td, at_.lk.ok.nt⟩
      obtain ⟨f, m⟩ := at_.lk.ok.dc d hd
      refine ⟨f, ?_⟩
      by_cases y : d = cP
      · rw [y]; exact .inr ⟨htb, t1⟩
      · refine m.mv rfl (Same.refl _) ?_ fun c hc => ex _ _ (fun z => ?_) hc
        · cases z : H d with
          | none => exact absurd z m.there
          | some o => exact ex d o y z
        · obtain ⟨ps, e1, _⟩ := tS
          rw [z, e1] at hc
          exact LamX.codeO_ne _ (Option.some.inj hc).symm
    have sl : ∀ (i : Nat) (s : Sl), (cn.ρ.map disown)[i]? = some s → ∃ s0, cn.ρ[i]? = some s0 ∧ s = disown s0 := fun i s z => by
      rw [List.getElem?_map] at z
      cases y : cn.ρ[i]? with
      | none => rw [y] at z; cases z
      | some s0 => rw [y] at z; exact ⟨s0, rfl, (Option.some.inj z).symm⟩
    have nown : ∀ s0 : Sl, own (disown s0) = false := fun s0 => by cases s0 <;> rfl
    refine ⟨⟨H1, cn.W, cn.W, cn.W, cn.ρ.map disown, wordX P⟩, P, ⟨⟨o1, by rw [List.length_map]; exact at_.lk.len, fun i s z => ?_, fun i j s t p ne z1 z2 w1 w2 => ?_⟩, Frm.refl _ _, ?_, Wd.Le.refl _⟩, h, fun W' H' v x f o' r p => k W' H' v x (f1.trans f) o' r p⟩
    · obtain ⟨s0, y, rfl⟩ := sl i s z
      obtain ⟨w, y1, y2⟩ := at_.lk.sl i s0 y
      refine ⟨w, y1, ?_⟩
      cases s0 with
      | v x => exact y2
      | _ => trivial
    · obtain ⟨s0, _, rfl⟩ := sl i s z1
      rw [nown] at w1; cases w1
    · intro W' H' kk fs cls d f o' ⟨ec, hl, hf⟩ hw
      rcases hw with ⟨rfl, z, rfl, hp⟩ | ⟨rfl, z, rfl, hp⟩
      · rcases hf with hf | ⟨dd, vs, rfl, hx, rv⟩
        · cases hf.1
        · obtain ⟨v, rfl, rz⟩ := rpl1 rv
          refine .inl ⟨ec, dd, v, rfl, hx, fun p np => ?_⟩
          exact newT o' (.cons (.str "side") (.cons rz .nil)) hp (fun W2 H2 v x f2 => k W2 H2 v x ((f1.trans f).trans f2)) p np
      · rcases hf with hf | ⟨dd, vs, rfl, hx, rv⟩
        · cases hf.1
        · obtain ⟨v, rfl, rz⟩ := rpl1 rv
          refine .inr ⟨ec, dd, v, rfl, hx, fun p np => ?_⟩
          exact newT o' (.cons (.str "turned") (.cons rz .nil)) hp (fun W2 H2 v x f2 => k W2 H2 v x ((f1.trans f).trans f2)) p np
end
end Dx
end
section
/-! a law that hands a lambda on, and divides at length -/
namespace L2
open PySem PySem.Spec PyProof.Rows LamX
def seerObs (h : Heap) : Bool := match h.get? sysModules with
  | some o => PySem.W.nsOkIn [(sysModules, o)] sysModules && (match PySem.W.nsIn [(sysModules, o)] sysModules "_pylong" with | some none => true | _ => false)
  | none => false
theorem seerObs_at {h : Heap} (e : seerObs h = true) : ∃ o, h.get? sysModules = some o ∧ PySem.W.nsOkIn [(sysModules, o)] sysModules = true ∧ PySem.W.nsIn [(sysModules, o)] sysModules "_pylong" = some none := by
  unfold seerObs at e
  split at e
  · rename_i o ho
    simp only [Bool.and_eq_true] at e
    refine ⟨o, ho, e.1, ?_⟩
    have e2 := e.2
    split at e2
    · assumption
    · cases e2
  · cases e
theorem seerObs_keeps {h h' : Heap} (e : seerObs h = true) (k : ∀ b o, h.get? b = some o → h'.get? b = some o) : seerObs h' = true := by
  obtain ⟨o, ho, h1, h2⟩ := seerObs_at e
  unfold seerObs
  rw [k _ _ ho]
  simp only [h1, h2, Bool.and_self]
/-- a hook that tells of the modules as well -/
def withSeer (H : PySem.W.Hook) : PySem.W.Hook where
  α := H.α × Bool
  obs := fun s => (H.obs s, seerObs s.heap)
  val := fun w => (H.val w, true)
  says := fun w h => H.says w h ∧ seerObs h = true
  of := fun w s x => ⟨H.of w s (congrArg Prod.fst x), congrArg Prod.snd x⟩
  keeps := fun w h h' x k => ⟨H.keeps w h h' x.1 k, seerObs_keeps x.2 k⟩
theorem FnOk.over {P : Program} {w : World} {K K' : PySem.W.Frag} {mg : Str → Option Value} {base : Heap} {CX : CXT} {k : Nat} {f : Addr} {fd : FuncData} {ps : List Str} {sp : Sp} (F : FnOk P w K mg base CX k f fd ps sp) (h : K.In base) :
    FnOk P w K' mg base CX k f fd ps sp :=
  ⟨F.len, fun A outer s H args us vs Q E hr e => F.run A outer s H args us vs Q E hr ⟨e.frames, ⟨h, e.mod.glob, e.mod.blt, e.mod.nolimit⟩, e.bs, e.bsz, e.funs, e.frf, e.hok, e.bare⟩⟩
theorem lookup_more {K : PySem.W.Frag} {a b : Addr} {o x : Obj} (h : (K ++ [(b, o)] : PySem.W.Frag).lookup a = some x) : K.lookup a = some x ∨ a = b ∧ x = o := by
  have e : (K ++ [(b, o)] : PySem.W.Frag).lookup a = (K.lookup a).or ([(b, o)].lookup a) := List.lookup_append
  rw [e] at h
  cases q : K.lookup a with
  | some y => rw [q] at h; exact .inl h
  | none =>
    rw [q] at h
    have h' : ([(b, o)] : PySem.W.Frag).lookup a = some x := h
    by_cases z : a = b
    · subst z
      have : ([(a, o)] : PySem.W.Frag).lookup a = some o := List.lookup_cons_self
      rw [this] at h'
      cases h'
      exact .inr ⟨rfl, rfl⟩
    · have : ([(b, o)] : PySem.W.Frag).lookup a = none := by
        show (match a == b with | true => some o | false => none) = none
        rw [show (a == b) = false from beq_eq_false_iff_ne.mpr z]
      rw [this] at h'
      cases h'
theorem lookup_less {K : PySem.W.Frag} {a b : Addr} {o x : Obj} (h : K.lookup a = some x) : (K ++ [(b, o)] : PySem.W.Frag).lookup a = some x := by
  have e : (K ++ [(b, o)] : PySem.W.Frag).lookup a = (K.lookup a).or ([(b, o)].lookup a) := List.lookup_append
  rw [e, h]; rfl
/-- the end, the modules told -/
theorem walk_lamS {l : PySem.W.OpenLaw} {n k : Nat} {q : Program} {loose : List Str} {XP : (Str → Option Value) → Heap → Prop} {YP : World → Heap → Prop} {d : DefRec} {K : Params → PySem.W.Frag} {x : Str}
    (hn : l.most = some n) (hn2 : n ≤ sizeLine) (hdf : d.params.defaults = []) (hr : Room k callerA) (hY : ∀ (w : World) (h : Heap), YP w h → (K w.params).In h ∧ seerObs h = true) (hrec : ∃ d', (recsOf q).find? (fun e => e.name == d.name) = some d')
    (F : ∀ (w : World) (mg : Str → Option Value) (fa : Addr) (h : Heap), (K w.params).In h → h.Ns mainGlobals mg → mg d.name = some (.ref fa) →
      ∃ (fd : FuncData) (c P : Addr) (sp : Sp), PySem.W.tabIn (K w.params) d.name = some (c, P) ∧ (K w.params).lookup P = none ∧ (∀ (s : Shared) (u : Value), BindsTo s fd ⟨[u], []⟩ [(x, u)]) ∧
        (∀ (H : Hp) (a : Addr) (ns : List Int), ns.length ≤ n → H P = some (.tbl #[]) → SqL (K w.params) H a (ns.map V.int) → sp [.ref a] H (fun v _ => v = .bl true) fun _ _ _ => False) ∧
        ∀ base : Heap, (K w.params).In base → base.Ns mainGlobals mg → TabB base mg c P → SeerH base → FnOk l.prog w (K w.params) mg base CX0 k fa fd [x] sp) :
    PySem.W.WalkO q loose XP YP l.row.toRowW d [] (fun f vs => PySem.call f vs) := by
  refine Att.attach_callB hn hdf fun w s₀ s₁ mg mb fa o pm cd doc a vs ns G Y ho hd hcd hmg hobj hints hlen hbits hg => ?_
  have ⟨X, so⟩ := hY w _ Y
  obtain ⟨d', hd'⟩ := hrec
  obtain ⟨fd, c, P, sp, ht, nP, hb, hsp, hF⟩ := F w mg fa _ X G.T.g hmg
  have T := PySem.W.tab_of G.T X hd' ht
  obtain ⟨so, sh, sk, sl⟩ := seerObs_at so
  have hdict : ∃ es m, so.data = .dict es m := by
    have sk' := sk
    unfold PySem.W.nsOkIn at sk'
    rw [show ([(sysModules, so)] : PySem.W.Frag).lookup sysModules = some so from List.lookup_cons_self] at sk'
    split at sk'
    · rename_i h; cases h; exact ⟨_, _, rfl⟩
    · cases sk'
  have one : ∀ {R : Addr × Addr → Prop}, R (c, P) → ∀ p ∈ [(c, P)], R p := fun r p hp => by rw [List.mem_singleton.mp hp]; exact r
  let K2 : PySem.W.Frag := K w.params ++ [(sysModules, so)]
  have X2 : K2.In s₁.heap := fun b o e => by
    rcases lookup_more e with z | ⟨rfl, rfl⟩
    · exact X b o z
    · exact sh
  have nP2 : K2.lookup P = none := by
    cases z : K2.lookup P with
    | none => rfl
    | some o =>
      rcases lookup_more z with y | ⟨y, y2⟩
      · rw [nP] at y; cases y
      · obtain ⟨es, m, hh⟩ := hdict
        have t2 := T.2
        rw [show P = sysModules from y] at t2
        rw [sh] at t2
        cases t2
        cases hh
  refine law_callTs (CX := CX0) (K := K2) (cs := [(c, P)]) X2 G.T.g G.T.b G.T.builtins G.T.nolimit hg (one T.2) (one nP2) (one T.1) G.T.bmain hobj hints (Nat.le_trans hlen hn2) hr (fun base h1 h2 h3 => ?_) hb
    (fun H hH hS => hsp H a ns hlen (hH (c, P) (.head _)) ?_) fun _ _ _ z => z
  · have kb : (K w.params).In base := fun b o e => h1 b o (lookup_less e)
    have TB := h3 (c, P) (.head _)
    have sb : PySem.W.Frag.In ([(sysModules, so)] : PySem.W.Frag) base := fun b o e => by
      have e0 : b = sysModules ∧ o = so := by
        rcases lookup_more (K := []) e with z | z
        · cases z
        · exact z
      obtain ⟨e01, e02⟩ := e0
      subst e01 e02
      cases z : (K w.params).lookup sysModules with
      | none =>
        exact h1 _ _ (show K2.lookup sysModules = some o by
          have e : K2.lookup sysModules = ((K w.params).lookup sysModules).or (([(sysModules, o)] : PySem.W.Frag).lookup sysModules) := List.lookup_append
          rw [e, z]; show ([(sysModules, o)] : PySem.W.Frag).lookup sysModules = some o; exact List.lookup_cons_self)
      | some o' =>
        have e1 := X _ _ z
        rw [sh] at e1
        cases e1
        exact kb _ _ z
    refine FnOk.over (hF base kb h2 TB ⟨⟨_, .of_isNs (PySem.W.isNs_of_in sb sk), PySem.W.nsMap_none_of_in sb sk sl⟩, ?_⟩) kb
    obtain ⟨bm, ob, b1, b2, b3, b4, b5, b6, b7, b8⟩ := TB.bm
    exact ⟨mg, bm, ob, h2, b1, b5, b6, b7⟩
  · rcases hS with z | ⟨o, its, m, e1, e2, e3, e4, e5⟩
    · exact .inl z
    · rcases lookup_more e1 with z | ⟨_, rfl⟩
      · exact .inr ⟨o, its, m, z, e2, e3, e4, e5⟩
      · obtain ⟨es, m, hh⟩ := hdict
        rw [hh] at e4
        cases e4
end L2
end
section
open PySem L2 RT Sx Dx
local macro_rules | `(tactic| walk_at "d") => `(tactic| first
  | ((with_reducible refine' d_var ?k1 ?_); (case k1 => rfl))
  | with_reducible refine' d_c ?_
  | with_reducible refine' d_op ?_
  | with_reducible refine' d_cons ?_
  | with_reducible refine' d_nil ?_
  | with_reducible refine' d_seq ?_
  | ((with_reducible refine' d_asg1 ?_); try dsimp -proj only [List.set_cons_zero, List.set_cons_succ])
  | with_reducible refine' d_asg ?_
  | with_reducible refine' d_cb ?_
  | ((with_reducible refine' d_asgN ?_); try dsimp -proj only [List.set_cons_zero, List.set_cons_succ])
  | ((with_reducible refine' d_bnm ?_); try dsimp -proj only [List.set_cons_zero, List.set_cons_succ])
  | with_reducible refine' d_btp ?_
  | with_reducible refine' d_bcons ?_
  | with_reducible refine' d_bnil ?_
  | ((with_reducible refine' d_slO ?k1 ?_); (case k1 => rfl))
  | ((with_reducible refine' d_lenO ?k1 ?_); (case k1 => rfl))
  | ((with_reducible refine' d_ixO ?k1 ?_); (case k1 => rfl))
  | ((with_reducible refine' d_app ?k1 ?_); (case k1 => rfl))
  | ((with_reducible refine' d_frz ?k1 ?_); (case k1 => rfl); try dsimp -proj only [List.set_cons_zero, List.set_cons_succ, frzS])
  | with_reducible refine' d_newT ?_
  | ((with_reducible refine' d_newK ?_); try dsimp -proj only [List.set_cons_zero, List.set_cons_succ])
  | with_reducible refine' d_putT ?_
  | with_reducible refine' d_listD ?_
  | with_reducible refine' d_lr2 ?_
  | with_reducible refine' d_enumZ ?_
  | ((with_reducible refine' d_parN ?_); try dsimp -proj only [List.set_cons_zero, List.set_cons_succ])
  | with_reducible refine' d_sortI ?_
  | with_reducible refine' d_inLO ?_
  | ((with_reducible refine' d_putO ?k1 ?_); (case k1 => rfl))
  | with_reducible refine' d_catLL ?_
  | with_reducible refine' d_zipX ?_
  | ((with_reducible refine' d_frzD ?k1 ?_); (case k1 => rfl); try dsimp -proj only [List.set_cons_zero, List.set_cons_succ])
  | ((with_reducible refine' d_newB ?_); try dsimp -proj only [List.set_cons_zero, List.set_cons_succ])
  | with_reducible refine' d_putB ?_
  | ((with_reducible refine' d_getB ?k1 ?_); (case k1 => rfl))
  | ((with_reducible refine' d_par ?_); try dsimp -proj only [List.set_cons_zero, List.set_cons_succ])
  | ((with_reducible refine' d_par3 ?_); try dsimp -proj only [List.set_cons_zero, List.set_cons_succ])
  | ((with_reducible refine' d_ex2 ?_); try dsimp -proj only [List.set_cons_zero, List.set_cons_succ])
  | ((with_reducible refine' d_ex3 ?_); try dsimp -proj only [List.set_cons_zero, List.set_cons_succ])
  | with_reducible refine' d_isiI ?_
  | with_reducible refine' d_isiS ?_
  | with_reducible refine' d_lnil ?_
  | with_reducible refine' d_lcons ?_
  | with_reducible refine' d_gcd ?_
  | ((with_reducible refine' d_revO ?k1 ?_); (case k1 => rfl))
  | with_reducible refine' d_revL ?_
  | with_reducible refine' d_rev ?_
  | with_reducible refine' d_exrevL ?_
  | with_reducible refine' d_exrevT ?_
  | with_reducible refine' d_lc ?_
  | with_reducible refine' d_rng1 ?_
  | with_reducible refine' d_rng2 ?_
  | ((with_reducible refine' d_exrng ?k1 ?_); (case k1 => omega))
  | ((with_reducible refine' d_exrng2 ?k1 ?k2 ?_); (case k1 => omega); (case k2 => omega))
  | ((with_reducible refine' d_sz ?k1 ?_); (case k1 => simp; done))
  | with_reducible refine' d_tupQ ?_
  | with_reducible refine' d_lstQ ?_
  | with_reducible refine' d_callX ?_
  | with_reducible refine' d_call0 ?_
  | with_reducible refine' d_ifS ?_
  | with_reducible refine' d_B ?_
  | with_reducible refine' d_exbl ?_
  | with_reducible refine' d_ret ?_
  | with_reducible refine' d_drop ?_
  | with_reducible refine' d_next ?_
  | with_reducible refine' d_chain ?_
  | with_reducible refine' d_and ?_
  | with_reducible refine' d_or ?_
  | with_reducible refine' d_not ?_
  | with_reducible refine' d_andV ?_
  | with_reducible refine' d_orV ?_
  | with_reducible refine' d_notV ?_
  | with_reducible refine' d_neR ?_
  | with_reducible refine' d_eqR ?_
  | with_reducible refine' d_ccons ?_
  | ((with_reducible refine' d_cnil ?_); try dsimp -proj only [List.nil_append, List.cons_append])
  | with_reducible refine' d_listOf ?_
  | with_reducible refine' d_oflT ?_
  | with_reducible refine' d_oflL ?_
  | with_reducible refine' d_exsR ?_
  | with_reducible refine' d_lenR ?_
  | ((with_reducible refine' d_retO ?k1 ?_); (case k1 => rfl))
  | with_reducible refine' d_retW ?_
  | with_reducible refine' d_callXN ?_
  | with_reducible refine' d_call0N ?_
  | ((with_reducible refine' d_likeO ?k1 ?_); (case k1 => rfl))
  | with_reducible refine' d_join ?_
  | with_reducible refine' d_split ?_
  | with_reducible refine' d_exstr ?_
  | with_reducible refine' d_asgL ?_
  | with_reducible refine' d_fzD ?_
  | with_reducible refine' d_dc ?_
  | with_reducible refine' d_notInK ?_
  | with_reducible refine' d_inK ?_
  | with_reducible refine' d_getK ?_
  | with_reducible refine' d_exks ?_
  | with_reducible refine' d_raise0 ?_
  | ((with_reducible refine' d_strN ?k1 ?_); (case k1 => omega))
  | with_reducible refine' d_if ?_
  | with_reducible refine' d_un ?_
  | with_reducible refine' d_fz ?_
  | with_reducible refine' d_addN ?_
  | ((with_reducible refine' d_subN ?k1 ?_); (case k1 => omega))
  | ((with_reducible refine' d_mdN ?k1 ?_); (case k1 => omega))
  | ((with_reducible refine' d_fdN ?k1 ?k2 ?_); (case k1 => omega); (case k2 => omega))
  | ((with_reducible refine' d_mulL ?k1 ?k2 ?_); (case k1 => omega); (case k2 => omega))
  | with_reducible refine' d_ltN ?_
  | with_reducible refine' d_leN ?_
  | with_reducible refine' d_gtN ?_
  | with_reducible refine' d_geN ?_
  | with_reducible refine' d_eqN ?_
  | with_reducible refine' d_neN ?_
  | with_reducible refine' d_negN ?_
  | with_reducible refine' d_bit ?_
  | ((with_reducible refine' d_lenT ?_); try rw [List.length_map])
  | ((with_reducible refine' d_lenL ?_); try rw [List.length_map])
  | ((with_reducible refine' d_aug ?k1 ?_); (case k1 => rfl))
  | with_reducible refine' d_slTA ?_
  | with_reducible refine' d_slTo ?_
  | with_reducible refine' d_slFrom ?_
  | with_reducible refine' d_slMid ?_
  | with_reducible refine' d_slT0 ?_
  | ((with_reducible refine' d_catR ?k1 ?_); (case k1 => simp only [List.length_take, List.length_drop, List.length_append, List.length_cons, List.length_nil]; omega))
  | ((with_reducible refine' d_catR1 ?k1 ?_); (case k1 => simp only [List.length_take, List.length_drop, List.length_append, List.length_cons, List.length_nil]; omega))
  | ((with_reducible refine' d_catR2 ?k1 ?_); (case k1 => simp only [List.length_take, List.length_drop, List.length_append, List.length_cons, List.length_nil]; omega))
  | with_reducible refine' d_sumR ?_
  | with_reducible refine' d_revT ?_
  | with_reducible refine' d_keysW ?_
  | with_reducible refine' d_isNN ?_
  | with_reducible refine' d_isNT ?_
  | with_reducible refine' d_notNN ?_
  | with_reducible refine' d_notNT ?_
  | with_reducible refine' d_notNR ?_
  | with_reducible refine' d_isNR ?_
  | with_reducible refine' d_eqNR ?_
  | with_reducible refine' d_neNR ?_
  | with_reducible refine' d_neStr ?_
  | with_reducible refine' d_eqStr ?_
  | with_reducible refine' d_slL ?_
  | with_reducible refine' d_exsT ?_
  | with_reducible refine' d_exsL ?_
  | with_reducible refine' d_nopart ?_
  | with_reducible refine' dw_part ?_
  | with_reducible refine' d_exint ?_
  | with_reducible refine' d_yes1 ?_
  | with_reducible refine' d_itT ?_
  | with_reducible refine' d_itL ?_
  | with_reducible refine' d_itK ?_
  | with_reducible refine' d_exsK ?_
  | with_reducible refine' d_for ?_
  | with_reducible refine' d_tupL ?_
  | with_reducible refine' d_tupT ?_
  | with_reducible refine' i_iteT ?_
  | with_reducible refine' i_iteNT ?_
  | with_reducible refine' i_iteNF ?_
  | with_reducible refine' i_iteF ?_
  | ((with_reducible refine' i_yes ?k1 ?_); (case k1 => omega))
  | ((with_reducible refine' i_nay ?k1 ?_); (case k1 => omega))
  | ((with_reducible refine' i_yesN ?k1 ?_); (case k1 => omega))
  | ((with_reducible refine' i_nayN ?k1 ?_); (case k1 => omega))
  | ((with_reducible refine' i_yesS ?k1 ?_); (case k1 => decide))
  | ((with_reducible refine' i_nayS ?k1 ?_); (case k1 => decide))
  | ((with_reducible refine' i_yesSN ?k1 ?_); (case k1 => decide))
  | ((with_reducible refine' i_naySN ?k1 ?_); (case k1 => decide)))
local macro_rules | `(tactic| walk_at "dgo") => `(tactic| (repeat walk_at "d"; try dsimp -proj only [List.set_cons_zero, List.set_cons_succ]))
local macro_rules | `(tactic| walk_at "b") => `(tactic| (try dsimp -proj only [List.set_cons_zero, List.set_cons_succ]))
namespace Dx
def sp__law_smooth_row : DSp := fun xs P _ => xs = [.dice, nat 3] ∧ ∀ r : List Nat, IsRow r → leftN (whole r) = 1 → r.length ≤ 3 → P (rowD r)
theorem left_mul60 {n : Nat} (h : 0 < n) (k : Nat) : leftN (n * 60 ^ k) = leftN n := by
  have f := fac_of h
  have e : (60 : Nat) ^ k = 2 ^ (2 * k) * (3 ^ k * 5 ^ k) := by
    rw [Nat.pow_mul, ← Nat.mul_pow, ← Nat.mul_pow]
  have g : Fac (n * 60 ^ k) (val 2 n + 2 * k) (val 3 n + k) (val 5 n + k) (leftN n) := by
    refine ⟨?_, f.u2, f.u3, f.u5⟩
    rw [e, Nat.pow_add, Nat.pow_add, Nat.pow_add]
    conv => lhs; rw [f.eq]
    ac_rfl
  exact g.all.2.2.2.1
theorem left_strip1 {n : Nat} (h : 0 < n) : leftN (strip n) = leftN n := by
  obtain ⟨s0, _, k, e⟩ := strip_spec n h
  conv => rhs; rw [e]
  exact (left_mul60 s0 k).symm
theorem left_of60 {q w k : Nat} (e : q * w = 60 ^ k) : leftN q = 1 := by
  have q0 : 0 < q := Nat.pos_of_ne_zero fun z => by rw [z, Nat.zero_mul] at e; have := nat60 k; omega
  have f := fac_of q0
  have d : leftN q ∣ 60 ^ k := Nat.dvd_trans (left_dvd q0) ⟨w, e.symm⟩
  have c := cop60 f.u2 f.u3 f.u5 k
  have := Nat.dvd_gcd (Nat.dvd_refl _) d
  rw [c] at this
  exact Nat.dvd_one.mp this
theorem shD_rowsL {l : List (List Nat)} : shD (.lst (l.map rowD)) = true := by
  have := shD_rows (l := l)
  unfold shD at this ⊢
  simp only [toP, PyData.canLay0, PyData.depth] at this ⊢
  exact this
theorem d_inLR {l : List (List Nat)} {r : List Nat} {P : Dt → Prop} (q : P (.bl (decide (r ∈ l)))) : dIn (rowD r) (.lst (l.map rowD)) P := ⟨_, rfl, shD_row r, shD_rowsL, by rw [any_row]; exact q⟩
theorem eqD_lrows (l : List (List Nat)) : eqD (.lst (l.map rowD)) (.lst (l.map rowD)) = true := PySem.SeqAt.eqv_refl _ (by
  have := shD_rowsL (l := l)
  unfold shD at this
  exact (Bool.and_eq_true _ _ ▸ this).1)
theorem d_eqLR {l : List (List Nat)} {P : Dt → Prop} (q : P (.bl true)) : dEq (.lst (l.map rowD)) (.lst (l.map rowD)) P := ⟨shD_rowsL, shD_rowsL, by rw [eqD_lrows]; exact q⟩
theorem word_pl (n : Nat) : plB 3 (.tup [.str "turned", nat n]) = true := plB_two (by decide +kernel) plB_nat
theorem shD_word (n : Nat) : shD (.tup [.str "turned", nat n]) = true := plB_sh (word_pl n) (by decide)
theorem eqD_word (r : List Nat) (n : Nat) : eqD (rowD r) (.tup [.str "turned", nat n]) = false := by
  cases r with
  | nil => rfl
  | cons a r => rfl
theorem eqD_words (n : Nat) : eqD (.tup [.str "turned", nat n]) (.tup [.str "turned", nat n]) = true := eqD_self (word_pl n)
def d__law_smooth_row : DS := (dSeq (dAsg (.nm 2) (dCallX sp__law_row (dCons (dCallX sp__law_smooth (dCons (dVar 0) dNil)) dNil)))
  (dRet (dIf (dB (dOp dLe (dCB dLen (dCons (dVar 2) dNil)) (dVar 1))) (dVar 2) (dTup (dCons (dC (nat 1)) (dCons (dC (nat 30)) dNil))))))
def d_law : DS := (dSeq (dAsg (.nm 1) (dCall0 sp__law_dice (dCons (dVar 0) dNil)))
  (dSeq (dAsg (.tp [(.nm 2), (.nm 3), (.nm 4)]) (dTup (dCons (dCall0 sp__law_smooth_row (dCons (dVar 1) (dCons (dC (nat 3)) dNil))) (dCons (dCall0 sp__law_smooth_row (dCons (dVar 1) (dCons (dC (nat 3)) dNil))) (dCons (dCall0 sp__law_short (dCons (dVar 1) (dCons (dC (nat 4)) dNil))) dNil)))))
  (dSeq (dPar 5 6 (dCons (dCall0 sp_turned (dCons (dVar 2) dNil)) (dCons (dCall0 sp_turned (dCons (dVar 3) dNil)) dNil)))
  (dSeq (dIfS (dOr (dB (dOp dGt (dCB dLen (dCons (dVar 5) dNil)) (dC (nat 12)))) (dB (dOp dGt (dCB dLen (dCons (dVar 6) dNil)) (dC (nat 12))))) (dRet (dOp dEq (dCall0 sp_times (dCons (dVar 2) (dCons (dVar 3) dNil))) (dCall0 sp_times (dCons (dVar 3) (dCons (dVar 2) dNil))))) dNext)
  (dSeq (dIfS (dOr (dB (dOp dNe (dCall0 sp_turned (dCons (dVar 5) dNil)) (dVar 2))) (dOr (dB (dOp dNe (dCall0 sp_turned (dCons (dVar 6) dNil)) (dVar 3))) (dB (dOp dNe (dCall0 sp_times (dCons (dVar 2) (dCons (dVar 5) dNil))) (dTup (dCons (dC (nat 1)) dNil)))))) (dRet (dC (.bl false))) dNext)
  (dSeq (dAsg (.nm 7) (dCall0 sp_times (dCons (dVar 2) (dCons (dVar 3) dNil))))
  (dSeq (dIfS (dAnd (dB (dOp dLt (dCB dLen (dCons (dCall0 sp_turned (dCons (dVar 7) dNil)) dNil)) (dC (nat 13)))) (dB (dOp dNe (dCall0 sp_turned (dCons (dVar 7) dNil)) (dCall0 sp__law_row (dCons (dOp dMul (dCall0 sp__law_whole_of (dCons (dVar 5) dNil)) (dCall0 sp__law_whole_of (dCons (dVar 6) dNil))) dNil))))) (dRet (dC (.bl false))) dNext)
  (dSeq (dIfS (dB (dOp dNe (dCall0 sp_part (dCons (dVar 4) (dCons (dVar 2) dNil))) (dCall0 sp_times (dCons (dVar 4) (dCons (dVar 5) dNil))))) (dRet (dC (.bl false))) dNext)
  (dSeq (dIfS (dB (dOp dNe (dCall0 sp_part (dCons (dVar 2) (dCons (dVar 3) dNil))) (dCall0 sp_times (dCons (dVar 2) (dCons (dVar 6) dNil))))) (dRet (dC (.bl false))) dNext)
  (dSeq (dAsg (.nm 8) (dCall0 sp__law_left (dCons (dCall0 sp__law_whole_of (dCons (dVar 4) dNil)) dNil)))
  (dSeq (dAsg (.nm 9) (dLamW (dCallX sp_turned (dCons (dVar 4) dNil))))
  (dSeq (dIfS (dB (dOp dNeS (dOp dGt (dVar 8) (dC (nat 1))) (dOp dEq (dVar 9) (dTup (dCons (dC (.str "turned")) (dCons (dVar 8) dNil)))))) (dRet (dC (.bl false))) dNext)
  (dSeq (dIfS (dAnd (dB (dOp dEqS (dVar 8) (dC (nat 1)))) (dAnd (dB (dOp dLt (dCB dLen (dCons (dVar 9) dNil)) (dC (nat 13)))) (dB (dOp dNe (dCall0 sp_times (dCons (dVar 4) (dCons (dVar 9) dNil))) (dTup (dCons (dC (nat 1)) dNil)))))) (dRet (dC (.bl false))) dNext)
  (dSeq (dAsg (.nm 10) (dOp dAdd (dC (nat 1)) (dCall0 sp__law_next (dCons (dVar 1) (dCons (dC (nat 2)) dNil)))))
  (dSeq (dAsg (.nm 11) (dCall0 sp_turnables (dCons (dVar 10) dNil)))
  (dSeq (dIfS (dB (dOp dNeS (dOp dIn (dVar 2) (dVar 11)) (dOp dLe (dCB dLen (dCons (dVar 2) dNil)) (dVar 10)))) (dRet (dC (.bl false))) dNext)
  (dSeq (dIfS (dB (dOp dNeS (dOp dIn (dVar 4) (dVar 11)) (dAndV (dOp dEqS (dVar 8) (dC (nat 1))) (dOp dLe (dCB dLen (dCons (dVar 4) dNil)) (dVar 10))))) (dRet (dC (.bl false))) dNext)
  (dRet (dAndV (dOp dEq (dVar 11) (dFz (dSortSet (dCons (dVar 11) dNil)))) (dAndV (dOp dIn (dTup (dCons (dC (nat 1)) dNil)) (dVar 11)) (dOp dEq (dFz (dLc (dItL (dVar 11)) (.nm 12) (dB (dOp dGt (dCB dLen (dCons (dVar 12) dNil)) (dVar 10))) (dVar 12) [12])) (dFz (dLst dNil)))))))))))))))))))))))

section
variable {xs : List Dt} {P : Dt → Prop} {X : DX}
theorem dp__law_smooth_row (h : sp__law_smooth_row xs P X) : d__law_smooth_row (dEnds P) X (startD xs (3 - xs.length)) := by
  obtain ⟨rfl, q⟩ := h
  show d__law_smooth_row (dEnds P) X [.v .dice, .v (nat 3), .un]
  unfold d__law_smooth_row
  walk_at "dgo"
  refine ⟨rfl, fun a b c ha hb hc => ?_⟩
  have n0 : 0 < 2 ^ a * 3 ^ b * 5 ^ c := Nat.mul_pos (Nat.mul_pos (pos_pow (by decide)) (pos_pow (by decide))) (pos_pow (by decide))
  have hn : 2 ^ a * 3 ^ b * 5 ^ c < 2 ^ 60 := by
    have h1 : 2 ^ a ≤ 2 ^ 9 := Nat.pow_le_pow_right (by decide) ha
    have h2 : 3 ^ b ≤ 3 ^ 9 := Nat.pow_le_pow_right (by decide) hb
    have h3 : 5 ^ c ≤ 5 ^ 9 := Nat.pow_le_pow_right (by decide) hc
    exact Nat.lt_of_le_of_lt (Nat.mul_le_mul (Nat.mul_le_mul h1 h2) h3) (by decide)
  have hl := left_smooth a b c
  generalize 2 ^ a * 3 ^ b * 5 ^ c = n at n0 hn hl ⊢
  walk_at "dgo"
  refine ⟨n, rfl, n0, Nat.lt_trans (log2_lt hn (by decide)) (by decide), ?_⟩
  walk_at "dgo"
  by_cases c : (rowOf n).length ≤ 3
  · rw [decide_eq_true c]
    walk_at "dgo"
    exact q _ (isRow_rowOf n0 (by omega)) (by rw [whole_rowOf, left_strip1 n0]; exact hl) c
  · rw [decide_eq_false c]
    walk_at "dgo"
    exact q [1, 30] ⟨by decide, by decide, by decide, by decide⟩ (by decide +kernel) (by decide)
set_option maxHeartbeats 2000000 in
theorem dp_law (h : sp_lawT xs P X) : d_law (dEnds P) X (startD xs (13 - xs.length)) := by
  obtain ⟨ns, rfl, hl, q⟩ := h
  show d_law (dEnds P) X [.v (.scrT ns), .un, .un, .un, .un, .un, .un, .un, .un, .un, .un, .un, .un]
  unfold d_law
  walk_at "dgo"
  refine ⟨ns, .inr rfl, hl, ?_⟩
  walk_at "dgo"
  refine ⟨rfl, fun one i1 l1 n1 => ?_⟩
  walk_at "dgo"
  refine ⟨rfl, fun two i2 l2 n2 => ?_⟩
  walk_at "dgo"
  refine ⟨4, rfl, by decide, by decide, fun anyr ia na => ?_⟩
  have w1 := whole_lt i1.fig (k := 3) n1
  have w2 := whole_lt i2.fig (k := 3) n2
  have wa := whole_lt ia.fig (k := 4) na
  have p1 := whole_pos (row_ne i1) i1.hd
  have p2 := whole_pos (row_ne i2) i2.hd
  have pa := whole_pos (row_ne ia) ia.hd
  walk_at "dgo"
  refine .inl ⟨one, i1, rfl, fun _ q1 k1 hq1 _ e1 => ?_, fun z => absurd l1 z⟩
  walk_at "dgo"
  refine .inl ⟨two, i2, rfl, fun _ q2 k2 hq2 _ e2 => ?_, fun z => absurd l2 z⟩
  have lq1 := left_of60 e1
  have lq2 := left_of60 e2
  walk_at "dgo"
  have p12 := Nat.mul_pos p1 p2
  have h12 := Nat.mul_lt_mul'' w1 w2
  have b12 : IsRow (rowOf (whole one * whole two)) := isRow_small p12 (Nat.lt_trans h12 (by decide))
  by_cases c1 : (rowOf q1).length ≤ 12
  rotate_left
  · refine i_yes (by omega) ?_
    walk_at "dgo"
    refine .inl ⟨one, two, i1, i2, rfl, ?_⟩
    walk_at "dgo"
    refine .inl ⟨two, one, i2, i1, rfl, ?_⟩
    walk_at "dgo"
    rw [Nat.mul_comm, decide_eq_true rfl]
    exact q
  refine i_nay (by omega) ?_
  walk_at "dgo"
  by_cases c2 : (rowOf q2).length ≤ 12
  rotate_left
  · refine i_yes (by omega) ?_
    walk_at "dgo"
    refine .inl ⟨one, two, i1, i2, rfl, ?_⟩
    walk_at "dgo"
    refine .inl ⟨two, one, i2, i1, rfl, ?_⟩
    walk_at "dgo"
    rw [Nat.mul_comm, decide_eq_true rfl]
    exact q
  refine i_nay (by omega) ?_
  have r1 := isRow_rowOf hq1 c1
  have r2 := isRow_rowOf hq2 c2
  have m1 : leftN (whole (rowOf q1)) = 1 := by rw [whole_rowOf, left_strip1 hq1]; exact lq1
  have m2 : leftN (whole (rowOf q2)) = 1 := by rw [whole_rowOf, left_strip1 hq2]; exact lq2
  have back : ∀ {r : List Nat} {x y k j : Nat}, IsRow r → 0 < x → 0 < y → x * whole r = 60 ^ k → y * whole (rowOf x) = 60 ^ j → rowOf y = r := fun {r x y k j} ir hx hy e f => by
    rw [whole_rowOf] at f
    obtain ⟨t, et⟩ := strip_eq hx
    have g : y * x = 60 ^ (j + t) := by rw [← et, ← Nat.mul_assoc, f, Nat.pow_add]
    rw [← rowOf_whole ir]
    refine rowOf_eq (k := k) (j := j + t) hy (whole_pos (row_ne ir) ir.hd) ?_
    rw [← e, ← g]; ac_rfl
  have unit : ∀ {r : List Nat} {x k : Nat}, IsRow r → 0 < x → x * whole r = 60 ^ k → rowOf (whole r * whole (rowOf x)) = [1] := fun {r x k} ir hx e => by
    rw [whole_rowOf, Nat.mul_comm, rowOf_strip hx (whole_pos (row_ne ir) ir.hd), e]
    have : rowOf 1 = [1] := by decide
    rw [← this]
    exact rowOf_eq (k := 0) (j := k) (nat60 k) (by decide) (by simp)
  walk_at "dgo"
  refine .inl ⟨_, r1, rfl, fun _ y1 j1 hy1 _ f1 => ?_, fun z => absurd m1 z⟩
  walk_at "dgo"
  refine i_nayN (back i1 hq1 hy1 e1 f1) ?_
  walk_at "dgo"
  refine .inl ⟨_, r2, rfl, fun _ y2 j2 hy2 _ f2 => ?_, fun z => absurd m2 z⟩
  walk_at "dgo"
  refine i_nayN (back i2 hq2 hy2 e2 f2) ?_
  walk_at "dgo"
  refine .inl ⟨one, _, i1, r1, rfl, ?_⟩
  walk_at "dgo"
  refine d_neR (s := [1]) ?_
  walk_at "dgo"
  refine i_nayN (unit i1 hq1 e1) ?_
  walk_at "dgo"
  refine .inl ⟨one, two, i1, i2, rfl, ?_⟩
  walk_at "b"
  have m12 : leftN (whole (rowOf (whole one * whole two))) = 1 := by
    rw [whole_rowOf, left_strip1 p12]
    refine left_of60 (w := q1 * q2) (k := k1 + k2) ?_
    rw [Nat.pow_add, ← e1, ← e2]; ac_rfl
  have both : ∀ {x j : Nat}, 0 < x → x * whole (rowOf (whole one * whole two)) = 60 ^ j → rowOf x = rowOf (whole (rowOf q1) * whole (rowOf q2)) := fun {x j} hx f => by
    rw [whole_rowOf] at f
    obtain ⟨t, et⟩ := strip_eq p12
    have g : x * (whole one * whole two) = 60 ^ (j + t) := by rw [← et, ← Nat.mul_assoc, f, Nat.pow_add]
    rw [whole_rowOf, whole_rowOf, rowOf_strip hq1 (strip_spec q2 hq2).1, Nat.mul_comm, rowOf_strip hq2 hq1]
    refine rowOf_eq (k := k1 + k2) (j := j + t) hx (Nat.mul_pos hq2 hq1) ?_
    rw [Nat.pow_add, ← e1, ← e2, ← g]; ac_rfl
  dsimp only
  refine s_cut (fun N hN => ?_) ?_
  · walk_at "dgo"
    refine .inl ⟨_, b12, rfl, fun _ y3 j3 hy3 _ f3 => ?_, fun z => absurd m12 z⟩
    walk_at "dgo"
    refine i_both (fun _ => ?_) fun _ => ?_
    · walk_at "dgo"
      refine .inl ⟨_, b12, rfl, fun _ y4 j4 hy4 _ f4 => ?_, fun z => absurd m12 z⟩
      walk_at "dgo"
      refine ⟨_, rfl, r1.fig, by omega, ?_⟩
      walk_at "dgo"
      refine ⟨_, rfl, r2.fig, by omega, ?_⟩
      have g1 := whole_pos (row_ne r1) r1.hd
      have g2 := whole_pos (row_ne r2) r2.hd
      have s1 := whole12 r1
      have s2 := whole12 r2
      refine d_mulL (Nat.lt_trans s1 (by decide)) (Nat.lt_trans s2 (by decide)) ?_
      walk_at "dgo"
      refine ⟨_, rfl, Nat.mul_pos g1 g2, Nat.lt_trans (log2_lt (k := 400) (Nat.lt_trans (Nat.mul_lt_mul'' s1 s2) (by decide)) (by decide)) (by decide), ?_⟩
      walk_at "dgo"
      refine i_nayN (both hy4 f4) ?_
      walk_at "dgo"
      exact hN
    · walk_at "dgo"
      exact hN
  have parts : ∀ {r s : List Nat} {x y k : Nat}, IsRow r → IsRow s → 0 < x → 0 < y → x * whole s = 60 ^ k → (∃ j, y * whole s = whole r * 60 ^ j) → rowOf y = rowOf (whole r * whole (rowOf x)) := fun {r s x y k} ir is' hx hy e ⟨j, f⟩ => by
    have pr := whole_pos (row_ne ir) ir.hd
    have ps := whole_pos (row_ne is') is'.hd
    rw [whole_rowOf, Nat.mul_comm (whole r), rowOf_strip hx pr]
    refine rowOf_eq (k := k) (j := j) hy (Nat.mul_pos hx pr) ?_
    rw [← e]
    calc y * (x * whole s) = x * (y * whole s) := by ac_rfl
      _ = x * (whole r * 60 ^ j) := by rw [f]
      _ = x * whole r * 60 ^ j := by ac_rfl
  walk_at "dgo"
  refine .inl ⟨anyr, one, ia, i1, rfl, fun _ y5 j5 hy5 _ f5 => ?_, fun z => absurd (by rw [l1, Nat.mod_one]) z⟩
  walk_at "dgo"
  refine .inl ⟨anyr, _, ia, r1, rfl, ?_⟩
  walk_at "dgo"
  refine i_nayN (parts ia i1 hq1 hy5 e1 ⟨_, f5⟩) ?_
  walk_at "dgo"
  refine .inl ⟨one, two, i1, i2, rfl, fun _ y6 j6 hy6 _ f6 => ?_, fun z => absurd (by rw [l2, Nat.mod_one]) z⟩
  walk_at "dgo"
  refine .inl ⟨one, _, i1, r2, rfl, ?_⟩
  walk_at "dgo"
  refine i_nayN (parts i1 i2 hq2 hy6 e2 ⟨_, f6⟩) ?_
  walk_at "dgo"
  refine ⟨_, rfl, ia.fig, by omega, ?_⟩
  walk_at "dgo"
  refine ⟨_, rfl, pa, ?_⟩
  dsimp only
  have la0 := left_pos pa
  refine s_cutR (fun ρ' => ∃ fx, ((leftN (whole anyr) = 1 ∧ ∃ x k, 0 < x ∧ x * whole anyr = 60 ^ k ∧ fx = rowD (rowOf x)) ∨ (leftN (whole anyr) ≠ 1 ∧ fx = .tup [.str "turned", nat (leftN (whole anyr))])) ∧ ρ' = [.v (.scrT ns), .v .dice, .v (rowD one), .v (rowD two), .v (rowD anyr), .v (rowD (rowOf q1)), .v (rowD (rowOf q2)), .v (rowD (rowOf (whole one * whole two))), .v (nat (leftN (whole anyr))), .v fx, .un, .un, .un]) (fun N hN => ?_) ?_
  · walk_at "b"; walk_at "d"
    refine d_lamW rfl ?_
    walk_at "dgo"
    refine .inl ⟨anyr, ia, rfl, fun e x k hx _ ek => ?_, fun ne => wordX_turned ?_⟩
    · walk_at "dgo"
      exact hN _ ⟨_, .inl ⟨e, x, k, hx, ek, rfl⟩, rfl⟩
    · walk_at "dgo"
      exact hN _ ⟨_, .inr ⟨ne, rfl⟩, rfl⟩
  rintro _ ⟨fx, hfx, rfl⟩
  refine s_cut (fun N hN => ?_) ?_
  · walk_at "dgo"
    rcases hfx with ⟨e, x, k, hx, ek, rfl⟩ | ⟨e, rfl⟩
    · refine ⟨shD_row _, shD_word _, ?_⟩
      rw [eqD_word]
      refine d_neB ?_
      walk_at "dgo"
      rw [decide_eq_false (show ¬ 1 < leftN (whole anyr) by omega)]
      exact hN
    · refine ⟨shD_word _, shD_word _, ?_⟩
      rw [eqD_words]
      refine d_neB ?_
      walk_at "dgo"
      rw [decide_eq_true (show 1 < leftN (whole anyr) by omega)]
      exact hN
  refine s_cut (fun N hN => ?_) ?_
  · walk_at "dgo"
    rcases hfx with ⟨e, x, k, hx, ek, rfl⟩ | ⟨e, rfl⟩
    · refine i_yes e ?_
      walk_at "dgo"
      refine i_both (fun c => ?_) fun _ => ?_
      · have rx := isRow_rowOf hx (by omega)
        walk_at "dgo"
        refine .inl ⟨anyr, _, ia, rx, rfl, ?_⟩
        walk_at "dgo"
        refine d_neR (s := [1]) ?_
        walk_at "dgo"
        refine i_nayN (unit ia hx ek) ?_
        walk_at "dgo"
        exact hN
      · walk_at "dgo"
        exact hN
    · refine i_nay e ?_
      walk_at "dgo"
      exact hN
  walk_at "dgo"
  refine d_draw (q := fun pp hpp => ?_)
  walk_at "dgo"
  refine ⟨1 + pp, rfl, by omega, by omega, fun k2 k3 k5 ta tb tc => ?_⟩
  have T : Tn (1 + pp) k2 k3 k5 := ⟨ta, tb, tc⟩
  have t1 := T.row i1
  have t2 := T.row ia
  have t3 := T.setOk (by omega) (by omega)
  have t4 := fun r hr => T.isRow (r := r) (by omega) hr
  have t5 := (T.row row_one).mpr ⟨by decide +kernel, by show 1 ≤ 1 + pp; omega⟩
  have t6 := T.len (by omega) (by omega)
  have t7 : cntP (1 + pp) ≤ 432 := by
    have : ∀ p < 3, cntP p ≤ 432 := by decide
    exact this _ (by omega)
  generalize turnR (60 ^ (1 + pp)) k2 k3 k5 = TL at t1 t2 t3 t4 t5 t6 ⊢
  walk_at "dgo"
  refine d_inLR ?_
  walk_at "dgo"
  refine d_neB ?_
  walk_at "dgo"
  refine i_nayN (by rw [decide_eq_decide, t1]; exact ⟨fun h => h.2, fun h => ⟨l1, h⟩⟩) ?_
  walk_at "b"
  dsimp only [dNext]
  refine s_cut (fun N hN => ?_) ?_
  · walk_at "dgo"
    refine d_inLR ?_
    walk_at "dgo"
    by_cases e : leftN (whole anyr) = 1
    · refine i_yes e ?_
      walk_at "dgo"
      refine d_neB ?_
      walk_at "dgo"
      refine i_nayN (by rw [decide_eq_decide, t2]; exact ⟨fun h => h.2, fun h => ⟨e, h⟩⟩) ?_
      walk_at "dgo"
      exact hN
    · refine i_nay e ?_
      walk_at "dgo"
      refine d_neB ?_
      rw [decide_eq_false (fun h => e (t2.mp h).1)]
      walk_at "dgo"
      exact hN
  walk_at "dgo"
  refine d_sortSet ?_
  walk_at "dgo"
  refine ⟨TL, rfl, t3, ?_⟩
  walk_at "dgo"
  refine d_eqLR ?_
  walk_at "dgo"
  refine d_inLR (r := [1]) ?_
  rw [decide_eq_true t5]
  walk_at "dgo"
  refine d_compF (fun _ => none) ?_ (by rw [List.length_map, t6]; simp; omega) ?_
  · intro x hx N hN
    obtain ⟨r, hr, rfl⟩ := List.mem_map.mp hx
    obtain ⟨_, _, h3⟩ := t4 r hr
    walk_at "dgo"
    exact hN
  rw [show ∀ l : List Dt, l.filterMap (fun _ => (none : Option Dt)) = [] from fun l => by induction l <;> simp [*]]
  rw [List.append_nil]
  walk_at "dgo"
  refine d_eqSame (n := 1) rfl (by decide) ?_
  exact q
end
end Dx
namespace Dx
open PySem L2 RT Sx
def top (i : Nat) : Stmt := PySem.Challenge.pw_sixtyfold_k31_whole_turned_numbers.main.body.getD i (.Pass ⟨0, 0, 0, 0⟩)
abbrev s__law_dice : Stmt := top 26
theorem sc__law_dice : FnScope ["_law_script", "_law_mixed", "_law_cell"] ["_law_script"] (defScope s__law_dice) := ⟨rfl, rfl, rfl, by decide +kernel, rfl, by decide +kernel, by decide +kernel⟩
abbrev s__law_left : Stmt := top 32
theorem sc__law_left : FnScope ["_law_number", "_law_prime"] ["_law_number"] (defScope s__law_left) := ⟨rfl, rfl, rfl, by decide +kernel, rfl, by decide +kernel, by decide +kernel⟩
abbrev s__law_next : Stmt := top 27
theorem sc__law_next : FnScope ["_law_dice_here", "_law_many", "_law_found", "_law_cell"] ["_law_dice_here", "_law_many"] (defScope s__law_next) := ⟨rfl, rfl, rfl, by decide +kernel, rfl, by decide +kernel, by decide +kernel⟩
abbrev s__law_row : Stmt := top 29
theorem sc__law_row : FnScope ["_law_number", "_law_figures"] ["_law_number"] (defScope s__law_row) := ⟨rfl, rfl, rfl, by decide +kernel, rfl, by decide +kernel, by decide +kernel⟩
abbrev s__law_smooth : Stmt := top 30
theorem sc__law_smooth : FnScope ["_law_d", "_law_found", "_law_prime", "_law_k"] ["_law_d"] (defScope s__law_smooth) := ⟨rfl, rfl, rfl, by decide +kernel, rfl, by decide +kernel, by decide +kernel⟩
abbrev s__law_drawn : Stmt := top 31
theorem sc__law_drawn : FnScope ["_law_d", "_law_most", "_law_kind", "_law_found", "_law_figures", "_law_k"] ["_law_d", "_law_most"] (defScope s__law_drawn) := ⟨rfl, rfl, rfl, by decide +kernel, rfl, by decide +kernel, by decide +kernel⟩
abbrev s__law_short : Stmt := top 33
theorem sc__law_short : FnScope ["_law_d", "_law_most", "_law_row_here"] ["_law_d", "_law_most"] (defScope s__law_short) := ⟨rfl, rfl, rfl, by decide +kernel, rfl, by decide +kernel, by decide +kernel⟩
abbrev s__law_smooth_row : Stmt := top 34
theorem sc__law_smooth_row : FnScope ["_law_d", "_law_most", "_law_row_here"] ["_law_d", "_law_most"] (defScope s__law_smooth_row) := ⟨rfl, rfl, rfl, by decide +kernel, rfl, by decide +kernel, by decide +kernel⟩
abbrev s__law_whole_of : Stmt := top 28
theorem sc__law_whole_of : FnScope ["_law_row_here", "_law_found", "_law_k"] ["_law_row_here"] (defScope s__law_whole_of) := ⟨rfl, rfl, rfl, by decide +kernel, rfl, by decide +kernel, by decide +kernel⟩
abbrev s__law_word : Stmt := top 35
theorem sc__law_word : FnScope ["_law_work", "e"] ["_law_work"] (defScope s__law_word) := ⟨rfl, rfl, rfl, by decide +kernel, rfl, by decide +kernel, by decide +kernel⟩
abbrev s_factors_of : Stmt := top 22
theorem sc_factors_of : FnScope ["number", "left", "counts", "prime", "often"] ["number"] (defScope s_factors_of) := ⟨rfl, rfl, rfl, by decide +kernel, rfl, by decide +kernel, by decide +kernel⟩
abbrev s_left_of : Stmt := top 23
theorem sc_left_of : FnScope ["number", "_", "left"] ["number"] (defScope s_left_of) := ⟨rfl, rfl, rfl, by decide +kernel, rfl, by decide +kernel, by decide +kernel⟩
abbrev s_parted : Stmt := top 24
theorem sc_parted : FnScope ["number", "divisor", "sixties"] ["number", "divisor"] (defScope s_parted) := ⟨rfl, rfl, rfl, by decide +kernel, rfl, by decide +kernel, by decide +kernel⟩
abbrev s_figures_of : Stmt := top 14
theorem sc_figures_of : FnScope ["number", "powers", "pieces", "power", "ahead", "piece", "half"] ["number"] (defScope s_figures_of) := ⟨rfl, rfl, rfl, by decide +kernel, rfl, by decide +kernel, by decide +kernel⟩
abbrev s_row_of : Stmt := top 15
theorem sc_row_of : FnScope ["number", "figures", "last"] ["number"] (defScope s_row_of) := ⟨rfl, rfl, rfl, by decide +kernel, rfl, by decide +kernel, by decide +kernel⟩
abbrev s_is_long_row : Stmt := top 11
theorem sc_is_long_row : FnScope ["figures"] ["figures"] (defScope s_is_long_row) := ⟨rfl, rfl, rfl, by decide +kernel, rfl, by decide +kernel, by decide +kernel⟩
abbrev s_is_row : Stmt := top 10
theorem sc_is_row : FnScope ["figures"] ["figures"] (defScope s_is_row) := ⟨rfl, rfl, rfl, by decide +kernel, rfl, by decide +kernel, by decide +kernel⟩
abbrev s_check_row : Stmt := top 9
theorem sc_check_row : FnScope ["row"] ["row"] (defScope s_check_row) := ⟨rfl, rfl, rfl, by decide +kernel, rfl, by decide +kernel, by decide +kernel⟩
abbrev s_number_of : Stmt := top 13
theorem sc_number_of : FnScope ["figures", "number", "figure"] ["figures"] (defScope s_number_of) := ⟨rfl, rfl, rfl, by decide +kernel, rfl, by decide +kernel, by decide +kernel⟩
abbrev s_whole_of : Stmt := top 12
theorem sc_whole_of : FnScope ["row"] ["row"] (defScope s_whole_of) := ⟨rfl, rfl, rfl, by decide +kernel, rfl, by decide +kernel, by decide +kernel⟩
abbrev s_part : Stmt := top 18
theorem sc_part : FnScope ["one", "other", "number", "divisor", "left", "quotient", "_"] ["one", "other"] (defScope s_part) := ⟨rfl, rfl, rfl, by decide +kernel, rfl, by decide +kernel, by decide +kernel⟩
abbrev s_times : Stmt := top 8
theorem sc_times : FnScope ["one", "other"] ["one", "other"] (defScope s_times) := ⟨rfl, rfl, rfl, by decide +kernel, rfl, by decide +kernel, by decide +kernel⟩
abbrev s_powers_below : Stmt := top 21
theorem sc_powers_below : FnScope ["prime", "limit", "powers", "power"] ["prime", "limit"] (defScope s_powers_below) := ⟨rfl, rfl, rfl, by decide +kernel, rfl, by decide +kernel, by decide +kernel⟩
abbrev s_turnables : Stmt := top 20
theorem sc_turnables : FnScope ["places", "limit", "_", "numbers", "prime", "powers", "number", "power"] ["places"] (defScope s_turnables) := ⟨rfl, rfl, rfl, by decide +kernel, rfl, by decide +kernel, by decide +kernel⟩
abbrev s_turned : Stmt := top 19
theorem sc_turned : FnScope ["row"] ["row"] (defScope s_turned) := ⟨rfl, rfl, rfl, by decide +kernel, rfl, by decide +kernel, by decide +kernel⟩
abbrev s_law : Stmt := top 36
theorem sc_law : FnScope ["_law_script", "_law_d", "_law_one", "_law_two", "_law_any_row", "_law_first", "_law_second", "_law_both", "_law_left_here", "_law_found", "_law_places", "_law_rows", "_law_row_here"] ["_law_script"] (defScope s_law) := ⟨rfl, rfl, rfl, by decide +kernel, rfl, by decide +kernel, by decide +kernel⟩
structure Tx (P : Program) (w : World) (K : PySem.W.Frag) (mg : Str → Option Value) (base : Heap) where
  e : Er
  e_BadRow : OwnP K mg "BadRow" (ecOf e 1)
  e_NoSide : OwnC P w K mg "NoSide" "why" (ecOf e 3)
  e_NotTurned : OwnC P w K mg "NotTurned" "left" (ecOf e 2)
  a__law_dice : Addr
  d__law_dice : FuncData
  F__law_dice : Fun K "_law_dice" "_law_dice" s__law_dice a__law_dice d__law_dice
  g__law_dice : mg "_law_dice" = some (.ref a__law_dice)
  b__law_dice : Binds K d__law_dice ["_law_script"] []
  a__law_left : Addr
  d__law_left : FuncData
  F__law_left : Fun K "_law_left" "_law_left" s__law_left a__law_left d__law_left
  g__law_left : mg "_law_left" = some (.ref a__law_left)
  b__law_left : Binds K d__law_left ["_law_number"] []
  a__law_next : Addr
  d__law_next : FuncData
  F__law_next : Fun K "_law_next" "_law_next" s__law_next a__law_next d__law_next
  g__law_next : mg "_law_next" = some (.ref a__law_next)
  b__law_next : Binds K d__law_next ["_law_dice_here", "_law_many"] []
  a__law_row : Addr
  d__law_row : FuncData
  F__law_row : Fun K "_law_row" "_law_row" s__law_row a__law_row d__law_row
  g__law_row : mg "_law_row" = some (.ref a__law_row)
  b__law_row : Binds K d__law_row ["_law_number"] []
  a__law_smooth : Addr
  d__law_smooth : FuncData
  F__law_smooth : Fun K "_law_smooth" "_law_smooth" s__law_smooth a__law_smooth d__law_smooth
  g__law_smooth : mg "_law_smooth" = some (.ref a__law_smooth)
  b__law_smooth : Binds K d__law_smooth ["_law_d"] []
  a__law_drawn : Addr
  d__law_drawn : FuncData
  F__law_drawn : Fun K "_law_drawn" "_law_drawn" s__law_drawn a__law_drawn d__law_drawn
  g__law_drawn : mg "_law_drawn" = some (.ref a__law_drawn)
  b__law_drawn : Binds K d__law_drawn ["_law_d", "_law_most"] []
  a__law_short : Addr
  d__law_short : FuncData
  F__law_short : Fun K "_law_short" "_law_short" s__law_short a__law_short d__law_short
  g__law_short : mg "_law_short" = some (.ref a__law_short)
  b__law_short : Binds K d__law_short ["_law_d", "_law_most"] []
  a__law_smooth_row : Addr
  d__law_smooth_row : FuncData
  F__law_smooth_row : Fun K "_law_smooth_row" "_law_smooth_row" s__law_smooth_row a__law_smooth_row d__law_smooth_row
  g__law_smooth_row : mg "_law_smooth_row" = some (.ref a__law_smooth_row)
  b__law_smooth_row : Binds K d__law_smooth_row ["_law_d", "_law_most"] []
  a__law_whole_of : Addr
  d__law_whole_of : FuncData
  F__law_whole_of : Fun K "_law_whole_of" "_law_whole_of" s__law_whole_of a__law_whole_of d__law_whole_of
  g__law_whole_of : mg "_law_whole_of" = some (.ref a__law_whole_of)
  b__law_whole_of : Binds K d__law_whole_of ["_law_row_here"] []
  a__law_word : Addr
  d__law_word : FuncData
  F__law_word : Fun K "_law_word" "_law_word" s__law_word a__law_word d__law_word
  g__law_word : mg "_law_word" = some (.ref a__law_word)
  b__law_word : Binds K d__law_word ["_law_work"] []
  a_factors_of : Addr
  d_factors_of : FuncData
  F_factors_of : Fun K "factors_of" "factors_of" s_factors_of a_factors_of d_factors_of
  g_factors_of : mg "factors_of" = some (.ref a_factors_of)
  b_factors_of : Binds K d_factors_of ["number"] []
  a_left_of : Addr
  d_left_of : FuncData
  F_left_of : Fun K "left_of" "left_of" s_left_of a_left_of d_left_of
  g_left_of : mg "left_of" = some (.ref a_left_of)
  b_left_of : Binds K d_left_of ["number"] []
  a_parted : Addr
  d_parted : FuncData
  F_parted : Fun K "parted" "parted" s_parted a_parted d_parted
  g_parted : mg "parted" = some (.ref a_parted)
  b_parted : Binds K d_parted ["number", "divisor"] []
  a_figures_of : Addr
  d_figures_of : FuncData
  F_figures_of : Fun K "figures_of" "figures_of" s_figures_of a_figures_of d_figures_of
  g_figures_of : mg "figures_of" = some (.ref a_figures_of)
  b_figures_of : Binds K d_figures_of ["number"] []
  a_row_of : Addr
  d_row_of : FuncData
  F_row_of : Fun K "row_of" "row_of" s_row_of a_row_of d_row_of
  g_row_of : mg "row_of" = some (.ref a_row_of)
  b_row_of : Binds K d_row_of ["number"] []
  a_is_long_row : Addr
  d_is_long_row : FuncData
  F_is_long_row : Fun K "is_long_row" "is_long_row" s_is_long_row a_is_long_row d_is_long_row
  g_is_long_row : mg "is_long_row" = some (.ref a_is_long_row)
  b_is_long_row : Binds K d_is_long_row ["figures"] []
  a_is_row : Addr
  d_is_row : FuncData
  F_is_row : Fun K "is_row" "is_row" s_is_row a_is_row d_is_row
  g_is_row : mg "is_row" = some (.ref a_is_row)
  b_is_row : Binds K d_is_row ["figures"] []
  a_check_row : Addr
  d_check_row : FuncData
  F_check_row : Fun K "check_row" "check_row" s_check_row a_check_row d_check_row
  g_check_row : mg "check_row" = some (.ref a_check_row)
  b_check_row : Binds K d_check_row ["row"] []
  a_number_of : Addr
  d_number_of : FuncData
  F_number_of : Fun K "number_of" "number_of" s_number_of a_number_of d_number_of
  g_number_of : mg "number_of" = some (.ref a_number_of)
  b_number_of : Binds K d_number_of ["figures"] []
  a_whole_of : Addr
  d_whole_of : FuncData
  F_whole_of : Fun K "whole_of" "whole_of" s_whole_of a_whole_of d_whole_of
  g_whole_of : mg "whole_of" = some (.ref a_whole_of)
  b_whole_of : Binds K d_whole_of ["row"] []
  a_part : Addr
  d_part : FuncData
  F_part : Fun K "part" "part" s_part a_part d_part
  g_part : mg "part" = some (.ref a_part)
  b_part : Binds K d_part ["one", "other"] []
  a_times : Addr
  d_times : FuncData
  F_times : Fun K "times" "times" s_times a_times d_times
  g_times : mg "times" = some (.ref a_times)
  b_times : Binds K d_times ["one", "other"] []
  a_powers_below : Addr
  d_powers_below : FuncData
  F_powers_below : Fun K "powers_below" "powers_below" s_powers_below a_powers_below d_powers_below
  g_powers_below : mg "powers_below" = some (.ref a_powers_below)
  b_powers_below : Binds K d_powers_below ["prime", "limit"] []
  a_turnables : Addr
  d_turnables : FuncData
  F_turnables : Fun K "turnables" "turnables" s_turnables a_turnables d_turnables
  g_turnables : mg "turnables" = some (.ref a_turnables)
  b_turnables : Binds K d_turnables ["places"] []
  a_turned : Addr
  d_turned : FuncData
  F_turned : Fun K "turned" "turned" s_turned a_turned d_turned
  g_turned : mg "turned" = some (.ref a_turned)
  b_turned : Binds K d_turned ["row"] []
  a_law : Addr
  d_law : FuncData
  F_law : Fun K "law" "law" s_law a_law d_law
  g_law : mg "law" = some (.ref a_law)
  b_law : Binds K d_law ["_law_script"] []
  wk : LamX.WordK K mg (ecOf e 3) (ecOf e 2) (ecOf e 1)
  z_divmod : mg "divmod" = none
  z_int : mg "int" = none
  z_len : mg "len" = none
  z_max : mg "max" = none
  z_min : mg "min" = none
  z_range : mg "range" = none
  z_reversed : mg "reversed" = none
  z_set : mg "set" = none
  z_sorted : mg "sorted" = none
  z_tuple : mg "tuple" = none
  c_MOST_FIGURES : ∃ t, mg "MOST_FIGURES" = some (.int 12 t)
  c_PRIMES : ∃ a, mg "PRIMES" = some (.ref a) ∧ ∀ W, Rp K W (.ref a) (.ktup [(nat 2), (nat 3), (nat 5)])
  seer : L2.SeerK P K base
  m_gcd : mg "gcd" = some (.builtin "math.gcd")
section
variable {P : Program} {w : World} {K : PySem.W.Frag} {mg : Str → Option Value} {base : Heap}
theorem len__law_dice {vs : List V} {H : Hp} {Q : VK} {E : XK} (h : Sx.sp__law_dice K vs H Q E) : vs.length = 1 := by
  unfold Sx.sp__law_dice at h; first | (obtain ⟨_, rfl, _⟩ := h; rfl) | (obtain ⟨_, _, rfl, _⟩ := h; rfl) | (obtain ⟨_, _, _, rfl, _⟩ := h; rfl) | (obtain ⟨_, _, _, _, rfl, _⟩ := h; rfl)
theorem old__law_dice (T : Tx P w K mg base) : FnOk P w K mg base CX0 41 T.a__law_dice T.d__law_dice ["_law_script"] (Sx.sp__law_dice K) := by
  refine T.F__law_dice.ok sc__law_dice (fun vs H Q E h => len__law_dice h) (fun cdv A outer s H vs Q E hr h => ⟨Sx.t__law_dice K, ?_, Sx.pure__law_dice h⟩)
  exact (pss_cons (ps_set (i := 1) sc__law_dice.nd rfl (Or.inl rfl) pe_int)
  (pss_cons (ps_for PassesOwn.never rfl (pi_list (pv 0)) (pg_name (i := 2) sc__law_dice.nd rfl (Or.inl rfl))
  (pss_one (ps_set (i := 1) sc__law_dice.nd rfl (Or.inl rfl) (pe_op op_mod (pe_op op_add (pe_op op_add (pe_op op_mul (pv 1) pe_int) (pe_op op_mul (pe_op op_mod (pv 2) pe_int) pe_int)) pe_int) pe_int))))
  (pss_one (ps_ret (pe_lstN (pa_cons (pv 0) (pa_cons pe_int (pa_cons (pe_op op_mulW (pv 1) (pe_callTy call_int1 rfl T.z_int (by decide +kernel) (pa_cons (pe_cmpR op_gt (pe_callB call_len_seq rfl T.z_len (by decide +kernel) (pa_cons (pv 0) pa_nil)) pe_int (nomark _)) pa_nil))) (pa_cons pe_int pa_nil)))))))))
theorem ok__law_dice (T : Tx P w K mg base) : FnOk P w K mg base CX0 41 T.a__law_dice T.d__law_dice ["_law_script"] (liftSp K (ecOf T.e) sp__law_dice) := (old__law_dice T).imp fun _ _ _ _ => conv__law_dice
theorem ln__law_left {xs : List Dt} {P : Dt → Prop} {X : DX} (h : sp__law_left xs P X) : xs.length = 1 := by unfold sp__law_left at h; first | grind | (unfold spIs at h; grind)
theorem ok__law_left (T : Tx P w K mg base) : FnOk P w K mg base (L2.CX P w) 41 T.a__law_left T.d__law_left ["_law_number"] (liftSp K (ecOf T.e) sp__law_left) := by
  refine T.F__law_left.okX sc__law_left (fun vs H Q E h => liftSp_len (fun _ _ _ => ln__law_left) h) (fun cdv A outer s H vs Q E hr h => ⟨liftS K (ecOf T.e) E d__law_left, ?_, run_lift (fun _ _ _ => dp__law_left) h⟩)
  unfold d__law_left
  exact (zss (pss_cons (PS.imp (ps_for (passes_of rfl) rfl (PI.imp (pi_list (efz (nlst (acons ec_int (acons ec_int (acons ec_int anil)))))) fun _ _ _ => li_list) (pg_name (i := 1) sc__law_left.nd rfl (Or.inl rfl))
  (pss_one (PS.imp (ps_while (passes_of rfl) (tcmp op_eq o_eqS (eop op_mod o_md (ev (pv 0)) (ev (pv 1))) ec_int (nomark _)) (pss_one (PS.imp (ps_set (i := 0) sc__law_left.nd rfl (Or.inl rfl) (eop op_fdivW o_fd (ev (pv 0)) (ev (pv 1)))) fun _ _ _ => ls_asg1))) fun _ _ _ => ls_while))) fun _ _ _ => ls_for)
  (pss_one (PS.imp (ps_ret (ev (pv 0))) fun _ _ _ => ls_ret))) fun _ _ _ => ls_seq)
theorem len__law_next {vs : List V} {H : Hp} {Q : VK} {E : XK} (h : Sx.sp__law_next K vs H Q E) : vs.length = 2 := by
  unfold Sx.sp__law_next at h; first | (obtain ⟨_, rfl, _⟩ := h; rfl) | (obtain ⟨_, _, rfl, _⟩ := h; rfl) | (obtain ⟨_, _, _, rfl, _⟩ := h; rfl) | (obtain ⟨_, _, _, _, rfl, _⟩ := h; rfl)
theorem old__law_next (T : Tx P w K mg base) : FnOk P w K mg base CX0 41 T.a__law_next T.d__law_next ["_law_dice_here", "_law_many"] (Sx.sp__law_next K) := by
  refine T.F__law_next.ok sc__law_next (fun vs H Q E h => len__law_next h) (fun cdv A outer s H vs Q E hr h => ⟨Sx.t__law_next K, ?_, Sx.pure__law_next h⟩)
  exact (pss_cons (ps_if (pt_cmpR op_gt (pe_ix ix_list (pv 0) pe_int (fun _ _ => rfl)) pe_int (nomark _)) (pss_cons (ps_set (i := 2) sc__law_next.nd rfl (Or.inl rfl) (pe_op op_mod (pe_ix ix_list (pv 0) pe_int (fun _ _ => rfl)) (pv 1)))
  (pss_cons (ps_asg (pe_op op_fdiv (pe_ix ix_list (pv 0) pe_int (fun _ _ => rfl)) (pv 1)) (pg_sub (pv 0) pe_int set_list))
  (pss_one (ps_ret (pv 2))))) pss_nil)
  (pss_cons (ps_asg (pe_op op_add (pe_ix ix_list (pv 0) pe_int (fun _ _ => rfl)) pe_int) (pg_sub (pv 0) pe_int set_list))
  (pss_cons (ps_if (pt_cmpR op_le (pe_ix ix_list (pv 0) pe_int (fun _ _ => rfl)) (pe_callB call_len_seq rfl T.z_len (by decide +kernel) (pa_cons (pe_ix ix_list (pv 0) pe_int (fun _ _ => rfl)) pa_nil)) (nomark _)) (pss_cons (ps_set (i := 3) sc__law_next.nd rfl (Or.inl rfl) (pe_ix ix_list (pe_ix ix_list (pv 0) pe_int (fun _ _ => rfl)) (pe_op op_sub (pe_ix ix_list (pv 0) pe_int (fun _ _ => rfl)) pe_int) (fun _ _ => rfl)))
  (pss_cons (ps_asg (pe_ifExp (pt_cmpR op_ge (pv 3) (pe_op op_pow pe_int pe_int) (nomark _)) (pe_op op_fdiv (pv 3) (pv 1)) pe_int) (pg_sub (pv 0) pe_int set_list))
  (pss_one (ps_ret (pe_op op_mod (pv 3) (pv 1)))))) pss_nil)
  (pss_cons (ps_asg (pe_op op_mod (pe_op op_mul (pe_ix ix_list (pv 0) pe_int (fun _ _ => rfl)) pe_int) pe_int) (pg_sub (pv 0) pe_int set_list))
  (pss_one (ps_ret (pe_op op_mod (pe_op op_fdiv (pe_ix ix_list (pv 0) pe_int (fun _ _ => rfl)) pe_int) (pv 1))))))))
theorem ok__law_next (T : Tx P w K mg base) : FnOk P w K mg base CX0 41 T.a__law_next T.d__law_next ["_law_dice_here", "_law_many"] (liftSp K (ecOf T.e) sp__law_next) := (old__law_next T).imp fun _ _ _ _ => conv__law_next
theorem ln__law_row {xs : List Dt} {P : Dt → Prop} {X : DX} (h : sp__law_row xs P X) : xs.length = 1 := by unfold sp__law_row at h; first | grind | (unfold spIs at h; grind)
theorem ok__law_row (T : Tx P w K mg base) : FnOk P w K mg base (L2.CX P w) 41 T.a__law_row T.d__law_row ["_law_number"] (liftSp K (ecOf T.e) sp__law_row) := by
  refine T.F__law_row.okX sc__law_row (fun vs H Q E h => liftSp_len (fun _ _ _ => ln__law_row) h) (fun cdv A outer s H vs Q E hr h => ⟨liftS K (ecOf T.e) E d__law_row, ?_, run_lift (fun _ _ _ => dp__law_row) h⟩)
  unfold d__law_row
  exact (zss (pss_cons (PS.imp (ps_set (i := 1) sc__law_row.nd rfl (Or.inl rfl) (nlst anil)) fun _ _ _ => ls_asgN)
  (zss (pss_cons (PS.imp (ps_while (passes_of rfl) (tcmp op_gt o_gt (ev (pv 0)) ec_int (nomark _)) (zss (pss_cons (PS.imp (ps_expr (pe_bm PySem.F.plainAttrs_list PySem.F.slot_list_append PySem.F.type_list_append mt_append (pv 1) (pa_cons (eop op_mod o_md (ev (pv 0)) ec_int) pa_nil))) fun _ _ _ => ls_app)
  (pss_one (PS.imp (ps_set (i := 0) sc__law_row.nd rfl (Or.inl rfl) (eop op_fdivW o_fd (ev (pv 0)) ec_int)) fun _ _ _ => ls_asg1))) fun _ _ _ => ls_seq)) fun _ _ _ => ls_while)
  (zss (pss_cons (PS.imp (ps_while (passes_of rfl) (tcmp op_eq o_eqS (PE.imp (pe_ix ix_list (pv 1) ec_int (fun _ _ => rfl)) fun _ _ _ => le_ixO) ec_int (nomark _)) (pss_one (PS.imp (ps_expr (pe_bm PySem.F.plainAttrs_list PySem.F.slot_list_pop PySem.F.type_list_pop mt_popAt (pv 1) (by exact (pa_cons pe_int pa_nil)))) fun _ _ _ => (ls_pop0 fun _ _ _ h => h)))) fun _ _ _ => ls_while)
  (pss_one (PS.imp (ps_ret (ecb o_tupOf (pe_callTy call_tuple_of rfl T.z_tuple (by decide +kernel) (acons (efz (PE.imp (pe_revLN (pv 1)) fun _ _ _ => le_revO)) anil)))) fun _ _ _ => ls_ret))) fun _ _ _ => ls_seq)) fun _ _ _ => ls_seq)) fun _ _ _ => ls_seq)
theorem ln__law_smooth {xs : List Dt} {P : Dt → Prop} {X : DX} (h : sp__law_smooth xs P X) : xs.length = 1 := by unfold sp__law_smooth at h; first | grind | (unfold spIs at h; grind)
theorem ok__law_smooth (T : Tx P w K mg base) : FnOk P w K mg base (L2.CX P w) 42 T.a__law_smooth T.d__law_smooth ["_law_d"] (liftSp K (ecOf T.e) sp__law_smooth) := by
  have G__law_next : FnOk P w K mg base CX0 41 T.a__law_next T.d__law_next ["_law_dice_here", "_law_many"] (liftSp K (ecOf T.e) sp__law_next) := ok__law_next T
  refine T.F__law_smooth.okX sc__law_smooth (fun vs H Q E h => liftSp_len (fun _ _ _ => ln__law_smooth) h) (fun cdv A outer s H vs Q E hr h => ⟨liftS K (ecOf T.e) E d__law_smooth, ?_, run_lift (fun _ _ _ => dp__law_smooth) h⟩)
  unfold d__law_smooth
  exact (zss (pss_cons (PS.imp (ps_set (i := 1) sc__law_smooth.nd rfl (Or.inl rfl) ec_int) fun _ _ _ => ls_asg1)
  (zss (pss_cons (PS.imp (ps_for (passes_of rfl) rfl (PI.imp (pi_list (efz (nlst (acons ec_int (acons ec_int (acons ec_int anil)))))) fun _ _ _ => li_list) (pg_name (i := 2) sc__law_smooth.nd rfl (Or.inl rfl))
  (pss_one (PS.imp (ps_for (passes_of rfl) rfl (PI.imp (pi_range1 rfl T.z_range (acons (eix o_ixL (pe_ix ix_list (efz (nlst (acons (PE.imp (pe_call G__law_next (hr.mono (by decide)) rfl T.g__law_next T.F__law_next.kp T.b__law_next .nil pass0 (acons (ev (pv 0)) (acons ec_int anil))) fun _ _ _ => le_call0) (acons (PE.imp (pe_call G__law_next (hr.mono (by decide)) rfl T.g__law_next T.F__law_next.kp T.b__law_next .nil pass0 (acons (ev (pv 0)) (acons ec_int anil))) fun _ _ _ => le_call0) anil)))) (ecb o_int1 (pe_callTy call_int1 rfl T.z_int (by decide +kernel) (acons (ecmp op_eq o_eqS (PE.imp (pe_call G__law_next (hr.mono (by decide)) rfl T.g__law_next T.F__law_next.kp T.b__law_next .nil pass0 (acons (ev (pv 0)) (acons ec_int anil))) fun _ _ _ => le_call0) ec_int (nomark _)) anil))) (fun _ _ => rfl))) anil)) fun _ _ _ => li_rng1) (pg_name (i := 3) sc__law_smooth.nd rfl (Or.inl rfl))
  (pss_one (PS.imp (ps_set (i := 1) sc__law_smooth.nd rfl (Or.inl rfl) (eop op_mulW o_mul (ev (pv 1)) (ev (pv 2)))) fun _ _ _ => ls_asg1))) fun _ _ _ => ls_for))) fun _ _ _ => ls_for)
  (pss_one (PS.imp (ps_ret (ev (pv 1))) fun _ _ _ => ls_ret))) fun _ _ _ => ls_seq)) fun _ _ _ => ls_seq)
theorem ln__law_drawn {xs : List Dt} {P : Dt → Prop} {X : DX} (h : sp__law_drawn xs P X) : xs.length = 2 := by unfold sp__law_drawn at h; first | grind | (unfold spIs at h; grind)
theorem ok__law_drawn (T : Tx P w K mg base) : FnOk P w K mg base (L2.CX P w) 43 T.a__law_drawn T.d__law_drawn ["_law_d", "_law_most"] (liftSp K (ecOf T.e) sp__law_drawn) := by
  have G__law_next : FnOk P w K mg base CX0 41 T.a__law_next T.d__law_next ["_law_dice_here", "_law_many"] (liftSp K (ecOf T.e) sp__law_next) := ok__law_next T
  have G__law_row : FnOk P w K mg base (L2.CX P w) 41 T.a__law_row T.d__law_row ["_law_number"] (liftSp K (ecOf T.e) sp__law_row) := ok__law_row T
  have G__law_smooth : FnOk P w K mg base (L2.CX P w) 42 T.a__law_smooth T.d__law_smooth ["_law_d"] (liftSp K (ecOf T.e) sp__law_smooth) := ok__law_smooth T
  refine T.F__law_drawn.okX sc__law_drawn (fun vs H Q E h => liftSp_len (fun _ _ _ => ln__law_drawn) h) (fun cdv A outer s H vs Q E hr h => ⟨liftS K (ecOf T.e) E d__law_drawn, ?_, run_lift (fun _ _ _ => dp__law_drawn) h⟩)
  unfold d__law_drawn
  exact (zss (pss_cons (PS.imp (ps_set (i := 2) sc__law_drawn.nd rfl (Or.inl rfl) (PE.imp (pe_call G__law_next (hr.mono (by decide)) rfl T.g__law_next T.F__law_next.kp T.b__law_next .nil pass0 (acons (ev (pv 0)) (acons ec_int anil))) fun _ _ _ => le_call0)) fun _ _ _ => ls_asg1)
  (zss (pss_cons (PS.imp (ps_if (tcmp op_eq o_eqS (ev (pv 2)) ec_int (nomark _)) (pss_one (PS.imp (ps_ret (PE.imp (pe_callS (E := WE fun cls d _ H => E cls d H) G__law_row (hr.mono (by decide)) rfl T.g__law_row T.F__law_row.kp T.b__law_row (fun σ => passAt (takes_of rfl rfl rfl rfl) σ) (by exact (acons (eop op_add o_add ec_int (PE.imp (pe_call G__law_next (hr.mono (by decide)) rfl T.g__law_next T.F__law_next.kp T.b__law_next .nil pass0 (acons (ev (pv 0)) (acons ec_int anil))) fun _ _ _ => le_call0)) anil))) fun _ _ _ => le_callX (E := E))) fun _ _ _ => ls_ret)) (zss pss_nil fun _ _ _ => ls_next)) fun _ _ _ => ls_if)
  (zss (pss_cons (PS.imp (ps_if (tcmp op_lt o_lt (ev (pv 2)) ec_int (nomark _)) (pss_one (PS.imp (ps_set (i := 3) sc__law_drawn.nd rfl (Or.inl rfl) (PE.imp (pe_callS (E := WE fun cls d _ H => E cls d H) G__law_row (hr.mono (by decide)) rfl T.g__law_row T.F__law_row.kp T.b__law_row (fun σ => passAt (takes_of rfl rfl rfl rfl) σ) (by exact (acons (eop op_mulW o_mul (PE.imp (pe_callS (E := WE fun cls d _ H => E cls d H) G__law_smooth (hr.mono (by decide)) rfl T.g__law_smooth T.F__law_smooth.kp T.b__law_smooth (fun σ => passAt (takes_of rfl rfl rfl rfl) σ) (by exact (acons (ev (pv 0)) anil))) fun _ _ _ => le_callX (E := E)) (eix o_ixL (pe_ix ix_list (efz (nlst (acons ec_int (acons ec_int (acons ec_int (acons ec_int (acons ec_int (acons ec_int anil)))))))) (PE.imp (pe_call G__law_next (hr.mono (by decide)) rfl T.g__law_next T.F__law_next.kp T.b__law_next .nil pass0 (acons (ev (pv 0)) (acons ec_int anil))) fun _ _ _ => le_call0) (fun _ _ => rfl)))) anil))) fun _ _ _ => le_callX (E := E))) fun _ _ _ => ls_asg1)) (zss (pss_cons (PS.imp (ps_setLc (i := 4) (own := [("_law_k", 5)]) (g := gOf _ (.nm 5)) rfl sc__law_drawn.nd rfl rfl (sw_true rfl rfl rfl (by decide +kernel)) (PI.imp (pi_range1 rfl T.z_range (acons (eop op_add o_add ec_int (PE.imp (pe_call G__law_next (hr.mono (by decide)) rfl T.g__law_next T.F__law_next.kp T.b__law_next .nil pass0 (acons (ev (pv 0)) (acons (ev (pv 1)) anil))) fun _ _ _ => le_call0)) anil)) fun _ _ _ => li_rng1) (blkOk_by (own := [("_law_k", 5)]) (N := ["_law_d", "_law_most", "_law_kind", "_law_found", "_law_figures", "_law_k"]) (sc := defScope s__law_drawn) (by decide +kernel)) (fun _ _ _ _ _ => (pg_name (i := 5) sc__law_drawn.nd rfl (Or.inl rfl))) (fun _ _ _ _ _ => (PTs.imp pts_nil fun _ _ _ => le_yes)) (fun _ _ _ _ _ => (PE.imp (pe_call G__law_next (hr.mono (by decide)) rfl T.g__law_next T.F__law_next.kp T.b__law_next .nil pass0 (acons (ev (pv 0)) (acons ec_int anil))) fun _ _ _ => le_call0))) fun _ _ _ => ls_lc (by decide))
  (pss_one (PS.imp (ps_set (i := 3) sc__law_drawn.nd rfl (Or.inl rfl) (eop op_catA o_catT (eop op_catA o_catT (etup (acons (eop op_add o_add ec_int (PE.imp (pe_call G__law_next (hr.mono (by decide)) rfl T.g__law_next T.F__law_next.kp T.b__law_next .nil pass0 (acons (ev (pv 0)) (acons ec_int anil))) fun _ _ _ => le_call0)) anil)) (ecb o_tupOf (pe_callTy call_tuple_of rfl T.z_tuple (by decide +kernel) (acons (ev (pv 4)) anil)))) (etup (acons (eop op_add o_add ec_int (PE.imp (pe_call G__law_next (hr.mono (by decide)) rfl T.g__law_next T.F__law_next.kp T.b__law_next .nil pass0 (acons (ev (pv 0)) (acons ec_int anil))) fun _ _ _ => le_call0)) anil)))) fun _ _ _ => ls_asg1))) fun _ _ _ => ls_seq)) fun _ _ _ => ls_if)
  (pss_one (PS.imp (ps_ret (eif (tcmp op_gt o_gt (eix o_ixT (pe_ix ix_tup (PE.imp (pe_slice sl_tupA (ev (pv 3)) onone (osome (ev (pv 1)))) fun _ _ _ => le_slT) (eun un_neg o_neg ec_int) (fun _ _ => rfl))) ec_int (nomark _)) (PE.imp (pe_slice sl_tupA (ev (pv 3)) onone (osome (ev (pv 1)))) fun _ _ _ => le_slT) (etup (acons ec_int (acons ec_int anil))))) fun _ _ _ => ls_ret))) fun _ _ _ => ls_seq)) fun _ _ _ => ls_seq)) fun _ _ _ => ls_seq)
theorem ln__law_short {xs : List Dt} {P : Dt → Prop} {X : DX} (h : sp__law_short xs P X) : xs.length = 2 := by unfold sp__law_short at h; first | grind | (unfold spIs at h; grind)
theorem ok__law_short (T : Tx P w K mg base) : FnOk P w K mg base (L2.CX P w) 44 T.a__law_short T.d__law_short ["_law_d", "_law_most"] (liftSp K (ecOf T.e) sp__law_short) := by
  have G__law_drawn : FnOk P w K mg base (L2.CX P w) 43 T.a__law_drawn T.d__law_drawn ["_law_d", "_law_most"] (liftSp K (ecOf T.e) sp__law_drawn) := ok__law_drawn T
  refine T.F__law_short.okX sc__law_short (fun vs H Q E h => liftSp_len (fun _ _ _ => ln__law_short) h) (fun cdv A outer s H vs Q E hr h => ⟨liftS K (ecOf T.e) E d__law_short, ?_, run_lift (fun _ _ _ => dp__law_short) h⟩)
  unfold d__law_short
  exact (zss (pss_cons (PS.imp (ps_set (i := 2) sc__law_short.nd rfl (Or.inl rfl) (PE.imp (pe_callS (E := WE fun cls d _ H => E cls d H) G__law_drawn (hr.mono (by decide)) rfl T.g__law_drawn T.F__law_drawn.kp T.b__law_drawn (fun σ => passAt (takes_of rfl rfl rfl rfl) σ) (by exact (acons (ev (pv 0)) (acons (ev (pv 1)) anil)))) fun _ _ _ => le_callX (E := E))) fun _ _ _ => ls_asg1)
  (pss_one (PS.imp (ps_ret (eif (tcmp op_le o_le (ecb o_len (pe_callB call_len_seq rfl T.z_len (by decide +kernel) (acons (ev (pv 2)) anil))) (ev (pv 1)) (nomark _)) (ev (pv 2)) (PE.imp (pe_slice sl_tupA (ev (pv 2)) onone (osome ec_int)) fun _ _ _ => le_slT))) fun _ _ _ => ls_ret))) fun _ _ _ => ls_seq)
theorem ln__law_smooth_row {xs : List Dt} {P : Dt → Prop} {X : DX} (h : sp__law_smooth_row xs P X) : xs.length = 2 := by unfold sp__law_smooth_row at h; first | grind | (unfold spIs at h; grind)
theorem ok__law_smooth_row (T : Tx P w K mg base) : FnOk P w K mg base (L2.CX P w) 43 T.a__law_smooth_row T.d__law_smooth_row ["_law_d", "_law_most"] (liftSp K (ecOf T.e) sp__law_smooth_row) := by
  have G__law_row : FnOk P w K mg base (L2.CX P w) 41 T.a__law_row T.d__law_row ["_law_number"] (liftSp K (ecOf T.e) sp__law_row) := ok__law_row T
  have G__law_smooth : FnOk P w K mg base (L2.CX P w) 42 T.a__law_smooth T.d__law_smooth ["_law_d"] (liftSp K (ecOf T.e) sp__law_smooth) := ok__law_smooth T
  refine T.F__law_smooth_row.okX sc__law_smooth_row (fun vs H Q E h => liftSp_len (fun _ _ _ => ln__law_smooth_row) h) (fun cdv A outer s H vs Q E hr h => ⟨liftS K (ecOf T.e) E d__law_smooth_row, ?_, run_lift (fun _ _ _ => dp__law_smooth_row) h⟩)
  unfold d__law_smooth_row
  exact (zss (pss_cons (PS.imp (ps_set (i := 2) sc__law_smooth_row.nd rfl (Or.inl rfl) (PE.imp (pe_callS (E := WE fun cls d _ H => E cls d H) G__law_row (hr.mono (by decide)) rfl T.g__law_row T.F__law_row.kp T.b__law_row (fun σ => passAt (takes_of rfl rfl rfl rfl) σ) (by exact (acons (PE.imp (pe_callS (E := WE fun cls d _ H => E cls d H) G__law_smooth (hr.mono (by decide)) rfl T.g__law_smooth T.F__law_smooth.kp T.b__law_smooth (fun σ => passAt (takes_of rfl rfl rfl rfl) σ) (by exact (acons (ev (pv 0)) anil))) fun _ _ _ => le_callX (E := E)) anil))) fun _ _ _ => le_callX (E := E))) fun _ _ _ => ls_asg1)
  (pss_one (PS.imp (ps_ret (eif (tcmp op_le o_le (ecb o_len (pe_callB call_len_seq rfl T.z_len (by decide +kernel) (acons (ev (pv 2)) anil))) (ev (pv 1)) (nomark _)) (ev (pv 2)) (etup (acons ec_int (acons ec_int anil))))) fun _ _ _ => ls_ret))) fun _ _ _ => ls_seq)
theorem ln__law_whole_of {xs : List Dt} {P : Dt → Prop} {X : DX} (h : sp__law_whole_of xs P X) : xs.length = 1 := by unfold sp__law_whole_of at h; first | grind | (unfold spIs at h; grind)
theorem ok__law_whole_of (T : Tx P w K mg base) : FnOk P w K mg base (L2.CX P w) 41 T.a__law_whole_of T.d__law_whole_of ["_law_row_here"] (liftSp K (ecOf T.e) sp__law_whole_of) := by
  refine T.F__law_whole_of.okX sc__law_whole_of (fun vs H Q E h => liftSp_len (fun _ _ _ => ln__law_whole_of) h) (fun cdv A outer s H vs Q E hr h => ⟨liftS K (ecOf T.e) E d__law_whole_of, ?_, run_lift (fun _ _ _ => dp__law_whole_of) h⟩)
  unfold d__law_whole_of
  exact (zss (pss_cons (PS.imp (ps_set (i := 1) sc__law_whole_of.nd rfl (Or.inl rfl) ec_int) fun _ _ _ => ls_asg1)
  (zss (pss_cons (PS.imp (ps_for (passes_of rfl) rfl (PI.imp (pi_range1 rfl T.z_range (acons (ecb o_len (pe_callB call_len_seq rfl T.z_len (by decide +kernel) (acons (ev (pv 0)) anil))) anil)) fun _ _ _ => li_rng1) (pg_name (i := 2) sc__law_whole_of.nd rfl (Or.inl rfl))
  (pss_one (PS.imp (ps_set (i := 1) sc__law_whole_of.nd rfl (Or.inl rfl) (eop op_add o_add (eop op_mulW o_mul (ev (pv 1)) ec_int) (eix o_ixT (pe_ix ix_tup (ev (pv 0)) (ev (pv 2)) (fun _ _ => rfl))))) fun _ _ _ => ls_asg1))) fun _ _ _ => ls_for)
  (pss_one (PS.imp (ps_ret (ev (pv 1))) fun _ _ _ => ls_ret))) fun _ _ _ => ls_seq)) fun _ _ _ => ls_seq)
theorem ln_factors_of {xs : List Dt} {P : Dt → Prop} {X : DX} (h : sp_factors_of xs P X) : xs.length = 1 := by unfold sp_factors_of at h; first | grind | (unfold spIs at h; grind)
theorem ok_factors_of (T : Tx P w K mg base) : FnOk P w K mg base (L2.CX P w) 41 T.a_factors_of T.d_factors_of ["number"] (liftSp K (ecOf T.e) sp_factors_of) := by
  refine T.F_factors_of.okX sc_factors_of (fun vs H Q E h => liftSp_len (fun _ _ _ => ln_factors_of) h) (fun cdv A outer s H vs Q E hr h => ⟨liftS K (ecOf T.e) E d_factors_of, ?_, run_lift (fun _ _ _ => dp_factors_of) h⟩)
  unfold d_factors_of
  exact (zss (pss_cons (PS.imp (ps_set (i := 1) sc_factors_of.nd rfl (Or.inl rfl) (ev (pv 0))) fun _ _ _ => ls_asg1)
  (zss (pss_cons (PS.imp (ps_set (i := 2) sc_factors_of.nd rfl (Or.inl rfl) (nlst anil)) fun _ _ _ => ls_asgN)
  (zss (pss_cons (PS.imp (ps_for (passes_of rfl) rfl (PI.imp (pi_tup (ec (v := V.ref T.c_PRIMES.choose) (pe_glob rfl T.c_PRIMES.choose_spec.1 rfl) T.c_PRIMES.choose_spec.2)) fun _ _ _ => li_ktup) (pg_name (i := 3) sc_factors_of.nd rfl (Or.inl rfl))
  (zss (pss_cons (PS.imp (ps_set (i := 4) sc_factors_of.nd rfl (Or.inl rfl) ec_int) fun _ _ _ => ls_asg1)
  (zss (pss_cons (PS.imp (ps_while (passes_of rfl) (tcmp op_eq o_eqS (eop op_mod o_md (ev (pv 1)) (ev (pv 3))) ec_int (nomark _)) (zss (pss_cons (PS.imp (ps_aug (i := 1) sc_factors_of.nd rfl (Or.inl rfl) (ev (pv 3)) (ip_of iop_fdivW)) fun _ _ _ => (ls_aug o_fd))
  (pss_one (PS.imp (ps_aug (i := 4) sc_factors_of.nd rfl (Or.inl rfl) ec_int ip_add) fun _ _ _ => (ls_aug o_ipadd)))) fun _ _ _ => ls_seq)) fun _ _ _ => ls_while)
  (pss_one (PS.imp (ps_expr (pe_bm PySem.F.plainAttrs_list PySem.F.slot_list_append PySem.F.type_list_append mt_append (pv 2) (pa_cons (ev (pv 4)) pa_nil))) fun _ _ _ => ls_app))) fun _ _ _ => ls_seq)) fun _ _ _ => ls_seq)) fun _ _ _ => ls_for)
  (pss_one (PS.imp (PS.imp (ps_ret (etup (acons (ecb o_tupOf (pe_callTy call_tuple_of rfl T.z_tuple (by decide +kernel) (acons (ev (pv 2)) anil))) (acons (ev (pv 1)) anil)))) fun _ _ _ => ls_ret) fun _ _ _ => ls_frz))) fun _ _ _ => ls_seq)) fun _ _ _ => ls_seq)) fun _ _ _ => ls_seq)
theorem ln_left_of {xs : List Dt} {P : Dt → Prop} {X : DX} (h : sp_left_of xs P X) : xs.length = 1 := by unfold sp_left_of at h; first | grind | (unfold spIs at h; grind)
theorem ok_left_of (T : Tx P w K mg base) : FnOk P w K mg base (L2.CX P w) 42 T.a_left_of T.d_left_of ["number"] (liftSp K (ecOf T.e) sp_left_of) := by
  have G_factors_of : FnOk P w K mg base (L2.CX P w) 41 T.a_factors_of T.d_factors_of ["number"] (liftSp K (ecOf T.e) sp_factors_of) := ok_factors_of T
  refine T.F_left_of.okX sc_left_of (fun vs H Q E h => liftSp_len (fun _ _ _ => ln_left_of) h) (fun cdv A outer s H vs Q E hr h => ⟨liftS K (ecOf T.e) E d_left_of, ?_, run_lift (fun _ _ _ => dp_left_of) h⟩)
  unfold d_left_of
  exact (zss (pss_cons (PS.imp (ps_asg (PE.imp (pe_callS (E := WE fun cls d _ H => E cls d H) G_factors_of (hr.mono (by decide)) rfl T.g_factors_of T.F_factors_of.kp T.b_factors_of (fun σ => passAt (takes_of rfl rfl rfl rfl) σ) (by exact (acons (ev (pv 0)) anil))) fun _ _ _ => le_callX (E := E)) (pgtup rfl (pgcons (pgnm (pg_name (i := 1) sc_left_of.nd rfl (Or.inl rfl))) (pgcons (pgnm (pg_name (i := 2) sc_left_of.nd rfl (Or.inl rfl))) pgnil)))) fun _ _ _ => ls_asg)
  (pss_one (PS.imp (ps_ret (ev (pv 2))) fun _ _ _ => ls_ret))) fun _ _ _ => ls_seq)
theorem ln_parted {xs : List Dt} {P : Dt → Prop} {X : DX} (h : sp_parted xs P X) : xs.length = 2 := by unfold sp_parted at h; first | grind | (unfold spIs at h; grind)
theorem ok_parted (T : Tx P w K mg base) : FnOk P w K mg base (L2.CX P w) 41 T.a_parted T.d_parted ["number", "divisor"] (liftSp K (ecOf T.e) sp_parted) := by
  refine T.F_parted.okX sc_parted (fun vs H Q E h => liftSp_len (fun _ _ _ => ln_parted) h) (fun cdv A outer s H vs Q E hr h => ⟨liftS K (ecOf T.e) E d_parted, ?_, run_lift (fun _ _ _ => dp_parted) h⟩)
  unfold d_parted
  exact (zss (pss_cons (PS.imp (ps_set (i := 2) sc_parted.nd rfl (Or.inl rfl) ec_int) fun _ _ _ => ls_asg1)
  (zss (pss_cons (PS.imp (ps_while (passes_of rfl) (tcmp op_ne o_neS (eop op_mod o_md (ev (pv 0)) (ev (pv 1))) ec_int (nomark _)) (zss (pss_cons (PS.imp (ps_aug (i := 0) sc_parted.nd rfl (Or.inl rfl) ec_int (ip_of iop_mulW)) fun _ _ _ => (ls_aug o_mul))
  (pss_one (PS.imp (ps_aug (i := 2) sc_parted.nd rfl (Or.inl rfl) ec_int ip_add) fun _ _ _ => (ls_aug o_ipadd)))) fun _ _ _ => ls_seq)) fun _ _ _ => ls_while)
  (pss_one (PS.imp (ps_ret (etup (acons (eop op_fdivW o_fd (ev (pv 0)) (ev (pv 1))) (acons (ev (pv 2)) anil)))) fun _ _ _ => ls_ret))) fun _ _ _ => ls_seq)) fun _ _ _ => ls_seq)
theorem ln_figures_of {xs : List Dt} {P : Dt → Prop} {X : DX} (h : sp_figures_of xs P X) : xs.length = 1 := by unfold sp_figures_of at h; first | grind | (unfold spIs at h; grind)
theorem ok_figures_of (T : Tx P w K mg base) : FnOk P w K mg base (L2.CX P w) 41 T.a_figures_of T.d_figures_of ["number"] (liftSp K (ecOf T.e) sp_figures_of) := by
  refine T.F_figures_of.okX sc_figures_of (fun vs H Q E h => liftSp_len (fun _ _ _ => ln_figures_of) h) (fun cdv A outer s H vs Q E hr h => ⟨liftS K (ecOf T.e) E d_figures_of, ?_, run_lift (fun _ _ _ => dp_figures_of) h⟩)
  unfold d_figures_of
  exact (zss (pss_cons (PS.imp (ps_set (i := 1) sc_figures_of.nd rfl (Or.inl rfl) (nlst (acons ec_int anil))) fun _ _ _ => ls_asgN)
  (zss (pss_cons (PS.imp (ps_while (passes_of rfl) (tcmp op_le o_le (PE.imp (pe_ix ix_list (pv 1) (eun un_neg o_neg ec_int) (fun _ _ => rfl)) fun _ _ _ => le_ixO) (ev (pv 0)) (nomark _)) (pss_one (PS.imp (ps_expr (pe_bm PySem.F.plainAttrs_list PySem.F.slot_list_append PySem.F.type_list_append mt_append (pv 1) (pa_cons (eop op_mulW o_mul (PE.imp (pe_ix ix_list (pv 1) (eun un_neg o_neg ec_int) (fun _ _ => rfl)) fun _ _ _ => le_ixO) (PE.imp (pe_ix ix_list (pv 1) (eun un_neg o_neg ec_int) (fun _ _ => rfl)) fun _ _ _ => le_ixO)) pa_nil))) fun _ _ _ => ls_app))) fun _ _ _ => ls_while)
  (zss (pss_cons (PS.imp (ps_set (i := 2) sc_figures_of.nd rfl (Or.inl rfl) (efz (nlst (acons (ev (pv 0)) anil)))) fun _ _ _ => ls_asg1)
  (zss (pss_cons (PS.imp (ps_for (passes_of rfl) rfl (PI.imp (pi_revA rfl T.z_reversed (efz (PE.imp (pe_slice sl_listN (pv 1) onone (osome (eun un_neg o_neg ec_int))) fun _ _ _ => le_slO))) fun _ _ _ => li_rev) (pg_name (i := 3) sc_figures_of.nd rfl (Or.inr rfl))
  (pss_one (PS.imp (ps_setLc2 (i := 2) (own := [("piece", 5), ("half", 6)]) (vs1 := [6]) (g := gOf _ (.nm 5)) (g1 := gOf _ (.nm 6)) rfl sc_figures_of.nd rfl rfl (sw_true rfl rfl rfl (by decide +kernel)) (PI.imp (pi_list (ev (pv 2))) fun _ _ _ => li_list) (blkOk_by (own := [("piece", 5), ("half", 6)]) (N := ["number", "powers", "pieces", "power", "ahead", "piece", "half"]) (sc := defScope s_figures_of) (by decide +kernel)) (by decide) (fun _ _ _ _ _ => (pg_name (i := 5) sc_figures_of.nd rfl (Or.inl rfl))) (fun _ _ _ _ _ => (PTs.imp pts_nil fun _ _ _ => le_yes)) (fun _ _ _ _ _ => (PI.imp (pi_tup (ecb o_divmodR (pe_callB (call_divmodR T.seer (hd100 hr (by decide))) rfl T.z_divmod (by decide +kernel) (acons (ev (pv 5)) (acons (ev (pv 3)) anil))))) fun _ _ _ => li_tup)) (fun _ _ _ _ _ => (pg_name (i := 6) sc_figures_of.nd rfl (Or.inl rfl))) (fun _ _ _ _ _ => (PTs.imp pts_nil fun _ _ _ => le_yes)) (fun _ _ _ _ _ => (ev (pv 6)))) fun _ _ _ => ls_lc2 (by decide) (by decide) (by decide)))) fun _ _ _ => ls_for)
  (zss (pss_cons (PS.imp (ps_set (i := 4) sc_figures_of.nd rfl (Or.inl rfl) ec_int) fun _ _ _ => ls_asg1)
  (zss (pss_cons (PS.imp (ps_while (passes_of rfl) (tcmp op_eq o_eqS (eix o_ixL (pe_ix ix_list (ev (pv 2)) (ev (pv 4)) (fun _ _ => rfl))) ec_int (nomark _)) (pss_one (PS.imp (ps_aug (i := 4) sc_figures_of.nd rfl (Or.inl rfl) ec_int ip_add) fun _ _ _ => (ls_aug o_ipadd)))) fun _ _ _ => ls_while)
  (pss_one (PS.imp (ps_ret (ecb o_tupOf (pe_callTy call_tuple_of rfl T.z_tuple (by decide +kernel) (acons (efz (PE.imp (pe_slice sl_listN (ev (pv 2)) (osome (ev (pv 4))) onone) fun _ _ _ => le_slL)) anil)))) fun _ _ _ => ls_ret))) fun _ _ _ => ls_seq)) fun _ _ _ => ls_seq)) fun _ _ _ => ls_seq)) fun _ _ _ => ls_seq)) fun _ _ _ => ls_seq)) fun _ _ _ => ls_seq)
theorem ln_row_of {xs : List Dt} {P : Dt → Prop} {X : DX} (h : sp_row_of xs P X) : xs.length = 1 := by unfold sp_row_of at h; first | grind | (unfold spIs at h; grind)
theorem ok_row_of (T : Tx P w K mg base) : FnOk P w K mg base (L2.CX P w) 42 T.a_row_of T.d_row_of ["number"] (liftSp K (ecOf T.e) sp_row_of) := by
  have G_figures_of : FnOk P w K mg base (L2.CX P w) 41 T.a_figures_of T.d_figures_of ["number"] (liftSp K (ecOf T.e) sp_figures_of) := ok_figures_of T
  refine T.F_row_of.okX sc_row_of (fun vs H Q E h => liftSp_len (fun _ _ _ => ln_row_of) h) (fun cdv A outer s H vs Q E hr h => ⟨liftS K (ecOf T.e) E d_row_of, ?_, run_lift (fun _ _ _ => dp_row_of) h⟩)
  unfold d_row_of
  exact (zss (pss_cons (PS.imp (ps_set (i := 1) sc_row_of.nd rfl (Or.inl rfl) (PE.imp (pe_callS (E := WE fun cls d _ H => E cls d H) G_figures_of (hr.mono (by decide)) rfl T.g_figures_of T.F_figures_of.kp T.b_figures_of (fun σ => passAt (takes_of rfl rfl rfl rfl) σ) (by exact (acons (ev (pv 0)) anil))) fun _ _ _ => le_callX (E := E))) fun _ _ _ => ls_asg1)
  (zss (pss_cons (PS.imp (ps_set (i := 2) sc_row_of.nd rfl (Or.inl rfl) (ecb o_len (pe_callB call_len_seq rfl T.z_len (by decide +kernel) (acons (ev (pv 1)) anil)))) fun _ _ _ => ls_asg1)
  (zss (pss_cons (PS.imp (ps_while (passes_of rfl) (tcmp op_eq o_eqS (eix o_ixT (pe_ix ix_tup (ev (pv 1)) (eop op_sub o_sub (ev (pv 2)) ec_int) (fun _ _ => rfl))) ec_int (nomark _)) (pss_one (PS.imp (ps_aug (i := 2) sc_row_of.nd rfl (Or.inl rfl) ec_int ip_sub) fun _ _ _ => (ls_aug o_ipsub)))) fun _ _ _ => ls_while)
  (pss_one (PS.imp (ps_ret (PE.imp (pe_slice sl_tupA (ev (pv 1)) onone (osome (ev (pv 2)))) fun _ _ _ => le_slT)) fun _ _ _ => ls_ret))) fun _ _ _ => ls_seq)) fun _ _ _ => ls_seq)) fun _ _ _ => ls_seq)
theorem ln_is_long_row {xs : List Dt} {P : Dt → Prop} {X : DX} (h : sp_is_long_row xs P X) : xs.length = 1 := by unfold sp_is_long_row at h; first | grind | (unfold spIs at h; grind)
theorem ok_is_long_row (T : Tx P w K mg base) : FnOk P w K mg base (L2.CX P w) 41 T.a_is_long_row T.d_is_long_row ["figures"] (liftSp K (ecOf T.e) sp_is_long_row) := by
  refine T.F_is_long_row.okX sc_is_long_row (fun vs H Q E h => liftSp_len (fun _ _ _ => ln_is_long_row) h) (fun cdv A outer s H vs Q E hr h => ⟨liftS K (ecOf T.e) E d_is_long_row, ?_, run_lift (fun _ _ _ => dp_is_long_row) h⟩)
  unfold d_is_long_row
  exact (zss (pss_cons (PS.imp (ps_if (PW.pt (wor (tcmp op_eq o_eqS (ecb o_len (pe_callB call_len_seq rfl T.z_len (by decide +kernel) (acons (ev (pv 0)) anil))) ec_int (nomark _)) (wor (tcmp op_lt o_lt (ecb o_minT (pe_callB (cr_minT rfl) rfl T.z_min (by decide +kernel) (acons (ev (pv 0)) anil))) ec_int (nomark _)) (pw_or1 (tcmp op_gt o_gt (ecb o_maxT (pe_callB (cr_maxT rfl) rfl T.z_max (by decide +kernel) (acons (ev (pv 0)) anil))) ec_int (nomark _)))))) (pss_one (PS.imp (ps_ret ec_bl) fun _ _ _ => ls_ret)) (zss pss_nil fun _ _ _ => ls_next)) fun _ _ _ => ls_if)
  (pss_one (PS.imp (ps_ret (eand (ecmp op_ne o_neS (eix o_ixT (pe_ix ix_tup (ev (pv 0)) ec_int (fun _ _ => rfl))) ec_int (nomark _)) (pe_one (ecmp op_ne o_neS (eix o_ixT (pe_ix ix_tup (ev (pv 0)) (eun un_neg o_neg ec_int) (fun _ _ => rfl))) ec_int (nomark _))))) fun _ _ _ => ls_ret))) fun _ _ _ => ls_seq)
theorem ln_is_row {xs : List Dt} {P : Dt → Prop} {X : DX} (h : sp_is_row xs P X) : xs.length = 1 := by unfold sp_is_row at h; first | grind | (unfold spIs at h; grind)
theorem ok_is_row (T : Tx P w K mg base) : FnOk P w K mg base (L2.CX P w) 42 T.a_is_row T.d_is_row ["figures"] (liftSp K (ecOf T.e) sp_is_row) := by
  have G_is_long_row : FnOk P w K mg base (L2.CX P w) 41 T.a_is_long_row T.d_is_long_row ["figures"] (liftSp K (ecOf T.e) sp_is_long_row) := ok_is_long_row T
  refine T.F_is_row.okX sc_is_row (fun vs H Q E h => liftSp_len (fun _ _ _ => ln_is_row) h) (fun cdv A outer s H vs Q E hr h => ⟨liftS K (ecOf T.e) E d_is_row, ?_, run_lift (fun _ _ _ => dp_is_row) h⟩)
  unfold d_is_row
  exact (pss_one (PS.imp (ps_ret (eand (ecmp op_le o_le (ecb o_len (pe_callB call_len_seq rfl T.z_len (by decide +kernel) (acons (ev (pv 0)) anil))) (ec (pe_glob (v := .int 12) rfl (T.c_MOST_FIGURES).choose_spec ⟨_, rfl⟩) fun _ => .int _) (nomark _)) (pe_one (PE.imp (pe_callS (E := WE fun cls d _ H => E cls d H) G_is_long_row (hr.mono (by decide)) rfl T.g_is_long_row T.F_is_long_row.kp T.b_is_long_row (fun σ => passAt (takes_of rfl rfl rfl rfl) σ) (by exact (acons (ev (pv 0)) anil))) fun _ _ _ => le_callX (E := E))))) fun _ _ _ => ls_ret))
theorem ln_check_row {xs : List Dt} {P : Dt → Prop} {X : DX} (h : sp_check_row xs P X) : xs.length = 1 := by unfold sp_check_row at h; first | grind | (unfold spIs at h; grind)
theorem ok_check_row (T : Tx P w K mg base) : FnOk P w K mg base (L2.CX P w) 43 T.a_check_row T.d_check_row ["row"] (liftSp K (ecOf T.e) sp_check_row) := by
  have G_is_row : FnOk P w K mg base (L2.CX P w) 42 T.a_is_row T.d_is_row ["figures"] (liftSp K (ecOf T.e) sp_is_row) := ok_is_row T
  refine T.F_check_row.okX sc_check_row (fun vs H Q E h => liftSp_len (fun _ _ _ => ln_check_row) h) (fun cdv A outer s H vs Q E hr h => ⟨liftS K (ecOf T.e) E d_check_row, ?_, run_lift (fun _ _ _ => dp_check_row) h⟩)
  unfold d_check_row
  exact (pss_one (PS.imp (ps_if (tnot (tB' (pt_val (PE.imp (pe_callS (E := WE fun cls d _ H => E cls d H) G_is_row (hr.mono (by decide)) rfl T.g_is_row T.F_is_row.kp T.b_is_row (fun σ => passAt (takes_of rfl rfl rfl rfl) σ) (by exact (acons (ev (pv 0)) anil))) fun _ _ _ => le_callX (E := E))))) (pss_one (PS.imp (ps_raise (W := fun cls d _ H => E cls d H) rfl (takes_of rfl rfl rfl rfl) (pmk_p T.e_BadRow (by exact rfl))) fun _ _ _ => (ls_raise0 (E := E) rfl))) (zss pss_nil fun _ _ _ => ls_next)) fun _ _ _ => ls_if))
theorem ln_number_of {xs : List Dt} {P : Dt → Prop} {X : DX} (h : sp_number_of xs P X) : xs.length = 1 := by unfold sp_number_of at h; first | grind | (unfold spIs at h; grind)
theorem ok_number_of (T : Tx P w K mg base) : FnOk P w K mg base (L2.CX P w) 41 T.a_number_of T.d_number_of ["figures"] (liftSp K (ecOf T.e) sp_number_of) := by
  refine T.F_number_of.okX sc_number_of (fun vs H Q E h => liftSp_len (fun _ _ _ => ln_number_of) h) (fun cdv A outer s H vs Q E hr h => ⟨liftS K (ecOf T.e) E d_number_of, ?_, run_lift (fun _ _ _ => dp_number_of) h⟩)
  unfold d_number_of
  exact (zss (pss_cons (PS.imp (ps_set (i := 1) sc_number_of.nd rfl (Or.inl rfl) ec_int) fun _ _ _ => ls_asg1)
  (zss (pss_cons (PS.imp (ps_for (passes_of rfl) rfl (PI.imp (pi_tup (ev (pv 0))) fun _ _ _ => li_tup) (pg_name (i := 2) sc_number_of.nd rfl (Or.inl rfl))
  (pss_one (PS.imp (ps_set (i := 1) sc_number_of.nd rfl (Or.inl rfl) (eop op_add o_add (eop op_mulW o_mul (ev (pv 1)) ec_int) (ev (pv 2)))) fun _ _ _ => ls_asg1))) fun _ _ _ => ls_for)
  (pss_one (PS.imp (ps_ret (ev (pv 1))) fun _ _ _ => ls_ret))) fun _ _ _ => ls_seq)) fun _ _ _ => ls_seq)
theorem ln_whole_of {xs : List Dt} {P : Dt → Prop} {X : DX} (h : sp_whole_of xs P X) : xs.length = 1 := by unfold sp_whole_of at h; first | grind | (unfold spIs at h; grind)
theorem ok_whole_of (T : Tx P w K mg base) : FnOk P w K mg base (L2.CX P w) 44 T.a_whole_of T.d_whole_of ["row"] (liftSp K (ecOf T.e) sp_whole_of) := by
  have G_check_row : FnOk P w K mg base (L2.CX P w) 43 T.a_check_row T.d_check_row ["row"] (liftSp K (ecOf T.e) sp_check_row) := ok_check_row T
  have G_number_of : FnOk P w K mg base (L2.CX P w) 41 T.a_number_of T.d_number_of ["figures"] (liftSp K (ecOf T.e) sp_number_of) := ok_number_of T
  refine T.F_whole_of.okX sc_whole_of (fun vs H Q E h => liftSp_len (fun _ _ _ => ln_whole_of) h) (fun cdv A outer s H vs Q E hr h => ⟨liftS K (ecOf T.e) E d_whole_of, ?_, run_lift (fun _ _ _ => dp_whole_of) h⟩)
  unfold d_whole_of
  exact (zss (pss_cons (PS.imp (ps_expr (PE.imp (pe_callS (E := WE fun cls d _ H => E cls d H) G_check_row (hr.mono (by decide)) rfl T.g_check_row T.F_check_row.kp T.b_check_row (fun σ => passAt (takes_of rfl rfl rfl rfl) σ) (by exact (acons (ev (pv 0)) anil))) fun _ _ _ => le_callX (E := E))) fun _ _ _ => ls_drop)
  (pss_one (PS.imp (ps_ret (PE.imp (pe_callS (E := WE fun cls d _ H => E cls d H) G_number_of (hr.mono (by decide)) rfl T.g_number_of T.F_number_of.kp T.b_number_of (fun σ => passAt (takes_of rfl rfl rfl rfl) σ) (by exact (acons (ev (pv 0)) anil))) fun _ _ _ => le_callX (E := E))) fun _ _ _ => ls_ret))) fun _ _ _ => ls_seq)
theorem ln_part {xs : List Dt} {P : Dt → Prop} {X : DX} (h : sp_part xs P X) : xs.length = 2 := by unfold sp_part at h; first | grind | (unfold spIs at h; grind)
theorem ok_part (T : Tx P w K mg base) : FnOk P w K mg base (L2.CX P w) 45 T.a_part T.d_part ["one", "other"] (liftSp K (ecOf T.e) sp_part) := by
  have G_left_of : FnOk P w K mg base (L2.CX P w) 42 T.a_left_of T.d_left_of ["number"] (liftSp K (ecOf T.e) sp_left_of) := ok_left_of T
  have G_parted : FnOk P w K mg base (L2.CX P w) 41 T.a_parted T.d_parted ["number", "divisor"] (liftSp K (ecOf T.e) sp_parted) := ok_parted T
  have G_row_of : FnOk P w K mg base (L2.CX P w) 42 T.a_row_of T.d_row_of ["number"] (liftSp K (ecOf T.e) sp_row_of) := ok_row_of T
  have G_whole_of : FnOk P w K mg base (L2.CX P w) 44 T.a_whole_of T.d_whole_of ["row"] (liftSp K (ecOf T.e) sp_whole_of) := ok_whole_of T
  refine T.F_part.okX sc_part (fun vs H Q E h => liftSp_len (fun _ _ _ => ln_part) h) (fun cdv A outer s H vs Q E hr h => ⟨liftS K (ecOf T.e) E d_part, ?_, run_lift (fun _ _ _ => dp_part) h⟩)
  unfold d_part
  exact (zss (pss_cons (PS.imp (ps_set (i := 2) sc_part.nd rfl (Or.inl rfl) (PE.imp (pe_callS (E := WE fun cls d _ H => E cls d H) G_whole_of (hr.mono (by decide)) rfl T.g_whole_of T.F_whole_of.kp T.b_whole_of (fun σ => passAt (takes_of rfl rfl rfl rfl) σ) (by exact (acons (ev (pv 0)) anil))) fun _ _ _ => le_callX (E := E))) fun _ _ _ => ls_asg1)
  (zss (pss_cons (PS.imp (ps_set (i := 3) sc_part.nd rfl (Or.inl rfl) (PE.imp (pe_callS (E := WE fun cls d _ H => E cls d H) G_whole_of (hr.mono (by decide)) rfl T.g_whole_of T.F_whole_of.kp T.b_whole_of (fun σ => passAt (takes_of rfl rfl rfl rfl) σ) (by exact (acons (ev (pv 1)) anil))) fun _ _ _ => le_callX (E := E))) fun _ _ _ => ls_asg1)
  (zss (pss_cons (PS.imp (ps_set (i := 4) sc_part.nd rfl (Or.inl rfl) (PE.imp (pe_callS (E := WE fun cls d _ H => E cls d H) G_left_of (hr.mono (by decide)) rfl T.g_left_of T.F_left_of.kp T.b_left_of (fun σ => passAt (takes_of rfl rfl rfl rfl) σ) (by exact (acons (ev (pv 3)) anil))) fun _ _ _ => le_callX (E := E))) fun _ _ _ => ls_asg1)
  (zss (pss_cons (PS.imp (ps_if (tcmp op_ne o_neS (eop op_mod o_md (ev (pv 2)) (ev (pv 4))) ec_int (nomark _)) (pss_one (PS.imp (ps_raiseF (W := fun cls d _ H => E cls d H) rfl (takes_of rfl rfl rfl rfl) T.e_NotTurned hr (by exact (acons (eop op_fdivW o_fd (ev (pv 4)) (ecb o_gcd (pe_callBfun cr_gcd rfl T.m_gcd (acons (ev (pv 4)) (acons (ev (pv 2)) anil))))) anil)) rfl) fun _ _ _ => (ls_raise1 (E := E) rfl))) (zss pss_nil fun _ _ _ => ls_next)) fun _ _ _ => ls_if)
  (zss (pss_cons (PS.imp (ps_asg (PE.imp (pe_callS (E := WE fun cls d _ H => E cls d H) G_parted (hr.mono (by decide)) rfl T.g_parted T.F_parted.kp T.b_parted (fun σ => passAt (takes_of rfl rfl rfl rfl) σ) (by exact (acons (ev (pv 2)) (acons (ev (pv 3)) anil)))) fun _ _ _ => le_callX (E := E)) (pgtup rfl (pgcons (pgnm (pg_name (i := 5) sc_part.nd rfl (Or.inl rfl))) (pgcons (pgnm (pg_name (i := 6) sc_part.nd rfl (Or.inl rfl))) pgnil)))) fun _ _ _ => ls_asg)
  (pss_one (PS.imp (ps_ret (PE.imp (pe_callS (E := WE fun cls d _ H => E cls d H) G_row_of (hr.mono (by decide)) rfl T.g_row_of T.F_row_of.kp T.b_row_of (fun σ => passAt (takes_of rfl rfl rfl rfl) σ) (by exact (acons (ev (pv 5)) anil))) fun _ _ _ => le_callX (E := E))) fun _ _ _ => ls_ret))) fun _ _ _ => ls_seq)) fun _ _ _ => ls_seq)) fun _ _ _ => ls_seq)) fun _ _ _ => ls_seq)) fun _ _ _ => ls_seq)
theorem ln_times {xs : List Dt} {P : Dt → Prop} {X : DX} (h : sp_times xs P X) : xs.length = 2 := by unfold sp_times at h; first | grind | (unfold spIs at h; grind)
theorem ok_times (T : Tx P w K mg base) : FnOk P w K mg base (L2.CX P w) 45 T.a_times T.d_times ["one", "other"] (liftSp K (ecOf T.e) sp_times) := by
  have G_row_of : FnOk P w K mg base (L2.CX P w) 42 T.a_row_of T.d_row_of ["number"] (liftSp K (ecOf T.e) sp_row_of) := ok_row_of T
  have G_whole_of : FnOk P w K mg base (L2.CX P w) 44 T.a_whole_of T.d_whole_of ["row"] (liftSp K (ecOf T.e) sp_whole_of) := ok_whole_of T
  refine T.F_times.okX sc_times (fun vs H Q E h => liftSp_len (fun _ _ _ => ln_times) h) (fun cdv A outer s H vs Q E hr h => ⟨liftS K (ecOf T.e) E d_times, ?_, run_lift (fun _ _ _ => dp_times) h⟩)
  unfold d_times
  exact (pss_one (PS.imp (ps_ret (PE.imp (pe_callS (E := WE fun cls d _ H => E cls d H) G_row_of (hr.mono (by decide)) rfl T.g_row_of T.F_row_of.kp T.b_row_of (fun σ => passAt (takes_of rfl rfl rfl rfl) σ) (by exact (acons (eop op_mulW o_mul (PE.imp (pe_callS (E := WE fun cls d _ H => E cls d H) G_whole_of (hr.mono (by decide)) rfl T.g_whole_of T.F_whole_of.kp T.b_whole_of (fun σ => passAt (takes_of rfl rfl rfl rfl) σ) (by exact (acons (ev (pv 0)) anil))) fun _ _ _ => le_callX (E := E)) (PE.imp (pe_callS (E := WE fun cls d _ H => E cls d H) G_whole_of (hr.mono (by decide)) rfl T.g_whole_of T.F_whole_of.kp T.b_whole_of (fun σ => passAt (takes_of rfl rfl rfl rfl) σ) (by exact (acons (ev (pv 1)) anil))) fun _ _ _ => le_callX (E := E))) anil))) fun _ _ _ => le_callX (E := E))) fun _ _ _ => ls_ret))
theorem ln_powers_below {xs : List Dt} {P : Dt → Prop} {X : DX} (h : sp_powers_below xs P X) : xs.length = 2 := by unfold sp_powers_below at h; first | grind | (unfold spIs at h; grind)
theorem ok_powers_below (T : Tx P w K mg base) : FnOk P w K mg base (L2.CX P w) 41 T.a_powers_below T.d_powers_below ["prime", "limit"] (liftSp K (ecOf T.e) sp_powers_below) := by
  refine T.F_powers_below.okX sc_powers_below (fun vs H Q E h => liftSp_len (fun _ _ _ => ln_powers_below) h) (fun cdv A outer s H vs Q E hr h => ⟨liftS K (ecOf T.e) E d_powers_below, ?_, run_lift (fun _ _ _ => dp_powers_below) h⟩)
  unfold d_powers_below
  exact (zss (pss_cons (PS.imp (ps_set (i := 2) sc_powers_below.nd rfl (Or.inl rfl) (nlst anil)) fun _ _ _ => ls_asgN)
  (zss (pss_cons (PS.imp (ps_set (i := 3) sc_powers_below.nd rfl (Or.inl rfl) ec_int) fun _ _ _ => ls_asg1)
  (zss (pss_cons (PS.imp (ps_while (passes_of rfl) (tcmp op_lt o_lt (ev (pv 3)) (ev (pv 1)) (nomark _)) (zss (pss_cons (PS.imp (ps_expr (pe_bm PySem.F.plainAttrs_list PySem.F.slot_list_append PySem.F.type_list_append mt_append (pv 2) (pa_cons (ev (pv 3)) pa_nil))) fun _ _ _ => ls_app)
  (pss_one (PS.imp (ps_aug (i := 3) sc_powers_below.nd rfl (Or.inl rfl) (ev (pv 0)) (ip_of iop_mulW)) fun _ _ _ => (ls_aug o_mul)))) fun _ _ _ => ls_seq)) fun _ _ _ => ls_while)
  (pss_one (PS.imp (PS.imp (ps_ret (ev (pv 2))) fun _ _ _ => ls_ret) fun _ _ _ => ls_frz))) fun _ _ _ => ls_seq)) fun _ _ _ => ls_seq)) fun _ _ _ => ls_seq)
theorem ln_turnables {xs : List Dt} {P : Dt → Prop} {X : DX} (h : sp_turnables xs P X) : xs.length = 1 := by unfold sp_turnables at h; first | grind | (unfold spIs at h; grind)
theorem ok_turnables (T : Tx P w K mg base) : FnOk P w K mg base (L2.CX P w) 43 T.a_turnables T.d_turnables ["places"] (liftSp K (ecOf T.e) sp_turnables) := by
  have G_powers_below : FnOk P w K mg base (L2.CX P w) 41 T.a_powers_below T.d_powers_below ["prime", "limit"] (liftSp K (ecOf T.e) sp_powers_below) := ok_powers_below T
  have G_row_of : FnOk P w K mg base (L2.CX P w) 42 T.a_row_of T.d_row_of ["number"] (liftSp K (ecOf T.e) sp_row_of) := ok_row_of T
  refine T.F_turnables.okX sc_turnables (fun vs H Q E h => liftSp_len (fun _ _ _ => ln_turnables) h) (fun cdv A outer s H vs Q E hr h => ⟨liftS K (ecOf T.e) E d_turnables, ?_, run_lift (fun _ _ _ => dp_turnables) h⟩)
  unfold d_turnables
  exact (zss (pss_cons (PS.imp (ps_set (i := 1) sc_turnables.nd rfl (Or.inr rfl) ec_int) fun _ _ _ => ls_asg1)
  (zss (pss_cons (PS.imp (ps_for (passes_of rfl) rfl (PI.imp (pi_range1 rfl T.z_range (acons (ev (pv 0)) anil)) fun _ _ _ => li_rng1) (pg_name (i := 2) sc_turnables.nd rfl (Or.inl rfl))
  (pss_one (PS.imp (ps_aug (i := 1) sc_turnables.nd rfl (Or.inr rfl) ec_int (ip_of iop_mulW)) fun _ _ _ => (ls_aug o_mul)))) fun _ _ _ => ls_for)
  (zss (pss_cons (PS.imp (ps_set (i := 3) sc_turnables.nd rfl (Or.inl rfl) (PE.imp (pe_callS (E := WE fun cls d _ H => E cls d H) G_powers_below (hr.mono (by decide)) rfl T.g_powers_below T.F_powers_below.kp T.b_powers_below (fun σ => passAt (takes_of rfl rfl rfl rfl) σ) (by exact (acons ec_int (acons (ev (pv 1)) anil)))) fun _ _ _ => le_callX (E := E))) fun _ _ _ => ls_asg1)
  (zss (pss_cons (PS.imp (ps_for (passes_of rfl) rfl (PI.imp (pi_tup (etup (acons ec_int (acons ec_int anil)))) fun _ _ _ => li_tup) (pg_name (i := 4) sc_turnables.nd rfl (Or.inl rfl))
  (zss (pss_cons (PS.imp (ps_set (i := 5) sc_turnables.nd rfl (Or.inr rfl) (PE.imp (pe_callS (E := WE fun cls d _ H => E cls d H) G_powers_below (hr.mono (by decide)) rfl T.g_powers_below T.F_powers_below.kp T.b_powers_below (fun σ => passAt (takes_of rfl rfl rfl rfl) σ) (by exact (acons (ev (pv 4)) (acons (ev (pv 1)) anil)))) fun _ _ _ => le_callX (E := E))) fun _ _ _ => ls_asg1)
  (pss_one (PS.imp (ps_setLc2 (i := 3) (own := [("number", 6), ("power", 7)]) (vs1 := [7]) (g := gOf _ (.nm 6)) (g1 := gOf _ (.nm 7)) rfl sc_turnables.nd rfl rfl (sw_true rfl rfl rfl (by decide +kernel)) (PI.imp (pi_list (ev (pv 3))) fun _ _ _ => li_list) (blkOk_by (own := [("number", 6), ("power", 7)]) (N := ["places", "limit", "_", "numbers", "prime", "powers", "number", "power"]) (sc := defScope s_turnables) (by decide +kernel)) (by decide) (fun _ _ _ _ _ => (pg_name (i := 6) sc_turnables.nd rfl (Or.inl rfl))) (fun _ _ _ _ _ => (PTs.imp pts_nil fun _ _ _ => le_yes)) (fun _ _ _ _ _ => (PI.imp (pi_list (ev (pv 5))) fun _ _ _ => li_list)) (fun _ _ _ _ _ => (pg_name (i := 7) sc_turnables.nd rfl (Or.inl rfl))) (fun _ _ _ _ _ => (pts_one (tcmp op_lt o_lt (eop op_mulW o_mul (ev (pv 6)) (ev (pv 7))) (ev (pv 1)) (nomark _)))) (fun _ _ _ _ _ => (eop op_mulW o_mul (ev (pv 6)) (ev (pv 7))))) fun _ _ _ => ls_lc2 (by decide) (by decide) (by decide)))) fun _ _ _ => ls_seq)) fun _ _ _ => ls_for)
  (pss_one (PS.imp (ps_ret (efz (nsortD (pe_callB (cr_sortD (hu65 hr)) rfl T.z_sorted (by decide +kernel) (acons (efz (PE.imp (pe_lc (own := [("number", 6)]) (g := gOf _ (.nm 6)) rfl sc_turnables.nd (PI.imp (pi_list (ev (pv 3))) fun _ _ _ => li_list) (blkOk_by (own := [("number", 6)]) (N := ["places", "limit", "_", "numbers", "prime", "powers", "number", "power"]) (sc := defScope s_turnables) (by decide +kernel)) (fun _ _ _ _ _ => (pg_name (i := 6) sc_turnables.nd rfl (Or.inl rfl))) (fun _ _ _ _ _ => (pts_one (tcmp op_ne o_neS (eop op_mod o_md (ev (pv 6)) ec_int) ec_int (nomark _)))) (fun _ _ _ _ _ => (PE.imp (pe_call G_row_of (hr.mono (by decide)) rfl T.g_row_of T.F_row_of.kp T.b_row_of .nil passE (acons (ev (pv 6)) anil)) fun _ _ _ => le_call0))) fun _ _ _ => le_lc (by decide))) anil))))) fun _ _ _ => ls_ret))) fun _ _ _ => ls_seq)) fun _ _ _ => ls_seq)) fun _ _ _ => ls_seq)) fun _ _ _ => ls_seq)
theorem ln_turned {xs : List Dt} {P : Dt → Prop} {X : DX} (h : sp_turned xs P X) : xs.length = 1 := by unfold sp_turned at h; first | grind | (unfold spIs at h; grind)
theorem ok_turned (T : Tx P w K mg base) : FnOk P w K mg base (L2.CX P w) 46 T.a_turned T.d_turned ["row"] (liftSp K (ecOf T.e) sp_turned) := by
  have G_part : FnOk P w K mg base (L2.CX P w) 45 T.a_part T.d_part ["one", "other"] (liftSp K (ecOf T.e) sp_part) := ok_part T
  refine T.F_turned.okX sc_turned (fun vs H Q E h => liftSp_len (fun _ _ _ => ln_turned) h) (fun cdv A outer s H vs Q E hr h => ⟨liftS K (ecOf T.e) E d_turned, ?_, run_lift (fun _ _ _ => dp_turned) h⟩)
  unfold d_turned
  exact (pss_one (PS.imp (ps_ret (PE.imp (pe_callS (E := WE fun cls d _ H => E cls d H) G_part (hr.mono (by decide)) rfl T.g_part T.F_part.kp T.b_part (fun σ => passAt (takes_of rfl rfl rfl rfl) σ) (by exact (acons (etup (acons ec_int anil)) (acons (ev (pv 0)) anil)))) fun _ _ _ => le_callX (E := E))) fun _ _ _ => ls_ret))
theorem ok_law (T : Tx P w K mg base) {c cP : Addr} (hK : PySem.W.tabIn K "law" = some (c, cP)) (FC : FunC K "law" s_law T.a_law T.d_law c) (TB : LamX.TabB base mg c cP) : FnOk P w K mg base CX0 49 T.a_law T.d_law ["_law_script"] (lawSpT K cP) := by
  have G__law_dice : FnOk P w K mg base CX0 41 T.a__law_dice T.d__law_dice ["_law_script"] (liftSp K (ecOf T.e) sp__law_dice) := ok__law_dice T
  have G__law_left : FnOk P w K mg base (L2.CX P w) 41 T.a__law_left T.d__law_left ["_law_number"] (liftSp K (ecOf T.e) sp__law_left) := ok__law_left T
  have G__law_next : FnOk P w K mg base CX0 41 T.a__law_next T.d__law_next ["_law_dice_here", "_law_many"] (liftSp K (ecOf T.e) sp__law_next) := ok__law_next T
  have G__law_row : FnOk P w K mg base (L2.CX P w) 41 T.a__law_row T.d__law_row ["_law_number"] (liftSp K (ecOf T.e) sp__law_row) := ok__law_row T
  have G__law_short : FnOk P w K mg base (L2.CX P w) 44 T.a__law_short T.d__law_short ["_law_d", "_law_most"] (liftSp K (ecOf T.e) sp__law_short) := ok__law_short T
  have G__law_smooth_row : FnOk P w K mg base (L2.CX P w) 43 T.a__law_smooth_row T.d__law_smooth_row ["_law_d", "_law_most"] (liftSp K (ecOf T.e) sp__law_smooth_row) := ok__law_smooth_row T
  have G__law_whole_of : FnOk P w K mg base (L2.CX P w) 41 T.a__law_whole_of T.d__law_whole_of ["_law_row_here"] (liftSp K (ecOf T.e) sp__law_whole_of) := ok__law_whole_of T
  have G_part : FnOk P w K mg base (L2.CX P w) 45 T.a_part T.d_part ["one", "other"] (liftSp K (ecOf T.e) sp_part) := ok_part T
  have G_times : FnOk P w K mg base (L2.CX P w) 45 T.a_times T.d_times ["one", "other"] (liftSp K (ecOf T.e) sp_times) := ok_times T
  have G_turnables : FnOk P w K mg base (L2.CX P w) 43 T.a_turnables T.d_turnables ["places"] (liftSp K (ecOf T.e) sp_turnables) := ok_turnables T
  have G_turned : FnOk P w K mg base (L2.CX P w) 46 T.a_turned T.d_turned ["row"] (liftSp K (ecOf T.e) sp_turned) := ok_turned T
  obtain ⟨oc, od, kV, doc, pm, an, cdv, ct, osl, ed, lk, hcd⟩ := T.F__law_word.ex
  have hb := T.b__law_word
  rw [ed] at lk hb
  refine FC.ok sc_law (fun vs H Q E h => by obtain ⟨_, _, rfl, _⟩ := h; rfl) (fun A outer s H vs Q E hr h => ⟨liftS K (ecOf T.e) E0 d_law, ?_, run_lift (fun _ _ _ => dp_law) (conv_lawT hK h)⟩)
  unfold d_law
  exact (zss (pss_cons (PS.imp (ps_set (i := 1) sc_law.nd rfl (Or.inl rfl) (PE.imp (pe_call G__law_dice (hr.mono (by decide)) rfl T.g__law_dice T.F__law_dice.kp T.b__law_dice .nil pass0 (acons (ev (pv 0)) anil)) fun _ _ _ => le_call0)) fun _ _ _ => ls_asg1)
  (zss (pss_cons (PS.imp (ps_asg (etup (acons (PE.imp (pe_call G__law_smooth_row (hr.mono (by decide)) rfl T.g__law_smooth_row T.F__law_smooth_row.kp T.b__law_smooth_row .nil passE (acons (ev (pv 1)) (acons ec_int anil))) fun _ _ _ => le_call0) (acons (PE.imp (pe_call G__law_smooth_row (hr.mono (by decide)) rfl T.g__law_smooth_row T.F__law_smooth_row.kp T.b__law_smooth_row .nil passE (acons (ev (pv 1)) (acons ec_int anil))) fun _ _ _ => le_call0) (acons (PE.imp (pe_call G__law_short (hr.mono (by decide)) rfl T.g__law_short T.F__law_short.kp T.b__law_short .nil passE (acons (ev (pv 1)) (acons ec_int anil))) fun _ _ _ => le_call0) anil)))) (pgtup rfl (pgcons (pgnm (pg_name (i := 2) sc_law.nd rfl (Or.inl rfl))) (pgcons (pgnm (pg_name (i := 3) sc_law.nd rfl (Or.inl rfl))) (pgcons (pgnm (pg_name (i := 4) sc_law.nd rfl (Or.inr rfl))) pgnil))))) fun _ _ _ => ls_asg)
  (zss (pss_cons (PS.imp (ps_par (i := 5) (j := 6) (by rfl) sc_law.nd rfl rfl (by decide) rfl rfl (acons (PE.imp (pe_call G_turned (hr.mono (by decide)) rfl T.g_turned T.F_turned.kp T.b_turned .nil passE (acons (ev (pv 2)) anil)) fun _ _ _ => le_call0) (acons (PE.imp (pe_call G_turned (hr.mono (by decide)) rfl T.g_turned T.F_turned.kp T.b_turned .nil passE (acons (ev (pv 3)) anil)) fun _ _ _ => le_call0) anil)) (by rfl)) fun _ _ _ => ls_par)
  (zss (pss_cons (PS.imp (ps_if (PW.pt (wor (tcmp op_gt o_gt (ecb o_len (pe_callB call_len_seq rfl T.z_len (by decide +kernel) (acons (ev (pv 5)) anil))) ec_int (nomark _)) (pw_or1 (tcmp op_gt o_gt (ecb o_len (pe_callB call_len_seq rfl T.z_len (by decide +kernel) (acons (ev (pv 6)) anil))) ec_int (nomark _))))) (pss_one (PS.imp (ps_ret (ecmp (op_eqD (hu64 hr)) o_eq (PE.imp (pe_call G_times (hr.mono (by decide)) rfl T.g_times T.F_times.kp T.b_times .nil passE (acons (ev (pv 2)) (acons (ev (pv 3)) anil))) fun _ _ _ => le_call0) (PE.imp (pe_call G_times (hr.mono (by decide)) rfl T.g_times T.F_times.kp T.b_times .nil passE (acons (ev (pv 3)) (acons (ev (pv 2)) anil))) fun _ _ _ => le_call0) (nomark _))) fun _ _ _ => ls_ret)) (zss pss_nil fun _ _ _ => ls_next)) fun _ _ _ => ls_if)
  (zss (pss_cons (PS.imp (ps_if (PW.pt (wor (tcmp (op_neD (hu64 hr)) o_ne (PE.imp (pe_call G_turned (hr.mono (by decide)) rfl T.g_turned T.F_turned.kp T.b_turned .nil passE (acons (ev (pv 5)) anil)) fun _ _ _ => le_call0) (ev (pv 2)) (nomark _)) (wor (tcmp (op_neD (hu64 hr)) o_ne (PE.imp (pe_call G_turned (hr.mono (by decide)) rfl T.g_turned T.F_turned.kp T.b_turned .nil passE (acons (ev (pv 6)) anil)) fun _ _ _ => le_call0) (ev (pv 3)) (nomark _)) (pw_or1 (tcmp (op_neD (hu64 hr)) o_ne (PE.imp (pe_call G_times (hr.mono (by decide)) rfl T.g_times T.F_times.kp T.b_times .nil passE (acons (ev (pv 2)) (acons (ev (pv 5)) anil))) fun _ _ _ => le_call0) (etup (acons ec_int anil)) (nomark _)))))) (pss_one (PS.imp (ps_ret ec_bl) fun _ _ _ => ls_ret)) (zss pss_nil fun _ _ _ => ls_next)) fun _ _ _ => ls_if)
  (zss (pss_cons (PS.imp (ps_set (i := 7) sc_law.nd rfl (Or.inl rfl) (PE.imp (pe_call G_times (hr.mono (by decide)) rfl T.g_times T.F_times.kp T.b_times .nil passE (acons (ev (pv 2)) (acons (ev (pv 3)) anil))) fun _ _ _ => le_call0)) fun _ _ _ => ls_asg1)
  (zss (pss_cons (PS.imp (ps_if (PW.pt (wand (tcmp op_lt o_lt (ecb o_len (pe_callB call_len_seq rfl T.z_len (by decide +kernel) (acons (PE.imp (pe_call G_turned (hr.mono (by decide)) rfl T.g_turned T.F_turned.kp T.b_turned .nil passE (acons (ev (pv 7)) anil)) fun _ _ _ => le_call0) anil))) ec_int (nomark _)) (pw_and1 (tcmp (op_neD (hu64 hr)) o_ne (PE.imp (pe_call G_turned (hr.mono (by decide)) rfl T.g_turned T.F_turned.kp T.b_turned .nil passE (acons (ev (pv 7)) anil)) fun _ _ _ => le_call0) (PE.imp (pe_call G__law_row (hr.mono (by decide)) rfl T.g__law_row T.F__law_row.kp T.b__law_row .nil passE (acons (eop op_mulW o_mul (PE.imp (pe_call G__law_whole_of (hr.mono (by decide)) rfl T.g__law_whole_of T.F__law_whole_of.kp T.b__law_whole_of .nil passE (acons (ev (pv 5)) anil)) fun _ _ _ => le_call0) (PE.imp (pe_call G__law_whole_of (hr.mono (by decide)) rfl T.g__law_whole_of T.F__law_whole_of.kp T.b__law_whole_of .nil passE (acons (ev (pv 6)) anil)) fun _ _ _ => le_call0)) anil)) fun _ _ _ => le_call0) (nomark _))))) (pss_one (PS.imp (ps_ret ec_bl) fun _ _ _ => ls_ret)) (zss pss_nil fun _ _ _ => ls_next)) fun _ _ _ => ls_if)
  (zss (pss_cons (PS.imp (ps_if (tcmp (op_neD (hu64 hr)) o_ne (PE.imp (pe_call G_part (hr.mono (by decide)) rfl T.g_part T.F_part.kp T.b_part .nil passE (acons (ev (pv 4)) (acons (ev (pv 2)) anil))) fun _ _ _ => le_call0) (PE.imp (pe_call G_times (hr.mono (by decide)) rfl T.g_times T.F_times.kp T.b_times .nil passE (acons (ev (pv 4)) (acons (ev (pv 5)) anil))) fun _ _ _ => le_call0) (nomark _)) (pss_one (PS.imp (ps_ret ec_bl) fun _ _ _ => ls_ret)) (zss pss_nil fun _ _ _ => ls_next)) fun _ _ _ => ls_if)
  (zss (pss_cons (PS.imp (ps_if (tcmp (op_neD (hu64 hr)) o_ne (PE.imp (pe_call G_part (hr.mono (by decide)) rfl T.g_part T.F_part.kp T.b_part .nil passE (acons (ev (pv 2)) (acons (ev (pv 3)) anil))) fun _ _ _ => le_call0) (PE.imp (pe_call G_times (hr.mono (by decide)) rfl T.g_times T.F_times.kp T.b_times .nil passE (acons (ev (pv 2)) (acons (ev (pv 6)) anil))) fun _ _ _ => le_call0) (nomark _)) (pss_one (PS.imp (ps_ret ec_bl) fun _ _ _ => ls_ret)) (zss pss_nil fun _ _ _ => ls_next)) fun _ _ _ => ls_if)
  (zss (pss_cons (PS.imp (ps_set (i := 8) sc_law.nd rfl (Or.inl rfl) (PE.imp (pe_call G__law_left (hr.mono (by decide)) rfl T.g__law_left T.F__law_left.kp T.b__law_left .nil passE (acons (PE.imp (pe_call G__law_whole_of (hr.mono (by decide)) rfl T.g__law_whole_of T.F__law_whole_of.kp T.b__law_whole_of .nil passE (acons (ev (pv 4)) anil)) fun _ _ _ => le_call0) anil)) fun _ _ _ => le_call0)) fun _ _ _ => ls_asg1)
  (zss (pss_cons (PS.imp (ps_set (i := 9) sc_law.nd rfl (Or.inl rfl) (PE.imp (LamP.pe_lamP (k := 46) (TT := LamP.TTword K (ecOf T.e 3) (ecOf T.e 2)) (Ng := ["_law_work", "e"]) (a := "_law_work") rfl T.g__law_word T.F__law_word.kp lk hcd hb sc__law_word rfl (Or.inl rfl) (by exact (LamP.word_gives T.wk rfl rfl rfl rfl)) TB rfl hr (by exact LamX.lamS_by (sc := defScope s_law) (by decide +kernel)) rfl (fun _ _ _ _ _ => rfl) (fun A outer s H E f cc hr => by exact (PE.imp (pe_callS (E := WE fun cls d _ H => E cls d H) G_turned (hr.mono (by decide)) rfl T.g_turned T.F_turned.kp T.b_turned (fun σ => passAt (takes_of rfl rfl rfl rfl) σ) (by exact (acons (ev (pv 4)) anil))) fun _ _ _ => le_callX (E := E)))) fun _ _ _ => le_lamW hK)) fun _ _ _ => ls_asg1)
  (zss (pss_cons (PS.imp (ps_if (tcmp op_ne o_neS (ecmp op_gt o_gt (ev (pv 8)) ec_int (nomark _)) (ecmp (op_eqD (hu64 hr)) o_eq (ev (pv 9)) (etup (acons ec_str (acons (ev (pv 8)) anil))) (nomark _)) (nomark _)) (pss_one (PS.imp (ps_ret ec_bl) fun _ _ _ => ls_ret)) (zss pss_nil fun _ _ _ => ls_next)) fun _ _ _ => ls_if)
  (zss (pss_cons (PS.imp (ps_if (PW.pt (wand (tcmp op_eq o_eqS (ev (pv 8)) ec_int (nomark _)) (wand (tcmp op_lt o_lt (ecb o_len (pe_callB call_len_seq rfl T.z_len (by decide +kernel) (acons (ev (pv 9)) anil))) ec_int (nomark _)) (pw_and1 (tcmp (op_neD (hu64 hr)) o_ne (PE.imp (pe_call G_times (hr.mono (by decide)) rfl T.g_times T.F_times.kp T.b_times .nil passE (acons (ev (pv 4)) (acons (ev (pv 9)) anil))) fun _ _ _ => le_call0) (etup (acons ec_int anil)) (nomark _)))))) (pss_one (PS.imp (ps_ret ec_bl) fun _ _ _ => ls_ret)) (zss pss_nil fun _ _ _ => ls_next)) fun _ _ _ => ls_if)
  (zss (pss_cons (PS.imp (ps_set (i := 10) sc_law.nd rfl (Or.inr rfl) (eop op_add o_add ec_int (PE.imp (pe_call G__law_next (hr.mono (by decide)) rfl T.g__law_next T.F__law_next.kp T.b__law_next .nil pass0 (acons (ev (pv 1)) (acons ec_int anil))) fun _ _ _ => le_call0))) fun _ _ _ => ls_asg1)
  (zss (pss_cons (PS.imp (ps_set (i := 11) sc_law.nd rfl (Or.inl rfl) (PE.imp (pe_call G_turnables (hr.mono (by decide)) rfl T.g_turnables T.F_turnables.kp T.b_turnables .nil passE (acons (ev (pv 10)) anil)) fun _ _ _ => le_call0)) fun _ _ _ => ls_asg1)
  (zss (pss_cons (PS.imp (ps_if (tcmp op_ne o_neS (ecmp (op_inD (hu65 hr)) o_in (ev (pv 2)) (ev (pv 11)) rfl) (ecmp op_le o_le (ecb o_len (pe_callB call_len_seq rfl T.z_len (by decide +kernel) (acons (ev (pv 2)) anil))) (ev (pv 10)) (nomark _)) (nomark _)) (pss_one (PS.imp (ps_ret ec_bl) fun _ _ _ => ls_ret)) (zss pss_nil fun _ _ _ => ls_next)) fun _ _ _ => ls_if)
  (zss (pss_cons (PS.imp (ps_if (tcmp op_ne o_neS (ecmp (op_inD (hu65 hr)) o_in (ev (pv 4)) (ev (pv 11)) rfl) (eand (ecmp op_eq o_eqS (ev (pv 8)) ec_int (nomark _)) (pe_one (ecmp op_le o_le (ecb o_len (pe_callB call_len_seq rfl T.z_len (by decide +kernel) (acons (ev (pv 4)) anil))) (ev (pv 10)) (nomark _)))) (nomark _)) (pss_one (PS.imp (ps_ret ec_bl) fun _ _ _ => ls_ret)) (zss pss_nil fun _ _ _ => ls_next)) fun _ _ _ => ls_if)
  (pss_one (PS.imp (ps_ret (eand (ecmp (op_eqD (hu64 hr)) o_eq (ev (pv 11)) (efz (nsortSet (pe_callB (SxSet.cr_sortBig rfl (hu65 hr)) rfl T.z_sorted (by decide +kernel) (pa_cons (pe_callTy (SxSet.cr_setBig rfl (hu65 hr)) rfl T.z_set (by decide +kernel) (acons (ev (pv 11)) anil)) pa_nil)))) (nomark _)) (eand (ecmp (op_inD (hu65 hr)) o_in (etup (acons ec_int anil)) (ev (pv 11)) rfl) (pe_one (ecmp (op_eqD (hu64 hr)) o_eq (efz (PE.imp (pe_lc (own := [("_law_row_here", 12)]) (g := gOf _ (.nm 12)) rfl sc_law.nd (PI.imp (pi_list (ev (pv 11))) fun _ _ _ => li_list) (blkOk_by (own := [("_law_row_here", 12)]) (N := ["_law_script", "_law_d", "_law_one", "_law_two", "_law_any_row", "_law_first", "_law_second", "_law_both", "_law_left_here", "_law_found", "_law_places", "_law_rows", "_law_row_here"]) (sc := defScope s_law) (by decide +kernel)) (fun _ _ _ _ _ => (pg_name (i := 12) sc_law.nd rfl (Or.inl rfl))) (fun _ _ _ _ _ => (pts_one (tcmp op_gt o_gt (ecb o_len (pe_callB call_len_seq rfl T.z_len (by decide +kernel) (acons (ev (pv 12)) anil))) (ev (pv 10)) (nomark _)))) (fun _ _ _ _ _ => (ev (pv 12)))) fun _ _ _ => le_lc (by decide))) (efz (nlst anil)) (nomark _)))))) fun _ _ _ => ls_ret))) fun _ _ _ => ls_seq)) fun _ _ _ => ls_seq)) fun _ _ _ => ls_seq)) fun _ _ _ => ls_seq)) fun _ _ _ => ls_seq)) fun _ _ _ => ls_seq)) fun _ _ _ => ls_seq)) fun _ _ _ => ls_seq)) fun _ _ _ => ls_seq)) fun _ _ _ => ls_seq)) fun _ _ _ => ls_seq)) fun _ _ _ => ls_seq)) fun _ _ _ => ls_seq)) fun _ _ _ => ls_seq)) fun _ _ _ => ls_seq)) fun _ _ _ => ls_seq)) fun _ _ _ => ls_seq)
end
theorem all_mk {l : PySem.W.OpenLaw} {w : World} {K : PySem.W.Frag} {h : Heap} {mg : Str → Option Value} {fa : Addr} (X : K.In h) (G : h.Ns mainGlobals mg) (hfa : mg "law" = some (.ref fa))
    {od0 an0 : Option Addr} {sl0 : Array (Option Value)} {oc0 kV0 dc0 pm0 cd0 ct0 : Value} {f0 : Addr} {od1 an1 : Option Addr} {sl1 : Array (Option Value)} {oc1 kV1 dc1 pm1 cd1 ct1 : Value} {f1 : Addr} {od2 an2 : Option Addr} {sl2 : Array (Option Value)} {oc2 kV2 dc2 pm2 cd2 ct2 : Value} {f2 : Addr} {od3 an3 : Option Addr} {sl3 : Array (Option Value)} {oc3 kV3 dc3 pm3 cd3 ct3 : Value} {f3 : Addr} {od4 an4 : Option Addr} {sl4 : Array (Option Value)} {oc4 kV4 dc4 pm4 cd4 ct4 : Value} {f4 : Addr} {od5 an5 : Option Addr} {sl5 : Array (Option Value)} {oc5 kV5 dc5 pm5 cd5 ct5 : Value} {f5 : Addr} {od6 an6 : Option Addr} {sl6 : Array (Option Value)} {oc6 kV6 dc6 pm6 cd6 ct6 : Value} {f6 : Addr} {od7 an7 : Option Addr} {sl7 : Array (Option Value)} {oc7 kV7 dc7 pm7 cd7 ct7 : Value} {f7 : Addr} {od8 an8 : Option Addr} {sl8 : Array (Option Value)} {oc8 kV8 dc8 pm8 cd8 ct8 : Value} {f8 : Addr} {od9 an9 : Option Addr} {sl9 : Array (Option Value)} {oc9 kV9 dc9 pm9 cd9 ct9 : Value} {f9 : Addr} {od10 an10 : Option Addr} {sl10 : Array (Option Value)} {oc10 kV10 dc10 pm10 cd10 ct10 : Value} {f10 : Addr} {od11 an11 : Option Addr} {sl11 : Array (Option Value)} {oc11 kV11 dc11 pm11 cd11 ct11 : Value} {f11 : Addr} {od12 an12 : Option Addr} {sl12 : Array (Option Value)} {oc12 kV12 dc12 pm12 cd12 ct12 : Value} {f12 : Addr} {od13 an13 : Option Addr} {sl13 : Array (Option Value)} {oc13 kV13 dc13 pm13 cd13 ct13 : Value} {f13 : Addr} {od14 an14 : Option Addr} {sl14 : Array (Option Value)} {oc14 kV14 dc14 pm14 cd14 ct14 : Value} {f14 : Addr} {od15 an15 : Option Addr} {sl15 : Array (Option Value)} {oc15 kV15 dc15 pm15 cd15 ct15 : Value} {f15 : Addr} {od16 an16 : Option Addr} {sl16 : Array (Option Value)} {oc16 kV16 dc16 pm16 cd16 ct16 : Value} {f16 : Addr} {od17 an17 : Option Addr} {sl17 : Array (Option Value)} {oc17 kV17 dc17 pm17 cd17 ct17 : Value} {f17 : Addr} {od18 an18 : Option Addr} {sl18 : Array (Option Value)} {oc18 kV18 dc18 pm18 cd18 ct18 : Value} {f18 : Addr} {od19 an19 : Option Addr} {sl19 : Array (Option Value)} {oc19 kV19 dc19 pm19 cd19 ct19 : Value} {f19 : Addr} {od20 an20 : Option Addr} {sl20 : Array (Option Value)} {oc20 kV20 dc20 pm20 cd20 ct20 : Value} {f20 : Addr} {od21 an21 : Option Addr} {sl21 : Array (Option Value)} {oc21 kV21 dc21 pm21 cd21 ct21 : Value} {f21 : Addr} {od22 an22 : Option Addr} {sl22 : Array (Option Value)} {oc22 kV22 dc22 pm22 cd22 ct22 : Value} {f22 : Addr} {od23 an23 : Option Addr} {sl23 : Array (Option Value)} {oc23 kV23 dc23 pm23 cd23 ct23 : Value} {f23 : Addr} {od24 an24 : Option Addr} {sl24 : Array (Option Value)} {oc24 kV24 dc24 pm24 cd24 ct24 : Value} {f24 : Addr} {od25 an25 : Option Addr} {sl25 : Array (Option Value)} {oc25 kV25 dc25 pm25 ct25 : Value} {f25 : Addr} {t_MOST_FIGURES : Tok} {a_PRIMES : Addr} {o_PRIMES : Option Addr} {n_PRIMES : Nat} {s_PRIMES : Array (Option Value)} {t_PRIMES_0 t_PRIMES_1 t_PRIMES_2 : Tok} {C_BadRow : Addr} {C_NoSide f_NoSide cda_NoSide cc_NoSide S_NoSide : Addr} {nm_NoSide q_NoSide : Str} {ns_NoSide : Addr} {bs_NoSide : List Value} {sn_NoSide : List Str} {sub_NoSide : List Value} {ab_NoSide : Bool} {col_NoSide : Option Bool} {dd_NoSide : Option Addr} {m0_NoSide m1_NoSide m2_NoSide m3_NoSide m5_NoSide : Option Value} {oc_NoSide : Value} {od_NoSide : Option Addr} {dc_NoSide pm_NoSide : Value} {an_NoSide : Option Addr} {ct_NoSide : Value} {sl_NoSide : Array (Option Value)} {kl_NoSide : Value} {kd_NoSide : Option Addr} {vs_NoSide : Array Value} {ks_NoSide : Array (Option Value)} {fl_NoSide : Str} {tf_NoSide : Tok} {ll_NoSide : Value} {ld_NoSide : Option Addr} {ls_NoSide : Array (Option Value)} {C_NotTurned f_NotTurned cda_NotTurned cc_NotTurned S_NotTurned : Addr} {nm_NotTurned q_NotTurned : Str} {ns_NotTurned : Addr} {bs_NotTurned : List Value} {sn_NotTurned : List Str} {sub_NotTurned : List Value} {ab_NotTurned : Bool} {col_NotTurned : Option Bool} {dd_NotTurned : Option Addr} {m0_NotTurned m1_NotTurned m2_NotTurned m3_NotTurned m5_NotTurned : Option Value} {oc_NotTurned : Value} {od_NotTurned : Option Addr} {dc_NotTurned pm_NotTurned : Value} {an_NotTurned : Option Addr} {ct_NotTurned : Value} {sl_NotTurned : Array (Option Value)} {kl_NotTurned : Value} {kd_NotTurned : Option Addr} {vs_NotTurned : Array Value} {ks_NotTurned : Array (Option Value)} {fl_NotTurned : Str} {tf_NotTurned : Tok} {ll_NotTurned : Value} {ld_NotTurned : Option Addr} {ls_NotTurned : Array (Option Value)} {c_law cP : Addr} {kl_law : Value} {kd_law : Option Addr} {vs_law : Array Value} {ks_law : Array (Option Value)}
    (a0 : PySem.W.nsIn K mainGlobals "_law_dice" = some (some (.ref f0))) (l0 : K.lookup f0 = some ⟨oc0, od0, .func (PySem.W.fnOf "_law_dice" "_law_dice" (defArgs s__law_dice) (defBody s__law_dice) (defScope s__law_dice) .none kV0 dc0 pm0 an0 cd0 ct0), sl0⟩) (c0 : PySem.W.codeIn K cd0 "_law_dice" = true) (k0 : PySem.W.keepIn K (.ref f0) = true)
    (a1 : PySem.W.nsIn K mainGlobals "_law_left" = some (some (.ref f1))) (l1 : K.lookup f1 = some ⟨oc1, od1, .func (PySem.W.fnOf "_law_left" "_law_left" (defArgs s__law_left) (defBody s__law_left) (defScope s__law_left) .none kV1 dc1 pm1 an1 cd1 ct1), sl1⟩) (c1 : PySem.W.codeIn K cd1 "_law_left" = true) (k1 : PySem.W.keepIn K (.ref f1) = true)
    (a2 : PySem.W.nsIn K mainGlobals "_law_next" = some (some (.ref f2))) (l2 : K.lookup f2 = some ⟨oc2, od2, .func (PySem.W.fnOf "_law_next" "_law_next" (defArgs s__law_next) (defBody s__law_next) (defScope s__law_next) .none kV2 dc2 pm2 an2 cd2 ct2), sl2⟩) (c2 : PySem.W.codeIn K cd2 "_law_next" = true) (k2 : PySem.W.keepIn K (.ref f2) = true)
    (a3 : PySem.W.nsIn K mainGlobals "_law_row" = some (some (.ref f3))) (l3 : K.lookup f3 = some ⟨oc3, od3, .func (PySem.W.fnOf "_law_row" "_law_row" (defArgs s__law_row) (defBody s__law_row) (defScope s__law_row) .none kV3 dc3 pm3 an3 cd3 ct3), sl3⟩) (c3 : PySem.W.codeIn K cd3 "_law_row" = true) (k3 : PySem.W.keepIn K (.ref f3) = true)
    (a4 : PySem.W.nsIn K mainGlobals "_law_smooth" = some (some (.ref f4))) (l4 : K.lookup f4 = some ⟨oc4, od4, .func (PySem.W.fnOf "_law_smooth" "_law_smooth" (defArgs s__law_smooth) (defBody s__law_smooth) (defScope s__law_smooth) .none kV4 dc4 pm4 an4 cd4 ct4), sl4⟩) (c4 : PySem.W.codeIn K cd4 "_law_smooth" = true) (k4 : PySem.W.keepIn K (.ref f4) = true)
    (a5 : PySem.W.nsIn K mainGlobals "_law_drawn" = some (some (.ref f5))) (l5 : K.lookup f5 = some ⟨oc5, od5, .func (PySem.W.fnOf "_law_drawn" "_law_drawn" (defArgs s__law_drawn) (defBody s__law_drawn) (defScope s__law_drawn) .none kV5 dc5 pm5 an5 cd5 ct5), sl5⟩) (c5 : PySem.W.codeIn K cd5 "_law_drawn" = true) (k5 : PySem.W.keepIn K (.ref f5) = true)
    (a6 : PySem.W.nsIn K mainGlobals "_law_short" = some (some (.ref f6))) (l6 : K.lookup f6 = some ⟨oc6, od6, .func (PySem.W.fnOf "_law_short" "_law_short" (defArgs s__law_short) (defBody s__law_short) (defScope s__law_short) .none kV6 dc6 pm6 an6 cd6 ct6), sl6⟩) (c6 : PySem.W.codeIn K cd6 "_law_short" = true) (k6 : PySem.W.keepIn K (.ref f6) = true)
    (a7 : PySem.W.nsIn K mainGlobals "_law_smooth_row" = some (some (.ref f7))) (l7 : K.lookup f7 = some ⟨oc7, od7, .func (PySem.W.fnOf "_law_smooth_row" "_law_smooth_row" (defArgs s__law_smooth_row) (defBody s__law_smooth_row) (defScope s__law_smooth_row) .none kV7 dc7 pm7 an7 cd7 ct7), sl7⟩) (c7 : PySem.W.codeIn K cd7 "_law_smooth_row" = true) (k7 : PySem.W.keepIn K (.ref f7) = true)
    (a8 : PySem.W.nsIn K mainGlobals "_law_whole_of" = some (some (.ref f8))) (l8 : K.lookup f8 = some ⟨oc8, od8, .func (PySem.W.fnOf "_law_whole_of" "_law_whole_of" (defArgs s__law_whole_of) (defBody s__law_whole_of) (defScope s__law_whole_of) .none kV8 dc8 pm8 an8 cd8 ct8), sl8⟩) (c8 : PySem.W.codeIn K cd8 "_law_whole_of" = true) (k8 : PySem.W.keepIn K (.ref f8) = true)
    (a9 : PySem.W.nsIn K mainGlobals "_law_word" = some (some (.ref f9))) (l9 : K.lookup f9 = some ⟨oc9, od9, .func (PySem.W.fnOf "_law_word" "_law_word" (defArgs s__law_word) (defBody s__law_word) (defScope s__law_word) .none kV9 dc9 pm9 an9 cd9 ct9), sl9⟩) (c9 : PySem.W.codeIn K cd9 "_law_word" = true) (k9 : PySem.W.keepIn K (.ref f9) = true)
    (a10 : PySem.W.nsIn K mainGlobals "factors_of" = some (some (.ref f10))) (l10 : K.lookup f10 = some ⟨oc10, od10, .func (PySem.W.fnOf "factors_of" "factors_of" (defArgs s_factors_of) (defBody s_factors_of) (defScope s_factors_of) .none kV10 dc10 pm10 an10 cd10 ct10), sl10⟩) (c10 : PySem.W.codeIn K cd10 "factors_of" = true) (k10 : PySem.W.keepIn K (.ref f10) = true)
    (a11 : PySem.W.nsIn K mainGlobals "left_of" = some (some (.ref f11))) (l11 : K.lookup f11 = some ⟨oc11, od11, .func (PySem.W.fnOf "left_of" "left_of" (defArgs s_left_of) (defBody s_left_of) (defScope s_left_of) .none kV11 dc11 pm11 an11 cd11 ct11), sl11⟩) (c11 : PySem.W.codeIn K cd11 "left_of" = true) (k11 : PySem.W.keepIn K (.ref f11) = true)
    (a12 : PySem.W.nsIn K mainGlobals "parted" = some (some (.ref f12))) (l12 : K.lookup f12 = some ⟨oc12, od12, .func (PySem.W.fnOf "parted" "parted" (defArgs s_parted) (defBody s_parted) (defScope s_parted) .none kV12 dc12 pm12 an12 cd12 ct12), sl12⟩) (c12 : PySem.W.codeIn K cd12 "parted" = true) (k12 : PySem.W.keepIn K (.ref f12) = true)
    (a13 : PySem.W.nsIn K mainGlobals "figures_of" = some (some (.ref f13))) (l13 : K.lookup f13 = some ⟨oc13, od13, .func (PySem.W.fnOf "figures_of" "figures_of" (defArgs s_figures_of) (defBody s_figures_of) (defScope s_figures_of) .none kV13 dc13 pm13 an13 cd13 ct13), sl13⟩) (c13 : PySem.W.codeIn K cd13 "figures_of" = true) (k13 : PySem.W.keepIn K (.ref f13) = true)
    (a14 : PySem.W.nsIn K mainGlobals "row_of" = some (some (.ref f14))) (l14 : K.lookup f14 = some ⟨oc14, od14, .func (PySem.W.fnOf "row_of" "row_of" (defArgs s_row_of) (defBody s_row_of) (defScope s_row_of) .none kV14 dc14 pm14 an14 cd14 ct14), sl14⟩) (c14 : PySem.W.codeIn K cd14 "row_of" = true) (k14 : PySem.W.keepIn K (.ref f14) = true)
    (a15 : PySem.W.nsIn K mainGlobals "is_long_row" = some (some (.ref f15))) (l15 : K.lookup f15 = some ⟨oc15, od15, .func (PySem.W.fnOf "is_long_row" "is_long_row" (defArgs s_is_long_row) (defBody s_is_long_row) (defScope s_is_long_row) .none kV15 dc15 pm15 an15 cd15 ct15), sl15⟩) (c15 : PySem.W.codeIn K cd15 "is_long_row" = true) (k15 : PySem.W.keepIn K (.ref f15) = true)
    (a16 : PySem.W.nsIn K mainGlobals "is_row" = some (some (.ref f16))) (l16 : K.lookup f16 = some ⟨oc16, od16, .func (PySem.W.fnOf "is_row" "is_row" (defArgs s_is_row) (defBody s_is_row) (defScope s_is_row) .none kV16 dc16 pm16 an16 cd16 ct16), sl16⟩) (c16 : PySem.W.codeIn K cd16 "is_row" = true) (k16 : PySem.W.keepIn K (.ref f16) = true)
    (a17 : PySem.W.nsIn K mainGlobals "check_row" = some (some (.ref f17))) (l17 : K.lookup f17 = some ⟨oc17, od17, .func (PySem.W.fnOf "check_row" "check_row" (defArgs s_check_row) (defBody s_check_row) (defScope s_check_row) .none kV17 dc17 pm17 an17 cd17 ct17), sl17⟩) (c17 : PySem.W.codeIn K cd17 "check_row" = true) (k17 : PySem.W.keepIn K (.ref f17) = true)
    (a18 : PySem.W.nsIn K mainGlobals "number_of" = some (some (.ref f18))) (l18 : K.lookup f18 = some ⟨oc18, od18, .func (PySem.W.fnOf "number_of" "number_of" (defArgs s_number_of) (defBody s_number_of) (defScope s_number_of) .none kV18 dc18 pm18 an18 cd18 ct18), sl18⟩) (c18 : PySem.W.codeIn K cd18 "number_of" = true) (k18 : PySem.W.keepIn K (.ref f18) = true)
    (a19 : PySem.W.nsIn K mainGlobals "whole_of" = some (some (.ref f19))) (l19 : K.lookup f19 = some ⟨oc19, od19, .func (PySem.W.fnOf "whole_of" "whole_of" (defArgs s_whole_of) (defBody s_whole_of) (defScope s_whole_of) .none kV19 dc19 pm19 an19 cd19 ct19), sl19⟩) (c19 : PySem.W.codeIn K cd19 "whole_of" = true) (k19 : PySem.W.keepIn K (.ref f19) = true)
    (a20 : PySem.W.nsIn K mainGlobals "part" = some (some (.ref f20))) (l20 : K.lookup f20 = some ⟨oc20, od20, .func (PySem.W.fnOf "part" "part" (defArgs s_part) (defBody s_part) (defScope s_part) .none kV20 dc20 pm20 an20 cd20 ct20), sl20⟩) (c20 : PySem.W.codeIn K cd20 "part" = true) (k20 : PySem.W.keepIn K (.ref f20) = true)
    (a21 : PySem.W.nsIn K mainGlobals "times" = some (some (.ref f21))) (l21 : K.lookup f21 = some ⟨oc21, od21, .func (PySem.W.fnOf "times" "times" (defArgs s_times) (defBody s_times) (defScope s_times) .none kV21 dc21 pm21 an21 cd21 ct21), sl21⟩) (c21 : PySem.W.codeIn K cd21 "times" = true) (k21 : PySem.W.keepIn K (.ref f21) = true)
    (a22 : PySem.W.nsIn K mainGlobals "powers_below" = some (some (.ref f22))) (l22 : K.lookup f22 = some ⟨oc22, od22, .func (PySem.W.fnOf "powers_below" "powers_below" (defArgs s_powers_below) (defBody s_powers_below) (defScope s_powers_below) .none kV22 dc22 pm22 an22 cd22 ct22), sl22⟩) (c22 : PySem.W.codeIn K cd22 "powers_below" = true) (k22 : PySem.W.keepIn K (.ref f22) = true)
    (a23 : PySem.W.nsIn K mainGlobals "turnables" = some (some (.ref f23))) (l23 : K.lookup f23 = some ⟨oc23, od23, .func (PySem.W.fnOf "turnables" "turnables" (defArgs s_turnables) (defBody s_turnables) (defScope s_turnables) .none kV23 dc23 pm23 an23 cd23 ct23), sl23⟩) (c23 : PySem.W.codeIn K cd23 "turnables" = true) (k23 : PySem.W.keepIn K (.ref f23) = true)
    (a24 : PySem.W.nsIn K mainGlobals "turned" = some (some (.ref f24))) (l24 : K.lookup f24 = some ⟨oc24, od24, .func (PySem.W.fnOf "turned" "turned" (defArgs s_turned) (defBody s_turned) (defScope s_turned) .none kV24 dc24 pm24 an24 cd24 ct24), sl24⟩) (c24 : PySem.W.codeIn K cd24 "turned" = true) (k24 : PySem.W.keepIn K (.ref f24) = true)
    (a25 : PySem.W.nsIn K mainGlobals "law" = some (some (.ref f25))) (l25 : K.lookup f25 = some ⟨oc25, od25, .func (PySem.W.fnOf "law" "law" (defArgs s_law) (defBody s_law) (defScope s_law) .none kV25 dc25 pm25 an25 (.ref c_law) ct25), sl25⟩) (c25 : PySem.W.codeIn K (.ref c_law) "law" = true) (k25 : PySem.W.keepIn K (.ref f25) = true)
    (m_gcd : PySem.W.nsIn K mainGlobals "gcd" = some (some (.builtin "math.gcd")))
    (z_divmod : PySem.W.nsIn K mainGlobals "divmod" = some none)
    (z_int : PySem.W.nsIn K mainGlobals "int" = some none)
    (z_len : PySem.W.nsIn K mainGlobals "len" = some none)
    (z_max : PySem.W.nsIn K mainGlobals "max" = some none)
    (z_min : PySem.W.nsIn K mainGlobals "min" = some none)
    (z_range : PySem.W.nsIn K mainGlobals "range" = some none)
    (z_reversed : PySem.W.nsIn K mainGlobals "reversed" = some none)
    (z_set : PySem.W.nsIn K mainGlobals "set" = some none)
    (z_sorted : PySem.W.nsIn K mainGlobals "sorted" = some none)
    (z_tuple : PySem.W.nsIn K mainGlobals "tuple" = some none)
    (c_MOST_FIGURES : PySem.W.nsIn K mainGlobals "MOST_FIGURES" = some (some (.int 12 t_MOST_FIGURES)))
    (c_PRIMES : PySem.W.nsIn K mainGlobals "PRIMES" = some (some (.ref a_PRIMES))) (k_PRIMES : K.lookup a_PRIMES = some ⟨.type "tuple", o_PRIMES, .seq #[.int 2 t_PRIMES_0, .int 3 t_PRIMES_1, .int 5 t_PRIMES_2] n_PRIMES, s_PRIMES⟩)
    (ea_BadRow : PySem.W.nsIn K mainGlobals "BadRow" = some (some (.ref C_BadRow))) (ep_BadRow : PySem.W.excIn K C_BadRow [.type "ValueError", .type "Exception", .type "BaseException", .type "object"] "ValueError.__new__" = true) (ek_BadRow : PySem.W.keepIn K (.ref C_BadRow) = true) (eb_BadRow : PySem.W.subIn K (.ref C_BadRow) (.type "BaseException") = some true) (ety_BadRow : PySem.W.typeIn K (.ref C_BadRow) = some (.type "type"))
    (ea_NoSide : PySem.W.nsIn K mainGlobals "NoSide" = some (some (.ref C_NoSide))) (ex_NoSide : K.lookup C_NoSide = some (excClassObj nm_NoSide q_NoSide C_NoSide ns_NoSide bs_NoSide [.ref S_NoSide, .type "ValueError", .type "Exception", .type "BaseException", .type "object"] true sn_NoSide sub_NoSide ab_NoSide col_NoSide dd_NoSide m0_NoSide m1_NoSide m2_NoSide m3_NoSide m5_NoSide "ValueError.__new__")) (es_NoSide : PySem.W.findIn K (.ref C_NoSide) "__setattr__" = some (some (.builtin "object.__setattr__"))) (eg_NoSide : PySem.W.findIn K (.ref C_NoSide) "__getattribute__" = some (some (.builtin "BaseException.__getattribute__"))) (eh_NoSide : PySem.W.findIn K (.ref C_NoSide) "__getattr__" = some none) (ef_NoSide : PySem.W.findIn K (.ref C_NoSide) "why" = some none) (ei_NoSide : PySem.W.findIn K (.ref C_NoSide) "__init__" = some (some (.ref f_NoSide))) (et_NoSide : PySem.W.typeIn K (.ref f_NoSide) = some (.type "function")) (ek_NoSide : PySem.W.keepIn K (.ref C_NoSide) = true) (eb_NoSide : PySem.W.subIn K (.ref C_NoSide) (.type "BaseException") = some true) (ety_NoSide : PySem.W.typeIn K (.ref C_NoSide) = some (.type "type")) (ed_NoSide : PySem.W.hasDictIn K C_NoSide = true) (el_NoSide : K.lookup f_NoSide = some ⟨oc_NoSide, od_NoSide, .func (PySem.W.ksFn "__init__" "NoSide.__init__" (PySem.Own_why.iA ⟨14, 17, 14, 21⟩ ⟨14, 23, 14, 26⟩) (PySem.Own_why.iB "no row has this row as its square" ⟨15, 8, 15, 13⟩ ⟨15, 8, 15, 15⟩ ⟨15, 8, 15, 24⟩ ⟨15, 25, 15, 60⟩ ⟨15, 8, 15, 61⟩ ⟨15, 8, 15, 61⟩ ⟨16, 8, 16, 12⟩ ⟨16, 8, 16, 16⟩ ⟨16, 19, 16, 22⟩ ⟨16, 8, 16, 22⟩) PySem.Own_why.iS .none .none dc_NoSide pm_NoSide an_NoSide (.ref cda_NoSide) ct_NoSide cc_NoSide), sl_NoSide⟩) (ec_NoSide : PySem.W.codeIn K (.ref cda_NoSide) "NoSide.__init__" = true) (eo_NoSide : K.lookup cda_NoSide = some ⟨kl_NoSide, kd_NoSide, .fields vs_NoSide, ks_NoSide⟩) (ev_NoSide : vs_NoSide[2]? = some (.str fl_NoSide tf_NoSide)) (ew_NoSide : ((l.prog.main.file : Str) == fl_NoSide) = true) (ell_NoSide : K.lookup cc_NoSide = some ⟨ll_NoSide, ld_NoSide, .cell (some (.ref C_NoSide)), ls_NoSide⟩) (eu_NoSide : PySem.W.ks_superIn K C_NoSide C_NoSide "__init__" = some (some (.builtin "ValueError.__init__"))) (ev2_NoSide : PySem.W.subIn K (.ref C_NoSide) (.type "ValueError") = some true) (em_NoSide : PySem.W.mroIn K C_NoSide (.ref C_NoSide) = some true) (er_NoSide : PySem.Own_why.Reads "no row has this row as its square" ⟨15, 8, 15, 13⟩ ⟨15, 8, 15, 15⟩ ⟨15, 8, 15, 24⟩ ⟨15, 25, 15, 60⟩ ⟨15, 8, 15, 61⟩)
    (ea_NotTurned : PySem.W.nsIn K mainGlobals "NotTurned" = some (some (.ref C_NotTurned))) (ex_NotTurned : K.lookup C_NotTurned = some (excClassObj nm_NotTurned q_NotTurned C_NotTurned ns_NotTurned bs_NotTurned [.ref S_NotTurned, .type "ValueError", .type "Exception", .type "BaseException", .type "object"] true sn_NotTurned sub_NotTurned ab_NotTurned col_NotTurned dd_NotTurned m0_NotTurned m1_NotTurned m2_NotTurned m3_NotTurned m5_NotTurned "ValueError.__new__")) (es_NotTurned : PySem.W.findIn K (.ref C_NotTurned) "__setattr__" = some (some (.builtin "object.__setattr__"))) (eg_NotTurned : PySem.W.findIn K (.ref C_NotTurned) "__getattribute__" = some (some (.builtin "BaseException.__getattribute__"))) (eh_NotTurned : PySem.W.findIn K (.ref C_NotTurned) "__getattr__" = some none) (ef_NotTurned : PySem.W.findIn K (.ref C_NotTurned) "left" = some none) (ei_NotTurned : PySem.W.findIn K (.ref C_NotTurned) "__init__" = some (some (.ref f_NotTurned))) (et_NotTurned : PySem.W.typeIn K (.ref f_NotTurned) = some (.type "function")) (ek_NotTurned : PySem.W.keepIn K (.ref C_NotTurned) = true) (eb_NotTurned : PySem.W.subIn K (.ref C_NotTurned) (.type "BaseException") = some true) (ety_NotTurned : PySem.W.typeIn K (.ref C_NotTurned) = some (.type "type")) (ed_NotTurned : PySem.W.hasDictIn K C_NotTurned = true) (el_NotTurned : K.lookup f_NotTurned = some ⟨oc_NotTurned, od_NotTurned, .func (PySem.W.ksFn "__init__" "NotTurned.__init__" (PySem.Own_left.iA ⟨9, 17, 9, 21⟩ ⟨9, 23, 9, 27⟩) (PySem.Own_left.iB "no row times the other row is the one" ⟨10, 8, 10, 13⟩ ⟨10, 8, 10, 15⟩ ⟨10, 8, 10, 24⟩ ⟨10, 25, 10, 64⟩ ⟨10, 8, 10, 65⟩ ⟨10, 8, 10, 65⟩ ⟨11, 8, 11, 12⟩ ⟨11, 8, 11, 17⟩ ⟨11, 20, 11, 24⟩ ⟨11, 8, 11, 24⟩) PySem.Own_left.iS .none .none dc_NotTurned pm_NotTurned an_NotTurned (.ref cda_NotTurned) ct_NotTurned cc_NotTurned), sl_NotTurned⟩) (ec_NotTurned : PySem.W.codeIn K (.ref cda_NotTurned) "NotTurned.__init__" = true) (eo_NotTurned : K.lookup cda_NotTurned = some ⟨kl_NotTurned, kd_NotTurned, .fields vs_NotTurned, ks_NotTurned⟩) (ev_NotTurned : vs_NotTurned[2]? = some (.str fl_NotTurned tf_NotTurned)) (ew_NotTurned : ((l.prog.main.file : Str) == fl_NotTurned) = true) (ell_NotTurned : K.lookup cc_NotTurned = some ⟨ll_NotTurned, ld_NotTurned, .cell (some (.ref C_NotTurned)), ls_NotTurned⟩) (eu_NotTurned : PySem.W.ks_superIn K C_NotTurned C_NotTurned "__init__" = some (some (.builtin "ValueError.__init__"))) (ev2_NotTurned : PySem.W.subIn K (.ref C_NotTurned) (.type "ValueError") = some true) (em_NotTurned : PySem.W.mroIn K C_NotTurned (.ref C_NotTurned) = some true) (er_NotTurned : PySem.Own_left.Reads "no row times the other row is the one" ⟨10, 8, 10, 13⟩ ⟨10, 8, 10, 15⟩ ⟨10, 8, 10, 24⟩ ⟨10, 25, 10, 64⟩ ⟨10, 8, 10, 65⟩)
    (x_lc : K.lookup c_law = some ⟨kl_law, kd_law, .fields vs_law, ks_law⟩) (x_vP : vs_law[11]? = some (.ref cP)) (x_nP : K.lookup cP = none)
    (x_SS : PySem.W.exmOne K (.ref C_NoSide) (.ref C_NoSide) = some true) (x_TS : PySem.W.exmOne K (.ref C_NotTurned) (.ref C_NoSide) = some false) (x_TT : PySem.W.exmOne K (.ref C_NotTurned) (.ref C_NotTurned) = some true)
    (e_sup : PySem.W.nsIn K mainGlobals "super" = some none) (e_any : PySem.W.nsIn K PySem.cStatics "thirdparty.any" = some none) (e_top : (l.prog.main.scope.names.lookup ("super" : Str)).isSome = false)
    (s_tree : l.prog.given.tree = none) (s_aud : PySem.W.nsIn K PySem.cStatics "sys.audit-hooks" = some none) (s_dic : PySem.W.nsIn K PySem.cStatics "sys.dict" = some none) :
    ∃ (fd : FuncData) (c P : Addr) (sp : Sp), PySem.W.tabIn K "law" = some (c, P) ∧ K.lookup P = none ∧ (∀ (s : Shared) (u : Value), BindsTo s fd ⟨[u], []⟩ [("_law_script", u)]) ∧ (∀ (H : Hp) (a : Addr) (ns : List Int), ns.length ≤ 63 → H P = some (.tbl #[]) → SqL K H a (ns.map V.int) → sp [.ref a] H (fun v _ => v = .bl true) fun _ _ _ => False) ∧ ∀ base : Heap, K.In base → base.Ns mainGlobals mg → LamX.TabB base mg c P → L2.SeerH base → FnOk l.prog w K mg base CX0 49 fa fd ["_law_script"] sp := by
  have e := hfa.symm.trans (PySem.W.mg_of X G a25)
  cases e
  have F0 := fun_mk (st := s__law_dice) l0 c0 k0
  have F1 := fun_mk (st := s__law_left) l1 c1 k1
  have F2 := fun_mk (st := s__law_next) l2 c2 k2
  have F3 := fun_mk (st := s__law_row) l3 c3 k3
  have F4 := fun_mk (st := s__law_smooth) l4 c4 k4
  have F5 := fun_mk (st := s__law_drawn) l5 c5 k5
  have F6 := fun_mk (st := s__law_short) l6 c6 k6
  have F7 := fun_mk (st := s__law_smooth_row) l7 c7 k7
  have F8 := fun_mk (st := s__law_whole_of) l8 c8 k8
  have F9 := fun_mk (st := s__law_word) l9 c9 k9
  have F10 := fun_mk (st := s_factors_of) l10 c10 k10
  have F11 := fun_mk (st := s_left_of) l11 c11 k11
  have F12 := fun_mk (st := s_parted) l12 c12 k12
  have F13 := fun_mk (st := s_figures_of) l13 c13 k13
  have F14 := fun_mk (st := s_row_of) l14 c14 k14
  have F15 := fun_mk (st := s_is_long_row) l15 c15 k15
  have F16 := fun_mk (st := s_is_row) l16 c16 k16
  have F17 := fun_mk (st := s_check_row) l17 c17 k17
  have F18 := fun_mk (st := s_number_of) l18 c18 k18
  have F19 := fun_mk (st := s_whole_of) l19 c19 k19
  have F20 := fun_mk (st := s_part) l20 c20 k20
  have F21 := fun_mk (st := s_times) l21 c21 k21
  have F22 := fun_mk (st := s_powers_below) l22 c22 k22
  have F23 := fun_mk (st := s_turnables) l23 c23 k23
  have F24 := fun_mk (st := s_turned) l24 c24 k24
  have F25 := fun_mk (st := s_law) l25 c25 k25
  let T : ∀ base : Heap, L2.SeerH base → Tx l.prog w K mg base := fun base sr => {
    a__law_dice := f0,
    d__law_dice := _,
    F__law_dice := F0,
    g__law_dice := PySem.W.mg_of X G a0,
    b__law_dice := F0.binds (ps := ["_law_script"]) (fun _ _ _ _ _ _ us hl => match us, hl with | [_], _ => rfl),
    a__law_left := f1,
    d__law_left := _,
    F__law_left := F1,
    g__law_left := PySem.W.mg_of X G a1,
    b__law_left := F1.binds (ps := ["_law_number"]) (fun _ _ _ _ _ _ us hl => match us, hl with | [_], _ => rfl),
    a__law_next := f2,
    d__law_next := _,
    F__law_next := F2,
    g__law_next := PySem.W.mg_of X G a2,
    b__law_next := F2.binds (ps := ["_law_dice_here", "_law_many"]) (fun _ _ _ _ _ _ us hl => match us, hl with | [_, _], _ => rfl),
    a__law_row := f3,
    d__law_row := _,
    F__law_row := F3,
    g__law_row := PySem.W.mg_of X G a3,
    b__law_row := F3.binds (ps := ["_law_number"]) (fun _ _ _ _ _ _ us hl => match us, hl with | [_], _ => rfl),
    a__law_smooth := f4,
    d__law_smooth := _,
    F__law_smooth := F4,
    g__law_smooth := PySem.W.mg_of X G a4,
    b__law_smooth := F4.binds (ps := ["_law_d"]) (fun _ _ _ _ _ _ us hl => match us, hl with | [_], _ => rfl),
    a__law_drawn := f5,
    d__law_drawn := _,
    F__law_drawn := F5,
    g__law_drawn := PySem.W.mg_of X G a5,
    b__law_drawn := F5.binds (ps := ["_law_d", "_law_most"]) (fun _ _ _ _ _ _ us hl => match us, hl with | [_, _], _ => rfl),
    a__law_short := f6,
    d__law_short := _,
    F__law_short := F6,
    g__law_short := PySem.W.mg_of X G a6,
    b__law_short := F6.binds (ps := ["_law_d", "_law_most"]) (fun _ _ _ _ _ _ us hl => match us, hl with | [_, _], _ => rfl),
    a__law_smooth_row := f7,
    d__law_smooth_row := _,
    F__law_smooth_row := F7,
    g__law_smooth_row := PySem.W.mg_of X G a7,
    b__law_smooth_row := F7.binds (ps := ["_law_d", "_law_most"]) (fun _ _ _ _ _ _ us hl => match us, hl with | [_, _], _ => rfl),
    a__law_whole_of := f8,
    d__law_whole_of := _,
    F__law_whole_of := F8,
    g__law_whole_of := PySem.W.mg_of X G a8,
    b__law_whole_of := F8.binds (ps := ["_law_row_here"]) (fun _ _ _ _ _ _ us hl => match us, hl with | [_], _ => rfl),
    a__law_word := f9,
    d__law_word := _,
    F__law_word := F9,
    g__law_word := PySem.W.mg_of X G a9,
    b__law_word := F9.binds (ps := ["_law_work"]) (fun _ _ _ _ _ _ us hl => match us, hl with | [_], _ => rfl),
    a_factors_of := f10,
    d_factors_of := _,
    F_factors_of := F10,
    g_factors_of := PySem.W.mg_of X G a10,
    b_factors_of := F10.binds (ps := ["number"]) (fun _ _ _ _ _ _ us hl => match us, hl with | [_], _ => rfl),
    a_left_of := f11,
    d_left_of := _,
    F_left_of := F11,
    g_left_of := PySem.W.mg_of X G a11,
    b_left_of := F11.binds (ps := ["number"]) (fun _ _ _ _ _ _ us hl => match us, hl with | [_], _ => rfl),
    a_parted := f12,
    d_parted := _,
    F_parted := F12,
    g_parted := PySem.W.mg_of X G a12,
    b_parted := F12.binds (ps := ["number", "divisor"]) (fun _ _ _ _ _ _ us hl => match us, hl with | [_, _], _ => rfl),
    a_figures_of := f13,
    d_figures_of := _,
    F_figures_of := F13,
    g_figures_of := PySem.W.mg_of X G a13,
    b_figures_of := F13.binds (ps := ["number"]) (fun _ _ _ _ _ _ us hl => match us, hl with | [_], _ => rfl),
    a_row_of := f14,
    d_row_of := _,
    F_row_of := F14,
    g_row_of := PySem.W.mg_of X G a14,
    b_row_of := F14.binds (ps := ["number"]) (fun _ _ _ _ _ _ us hl => match us, hl with | [_], _ => rfl),
    a_is_long_row := f15,
    d_is_long_row := _,
    F_is_long_row := F15,
    g_is_long_row := PySem.W.mg_of X G a15,
    b_is_long_row := F15.binds (ps := ["figures"]) (fun _ _ _ _ _ _ us hl => match us, hl with | [_], _ => rfl),
    a_is_row := f16,
    d_is_row := _,
    F_is_row := F16,
    g_is_row := PySem.W.mg_of X G a16,
    b_is_row := F16.binds (ps := ["figures"]) (fun _ _ _ _ _ _ us hl => match us, hl with | [_], _ => rfl),
    a_check_row := f17,
    d_check_row := _,
    F_check_row := F17,
    g_check_row := PySem.W.mg_of X G a17,
    b_check_row := F17.binds (ps := ["row"]) (fun _ _ _ _ _ _ us hl => match us, hl with | [_], _ => rfl),
    a_number_of := f18,
    d_number_of := _,
    F_number_of := F18,
    g_number_of := PySem.W.mg_of X G a18,
    b_number_of := F18.binds (ps := ["figures"]) (fun _ _ _ _ _ _ us hl => match us, hl with | [_], _ => rfl),
    a_whole_of := f19,
    d_whole_of := _,
    F_whole_of := F19,
    g_whole_of := PySem.W.mg_of X G a19,
    b_whole_of := F19.binds (ps := ["row"]) (fun _ _ _ _ _ _ us hl => match us, hl with | [_], _ => rfl),
    a_part := f20,
    d_part := _,
    F_part := F20,
    g_part := PySem.W.mg_of X G a20,
    b_part := F20.binds (ps := ["one", "other"]) (fun _ _ _ _ _ _ us hl => match us, hl with | [_, _], _ => rfl),
    a_times := f21,
    d_times := _,
    F_times := F21,
    g_times := PySem.W.mg_of X G a21,
    b_times := F21.binds (ps := ["one", "other"]) (fun _ _ _ _ _ _ us hl => match us, hl with | [_, _], _ => rfl),
    a_powers_below := f22,
    d_powers_below := _,
    F_powers_below := F22,
    g_powers_below := PySem.W.mg_of X G a22,
    b_powers_below := F22.binds (ps := ["prime", "limit"]) (fun _ _ _ _ _ _ us hl => match us, hl with | [_, _], _ => rfl),
    a_turnables := f23,
    d_turnables := _,
    F_turnables := F23,
    g_turnables := PySem.W.mg_of X G a23,
    b_turnables := F23.binds (ps := ["places"]) (fun _ _ _ _ _ _ us hl => match us, hl with | [_], _ => rfl),
    a_turned := f24,
    d_turned := _,
    F_turned := F24,
    g_turned := PySem.W.mg_of X G a24,
    b_turned := F24.binds (ps := ["row"]) (fun _ _ _ _ _ _ us hl => match us, hl with | [_], _ => rfl),
    a_law := fa,
    d_law := _,
    F_law := F25,
    g_law := PySem.W.mg_of X G a25,
    b_law := F25.binds (ps := ["_law_script"]) (fun _ _ _ _ _ _ us hl => match us, hl with | [_], _ => rfl),
    z_divmod := PySem.W.mg_none_of X G z_divmod,
    z_int := PySem.W.mg_none_of X G z_int,
    z_len := PySem.W.mg_none_of X G z_len,
    z_max := PySem.W.mg_none_of X G z_max,
    z_min := PySem.W.mg_none_of X G z_min,
    z_range := PySem.W.mg_none_of X G z_range,
    z_reversed := PySem.W.mg_none_of X G z_reversed,
    z_set := PySem.W.mg_none_of X G z_set,
    z_sorted := PySem.W.mg_none_of X G z_sorted,
    z_tuple := PySem.W.mg_none_of X G z_tuple,
    seer := ⟨s_tree, s_aud, s_dic, sr⟩,
    m_gcd := PySem.W.mg_of X G m_gcd,
    c_MOST_FIGURES := ⟨_, PySem.W.mg_of X G c_MOST_FIGURES⟩,
    c_PRIMES := ⟨_, PySem.W.mg_of X G c_PRIMES, fun W => .ktup (vs := [.int 2, .int 3, .int 5]) (fun _ => .inr ⟨_, _, _, k_PRIMES, rfl, rfl, (by show 3 ≤ sizeLine; decide), .cons ⟨_, rfl⟩ (.cons ⟨_, rfl⟩ (.cons ⟨_, rfl⟩ (.nil)))⟩) (.cons (.int _) (.cons (.int _) (.cons (.int _) (.nil))))⟩,
    wk := { gS := PySem.W.mg_of X G ea_NoSide, gT := PySem.W.mg_of X G ea_NotTurned, gB := PySem.W.mg_of X G ea_BadRow, xS := ⟨eg_NoSide, eh_NoSide, eb_NoSide, ed_NoSide⟩, xT := ⟨eg_NotTurned, eh_NotTurned, eb_NotTurned, ed_NotTurned⟩, nS := ef_NoSide, nT := ef_NotTurned, eSS := x_SS, eTS := x_TS, eTT := x_TT },
    e := ⟨0, C_BadRow, C_NotTurned, C_NoSide, 0, 0⟩,
    e_BadRow := ⟨PySem.W.mg_of X G ea_BadRow, ep_BadRow, ek_BadRow, eb_BadRow, ety_BadRow⟩,
    e_NoSide := PySem.Own_why.own_c (fI := f_NoSide) { gC := PySem.W.mg_of X G ea_NoSide, noS := PySem.W.mg_none_of X G e_sup, cls := ⟨_, _, _, _, _, _, _, _, _, _, _, _, _, _, _, ex_NoSide, (show PySem.HandSPX.refsVE [.type "ValueError", .type "Exception", .type "BaseException", .type "object"] = true by decide +kernel)⟩, sa := es_NoSide, xf := ⟨eg_NoSide, eh_NoSide, eb_NoSide, ed_NoSide⟩, noN := ef_NoSide, iC := ei_NoSide, tC := et_NoSide, kC := ek_NoSide, exC := eb_NoSide, tyC := ety_NoSide, sup := eu_NoSide, sV := ev2_NoSide, mC := em_NoSide, any := e_any, top := e_top, fn := ⟨_, _, _, _, _, _, _, _, _, _, _, _, _, _, _, _, _, _, _, _, _, _, _, _, _, _, _, _, _, _, _, _, el_NoSide, ec_NoSide, eo_NoSide, ev_NoSide, ew_NoSide, ell_NoSide, er_NoSide⟩ },
    e_NotTurned := PySem.Own_left.own_c (fI := f_NotTurned) { gC := PySem.W.mg_of X G ea_NotTurned, noS := PySem.W.mg_none_of X G e_sup, cls := ⟨_, _, _, _, _, _, _, _, _, _, _, _, _, _, _, ex_NotTurned, (show PySem.HandSPX.refsVE [.type "ValueError", .type "Exception", .type "BaseException", .type "object"] = true by decide +kernel)⟩, sa := es_NotTurned, xf := ⟨eg_NotTurned, eh_NotTurned, eb_NotTurned, ed_NotTurned⟩, noN := ef_NotTurned, iC := ei_NotTurned, tC := et_NotTurned, kC := ek_NotTurned, exC := eb_NotTurned, tyC := ety_NotTurned, sup := eu_NotTurned, sV := ev2_NotTurned, mC := em_NotTurned, any := e_any, top := e_top, fn := ⟨_, _, _, _, _, _, _, _, _, _, _, _, _, _, _, _, _, _, _, _, _, _, _, _, _, _, _, _, _, _, _, _, el_NotTurned, ec_NotTurned, eo_NotTurned, ev_NotTurned, ew_NotTurned, ell_NotTurned, er_NotTurned⟩ } }
  have hK : PySem.W.tabIn K "law" = some (c_law, cP) := by unfold PySem.W.tabIn; rw [a25]; simp only [l25, x_lc, x_vP]
  exact ⟨PySem.W.fnOf "law" "law" (defArgs s_law) (defBody s_law) (defScope s_law) .none kV25 dc25 pm25 an25 (.ref c_law) ct25, c_law, cP, lawSpT K cP, hK, x_nP, fun s u => .of_eq rfl, fun H a ns hl hP hS => ⟨a, ns, rfl, hS, hl, hP, fun _ => rfl⟩, fun base _ _ TB sr => ok_law (T base sr) hK ⟨⟨_, _, _, _, _, _, _, _, rfl, l25, c25⟩⟩ TB⟩
end Dx
open PySem PySem.W PyProof.Rows
local macro_rules | `(tactic| o_head ($f:ident $K $a $e $t)) => `(tactic| o_head (L2.withSeer ($f $K $a $e $t)))
set_option maxRecDepth 100000 in
set_option maxHeartbeats 0 in
theorem PySem.Challenge.cw_sixtyfold_k31_whole_turned_numbers_holds : PySem.Challenge.rw_sixtyfold_k31_whole_turned_numbers.Holds := by
  w_on; o_law; k_head; (case hw => w_witness2)
  k_fill
  refine L2.walk_lamS (l := PySem.Challenge.rw_sixtyfold_k31_whole_turned_numbers) (n := 63) (k := 49) (x := "_law_script") rfl (by decide) rfl ⟨rfl, by decide, by decide⟩ (fun w h Y => ⟨by first | exact PySem.W.km_in_of Y.1 | exact PySem.W.kIn_of Y.1, Y.2⟩) ⟨_, by first | rfl | kernel_rfl⟩ ?F
  case F =>
    intro w mg fa h KX G hmg
    refine' Dx.all_mk KX G hmg ?a0 ?l0 ?c0 ?k0 ?a1 ?l1 ?c1 ?k1 ?a2 ?l2 ?c2 ?k2 ?a3 ?l3 ?c3 ?k3 ?a4 ?l4 ?c4 ?k4 ?a5 ?l5 ?c5 ?k5 ?a6 ?l6 ?c6 ?k6 ?a7 ?l7 ?c7 ?k7 ?a8 ?l8 ?c8 ?k8 ?a9 ?l9 ?c9 ?k9 ?a10 ?l10 ?c10 ?k10 ?a11 ?l11 ?c11 ?k11 ?a12 ?l12 ?c12 ?k12 ?a13 ?l13 ?c13 ?k13 ?a14 ?l14 ?c14 ?k14 ?a15 ?l15 ?c15 ?k15 ?a16 ?l16 ?c16 ?k16 ?a17 ?l17 ?c17 ?k17 ?a18 ?l18 ?c18 ?k18 ?a19 ?l19 ?c19 ?k19 ?a20 ?l20 ?c20 ?k20 ?a21 ?l21 ?c21 ?k21 ?a22 ?l22 ?c22 ?k22 ?a23 ?l23 ?c23 ?k23 ?a24 ?l24 ?c24 ?k24 ?a25 ?l25 ?c25 ?k25 ?m_gcd ?z_divmod ?z_int ?z_len ?z_max ?z_min ?z_range ?z_reversed ?z_set ?z_sorted ?z_tuple ?c_MOST_FIGURES ?c_PRIMES ?k_PRIMES ?ea_BadRow ?ep_BadRow ?ek_BadRow ?eb_BadRow ?ety_BadRow ?ea_NoSide ?ex_NoSide ?es_NoSide ?eg_NoSide ?eh_NoSide ?ef_NoSide ?ei_NoSide ?et_NoSide ?ek_NoSide ?eb_NoSide ?ety_NoSide ?ed_NoSide ?el_NoSide ?ec_NoSide ?eo_NoSide ?ev_NoSide ?ew_NoSide ?ell_NoSide ?eu_NoSide ?ev2_NoSide ?em_NoSide ?er_NoSide ?ea_NotTurned ?ex_NotTurned ?es_NotTurned ?eg_NotTurned ?eh_NotTurned ?ef_NotTurned ?ei_NotTurned ?et_NotTurned ?ek_NotTurned ?eb_NotTurned ?ety_NotTurned ?ed_NotTurned ?el_NotTurned ?ec_NotTurned ?eo_NotTurned ?ev_NotTurned ?ew_NotTurned ?ell_NotTurned ?eu_NotTurned ?ev2_NotTurned ?em_NotTurned ?er_NotTurned ?x_lc ?x_vP ?x_nP ?x_SS ?x_TS ?x_TT ?e_sup ?e_any ?e_top ?s_tree ?s_aud ?s_dic
    (case a0 => k_is)
    (case l0 => k_is)
    (case c0 => k_is)
    (case k0 => k_is)
    (case a1 => k_is)
    (case l1 => k_is)
    (case c1 => k_is)
    (case k1 => k_is)
    (case a2 => k_is)
    (case l2 => k_is)
    (case c2 => k_is)
    (case k2 => k_is)
    (case a3 => k_is)
    (case l3 => k_is)
    (case c3 => k_is)
    (case k3 => k_is)
    (case a4 => k_is)
    (case l4 => k_is)
    (case c4 => k_is)
    (case k4 => k_is)
    (case a5 => k_is)
    (case l5 => k_is)
    (case c5 => k_is)
    (case k5 => k_is)
    (case a6 => k_is)
    (case l6 => k_is)
    (case c6 => k_is)
    (case k6 => k_is)
    (case a7 => k_is)
    (case l7 => k_is)
    (case c7 => k_is)
    (case k7 => k_is)
    (case a8 => k_is)
    (case l8 => k_is)
    (case c8 => k_is)
    (case k8 => k_is)
    (case a9 => k_is)
    (case l9 => k_is)
    (case c9 => k_is)
    (case k9 => k_is)
    (case a10 => k_is)
    (case l10 => k_is)
    (case c10 => k_is)
    (case k10 => k_is)
    (case a11 => k_is)
    (case l11 => k_is)
    (case c11 => k_is)
    (case k11 => k_is)
    (case a12 => k_is)
    (case l12 => k_is)
    (case c12 => k_is)
    (case k12 => k_is)
    (case a13 => k_is)
    (case l13 => k_is)
    (case c13 => k_is)
    (case k13 => k_is)
    (case a14 => k_is)
    (case l14 => k_is)
    (case c14 => k_is)
    (case k14 => k_is)
    (case a15 => k_is)
    (case l15 => k_is)
    (case c15 => k_is)
    (case k15 => k_is)
    (case a16 => k_is)
    (case l16 => k_is)
    (case c16 => k_is)
    (case k16 => k_is)
    (case a17 => k_is)
    (case l17 => k_is)
    (case c17 => k_is)
    (case k17 => k_is)
    (case a18 => k_is)
    (case l18 => k_is)
    (case c18 => k_is)
    (case k18 => k_is)
    (case a19 => k_is)
    (case l19 => k_is)
    (case c19 => k_is)
    (case k19 => k_is)
    (case a20 => k_is)
    (case l20 => k_is)
    (case c20 => k_is)
    (case k20 => k_is)
    (case a21 => k_is)
    (case l21 => k_is)
    (case c21 => k_is)
    (case k21 => k_is)
    (case a22 => k_is)
    (case l22 => k_is)
    (case c22 => k_is)
    (case k22 => k_is)
    (case a23 => k_is)
    (case l23 => k_is)
    (case c23 => k_is)
    (case k23 => k_is)
    (case a24 => k_is)
    (case l24 => k_is)
    (case c24 => k_is)
    (case k24 => k_is)
    (case a25 => k_is)
    (case l25 => k_is)
    (case c25 => k_is)
    (case k25 => k_is)
    (case m_gcd => k_is)
    (case z_divmod => k_is)
    (case z_int => k_is)
    (case z_len => k_is)
    (case z_max => k_is)
    (case z_min => k_is)
    (case z_range => k_is)
    (case z_reversed => k_is)
    (case z_set => k_is)
    (case z_sorted => k_is)
    (case z_tuple => k_is)
    (case c_MOST_FIGURES => k_is)
    (case c_PRIMES => k_is)
    (case k_PRIMES => k_is)
    (case ea_BadRow => k_is)
    (case ep_BadRow => k_exc)
    (case ek_BadRow => k_is)
    (case eb_BadRow => k_is)
    (case ety_BadRow => k_is)
    (case ea_NoSide => k_is)
    (case ex_NoSide => k_is)
    (case es_NoSide => k_is)
    (case eg_NoSide => k_is)
    (case eh_NoSide => k_is)
    (case ef_NoSide => k_is)
    (case ei_NoSide => k_is)
    (case et_NoSide => k_is)
    (case ek_NoSide => k_is)
    (case eb_NoSide => k_is)
    (case ety_NoSide => k_is)
    (case ed_NoSide => k_is)
    (case el_NoSide => k_is)
    (case ec_NoSide => k_is)
    (case eo_NoSide => k_is)
    (case ev_NoSide => rfl)
    (case ew_NoSide => first | rfl | decide +kernel)
    (case ell_NoSide => k_is)
    (case eu_NoSide => first | k_is | ks_is)
    (case ev2_NoSide => k_is)
    (case em_NoSide => k_is)
    (case er_NoSide => exact ⟨_, fun _ => rfl⟩)
    (case ea_NotTurned => k_is)
    (case ex_NotTurned => k_is)
    (case es_NotTurned => k_is)
    (case eg_NotTurned => k_is)
    (case eh_NotTurned => k_is)
    (case ef_NotTurned => k_is)
    (case ei_NotTurned => k_is)
    (case et_NotTurned => k_is)
    (case ek_NotTurned => k_is)
    (case eb_NotTurned => k_is)
    (case ety_NotTurned => k_is)
    (case ed_NotTurned => k_is)
    (case el_NotTurned => k_is)
    (case ec_NotTurned => k_is)
    (case eo_NotTurned => k_is)
    (case ev_NotTurned => rfl)
    (case ew_NotTurned => first | rfl | decide +kernel)
    (case ell_NotTurned => k_is)
    (case eu_NotTurned => first | k_is | ks_is)
    (case ev2_NotTurned => k_is)
    (case em_NotTurned => k_is)
    (case er_NotTurned => exact ⟨_, fun _ => rfl⟩)
    (case x_lc => k_is)
    (case x_vP => rfl)
    (case x_nP => first | rfl | kernel_rfl)
    (case x_SS => kts_exm)
    (case x_TS => kts_exm)
    (case x_TT => kts_exm)
    (case e_sup => k_is)
    (case e_any => k_is)
    (case e_top => decide +kernel)
    (case s_tree => rfl)
    (case s_aud => k_is)
    (case s_dic => k_is)

end
