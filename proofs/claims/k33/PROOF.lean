import PyProof.Rows.All
import Wide.All
import OpenK.AllK
import Wide.FinOn
import HandS.ForMost
import HandS.Wide
import HandS.Rev
import HandS.Style
import HandS.TupAny
import HandS.IsInst
import HandS.Flow
import KE.KTupSum
import KE.DataMinMax
import HandS.Steps
import HandS.Gcd
import Flt.RightSqrt
import KE.KExcSuper
import HandS.Exc
import HandS.ExcField
import HandS.ExcSuper
import HandS.TryMany
import HandS.WideMore
import HandS.ExcOwn
import HandS.Lambda
import HandS.Words
import HandS.Dict
import HandS.SetBool
import HandS.EndTab
import KE.KNest
import HandS.Codes
import HandS.Deep
import HandS.TupMul
import HandS.WordsExc
import KE.RegKTryMore
import PySem.Challenge.RW_sixtyfold_k33_whole_near_sides_figure_by
set_option Elab.async false
set_option linter.all false
set_option maxRecDepth 100000
namespace L2
open PySem PySem.Spec PyProof.Rows
/-! ### min, max, sum of a tuple of whole numbers: the walk of a tuple in the place of a list's -/
section
variable {prog : Program} {w : World} {A : Around} {E : Value → Shared → Prop} {s : Shared} {l : Addr}
/-- the walk over a tuple of ints as min and max ask for it: where its iterator stands, and that what stood stands behind it -/
theorem tup_walk {xs : Array (Int × Tok)} (hh : A.handled = none) (hl : s.heap.IsTuple l (intItems xs)) {R : Value → Shared → Prop}
    (k : ∀ s₂ : Shared, s₂ = { s with heap := s.heap.push { cls := .type "tuple_iterator", data := .fields #[.ref l, .int 0 0] } } → Walks prog w A s.heap.objs.size [s.heap.objs.size, l] [s.heap.objs.size] (intItems xs).size (fun i v => (intItems xs)[i]? = some v) (fun i h => h.IsTupleIter s.heap.objs.size l i ∧ h.IsTuple l (intItems xs)) →
      (s₂.heap.IsTupleIter s.heap.objs.size l 0 ∧ s₂.heap.IsTuple l (intItems xs)) → (∀ b ∈ [s.heap.objs.size, l], b < s₂.heap.objs.size) → (∀ (h' : Heap), (∀ b o, b ∉ [s.heap.objs.size] → s₂.heap.get? b = some o → h'.get? b = some o) → ∀ b o, s.heap.get? b = some o → h'.get? b = some o) → R (.ref s.heap.objs.size) s₂) :
    wpAny (model prog w) A (pyIter (.ref l)) R E s := by
  have hlt : l < s.heap.objs.size := hl.elim fun _ z => Heap.lt_size z.1
  refine wpAny_pyIter_tuple hl (k _ rfl (Walks.tuple hh _ l (Nat.ne_of_lt hlt) (intItems xs)) ⟨⟨_, Heap.get?_push_size _ rfl, rfl, rfl⟩, hl.push _⟩ (fun b hb => ?_) fun h' hk b o e => ?_)
  · rw [Heap.size_push]; simp only [List.mem_cons, List.not_mem_nil, or_false] at hb; exact hb.elim (fun z => z ▸ Nat.lt_succ_self _) (fun z => z ▸ Nat.lt_succ_of_lt hlt)
  · exact hk b o (fun z => Nat.lt_irrefl _ ((List.mem_singleton.mp z) ▸ Heap.lt_size e)) (Heap.get?_push_of_some _ e)
theorem intsT_of {its : List Value} {ns : List Int} (hi : IntsAre its ns) : ∃ xs : Array (Int × Tok), its.toArray = intItems xs ∧ ns = (xs.toList.map (·.1)) := by
  obtain ⟨xs, e⟩ := hi.allInts.items; refine ⟨xs, e, ?_⟩; rw [← nums_intItems, ← e]; exact hi.numsOf.symm
theorem sum_rawT {its : List Value} {ns : List Int} {Q : Value → Shared → Prop} (hh : A.handled = none) (hl : s.heap.IsTuple l its.toArray) (hi : IntsAre its ns)
    (h : ∀ h' tk t', (∀ b o, s.heap.get? b = some o → h'.get? b = some o) → Q (.int ns.sum t') { s with heap := h', toks := tk }) :
      wpAny (model prog w) A (call (.builtin "sum") [.ref l]) Q E s := by -- of a tuple
  obtain ⟨xs, e, rfl⟩ := intsT_of hi; rw [e] at hl
  exact PySem.W.ktm_sumG hh hl fun h' tk t' hk => by rw [preSum_eq, List.take_of_length_le (by simp)]; exact h h' tk t' hk
theorem max_rawT {its : List Value} {ns : List Int} {Q : Value → Shared → Prop} (hh : A.handled = none) (hl : s.heap.IsTuple l its.toArray) (hi : IntsAre its ns) (hne : 0 < ns.length)
    (h : ∀ h' tk M t', (∀ b o, s.heap.get? b = some o → h'.get? b = some o) → M ∈ ns → (∀ a, a ∈ ns → a ≤ M) → Q (.int M t') { s with heap := h', toks := tk }) :
      wpAny (model prog w) A (call (.builtin "max") [.ref l]) Q E s := by -- of a tuple
  obtain ⟨xs, e, rfl⟩ := intsT_of hi; rw [e] at hl
  have hsz : 0 < xs.size := by rw [List.length_map, Array.length_toList] at hne; exact hne
  obtain ⟨h1, h2⟩ := argBest_gt (numAt xs) (xs.size - 1)
  refine call_max_walk (tup_walk (A := A.in1) hh hl fun s₂ e2 W st hfp hk => ⟨_, _, _, _, _, _, _, rfl, W, st, hfp, by simpa [intItems] using hsz, CmpOf.ints_gt (numAt xs) (fun _ _ => intItems_at), fun v h' tk hP hold => ?_⟩)
  subst e2; obtain ⟨t, rfl⟩ := intItems_at hP; have e3 : (intItems xs).size = xs.size := by simp [intItems]
  rw [e3, numAt_eq]; refine h h' tk _ t (hk h' hold) (PySem.getD_mem (by rw [List.length_map, Array.length_toList]; omega)) fun a ha => ?_
  obtain ⟨j, hj, rfl⟩ := mem_getD ha; have z := h2 j (by rw [List.length_map, Array.length_toList] at hj; omega); rw [numAt_eq, numAt_eq] at z; exact z
theorem min_rawT {its : List Value} {ns : List Int} {Q : Value → Shared → Prop} (hh : A.handled = none) (hl : s.heap.IsTuple l its.toArray) (hi : IntsAre its ns) (hne : 0 < ns.length)
    (h : ∀ h' tk M t', (∀ b o, s.heap.get? b = some o → h'.get? b = some o) → M ∈ ns → (∀ a, a ∈ ns → M ≤ a) → Q (.int M t') { s with heap := h', toks := tk }) :
      wpAny (model prog w) A (call (.builtin "min") [.ref l]) Q E s := by -- of a tuple
  obtain ⟨xs, e, rfl⟩ := intsT_of hi; rw [e] at hl
  have hsz : 0 < xs.size := by rw [List.length_map, Array.length_toList] at hne; exact hne
  obtain ⟨h1, h2⟩ := argBest_lt (numAt xs) (xs.size - 1)
  refine call_min_walk (tup_walk (A := A.in1) hh hl fun s₂ e2 W st hfp hk => ⟨_, _, _, _, _, _, _, rfl, W, st, hfp, by simpa [intItems] using hsz, CmpOf.ints_lt (numAt xs) (fun _ _ => intItems_at), fun v h' tk hP hold => ?_⟩)
  subst e2; obtain ⟨t, rfl⟩ := intItems_at hP; have e3 : (intItems xs).size = xs.size := by simp [intItems]
  rw [e3, numAt_eq]; refine h h' tk _ t (hk h' hold) (PySem.getD_mem (by rw [List.length_map, Array.length_toList]; omega)) fun a ha => ?_
  obtain ⟨j, hj, rfl⟩ := mem_getD ha; have z := h2 j (by rw [List.length_map, Array.length_toList] at hj; omega); rw [numAt_eq, numAt_eq] at z; exact z
end
section
variable {X : Cx}
def rSumT (K : PySem.W.Frag) : List V → Hp → VK → Prop := fun vs H Q => ∃ (a : Addr) (ns : List Int), vs = [V.ref a] ∧ SqT K H a (ns.map V.int) ∧ Q (.int ns.sum) H
def rMaxT (K : PySem.W.Frag) : List V → Hp → VK → Prop := fun vs H Q => ∃ (a : Addr) (ns : List Int), vs = [V.ref a] ∧ SqT K H a (ns.map V.int) ∧ 0 < ns.length ∧ ∀ m, m ∈ ns → (∀ y, y ∈ ns → y ≤ m) → Q (.int m) H
def rMinT (K : PySem.W.Frag) : List V → Hp → VK → Prop := fun vs H Q => ∃ (a : Addr) (ns : List Int), vs = [V.ref a] ∧ SqT K H a (ns.map V.int) ∧ 0 < ns.length ∧ ∀ m, m ∈ ns → (∀ y, y ∈ ns → m ≤ y) → Q (.int m) H
theorem cr_sumT (hc : X.calm = true) : CallR X (.builtin "sum") (rSumT X.K) := fun pins s σ H vs us Q I r ⟨a, ns, e, hs, q⟩ => by
  subst e; obtain ⟨its, rv, hl, _⟩ := I.tuple hs; rw [Vals.ref1 r]
  exact sum_rawT (I.ok.hd hc) hl rv.ints fun h' tk t' hk => ⟨.int _, H, I.kept hk, ⟨_, rfl⟩, q⟩
theorem cr_maxT (hc : X.calm = true) : CallR X (.builtin "max") (rMaxT X.K) := fun pins s σ H vs us Q I r ⟨a, ns, e, hs, hne, q⟩ => by
  subst e; obtain ⟨its, rv, hl, _⟩ := I.tuple hs; rw [Vals.ref1 r]
  exact max_rawT (I.ok.hd hc) hl rv.ints hne fun h' tk m t' hk h1 h2 => ⟨.int _, H, I.kept hk, ⟨_, rfl⟩, q m h1 h2⟩
theorem cr_minT (hc : X.calm = true) : CallR X (.builtin "min") (rMinT X.K) := fun pins s σ H vs us Q I r ⟨a, ns, e, hs, hne, q⟩ => by
  subst e; obtain ⟨its, rv, hl, _⟩ := I.tuple hs; rw [Vals.ref1 r]
  exact min_rawT (I.ok.hd hc) hl rv.ints hne fun h' tk m t' hk h1 h2 => ⟨.int _, H, I.kept hk, ⟨_, rfl⟩, q m h1 h2⟩
/-- x op= e at a name -/
theorem ip_of {op : Operator} {r : R2} (h : OpR X (inplaceOp op) r) : PIp X op r := h
theorem hu64 {k : Nat} {A : Around} (hr : Room k A) : A.units + 64 < cLine := by have := hr.un; omega
theorem hu65 {k : Nat} {A : Around} (hr : Room k A) : A.units + 65 < cLine := by have := hr.un; omega
end
end L2
/-! ### what is new, told by what stood: rules whose readings speak of an extension -/
namespace Sx
open PySem L2 RT PySem.Spec PyProof.Rows
theorem same_new {H : Hp} {p : Addr} {o : HO} (h : H p = none) : Same H (upd H p o) := fun b u e => by
  rw [upd_ne (ne_of_none e h)]; exact e
theorem sqt {K : PySem.W.Frag} {H : Hp} {a : Addr} {xs : List V} (h : H a = some (.tup xs)) : SqT K H a xs := .inl (.inl h)
theorem sql {K : PySem.W.Frag} {H : Hp} {a : Addr} {xs : List V} (h : H a = some (.lst xs)) : SqL K H a xs := .inl (.inl h)
section
variable {X : Cx} {e : Expr} {es : List Expr} {t t' : TE} {ta ta' : TA} {pos : Pos}
theorem PE.imp (h : PE X e t) (i : ∀ σ H Q, t' σ H Q → t σ H Q) : PE X e t' := ⟨fun pins s σ H Q I q => h.run pins s σ H Q I (i σ H Q q)⟩
def wkE (t : TE) : TE := fun σ H Q => ∃ A : VK, t σ H A ∧ ∀ v H1, A v H1 → Q v H1
def wkA (t : TA) : TA := fun σ H Q => ∃ A : List V → Hp → Prop, t σ H A ∧ ∀ v H1, A v H1 → Q v H1
theorem PE.weak (h : PE X e t) : PE X e (wkE t) := ⟨fun pins s σ H Q I q => by
  obtain ⟨A, q1, q2⟩ := q
  exact thn (h.run pins s σ H A I q1) fun u s' ⟨v, H1, I1, r, z⟩ => ⟨v, H1, I1, r, q2 v H1 z⟩⟩
theorem PA.weak (h : PA X es ta) : PA X es (wkA ta) := ⟨fun p pins s σ H Q I q => by
  obtain ⟨A, q1, q2⟩ := q
  exact thn (h.run p pins s σ H A I q1) fun u s' ⟨v, H1, I1, r, z⟩ => ⟨v, H1, I1, r, q2 v H1 z⟩⟩
/-- a tuple display -/
def tTupN (K : PySem.W.Frag) (t : TA) : TE := fun σ H Q => t σ H fun xs H1 => xs.length ≤ sizeLine ∧ ∀ p H2, Same H1 H2 → SqT K H2 p xs → Q (.ref p) H2
theorem pe_tupN {x1} (h : PA X es ta) : PE X (.Tuple es x1 pos) (tTupN X.K ta) := PE.imp (pe_tup (PA.weak h)) fun σ H Q q =>
  ⟨_, q, fun xs H1 ⟨hz, k⟩ => ⟨hz, fun p hp => k p _ (same_new hp) (sqt upd_same)⟩⟩
def tLstN (t : TA) : TE := fun σ H Q => t σ H fun xs H1 => xs.length ≤ sizeLine ∧ ∀ p H2, H1 p = none → Same H1 H2 → H2 p = some (.lst xs) → Q (.ref p) H2
theorem pe_lstN (h : PA X es ta) : PE X (.List es pos) (tLstN ta) := PE.imp (pe_lst (PA.weak h)) fun σ H Q q =>
  ⟨_, q, fun xs H1 ⟨hz, k⟩ => ⟨hz, fun p hp => k p _ hp (same_new hp) upd_same⟩⟩
def tTupRevN (K : PySem.W.Frag) (t : TE) : TE := fun σ H Q => t σ H fun v H1 => ∃ (a : Addr) (xs : List V), v = .ref a ∧ SqL K H1 a xs ∧ ∀ p H2, Same H1 H2 → SqT K H2 p xs.reverse → Q (.ref p) H2
theorem pe_tupRevN {p p2 pos pos2 : Pos} (hc : X.calm = true) (hg : Gl X "tuple") (hm : X.mg "tuple" = none) (hg2 : Gl X "reversed") (hm2 : X.mg "reversed" = none) (he : PE X e t)
    (hs : starEach [e] X.env = (false, eval e X.env) :: starEach [] X.env := by rfl) (hs2 : starEach [.Call (.Name "reversed" p2) [e] [] pos2] X.env = (false, eval (.Call (.Name "reversed" p2) [e] [] pos2) X.env) :: starEach [] X.env := by rfl) : PE X (.Call (.Name "tuple" p) [.Call (.Name "reversed" p2) [e] [] pos2] [] pos) (tTupRevN X.K t) := PE.imp (pe_tupRev hc hg hm hg2 hm2 (PE.weak he) hs hs2) fun σ H Q q =>
  ⟨_, q, fun v H1 ⟨a, xs, e, h, k⟩ => ⟨a, xs, e, h, fun p hp => k p _ (same_new hp) (sqt upd_same)⟩⟩
def tRevLN (K : PySem.W.Frag) (t : TE) : TE := fun σ H Q => t σ H fun v H1 => ∃ (a : Addr) (xs : List V), v = .ref a ∧ SqL K H1 a xs ∧ ∀ p H2, H1 p = none → Same H1 H2 → H2 p = some (.lst xs.reverse) → Q (.ref p) H2
theorem pe_revLN {k : Nat} {p1 p2 p3 pos : Pos} (he : PE X e t) : PE X (.Subscript e (.Slice none none (some (.UnaryOp .USub (.Constant (.int 1) k p1) p2)) p3) pos) (tRevLN X.K t) := PE.imp (pe_revL (PE.weak he)) fun σ H Q q =>
  ⟨_, q, fun v H1 ⟨a, xs, e, h, k⟩ => ⟨a, xs, e, h, fun p hp => k p _ hp (same_new hp) upd_same⟩⟩
/-! by values -/
def rTupN (K : PySem.W.Frag) : List V → Hp → VK → Prop := fun xs H Q => ∃ p ys, xs = [.ref p] ∧ (SqL K H p ys ∨ SqT K H p ys) ∧ ∀ p H2, Same H H2 → SqT K H2 p ys → Q (.ref p) H2
theorem call_tupN : CallR X (.type "tuple") (rTupN X.K) := fun pins s σ H xs us Q I r h => by
  obtain ⟨p, ys, rfl, hs, k⟩ := h
  refine call_tuple_of pins s σ H _ us Q I r ⟨p, ys, rfl, ?_⟩
  rcases hs with hs | hs
  · exact .inl ⟨hs, fun l hl => k l _ (same_new hl) (sqt upd_same)⟩
  · exact .inr ⟨hs, k p H (Same.refl H) hs⟩
def rListN (K : PySem.W.Frag) : List V → Hp → VK → Prop := fun xs H Q => ∃ p ys, xs = [.ref p] ∧ (SqL K H p ys ∨ SqT K H p ys) ∧ ∀ p H2, H p = none → Same H H2 → H2 p = some (.lst ys) → Q (.ref p) H2
theorem call_listN : CallR X (.type "list") (rListN X.K) := fun pins s σ H xs us Q I r h => by
  obtain ⟨p, ys, rfl, hs, k⟩ := h
  exact call_list_of pins s σ H _ us Q I r ⟨p, ys, rfl, hs, fun l hl => k l _ hl (same_new hl) upd_same⟩
def rCatN (K : PySem.W.Frag) : R2 := fun x y H Q => ∃ a b xs ys, x = .ref a ∧ y = .ref b ∧ SqT K H a xs ∧ SqT K H b ys ∧ xs.length + ys.length ≤ sizeLine ∧ ∀ p H2, Same H H2 → SqT K H2 p (xs ++ ys) → Q (.ref p) H2
theorem op_catN : OpR X (binaryOp .Add) (rCatN X.K) := fun pins s σ H x y v u Q I rx ry h => by
  obtain ⟨a, b, xs, ys, rfl, rfl, ha, hb, hz, k⟩ := h
  refine op_catA pins s σ H _ _ v u Q I rx ry ⟨a, b, xs, ys, rfl, rfl, ha, hb, hz, fun e => ?_, fun _ e => ?_, fun _ _ p hp => k p _ (same_new hp) (sqt upd_same)⟩
  · subst e; exact k b H (Same.refl H) hb
  · subst e; exact k a H (Same.refl H) (by rw [List.append_nil]; exact ha)
def rCatLN (K : PySem.W.Frag) : R2 := fun x y H Q => ∃ a b xs ys, x = .ref a ∧ y = .ref b ∧ H a = some (.lst xs) ∧ H b = some (.lst ys) ∧ xs.length + ys.length ≤ sizeLine ∧ ∀ p H2, H p = none → Same H H2 → H2 p = some (.lst (xs ++ ys)) → Q (.ref p) H2
theorem op_catLN : OpR X (binaryOp .Add) (rCatLN X.K) := fun pins s σ H x y v u Q I rx ry h => by
  obtain ⟨a, b, xs, ys, rfl, rfl, ha, hb, hz, k⟩ := h
  exact op_cat pins s σ H _ _ v u Q I rx ry ⟨a, b, xs, ys, rfl, rfl, ha, hb, hz, fun p hp => k p _ hp (same_new hp) upd_same⟩
theorem cut_whole {xs : List V} {lo hi : Option Int} (h : HT.sIx xs.length 0 lo = 0 ∧ HT.sIx xs.length xs.length hi = xs.length) : cutV xs lo hi = xs := by
  unfold cutV
  rw [h.1, h.2, List.drop_zero, Nat.sub_zero, List.take_length]
def rSlN (K : PySem.W.Frag) : V → Option Int → Option Int → Hp → VK → Prop := fun x lo hi H Q => ∃ a xs, x = .ref a ∧ SqT K H a xs ∧ ∀ p H2, Same H H2 → SqT K H2 p (cutV xs lo hi) → Q (.ref p) H2
theorem sl_tupN : SlR X (rSlN X.K) := fun pins s σ H x v vl vu lo hi sl Q I rx hs pl pu h => by
  obtain ⟨a, xs, rfl, hx, k⟩ := h
  exact sl_tupA pins s σ H _ v vl vu lo hi sl Q I rx hs pl pu ⟨a, xs, rfl, hx, fun e => k a H (Same.refl H) (by rw [cut_whole e]; exact hx), fun _ p hp => k p _ (same_new hp) (sqt upd_same)⟩
def rSlLN (K : PySem.W.Frag) : V → Option Int → Option Int → Hp → VK → Prop := fun x lo hi H Q => ∃ a xs, x = .ref a ∧ SqL K H a xs ∧ ∀ p H2, H p = none → Same H H2 → H2 p = some (.lst (cutV xs lo hi)) → Q (.ref p) H2
theorem sl_listN : SlR X (rSlLN X.K) := fun pins s σ H x v vl vu lo hi sl Q I rx hs pl pu h => by
  obtain ⟨a, xs, rfl, hx, k⟩ := h
  exact sl_list pins s σ H _ v vl vu lo hi sl Q I rx hs pl pu ⟨a, xs, rfl, hx, fun p hp => k p _ hp (same_new hp) upd_same⟩
/-- an item of a list or a tuple -/
def rIxQ (K : PySem.W.Frag) : R2 := fun x y H Q => rIxL K x y H Q ∨ rIxT K x y H Q
theorem ix_seq : IxR X (rIxQ X.K) := fun value slice pins s σ H x y v u Q I rx ry h hs => by
  rcases h with h | h
  · exact ix_list value slice pins s σ H x y v u Q I rx ry h hs
  · exact ix_tup value slice pins s σ H x y v u Q I rx ry h hs
end
end Sx
/-! steps of a reading, one lemma a construct; rows as lists of naturals -/
namespace Sx
open PySem L2 RT
abbrev rAdd : R2 := rI0 fun i j => .int (i + j)
abbrev rSub : R2 := rI0 fun i j => .int (i - j)
abbrev rMul : R2 := rI CMul fun i j => .int (i * j)
abbrev rMulW : R2 := rI CMulW fun i j => .int (i * j)
abbrev rFd : R2 := rI CDiv fun i j => .int (i / j)
abbrev rFdW : R2 := rI CDivW fun i j => .int (i / j)
abbrev rMd : R2 := rI (fun _ j => 0 < j) fun i j => .int (i % j)
abbrev rPw : R2 := rI CPow fun i j => .int (i ^ j.toNat)
abbrev rLt : R2 := rI0 fun i j => .bl (decide (i < j))
abbrev rLe : R2 := rI0 fun i j => .bl (decide (i ≤ j))
abbrev rGt : R2 := rI0 fun i j => .bl (decide (j < i))
abbrev rGe : R2 := rI0 fun i j => .bl (decide (j ≤ i))
abbrev rNeg : V → Hp → VK → Prop := rU fun i => .int (-i)
abbrev rLen (K : PySem.W.Frag) : List V → Hp → VK → Prop := fun xs H Q => ∃ p ys, xs = [.ref p] ∧ (SqL K H p ys ∨ SqT K H p ys) ∧ Q (.int ys.length) H
abbrev rInt1 : List V → Hp → VK → Prop := fun xs H Q => (∃ i, xs = [.int i] ∧ Q (.int i) H) ∨ ∃ k, xs = [.bl k] ∧ Q (.int (if k then 1 else 0)) H
/-- a whole number not below 0 -/
def natV (n : Nat) : V := .int (n : Int)
def rowV (r : List Nat) : List V := r.map natV

/-! ### heaps -/
/-- all but d as it was -/
def SB (d : Addr) (H H' : Hp) : Prop := ∀ b o, b ≠ d → H b = some o → H' b = some o
theorem Same.sb {d : Addr} {H H' : Hp} (h : Same H H') : SB d H H' := fun b o _ e => h b o e
theorem SB.refl (d : Addr) (H : Hp) : SB d H H := fun _ _ _ e => e
theorem SB.trans {d : Addr} {H H1 H2 : Hp} (a : SB d H H1) (b : SB d H1 H2) : SB d H H2 := fun c o n e => b c o n (a c o n e)
theorem SB.upd (d : Addr) (H : Hp) (o : HO) : SB d H (upd H d o) := fun b u n e => by rw [upd_ne n]; exact e
/-- what H does not know may change -/
theorem Same.mut {H H' : Hp} {p : Addr} {o : HO} (e : Same H H') (h : H p = none) : Same H (upd H' p o) := fun a u ha => by
  rw [upd_ne (ne_of_none ha h)]; exact e a u ha
theorem SB.mut {d : Addr} {H H' : Hp} {p : Addr} {o : HO} (e : SB d H H') (h : H p = none) : SB d H (L2.upd H' p o) := fun a u n ha => by
  rw [upd_ne (ne_of_none ha h)]; exact e a u n ha
theorem Same.seqT {K : PySem.W.Frag} {H H' : Hp} {a : Addr} {xs : List V} (e : Same H H') (h : SqT K H a xs) : SqT K H' a xs := by
  rcases h with (h | ⟨o, h⟩) | h
  · exact .inl (.inl (e _ _ h))
  · exact .inl (.inr ⟨o, e _ _ h⟩)
  · exact .inr h
theorem SB.seqT {K : PySem.W.Frag} {d : Addr} {H H' : Hp} {a : Addr} {xs ys : List V} (e : SB d H H') (hd : H d = some (.lst ys)) (h : SqT K H a xs) : SqT K H' a xs := by
  rcases h with (h | ⟨o, h⟩) | h
  · exact .inl (.inl (e _ _ (by rintro rfl; rw [hd] at h; cases h) h))
  · exact .inl (.inr ⟨o, e _ _ (by rintro rfl; rw [hd] at h; cases h) h⟩)
  · exact .inr h
theorem SB.seqL {K : PySem.W.Frag} {d : Addr} {H H' : Hp} {a : Addr} {xs : List V} (e : SB d H H') (hd : a ≠ d) (h : SqL K H a xs) : SqL K H' a xs := by
  rcases h with (h | ⟨o, h⟩) | h
  · exact .inl (.inl (e _ _ hd h))
  · exact .inl (.inr ⟨o, e _ _ hd h⟩)
  · exact .inr h
/-- what stood ahead of a new d stands whatever d becomes -/
theorem keep_new {K : PySem.W.Frag} {d : Addr} {H H1 H2 : Hp} {a : Addr} {xs : List V} (h : SqL K H a xs) (nd : H d = none) (s : Same H H1) (s2 : SB d H1 H2) : SqL K H2 a xs := by
  rcases h with (h | ⟨o, h⟩) | h
  · exact .inl (.inl (s2 _ _ (ne_of_none h nd) (s _ _ h)))
  · exact .inl (.inr ⟨o, s2 _ _ (ne_of_none h nd) (s _ _ h)⟩)
  · exact .inr h
/-- a list changed: tuples stand -/
theorem mut_seqT {K : PySem.W.Frag} {H : Hp} {p a : Addr} {ys : List V} {o : HO} {xs : List V} (hp : H p = some (.lst ys)) (h : SqT K H a xs) : SqT K (upd H p o) a xs := SB.seqT (SB.upd p H o) hp h

/-! ### steps -/
section
variable {K : PySem.W.Frag} {σ : L2.St} {H : Hp} {Q : VK} {D : Ends} {ta tb tc te : TE} {tt tu : TT} {r r' : R2} {t u : TS} {v x y : V} {g : TG} {sp : Sp} {dvs : List V} {E : XK} {args : TA} {QB : Bool → Hp → Prop} {QA : List V → Hp → Prop} {QS : L2.St → Hp → Prop}
theorem i_var {i : Nat} (h : σ[i]? = some (some v)) (q : Q v H) : tVar i σ H Q := ⟨v, h, q⟩
theorem i_c (q : Q v H) : tC v σ H Q := q
theorem i_op (q : ta σ H fun x H1 => tb σ H1 fun y H2 => r x y H2 Q) : tOp r ta tb σ H Q := q
theorem i_un {ru : V → Hp → VK → Prop} (q : ta σ H fun x H1 => ru x H1 Q) : tUn ru ta σ H Q := q
theorem i_chain (q : ta σ H fun x H1 => tb σ H1 fun y H2 => r x y H2 fun z H3 => ∃ k, z = .bl k ∧ (if k = true then tc σ H3 fun w' H4 => r' y w' H4 Q else Q (.bl false) H3)) : tChain r r' ta tb tc σ H Q := q
theorem i_seq (q : t { D with nx := u D } σ H) : tSeq t u D σ H := q
theorem i_asg (q : te σ H fun x H1 => g x σ H1 D.nx) : tAsg te g D σ H := q
theorem i_gname {i : Nat} (q : QS (σ.set i (some v)) H) : gName i v σ H QS := q
theorem i_ret (q : te σ H D.rt) : tRet te D σ H := q
theorem i_drop (q : te σ H fun _ H1 => D.nx σ H1) : tDrop te D σ H := q
theorem i_next (q : D.nx σ H) : tNext D σ H := q
theorem i_ifS (q : tt σ H fun b H1 => if b = true then t D σ H1 else u D σ H1) : tIfS tt t u D σ H := q
theorem i_test (q : te σ H fun x H' => ∃ k, x = .bl k ∧ QB k H') : tTest te σ H QB := q
theorem i_tB (q : te σ H fun x H' => ∃ k, x = .bl k ∧ QB k H') : tB te σ H QB := q
theorem i_and (q : tt σ H fun c H1 => if c = true then tu σ H1 QB else QB false H1) : tAnd tt tu σ H QB := q
theorem i_or (q : tt σ H fun c H1 => if c = true then QB true H1 else tu σ H1 QB) : tOr tt tu σ H QB := q
theorem i_not (q : tt σ H fun c H1 => QB (!c) H1) : tNot tt σ H QB := q
theorem i_andV (q : ta σ H fun x H1 => ∃ c, x = .bl c ∧ if c = true then tb σ H1 Q else Q (.bl false) H1) : tAndV ta tb σ H Q := q
theorem i_orV (q : ta σ H fun x H1 => ∃ c, x = .bl c ∧ if c = true then Q (.bl true) H1 else tb σ H1 Q) : tOrV ta tb σ H Q := q
theorem i_notV (q : ta σ H fun x H1 => ∃ c, x = .bl c ∧ Q (.bl (!c)) H1) : tNotV ta σ H Q := q
theorem i_if (q : tt σ H fun c H1 => if c = true then ta σ H1 Q else tb σ H1 Q) : tIf tt ta tb σ H Q := q
theorem i_call (q : args σ H fun vs H1 => sp (vs ++ dvs) H1 Q E) : tCall sp dvs E args σ H Q := q
theorem i_cb {rc : List V → Hp → VK → Prop} (q : args σ H fun vs H1 => rc vs H1 Q) : tCB rc args σ H Q := q
theorem i_nil (q : QA [] H) : tNil σ H QA := q
theorem i_cons {ar : TA} (q : ta σ H fun x H1 => ar σ H1 fun xs H2 => QA (x :: xs) H2) : tCons ta ar σ H QA := q
theorem i_tup (q : args σ H fun xs H1 => xs.length ≤ sizeLine ∧ ∀ p H2, Same H1 H2 → SqT K H2 p xs → Q (.ref p) H2) : tTupN K args σ H Q := q
theorem i_lst (q : args σ H fun xs H1 => xs.length ≤ sizeLine ∧ ∀ p H2, H1 p = none → Same H1 H2 → H2 p = some (.lst xs) → Q (.ref p) H2) : tLstN args σ H Q := q
theorem i_bm {T : String} {rm : V → List V → Hp → VK → Prop} (q : te σ H fun x H1 => tyV K T x H1 ∧ args σ H1 fun xs H2 => rm x xs H2 Q) : tBM K T rm te args σ H Q := q
theorem i_bm0 {T : String} {rm : V → List V → Hp → VK → Prop} (q : te σ H fun x H1 => tyV K T x H1 ∧ rm x [] H1 Q) : tBM0 K T rm te σ H Q := q
theorem i_aug {i : Nat} {ti : TIp} (h : σ[i]? = some (some x)) (q : te σ H fun y H1 => ti x y H1 fun z H2 => D.nx (σ.set i (some z)) H2) : tAug i te ti D σ H := ⟨x, h, q⟩
theorem i_sl {rs : V → Option Int → Option Int → Hp → VK → Prop} {tl th : TO} (q : te σ H fun x H1 => tl σ H1 fun l H2 => th σ H2 fun u H3 => rs x l u H3 Q) : tSl rs te tl th σ H Q := q
theorem i_nopart {QO : Option Int → Hp → Prop} (q : QO none H) : tNoPart σ H QO := q
theorem i_part {QO : Option Int → Hp → Prop} (q : te σ H fun x H1 => ∃ i, x = .int i ∧ QO (some i) H1) : tPart te σ H QO := q
theorem i_exbl {P : Bool → Prop} {c : Bool} (q : P c) : ∃ k, V.bl c = V.bl k ∧ P k := ⟨c, rfl, q⟩
theorem i_exint {P : Int → Prop} {c : Int} (q : P c) : ∃ k, V.int c = V.int k ∧ P k := ⟨c, rfl, q⟩
theorem i_exnat {P : Int → Prop} {c : Nat} (q : P (c : Int)) : ∃ k, natV c = V.int k ∧ P k := ⟨c, rfl, q⟩
theorem i_gsub {to ti : TE} {ts : TSet} (q : to σ H fun o H1 => ti σ H1 fun i H2 => ts o i v H2 fun H3 => QS σ H3) : gSub to ti ts v σ H QS := q
theorem i_iteT {A B : Prop} (h : A) : if true = true then A else B := by rw [if_pos rfl]; exact h
theorem i_iteF {A B : Prop} (h : B) : if false = true then A else B := by rw [if_neg Bool.false_ne_true]; exact h
theorem i_iteNT {A B : Prop} (h : B) : if (!true) = true then A else B := i_iteF h
theorem i_iteNF {A B : Prop} (h : A) : if (!false) = true then A else B := i_iteT h
theorem i_ite {c A B : Prop} [Decidable c] (h1 : c → A) (h2 : ¬ c → B) : if decide c = true then A else B := by
  by_cases h : c
  · rw [decide_eq_true h]; exact i_iteT (h1 h)
  · rw [decide_eq_false h]; exact i_iteF (h2 h)
theorem i_iteN {c A B : Prop} [Decidable c] (h1 : ¬ c → A) (h2 : c → B) : if (!decide c) = true then A else B := by
  by_cases h : c
  · rw [decide_eq_true h]; exact i_iteF (h2 h)
  · rw [decide_eq_false h]; exact i_iteT (h1 h)
theorem i_yes {c A B : Prop} [Decidable c] (h : c) (h1 : A) : if decide c = true then A else B := by rw [decide_eq_true h]; exact i_iteT h1
theorem i_nay {c A B : Prop} [Decidable c] (h : ¬ c) (h1 : B) : if decide c = true then A else B := by rw [decide_eq_false h]; exact i_iteF h1
theorem i_yesN {c A B : Prop} [Decidable c] (h : ¬ c) (h1 : A) : if (!decide c) = true then A else B := by rw [decide_eq_false h]; exact i_iteT h1
theorem i_nayN {c A B : Prop} [Decidable c] (h : c) (h1 : B) : if (!decide c) = true then A else B := by rw [decide_eq_true h]; exact i_iteF h1
/-! numbers -/
variable {a b : Nat} {i j : Int}
theorem i_addN (q : Q (natV (a + b)) H) : rAdd (natV a) (natV b) H Q := ⟨a, b, rfl, rfl, q⟩
theorem i_subN (h : b ≤ a) (q : Q (natV (a - b)) H) : rSub (natV a) (natV b) H Q := ⟨a, b, rfl, rfl, by
  have e : (a : Int) - (b : Int) = ((a - b : Nat) : Int) := by omega
  show Q (.int ((a : Int) - (b : Int))) H
  rw [e]; exact q⟩
theorem i_mulN (h : a < 2 ^ 64 ∨ b < 2 ^ 64) (q : Q (natV (a * b)) H) : rMul (natV a) (natV b) H Q := ⟨a, b, rfl, rfl, by
  rcases h with h | h
  · exact .inl ⟨by omega, by omega⟩
  · exact .inr ⟨by omega, by omega⟩, by
  show Q (.int ((a : Int) * (b : Int))) H
  rw [← Int.natCast_mul]; exact q⟩
theorem i_mulWN {m n : Nat} (h1 : a < 2 ^ m) (h2 : b < 2 ^ n) (h3 : 0 < m) (h4 : 0 < n) (h5 : m + n ≤ 1000000) (q : Q (natV (a * b)) H) : rMulW (natV a) (natV b) H Q := ⟨a, b, rfl, rfl, wide_mul (by simpa using h1) (by simpa using h2) h3 h4 h5, by
  show Q (.int ((a : Int) * (b : Int))) H
  rw [← Int.natCast_mul]; exact q⟩
theorem i_fdN (h : 0 < b) (h2 : b < 1073741824) (q : Q (natV (a / b)) H) : rFd (natV a) (natV b) H Q := ⟨a, b, rfl, rfl, ⟨by omega, by omega⟩, by
  show Q (.int ((a : Int) / (b : Int))) H
  rw [← Int.natCast_ediv]; exact q⟩
theorem i_mdN (h : 0 < b) (q : Q (natV (a % b)) H) : rMd (natV a) (natV b) H Q := ⟨a, b, rfl, rfl, by show (0 : Int) < (b : Int); omega, by
  show Q (.int ((a : Int) % (b : Int))) H
  rw [← Int.natCast_emod]; exact q⟩
/-- the rest of any whole number -/
theorem i_mdI (h : 0 < b) (q : ∀ n : Nat, n < b → Q (natV n) H) : rMd (.int i) (natV b) H Q := ⟨i, b, rfl, rfl, by show (0 : Int) < (b : Int); omega, by
  have h1 : 0 ≤ i % (b : Int) := Int.emod_nonneg _ (by omega)
  have h2 : i % (b : Int) < b := Int.emod_lt_of_pos _ (by omega)
  have e : i % (b : Int) = (((i % (b : Int)).toNat : Nat) : Int) := by omega
  show Q (.int (i % (b : Int))) H
  rw [e]; exact q _ (by omega)⟩
theorem i_ltN (q : Q (.bl (decide (a < b))) H) : rLt (natV a) (natV b) H Q := ⟨a, b, rfl, rfl, by
  have e : decide ((a : Int) < (b : Int)) = decide (a < b) := by congr 1; exact propext Int.ofNat_lt
  show Q (.bl (decide ((a : Int) < (b : Int)))) H
  rw [e]; exact q⟩
theorem i_leN (q : Q (.bl (decide (a ≤ b))) H) : rLe (natV a) (natV b) H Q := ⟨a, b, rfl, rfl, by
  have e : decide ((a : Int) ≤ (b : Int)) = decide (a ≤ b) := by congr 1; exact propext Int.ofNat_le
  show Q (.bl (decide ((a : Int) ≤ (b : Int)))) H
  rw [e]; exact q⟩
theorem i_gtN (q : Q (.bl (decide (b < a))) H) : rGt (natV a) (natV b) H Q := ⟨a, b, rfl, rfl, by
  have e : decide ((b : Int) < (a : Int)) = decide (b < a) := by congr 1; exact propext Int.ofNat_lt
  show Q (.bl (decide ((b : Int) < (a : Int)))) H
  rw [e]; exact q⟩
theorem i_geN (q : Q (.bl (decide (b ≤ a))) H) : rGe (natV a) (natV b) H Q := ⟨a, b, rfl, rfl, by
  have e : decide ((b : Int) ≤ (a : Int)) = decide (b ≤ a) := by congr 1; exact propext Int.ofNat_le
  show Q (.bl (decide ((b : Int) ≤ (a : Int)))) H
  rw [e]; exact q⟩
theorem natV_inj {a b : Nat} (h : natV a = natV b) : a = b := by
  have e : (a : Int) = (b : Int) := V.int.inj h
  omega
theorem i_eqN (q : Q (.bl (decide (a = b))) H) : rEq (natV a) (natV b) H Q := ⟨rfl, by
  have e : decide (natV a = natV b) = decide (a = b) := by congr 1; exact propext ⟨natV_inj, fun h => by rw [h]⟩
  rw [e]; exact q⟩
theorem i_neN (q : Q (.bl (!decide (a = b))) H) : rNe (natV a) (natV b) H Q := ⟨rfl, by
  have e : decide (natV a = natV b) = decide (a = b) := by congr 1; exact propext ⟨natV_inj, fun h => by rw [h]⟩
  rw [e]; exact q⟩
theorem i_ltI (q : Q (.bl (decide (i < j))) H) : rLt (.int i) (.int j) H Q := ⟨i, j, rfl, rfl, q⟩
theorem i_leI (q : Q (.bl (decide (i ≤ j))) H) : rLe (.int i) (.int j) H Q := ⟨i, j, rfl, rfl, q⟩
theorem i_gtI (q : Q (.bl (decide (j < i))) H) : rGt (.int i) (.int j) H Q := ⟨i, j, rfl, rfl, q⟩
theorem i_geI (q : Q (.bl (decide (j ≤ i))) H) : rGe (.int i) (.int j) H Q := ⟨i, j, rfl, rfl, q⟩
theorem i_gtIN (q : Q (.bl (decide ((a : Int) < i))) H) : rGt (.int i) (natV a) H Q := ⟨i, a, rfl, rfl, q⟩
theorem i_geIN (q : Q (.bl (decide ((a : Int) ≤ i))) H) : rGe (.int i) (natV a) H Q := ⟨i, a, rfl, rfl, q⟩
theorem i_ltIN (q : Q (.bl (decide (i < (a : Int)))) H) : rLt (.int i) (natV a) H Q := ⟨i, a, rfl, rfl, q⟩
theorem i_pwN (h : a < 2 ^ 64) (h2 : b ≤ 1000000) (q : Q (natV (a ^ b)) H) : rPw (natV a) (natV b) H Q := ⟨a, b, rfl, rfl, ⟨by omega, by omega, by simpa using h⟩, by
  show Q (.int ((a : Int) ^ (b : Int).toNat)) H
  rw [Int.toNat_natCast, ← Int.natCast_pow]; exact q⟩
theorem i_negN (q : Q (.int (-(a : Int))) H) : rNeg (natV a) H Q := ⟨a, rfl, q⟩
theorem i_bit {c : Bool} (q : Q (natV (if c then 1 else 0)) H) : rInt1 [.bl c] H Q := .inr ⟨c, rfl, by cases c <;> exact q⟩
/-! sequences -/
variable {p : Addr} {xs ys : List V}
theorem i_ixL (h : SqL K H p xs) (e : xs[a]? = some v) (q : Q v H) : rIxL K (.ref p) (natV a) H Q := ⟨p, xs, a, v, rfl, rfl, h, atI_nat e, q⟩
theorem i_ixT (h : SqT K H p xs) (e : xs[a]? = some v) (q : Q v H) : rIxT K (.ref p) (natV a) H Q := ⟨p, xs, a, v, rfl, rfl, h, atI_nat e, q⟩
theorem i_ixTlast (h : SqT K H p (xs ++ [v])) (q : Q v H) : rIxT K (.ref p) (.int (-1)) H Q := ⟨p, _, -1, v, rfl, rfl, h, atI_last _ _, q⟩
theorem i_lenL (h : SqL K H p xs) (q : Q (natV xs.length) H) : rLen K [.ref p] H Q := ⟨p, xs, rfl, .inl h, q⟩
theorem i_lenT (h : SqT K H p xs) (q : Q (natV xs.length) H) : rLen K [.ref p] H Q := ⟨p, xs, rfl, .inr h, q⟩
theorem ixN_nat {n k : Nat} (h : k < n) : ixN n (k : Int) = some k := by
  unfold ixN
  rw [if_pos (by omega), if_pos (by omega)]; simp
theorem i_setL {QH : Hp → Prop} (h : H p = some (.lst xs)) (hk : a < xs.length) (q : QH (upd H p (.lst (xs.set a v)))) : rSetL (.ref p) (natV a) v H QH := ⟨p, xs, a, a, rfl, rfl, h, ixN_nat hk, q⟩
theorem i_append (h : H p = some (.lst xs)) (hz : xs.length ≤ 100000) (q : Q .non (upd H p (.lst (xs ++ [v])))) :
    tyV K "list" (.ref p) H ∧ rAppend (.ref p) [v] H Q := ⟨.inl ⟨rfl, xs, sql h⟩, p, xs, v, rfl, rfl, h, Nat.lt_of_le_of_lt hz (by decide), q⟩
theorem i_ty {A : Prop} (h : H p = some (.lst xs)) (q : A) : tyV K "list" (.ref p) H ∧ A := ⟨.inl ⟨rfl, xs, sql h⟩, q⟩
theorem i_app (h : H p = some (.lst xs)) (hz : xs.length ≤ 100000) (q : Q .non (upd H p (.lst (xs ++ [v])))) : rAppend (.ref p) [v] H Q := ⟨p, xs, v, rfl, rfl, h, Nat.lt_of_le_of_lt hz (by decide), q⟩
theorem i_pop0 (h : H p = some (.lst (v :: xs))) (q : Q v (upd H p (.lst xs))) : rPopAt (.ref p) [natV 0] H Q :=
  ⟨p, v :: xs, 0, 0, v, rfl, rfl, h, by decide, by decide, by
    show seqIndex? 0 (xs.length + 1) = some 0
    have := (ixN_seq (n := xs.length + 1) (i := 0) (j := 0) (by unfold ixN; rw [if_pos (by decide), if_pos (by omega)]; rfl)).1
    exact this, rfl, q⟩
theorem szl {n : Nat} (h : n ≤ 100000) : n ≤ sizeLine := Nat.le_trans h (by decide)
theorem i_tupOfL (h : SqL K H p ys) (q : ∀ p H2, Same H H2 → SqT K H2 p ys → Q (.ref p) H2) : rTupN K [.ref p] H Q := ⟨p, ys, rfl, .inl h, q⟩
theorem i_tupOfT (h : SqT K H p ys) (q : ∀ p H2, Same H H2 → SqT K H2 p ys → Q (.ref p) H2) : rTupN K [.ref p] H Q := ⟨p, ys, rfl, .inr h, q⟩
theorem i_listOfL (h : SqL K H p ys) (q : ∀ p H2, H p = none → Same H H2 → H2 p = some (.lst ys) → Q (.ref p) H2) : rListN K [.ref p] H Q := ⟨p, ys, rfl, .inl h, q⟩
theorem i_listOfT (h : SqT K H p ys) (q : ∀ p H2, H p = none → Same H H2 → H2 p = some (.lst ys) → Q (.ref p) H2) : rListN K [.ref p] H Q := ⟨p, ys, rfl, .inr h, q⟩
theorem i_cat {p2 : Addr} (h : SqT K H p xs) (h2 : SqT K H p2 ys) (hz : xs.length + ys.length ≤ 100000) (q : ∀ p H2, Same H H2 → SqT K H2 p (xs ++ ys) → Q (.ref p) H2) : rCatN K (.ref p) (.ref p2) H Q := ⟨p, p2, xs, ys, rfl, rfl, h, h2, szl hz, q⟩
theorem i_catL {p2 : Addr} (h : H p = some (.lst xs)) (h2 : H p2 = some (.lst ys)) (hz : xs.length + ys.length ≤ 100000) (q : ∀ p H2, H p = none → Same H H2 → H2 p = some (.lst (xs ++ ys)) → Q (.ref p) H2) : rCatLN K (.ref p) (.ref p2) H Q := ⟨p, p2, xs, ys, rfl, rfl, h, h2, szl hz, q⟩
theorem i_slT {lo hi : Option Int} (h : SqT K H p xs) (q : ∀ p H2, Same H H2 → SqT K H2 p (cutV xs lo hi) → Q (.ref p) H2) : rSlN K (.ref p) lo hi H Q := ⟨p, xs, rfl, h, q⟩
theorem i_slL {lo hi : Option Int} (h : SqL K H p xs) (q : ∀ p H2, H p = none → Same H H2 → H2 p = some (.lst (cutV xs lo hi)) → Q (.ref p) H2) : rSlLN K (.ref p) lo hi H Q := ⟨p, xs, rfl, h, q⟩
theorem cutV_to {n : Nat} : cutV xs none (some (n : Int)) = xs.take n := by
  unfold cutV
  rw [HT.sIx_none, HT.sIx_nat, List.drop_zero, Nat.sub_zero]
  by_cases h : n ≤ xs.length
  · rw [Nat.min_eq_left h]
  · rw [Nat.min_eq_right (by omega), List.take_length, List.take_of_length_le (by omega)]
theorem cutV_from {n : Nat} : cutV xs (some (n : Int)) none = xs.drop n := by
  unfold cutV
  rw [HT.sIx_none, HT.sIx_nat]
  by_cases h : n ≤ xs.length
  · rw [Nat.min_eq_left h, List.take_of_length_le (by rw [List.length_drop]; omega)]
  · rw [Nat.min_eq_right (by omega), List.drop_length, List.drop_of_length_le (by omega), List.take_nil]
end

/-! loops -/
section
variable {K : PySem.W.Frag} {σ : L2.St} {H : Hp} {D : Ends} {tb : TS} {g : TG} {c : TT}
theorem i_for {wi : TI} (q : wi σ H fun J H1 => ∃ W : Nat → Nat → L2.St → Hp → Prop, (∃ m, W 0 m σ H1) ∧ ∀ i m σ H, W i m σ H →
    (J.stop i H ∧ D.nx σ H) ∨ (J.go i H ∧ ∃ N : L2.St → Hp → Prop, (∀ σ' H', N σ' H' → ∃ m', m' < m ∧ W (i + 1) m' σ' H') ∧ ∀ x H', J.yld i H x H' → g x σ H' fun σ2 H2 => tb { D with nx := N, ct := N, bk := D.nx } σ2 H2)) : tFor wi g tb D σ H := q
theorem i_iTup {tl : TE} {R : It → Hp → Prop} (q : tl σ H fun x H1 => ∃ a, x = .ref a ∧ (∃ xs, SqT K H1 a xs) ∧ R (Itt K a) H1) : iTup K tl σ H R := q
theorem i_iList {tl : TE} {R : It → Hp → Prop} (q : tl σ H fun x H1 => ∃ a, x = .ref a ∧ (∃ xs, SqL K H1 a xs) ∧ R (Itl K a) H1) : iList K tl σ H R := q
theorem i_iRng1 {ta : TA} {R : It → Hp → Prop} (q : ta σ H fun vs H1 => ∃ j : Int, vs = [.int j] ∧ -(2 ^ 62) ≤ j ∧ j < 2 ^ 62 ∧ R (Itr 0 j.toNat) H1) : iRng1 ta σ H R := q
theorem i_iRng2 {ta : TA} {R : It → Hp → Prop} (q : ta σ H fun vs H1 => ∃ i j : Int, vs = [.int i, .int j] ∧ (-(2 ^ 62) ≤ i ∧ i < 2 ^ 62 ∧ -(2 ^ 62) ≤ j ∧ j < 2 ^ 62) ∧ R (Itr i (j - i).toNat) H1) : iRng2 ta σ H R := q
theorem l_tup {a : Addr} {xs : List V} (h : SqT K H a xs) (Pv : Nat → L2.St → Hp → Prop) (h0 : Pv 0 σ H) (hl : ∀ i σ H, i ≤ xs.length → Pv i σ H → SqT K H a xs) (hs : ∀ i x σ H, xs[i]? = some x → Pv i σ H → g x σ H fun σ2 H2 => tb { D with nx := Pv (i + 1), ct := Pv (i + 1), bk := D.nx } σ2 H2) (hd : ∀ σ H, Pv xs.length σ H → D.nx σ H) :
    ∃ a', V.ref a = .ref a' ∧ (∃ xs, SqT K H a' xs) ∧ ∃ W : Nat → Nat → L2.St → Hp → Prop, (∃ m, W 0 m σ H) ∧ ∀ i m σ H, W i m σ H →
    ((Itt K a').stop i H ∧ D.nx σ H) ∨ ((Itt K a').go i H ∧ ∃ N : L2.St → Hp → Prop, (∀ σ' H', N σ' H' → ∃ m', m' < m ∧ W (i + 1) m' σ' H') ∧ ∀ x H', (Itt K a').yld i H x H' → g x σ H' fun σ2 H2 => tb { D with nx := N, ct := N, bk := D.nx } σ2 H2) :=
  ⟨a, rfl, ⟨xs, h⟩, for_tup Pv h0 hl hs hd⟩
theorem l_list {a : Addr} {xs : List V} (h : SqL K H a xs) (Pv : Nat → L2.St → Hp → Prop) (h0 : Pv 0 σ H) (hl : ∀ i σ H, i ≤ xs.length → Pv i σ H → SqL K H a xs) (hs : ∀ i x σ H, xs[i]? = some x → Pv i σ H → g x σ H fun σ2 H2 => tb { D with nx := Pv (i + 1), ct := Pv (i + 1), bk := D.nx } σ2 H2) (hd : ∀ σ H, Pv xs.length σ H → D.nx σ H) :
    ∃ a', V.ref a = .ref a' ∧ (∃ xs, SqL K H a' xs) ∧ ∃ W : Nat → Nat → L2.St → Hp → Prop, (∃ m, W 0 m σ H) ∧ ∀ i m σ H, W i m σ H →
    ((Itl K a').stop i H ∧ D.nx σ H) ∨ ((Itl K a').go i H ∧ ∃ N : L2.St → Hp → Prop, (∀ σ' H', N σ' H' → ∃ m', m' < m ∧ W (i + 1) m' σ' H') ∧ ∀ x H', (Itl K a').yld i H x H' → g x σ H' fun σ2 H2 => tb { D with nx := N, ct := N, bk := D.nx } σ2 H2) :=
  ⟨a, rfl, ⟨xs, h⟩, for_list Pv h0 hl hs hd⟩
theorem l_rng1 {n : Nat} (hn : n < 2 ^ 62) (Pv : Nat → L2.St → Hp → Prop) (h0 : Pv 0 σ H)
    (hs : ∀ i σ H, i < n → Pv i σ H → g (natV i) σ H fun σ2 H2 => tb { D with nx := Pv (i + 1), ct := Pv (i + 1), bk := D.nx } σ2 H2) (hd : ∀ σ H, Pv n σ H → D.nx σ H) :
    ∃ j : Int, [natV n] = [V.int j] ∧ -(2 ^ 62) ≤ j ∧ j < 2 ^ 62 ∧ ∃ W : Nat → Nat → L2.St → Hp → Prop, (∃ m, W 0 m σ H) ∧ ∀ i m σ H, W i m σ H →
    ((Itr 0 j.toNat).stop i H ∧ D.nx σ H) ∨ ((Itr 0 j.toNat).go i H ∧ ∃ N : L2.St → Hp → Prop, (∀ σ' H', N σ' H' → ∃ m', m' < m ∧ W (i + 1) m' σ' H') ∧ ∀ x H', (Itr 0 j.toNat).yld i H x H' → g x σ H' fun σ2 H2 => tb { D with nx := N, ct := N, bk := D.nx } σ2 H2) := by
  refine ⟨(n : Int), rfl, by omega, by omega, ?_⟩
  rw [Int.toNat_natCast]
  refine for_range Pv h0 (fun i σ H hi p => ?_) hd
  rw [Int.zero_add]
  exact hs i σ H hi p
theorem l_rng2 {a n : Nat} (han : a ≤ n) (hn : n < 2 ^ 62) (Pv : Nat → L2.St → Hp → Prop) (h0 : Pv 0 σ H)
    (hs : ∀ i σ H, a + i < n → Pv i σ H → g (natV (a + i)) σ H fun σ2 H2 => tb { D with nx := Pv (i + 1), ct := Pv (i + 1), bk := D.nx } σ2 H2) (hd : ∀ σ H, Pv (n - a) σ H → D.nx σ H) :
    ∃ i j : Int, [natV a, natV n] = [V.int i, V.int j] ∧ (-(2 ^ 62) ≤ i ∧ i < 2 ^ 62 ∧ -(2 ^ 62) ≤ j ∧ j < 2 ^ 62) ∧ ∃ W : Nat → Nat → L2.St → Hp → Prop, (∃ m, W 0 m σ H) ∧ ∀ k m σ H, W k m σ H →
    ((Itr i (j - i).toNat).stop k H ∧ D.nx σ H) ∨ ((Itr i (j - i).toNat).go k H ∧ ∃ N : L2.St → Hp → Prop, (∀ σ' H', N σ' H' → ∃ m', m' < m ∧ W (k + 1) m' σ' H') ∧ ∀ x H', (Itr i (j - i).toNat).yld k H x H' → g x σ H' fun σ2 H2 => tb { D with nx := N, ct := N, bk := D.nx } σ2 H2) := by
  refine ⟨(a : Int), (n : Int), rfl, ⟨by omega, by omega, by omega, by omega⟩, ?_⟩
  rw [show ((n : Int) - (a : Int)).toNat = n - a by omega]
  refine for_range Pv h0 (fun i σ H hi p => ?_) hd
  have := hs i σ H (by omega) p
  exact this
theorem l_while (W : Nat → L2.St → Hp → Prop) (m : Nat) (h0 : W m σ H) (hs : ∀ m σ H, W m σ H → c σ H fun b H1 => if b = true then tb { D with nx := fun σ' H' => ∃ m', m' < m ∧ W m' σ' H', ct := fun σ' H' => ∃ m', m' < m ∧ W m' σ' H', bk := D.nx } σ H1 else D.nx σ H1)
    (mono : ∀ σ H (Q Q' : Bool → Hp → Prop), (∀ b H1, Q b H1 → Q' b H1) → c σ H Q → c σ H Q') : tWhile c tb D σ H := by
  refine ⟨W, ⟨m, h0⟩, fun m σ H w => mono σ H _ _ (fun b H1 q => ?_) (hs m σ H w)⟩
  cases b with
  | true => exact ⟨_, fun _ _ h => h, q⟩
  | false => exact q
/-- the body in the test's own words -/
theorem l_whileN (W : Nat → L2.St → Hp → Prop) (m : Nat) (h0 : W m σ H) (hs : ∀ m σ H, W m σ H → c σ H fun b H1 => if b = true then ∃ N : L2.St → Hp → Prop, (∀ σ' H', N σ' H' → ∃ m', m' < m ∧ W m' σ' H') ∧ tb { D with nx := N, ct := N, bk := D.nx } σ H1 else D.nx σ H1) : tWhile c tb D σ H := ⟨W, ⟨m, h0⟩, hs⟩
theorem l_turn {W : Nat → L2.St → Hp → Prop} {m : Nat} (q : tb { D with nx := fun σ' H' => ∃ m', m' < m ∧ W m' σ' H', ct := fun σ' H' => ∃ m', m' < m ∧ W m' σ' H', bk := D.nx } σ H) :
    ∃ N : L2.St → Hp → Prop, (∀ σ' H', N σ' H' → ∃ m', m' < m ∧ W m' σ' H') ∧ tb { D with nx := N, ct := N, bk := D.nx } σ H := ⟨_, fun _ _ h => h, q⟩
theorem i_tupRev {te : TE} {Q : VK} (q : te σ H fun x H1 => ∃ a xs, x = .ref a ∧ SqL K H1 a xs ∧ ∀ p H2, Same H1 H2 → SqT K H2 p xs.reverse → Q (.ref p) H2) : tTupRevN K te σ H Q := q
theorem i_revL {te : TE} {Q : VK} (q : te σ H fun x H1 => ∃ a xs, x = .ref a ∧ SqL K H1 a xs ∧ ∀ p H2, H1 p = none → Same H1 H2 → H2 p = some (.lst xs.reverse) → Q (.ref p) H2) : tRevLN K te σ H Q := q
theorem i_exseq {a : Addr} {xs : List V} {A : Addr → List V → Prop} (h : SqL K H a xs) (q : A a xs) : ∃ a' xs', V.ref a = .ref a' ∧ SqL K H a' xs' ∧ A a' xs' := ⟨a, xs, rfl, h, q⟩
/-! list comprehensions: their wish is told behind the list's own end -/
def LcTurn (D : Addr) (g : TG) (tt : TT) (te : TE) (vs : List Nat) (σ : L2.St) (P : Hp → Prop) (x : V) (H' : Hp) : Prop :=
  g x (wipe σ vs) H' fun σ2 H2 => wipe σ2 vs = wipe σ vs ∧ tt σ2 H2 fun b H3 => if b = true then te σ2 H3 fun y H4 => ∃ acc, H4 D = some (.lst acc) ∧ acc.length < sizeLine ∧ P (upd H4 D (.lst (acc ++ [y]))) else P H3
def tLcR (ta : TA) (g : TG) (tt : TT) (te : TE) (vs : List Nat) : TE := fun σ H Q => ta σ H fun us H1 => ∃ n : Nat, us = [natV n] ∧ n < 2 ^ 62 ∧ ∀ D, H1 D = none → ∃ Pv : Nat → Hp → Prop, Pv 0 (upd H1 D (.lst [])) ∧
  (∀ i H', i < n → Pv i H' → LcTurn D g tt te vs σ (Pv (i + 1)) (natV i) H') ∧ ∀ H', Pv n H' → Q (.ref D) H'
def tLcL (K : PySem.W.Frag) (tl : TE) (g : TG) (tt : TT) (te : TE) (vs : List Nat) : TE := fun σ H Q => tl σ H fun u H1 => ∃ a xs, u = .ref a ∧ SqL K H1 a xs ∧ ∀ D, H1 D = none → ∃ Pv : Nat → Hp → Prop, Pv 0 (upd H1 D (.lst [])) ∧
  (∀ i H', i ≤ xs.length → Pv i H' → SqL K H' a xs) ∧ (∀ i x H', xs[i]? = some x → Pv i H' → LcTurn D g tt te vs σ (Pv (i + 1)) x H') ∧ ∀ H', Pv xs.length H' → Q (.ref D) H'
def tLcT (K : PySem.W.Frag) (tl : TE) (g : TG) (tt : TT) (te : TE) (vs : List Nat) : TE := fun σ H Q => tl σ H fun u H1 => ∃ a xs, u = .ref a ∧ SqT K H1 a xs ∧ ∀ D, H1 D = none → ∃ Pv : Nat → Hp → Prop, Pv 0 (upd H1 D (.lst [])) ∧
  (∀ i H', i ≤ xs.length → Pv i H' → SqT K H' a xs) ∧ (∀ i x H', xs[i]? = some x → Pv i H' → LcTurn D g tt te vs σ (Pv (i + 1)) x H') ∧ ∀ H', Pv xs.length H' → Q (.ref D) H'
section
variable {X : Cx} {tg : Expr} {ta : TA} {tl : TE} {tt : TT} {te : TE} {vs : List Nat} {Q : VK}
theorem lcR_of (q : tLcR ta g tt te vs σ H Q) : tLc (iRng1 (wkA ta)) g tt te vs σ H Q := ⟨_, q, fun us H1 ⟨n, e, hn, k⟩ => by
  subst e
  refine ⟨(n : Int), rfl, by omega, by omega, fun D hD => ?_⟩
  rw [Int.toNat_natCast]
  obtain ⟨Pv, h0, hs, hd⟩ := k D hD
  refine lc_range Pv h0 (fun i H' hi p => ?_) hd
  rw [Int.zero_add]
  exact hs i H' hi p⟩
theorem lcL_of (q : tLcL K tl g tt te vs σ H Q) : tLc (iList K (wkE tl)) g tt te vs σ H Q := ⟨_, q, fun us H1 ⟨a, xs, e, hx, k⟩ => by
  subst e
  refine ⟨a, rfl, ⟨xs, hx⟩, fun D hD => ?_⟩
  obtain ⟨Pv, h0, hl, hs, hd⟩ := k D hD
  exact lc_list Pv h0 hl hs hd⟩
theorem lcT_of (q : tLcT K tl g tt te vs σ H Q) : tLc (iTup K (wkE tl)) g tt te vs σ H Q := ⟨_, q, fun us H1 ⟨a, xs, e, hx, k⟩ => by
  subst e
  refine ⟨a, rfl, ⟨xs, hx⟩, fun D hD => ?_⟩
  obtain ⟨Pv, h0, hl, hs, hd⟩ := k D hD
  exact lc_tup Pv h0 hl hs hd⟩
theorem PS.imp {st : Stmt} {t t' : TS} (h : PS X st t) (i : ∀ D σ H, t' D σ H → t D σ H) : PS X st t' := ⟨fun pins s σ H D I q => h.run pins s σ H D I (i D σ H q)⟩
end
theorem i_lcR {ta : TA} {tt : TT} {te : TE} {vs : List Nat} {Q : VK} (q : ta σ H fun us H1 => ∃ n : Nat, us = [natV n] ∧ n < 2 ^ 62 ∧ ∀ D, H1 D = none → ∃ Pv : Nat → Hp → Prop, Pv 0 (upd H1 D (.lst [])) ∧
  (∀ i H', i < n → Pv i H' → LcTurn D g tt te vs σ (Pv (i + 1)) (natV i) H') ∧ ∀ H', Pv n H' → Q (.ref D) H') : tLcR ta g tt te vs σ H Q := q
theorem i_lcL {tl : TE} {tt : TT} {te : TE} {vs : List Nat} {Q : VK} (q : tl σ H fun u H1 => ∃ a xs, u = .ref a ∧ SqL K H1 a xs ∧ ∀ D, H1 D = none → ∃ Pv : Nat → Hp → Prop, Pv 0 (upd H1 D (.lst [])) ∧
  (∀ i H', i ≤ xs.length → Pv i H' → SqL K H' a xs) ∧ (∀ i x H', xs[i]? = some x → Pv i H' → LcTurn D g tt te vs σ (Pv (i + 1)) x H') ∧ ∀ H', Pv xs.length H' → Q (.ref D) H') : tLcL K tl g tt te vs σ H Q := q
theorem i_lcT {tl : TE} {tt : TT} {te : TE} {vs : List Nat} {Q : VK} (q : tl σ H fun u H1 => ∃ a xs, u = .ref a ∧ SqT K H1 a xs ∧ ∀ D, H1 D = none → ∃ Pv : Nat → Hp → Prop, Pv 0 (upd H1 D (.lst [])) ∧
  (∀ i H', i ≤ xs.length → Pv i H' → SqT K H' a xs) ∧ (∀ i x H', xs[i]? = some x → Pv i H' → LcTurn D g tt te vs σ (Pv (i + 1)) x H') ∧ ∀ H', Pv xs.length H' → Q (.ref D) H') : tLcT K tl g tt te vs σ H Q := q
theorem i_lct {D : Addr} {tt : TT} {te : TE} {vs : List Nat} {P : Hp → Prop} {x : V} (q : g x (wipe σ vs) H fun σ2 H2 => wipe σ2 vs = wipe σ vs ∧ tt σ2 H2 fun b H3 => if b = true then te σ2 H3 fun y H4 => ∃ acc, H4 D = some (.lst acc) ∧ acc.length < sizeLine ∧ P (upd H4 D (.lst (acc ++ [y]))) else P H3) :
  LcTurn D g tt te vs σ P x H := q
theorem i_yes1 {QB : Bool → Hp → Prop} (q : QB true H) : tYes σ H QB := q
theorem i_lcg {A : Prop} {σ2 : L2.St} {vs : List Nat} (q : A) (e : wipe σ2 vs = wipe σ vs := by rfl) : wipe σ2 vs = wipe σ vs ∧ A := ⟨e, q⟩
theorem i_lcput {D : Addr} {acc : List V} {P : List V → Prop} (h : H D = some (.lst acc)) (hz : acc.length ≤ 100000) (q : P acc) : ∃ acc, H D = some (.lst acc) ∧ acc.length < sizeLine ∧ P acc := ⟨acc, h, Nat.lt_of_le_of_lt hz (by decide), q⟩
end
end Sx
/-! figures to sixty -/
namespace Sx
open PySem L2
/-- the number that figures tell -/
def whole (r : List Nat) : Nat := r.foldl (fun a d => a * 60 + d) 0
/-- figures, ones first -/
def figsF : Nat → Nat → List Nat
  | 0, _ => []
  | f + 1, n => if n = 0 then [] else n % 60 :: figsF f (n / 60)
def stripF : Nat → Nat → Nat
  | 0, n => n
  | f + 1, n => if n % 60 = 0 then stripF f (n / 60) else n
def figsL (n : Nat) : List Nat := figsF n n
def figs (n : Nat) : List Nat := (figsL n).reverse
def strip (n : Nat) : Nat := stripF n n
def rowOf (n : Nat) : List Nat := figs (strip n)
structure IsRow (r : List Nat) : Prop where
  len : 1 ≤ r.length ∧ r.length ≤ 12
  fig : ∀ d ∈ r, d < 60
  hd : r[0]? ≠ some 0
  last : r.getLast? ≠ some 0

theorem figsF_more : ∀ (f g n : Nat), n ≤ f → n ≤ g → figsF f n = figsF g n
  | 0, 0, _, _, _ => rfl
  | 0, g + 1, n, h, _ => by
    have : n = 0 := by omega
    subst this
    simp [figsF]
  | f + 1, 0, n, _, h => by
    have : n = 0 := by omega
    subst this
    simp [figsF]
  | f + 1, g + 1, n, h1, h2 => by
    unfold figsF
    by_cases h : n = 0
    · rw [if_pos h, if_pos h]
    · rw [if_neg h, if_neg h, figsF_more f g (n / 60) (by omega) (by omega)]
theorem figsL_zero : figsL 0 = [] := rfl
theorem figsL_pos {n : Nat} (h : 0 < n) : figsL n = n % 60 :: figsL (n / 60) := by
  unfold figsL
  rw [show n = (n - 1) + 1 by omega]
  show (if n - 1 + 1 = 0 then [] else _) = _
  rw [if_neg (by omega)]
  congr 1
  exact figsF_more _ _ _ (by omega) (by omega)
theorem figsL_lt (n : Nat) : ∀ d ∈ figsL n, d < 60 := by
  induction n using Nat.strongRecOn with
  | ind n ih =>
    by_cases h : n = 0
    · subst h; simp [figsL_zero]
    · rw [figsL_pos (by omega)]
      intro d hd
      rcases List.mem_cons.mp hd with rfl | hd
      · omega
      · exact ih (n / 60) (by omega) d hd
theorem figsL_len : ∀ (k n : Nat), n < 60 ^ k → (figsL n).length ≤ k
  | 0, n, h => by
    have : n = 0 := by simpa using h
    subst this; simp [figsL_zero]
  | k + 1, n, h => by
    by_cases h0 : n = 0
    · subst h0; simp [figsL_zero]
    · rw [figsL_pos (by omega), List.length_cons]
      have := figsL_len k (n / 60) (by rw [Nat.pow_succ] at h; omega)
      omega
def wholeL : List Nat → Nat
  | [] => 0
  | d :: r => d + 60 * wholeL r
theorem whole_append (r : List Nat) (d : Nat) : whole (r ++ [d]) = whole r * 60 + d := by
  unfold whole; rw [List.foldl_append]; rfl
theorem whole_rev : ∀ l : List Nat, whole l.reverse = wholeL l
  | [] => rfl
  | d :: r => by
    rw [List.reverse_cons, whole_append, whole_rev r]
    show wholeL r * 60 + d = d + 60 * wholeL r
    omega
theorem wholeL_figs (n : Nat) : wholeL (figsL n) = n := by
  induction n using Nat.strongRecOn with
  | ind n ih =>
    by_cases h : n = 0
    · subst h; rfl
    · rw [figsL_pos (by omega)]
      show n % 60 + 60 * wholeL (figsL (n / 60)) = n
      rw [ih (n / 60) (by omega)]; omega
theorem whole_figs (n : Nat) : whole (figs n) = n := by rw [figs, whole_rev, wholeL_figs]
theorem wholeL_pos : ∀ {l : List Nat}, l ≠ [] → l.getLast? ≠ some 0 → 0 < wholeL l
  | [], h, _ => absurd rfl h
  | [d], _, h => by
    have : d ≠ 0 := fun e => h (by rw [e]; rfl)
    show 0 < d + 60 * 0
    omega
  | d :: e :: r, _, h => by
    have := wholeL_pos (l := e :: r) (by simp) (by rw [List.getLast?_cons_cons] at h; exact h)
    show 0 < d + 60 * wholeL (e :: r)
    omega
theorem figsL_wholeL : ∀ {l : List Nat}, (∀ d ∈ l, d < 60) → l.getLast? ≠ some 0 → figsL (wholeL l) = l
  | [], _, _ => rfl
  | [d], hl, h => by
    have h0 : d ≠ 0 := fun e => h (by rw [e]; rfl)
    have h1 := hl d (by simp)
    show figsL (d + 60 * 0) = [d]
    rw [show d + 60 * 0 = d by omega, figsL_pos (by omega), show d / 60 = 0 by omega, show d % 60 = d by omega, figsL_zero]
  | d :: e :: r, hl, h => by
    have h1 := hl d (by simp)
    have ih := figsL_wholeL (l := e :: r) (fun x hx => hl x (List.mem_cons_of_mem _ hx)) (by rw [List.getLast?_cons_cons] at h; exact h)
    have hp := wholeL_pos (l := e :: r) (by simp) (by rw [List.getLast?_cons_cons] at h; exact h)
    show figsL (d + 60 * wholeL (e :: r)) = _
    rw [figsL_pos (by omega), show (d + 60 * wholeL (e :: r)) / 60 = wholeL (e :: r) by omega, show (d + 60 * wholeL (e :: r)) % 60 = d by omega, ih]
theorem head_rev {α : Type} (l : List α) : l.reverse.getLast? = l[0]? := by
  rw [List.getLast?_reverse, List.head?_eq_getElem?]
theorem whole_eq (r : List Nat) : whole r = wholeL r.reverse := by
  rw [← whole_rev, List.reverse_reverse]
theorem figs_whole {r : List Nat} (h1 : ∀ d ∈ r, d < 60) (h2 : r[0]? ≠ some 0) : figs (whole r) = r := by
  rw [figs, whole_eq, figsL_wholeL (fun d hd => h1 d (List.mem_reverse.mp hd)) (by rw [head_rev]; exact h2), List.reverse_reverse]
theorem whole_pos {r : List Nat} (h1 : r ≠ []) (h2 : r[0]? ≠ some 0) : 0 < whole r := by
  rw [whole_eq]
  exact wholeL_pos (by simpa using h1) (by rw [head_rev]; exact h2)
theorem whole_last {r : List Nat} (h1 : ∀ d ∈ r, d < 60) (h2 : r ≠ []) (h : r.getLast? ≠ some 0) : whole r % 60 ≠ 0 := by
  have e := List.dropLast_concat_getLast h2
  rw [← e, whole_append]
  have hl := h1 _ (List.getLast_mem h2)
  have hn : r.getLast h2 ≠ 0 := fun z => h (by rw [List.getLast?_eq_getLast h2, z])
  omega
theorem whole_lt : ∀ {k : Nat} {r : List Nat}, (∀ d ∈ r, d < 60) → r.length ≤ k → whole r < 60 ^ k := by
  intro k r h1 h2
  rw [whole_eq]
  have key : ∀ (l : List Nat) (k : Nat), (∀ d ∈ l, d < 60) → l.length ≤ k → wholeL l < 60 ^ k := by
    intro l
    induction l with
    | nil => intro k _ _; exact Nat.pos_of_ne_zero (by simp)
    | cons d r ih =>
      intro k hd hk
      cases k with
      | zero => simp at hk
      | succ k =>
        have := ih k (fun x hx => hd x (List.mem_cons_of_mem _ hx)) (by simpa using hk)
        have h0 := hd d (by simp)
        show d + 60 * wholeL r < 60 ^ (k + 1)
        rw [Nat.pow_succ]; omega
  exact key _ _ (fun d hd => h1 d (List.mem_reverse.mp hd)) (by simpa using h2)
/-! strip -/
theorem stripF_more : ∀ (f g n : Nat), 0 < n → n ≤ f → n ≤ g → stripF f n = stripF g n
  | 0, _, n, h, h1, _ => by omega
  | _ + 1, 0, n, h, _, h2 => by omega
  | f + 1, g + 1, n, h, h1, h2 => by
    unfold stripF
    by_cases e : n % 60 = 0
    · rw [if_pos e, if_pos e, stripF_more f g (n / 60) (by omega) (by omega) (by omega)]
    · rw [if_neg e, if_neg e]
theorem strip_yes {n : Nat} (h : 0 < n) (e : n % 60 = 0) : strip n = strip (n / 60) := by
  unfold strip
  rw [show n = (n - 1) + 1 by omega]
  show (if (n - 1 + 1) % 60 = 0 then _ else _) = _
  rw [if_pos (by rw [show n - 1 + 1 = n by omega]; exact e)]
  exact stripF_more _ _ _ (by omega) (by omega) (by omega)
theorem strip_no {n : Nat} (h : 0 < n) (e : n % 60 ≠ 0) : strip n = n := by
  unfold strip
  rw [show n = (n - 1) + 1 by omega]
  show (if (n - 1 + 1) % 60 = 0 then _ else _) = _
  rw [if_neg (by rw [show n - 1 + 1 = n by omega]; exact e)]
theorem strip_spec (n : Nat) (h : 0 < n) : 0 < strip n ∧ strip n % 60 ≠ 0 ∧ ∃ k, n = strip n * 60 ^ k := by
  induction n using Nat.strongRecOn with
  | ind n ih =>
    by_cases e : n % 60 = 0
    · rw [strip_yes h e]
      obtain ⟨h1, h2, k, h3⟩ := ih (n / 60) (by omega) (by omega)
      refine ⟨h1, h2, k + 1, ?_⟩
      rw [Nat.pow_succ, ← Nat.mul_assoc, ← h3]; omega
    · rw [strip_no h e]
      exact ⟨h, e, 0, by simp⟩
theorem strip_le {n : Nat} (h : 0 < n) : strip n ≤ n := by
  obtain ⟨_, _, k, e⟩ := strip_spec n h
  have : 0 < 60 ^ k := Nat.pos_of_ne_zero (by simp)
  calc strip n = strip n * 1 := by omega
    _ ≤ strip n * 60 ^ k := Nat.mul_le_mul_left _ this
    _ = n := e.symm
theorem rowOf_whole {r : List Nat} (h : IsRow r) : rowOf (whole r) = r := by
  have hne : r ≠ [] := by
    rintro rfl
    have := h.len.1
    simp at this
  rw [rowOf, strip_no (whole_pos hne h.hd) (whole_last h.fig hne h.last), figs_whole h.fig h.hd]
theorem figs_head {n : Nat} (h : 0 < n) : (figs n)[0]? ≠ some 0 := by
  rw [figs, ← List.head?_eq_getElem?, List.head?_reverse]
  have key : ∀ n : Nat, 0 < n → (figsL n).getLast? ≠ some 0 := by
    intro n
    induction n using Nat.strongRecOn with
    | ind n ih =>
      intro hp
      rw [figsL_pos hp]
      by_cases h0 : n / 60 = 0
      · rw [h0, figsL_zero]
        intro e
        have : n % 60 = 0 := Option.some.inj e
        omega
      · have hq := ih (n / 60) (by omega) (by omega)
        rw [figsL_pos (n := n / 60) (by omega)] at hq ⊢
        rw [List.getLast?_cons_cons]
        exact hq
  exact key n h
theorem figs_last {n : Nat} (h : 0 < n) (e : n % 60 ≠ 0) : (figs n).getLast? ≠ some 0 := by
  rw [figs, head_rev, figsL_pos h]
  intro z
  exact e (Option.some.inj z)
theorem figs_lt (n : Nat) : ∀ d ∈ figs n, d < 60 := fun d hd => figsL_lt n d (List.mem_reverse.mp hd)
theorem figs_len {k n : Nat} (h : n < 60 ^ k) : (figs n).length ≤ k := by
  rw [figs, List.length_reverse]; exact figsL_len k n h
theorem figs_len1 {n : Nat} (h : 0 < n) : 1 ≤ (figs n).length := by
  rw [figs, List.length_reverse, figsL_pos h, List.length_cons]; omega
theorem isRow_rowOf {n : Nat} (h : 0 < n) (hl : (rowOf n).length ≤ 12) : IsRow (rowOf n) := by
  obtain ⟨h1, h2, _⟩ := strip_spec n h
  exact ⟨⟨figs_len1 h1, hl⟩, figs_lt _, figs_head h1, figs_last h1 h2⟩
theorem isRow_small {n : Nat} (h : 0 < n) (hl : n < 60 ^ 12) : IsRow (rowOf n) :=
  isRow_rowOf h (figs_len (Nat.lt_of_le_of_lt (strip_le h) hl))
/-! casts -/
theorem sum_mod : ∀ l : List Nat, l.sum % 59 = wholeL l % 59
  | [] => rfl
  | d :: r => by
    have := sum_mod r
    rw [List.sum_cons]
    show (d + r.sum) % 59 = (d + 60 * wholeL r) % 59
    omega
theorem whole_mod (r : List Nat) : r.sum % 59 = whole r % 59 := by
  rw [whole_eq, ← sum_mod, List.sum_reverse]
theorem pow60_mod : ∀ k : Nat, 60 ^ k % 59 = 1
  | 0 => rfl
  | k + 1 => by rw [Nat.pow_succ, Nat.mul_mod, pow60_mod k]
theorem strip_mod {n : Nat} (h : 0 < n) : strip n % 59 = n % 59 := by
  obtain ⟨_, _, k, e⟩ := strip_spec n h
  calc strip n % 59 = strip n % 59 * 1 % 59 := by omega
    _ = (strip n % 59) * (60 ^ k % 59) % 59 := by rw [pow60_mod]
    _ = (strip n * 60 ^ k) % 59 := (Nat.mul_mod _ _ _).symm
    _ = n % 59 := by rw [← e]
theorem cast_rowOf {n : Nat} (h : 0 < n) : (rowOf n).sum % 59 = n % 59 := by
  rw [whole_mod, rowOf, whole_figs, strip_mod h]
end Sx
/-! promises: rows.py and the laws' common helpers -/
namespace Sx
open PySem L2
def sp_check_row (K : PySem.W.Frag) : Sp := fun vs H Q _ => ∃ a r, vs = [.ref a] ∧ SqT K H a (rowV r) ∧ IsRow r ∧ Q .non H
def sp_whole_of (K : PySem.W.Frag) : Sp := fun vs H Q _ => ∃ a r, vs = [.ref a] ∧ SqT K H a (rowV r) ∧ IsRow r ∧ Q (natV (whole r)) H
def sp_figures_of (K : PySem.W.Frag) : Sp := fun vs H Q _ => ∃ n, vs = [natV n] ∧ n < 60 ^ 200 ∧ ∀ p H', Same H H' → SqT K H' p (rowV (figs n)) → Q (.ref p) H'
def sp_row_of (K : PySem.W.Frag) : Sp := fun vs H Q _ => ∃ n, vs = [natV n] ∧ 0 < n ∧ n < 60 ^ 200 ∧ ∀ p H', Same H H' → SqT K H' p (rowV (rowOf n)) → Q (.ref p) H'
def sp_times (K : PySem.W.Frag) : Sp := fun vs H Q _ => ∃ a b r1 r2, vs = [.ref a, .ref b] ∧ SqT K H a (rowV r1) ∧ IsRow r1 ∧ SqT K H b (rowV r2) ∧ IsRow r2 ∧
  ∀ p H', Same H H' → SqT K H' p (rowV (rowOf (whole r1 * whole r2))) → Q (.ref p) H'
def sp_cast (K : PySem.W.Frag) : Sp := fun vs H Q _ => ∃ a r, vs = [.ref a] ∧ SqT K H a (rowV r) ∧ IsRow r ∧ Q (natV (r.sum % 59)) H
/-- the drawing list: the script, a place, a mixed number, what is left of a great one -/
def DiceL (H : Hp) (d sc : Addr) : Prop := ∃ i m r : Nat, H d = some (.lst [.ref sc, natV i, natV m, natV r]) ∧ m < 2147483647
def Script (K : PySem.W.Frag) (H : Hp) (d sc : Addr) : Prop := ∃ ns : List Int, ns.length ≤ 63 ∧ ∀ H2, SB d H H2 → SqL K H2 sc (ns.map V.int)
def Dice (K : PySem.W.Frag) (H : Hp) (d : Addr) : Prop := ∃ sc, DiceL H d sc ∧ Script K H d sc
/-- drawn: the drawing list goes on, all else stands -/
def Drew (d : Addr) (H H' : Hp) : Prop := SB d H H' ∧ ∀ sc, DiceL H d sc → DiceL H' d sc
theorem Drew.refl (d : Addr) (H : Hp) : Drew d H H := ⟨SB.refl _ _, fun _ h => h⟩
theorem Drew.trans {d : Addr} {H H1 H2 : Hp} (a : Drew d H H1) (b : Drew d H1 H2) : Drew d H H2 := ⟨a.1.trans b.1, fun sc h => b.2 sc (a.2 sc h)⟩
theorem Drew.of {d : Addr} {H H1 : Hp} (b : Same H H1) : Drew d H H1 := ⟨Same.sb b, fun _ ⟨i, m, r, h, l⟩ => ⟨i, m, r, b _ _ h, l⟩⟩
theorem Drew.same {d : Addr} {H H1 H2 : Hp} (a : Drew d H H1) (b : Same H1 H2) : Drew d H H2 := a.trans (Drew.of b)
theorem Dice.drew {K : PySem.W.Frag} {H H' : Hp} {d : Addr} (x : Dice K H d) (e : Drew d H H') : Dice K H' d := by
  obtain ⟨sc, h, ns, hl, hs⟩ := x
  exact ⟨sc, e.2 sc h, ns, hl, fun H2 s => hs H2 (e.1.trans s)⟩
theorem Dice.lst {K : PySem.W.Frag} {H : Hp} {d : Addr} (x : Dice K H d) : ∃ xs, H d = some (.lst xs) := by
  obtain ⟨sc, ⟨i, m, r, h, _⟩, _⟩ := x
  exact ⟨_, h⟩
theorem Dice.ne {K : PySem.W.Frag} {H : Hp} {d p : Addr} (x : Dice K H d) (h : H p = none) : p ≠ d := by
  rintro rfl
  obtain ⟨zs, e⟩ := x.lst
  rw [e] at h; cases h
theorem Dice.row {K : PySem.W.Frag} {H H' : Hp} {d a : Addr} {xs : List V} (x : Dice K H d) (s : Drew d H H') (h : SqT K H a xs) : SqT K H' a xs := by
  obtain ⟨ys, e⟩ := x.lst
  exact SB.seqT s.1 e h
/-- what is not known behind was not known ahead -/
theorem Drew.back {K : PySem.W.Frag} {H H' : Hp} {d p : Addr} (x : Dice K H d) (e : Drew d H H') (h : H' p = none) : H p = none := by
  cases z : H p with
  | none => rfl
  | some o =>
    have hne := (x.drew e).ne h
    rw [e.1 _ _ hne z] at h; cases h
/-- a new object, changed -/
theorem Drew.mut {d p : Addr} {H H1 : Hp} {o : HO} (a : Drew d H H1) (h : H p = none) (hd : p ≠ d) : Drew d H (upd H1 p o) :=
  ⟨SB.mut a.1 h, fun sc x => by
    obtain ⟨i, m, r, e, l⟩ := a.2 sc x
    exact ⟨i, m, r, by rw [upd_ne hd.symm]; exact e, l⟩⟩
def sp__law_dice (K : PySem.W.Frag) : Sp := fun vs H Q _ => ∃ (a : Addr) (ns : List Int), vs = [.ref a] ∧ SqL K H a (ns.map V.int) ∧ ns.length ≤ 63 ∧ ∀ d H', H d = none → Same H H' → Dice K H' d → Q (.ref d) H'
def sp__law_next (K : PySem.W.Frag) : Sp := fun vs H Q _ => ∃ (d : Addr) (m : Nat), vs = [.ref d, natV m] ∧ Dice K H d ∧ 0 < m ∧ m < 1073741824 ∧ ∀ n H', n < m → Drew d H H' → Q (natV n) H'
def sp__law_whole_of (K : PySem.W.Frag) : Sp := fun vs H Q _ => ∃ a r, vs = [.ref a] ∧ SqT K H a (rowV r) ∧ r.length ≤ 1000 ∧ Q (natV (whole r)) H
def sp__law_row (K : PySem.W.Frag) : Sp := fun vs H Q _ => ∃ n, vs = [natV n] ∧ 0 < n ∧ n < 60 ^ 200 ∧ ∀ p H', Same H H' → SqT K H' p (rowV (rowOf n)) → Q (.ref p) H'
def sp__law_smooth (K : PySem.W.Frag) : Sp := fun vs H Q _ => ∃ d, vs = [.ref d] ∧ Dice K H d ∧ ∀ a b c H', a ≤ 9 → b ≤ 9 → c ≤ 9 → Drew d H H' → Q (natV (2 ^ a * 3 ^ b * 5 ^ c)) H'
def sp__law_drawn (K : PySem.W.Frag) : Sp := fun vs H Q _ => ∃ (d : Addr) (m : Nat), vs = [.ref d, natV m] ∧ Dice K H d ∧ 2 ≤ m ∧ m ≤ 12 ∧
  ∀ p r H', IsRow r → r.length ≤ m → Drew d H H' → SqT K H' p (rowV r) → Q (.ref p) H'
/-- data of a depth: what the laws' own likeness looks at -/
def plainD : Nat → PyData → Prop
  | _, .none => True
  | _, .bool _ => False
  | _, .int _ => True
  | _, .str x => PyData.canLay0 (.str x) = true
  | 0, .list _ => False
  | 0, .tuple _ => False
  | n + 1, .list ds => ds.length ≤ 100000 ∧ ∀ d ∈ ds, plainD n d
  | n + 1, .tuple ds => ds.length ≤ 100000 ∧ ∀ d ∈ ds, plainD n d
  | _, .dict _ => False
def spLike (K : PySem.W.Frag) : Nat → Sp
  | 0 => fun _ _ _ _ => False
  | n + 1 => fun vs H Q _ => ∃ x y D, vs = [x, y] ∧ Dp K H x D ∧ Dp K H y D ∧ plainD n D ∧ Q (.bl true) H
abbrev sp__law_like (K : PySem.W.Frag) : Sp := spLike K 7
end Sx
open PySem L2 RT Sx
local macro_rules | `(tactic| walk_at "s") => `(tactic| first
  | ((with_reducible refine' i_var ?k1 ?_); (case k1 => rfl))
  | with_reducible refine' i_c ?_
  | with_reducible refine' i_op ?_
  | with_reducible refine' i_cons ?_
  | with_reducible refine' i_nil ?_
  | with_reducible refine' i_seq ?_
  | with_reducible refine' i_asg ?_
  | ((with_reducible refine' i_gname ?_); try dsimp -proj only [List.set_cons_zero, List.set_cons_succ])
  | with_reducible refine' i_call ?_
  | with_reducible refine' i_cb ?_
  | with_reducible refine' i_ifS ?_
  | with_reducible refine' i_test ?_
  | with_reducible refine' i_exbl ?_
  | with_reducible refine' i_exnat ?_
  | with_reducible refine' i_ret ?_
  | with_reducible refine' i_drop ?_
  | with_reducible refine' i_next ?_
  | with_reducible refine' i_tB ?_
  | with_reducible refine' i_chain ?_
  | with_reducible refine' i_and ?_
  | with_reducible refine' i_or ?_
  | with_reducible refine' i_not ?_
  | with_reducible refine' i_andV ?_
  | with_reducible refine' i_orV ?_
  | with_reducible refine' i_notV ?_
  | with_reducible refine' i_if ?_
  | with_reducible refine' i_un ?_
  | with_reducible refine' i_negN ?_
  | with_reducible refine' i_addN ?_
  | ((with_reducible refine' i_subN ?k1 ?_); (case k1 => omega))
  | ((with_reducible refine' i_mulN ?k1 ?_); (case k1 => omega))
  | ((with_reducible refine' i_fdN ?k1 ?k2 ?_); (case k1 => omega); (case k2 => omega))
  | ((with_reducible refine' i_mdN ?k1 ?_); (case k1 => omega))
  | ((with_reducible refine' i_pwN ?k1 ?k2 ?_); (case k1 => omega); (case k2 => omega))
  | with_reducible refine' i_ltN ?_
  | with_reducible refine' i_leN ?_
  | with_reducible refine' i_gtN ?_
  | with_reducible refine' i_geN ?_
  | with_reducible refine' i_eqN ?_
  | with_reducible refine' i_neN ?_
  | with_reducible refine' i_bit ?_
  | with_reducible refine' i_tup ?_
  | with_reducible refine' i_lst ?_
  | with_reducible refine' i_bm ?_
  | with_reducible refine' i_bm0 ?_
  | with_reducible refine' i_gsub ?_
  | ((with_reducible refine' i_aug ?k1 ?_); (case k1 => rfl))
  | with_reducible refine' i_sl ?_
  | with_reducible refine' i_nopart ?_
  | with_reducible refine' i_part ?_
  | with_reducible refine' i_yes1 ?_
  | with_reducible refine' i_lcR ?_
  | with_reducible refine' i_lcL ?_
  | with_reducible refine' i_lcT ?_
  | with_reducible refine' i_lct ?_
  | with_reducible refine' i_iteT ?_
  | with_reducible refine' i_iteNT ?_
  | with_reducible refine' i_iteNF ?_
  | with_reducible refine' i_iteF ?_
  | ((with_reducible refine' i_yes ?k1 ?_); (case k1 => omega))
  | ((with_reducible refine' i_nay ?k1 ?_); (case k1 => omega))
  | ((with_reducible refine' i_yesN ?k1 ?_); (case k1 => omega))
  | ((with_reducible refine' i_nayN ?k1 ?_); (case k1 => omega)))
local macro_rules | `(tactic| walk_at "go") => `(tactic| (repeat walk_at "s"; try dsimp -proj only [List.set_cons_zero, List.set_cons_succ]))

namespace Sx
def t_check_row (K : PySem.W.Frag) : TS := (tSeq (tIfS (tNot (tTest (tChain rLe rLe (tC (natV 1)) (tCB (rLen K) (tCons (tVar 0) tNil)) (tC (natV 12))))) tNever tNext)
  (tSeq (tIfS (tOr (tTest (tOp rLt (tCB (rMinT K) (tCons (tVar 0) tNil)) (tC (natV 0)))) (tTest (tOp rGt (tCB (rMaxT K) (tCons (tVar 0) tNil)) (tC (natV 59))))) tNever tNext)
  (tIfS (tOr (tTest (tOp rEq (tOp (rIxT K) (tVar 0) (tC (natV 0))) (tC (natV 0)))) (tTest (tOp rEq (tOp (rIxT K) (tVar 0) (tUn rNeg (tC (natV 1)))) (tC (natV 0))))) tNever tNext)))
def t_whole_of (K : PySem.W.Frag) : TS := (tSeq (tDrop (tCall (sp_check_row K) [] E0 (tCons (tVar 0) tNil)))
  (tSeq (tAsg (tC (natV 0)) (gName 1))
  (tSeq (tFor (iTup K (tVar 0)) (gName 2)
  (tAsg (tOp rAdd (tOp rMul (tVar 1) (tC (natV 60))) (tVar 2)) (gName 1)))
  (tRet (tVar 1)))))
def t_figures_of (K : PySem.W.Frag) : TS := (tSeq (tAsg (tLstN tNil) (gName 1))
  (tSeq (tWhile (tTest (tOp rGt (tVar 0) (tC (natV 0)))) (tSeq (tDrop (tBM K "list" rAppend (tVar 1) (tCons (tOp rMd (tVar 0) (tC (natV 60))) tNil)))
  (tAug 0 (tC (natV 60)) rFd)))
  (tRet (tTupRevN K (tVar 1)))))
def t_row_of (K : PySem.W.Frag) : TS := (tSeq (tWhile (tTest (tOp rEq (tOp rMd (tVar 0) (tC (natV 60))) (tC (natV 0)))) (tAug 0 (tC (natV 60)) rFd))
  (tRet (tCall (sp_figures_of K) [] E0 (tCons (tVar 0) tNil))))
def t_times (K : PySem.W.Frag) : TS := (tRet (tCall (sp_row_of K) [] E0 (tCons (tOp rMulW (tCall (sp_whole_of K) [] E0 (tCons (tVar 0) tNil)) (tCall (sp_whole_of K) [] E0 (tCons (tVar 1) tNil))) tNil)))
def t_cast (K : PySem.W.Frag) : TS := (tSeq (tDrop (tCall (sp_check_row K) [] E0 (tCons (tVar 0) tNil)))
  (tRet (tOp rMd (tCB (rSumT K) (tCons (tVar 0) tNil)) (tC (natV 59)))))
def t__law_dice (K : PySem.W.Frag) : TS := (tSeq (tAsg (tC (natV 0)) (gName 1))
  (tSeq (tFor (iList K (tVar 0)) (gName 2)
  (tAsg (tOp rMd (tOp rAdd (tOp rAdd (tOp rMul (tVar 1) (tC (natV 48271))) (tOp rMul (tOp rMd (tVar 2) (tC (natV 2147483647))) (tC (natV 69621)))) (tC (natV 11))) (tC (natV 2147483647))) (gName 1)))
  (tRet (tLstN (tCons (tVar 0) (tCons (tC (natV 0)) (tCons (tOp rMulW (tVar 1) (tCB rInt1 (tCons (tOp rGt (tCB (rLen K) (tCons (tVar 0) tNil)) (tC (natV 2))) tNil))) (tCons (tC (natV 0)) tNil))))))))
def t__law_next (K : PySem.W.Frag) : TS := (tSeq (tIfS (tTest (tOp rGt (tOp (rIxL K) (tVar 0) (tC (natV 3))) (tC (natV 0)))) (tSeq (tAsg (tOp rMd (tOp (rIxL K) (tVar 0) (tC (natV 3))) (tVar 1)) (gName 2))
  (tSeq (tAsg (tOp rFd (tOp (rIxL K) (tVar 0) (tC (natV 3))) (tVar 1)) (gSub (tVar 0) (tC (natV 3)) rSetL))
  (tRet (tVar 2)))) tNext)
  (tSeq (tAsg (tOp rAdd (tOp (rIxL K) (tVar 0) (tC (natV 1))) (tC (natV 1))) (gSub (tVar 0) (tC (natV 1)) rSetL))
  (tSeq (tIfS (tTest (tOp rLe (tOp (rIxL K) (tVar 0) (tC (natV 1))) (tCB (rLen K) (tCons (tOp (rIxL K) (tVar 0) (tC (natV 0))) tNil)))) (tSeq (tAsg (tOp (rIxL K) (tOp (rIxL K) (tVar 0) (tC (natV 0))) (tOp rSub (tOp (rIxL K) (tVar 0) (tC (natV 1))) (tC (natV 1)))) (gName 3))
  (tSeq (tAsg (tIf (tTest (tOp rGe (tVar 3) (tOp rPw (tC (natV 10)) (tC (natV 18))))) (tOp rFd (tVar 3) (tVar 1)) (tC (natV 0))) (gSub (tVar 0) (tC (natV 3)) rSetL))
  (tRet (tOp rMd (tVar 3) (tVar 1))))) tNext)
  (tSeq (tAsg (tOp rMd (tOp rMul (tOp (rIxL K) (tVar 0) (tC (natV 2))) (tC (natV 48271))) (tC (natV 2147483647))) (gSub (tVar 0) (tC (natV 2)) rSetL))
  (tRet (tOp rMd (tOp rFd (tOp (rIxL K) (tVar 0) (tC (natV 2))) (tC (natV 7))) (tVar 1)))))))
def t__law_whole_of (K : PySem.W.Frag) : TS := (tSeq (tAsg (tC (natV 0)) (gName 1))
  (tSeq (tFor (iRng1 (tCons (tCB (rLen K) (tCons (tVar 0) tNil)) tNil)) (gName 2)
  (tAsg (tOp rAdd (tOp rMul (tVar 1) (tC (natV 60))) (tOp (rIxT K) (tVar 0) (tVar 2))) (gName 1)))
  (tRet (tVar 1))))
def t__law_row (K : PySem.W.Frag) : TS := (tSeq (tAsg (tLstN tNil) (gName 1))
  (tSeq (tWhile (tTest (tOp rGt (tVar 0) (tC (natV 0)))) (tSeq (tDrop (tBM K "list" rAppend (tVar 1) (tCons (tOp rMd (tVar 0) (tC (natV 60))) tNil)))
  (tAsg (tOp rFd (tVar 0) (tC (natV 60))) (gName 0))))
  (tSeq (tWhile (tTest (tOp rEq (tOp (rIxL K) (tVar 1) (tC (natV 0))) (tC (natV 0)))) (tDrop (tBM K "list" rPopAt (tVar 1) (tCons (tC (natV 0)) tNil))))
  (tRet (tCB (rTupN K) (tCons (tRevLN K (tVar 1)) tNil))))))
def t__law_smooth (K : PySem.W.Frag) : TS := (tSeq (tAsg (tC (natV 1)) (gName 1))
  (tSeq (tFor (iList K (tLstN (tCons (tC (natV 2)) (tCons (tC (natV 3)) (tCons (tC (natV 5)) tNil))))) (gName 2)
  (tFor (iRng1 (tCons (tOp (rIxL K) (tLstN (tCons (tCall (sp__law_next K) [] E0 (tCons (tVar 0) (tCons (tC (natV 4)) tNil))) (tCons (tCall (sp__law_next K) [] E0 (tCons (tVar 0) (tCons (tC (natV 10)) tNil))) tNil))) (tCB rInt1 (tCons (tOp rEq (tCall (sp__law_next K) [] E0 (tCons (tVar 0) (tCons (tC (natV 4)) tNil))) (tC (natV 3))) tNil))) tNil)) (gName 3)
  (tAsg (tOp rMulW (tVar 1) (tVar 2)) (gName 1))))
  (tRet (tVar 1))))
def t__law_drawn (K : PySem.W.Frag) : TS := (tSeq (tAsg (tCall (sp__law_next K) [] E0 (tCons (tVar 0) (tCons (tC (natV 4)) tNil))) (gName 2))
  (tSeq (tIfS (tTest (tOp rEq (tVar 2) (tC (natV 0)))) (tRet (tCall (sp__law_row K) [] E0 (tCons (tOp rAdd (tC (natV 1)) (tCall (sp__law_next K) [] E0 (tCons (tVar 0) (tCons (tC (natV 60)) tNil)))) tNil))) tNext)
  (tSeq (tIfS (tTest (tOp rLt (tVar 2) (tC (natV 3)))) (tAsg (tCall (sp__law_row K) [] E0 (tCons (tOp rMulW (tCall (sp__law_smooth K) [] E0 (tCons (tVar 0) tNil)) (tOp (rIxL K) (tLstN (tCons (tC (natV 1)) (tCons (tC (natV 1)) (tCons (tC (natV 1)) (tCons (tC (natV 7)) (tCons (tC (natV 49)) (tCons (tC (natV 11)) tNil))))))) (tCall (sp__law_next K) [] E0 (tCons (tVar 0) (tCons (tC (natV 6)) tNil))))) tNil)) (gName 3)) (tSeq (tAsg (tLcR (tCons (tOp rAdd (tC (natV 1)) (tCall (sp__law_next K) [] E0 (tCons (tVar 0) (tCons (tVar 1) tNil)))) tNil) (gName 5) tYes (tCall (sp__law_next K) [] E0 (tCons (tVar 0) (tCons (tC (natV 60)) tNil))) [5]) (gName 4))
  (tAsg (tOp (rCatN K) (tOp (rCatN K) (tTupN K (tCons (tOp rAdd (tC (natV 1)) (tCall (sp__law_next K) [] E0 (tCons (tVar 0) (tCons (tC (natV 59)) tNil)))) tNil)) (tCB (rTupN K) (tCons (tVar 4) tNil))) (tTupN K (tCons (tOp rAdd (tC (natV 1)) (tCall (sp__law_next K) [] E0 (tCons (tVar 0) (tCons (tC (natV 59)) tNil)))) tNil))) (gName 3))))
  (tRet (tIf (tTest (tOp rGt (tOp (rIxT K) (tSl (rSlN K) (tVar 3) tNoPart (tPart (tVar 1))) (tUn rNeg (tC (natV 1)))) (tC (natV 0)))) (tSl (rSlN K) (tVar 3) tNoPart (tPart (tVar 1))) (tTupN K (tCons (tC (natV 1)) (tCons (tC (natV 30)) tNil))))))))
def t__law_like (K : PySem.W.Frag) (sp : Sp) : TS := (tSeq (tIfS (tB (tCB (rIsi K) (tCons (tVar 1) (tCons (tC (.ty "str")) tNil)))) (tRet (tAndV (tCB (rIsi K) (tCons (tVar 0) (tCons (tC (.ty "str")) tNil))) (tOp (rEqD K) (tVar 0) (tVar 1)))) tNext)
  (tSeq (tIfS (tB (tCB (rIsi K) (tCons (tVar 1) (tCons (tC (.ty "int")) tNil)))) (tRet (tAndV (tCB (rIsi K) (tCons (tVar 0) (tCons (tC (.ty "int")) tNil))) (tAndV (tNotV (tCB (rIsi K) (tCons (tVar 0) (tCons (tC (.ty "bool")) tNil)))) (tOp (rEqD K) (tVar 0) (tVar 1))))) tNext)
  (tSeq (tIfS (tTest (tOp rIsN (tVar 1) (tC .non))) (tRet (tOp rIsN (tVar 0) (tC .non))) tNext)
  (tSeq (tIfS (tOr (tTest (tOp rNe (tCB (rIsi K) (tCons (tVar 1) (tCons (tC (.ty "tuple")) tNil))) (tCB (rIsi K) (tCons (tVar 0) (tCons (tC (.ty "tuple")) tNil))))) (tTest (tOp rNe (tCB (rIsi K) (tCons (tVar 1) (tCons (tC (.ty "list")) tNil))) (tCB (rIsi K) (tCons (tVar 0) (tCons (tC (.ty "list")) tNil)))))) (tRet (tC (.bl false))) tNext)
  (tSeq (tIfS (tTest (tOp rNe (tCB (rLen K) (tCons (tVar 0) tNil)) (tCB (rLen K) (tCons (tVar 1) tNil)))) (tRet (tC (.bl false))) tNext)
  (tSeq (tFor (iRng1 (tCons (tCB (rLen K) (tCons (tVar 1) tNil)) tNil)) (gName 2)
  (tIfS (tNot (tB (tCall (sp) [] E0 (tCons (tOp (rIxQ K) (tVar 0) (tVar 2)) (tCons (tOp (rIxQ K) (tVar 1) (tVar 2)) tNil))))) (tRet (tC (.bl false))) tNext))
  (tRet (tC (.bl true)))))))))

theorem rowV_ints (r : List Nat) : rowV r = (r.map fun n : Nat => (n : Int)).map V.int := by
  unfold rowV natV; rw [List.map_map]; rfl
theorem rowV_get {r : List Nat} {i d : Nat} (h : r[i]? = some d) : (rowV r)[i]? = some (natV d) := by
  unfold rowV; rw [List.getElem?_map, h]; rfl
theorem rowV_len (r : List Nat) : (rowV r).length = r.length := by unfold rowV; rw [List.length_map]
theorem rowV_of {r : List Nat} {i : Nat} {x : V} (h : (rowV r)[i]? = some x) : ∃ d, r[i]? = some d ∧ x = natV d := by
  unfold rowV at h; rw [List.getElem?_map] at h
  cases e : r[i]? with
  | none => rw [e] at h; cases h
  | some d => rw [e] at h; exact ⟨d, rfl, (Option.some.inj h).symm⟩
theorem sum_cast (r : List Nat) : (r.map fun n : Nat => (n : Int)).sum = ((r.sum : Nat) : Int) := by
  induction r with
  | nil => rfl
  | cons d r ih => rw [List.map_cons, List.sum_cons, List.sum_cons, ih]; omega
section
variable {K : PySem.W.Frag} {H : Hp} {Q : VK} {a : Addr} {r : List Nat}
theorem i_sumN (h : SqT K H a (rowV r)) (q : Q (natV r.sum) H) : rSumT K [.ref a] H Q :=
  ⟨a, _, rfl, by rw [← rowV_ints]; exact h, by rw [sum_cast]; exact q⟩
theorem i_minN (h : SqT K H a (rowV r)) (hn : r ≠ []) (q : ∀ m, m ∈ r → (∀ y ∈ r, m ≤ y) → Q (natV m) H) : rMinT K [.ref a] H Q :=
  ⟨a, _, rfl, by rw [← rowV_ints]; exact h, by rw [List.length_map]; exact List.length_pos_iff.mpr hn, fun m hm hy => by
    obtain ⟨k, hk, rfl⟩ := List.mem_map.mp hm
    exact q k hk fun y hy' => by have := hy (y : Int) (List.mem_map.mpr ⟨y, hy', rfl⟩); omega⟩
theorem i_maxN (h : SqT K H a (rowV r)) (hn : r ≠ []) (q : ∀ m, m ∈ r → (∀ y ∈ r, y ≤ m) → Q (natV m) H) : rMaxT K [.ref a] H Q :=
  ⟨a, _, rfl, by rw [← rowV_ints]; exact h, by rw [List.length_map]; exact List.length_pos_iff.mpr hn, fun m hm hy => by
    obtain ⟨k, hk, rfl⟩ := List.mem_map.mp hm
    exact q k hk fun y hy' => by have := hy (y : Int) (List.mem_map.mpr ⟨y, hy', rfl⟩); omega⟩
/-- the last item -/
theorem i_ixlast {xs : List V} {v : V} (h : SqT K H a xs) (e : xs.getLast? = some v) (q : Q v H) : rIxT K (.ref a) (.int (-1)) H Q := by
  obtain ⟨ys, rfl⟩ := List.getLast?_eq_some_iff.mp e
  exact i_ixTlast h q
theorem row_ne {r : List Nat} (h : IsRow r) : r ≠ [] := by
  rintro rfl; have := h.len.1; simp at this
abbrev endsOf (Q : VK) : Ends := { nx := fun _ H' => Q .non H', rt := Q }
theorem pure_check_row {vs : List V} {E : XK} (h : sp_check_row K vs H Q E) : t_check_row K (endsOf Q) (start ["row"] vs) H := by
  obtain ⟨a, r, rfl, hr, ir, q⟩ := h
  show t_check_row K (endsOf Q) [some (.ref a)] H
  unfold t_check_row
  have hne := row_ne ir
  have h1 := ir.len.1
  have h2 := ir.len.2
  walk_at "go"
  refine i_lenT hr ?_
  rw [rowV_len]
  walk_at "go"
  refine i_minN hr hne fun m hm _ => ?_
  walk_at "go"
  refine i_maxN hr hne fun m hm _ => ?_
  have h3 := ir.fig m hm
  walk_at "go"
  obtain ⟨d, hd⟩ : ∃ d, r[0]? = some d := ⟨r[0], List.getElem?_eq_getElem (by omega)⟩
  have hd0 : d ≠ 0 := fun e => ir.hd (by rw [hd, e])
  refine i_ixT hr (rowV_get hd) ?_
  walk_at "go"
  obtain ⟨l, hl⟩ : ∃ l, r.getLast? = some l := ⟨r.getLast hne, List.getLast?_eq_getLast hne⟩
  have hl0 : l ≠ 0 := fun e => ir.last (by rw [hl, e])
  refine i_ixlast hr (v := natV l) (by unfold rowV; rw [List.getLast?_map, hl]; rfl) ?_
  walk_at "go"
  exact q

theorem take_more {α : Type} : ∀ {l : List α} {i : Nat} {x : α}, l[i]? = some x → l.take (i + 1) = l.take i ++ [x]
  | [], i, x, h => by simp at h
  | a :: l, 0, x, h => by
    have e : a = x := Option.some.inj h
    subst e; rfl
  | a :: l, i + 1, x, h => by
    have ih := take_more (l := l) (i := i) (x := x) h
    show a :: l.take (i + 1) = a :: l.take i ++ [x]
    rw [ih]; rfl
theorem whole_take {r : List Nat} {i d : Nat} (h : r[i]? = some d) : whole (r.take (i + 1)) = whole (r.take i) * 60 + d := by
  rw [take_more h, whole_append]
theorem pure_whole_of {vs : List V} {E : XK} (h : sp_whole_of K vs H Q E) : t_whole_of K (endsOf Q) (start ["row", "number", "figure"] vs) H := by
  obtain ⟨a, r, rfl, hr, ir, q⟩ := h
  show t_whole_of K (endsOf Q) [some (.ref a), none, none] H
  unfold t_whole_of
  walk_at "go"
  refine ⟨a, r, rfl, hr, ir, ?_⟩
  walk_at "go"
  refine i_for (i_iTup ?_)
  walk_at "go"
  refine l_tup (K := K) (xs := rowV r) hr (fun i σ H' => ∃ x, σ = [some (.ref a), some (natV (whole (r.take i))), x] ∧ H' = H) ⟨none, rfl, rfl⟩ ?_ ?_ ?_
  · rintro i σ H' _ ⟨x, rfl, rfl⟩
    exact hr
  · rintro i x σ H' hx ⟨y, rfl, rfl⟩
    obtain ⟨d, hd, rfl⟩ := rowV_of hx
    walk_at "go"
    exact ⟨_, by rw [whole_take hd], rfl⟩
  · rintro σ H' ⟨x, rfl, rfl⟩
    walk_at "go"
    rw [rowV_len, List.take_length]
    exact q
theorem figsL_step {n : Nat} {l : List Nat} {k : Nat} (h : 0 < k) (e : figsL n = l ++ figsL k) : figsL n = (l ++ [k % 60]) ++ figsL (k / 60) := by
  rw [e, figsL_pos h, List.append_assoc]; rfl
theorem rowV_snoc (l : List Nat) (d : Nat) : rowV l ++ [natV d] = rowV (l ++ [d]) := by unfold rowV; rw [List.map_append]; rfl
theorem rowV_rev (l : List Nat) : (rowV l).reverse = rowV l.reverse := by unfold rowV; rw [List.map_reverse]
theorem pure_figures_of {vs : List V} {E : XK} (h : sp_figures_of K vs H Q E) : t_figures_of K (endsOf Q) (start ["number", "figures"] vs) H := by
  obtain ⟨n, rfl, hn, q⟩ := h
  have hlen := figsL_len 200 n hn
  show t_figures_of K (endsOf Q) [some (natV n), none] H
  unfold t_figures_of
  walk_at "go"
  refine ⟨szl (by simp), fun p H1 np s1 hp => ?_⟩
  walk_at "go"
  refine l_whileN (fun m σ H' => ∃ l, σ = [some (natV m), some (.ref p)] ∧ Same H H' ∧ H' p = some (.lst (rowV l)) ∧ figsL n = l ++ figsL m) n ⟨[], rfl, s1, hp, rfl⟩ ?_
  rintro m σ H' ⟨l, rfl, s, hl, e⟩
  walk_at "go"
  refine i_ite (fun hm => l_turn ?_) (fun hm => ?_)
  · walk_at "go"
    have hz : l.length ≤ 1000 := by have := congrArg List.length e; rw [List.length_append] at this; omega
    refine i_ty hl ?_
    walk_at "go"
    refine i_app hl (by rw [rowV_len]; omega) ?_
    walk_at "go"
    refine ⟨m / 60, by omega, l ++ [m % 60], rfl, Same.mut s np, ?_, figsL_step hm e⟩
    rw [upd_same, rowV_snoc]
  · walk_at "go"
    have : m = 0 := by omega
    subst this
    rw [figsL_zero, List.append_nil] at e
    refine i_tupRev ?_
    walk_at "go"
    refine i_exseq (sql hl) fun p2 H2 s2 hp2 => ?_
    refine q p2 H2 (Same.trans s s2) ?_
    rw [rowV_rev, ← e] at hp2; exact hp2
theorem Same.back {H H' : Hp} {p : Addr} (s : L2.Same H H') (h : H' p = none) : H p = none := by
  cases z : H p with
  | none => rfl
  | some o => rw [s _ _ z] at h; cases h
theorem pure_row_of {vs : List V} {E : XK} (h : sp_row_of K vs H Q E) : t_row_of K (endsOf Q) (start ["number"] vs) H := by
  obtain ⟨n, rfl, h0, hn, q⟩ := h
  show t_row_of K (endsOf Q) [some (natV n)] H
  unfold t_row_of
  walk_at "go"
  refine l_whileN (fun m σ H' => σ = [some (natV m)] ∧ H' = H ∧ 0 < m ∧ m ≤ n ∧ strip m = strip n) n ⟨rfl, rfl, h0, Nat.le_refl _, rfl⟩ ?_
  rintro m σ H' ⟨rfl, rfl, hm, hmn, e⟩
  walk_at "go"
  refine i_ite (fun hz => l_turn ?_) (fun hz => ?_)
  · walk_at "go"
    exact ⟨m / 60, by omega, rfl, rfl, by omega, by omega, by rw [← e, strip_yes hm hz]⟩
  · walk_at "go"
    rw [strip_no hm hz] at e
    refine ⟨m, rfl, by omega, fun p H2 s hp => q p H2 s ?_⟩
    rw [e] at hp; exact hp
theorem whole12 {r : List Nat} (h : IsRow r) : whole r < 60 ^ 12 := whole_lt h.fig h.len.2
theorem p12 : 60 ^ 12 < 2 ^ 72 := by decide
theorem pure_times {vs : List V} {E : XK} (h : sp_times K vs H Q E) : t_times K (endsOf Q) (start ["one", "other"] vs) H := by
  obtain ⟨a, b, r1, r2, rfl, h1, i1, h2, i2, q⟩ := h
  show t_times K (endsOf Q) [some (.ref a), some (.ref b)] H
  unfold t_times
  have w1 := whole12 i1
  have w2 := whole12 i2
  have z1 := whole_pos (row_ne i1) i1.hd
  have z2 := whole_pos (row_ne i2) i2.hd
  have pp := p12
  walk_at "go"
  refine ⟨a, r1, rfl, h1, i1, ?_⟩
  walk_at "go"
  refine ⟨b, r2, rfl, h2, i2, ?_⟩
  refine i_mulWN (m := 72) (n := 72) (Nat.lt_trans w1 pp) (Nat.lt_trans w2 pp) (by decide) (by decide) (by decide) ?_
  walk_at "go"
  refine ⟨_, rfl, Nat.mul_pos z1 z2, ?_, fun p H' s hp => q p H' s hp⟩
  calc whole r1 * whole r2 < 60 ^ 12 * 60 ^ 12 := Nat.mul_lt_mul'' w1 w2
    _ ≤ 60 ^ 200 := by rw [← Nat.pow_add]; exact Nat.pow_le_pow_right (by decide) (by decide)
theorem pure_cast {vs : List V} {E : XK} (h : sp_cast K vs H Q E) : t_cast K (endsOf Q) (start ["row"] vs) H := by
  obtain ⟨a, r, rfl, hr, ir, q⟩ := h
  show t_cast K (endsOf Q) [some (.ref a)] H
  unfold t_cast
  walk_at "go"
  refine ⟨a, r, rfl, hr, ir, ?_⟩
  walk_at "go"
  refine i_sumN hr ?_
  walk_at "go"
  exact q
/-! the laws' helpers -/
theorem pure__law_dice {vs : List V} {E : XK} (h : sp__law_dice K vs H Q E) : t__law_dice K (endsOf Q) (start ["_law_script", "_law_mixed", "_law_cell"] vs) H := by
  obtain ⟨a, ns, rfl, hr, hl, q⟩ := h
  show t__law_dice K (endsOf Q) [some (.ref a), none, none] H
  unfold t__law_dice
  walk_at "go"
  refine i_for (i_iList ?_)
  walk_at "go"
  refine l_list (K := K) (xs := ns.map V.int) hr (fun i σ H' => ∃ x m, σ = [some (.ref a), some (natV m), x] ∧ m < 2147483647 ∧ H' = H) ⟨none, 0, rfl, by decide, rfl⟩ ?_ ?_ ?_
  · rintro i σ H' _ ⟨x, m, rfl, _, rfl⟩
    exact hr
  · rintro i x σ H' hx ⟨y, m, rfl, hm, rfl⟩
    obtain ⟨z, _, rfl⟩ := List.mem_map.mp (List.mem_of_getElem? hx)
    walk_at "go"
    refine i_mdI (by decide) fun k hk => ?_
    walk_at "go"
    exact ⟨_, _, rfl, Nat.mod_lt _ (by decide), rfl⟩
  · rintro σ H' ⟨x, m, rfl, hm, rfl⟩
    walk_at "go"
    refine i_lenL hr ?_
    walk_at "go"
    have key : ∀ c : Nat, c ≤ 1 → m * c < 2147483647 := fun c hc => by
      rcases Nat.le_one_iff_eq_zero_or_eq_one.mp hc with rfl | rfl <;> omega
    refine i_mulWN (m := 31) (n := 1) (by omega) (by split <;> omega) (by decide) (by decide) (by decide) ?_
    walk_at "go"
    refine ⟨szl (by simp), fun d H1 nd s hd => ?_⟩
    refine q d H1 nd s ⟨a, ⟨0, _, 0, hd, key _ (by split <;> omega)⟩, ns, hl, fun H2 s2 => keep_new hr nd s s2⟩
theorem pure__law_next {vs : List V} {E : XK} (h : sp__law_next K vs H Q E) : t__law_next K (endsOf Q) (start ["_law_dice_here", "_law_many", "_law_found", "_law_cell"] vs) H := by
  obtain ⟨d, m, rfl, D, h0, hm, q⟩ := h
  obtain ⟨sc, ⟨i, x, c, hd, hx⟩, ns, hl, hs⟩ := id D
  show t__law_next K (endsOf Q) [some (.ref d), some (natV m), none, none] H
  unfold t__law_next
  have drew : ∀ (i' x' c' : Nat), x' < 2147483647 → ∀ H', SB d H H' → H' d = some (.lst [.ref sc, natV i', natV x', natV c']) → Drew d H H' := fun i' x' c' hx' H' s e => ⟨s, fun sc2 ⟨_, _, _, e2, _⟩ => by
    rw [hd] at e2
    cases e2
    exact ⟨i', x', c', e, hx'⟩⟩
  walk_at "go"
  refine i_ixL (sql hd) rfl ?_
  walk_at "go"
  refine i_ite (fun hc => ?_) (fun hc => ?_)
  · walk_at "go"
    refine i_ixL (sql hd) rfl ?_
    walk_at "go"
    refine i_ixL (sql hd) rfl ?_
    walk_at "go"
    refine i_setL hd (by simp) ?_
    walk_at "go"
    exact q _ _ (Nat.mod_lt _ h0) (drew i x (c / m) hx _ (SB.upd _ _ _) upd_same)
  · walk_at "go"
    refine i_ixL (sql hd) rfl ?_
    walk_at "go"
    refine i_setL hd (by simp) ?_
    walk_at "go"
    have s1 : SB d H (upd H d (.lst [.ref sc, natV (i + 1), natV x, natV c])) := SB.upd _ _ _
    have e1 : (upd H d (.lst [.ref sc, natV (i + 1), natV x, natV c])) d = some (.lst [.ref sc, natV (i + 1), natV x, natV c]) := upd_same
    generalize upd H d (.lst [.ref sc, natV (i + 1), natV x, natV c]) = H1 at s1 e1 ⊢
    have hs1 := hs H1 s1
    refine i_ixL (sql e1) rfl ?_
    walk_at "go"
    refine i_ixL (sql e1) rfl ?_
    walk_at "go"
    refine i_lenL hs1 ?_
    rw [List.length_map]
    walk_at "go"
    refine i_ite (fun hc2 => ?_) (fun hc2 => ?_)
    · walk_at "go"
      refine i_ixL (sql e1) rfl ?_
      walk_at "go"
      refine i_ixL (sql e1) rfl ?_
      walk_at "go"
      obtain ⟨z, hz⟩ : ∃ z, ns[i + 1 - 1]? = some z := ⟨_, List.getElem?_eq_getElem (by omega)⟩
      refine i_ixL hs1 (v := .int z) (by rw [List.getElem?_map, hz]; rfl) ?_
      walk_at "go"
      refine i_geIN ?_
      walk_at "go"
      have fin : ∀ (c' : Nat), rMd (.int z) (natV m) (upd H1 d (.lst [.ref sc, natV (i + 1), natV x, natV c'])) Q := fun c' =>
        i_mdI h0 fun k hk => q _ _ hk (drew (i + 1) x c' hx _ (s1.trans (SB.upd _ _ _)) upd_same)
      refine i_ite (fun hb => ?_) (fun hb => ?_)
      · walk_at "go"
        obtain ⟨y, rfl⟩ : ∃ y : Nat, z = (y : Int) := ⟨z.toNat, by omega⟩
        refine i_fdN (a := y) h0 hm ?_
        walk_at "go"
        refine i_setL e1 (by simp) ?_
        walk_at "go"
        exact fin _
      · walk_at "go"
        refine i_setL e1 (by simp) ?_
        walk_at "go"
        exact fin _
    · walk_at "go"
      refine i_ixL (sql e1) rfl ?_
      walk_at "go"
      refine i_setL e1 (by simp) ?_
      walk_at "go"
      refine i_ixL (sql upd_same) rfl ?_
      walk_at "go"
      exact q _ _ (Nat.mod_lt _ h0) (drew (i + 1) _ c (Nat.mod_lt _ (by decide)) _ (s1.trans (SB.upd _ _ _)) upd_same)
theorem pure__law_whole_of {vs : List V} {E : XK} (h : sp__law_whole_of K vs H Q E) : t__law_whole_of K (endsOf Q) (start ["_law_row_here", "_law_found", "_law_k"] vs) H := by
  obtain ⟨a, r, rfl, hr, hl, q⟩ := h
  show t__law_whole_of K (endsOf Q) [some (.ref a), none, none] H
  unfold t__law_whole_of
  walk_at "go"
  refine i_for (i_iRng1 ?_)
  walk_at "go"
  refine i_lenT hr ?_
  rw [rowV_len]
  walk_at "go"
  refine l_rng1 (by omega) (fun i σ H' => ∃ x, σ = [some (.ref a), some (natV (whole (r.take i))), x] ∧ H' = H) ⟨none, rfl, rfl⟩ ?_ ?_
  · rintro i σ H' hi ⟨y, rfl, rfl⟩
    walk_at "go"
    have hd : r[i]? = some r[i] := List.getElem?_eq_getElem hi
    refine i_ixT hr (rowV_get hd) ?_
    walk_at "go"
    exact ⟨_, by rw [whole_take hd], rfl⟩
  · rintro σ H' ⟨x, rfl, rfl⟩
    walk_at "go"
    rw [List.take_length]
    exact q
/-- figures, the noughts ahead dropped -/
def dropZ : List Nat → List Nat
  | [] => []
  | d :: r => if d = 0 then dropZ r else d :: r
theorem dropZ_figs (n : Nat) (h : 0 < n) : dropZ (figsL n) = figsL (strip n) := by
  induction n using Nat.strongRecOn with
  | ind n ih =>
    rw [figsL_pos h]
    by_cases e : n % 60 = 0
    · show (if n % 60 = 0 then _ else _) = _
      rw [if_pos e, ih (n / 60) (by omega) (by omega), strip_yes h e]
    · show (if n % 60 = 0 then _ else _) = _
      rw [if_neg e, strip_no h e, figsL_pos h]
theorem i_eqDN {k j : Nat} (q : Q (.bl (decide (k = j))) H) : rEqD K (natV k) (natV j) H Q := by
  refine ⟨.int k, .int j, .int _, .int _, rfl, rfl, ?_⟩
  have e : PyData.eqv (.int (k : Int)) (.int (j : Int)) = decide (k = j) := by
    rw [PyData.eqv]
    by_cases h : k = j
    · subst h; simp
    · rw [decide_eq_false h, beq_eq_false_iff_ne]; omega
  rw [e]; exact q
theorem pure__law_row {vs : List V} {E : XK} (h : sp__law_row K vs H Q E) : t__law_row K (endsOf Q) (start ["_law_number", "_law_figures"] vs) H := by
  obtain ⟨n, rfl, h0, hn, q⟩ := h
  have hlen := figsL_len 200 n hn
  show t__law_row K (endsOf Q) [some (natV n), none] H
  unfold t__law_row
  walk_at "go"
  refine ⟨szl (by simp), fun p H1 np s1 hp => ?_⟩
  walk_at "go"
  refine l_whileN (fun m σ H' => ∃ l, σ = [some (natV m), some (.ref p)] ∧ Same H H' ∧ H' p = some (.lst (rowV l)) ∧ figsL n = l ++ figsL m) n ⟨[], rfl, s1, hp, rfl⟩ ?_
  rintro m σ H' ⟨l, rfl, s, hl, e⟩
  walk_at "go"
  refine i_ite (fun hm => l_turn ?_) (fun hm => ?_)
  · walk_at "go"
    have hz : l.length ≤ 1000 := by have := congrArg List.length e; rw [List.length_append] at this; omega
    refine i_ty hl ?_
    walk_at "go"
    refine i_app hl (by rw [rowV_len]; omega) ?_
    walk_at "go"
    refine ⟨m / 60, by omega, l ++ [m % 60], rfl, Same.mut s np, ?_, figsL_step hm e⟩
    rw [upd_same, rowV_snoc]
  · walk_at "go"
    have : m = 0 := by omega
    subst this
    rw [figsL_zero, List.append_nil] at e
    subst e
    refine l_whileN (fun k σ H' => ∃ l, k = l.length ∧ σ = [some (natV 0), some (.ref p)] ∧ Same H H' ∧ H' p = some (.lst (rowV l)) ∧ l ≠ [] ∧ dropZ l = figsL (strip n)) _ ⟨figsL n, rfl, rfl, s, hl, by rw [figsL_pos h0]; simp, dropZ_figs n h0⟩ ?_
    rintro k σ H' ⟨l, rfl, rfl, s, hl, hne, e⟩
    have hsn := (strip_spec n h0).1
    walk_at "go"
    obtain ⟨d, l', rfl⟩ := List.exists_cons_of_ne_nil hne
    refine i_ixL (sql hl) (v := natV d) rfl ?_
    walk_at "go"
    refine i_ite (fun hd => l_turn ?_) (fun hd => ?_)
    · walk_at "go"
      subst hd
      have e' : dropZ l' = figsL (strip n) := e
      refine i_ty hl ?_
      walk_at "go"
      refine i_pop0 (xs := rowV l') hl ?_
      walk_at "go"
      refine ⟨l'.length, by simp, l', rfl, rfl, Same.mut s np, upd_same, ?_, e'⟩
      rintro rfl
      rw [figsL_pos hsn] at e'; cases e'
    · walk_at "go"
      refine i_revL ?_
      walk_at "go"
      refine i_exseq (sql hl) fun p2 H2 np2 s2 hp2 => ?_
      walk_at "go"
      refine i_tupOfL (sql hp2) fun p3 H3 s3 hp3 => ?_
      refine q p3 H3 ((Same.trans s s2).trans s3) ?_
      have e' : d :: l' = figsL (strip n) := by rw [← e]; show _ = (if d = 0 then _ else _); rw [if_neg hd]
      rw [rowV_rev, e'] at hp3; exact hp3

theorem pow_le9 {p a : Nat} (hp : 1 ≤ p) (h : a ≤ 9) : p ^ a ≤ p ^ 9 := Nat.pow_le_pow_right hp h
theorem smooth_lt {a b c : Nat} (ha : a ≤ 9) (hb : b ≤ 9) (hc : c ≤ 9) : 2 ^ a * 3 ^ b * 5 ^ c < 2 ^ 60 :=
  Nat.lt_of_le_of_lt (Nat.mul_le_mul (Nat.mul_le_mul (pow_le9 (by decide) ha) (pow_le9 (by decide) hb)) (pow_le9 (by decide) hc)) (by decide)
/-- one draw -/
theorem i_draw {d : Addr} {m : Nat} {E : XK} (D : Dice K H d) (h0 : 0 < m := by decide) (h1 : m < 1073741824 := by decide) (q : ∀ n H', n < m → Drew d H H' → Q (natV n) H') : sp__law_next K ([.ref d, natV m] ++ []) H Q E := ⟨d, m, rfl, D, h0, h1, q⟩
theorem smooth_in {D : Ends} {d : Addr} {f p : Nat} {x y : Option V} (hd : Dice K H d) (hf : ∀ j, j ≤ 9 → f * p ^ j < 2 ^ 60) (hp : p ≤ 5)
    (q : ∀ n H' z, n ≤ 9 → Drew d H H' → D.nx [some (.ref d), some (natV (f * p ^ n)), some (natV p), z] H') :
    tFor (iRng1 (tCons (tOp (rIxL K) (tLstN (tCons (tCall (sp__law_next K) [] E0 (tCons (tVar 0) (tCons (tC (natV 4)) tNil))) (tCons (tCall (sp__law_next K) [] E0 (tCons (tVar 0) (tCons (tC (natV 10)) tNil))) tNil))) (tCB rInt1 (tCons (tOp rEq (tCall (sp__law_next K) [] E0 (tCons (tVar 0) (tCons (tC (natV 4)) tNil))) (tC (natV 3))) tNil))) tNil)) (gName 3)
      (tAsg (tOp rMulW (tVar 1) (tVar 2)) (gName 1)) D [some (.ref d), some (natV f), some (natV p), y] H := by
  refine i_for (i_iRng1 ?_)
  walk_at "go"
  refine i_draw hd (q := fun n1 H1 h1 d1 => ?_)
  walk_at "go"
  refine i_draw (hd.drew d1) (q := fun n2 H2 h2 d2 => ?_)
  walk_at "go"
  refine ⟨szl (by simp), fun l H3 nl s3 hl => ?_⟩
  have d3 := (d1.trans d2).same s3
  walk_at "go"
  refine i_draw (hd.drew d3) (q := fun n4 H4 h4 d4 => ?_)
  walk_at "go"
  have hl4 : H4 l = some (.lst [natV n1, natV n2]) := d4.1 l _ ((hd.drew (d1.trans d2)).ne nl) hl
  have dr := d3.trans d4
  have go : ∀ n, n ≤ 9 → ∃ j : Int, [natV n] = [V.int j] ∧ -(2 ^ 62) ≤ j ∧ j < 2 ^ 62 ∧ ∃ W : Nat → Nat → L2.St → Hp → Prop, (∃ m, W 0 m [some (.ref d), some (natV f), some (natV p), y] H4) ∧ ∀ i m σ H, W i m σ H →
      ((Itr 0 j.toNat).stop i H ∧ D.nx σ H) ∨ ((Itr 0 j.toNat).go i H ∧ ∃ N : L2.St → Hp → Prop, (∀ σ' H', N σ' H' → ∃ m', m' < m ∧ W (i + 1) m' σ' H') ∧ ∀ x H', (Itr 0 j.toNat).yld i H x H' → gName 3 x σ H' fun σ2 H2 =>
        tAsg (tOp rMulW (tVar 1) (tVar 2)) (gName 1) { D with nx := N, ct := N, bk := D.nx } σ2 H2) := by
    intro n hn
    refine l_rng1 (by omega) (fun i σ H' => ∃ z, σ = [some (.ref d), some (natV (f * p ^ i)), some (natV p), z] ∧ H' = H4) ⟨y, by rw [Nat.pow_zero, Nat.mul_one], rfl⟩ ?_ ?_
    · rintro i σ H' hi ⟨z, rfl, rfl⟩
      walk_at "go"
      refine i_mulWN (m := 60) (n := 3) (hf i (by omega)) (by omega) (by decide) (by decide) (by decide) ?_
      walk_at "go"
      exact ⟨_, by rw [Nat.pow_succ, Nat.mul_assoc], rfl⟩
    · rintro σ H' ⟨z, rfl, rfl⟩
      exact q n H' z hn dr
  by_cases e : n4 = 3
  · refine i_ixL (sql hl4) (v := natV n2) (by rw [decide_eq_true e]; rfl) ?_
    walk_at "go"
    exact go n2 (by omega)
  · refine i_ixL (sql hl4) (v := natV n1) (by rw [decide_eq_false e]; rfl) ?_
    walk_at "go"
    exact go n1 (by omega)
theorem pure__law_smooth {vs : List V} {E : XK} (h : sp__law_smooth K vs H Q E) : t__law_smooth K (endsOf Q) (start ["_law_d", "_law_found", "_law_prime", "_law_k"] vs) H := by
  obtain ⟨d, rfl, hd, q⟩ := h
  show t__law_smooth K (endsOf Q) [some (.ref d), none, none, none] H
  unfold t__law_smooth
  walk_at "go"
  refine i_for (i_iList ?_)
  walk_at "go"
  refine ⟨szl (by simp), fun l H1 nl s1 hl => ?_⟩
  have hne : l ≠ d := hd.ne nl
  refine l_list (K := K) (sql hl) (fun i σ H' => ∃ a b c x y, a ≤ 9 ∧ b ≤ 9 ∧ c ≤ 9 ∧ (i ≤ 0 → a = 0) ∧ (i ≤ 1 → b = 0) ∧ (i ≤ 2 → c = 0) ∧ σ = [some (.ref d), some (natV (2 ^ a * 3 ^ b * 5 ^ c)), x, y] ∧ Drew d H H' ∧ H' l = some (.lst [natV 2, natV 3, natV 5]))
    ⟨0, 0, 0, none, none, by decide, by decide, by decide, fun _ => rfl, fun _ => rfl, fun _ => rfl, rfl, Drew.of s1, hl⟩ ?_ ?_ ?_
  · rintro i σ H' _ ⟨a, b, c, x, y, _, _, _, _, _, _, rfl, _, hl⟩
    exact sql hl
  · rintro i x σ H' hx ⟨a, b, c, x0, y0, ha, hb, hc, ea, eb, ec, rfl, dr, hl⟩
    walk_at "go"
    rcases i with _ | _ | _ | i
    · obtain rfl : natV 2 = x := Option.some.inj hx
      obtain rfl := ea (by omega)
      obtain rfl := eb (by omega)
      obtain rfl := ec (by omega)
      refine smooth_in (f := 2 ^ 0 * 3 ^ 0 * 5 ^ 0) (x := x0) (hd.drew dr) (fun j hj => ?_) (by decide) fun n H2 z hn d2 => ?_
      · have := smooth_lt (a := j) (b := 0) (c := 0) hj (by decide) (by decide); omega
      · exact ⟨n, 0, 0, _, _, hn, by decide, by decide, fun h => by omega, fun _ => rfl, fun _ => rfl, by rw [show 2 ^ 0 * 3 ^ 0 * 5 ^ 0 * 2 ^ n = 2 ^ n * 3 ^ 0 * 5 ^ 0 by omega], dr.trans d2, d2.1 l _ hne hl⟩
    · obtain rfl : natV 3 = x := Option.some.inj hx
      obtain rfl := eb (by omega)
      obtain rfl := ec (by omega)
      refine smooth_in (f := 2 ^ a * 3 ^ 0 * 5 ^ 0) (x := x0) (hd.drew dr) (fun j hj => ?_) (by decide) fun n H2 z hn d2 => ?_
      · have := smooth_lt (a := a) (b := j) (c := 0) ha hj (by decide); simp only [Nat.pow_zero, Nat.mul_one] at this ⊢; exact this
      · exact ⟨a, n, 0, _, _, ha, hn, by decide, fun h => by omega, fun h => by omega, fun _ => rfl, by simp only [Nat.pow_zero, Nat.mul_one]; rfl, dr.trans d2, d2.1 l _ hne hl⟩
    · obtain rfl : natV 5 = x := Option.some.inj hx
      obtain rfl := ec (by omega)
      refine smooth_in (f := 2 ^ a * 3 ^ b * 5 ^ 0) (x := x0) (hd.drew dr) (fun j hj => ?_) (by decide) fun n H2 z hn d2 => ?_
      · have := smooth_lt (a := a) (b := b) (c := j) ha hb hj; rw [Nat.pow_zero, Nat.mul_one]; exact this
      · exact ⟨a, b, n, _, _, ha, hb, hn, fun h => by omega, fun h => by omega, fun h => by omega, by rw [Nat.pow_zero, Nat.mul_one], dr.trans d2, d2.1 l _ hne hl⟩
    · simp at hx
  · rintro σ H' ⟨a, b, c, x, y, ha, hb, hc, _, _, _, rfl, dr, _⟩
    walk_at "go"
    exact q a b c H' ha hb hc dr

theorem getLast_take {α : Type} {l : List α} {n : Nat} (h : l ≠ []) (hn : 1 ≤ n) : l.take n ≠ [] := by
  cases l with
  | nil => exact absurd rfl h
  | cons x r =>
    cases n with
    | zero => omega
    | succ n => simp
theorem rowV_take (r : List Nat) (n : Nat) : (rowV r).take n = rowV (r.take n) := by unfold rowV; rw [List.map_take]
theorem rowV_last {r : List Nat} {x : Nat} (h : r.getLast? = some x) : (rowV r).getLast? = some (natV x) := by unfold rowV; rw [List.getLast?_map, h]; rfl
theorem row_130 : IsRow [1, 30] := ⟨by decide, by decide, by decide, by decide⟩
theorem drawn_row {r : List Nat} {m x : Nat} (h1 : ∀ d ∈ r, d < 60) (h2 : r ≠ []) (h3 : r[0]? ≠ some 0) (hm : 1 ≤ m) (hm2 : m ≤ 12) (hx : (r.take m).getLast? = some x) (h0 : 0 < x) : IsRow (r.take m) := by
  have hne := getLast_take h2 hm
  refine ⟨⟨List.length_pos_iff.mpr hne, by rw [List.length_take]; omega⟩, fun d hd => h1 d (List.mem_of_mem_take hd), ?_, ?_⟩
  · rw [List.getElem?_take]
    rw [if_pos (by omega)]; exact h3
  · rw [hx]; intro e
    have := Option.some.inj e
    omega
theorem isRow_one {n : Nat} (h : 0 < n) (hl : n ≤ 60) : IsRow (rowOf n) ∧ (rowOf n).length = 1 := by
  have key : ∀ k : Fin 60, IsRow (rowOf (k.val + 1)) ∧ (rowOf (k.val + 1)).length = 1 := by
    intro k
    have h1 : IsRow (rowOf (k.val + 1)) := isRow_small (by omega) (Nat.lt_of_le_of_lt (Nat.succ_le_of_lt k.isLt) (by decide))
    refine ⟨h1, ?_⟩
    revert k; intro k _
    have : ∀ k : Fin 60, (rowOf (k.val + 1)).length = 1 := by decide +kernel
    exact this k
  have := key ⟨n - 1, by omega⟩
  rw [show n - 1 + 1 = n by omega] at this
  exact this
theorem smooth_row_lt {a b c k : Nat} (ha : a ≤ 9) (hb : b ≤ 9) (hc : c ≤ 9) (hk : k ≤ 49) : 2 ^ a * 3 ^ b * 5 ^ c * k < 60 ^ 200 := by
  have h1 := smooth_lt ha hb hc
  calc 2 ^ a * 3 ^ b * 5 ^ c * k ≤ 2 ^ 60 * 49 := Nat.mul_le_mul (by omega) hk
    _ < 60 ^ 200 := by decide
theorem rowOf_spec {n : Nat} (h : 0 < n) : (∀ d ∈ rowOf n, d < 60) ∧ rowOf n ≠ [] ∧ (rowOf n)[0]? ≠ some 0 := by
  have h1 := (strip_spec n h).1
  refine ⟨figs_lt _, ?_, figs_head h1⟩
  intro e
  have := figs_len1 h1
  have e2 : figs (strip n) = [] := e
  rw [e2] at this; simp at this
theorem drawn_tail {d : Addr} {m : Nat} {kd fg ck : Option V} {H0 : Hp} {p : Addr} {r : List Nat} (hm : 2 ≤ m) (hm2 : m ≤ 12)
    (q : ∀ p r H', IsRow r → r.length ≤ m → Drew d H0 H' → SqT K H' p (rowV r) → Q (.ref p) H') (dr : Drew d H0 H) (hr : SqT K H p (rowV r)) (h1 : ∀ d ∈ r, d < 60) (h2 : r ≠ []) (h3 : r[0]? ≠ some 0) :
    tRet (tIf (tTest (tOp rGt (tOp (rIxT K) (tSl (rSlN K) (tVar 3) tNoPart (tPart (tVar 1))) (tUn rNeg (tC (natV 1)))) (tC (natV 0)))) (tSl (rSlN K) (tVar 3) tNoPart (tPart (tVar 1))) (tTupN K (tCons (tC (natV 1)) (tCons (tC (natV 30)) tNil)))) (endsOf Q)
      [some (.ref d), some (natV m), kd, some (.ref p), fg, ck] H := by
  walk_at "go"
  refine i_slT hr fun p2 H2 s2 hp2 => ?_
  rw [cutV_to, rowV_take] at hp2
  walk_at "go"
  obtain ⟨x, hx⟩ : ∃ x, (r.take m).getLast? = some x := ⟨_, List.getLast?_eq_getLast (getLast_take h2 (by omega))⟩
  refine i_ixlast hp2 (rowV_last hx) ?_
  walk_at "go"
  refine i_ite (fun hc => ?_) (fun hc => ?_)
  · walk_at "go"
    refine i_slT (Same.seqT s2 hr) fun p3 H3 s3 hp3 => ?_
    rw [cutV_to, rowV_take] at hp3
    exact q p3 _ H3 (drawn_row h1 h2 h3 (by omega) hm2 hx hc) (by rw [List.length_take]; omega) ((dr.same s2).same s3) hp3
  · walk_at "go"
    refine ⟨szl (by simp), fun p3 H3 s3 hp3 => ?_⟩
    exact q p3 [1, 30] H3 row_130 (by simpa using hm) ((dr.same s2).same s3) hp3
theorem pure__law_drawn {vs : List V} {E : XK} (h : sp__law_drawn K vs H Q E) : t__law_drawn K (endsOf Q) (start ["_law_d", "_law_most", "_law_kind", "_law_found", "_law_figures", "_law_k"] vs) H := by
  obtain ⟨d, m, rfl, hd, hm, hm2, q⟩ := h
  show t__law_drawn K (endsOf Q) [some (.ref d), some (natV m), none, none, none, none] H
  unfold t__law_drawn
  walk_at "go"
  refine i_draw hd (q := fun kd H1 _ d1 => ?_)
  walk_at "go"
  refine i_ite (fun hc => ?_) (fun hc => ?_)
  · walk_at "go"
    refine i_draw (hd.drew d1) (q := fun n H2 hn d2 => ?_)
    walk_at "go"
    obtain ⟨r1, r2⟩ := isRow_one (n := 1 + n) (by omega) (by omega)
    refine ⟨1 + n, rfl, by omega, Nat.lt_of_lt_of_le (by omega : 1 + n < 60 ^ 2) (Nat.pow_le_pow_right (by decide) (by decide)), fun p H3 s3 hp => ?_⟩
    exact q p _ H3 r1 (by omega) ((d1.trans d2).same s3) hp
  · walk_at "go"
    refine i_ite (fun hc2 => ?_) (fun hc2 => ?_)
    · walk_at "go"
      refine ⟨d, rfl, hd.drew d1, fun a b c H2 ha hb hc' d2 => ?_⟩
      walk_at "go"
      refine ⟨szl (by simp), fun l H3 nl s3 hl => ?_⟩
      have d3 := (d1.trans d2).same s3
      walk_at "go"
      refine i_draw (hd.drew d3) (q := fun k H4 hk d4 => ?_)
      have hl4 : H4 l = some (.lst [natV 1, natV 1, natV 1, natV 7, natV 49, natV 11]) := d4.1 l _ ((hd.drew (d1.trans d2)).ne nl) hl
      obtain ⟨y, hy, hy1, hy2⟩ : ∃ y, ([natV 1, natV 1, natV 1, natV 7, natV 49, natV 11] : List V)[k]? = some (natV y) ∧ 0 < y ∧ y ≤ 49 := by
        rcases k with _ | _ | _ | _ | _ | _ | k
        · exact ⟨1, rfl, by decide, by decide⟩
        · exact ⟨1, rfl, by decide, by decide⟩
        · exact ⟨1, rfl, by decide, by decide⟩
        · exact ⟨7, rfl, by decide, by decide⟩
        · exact ⟨49, rfl, by decide, by decide⟩
        · exact ⟨11, rfl, by decide, by decide⟩
        · omega
      refine i_ixL (sql hl4) hy ?_
      refine i_mulWN (m := 60) (n := 6) (smooth_lt ha hb hc') (by omega) (by decide) (by decide) (by decide) ?_
      walk_at "go"
      have hpos : 0 < 2 ^ a * 3 ^ b * 5 ^ c * y := Nat.mul_pos (Nat.mul_pos (Nat.mul_pos (Nat.pos_of_ne_zero (by simp)) (Nat.pos_of_ne_zero (by simp))) (Nat.pos_of_ne_zero (by simp))) hy1
      refine ⟨_, rfl, hpos, smooth_row_lt ha hb hc' hy2, fun p H5 s5 hp => ?_⟩
      walk_at "s"
      obtain ⟨w1, w2, w3⟩ := rowOf_spec hpos
      exact drawn_tail hm hm2 q ((d3.trans d4).same s5) hp w1 w2 w3
    · walk_at "go"
      refine i_draw (m := m) (hd.drew d1) (by omega) (by omega) (q := fun n H2 hn d2 => ?_)
      walk_at "go"
      have d12 := d1.trans d2
      refine ⟨1 + n, rfl, by omega, fun D nD => ⟨fun i H' => ∃ l : List Nat, l.length = i ∧ (∀ x ∈ l, x < 60) ∧ Drew d H H' ∧ H' D = some (.lst (rowV l)), ⟨[], rfl, by simp, d12.same (same_new nD), upd_same⟩, ?_, ?_⟩⟩
      · rintro i H' hi ⟨l, rfl, hl, dr, hD⟩
        walk_at "go"
        refine i_lcg ?_
        walk_at "go"
        refine i_draw (hd.drew dr) (q := fun k H3 hk d3 => ?_)
        have hne : D ≠ d := (hd.drew d12).ne nD
        have hD3 := d3.1 D _ hne hD
        refine i_lcput hD3 (by rw [rowV_len]; omega) ⟨l ++ [k], by simp, ?_, (dr.trans d3).mut (Drew.back hd d12 nD) hne, ?_⟩
        · intro x hx
          rcases List.mem_append.mp hx with hx | hx
          · exact hl x hx
          · rw [List.mem_singleton.mp hx]; exact hk
        · rw [upd_same, rowV_snoc]
      · rintro H' ⟨l, hln, hl, dr, hD⟩
        walk_at "go"
        refine i_draw (hd.drew dr) (q := fun k H3 hk d3 => ?_)
        walk_at "go"
        refine ⟨szl (by simp), fun p4 H4 s4 hp4 => ?_⟩
        walk_at "go"
        have hne : D ≠ d := (hd.drew d12).ne nD
        refine i_tupOfL (sql (s4 _ _ (d3.1 D _ hne hD))) fun p5 H5 s5 hp5 => ?_
        refine i_cat (Same.seqT s5 hp4) hp5 (by rw [rowV_len]; simp; omega) fun p6 H6 s6 hp6 => ?_
        walk_at "go"
        have d6 := (((dr.trans d3).same s4).same s5).same s6
        refine i_draw (hd.drew d6) (q := fun k2 H7 hk2 d7 => ?_)
        walk_at "go"
        refine ⟨szl (by simp), fun p8 H8 s8 hp8 => ?_⟩
        refine i_cat (Same.seqT s8 ((hd.drew d6).row d7 hp6)) hp8 (by rw [List.length_append, rowV_len]; simp; omega) fun p9 H9 s9 hp9 => ?_
        walk_at "s"
        have e : ([natV (1 + k)] ++ rowV l) ++ [natV (1 + k2)] = rowV ((1 + k) :: l ++ [1 + k2]) := by unfold rowV; simp
        rw [e] at hp9
        refine drawn_tail hm hm2 q (((d6.trans d7).same s8).same s9) hp9 ?_ (by simp) ?_
        · intro x hx
          rcases List.mem_append.mp hx with hx | hx
          · rcases List.mem_cons.mp hx with rfl | hx
            · omega
            · exact hl x hx
          · rw [List.mem_singleton.mp hx]; omega
        · intro e
          have : 1 + k = 0 := Option.some.inj e
          omega

/-! likeness -/
theorem ty_list {xs : List V} (h : SqL K H a xs) : TyX K H (.ref a) (.type "list") := by
  rcases h with (h | ⟨o, h⟩) | ⟨o, its, n, h2, h3, _⟩
  · exact .base (.lst h)
  · exact .base (.frz h)
  · exact .kList h2 h3
theorem ty_tup {xs : List V} (h : SqT K H a xs) : TyX K H (.ref a) (.type "tuple") := by
  rcases h with (h | ⟨o, h⟩) | ⟨o, its, n, h2, h3, _⟩
  · exact .base (.tup h)
  · exact .fTuple h
  · exact .kTuple h2 h3
theorem i_isi {x : V} {t c : String} {b : Bool} (h : TyX K H x (.type t)) (e : kitB t c = some b) (q : Q (.bl b) H) : rIsi K [x, .ty c] H Q := ⟨x, .ty c, .type t, .type c, b, rfl, .ty c, h, kit_ty e, q⟩
theorem i_isNref {b : Addr} (q : Q (.bl false) H) : rIsN (.ref b) .non H Q := ⟨rfl, by rw [decide_eq_false (by intro h; cases h)]; exact q⟩
theorem i_isNint {b : Nat} (q : Q (.bl false) H) : rIsN (natV b) .non H Q := ⟨rfl, by rw [decide_eq_false (by intro h; cases h)]; exact q⟩
theorem i_isNnon (q : Q (.bl true) H) : rIsN .non .non H Q := ⟨rfl, by rw [decide_eq_true rfl]; exact q⟩
theorem i_neBB {b : Bool} (q : Q (.bl false) H) : rNe (.bl b) (.bl b) H Q := ⟨rfl, by rw [decide_eq_true rfl]; exact q⟩
theorem dpAll_len : ∀ {xs : List V} {ds : List PyData}, DpAll K H xs ds → xs.length = ds.length
  | _, _, .nil => rfl
  | _, _, .cons _ h => by rw [List.length_cons, List.length_cons, dpAll_len h]
theorem dpAll_get : ∀ {xs : List V} {ds : List PyData} {i : Nat} {d : PyData}, DpAll K H xs ds → ds[i]? = some d → ∃ x, xs[i]? = some x ∧ Dp K H x d
  | _, _, i, d, .nil, h => by simp at h
  | _, _, 0, d, .cons h _, e => by
    obtain rfl := Option.some.inj e
    exact ⟨_, rfl, h⟩
  | _, _, i + 1, d, .cons _ h, e => dpAll_get (i := i) h e
theorem like_loop {n : Nat} {x y : V} {ds : List PyData} {D : Ends} {z : Option V} (hx : ∃ a xs, x = .ref a ∧ (SqL K H a xs ∨ SqT K H a xs) ∧ DpAll K H xs ds) (hy : ∃ a xs, y = .ref a ∧ (SqL K H a xs ∨ SqT K H a xs) ∧ DpAll K H xs ds)
    (hp : ∀ d ∈ ds, plainD n d) (hz : ds.length < 2 ^ 62) (q : ∀ z, D.nx [some x, some y, z] H) :
    tFor (iRng1 (tCons (tCB (rLen K) (tCons (tVar 1) tNil)) tNil)) (gName 2)
      (tIfS (tNot (tB (tCall (spLike K (n + 1)) [] E0 (tCons (tOp (rIxQ K) (tVar 0) (tVar 2)) (tCons (tOp (rIxQ K) (tVar 1) (tVar 2)) tNil))))) (tRet (tC (.bl false))) tNext) D [some x, some y, z] H := by
  obtain ⟨a, xs, rfl, ha, da⟩ := hx
  obtain ⟨b, ys, rfl, hb, db⟩ := hy
  have ix : ∀ {a : Addr} {xs : List V} {i : Nat} {v : V} {Q : VK}, (SqL K H a xs ∨ SqT K H a xs) → xs[i]? = some v → Q v H → rIxQ K (.ref a) (natV i) H Q := fun h e q => by
    rcases h with h | h
    · exact .inl (i_ixL h e q)
    · exact .inr (i_ixT h e q)
  refine i_for (i_iRng1 ?_)
  walk_at "go"
  refine ⟨b, ys, rfl, hb, ?_⟩
  rw [dpAll_len db]
  refine l_rng1 hz (fun i σ H' => ∃ z, σ = [some (.ref a), some (.ref b), z] ∧ H' = H) ⟨z, rfl, rfl⟩ ?_ ?_
  · rintro i σ H' hi ⟨z, rfl, rfl⟩
    walk_at "go"
    have hd : ds[i]? = some ds[i] := List.getElem?_eq_getElem hi
    obtain ⟨u, hu, du⟩ := dpAll_get da hd
    obtain ⟨w, hw, dw⟩ := dpAll_get db hd
    refine ix ha hu ?_
    walk_at "go"
    refine ix hb hw ?_
    refine ⟨u, w, ds[i], rfl, du, dw, hp _ (List.getElem_mem hi), ?_⟩
    walk_at "go"
    exact ⟨_, rfl, rfl⟩
  · rintro σ H' ⟨z, rfl, rfl⟩
    exact q z
theorem pure__law_like {vs : List V} {E : XK} {n : Nat} (h : spLike K (n + 1) vs H Q E) : t__law_like K (spLike K n) (endsOf Q) (start ["_law_found", "_law_due", "_law_k"] vs) H := by
  obtain ⟨x, y, D, rfl, hx, hy, hp, q⟩ := h
  show t__law_like K (spLike K n) (endsOf Q) [some x, some y, none] H
  unfold t__law_like
  cases D with
  | none =>
    cases hx; cases hy
    walk_at "go"
    refine i_isi (.base .non) (b := false) (by decide +kernel) ?_
    walk_at "go"
    refine i_isi (.base .non) (b := false) (by decide +kernel) ?_
    walk_at "go"
    refine i_isNnon ?_
    walk_at "go"
    refine i_isNnon ?_
    exact q
  | bool b => exact (by cases n <;> exact hp.elim)
  | int i =>
    cases hx; cases hy
    walk_at "go"
    refine i_isi (.base (.int i)) (b := false) (by decide +kernel) ?_
    walk_at "go"
    refine i_isi (.base (.int i)) (b := true) (by decide +kernel) ?_
    walk_at "go"
    refine i_isi (.base (.int i)) (b := true) (by decide +kernel) ?_
    refine ⟨_, rfl, i_iteT ?_⟩
    walk_at "go"
    refine i_isi (.base (.int i)) (b := false) (by decide +kernel) ?_
    refine ⟨_, rfl, ?_⟩
    refine ⟨_, rfl, i_iteT ?_⟩
    walk_at "go"
    refine ⟨.int i, .int i, .int i, .int i, rfl, rfl, ?_⟩
    rw [show PyData.eqv (.int i) (.int i) = true by simp [PyData.eqv]]
    exact q
  | str z =>
    cases hx; cases hy
    have hz : PyData.canLay0 (.str z) = true := by cases n <;> exact hp
    walk_at "go"
    refine i_isi (.base (.str z)) (b := true) (by decide +kernel) ?_
    walk_at "go"
    refine i_isi (.base (.str z)) (b := true) (by decide +kernel) ?_
    refine ⟨_, rfl, i_iteT ?_⟩
    walk_at "go"
    have hsh : SeqAt.shaped (.str z) = true := by simp [SeqAt.shaped, PyData.depth, hz]
    refine ⟨.str z, .str z, .str z, .str z, hsh, hsh, ?_⟩
    rw [show PyData.eqv (.str z) (.str z) = true by simp [PyData.eqv]]
    exact q
  | list ds =>
    cases n with
    | zero => exact hp.elim
    | succ n =>
      obtain ⟨hz, hp⟩ := hp
      cases hx with
      | lst h1 h2 =>
        cases hy with
        | lst h3 h4 =>
          walk_at "go"
          refine i_isi (ty_list h3) (b := false) (by decide +kernel) ?_
          walk_at "go"
          refine i_isi (ty_list h3) (b := false) (by decide +kernel) ?_
          walk_at "go"
          refine i_isNref ?_
          walk_at "go"
          refine i_isi (ty_list h3) (b := false) (by decide +kernel) ?_
          walk_at "go"
          refine i_isi (ty_list h1) (b := false) (by decide +kernel) ?_
          refine i_neBB ?_
          walk_at "go"
          refine i_isi (ty_list h3) (b := true) (by decide +kernel) ?_
          walk_at "go"
          refine i_isi (ty_list h1) (b := true) (by decide +kernel) ?_
          refine i_neBB ?_
          walk_at "go"
          refine i_lenL h1 ?_
          walk_at "go"
          refine i_lenL h3 ?_
          rw [dpAll_len h2, dpAll_len h4]
          walk_at "go"
          refine like_loop (n := n) ⟨_, _, rfl, .inl h1, h2⟩ ⟨_, _, rfl, .inl h3, h4⟩ hp (by omega) fun z => ?_
          walk_at "go"
          exact q
  | tuple ds =>
    cases n with
    | zero => exact hp.elim
    | succ n =>
      obtain ⟨hz, hp⟩ := hp
      cases hx with
      | tup h1 h2 =>
        cases hy with
        | tup h3 h4 =>
          walk_at "go"
          refine i_isi (ty_tup h3) (b := false) (by decide +kernel) ?_
          walk_at "go"
          refine i_isi (ty_tup h3) (b := false) (by decide +kernel) ?_
          walk_at "go"
          refine i_isNref ?_
          walk_at "go"
          refine i_isi (ty_tup h3) (b := true) (by decide +kernel) ?_
          walk_at "go"
          refine i_isi (ty_tup h1) (b := true) (by decide +kernel) ?_
          refine i_neBB ?_
          walk_at "go"
          refine i_isi (ty_tup h3) (b := false) (by decide +kernel) ?_
          walk_at "go"
          refine i_isi (ty_tup h1) (b := false) (by decide +kernel) ?_
          refine i_neBB ?_
          walk_at "go"
          refine i_lenT h1 ?_
          walk_at "go"
          refine i_lenT h3 ?_
          rw [dpAll_len h2, dpAll_len h4]
          walk_at "go"
          refine like_loop (n := n) ⟨_, _, rfl, .inr h1, h2⟩ ⟨_, _, rfl, .inr h3, h4⟩ hp (by omega) fun z => ?_
          walk_at "go"
          exact q
  | dict kvs => exact (by cases n <;> exact hp.elim)
end
end Sx
open PySem L2 RT Sx

namespace Sx
section
variable {K : PySem.W.Frag} {H : Hp} {Q : VK}
def rowD (r : List Nat) : PyData := .tuple (r.map fun n : Nat => PyData.int (n : Int))
theorem dp_ints : ∀ r : List Nat, DpAll K H (rowV r) (r.map fun n : Nat => PyData.int (n : Int))
  | [] => .nil
  | d :: r => .cons (.int (d : Int)) (dp_ints r)
theorem dp_row {a : Addr} {r : List Nat} (h : SqT K H a (rowV r)) : Dp K H (.ref a) (rowD r) := .tup h (dp_ints r)
theorem plain_row {n : Nat} {r : List Nat} (h : r.length ≤ 100000) : plainD (n + 1) (rowD r) := by
  refine ⟨by rw [List.length_map]; exact h, fun d hd => ?_⟩
  obtain ⟨k, _, rfl⟩ := List.mem_map.mp hd
  cases n <;> trivial
theorem depth_ints : ∀ r : List Nat, PyData.depthAll (r.map fun n : Nat => PyData.int (n : Int)) ≤ 1 ∧ PyData.canLayAll0 (r.map fun n : Nat => PyData.int (n : Int)) = true ∧ PyData.eqvAll (r.map fun n : Nat => PyData.int (n : Int)) (r.map fun n : Nat => PyData.int (n : Int)) = true
  | [] => by simp [PyData.depthAll, PyData.canLayAll0, PyData.eqvAll]
  | d :: r => by
    obtain ⟨h1, h2, h3⟩ := depth_ints r
    simp only [List.map_cons, PyData.depthAll, PyData.canLayAll0, PyData.eqvAll, PyData.depth, PyData.canLay0, PyData.eqv, h2, h3]
    refine ⟨by omega, rfl, by simp⟩
theorem shaped_row (r : List Nat) : SeqAt.shaped (rowD r) = true := by
  obtain ⟨h1, h2, _⟩ := depth_ints r
  have h3 : PyData.depth (rowD r) ≤ 64 := by unfold rowD; simp only [PyData.depth]; omega
  show ((rowD r).canLay0 && decide ((rowD r).depth ≤ 64)) = true
  rw [Bool.and_eq_true]
  exact ⟨by unfold rowD; simp only [PyData.canLay0]; exact h2, decide_eq_true h3⟩
theorem eqv_row (r : List Nat) : PyData.eqv (rowD r) (rowD r) = true := by
  unfold rowD; simp only [PyData.eqv]; exact (depth_ints r).2.2
/-- alike rows -/
theorem i_eqR {a b : Addr} {r : List Nat} (h1 : SqT K H a (rowV r)) (h2 : SqT K H b (rowV r)) (q : Q (.bl true) H) : rEqD K (.ref a) (.ref b) H Q :=
  ⟨rowD r, rowD r, dp_row h1, dp_row h2, shaped_row r, shaped_row r, by rw [eqv_row]; exact q⟩
theorem i_likeR {a b : Addr} {r : List Nat} {E : XK} (h1 : SqT K H a (rowV r)) (h2 : SqT K H b (rowV r)) (hz : r.length ≤ 100000) (q : Q (.bl true) H) : sp__law_like K ([.ref a, .ref b] ++ []) H Q E :=
  ⟨_, _, rowD r, rfl, dp_row h1, dp_row h2, plain_row hz, q⟩
end

section
variable {X : Cx}
/-- math.isqrt of a number below 2 ^ 250 -/
def rIsqrt : List V → Hp → VK → Prop := fun vs H Q => ∃ a : Nat, vs = [natV a] ∧ a < 2 ^ 250 ∧ Q (natV (Float64.isqrt a)) H
theorem cr_isqrt : CallR X (.builtin "math.isqrt") rIsqrt := fun pins s σ H vs us Q I r ⟨a, e, hz, q⟩ => by
  subst e
  obtain ⟨u, rfl, t, rfl⟩ := vals1 r
  have hl : a.log2 ≤ 249 := PySem.W.mg_log hz
  have hn : ((a : Nat) : Int).toNat = a := Int.toNat_natCast a
  exact PySem.call_function_meets PySem.W.MGF.kind_isqrt PySem.W.MGF.plain_isqrt PySem.W.MGF.entry_isqrt (PySem.W.MGF.args_isqrt _) (PySem.W.mg_run_isqrt (a : Int) t (by omega) (by rw [hn]; omega) (by rw [hn]; omega)).meets ⟨natV (Float64.isqrt a), H, I.tok _, ⟨_, by rw [hn]⟩, q⟩
end
section
variable {K : PySem.W.Frag} {H : Hp} {Q : VK}
theorem dp_lnil {p : Addr} (h : H p = some (.lst [])) : Dp K H (.ref p) (.list []) := .lst (sql h) .nil
theorem i_neNil {p p2 : Addr} (h : H p = some (.lst [])) (h2 : H p2 = some (.lst [])) (q : Q (.bl false) H) : rNeD K (.ref p) (.ref p2) H Q :=
  ⟨_, _, dp_lnil h, dp_lnil h2, by decide +kernel, by decide +kernel, by rw [show PyData.eqv (.list []) (.list []) = true by decide +kernel]; exact q⟩
theorem i_eqNil {p p2 : Addr} (h : H p = some (.lst [])) (h2 : H p2 = some (.lst [])) (q : Q (.bl true) H) : rEqD K (.ref p) (.ref p2) H Q :=
  ⟨_, _, dp_lnil h, dp_lnil h2, by decide +kernel, by decide +kernel, by rw [show PyData.eqv (.list []) (.list []) = true by decide +kernel]; exact q⟩
end
end Sx
open PySem L2 RT Sx

namespace Sx
/-- what the near side of a row is the root of -/
def nearN (r : List Nat) (b : Bool) (p : Nat) : Nat := whole r * (if b then 60 else 1) * 3600 ^ p
def nearF (r : List Nat) (b : Bool) (p : Nat) : List Nat := (figs (Float64.isqrt (nearN r b p))).take p
def sp_near_side (K : PySem.W.Frag) : Sp := fun vs H Q _ => ∃ a r b p, vs = [.ref a, .bl b, natV p] ∧ SqT K H a (rowV r) ∧ IsRow r ∧ p ≤ 10 ∧ ∀ q H', Same H H' → SqT K H' q (rowV (nearF r b p)) → Q (.ref q) H'
def t_near_side (K : PySem.W.Frag) : TS := (tSeq (tAsg (tCall (sp_whole_of K) [] E0 (tCons (tVar 0) tNil)) (gName 3))
  (tSeq (tIfS (tB (tVar 1)) (tAug 3 (tC (natV 60)) rMul) tNext)
  (tSeq (tFor (iRng1 (tCons (tVar 2) tNil)) (gName 4)
  (tAug 3 (tC (natV 3600)) rMul))
  (tRet (tSl (rSlN K) (tCall (sp_figures_of K) [] E0 (tCons (tCB rIsqrt (tCons (tVar 3) tNil)) tNil)) tNoPart (tPart (tVar 2)))))))

section
variable {K : PySem.W.Frag} {H : Hp} {Q : VK}
theorem i_isqrt {a : Nat} (hz : a < 2 ^ 250) (q : Q (natV (Float64.isqrt a)) H) : rIsqrt [natV a] H Q := ⟨a, rfl, hz, q⟩
theorem isqrt_le (n : Nat) : Float64.isqrt n ≤ n := by
  have h := (Float64.isqrt_spec n).1
  rcases Nat.eq_zero_or_pos (Float64.isqrt n) with e | e
  · omega
  · calc Float64.isqrt n = Float64.isqrt n * 1 := by omega
      _ ≤ Float64.isqrt n * Float64.isqrt n := Nat.mul_le_mul_left _ e
      _ ≤ n := h
theorem isqrt_eq {n k : Nat} (h1 : k * k ≤ n) (h2 : n < (k + 1) * (k + 1)) : Float64.isqrt n = k := by
  obtain ⟨h3, h4⟩ := Float64.isqrt_spec n
  rcases Nat.lt_trichotomy (Float64.isqrt n) k with h | h | h
  · have := Nat.mul_le_mul (show Float64.isqrt n + 1 ≤ k by omega) (show Float64.isqrt n + 1 ≤ k by omega); omega
  · exact h
  · have := Nat.mul_le_mul (show k + 1 ≤ Float64.isqrt n by omega) (show k + 1 ≤ Float64.isqrt n by omega); omega
theorem nearN_lt {r : List Nat} {b : Bool} {p : Nat} (ir : IsRow r) (hp : p ≤ 10) : nearN r b p < 2 ^ 200 := by
  have h1 := whole12 ir
  have h2 : (if b then 60 else 1) ≤ 60 := by cases b <;> decide
  have h3 : 3600 ^ p ≤ 3600 ^ 10 := Nat.pow_le_pow_right (by decide) hp
  calc nearN r b p ≤ 60 ^ 12 * 60 * 3600 ^ 10 := Nat.mul_le_mul (Nat.mul_le_mul (by omega) h2) h3
    _ < 2 ^ 200 := by decide
theorem pure_near_side {vs : List V} {E : XK} (h : sp_near_side K vs H Q E) : t_near_side K (endsOf Q) (start ["row", "is_odd", "places", "number", "_"] vs) H := by
  obtain ⟨a, r, b, p, rfl, hr, ir, hp, q⟩ := h
  show t_near_side K (endsOf Q) [some (.ref a), some (.bl b), some (natV p), none, none] H
  unfold t_near_side
  walk_at "go"
  refine ⟨a, r, rfl, hr, ir, ?_⟩
  walk_at "go"
  have tail : ∀ m : Nat, m = whole r * (if b then 60 else 1) → (tSeq (tFor (iRng1 (tCons (tVar 2) tNil)) (gName 4) (tAug 3 (tC (natV 3600)) rMul))
      (tRet (tSl (rSlN K) (tCall (sp_figures_of K) [] E0 (tCons (tCB rIsqrt (tCons (tVar 3) tNil)) tNil)) tNoPart (tPart (tVar 2))))) (endsOf Q) [some (.ref a), some (.bl b), some (natV p), some (natV m), none] H := by
    intro m hm
    walk_at "go"
    refine i_for (i_iRng1 ?_)
    walk_at "go"
    refine l_rng1 (by omega) (fun i σ H' => ∃ x, σ = [some (.ref a), some (.bl b), some (natV p), some (natV (m * 3600 ^ i)), x] ∧ H' = H) ⟨none, by rw [Nat.pow_zero, Nat.mul_one], rfl⟩ ?_ ?_
    · rintro i σ H' hi ⟨x, rfl, rfl⟩
      walk_at "go"
      exact ⟨_, by rw [Nat.pow_succ, Nat.mul_assoc], rfl⟩
    · rintro σ H' ⟨x, rfl, rfl⟩
      walk_at "go"
      have e : m * 3600 ^ p = nearN r b p := by rw [hm]; rfl
      have hz := nearN_lt (b := b) ir hp
      rw [e]
      refine i_isqrt (by omega) ?_
      walk_at "go"
      have hz2 := isqrt_le (nearN r b p)
      refine ⟨_, rfl, Nat.lt_trans (Nat.lt_of_le_of_lt hz2 hz) (by decide), fun p2 H2 s2 hp2 => ?_⟩
      walk_at "go"
      refine i_slT hp2 fun p3 H3 s3 hp3 => ?_
      rw [cutV_to, rowV_take] at hp3
      exact q p3 H3 (Same.trans s2 s3) hp3
  cases b with
  | true =>
    walk_at "s"
    walk_at "s"
    walk_at "s"
    walk_at "s"
    exact tail _ rfl
  | false =>
    walk_at "s"
    walk_at "s"
    exact tail _ (by simp)
end
end Sx
/-! an own error whose __init__ hands a text to the base's and keeps one field; what does not name the field -/
namespace PySem
namespace OwnX
open PySem.W PySem.Calls PyProof.Rows PySem.HandSPX
/-- an exception made, its base's __init__ run, the field kept -/
structure InitEnd (f : Str) (h h' : Heap) (x C dx t1 : Addr) (v : Value) : Prop where
  keep : ∀ b o, b ≠ x → h.get? b = some o → h'.get? b = some o
  obj : h'.get? x = some { cls := .ref C, dict := some dx, data := .fields #[.ref t1, .none, .none, .none, .bool false, .none] }
  dbig : h.objs.size ≤ dx
  dne : dx ≠ x
  ns : h'.Ns1 dx (fun y => if y = f then some v else none)
structure OwnMade (f : Str) (h h' : Heap) (e C d : Addr) (v : Value) : Prop where
  keep : ∀ b o, h.get? b = some o → h'.get? b = some o
  new : h.objs.size ≤ e
  obj : ∃ oe vs, h'.get? e = some oe ∧ oe.cls = .ref C ∧ oe.dict = some d ∧ oe.data = .fields vs ∧ vs[1]? = some .none
  dbig : h.objs.size ≤ d
  dne : d ≠ e
  ns : h'.Ns1 d (fun y => if y = f then some v else none)
theorem kept_but {K : Frag} {h h' : Heap} {x : Addr} (X : K.In h) (hx : K.lookup x = none) (k : ∀ b o, b ≠ x → h.get? b = some o → h'.get? b = some o) : K.In h' := fun a o e =>
  k a o (fun z => by rw [z, hx] at e; cases e) (X a o e)
/-- the tail behind own classes, in both of the library's words -/
theorem tail_of : ∀ l : List Value, refsVE l = true → excTail veTail l = true := by
  intro l
  induction l with
  | nil => intro e; exact absurd e (by decide)
  | cons v r ih =>
    intro e
    rcases refsVE_cases (v :: r) e with ⟨c, r', q, z⟩ | q
    · obtain ⟨rfl, rfl⟩ := List.cons.inj q
      exact ih z
    · rw [q]; decide
theorem init_in {K : Frag} {C N : Addr} {nm q : Str} {bs bm : List Value} {hd : Bool} {sn : List Str} {sub : List Value} {ab : Bool} {col : Option Bool} {dd : Option Addr} {k0 k1 k2 k3 k5 : Option Value}
    (h : K.lookup C = some (excClassObj nm q C N bs bm hd sn sub ab col dd k0 k1 k2 k3 k5 "ValueError.__new__")) (t : refsVE bm = true) : excInitIn K C veTail "ValueError.__new__" = true := by
  unfold excInitIn
  rw [h]
  show (C == C && "ValueError.__new__" == "ValueError.__new__" && !false && excTail veTail bm) = true
  rw [tail_of bm t]
  simp
end OwnX
end PySem
namespace L2
open PySem PySem.Spec PyProof.Rows
/-- an own error class with one field: what its call makes -/
structure OwnC (P : Program) (w : World) (K : PySem.W.Frag) (mg : Str → Option Value) (cn f : Str) (C : Addr) : Prop where
  gC : mg cn = some (.ref C)
  kC : PySem.W.keepIn K (.ref C) = true
  exC : PySem.W.subIn K (.ref C) (.type "BaseException") = some true
  tyC : PySem.W.typeIn K (.ref C) = some (.type "type")
  xf : XfC K C
  noN : PySem.W.findIn K (.ref C) f = some none
  made : ∀ {A : Around} {R : Result → Shared → Prop} {s : Shared} {v : Value}, K.In s.heap → s.heap.Ns mainGlobals mg → (∃ mb, s.heap.Ns builtinsNs mb ∧ ∀ y : Str, y ≠ "__name__" → mb y = bootBuiltins y) → s.heap.NoLimit → A.depth + 1 < recursionLimit →
    (∀ h' tk e d, PySem.OwnX.OwnMade f s.heap h' e C d v → R (.ok (.ret (.ref e))) { s with heap := h', toks := tk }) → codeAny (model P w) A (.call (.ref C) ⟨[v], []⟩) R s
theorem relO_one {v : V} {u : Value} {f : Str} (r : RelV v u) (g : Str) : RelO (List.lookup g [(f, v)]) (if g = f then some u else none) := by
  by_cases e : g = f
  · subst e
    rw [if_pos rfl, show List.lookup g [(g, v)] = some v by simp [List.lookup]]
    exact r
  · rw [if_neg e, show List.lookup g [(f, v)] = none by simp [List.lookup, show (g == f) = false by simpa using e]]
    exact True.intro
section
variable {X : Cx} {C : Addr} {cn f : Str}
/-- the class called on one thing: a new error, its dict at d -/
def tMkF (C : Addr) (f : Str) (ta : TA) : St → Hp → XK → Prop := fun σ H Q => ta σ H fun vs H1 => ∃ v, vs = [v] ∧ ∀ d, H1 d = none → Q (.ref C) (some d) (upd H1 d (.xd [(f, v)]))
theorem pmk_f {a : Expr} {ta : TA} {p pos : Pos} {k : Nat} (T : OwnC X.prog X.w X.K X.mg cn f C) (hr : Room k X.A) (ha : PA X [a] ta) (hg : Gl X cn) (hdb : (cn == ("__debug__" : Str)) = false := by decide)
    (he : starEach (a :: []) X.env = (false, eval a X.env) :: starEach [] X.env := by rfl) (hpl : (backTo pos (starEach [] X.env)).any (·.1) = false := by rfl) :
    PMk X (.Call (.Name cn p) [a] [] pos) (tMkF C f ta) := fun pins s σ H Q I h => by
  refine wpAny_Call_Name_kw (ld_glob I hg T.gC ?_ hdb)
  refine PySem.W.callWith_K (h₀ := X.base) I.ok.mod.kin T.kC (thn (ha.run pos pins s σ H _ I h) fun us s1 ⟨vs, H1, I1, r1, v, ev, q1⟩ => ⟨I1.kIn, ?_⟩) he hpl
  subst ev
  cases r1 with
  | @cons _ v' _ us' rv rn =>
    cases rn
    show wpAny _ _ (call (.ref C) [v']) _ _ _
    obtain ⟨mb, hB, hb⟩ := I1.mod.blt
    have G1 := I1.mod.glob.keeps I1.bk
    have B1 : ∃ mb, s1.heap.Ns builtinsNs mb ∧ ∀ y : Str, y ≠ "__name__" → mb y = bootBuiltins y := ⟨mb, hB.keeps I1.bk, hb⟩
    have hlim := I1.nolimit
    obtain ⟨hp, g, dr, tk, os⟩ := s1
    refine wpAny_call (T.made I1.kIn G1 B1 hlim (by have := hr.dp; omega) fun h' tk' e d M => ?_)
    obtain ⟨oe, fv, hoe, hc, hd, hdat, h1⟩ := M.obj
    obtain ⟨G', g1, g2⟩ := restrict h' fun b => decide (b ≠ e)
    have ge : G'.get? e = none := g2 e (by simp)
    have gk : ∀ b, b ≠ e → G'.get? b = h'.get? b := fun b hb => g1 b (decide_eq_true hb)
    have J : Inv X pins σ (upd H1 d (.xd [(f, v)])) ⟨G', g, dr, tk', os⟩ := I1.laid (t' := tk') (fun b o q => (gk b (Nat.ne_of_lt (Nat.lt_of_lt_of_le (Heap.lt_size q) M.new))).trans (M.keep b o q)) M.dbig
      ⟨_, M.ns.at (fun o q => (gk d M.dne).trans q), relO_one rv⟩
    refine ⟨e, oe, fv, ⟨G', g, dr, tk', os⟩, _, .ref C, some d, rfl, J, fun b o q => ?_, ge, hoe, ⟨hc, hd⟩, hdat, h1, ?_, rfl, I1.bare, raises_own T.exC T.tyC, q1 d (I1.hok.fresh M.dbig)⟩
    · by_cases hb : b = e
      · subst hb
        have q' : G'.get? b = some o := q
        rw [ge] at q'; cases q'
      · exact (gk b hb).symm.trans q
    · rw [upd_ne (Ne.symm M.dne)]
      exact I1.hok.fresh M.new
/-- raise -/
def tRaiseF (C : Addr) (f : Str) (W : WX) (ta : TA) : TS := fun _ σ H => tMkF C f ta σ H fun cls d H' => W cls d σ H'
theorem ps_raiseF {a : Expr} {ta : TA} {W : WX} {p pos pos2 : Pos} {k : Nat} (hc : X.calm = true) (tk : Takes X W) (T : OwnC X.prog X.w X.K X.mg cn f C) (hr : Room k X.A) (ha : PA X [a] ta) (hg : Gl X cn) (hdb : (cn == ("__debug__" : Str)) = false := by decide)
    (he : starEach (a :: []) X.env = (false, eval a X.env) :: starEach [] X.env := by rfl) (hpl : (backTo pos (starEach [] X.env)).any (·.1) = false := by rfl) :
    PS X (.Raise (some (.Call (.Name cn p) [a] [] pos)) none pos2) (tRaiseF C f W ta) := ps_raise hc tk (pmk_f T hr ha hg hdb he hpl)
end
end L2
/-! the program's own errors: one field each, kept behind the base's __init__ -/
namespace PySem
namespace Own_left
open PySem.W PySem.Calls PyProof.Rows PySem.HandSPX PySem.OwnX
def iA (p1 p2 : Pos) : Arguments := { posonlyargs := [], args := [{ arg := "self", annotation := none, pos := p1 }, { arg := "left", annotation := none, pos := p2 }], vararg := none, kwonlyargs := [], kw_defaults := [], kwarg := none, defaults := [] }
def iB (m : Str) (a1 a2 a3 a4 a5 a6 a7 a8 a9 a10 : Pos) : List Stmt := [.Expr (.Call (.Attribute (.Call (.Name "super" a1) [] [] a2) "__init__" a3) [.Constant (.str m) 0 a4] [] a5) a6, .Assign [.Attribute (.Name "self" a7) "left" a8] (.Name "left" a9) a10]
def iS : Scope := { kind := .function, names := [(PySem.Str.ofString "self", .local), (PySem.Str.ofString "left", .local), (PySem.Str.ofString "__class__", .free), (PySem.Str.ofString "super", .globalImplicit)], isGenerator := false, isCoroutine := false, more := [] }
/-- how the call of the base's __init__ is read, whatever the frame -/
def Reads (m : Str) (a1 a2 a3 a4 a5 : Pos) : Prop := ∃ pl : Sem Bool, ∀ env : Env, eval (.Call (.Attribute (.Call (.Name "super" a1) [] [] a2) "__init__" a3) [.Constant (.str m) 0 a4] [] a5) env = (do
      let ov ← attributeBase (.Call (.Name "super" a1) [] [] a2) "__init__" env (eval (.Call (.Name "super" a1) [] [] a2) env)
      standAt a3.atName
      let (f, first) ← holding [ov] (getMethod ov "__init__" pl)
      callWith a5 f first (backTo a5 (starEach [.Constant (.str m) 0 a4] env)) [])
structure Txt (prog : Program) (K : Frag) (mg : Str → Option Value) (cn : Str) (C fI : Addr) : Prop where
  gC : mg cn = some (.ref C)
  noS : mg "super" = none
  cls : ∃ nm q N bs bm sn sub ab col dd k0 k1 k2 k3 k5, K.lookup C = some (excClassObj nm q C N bs bm true sn sub ab col dd k0 k1 k2 k3 k5 "ValueError.__new__") ∧ refsVE bm = true
  sa : findIn K (.ref C) "__setattr__" = some (some (.builtin "object.__setattr__"))
  xf : L2.XfC K C
  noN : findIn K (.ref C) "left" = some none
  iC : findIn K (.ref C) "__init__" = some (some (.ref fI))
  tC : typeIn K (.ref fI) = some (.type "function")
  kC : keepIn K (.ref C) = true
  exC : subIn K (.ref C) (.type "BaseException") = some true
  tyC : typeIn K (.ref C) = some (.type "type")
  sup : ks_superIn K C C "__init__" = some (some (.builtin "ValueError.__init__"))
  sV : subIn K (.ref C) (.type "ValueError") = some true
  mC : mroIn K C (.ref C) = some true
  any : nsIn K cStatics "thirdparty.any" = some none
  top : (prog.main.scope.names.lookup ("super" : Str)).isSome = false
  fn : ∃ (cda cc : Addr) (m qual : Str) (oc : Value) (od : Option Addr) (doc pm : Value) (an : Option Addr) (ct : Value) (osl : Array (Option Value)) (p1 p2 a1 a2 a3 a4 a5 a6 a7 a8 a9 a10 : Pos) (ccl : Value) (cdd : Option Addr) (vs : Array Value) (ccs : Array (Option Value)) (file : Str) (tf : Tok)
    (cl : Value) (cld : Option Addr) (csl : Array (Option Value)),
    K.lookup fI = some ⟨oc, od, .func (ksFn "__init__" qual (iA p1 p2) (iB m a1 a2 a3 a4 a5 a6 a7 a8 a9 a10) iS .none .none doc pm an (.ref cda) ct cc), osl⟩ ∧ codeIn K (.ref cda) qual = true ∧
    K.lookup cda = some ⟨ccl, cdd, .fields vs, ccs⟩ ∧ vs[2]? = some (.str file tf) ∧ ((prog.main.file : Str) == file) = true ∧ K.lookup cc = some ⟨cl, cld, .cell (some (.ref C)), csl⟩ ∧ Reads m a1 a2 a3 a4 a5
section
variable {prog : Program} {w : World} {A : Around} {E : Value → Shared → Prop} {R : Result → Shared → Prop} {s : Shared} {K : Frag} {mg : Str → Option Value} {cn : Str} {C fI : Addr}
theorem own_init (T : Txt prog K mg cn C fI) {x t0 : Addr} {v : Value} (X : K.In s.heap) (G : s.heap.Ns mainGlobals mg) (B : ∃ mb, s.heap.Ns builtinsNs mb ∧ ∀ y : Str, y ≠ "__name__" → mb y = bootBuiltins y) (hlim : s.heap.NoLimit)
    (hx : s.heap.get? x = some (excO C t0)) (hnK : ∀ o, K.lookup x ≠ some o) (hroom : A.depth < recursionLimit) (hq : ∀ h' tk dx t1, InitEnd "left" s.heap h' x C dx t1 v → R (.ok (.ret .none)) { s with heap := h', toks := tk }) :
    codeAny (model prog w) A (.call (.ref fI) ⟨[.ref x, v], []⟩) R s := by
  obtain ⟨cda, cc, m, qual, oc, od, doc, pm, an, ct, osl, p1, p2, a1, a2, a3, a4, a5, a6, a7, a8, a9, a10, ccl, cdd, vs, ccs, file, tf, cl, cld, csl, ho, hcd, hcda, hvs, hfile, hcc, pl, hrd⟩ := T.fn
  obtain ⟨nm, q, N, bs, bm, sn, sub, ab, col, dd, k0, k1, k2, k3, k5, hC, hbm⟩ := T.cls
  obtain ⟨mb, hB, hb⟩ := B
  have hcl : clsIn K C = some { name := nm, bases := bs, mro := .ref C :: bm, ns := N, qualname := q, hasDict := true, slotNames := sn, subclasses := sub, abstract := ab, collection := col, hasDel := false } := by unfold clsIn; rw [hC] <;> rfl
  refine ks_codeAny_call_defAt (fd := ksFn "__init__" qual (iA p1 p2) (iB m a1 a2 a3 a4 a5 a6 a7 a8 a9 a10) iS .none .none doc pm an (.ref cda) ct cc) (body := iB m a1 a2 a3 a4 a5 a6 a7 a8 a9 a10) (binds := [("self", .ref x), ("left", v)])
    hroom (X _ _ ho) rfl hlim (codeRec_of X hcd) rfl (BindsTo.of_eq (by first | rfl | with_unfolding_all rfl)) (show ∀ y ∈ iS.names, y.2 ≠ .cell by decide) (fun y hy => by
      simp only [List.mem_cons, List.not_mem_nil, or_false] at hy
      rcases hy with rfl | rfl
      · exact (by decide : iS.names.lookup ("self" : Str) = some .local)
      · exact (by decide : iS.names.lookup ("left" : Str) = some .local)) (fun h₁ hns k => ?_)
  have X₁ : K.In h₁ := X.keeps k
  have hx₁ := k _ _ hx
  have hxL : x ≠ s.heap.objs.size := Nat.ne_of_lt (Heap.lt_size hx)
  have hself : ([("self", Value.ref x), ("left", v)] : List (Str × Value)).reverse.lookup ("self" : Str) = some (.ref x) := by
    simp only [List.reverse_cons, List.reverse_nil, List.nil_append, List.cons_append, List.lookup, show (("self" : Str) == ("left" : Str)) = false by decide, show (("self" : Str) == ("self" : Str)) = true by decide]
  have hfld : ([("self", Value.ref x), ("left", v)] : List (Str × Value)).reverse.lookup ("left" : Str) = some v := by simp [List.lookup]
  have I₁ : InstAt h₁ x (excO C t0) C none := ⟨hx₁, rfl, rfl, trivial⟩
  have hne := ks_ne X₁ I₁ hcl
  refine ks_wpAt_execs_cons (ks_wpAt_Expr_any (ks_wpAt_MethodCall ?_ (hrd _)))
  refine ks_wpAt_super_base (by first | rfl | with_unfolding_all rfl | kernel_rfl) (by first | rfl | with_unfolding_all rfl | kernel_rfl) (by decide) rfl (X₁ _ _ ho) rfl rfl rfl (X₁ _ _ hcda) rfl hvs hfile T.top ?_
  refine ks_loadName_global rfl (by first | rfl | with_unfolding_all rfl | kernel_rfl) (loadGlobal_builtin (G.keeps k) T.noS (hB.keeps k) ((hb "super" (by decide)).trans (by first | boot_by_name | rfl | kernel_rfl)) ⟨rfl, ?_⟩)
  refine wpAny_loadName_free rfl (by first | rfl | with_unfolding_all rfl | kernel_rfl) (by first | rfl | with_unfolding_all rfl | kernel_rfl) ⟨_, X₁ _ _ hcc, rfl⟩ ?_
  refine wpAny_loadName_local rfl (by first | rfl | with_unfolding_all rfl | kernel_rfl) hns hself ?_
  refine ks_wpAny_isType_cls (X₁ _ _ hC) rfl ⟨rfl, ?_⟩
  refine ks_wpAny_call_super (X₁ _ _ hC) rfl hx₁ rfl (fun c e => by cases e) (looks_mroIn X₁ T.mC) fun h₂ e₂ k₂ => ?_
  have X₂ : K.In h₂ := X₁.keeps k₂
  have I₂ : InstAt h₂ x (excO C t0) C none := ⟨k₂ _ _ hx₁, rfl, rfl, trivial⟩
  have hsup := T.sup
  unfold ks_superIn at hsup
  rw [hcl] at hsup
  refine kxs_getMethod kxs_ValueError e₂ (looks_opaque X₂ T.any) (l₀ := .ref C :: bm) (fun A Q E s k q => wpAny_bind ((looks_clsIn X₂ hcl) A _ E s k (wpAny_pure q))) rfl X₂ hsup (I₂.type.andThen (looks_subIn X₂ T.sV)) hne (by decide) ?_
  have hnx : K.lookup x = none := by
    cases e : K.lookup x with
    | none => rfl
    | some o => exact (hnK o e).elim
  have up : ∀ b o, h₁.get? b = some o → (h₂.push (kxs_mw "ValueError.__init__" x)).get? b = some o := fun b o e => Heap.get?_push_of_some _ (k₂ _ _ e)
  have hu : (h₂.push (kxs_mw "ValueError.__init__" x)).get? h₂.objs.size = some (kxs_mw "ValueError.__init__" x) := Heap.get?_push_at rfl rfl
  have l1 : s.heap.objs.size < h₂.objs.size := by
    obtain ⟨oL, _, _, hL, _⟩ := hns
    exact Heap.lt_size (k₂ _ _ hL)
  have F₃ : Fr (hideAll s.heap [x]) s.heap.objs.size (h₂.push (kxs_mw "ValueError.__init__" x)) _ := ⟨hns.keeps up, fun b o e => up _ _ (k _ _ (of_hideAll _ e)), Nat.le_of_eq (hideAll_size _ _)⟩
  have N₃ : News (hideAll s.heap [x]) s.heap.objs.size (h₂.push (kxs_mw "ValueError.__init__" x)) [(h₂.objs.size, kxs_mw "ValueError.__init__" x), (x, excObj C t0 none .none)] := fun p hp => by
    rcases List.mem_cons.mp hp with rfl | hp
    · refine ⟨hu, fun z => Nat.ne_of_gt l1 z, ?_⟩
      cases e : (hideAll s.heap [x]).get? h₂.objs.size with
      | none => rfl
      | some o =>
        exact absurd (Nat.lt_trans (Heap.lt_size (of_hideAll _ e)) l1) (Nat.lt_irrefl _)
    · obtain rfl := List.mem_singleton.mp hp
      exact ⟨up _ _ hx₁, hxL, hideAll_none _ (by simp)⟩
  have X₀ : K.In (hideAll s.heap [x]) := fun a o e => hideAll_get _ (X _ _ e) fun z => by
    rw [List.mem_singleton.mp z, hnx] at e; cases e
  have xu : h₂.objs.size ≠ x := fun z => by
    have z2 := Heap.lt_size (k₂ _ _ hx₁)
    rw [z] at z2
    exact absurd z2 (Nat.lt_irrefl _)
  refine kxs_callWith1 (i := "ValueError.__init__") (x := x) N₃ (by simp) (spliced_more (wpAny_Constant_str (spliced_none ⟨hu, ?_⟩)))
  refine kxs_call F₃ X₀ N₃ F.excBase_ValueError (init_in hC hbm) (by simp) (.tail xu (.head (by simp))) (by rw [sizeLine_eq]; exact (by decide : 1 ≤ 16777216)) fun t1 h₄ F₄ N₄ _ => ?_
  have hx₄ : h₄.get? x = some (excO C t1) := (N₄ (x, excObj C t1 none .none) (by simp)).1
  show _root_.PySem.wpAt _ _ _ _ _ _ _
  have hns₄ := F₄.ns
  have X₄ : K.In h₄ := X₀.keeps F₄.keep
  have I₄ : InstAt h₄ x (excO C t1) C none := ⟨hx₄, rfl, rfl, trivial⟩
  refine ks_wpAt_execs_cons (wpAt_of_wpAny (plainObj_wpAny_Assign_Attribute ?_))
  refine ESX.ldL hns₄ hfld (ESX.ldL hns₄ hself ?_)
  refine set_plain X₄ I₄ T.sa ?_
  refine exc_osa X₄ hx₄ hcl (show refsVE (.ref C :: bm) = true from hbm) rfl T.noN (fun h₅ tk₅ dx k₅ dn dne hx₅ hn₅ => ?_)
  show _root_.PySem.wpAt _ _ _ _ _ _ _
  have z4 : s.heap.objs.size < h₄.objs.size := hns₄.lt
  refine wpAt_of_wpAny (wpAny_execs_nil (hq h₅ tk₅ dx t1 ⟨fun b o hb e => k₅ b o hb (F₄.keep b o (hideAll_get _ e (by simpa using hb))), hx₅, Nat.le_of_lt (Nat.lt_of_lt_of_le z4 dn), dne, hn₅⟩))
theorem own_made (T : Txt prog K mg cn C fI) {v : Value} (X : K.In s.heap) (G : s.heap.Ns mainGlobals mg) (B : ∃ mb, s.heap.Ns builtinsNs mb ∧ ∀ y : Str, y ≠ "__name__" → mb y = bootBuiltins y) (hlim : s.heap.NoLimit) (hroom : A.depth + 1 < recursionLimit)
    (hq : ∀ h' tk e d, OwnMade "left" s.heap h' e C d v → R (.ok (.ret (.ref e))) { s with heap := h', toks := tk }) :
    codeAny (model prog w) A (.call (.ref C) ⟨[v], []⟩) R s := by
  obtain ⟨nm, q, N, bs, bm, sn, sub, ab, col, dd, k0, k1, k2, k3, k5, hC, hbm⟩ := T.cls
  obtain ⟨hp, g, dr, tk, os⟩ := s
  have k : ∀ b o, hp.get? b = some o → ((hp.push (kdv_tup [v])).push (excO C hp.objs.size)).get? b = some o := fun b o e => Heap.get?_push_of_some _ (Heap.get?_push_of_some _ e)
  have hget : ((hp.push (kdv_tup [v])).push (excO C hp.objs.size)).get? (hp.objs.size + 1) = some (excO C hp.objs.size) := by heap_get
  have hnx : ∀ o, K.lookup (hp.objs.size + 1) ≠ some o := fun o e => by
    have z : hp.get? (hp.objs.size + 1) = some o := X _ _ e
    exact absurd (Nat.lt_of_succ_lt (Heap.lt_size z)) (Nat.lt_irrefl _)
  obtain ⟨mb, hB, hb⟩ := B
  refine call_own F.excBase_ValueError (fun X => refsVE_contains X bm hbm) (X _ _ hC) (looks_findIn X T.iC) (fun self => bind_fn X self T.tC) (by rw [sizeLine_eq]; exact (by decide : 1 ≤ 16777216)) ?_
  refine own_init (s := ⟨(hp.push (kdv_tup [v])).push (excO C hp.objs.size), g, dr, tk, os⟩) T (X.keeps k) (G.keeps k) ⟨mb, hB.keeps k, hb⟩ (hlim.keeps k) hget hnx ?_ fun h' tk' dx t1 ⟨k', hx, dn, dne, hns⟩ => ?_
  · show A.depth + 1 < recursionLimit
    exact hroom
  · have old : ∀ b o, hp.get? b = some o → h'.get? b = some o := fun b o e => k' b o (Nat.ne_of_lt (Nat.lt_succ_of_lt (Heap.lt_size e))) (k b o e)
    have z : hp.objs.size ≤ dx := by
      have q := dn
      rw [Heap.size_push, Heap.size_push] at q
      omega
    exact ⟨rfl, hq h' tk' (hp.objs.size + 1) dx ⟨old, Nat.le_succ _, ⟨_, _, hx, rfl, rfl, rfl, rfl⟩, z, dne, hns⟩⟩
theorem own_c (T : Txt prog K mg cn C fI) : L2.OwnC prog w K mg cn "left" C := ⟨T.gC, T.kC, T.exC, T.tyC, T.xf, T.noN, fun X G B hlim hroom hq => own_made T X G B hlim hroom hq⟩
end
end Own_left
end PySem
namespace PySem
namespace Own_why
open PySem.W PySem.Calls PyProof.Rows PySem.HandSPX PySem.OwnX
def iA (p1 p2 : Pos) : Arguments := { posonlyargs := [], args := [{ arg := "self", annotation := none, pos := p1 }, { arg := "why", annotation := none, pos := p2 }], vararg := none, kwonlyargs := [], kw_defaults := [], kwarg := none, defaults := [] }
def iB (m : Str) (a1 a2 a3 a4 a5 a6 a7 a8 a9 a10 : Pos) : List Stmt := [.Expr (.Call (.Attribute (.Call (.Name "super" a1) [] [] a2) "__init__" a3) [.Constant (.str m) 0 a4] [] a5) a6, .Assign [.Attribute (.Name "self" a7) "why" a8] (.Name "why" a9) a10]
def iS : Scope := { kind := .function, names := [(PySem.Str.ofString "self", .local), (PySem.Str.ofString "why", .local), (PySem.Str.ofString "__class__", .free), (PySem.Str.ofString "super", .globalImplicit)], isGenerator := false, isCoroutine := false, more := [] }
/-- how the call of the base's __init__ is read, whatever the frame -/
def Reads (m : Str) (a1 a2 a3 a4 a5 : Pos) : Prop := ∃ pl : Sem Bool, ∀ env : Env, eval (.Call (.Attribute (.Call (.Name "super" a1) [] [] a2) "__init__" a3) [.Constant (.str m) 0 a4] [] a5) env = (do
      let ov ← attributeBase (.Call (.Name "super" a1) [] [] a2) "__init__" env (eval (.Call (.Name "super" a1) [] [] a2) env)
      standAt a3.atName
      let (f, first) ← holding [ov] (getMethod ov "__init__" pl)
      callWith a5 f first (backTo a5 (starEach [.Constant (.str m) 0 a4] env)) [])
structure Txt (prog : Program) (K : Frag) (mg : Str → Option Value) (cn : Str) (C fI : Addr) : Prop where
  gC : mg cn = some (.ref C)
  noS : mg "super" = none
  cls : ∃ nm q N bs bm sn sub ab col dd k0 k1 k2 k3 k5, K.lookup C = some (excClassObj nm q C N bs bm true sn sub ab col dd k0 k1 k2 k3 k5 "ValueError.__new__") ∧ refsVE bm = true
  sa : findIn K (.ref C) "__setattr__" = some (some (.builtin "object.__setattr__"))
  xf : L2.XfC K C
  noN : findIn K (.ref C) "why" = some none
  iC : findIn K (.ref C) "__init__" = some (some (.ref fI))
  tC : typeIn K (.ref fI) = some (.type "function")
  kC : keepIn K (.ref C) = true
  exC : subIn K (.ref C) (.type "BaseException") = some true
  tyC : typeIn K (.ref C) = some (.type "type")
  sup : ks_superIn K C C "__init__" = some (some (.builtin "ValueError.__init__"))
  sV : subIn K (.ref C) (.type "ValueError") = some true
  mC : mroIn K C (.ref C) = some true
  any : nsIn K cStatics "thirdparty.any" = some none
  top : (prog.main.scope.names.lookup ("super" : Str)).isSome = false
  fn : ∃ (cda cc : Addr) (m qual : Str) (oc : Value) (od : Option Addr) (doc pm : Value) (an : Option Addr) (ct : Value) (osl : Array (Option Value)) (p1 p2 a1 a2 a3 a4 a5 a6 a7 a8 a9 a10 : Pos) (ccl : Value) (cdd : Option Addr) (vs : Array Value) (ccs : Array (Option Value)) (file : Str) (tf : Tok)
    (cl : Value) (cld : Option Addr) (csl : Array (Option Value)),
    K.lookup fI = some ⟨oc, od, .func (ksFn "__init__" qual (iA p1 p2) (iB m a1 a2 a3 a4 a5 a6 a7 a8 a9 a10) iS .none .none doc pm an (.ref cda) ct cc), osl⟩ ∧ codeIn K (.ref cda) qual = true ∧
    K.lookup cda = some ⟨ccl, cdd, .fields vs, ccs⟩ ∧ vs[2]? = some (.str file tf) ∧ ((prog.main.file : Str) == file) = true ∧ K.lookup cc = some ⟨cl, cld, .cell (some (.ref C)), csl⟩ ∧ Reads m a1 a2 a3 a4 a5
section
variable {prog : Program} {w : World} {A : Around} {E : Value → Shared → Prop} {R : Result → Shared → Prop} {s : Shared} {K : Frag} {mg : Str → Option Value} {cn : Str} {C fI : Addr}
theorem own_init (T : Txt prog K mg cn C fI) {x t0 : Addr} {v : Value} (X : K.In s.heap) (G : s.heap.Ns mainGlobals mg) (B : ∃ mb, s.heap.Ns builtinsNs mb ∧ ∀ y : Str, y ≠ "__name__" → mb y = bootBuiltins y) (hlim : s.heap.NoLimit)
    (hx : s.heap.get? x = some (excO C t0)) (hnK : ∀ o, K.lookup x ≠ some o) (hroom : A.depth < recursionLimit) (hq : ∀ h' tk dx t1, InitEnd "why" s.heap h' x C dx t1 v → R (.ok (.ret .none)) { s with heap := h', toks := tk }) :
    codeAny (model prog w) A (.call (.ref fI) ⟨[.ref x, v], []⟩) R s := by
  obtain ⟨cda, cc, m, qual, oc, od, doc, pm, an, ct, osl, p1, p2, a1, a2, a3, a4, a5, a6, a7, a8, a9, a10, ccl, cdd, vs, ccs, file, tf, cl, cld, csl, ho, hcd, hcda, hvs, hfile, hcc, pl, hrd⟩ := T.fn
  obtain ⟨nm, q, N, bs, bm, sn, sub, ab, col, dd, k0, k1, k2, k3, k5, hC, hbm⟩ := T.cls
  obtain ⟨mb, hB, hb⟩ := B
  have hcl : clsIn K C = some { name := nm, bases := bs, mro := .ref C :: bm, ns := N, qualname := q, hasDict := true, slotNames := sn, subclasses := sub, abstract := ab, collection := col, hasDel := false } := by unfold clsIn; rw [hC] <;> rfl
  refine ks_codeAny_call_defAt (fd := ksFn "__init__" qual (iA p1 p2) (iB m a1 a2 a3 a4 a5 a6 a7 a8 a9 a10) iS .none .none doc pm an (.ref cda) ct cc) (body := iB m a1 a2 a3 a4 a5 a6 a7 a8 a9 a10) (binds := [("self", .ref x), ("why", v)])
    hroom (X _ _ ho) rfl hlim (codeRec_of X hcd) rfl (BindsTo.of_eq (by first | rfl | with_unfolding_all rfl)) (show ∀ y ∈ iS.names, y.2 ≠ .cell by decide) (fun y hy => by
      simp only [List.mem_cons, List.not_mem_nil, or_false] at hy
      rcases hy with rfl | rfl
      · exact (by decide : iS.names.lookup ("self" : Str) = some .local)
      · exact (by decide : iS.names.lookup ("why" : Str) = some .local)) (fun h₁ hns k => ?_)
  have X₁ : K.In h₁ := X.keeps k
  have hx₁ := k _ _ hx
  have hxL : x ≠ s.heap.objs.size := Nat.ne_of_lt (Heap.lt_size hx)
  have hself : ([("self", Value.ref x), ("why", v)] : List (Str × Value)).reverse.lookup ("self" : Str) = some (.ref x) := by
    simp only [List.reverse_cons, List.reverse_nil, List.nil_append, List.cons_append, List.lookup, show (("self" : Str) == ("why" : Str)) = false by decide, show (("self" : Str) == ("self" : Str)) = true by decide]
  have hfld : ([("self", Value.ref x), ("why", v)] : List (Str × Value)).reverse.lookup ("why" : Str) = some v := by simp [List.lookup]
  have I₁ : InstAt h₁ x (excO C t0) C none := ⟨hx₁, rfl, rfl, trivial⟩
  have hne := ks_ne X₁ I₁ hcl
  refine ks_wpAt_execs_cons (ks_wpAt_Expr_any (ks_wpAt_MethodCall ?_ (hrd _)))
  refine ks_wpAt_super_base (by first | rfl | with_unfolding_all rfl | kernel_rfl) (by first | rfl | with_unfolding_all rfl | kernel_rfl) (by decide) rfl (X₁ _ _ ho) rfl rfl rfl (X₁ _ _ hcda) rfl hvs hfile T.top ?_
  refine ks_loadName_global rfl (by first | rfl | with_unfolding_all rfl | kernel_rfl) (loadGlobal_builtin (G.keeps k) T.noS (hB.keeps k) ((hb "super" (by decide)).trans (by first | boot_by_name | rfl | kernel_rfl)) ⟨rfl, ?_⟩)
  refine wpAny_loadName_free rfl (by first | rfl | with_unfolding_all rfl | kernel_rfl) (by first | rfl | with_unfolding_all rfl | kernel_rfl) ⟨_, X₁ _ _ hcc, rfl⟩ ?_
  refine wpAny_loadName_local rfl (by first | rfl | with_unfolding_all rfl | kernel_rfl) hns hself ?_
  refine ks_wpAny_isType_cls (X₁ _ _ hC) rfl ⟨rfl, ?_⟩
  refine ks_wpAny_call_super (X₁ _ _ hC) rfl hx₁ rfl (fun c e => by cases e) (looks_mroIn X₁ T.mC) fun h₂ e₂ k₂ => ?_
  have X₂ : K.In h₂ := X₁.keeps k₂
  have I₂ : InstAt h₂ x (excO C t0) C none := ⟨k₂ _ _ hx₁, rfl, rfl, trivial⟩
  have hsup := T.sup
  unfold ks_superIn at hsup
  rw [hcl] at hsup
  refine kxs_getMethod kxs_ValueError e₂ (looks_opaque X₂ T.any) (l₀ := .ref C :: bm) (fun A Q E s k q => wpAny_bind ((looks_clsIn X₂ hcl) A _ E s k (wpAny_pure q))) rfl X₂ hsup (I₂.type.andThen (looks_subIn X₂ T.sV)) hne (by decide) ?_
  have hnx : K.lookup x = none := by
    cases e : K.lookup x with
    | none => rfl
    | some o => exact (hnK o e).elim
  have up : ∀ b o, h₁.get? b = some o → (h₂.push (kxs_mw "ValueError.__init__" x)).get? b = some o := fun b o e => Heap.get?_push_of_some _ (k₂ _ _ e)
  have hu : (h₂.push (kxs_mw "ValueError.__init__" x)).get? h₂.objs.size = some (kxs_mw "ValueError.__init__" x) := Heap.get?_push_at rfl rfl
  have l1 : s.heap.objs.size < h₂.objs.size := by
    obtain ⟨oL, _, _, hL, _⟩ := hns
    exact Heap.lt_size (k₂ _ _ hL)
  have F₃ : Fr (hideAll s.heap [x]) s.heap.objs.size (h₂.push (kxs_mw "ValueError.__init__" x)) _ := ⟨hns.keeps up, fun b o e => up _ _ (k _ _ (of_hideAll _ e)), Nat.le_of_eq (hideAll_size _ _)⟩
  have N₃ : News (hideAll s.heap [x]) s.heap.objs.size (h₂.push (kxs_mw "ValueError.__init__" x)) [(h₂.objs.size, kxs_mw "ValueError.__init__" x), (x, excObj C t0 none .none)] := fun p hp => by
    rcases List.mem_cons.mp hp with rfl | hp
    · refine ⟨hu, fun z => Nat.ne_of_gt l1 z, ?_⟩
      cases e : (hideAll s.heap [x]).get? h₂.objs.size with
      | none => rfl
      | some o =>
        exact absurd (Nat.lt_trans (Heap.lt_size (of_hideAll _ e)) l1) (Nat.lt_irrefl _)
    · obtain rfl := List.mem_singleton.mp hp
      exact ⟨up _ _ hx₁, hxL, hideAll_none _ (by simp)⟩
  have X₀ : K.In (hideAll s.heap [x]) := fun a o e => hideAll_get _ (X _ _ e) fun z => by
    rw [List.mem_singleton.mp z, hnx] at e; cases e
  have xu : h₂.objs.size ≠ x := fun z => by
    have z2 := Heap.lt_size (k₂ _ _ hx₁)
    rw [z] at z2
    exact absurd z2 (Nat.lt_irrefl _)
  refine kxs_callWith1 (i := "ValueError.__init__") (x := x) N₃ (by simp) (spliced_more (wpAny_Constant_str (spliced_none ⟨hu, ?_⟩)))
  refine kxs_call F₃ X₀ N₃ F.excBase_ValueError (init_in hC hbm) (by simp) (.tail xu (.head (by simp))) (by rw [sizeLine_eq]; exact (by decide : 1 ≤ 16777216)) fun t1 h₄ F₄ N₄ _ => ?_
  have hx₄ : h₄.get? x = some (excO C t1) := (N₄ (x, excObj C t1 none .none) (by simp)).1
  show _root_.PySem.wpAt _ _ _ _ _ _ _
  have hns₄ := F₄.ns
  have X₄ : K.In h₄ := X₀.keeps F₄.keep
  have I₄ : InstAt h₄ x (excO C t1) C none := ⟨hx₄, rfl, rfl, trivial⟩
  refine ks_wpAt_execs_cons (wpAt_of_wpAny (plainObj_wpAny_Assign_Attribute ?_))
  refine ESX.ldL hns₄ hfld (ESX.ldL hns₄ hself ?_)
  refine set_plain X₄ I₄ T.sa ?_
  refine exc_osa X₄ hx₄ hcl (show refsVE (.ref C :: bm) = true from hbm) rfl T.noN (fun h₅ tk₅ dx k₅ dn dne hx₅ hn₅ => ?_)
  show _root_.PySem.wpAt _ _ _ _ _ _ _
  have z4 : s.heap.objs.size < h₄.objs.size := hns₄.lt
  refine wpAt_of_wpAny (wpAny_execs_nil (hq h₅ tk₅ dx t1 ⟨fun b o hb e => k₅ b o hb (F₄.keep b o (hideAll_get _ e (by simpa using hb))), hx₅, Nat.le_of_lt (Nat.lt_of_lt_of_le z4 dn), dne, hn₅⟩))
theorem own_made (T : Txt prog K mg cn C fI) {v : Value} (X : K.In s.heap) (G : s.heap.Ns mainGlobals mg) (B : ∃ mb, s.heap.Ns builtinsNs mb ∧ ∀ y : Str, y ≠ "__name__" → mb y = bootBuiltins y) (hlim : s.heap.NoLimit) (hroom : A.depth + 1 < recursionLimit)
    (hq : ∀ h' tk e d, OwnMade "why" s.heap h' e C d v → R (.ok (.ret (.ref e))) { s with heap := h', toks := tk }) :
    codeAny (model prog w) A (.call (.ref C) ⟨[v], []⟩) R s := by
  obtain ⟨nm, q, N, bs, bm, sn, sub, ab, col, dd, k0, k1, k2, k3, k5, hC, hbm⟩ := T.cls
  obtain ⟨hp, g, dr, tk, os⟩ := s
  have k : ∀ b o, hp.get? b = some o → ((hp.push (kdv_tup [v])).push (excO C hp.objs.size)).get? b = some o := fun b o e => Heap.get?_push_of_some _ (Heap.get?_push_of_some _ e)
  have hget : ((hp.push (kdv_tup [v])).push (excO C hp.objs.size)).get? (hp.objs.size + 1) = some (excO C hp.objs.size) := by heap_get
  have hnx : ∀ o, K.lookup (hp.objs.size + 1) ≠ some o := fun o e => by
    have z : hp.get? (hp.objs.size + 1) = some o := X _ _ e
    exact absurd (Nat.lt_of_succ_lt (Heap.lt_size z)) (Nat.lt_irrefl _)
  obtain ⟨mb, hB, hb⟩ := B
  refine call_own F.excBase_ValueError (fun X => refsVE_contains X bm hbm) (X _ _ hC) (looks_findIn X T.iC) (fun self => bind_fn X self T.tC) (by rw [sizeLine_eq]; exact (by decide : 1 ≤ 16777216)) ?_
  refine own_init (s := ⟨(hp.push (kdv_tup [v])).push (excO C hp.objs.size), g, dr, tk, os⟩) T (X.keeps k) (G.keeps k) ⟨mb, hB.keeps k, hb⟩ (hlim.keeps k) hget hnx ?_ fun h' tk' dx t1 ⟨k', hx, dn, dne, hns⟩ => ?_
  · show A.depth + 1 < recursionLimit
    exact hroom
  · have old : ∀ b o, hp.get? b = some o → h'.get? b = some o := fun b o e => k' b o (Nat.ne_of_lt (Nat.lt_succ_of_lt (Heap.lt_size e))) (k b o e)
    have z : hp.objs.size ≤ dx := by
      have q := dn
      rw [Heap.size_push, Heap.size_push] at q
      omega
    exact ⟨rfl, hq h' tk' (hp.objs.size + 1) dx ⟨old, Nat.le_succ _, ⟨_, _, hx, rfl, rfl, rfl, rfl⟩, z, dne, hns⟩⟩
theorem own_c (T : Txt prog K mg cn C fI) : L2.OwnC prog w K mg cn "why" C := ⟨T.gC, T.kC, T.exC, T.tyC, T.xf, T.noN, fun X G B hlim hroom hq => own_made T X G B hlim hroom hq⟩
end
end Own_why
end PySem
namespace PySem
namespace Own_row
open PySem.W PySem.Calls PyProof.Rows PySem.HandSPX PySem.OwnX
def iA (p1 p2 : Pos) : Arguments := { posonlyargs := [], args := [{ arg := "self", annotation := none, pos := p1 }, { arg := "row", annotation := none, pos := p2 }], vararg := none, kwonlyargs := [], kw_defaults := [], kwarg := none, defaults := [] }
def iB (m : Str) (a1 a2 a3 a4 a5 a6 a7 a8 a9 a10 : Pos) : List Stmt := [.Expr (.Call (.Attribute (.Call (.Name "super" a1) [] [] a2) "__init__" a3) [.Constant (.str m) 0 a4] [] a5) a6, .Assign [.Attribute (.Name "self" a7) "row" a8] (.Name "row" a9) a10]
def iS : Scope := { kind := .function, names := [(PySem.Str.ofString "self", .local), (PySem.Str.ofString "row", .local), (PySem.Str.ofString "__class__", .free), (PySem.Str.ofString "super", .globalImplicit)], isGenerator := false, isCoroutine := false, more := [] }
/-- how the call of the base's __init__ is read, whatever the frame -/
def Reads (m : Str) (a1 a2 a3 a4 a5 : Pos) : Prop := ∃ pl : Sem Bool, ∀ env : Env, eval (.Call (.Attribute (.Call (.Name "super" a1) [] [] a2) "__init__" a3) [.Constant (.str m) 0 a4] [] a5) env = (do
      let ov ← attributeBase (.Call (.Name "super" a1) [] [] a2) "__init__" env (eval (.Call (.Name "super" a1) [] [] a2) env)
      standAt a3.atName
      let (f, first) ← holding [ov] (getMethod ov "__init__" pl)
      callWith a5 f first (backTo a5 (starEach [.Constant (.str m) 0 a4] env)) [])
structure Txt (prog : Program) (K : Frag) (mg : Str → Option Value) (cn : Str) (C fI : Addr) : Prop where
  gC : mg cn = some (.ref C)
  noS : mg "super" = none
  cls : ∃ nm q N bs bm sn sub ab col dd k0 k1 k2 k3 k5, K.lookup C = some (excClassObj nm q C N bs bm true sn sub ab col dd k0 k1 k2 k3 k5 "ValueError.__new__") ∧ refsVE bm = true
  sa : findIn K (.ref C) "__setattr__" = some (some (.builtin "object.__setattr__"))
  xf : L2.XfC K C
  noN : findIn K (.ref C) "row" = some none
  iC : findIn K (.ref C) "__init__" = some (some (.ref fI))
  tC : typeIn K (.ref fI) = some (.type "function")
  kC : keepIn K (.ref C) = true
  exC : subIn K (.ref C) (.type "BaseException") = some true
  tyC : typeIn K (.ref C) = some (.type "type")
  sup : ks_superIn K C C "__init__" = some (some (.builtin "ValueError.__init__"))
  sV : subIn K (.ref C) (.type "ValueError") = some true
  mC : mroIn K C (.ref C) = some true
  any : nsIn K cStatics "thirdparty.any" = some none
  top : (prog.main.scope.names.lookup ("super" : Str)).isSome = false
  fn : ∃ (cda cc : Addr) (m qual : Str) (oc : Value) (od : Option Addr) (doc pm : Value) (an : Option Addr) (ct : Value) (osl : Array (Option Value)) (p1 p2 a1 a2 a3 a4 a5 a6 a7 a8 a9 a10 : Pos) (ccl : Value) (cdd : Option Addr) (vs : Array Value) (ccs : Array (Option Value)) (file : Str) (tf : Tok)
    (cl : Value) (cld : Option Addr) (csl : Array (Option Value)),
    K.lookup fI = some ⟨oc, od, .func (ksFn "__init__" qual (iA p1 p2) (iB m a1 a2 a3 a4 a5 a6 a7 a8 a9 a10) iS .none .none doc pm an (.ref cda) ct cc), osl⟩ ∧ codeIn K (.ref cda) qual = true ∧
    K.lookup cda = some ⟨ccl, cdd, .fields vs, ccs⟩ ∧ vs[2]? = some (.str file tf) ∧ ((prog.main.file : Str) == file) = true ∧ K.lookup cc = some ⟨cl, cld, .cell (some (.ref C)), csl⟩ ∧ Reads m a1 a2 a3 a4 a5
section
variable {prog : Program} {w : World} {A : Around} {E : Value → Shared → Prop} {R : Result → Shared → Prop} {s : Shared} {K : Frag} {mg : Str → Option Value} {cn : Str} {C fI : Addr}
theorem own_init (T : Txt prog K mg cn C fI) {x t0 : Addr} {v : Value} (X : K.In s.heap) (G : s.heap.Ns mainGlobals mg) (B : ∃ mb, s.heap.Ns builtinsNs mb ∧ ∀ y : Str, y ≠ "__name__" → mb y = bootBuiltins y) (hlim : s.heap.NoLimit)
    (hx : s.heap.get? x = some (excO C t0)) (hnK : ∀ o, K.lookup x ≠ some o) (hroom : A.depth < recursionLimit) (hq : ∀ h' tk dx t1, InitEnd "row" s.heap h' x C dx t1 v → R (.ok (.ret .none)) { s with heap := h', toks := tk }) :
    codeAny (model prog w) A (.call (.ref fI) ⟨[.ref x, v], []⟩) R s := by
  obtain ⟨cda, cc, m, qual, oc, od, doc, pm, an, ct, osl, p1, p2, a1, a2, a3, a4, a5, a6, a7, a8, a9, a10, ccl, cdd, vs, ccs, file, tf, cl, cld, csl, ho, hcd, hcda, hvs, hfile, hcc, pl, hrd⟩ := T.fn
  obtain ⟨nm, q, N, bs, bm, sn, sub, ab, col, dd, k0, k1, k2, k3, k5, hC, hbm⟩ := T.cls
  obtain ⟨mb, hB, hb⟩ := B
  have hcl : clsIn K C = some { name := nm, bases := bs, mro := .ref C :: bm, ns := N, qualname := q, hasDict := true, slotNames := sn, subclasses := sub, abstract := ab, collection := col, hasDel := false } := by unfold clsIn; rw [hC] <;> rfl
  refine ks_codeAny_call_defAt (fd := ksFn "__init__" qual (iA p1 p2) (iB m a1 a2 a3 a4 a5 a6 a7 a8 a9 a10) iS .none .none doc pm an (.ref cda) ct cc) (body := iB m a1 a2 a3 a4 a5 a6 a7 a8 a9 a10) (binds := [("self", .ref x), ("row", v)])
    hroom (X _ _ ho) rfl hlim (codeRec_of X hcd) rfl (BindsTo.of_eq (by first | rfl | with_unfolding_all rfl)) (show ∀ y ∈ iS.names, y.2 ≠ .cell by decide) (fun y hy => by
      simp only [List.mem_cons, List.not_mem_nil, or_false] at hy
      rcases hy with rfl | rfl
      · exact (by decide : iS.names.lookup ("self" : Str) = some .local)
      · exact (by decide : iS.names.lookup ("row" : Str) = some .local)) (fun h₁ hns k => ?_)
  have X₁ : K.In h₁ := X.keeps k
  have hx₁ := k _ _ hx
  have hxL : x ≠ s.heap.objs.size := Nat.ne_of_lt (Heap.lt_size hx)
  have hself : ([("self", Value.ref x), ("row", v)] : List (Str × Value)).reverse.lookup ("self" : Str) = some (.ref x) := by
    simp only [List.reverse_cons, List.reverse_nil, List.nil_append, List.cons_append, List.lookup, show (("self" : Str) == ("row" : Str)) = false by decide, show (("self" : Str) == ("self" : Str)) = true by decide]
  have hfld : ([("self", Value.ref x), ("row", v)] : List (Str × Value)).reverse.lookup ("row" : Str) = some v := by simp [List.lookup]
  have I₁ : InstAt h₁ x (excO C t0) C none := ⟨hx₁, rfl, rfl, trivial⟩
  have hne := ks_ne X₁ I₁ hcl
  refine ks_wpAt_execs_cons (ks_wpAt_Expr_any (ks_wpAt_MethodCall ?_ (hrd _)))
  refine ks_wpAt_super_base (by first | rfl | with_unfolding_all rfl | kernel_rfl) (by first | rfl | with_unfolding_all rfl | kernel_rfl) (by decide) rfl (X₁ _ _ ho) rfl rfl rfl (X₁ _ _ hcda) rfl hvs hfile T.top ?_
  refine ks_loadName_global rfl (by first | rfl | with_unfolding_all rfl | kernel_rfl) (loadGlobal_builtin (G.keeps k) T.noS (hB.keeps k) ((hb "super" (by decide)).trans (by first | boot_by_name | rfl | kernel_rfl)) ⟨rfl, ?_⟩)
  refine wpAny_loadName_free rfl (by first | rfl | with_unfolding_all rfl | kernel_rfl) (by first | rfl | with_unfolding_all rfl | kernel_rfl) ⟨_, X₁ _ _ hcc, rfl⟩ ?_
  refine wpAny_loadName_local rfl (by first | rfl | with_unfolding_all rfl | kernel_rfl) hns hself ?_
  refine ks_wpAny_isType_cls (X₁ _ _ hC) rfl ⟨rfl, ?_⟩
  refine ks_wpAny_call_super (X₁ _ _ hC) rfl hx₁ rfl (fun c e => by cases e) (looks_mroIn X₁ T.mC) fun h₂ e₂ k₂ => ?_
  have X₂ : K.In h₂ := X₁.keeps k₂
  have I₂ : InstAt h₂ x (excO C t0) C none := ⟨k₂ _ _ hx₁, rfl, rfl, trivial⟩
  have hsup := T.sup
  unfold ks_superIn at hsup
  rw [hcl] at hsup
  refine kxs_getMethod kxs_ValueError e₂ (looks_opaque X₂ T.any) (l₀ := .ref C :: bm) (fun A Q E s k q => wpAny_bind ((looks_clsIn X₂ hcl) A _ E s k (wpAny_pure q))) rfl X₂ hsup (I₂.type.andThen (looks_subIn X₂ T.sV)) hne (by decide) ?_
  have hnx : K.lookup x = none := by
    cases e : K.lookup x with
    | none => rfl
    | some o => exact (hnK o e).elim
  have up : ∀ b o, h₁.get? b = some o → (h₂.push (kxs_mw "ValueError.__init__" x)).get? b = some o := fun b o e => Heap.get?_push_of_some _ (k₂ _ _ e)
  have hu : (h₂.push (kxs_mw "ValueError.__init__" x)).get? h₂.objs.size = some (kxs_mw "ValueError.__init__" x) := Heap.get?_push_at rfl rfl
  have l1 : s.heap.objs.size < h₂.objs.size := by
    obtain ⟨oL, _, _, hL, _⟩ := hns
    exact Heap.lt_size (k₂ _ _ hL)
  have F₃ : Fr (hideAll s.heap [x]) s.heap.objs.size (h₂.push (kxs_mw "ValueError.__init__" x)) _ := ⟨hns.keeps up, fun b o e => up _ _ (k _ _ (of_hideAll _ e)), Nat.le_of_eq (hideAll_size _ _)⟩
  have N₃ : News (hideAll s.heap [x]) s.heap.objs.size (h₂.push (kxs_mw "ValueError.__init__" x)) [(h₂.objs.size, kxs_mw "ValueError.__init__" x), (x, excObj C t0 none .none)] := fun p hp => by
    rcases List.mem_cons.mp hp with rfl | hp
    · refine ⟨hu, fun z => Nat.ne_of_gt l1 z, ?_⟩
      cases e : (hideAll s.heap [x]).get? h₂.objs.size with
      | none => rfl
      | some o =>
        exact absurd (Nat.lt_trans (Heap.lt_size (of_hideAll _ e)) l1) (Nat.lt_irrefl _)
    · obtain rfl := List.mem_singleton.mp hp
      exact ⟨up _ _ hx₁, hxL, hideAll_none _ (by simp)⟩
  have X₀ : K.In (hideAll s.heap [x]) := fun a o e => hideAll_get _ (X _ _ e) fun z => by
    rw [List.mem_singleton.mp z, hnx] at e; cases e
  have xu : h₂.objs.size ≠ x := fun z => by
    have z2 := Heap.lt_size (k₂ _ _ hx₁)
    rw [z] at z2
    exact absurd z2 (Nat.lt_irrefl _)
  refine kxs_callWith1 (i := "ValueError.__init__") (x := x) N₃ (by simp) (spliced_more (wpAny_Constant_str (spliced_none ⟨hu, ?_⟩)))
  refine kxs_call F₃ X₀ N₃ F.excBase_ValueError (init_in hC hbm) (by simp) (.tail xu (.head (by simp))) (by rw [sizeLine_eq]; exact (by decide : 1 ≤ 16777216)) fun t1 h₄ F₄ N₄ _ => ?_
  have hx₄ : h₄.get? x = some (excO C t1) := (N₄ (x, excObj C t1 none .none) (by simp)).1
  show _root_.PySem.wpAt _ _ _ _ _ _ _
  have hns₄ := F₄.ns
  have X₄ : K.In h₄ := X₀.keeps F₄.keep
  have I₄ : InstAt h₄ x (excO C t1) C none := ⟨hx₄, rfl, rfl, trivial⟩
  refine ks_wpAt_execs_cons (wpAt_of_wpAny (plainObj_wpAny_Assign_Attribute ?_))
  refine ESX.ldL hns₄ hfld (ESX.ldL hns₄ hself ?_)
  refine set_plain X₄ I₄ T.sa ?_
  refine exc_osa X₄ hx₄ hcl (show refsVE (.ref C :: bm) = true from hbm) rfl T.noN (fun h₅ tk₅ dx k₅ dn dne hx₅ hn₅ => ?_)
  show _root_.PySem.wpAt _ _ _ _ _ _ _
  have z4 : s.heap.objs.size < h₄.objs.size := hns₄.lt
  refine wpAt_of_wpAny (wpAny_execs_nil (hq h₅ tk₅ dx t1 ⟨fun b o hb e => k₅ b o hb (F₄.keep b o (hideAll_get _ e (by simpa using hb))), hx₅, Nat.le_of_lt (Nat.lt_of_lt_of_le z4 dn), dne, hn₅⟩))
theorem own_made (T : Txt prog K mg cn C fI) {v : Value} (X : K.In s.heap) (G : s.heap.Ns mainGlobals mg) (B : ∃ mb, s.heap.Ns builtinsNs mb ∧ ∀ y : Str, y ≠ "__name__" → mb y = bootBuiltins y) (hlim : s.heap.NoLimit) (hroom : A.depth + 1 < recursionLimit)
    (hq : ∀ h' tk e d, OwnMade "row" s.heap h' e C d v → R (.ok (.ret (.ref e))) { s with heap := h', toks := tk }) :
    codeAny (model prog w) A (.call (.ref C) ⟨[v], []⟩) R s := by
  obtain ⟨nm, q, N, bs, bm, sn, sub, ab, col, dd, k0, k1, k2, k3, k5, hC, hbm⟩ := T.cls
  obtain ⟨hp, g, dr, tk, os⟩ := s
  have k : ∀ b o, hp.get? b = some o → ((hp.push (kdv_tup [v])).push (excO C hp.objs.size)).get? b = some o := fun b o e => Heap.get?_push_of_some _ (Heap.get?_push_of_some _ e)
  have hget : ((hp.push (kdv_tup [v])).push (excO C hp.objs.size)).get? (hp.objs.size + 1) = some (excO C hp.objs.size) := by heap_get
  have hnx : ∀ o, K.lookup (hp.objs.size + 1) ≠ some o := fun o e => by
    have z : hp.get? (hp.objs.size + 1) = some o := X _ _ e
    exact absurd (Nat.lt_of_succ_lt (Heap.lt_size z)) (Nat.lt_irrefl _)
  obtain ⟨mb, hB, hb⟩ := B
  refine call_own F.excBase_ValueError (fun X => refsVE_contains X bm hbm) (X _ _ hC) (looks_findIn X T.iC) (fun self => bind_fn X self T.tC) (by rw [sizeLine_eq]; exact (by decide : 1 ≤ 16777216)) ?_
  refine own_init (s := ⟨(hp.push (kdv_tup [v])).push (excO C hp.objs.size), g, dr, tk, os⟩) T (X.keeps k) (G.keeps k) ⟨mb, hB.keeps k, hb⟩ (hlim.keeps k) hget hnx ?_ fun h' tk' dx t1 ⟨k', hx, dn, dne, hns⟩ => ?_
  · show A.depth + 1 < recursionLimit
    exact hroom
  · have old : ∀ b o, hp.get? b = some o → h'.get? b = some o := fun b o e => k' b o (Nat.ne_of_lt (Nat.lt_succ_of_lt (Heap.lt_size e))) (k b o e)
    have z : hp.objs.size ≤ dx := by
      have q := dn
      rw [Heap.size_push, Heap.size_push] at q
      omega
    exact ⟨rfl, hq h' tk' (hp.objs.size + 1) dx ⟨old, Nat.le_succ _, ⟨_, _, hx, rfl, rfl, rfl, rfl⟩, z, dne, hns⟩⟩
theorem own_c (T : Txt prog K mg cn C fI) : L2.OwnC prog w K mg cn "row" C := ⟨T.gC, T.kC, T.exC, T.tyC, T.xf, T.noN, fun X G B hlim hroom hq => own_made T X G B hlim hroom hq⟩
end
end Own_row
end PySem

namespace Sx
open PySem L2
/-- where the classes stand -/
structure Er where
  base : Addr
  bad : Addr
  turned : Addr
  side : Addr
  step : Addr
  text : Addr
theorem passE {X : Cx} : Passes (L2.CX X.prog X.w) X (fun _ _ _ => False) := fun _ σ _ _ e s' I c => takes_none5 e s' (XE.of_call I (fun _ _ _ h => h.elim) c)
end Sx
/-! twos, threes and fives of a number -/
namespace Sx
open PySem L2
def valF (p : Nat) : Nat → Nat → Nat
  | 0, _ => 0
  | f + 1, n => if n % p = 0 then valF p f (n / p) + 1 else 0
def remF (p : Nat) : Nat → Nat → Nat
  | 0, n => n
  | f + 1, n => if n % p = 0 then remF p f (n / p) else n
def val (p n : Nat) : Nat := valF p n n
def rem (p n : Nat) : Nat := remF p n n
def leftN (n : Nat) : Nat := rem 5 (rem 3 (rem 2 n))
section
variable {p : Nat}
theorem div_lt2 {n : Nat} (hp : 2 ≤ p) (h : 0 < n) : n / p < n := Nat.div_lt_self h hp
theorem div_pos2 {n : Nat} (hp : 2 ≤ p) (h : 0 < n) (e : n % p = 0) : 0 < n / p := Nat.div_pos (Nat.le_of_dvd h (Nat.dvd_of_mod_eq_zero e)) (by omega)
theorem valF_more (hp : 2 ≤ p) : ∀ (f g n : Nat), 0 < n → n ≤ f → n ≤ g → valF p f n = valF p g n
  | 0, _, n, h, h1, _ => by omega
  | _ + 1, 0, n, h, _, h2 => by omega
  | f + 1, g + 1, n, h, h1, h2 => by
    unfold valF
    by_cases e : n % p = 0
    · have := div_lt2 hp h
      rw [if_pos e, if_pos e, valF_more hp f g (n / p) (div_pos2 hp h e) (by omega) (by omega)]
    · rw [if_neg e, if_neg e]
theorem remF_more (hp : 2 ≤ p) : ∀ (f g n : Nat), 0 < n → n ≤ f → n ≤ g → remF p f n = remF p g n
  | 0, _, n, h, h1, _ => by omega
  | _ + 1, 0, n, h, _, h2 => by omega
  | f + 1, g + 1, n, h, h1, h2 => by
    unfold remF
    by_cases e : n % p = 0
    · have := div_lt2 hp h
      rw [if_pos e, if_pos e, remF_more hp f g (n / p) (div_pos2 hp h e) (by omega) (by omega)]
    · rw [if_neg e, if_neg e]
theorem val_yes {n : Nat} (hp : 2 ≤ p) (h : 0 < n) (e : n % p = 0) : val p n = val p (n / p) + 1 := by
  obtain ⟨m, rfl⟩ : ∃ m, n = m + 1 := ⟨n - 1, by omega⟩
  have := div_lt2 hp h
  have e1 : val p (m + 1) = valF p m ((m + 1) / p) + 1 := by
    show (if (m + 1) % p = 0 then _ else _) = _
    rw [if_pos e]
  rw [e1, valF_more hp m ((m + 1) / p) _ (div_pos2 hp h e) (by omega) (by omega)]; rfl
theorem val_no {n : Nat} (h : 0 < n) (e : n % p ≠ 0) : val p n = 0 := by
  obtain ⟨m, rfl⟩ : ∃ m, n = m + 1 := ⟨n - 1, by omega⟩
  show (if (m + 1) % p = 0 then _ else _) = _
  rw [if_neg e]
theorem rem_yes {n : Nat} (hp : 2 ≤ p) (h : 0 < n) (e : n % p = 0) : rem p n = rem p (n / p) := by
  obtain ⟨m, rfl⟩ : ∃ m, n = m + 1 := ⟨n - 1, by omega⟩
  have := div_lt2 hp h
  have e1 : rem p (m + 1) = remF p m ((m + 1) / p) := by
    show (if (m + 1) % p = 0 then _ else _) = _
    rw [if_pos e]
  rw [e1, remF_more hp m ((m + 1) / p) _ (div_pos2 hp h e) (by omega) (by omega)]; rfl
theorem rem_no {n : Nat} (h : 0 < n) (e : n % p ≠ 0) : rem p n = n := by
  obtain ⟨m, rfl⟩ : ∃ m, n = m + 1 := ⟨n - 1, by omega⟩
  show (if (m + 1) % p = 0 then _ else _) = _
  rw [if_neg e]
theorem val_spec (hp : 2 ≤ p) : ∀ (n : Nat), 0 < n → n = p ^ val p n * rem p n ∧ rem p n % p ≠ 0 ∧ 0 < rem p n := by
  intro n
  induction n using Nat.strongRecOn with
  | ind n ih =>
    intro h
    by_cases e : n % p = 0
    · obtain ⟨h1, h2, h3⟩ := ih (n / p) (div_lt2 hp h) (div_pos2 hp h e)
      rw [val_yes hp h e, rem_yes hp h e]
      refine ⟨?_, h2, h3⟩
      rw [Nat.pow_succ, Nat.mul_assoc, Nat.mul_comm p, ← Nat.mul_assoc, ← h1]
      exact (Nat.div_mul_cancel (Nat.dvd_of_mod_eq_zero e)).symm
    · rw [val_no h e, rem_no h e]
      exact ⟨by simp, e, h⟩
theorem val_uniq (hp : 2 ≤ p) : ∀ (a m : Nat), 0 < m → m % p ≠ 0 → val p (p ^ a * m) = a ∧ rem p (p ^ a * m) = m
  | 0, m, h, e => by
    rw [Nat.pow_zero, Nat.one_mul]
    exact ⟨val_no h e, rem_no h e⟩
  | a + 1, m, h, e => by
    obtain ⟨h1, h2⟩ := val_uniq hp a m h e
    have pos : 0 < p ^ (a + 1) * m := Nat.mul_pos (Nat.pos_of_ne_zero (by simp; omega)) h
    have e1 : p ^ (a + 1) * m = p * (p ^ a * m) := by rw [Nat.pow_succ, Nat.mul_comm (p ^ a), Nat.mul_assoc]
    have e2 : p ^ (a + 1) * m % p = 0 := by rw [e1]; exact Nat.mul_mod_right _ _
    have e3 : p ^ (a + 1) * m / p = p ^ a * m := by rw [e1]; exact Nat.mul_div_cancel_left _ (by omega)
    exact ⟨by rw [val_yes hp pos e2, e3, h1], by rw [rem_yes hp pos e2, e3, h2]⟩
theorem pow_mod_ne {q : Nat} (h : ∀ m, m % p ≠ 0 → (q * m) % p ≠ 0) : ∀ (a m : Nat), m % p ≠ 0 → (q ^ a * m) % p ≠ 0
  | 0, m, e => by rw [Nat.pow_zero, Nat.one_mul]; exact e
  | a + 1, m, e => by
    rw [Nat.pow_succ, Nat.mul_comm (q ^ a), Nat.mul_assoc]
    exact h _ (pow_mod_ne h a m e)
end
/-- a number by its twos, threes, fives -/
structure Fac (n a b c u : Nat) : Prop where
  eq : n = 2 ^ a * (3 ^ b * (5 ^ c * u))
  u2 : u % 2 ≠ 0
  u3 : u % 3 ≠ 0
  u5 : u % 5 ≠ 0
theorem Fac.pos {n a b c u : Nat} (f : Fac n a b c u) : 0 < u := by
  rcases Nat.eq_zero_or_pos u with h | h
  · have := f.u2; rw [h] at this; exact absurd rfl this
  · exact h
theorem Fac.all {n a b c u : Nat} (f : Fac n a b c u) : val 2 n = a ∧ val 3 (rem 2 n) = b ∧ val 5 (rem 3 (rem 2 n)) = c ∧ leftN n = u ∧ val 3 n = b ∧ val 5 n = c := by
  have p0 := f.pos
  have pc : 0 < 5 ^ c * u := Nat.mul_pos (Nat.pos_of_ne_zero (by simp)) p0
  have pb : 0 < 3 ^ b * (5 ^ c * u) := Nat.mul_pos (Nat.pos_of_ne_zero (by simp)) pc
  have m2 : (3 ^ b * (5 ^ c * u)) % 2 ≠ 0 := pow_mod_ne (fun m h => by omega) b _ (pow_mod_ne (fun m h => by omega) c _ f.u2)
  have m3 : (5 ^ c * u) % 3 ≠ 0 := pow_mod_ne (fun m h => by omega) c _ f.u3
  have m3' : (2 ^ a * (5 ^ c * u)) % 3 ≠ 0 := pow_mod_ne (fun m h => by omega) a _ m3
  have m5' : (2 ^ a * (3 ^ b * u)) % 5 ≠ 0 := pow_mod_ne (fun m h => by omega) a _ (pow_mod_ne (fun m h => by omega) b _ f.u5)
  obtain ⟨h1, h2⟩ := val_uniq (p := 2) (by decide) a _ pb m2
  obtain ⟨h3, h4⟩ := val_uniq (p := 3) (by decide) b _ pc m3
  obtain ⟨h5, h6⟩ := val_uniq (p := 5) (by decide) c _ p0 f.u5
  rw [← f.eq] at h1 h2
  have e3 : n = 3 ^ b * (2 ^ a * (5 ^ c * u)) := by rw [f.eq]; ac_rfl
  have e5 : n = 5 ^ c * (2 ^ a * (3 ^ b * u)) := by rw [f.eq]; ac_rfl
  obtain ⟨h7, _⟩ := val_uniq (p := 3) (by decide) b _ (Nat.mul_pos (Nat.pos_of_ne_zero (by simp)) pc) m3'
  obtain ⟨h8, _⟩ := val_uniq (p := 5) (by decide) c (2 ^ a * (3 ^ b * u)) (Nat.mul_pos (Nat.pos_of_ne_zero (by simp)) (Nat.mul_pos (Nat.pos_of_ne_zero (by simp)) p0)) m5'
  rw [← e3] at h7
  rw [← e5] at h8
  refine ⟨h1, by rw [h2, h3], by rw [h2, h4, h5], ?_, h7, h8⟩
  unfold leftN
  rw [h2, h4, h6]
theorem fac_of {n : Nat} (h : 0 < n) : Fac n (val 2 n) (val 3 n) (val 5 n) (leftN n) := by
  obtain ⟨h1, h2, h3⟩ := val_spec (p := 2) (by decide) n h
  obtain ⟨h4, h5, h6⟩ := val_spec (p := 3) (by decide) _ h3
  obtain ⟨h7, h8, h9⟩ := val_spec (p := 5) (by decide) _ h6
  have f : Fac n (val 2 n) (val 3 (rem 2 n)) (val 5 (rem 3 (rem 2 n))) (leftN n) := by
    have e3 : rem 2 n = 3 ^ val 3 (rem 2 n) * (5 ^ val 5 (rem 3 (rem 2 n)) * leftN n) := by
      unfold leftN; rw [← h7]; exact h4
    have d5 : rem 5 (rem 3 (rem 2 n)) ∣ rem 3 (rem 2 n) := ⟨_, h7.trans (Nat.mul_comm _ _)⟩
    have d3 : rem 3 (rem 2 n) ∣ rem 2 n := ⟨_, h4.trans (Nat.mul_comm _ _)⟩
    refine ⟨?_, fun e => h2 ?_, fun e => h5 ?_, h8⟩
    · rw [← e3]; exact h1
    · exact Nat.mod_eq_zero_of_dvd (Nat.dvd_trans (Nat.dvd_of_mod_eq_zero e) (Nat.dvd_trans d5 d3))
    · exact Nat.mod_eq_zero_of_dvd (Nat.dvd_trans (Nat.dvd_of_mod_eq_zero e) d5)
  obtain ⟨_, _, _, _, h10, h11⟩ := f.all
  rw [← h10, ← h11] at f
  exact f
theorem left_dvd {n : Nat} (h : 0 < n) : leftN n ∣ n := ⟨2 ^ val 2 n * (3 ^ val 3 n * 5 ^ val 5 n), by
  have := (fac_of h).eq
  calc n = _ := this
    _ = _ := by ac_rfl⟩
theorem left_pos {n : Nat} (h : 0 < n) : 0 < leftN n := (fac_of h).pos
theorem left_le {n : Nat} (h : 0 < n) : leftN n ≤ n := Nat.le_of_dvd h (left_dvd h)
theorem smooth_part {n : Nat} (h : 0 < n) : n / leftN n = 2 ^ val 2 n * (3 ^ val 3 n * 5 ^ val 5 n) := by
  have f := fac_of h
  have e := f.eq
  have p := f.pos
  have e2 : n = (2 ^ val 2 n * (3 ^ val 3 n * 5 ^ val 5 n)) * leftN n := by
    calc n = _ := e
      _ = _ := by ac_rfl
  conv => lhs; rw [e2]
  have e3 : leftN ((2 ^ val 2 n * (3 ^ val 3 n * 5 ^ val 5 n)) * leftN n) = leftN n := congrArg leftN e2.symm
  rw [e3]
  exact Nat.mul_div_cancel _ p
/-- sixty often enough takes in what has but twos, threes and fives -/
theorem smooth_dvd {n k : Nat} (h : 0 < n) (hk : n < 2 ^ (k + 1)) : n / leftN n ∣ 60 ^ k := by
  have f := fac_of h
  rw [smooth_part h]
  have le : ∀ {p a : Nat}, 2 ≤ p → p ^ a ∣ n → a ≤ k := fun {p a} hp hd => by
    have h1 := Nat.le_of_dvd h hd
    have h2 : 2 ^ a ≤ p ^ a := Nat.pow_le_pow_left hp a
    have h3 : 2 ^ a < 2 ^ (k + 1) := by omega
    have := (Nat.pow_lt_pow_iff_right (a := 2) (by decide)).mp h3
    omega
  have e := f.eq
  have a2 := le (p := 2) (a := val 2 n) (by decide) ⟨_, e⟩
  have a3 := le (p := 3) (a := val 3 n) (by decide) ⟨2 ^ val 2 n * (5 ^ val 5 n * leftN n), by calc n = _ := e
                                                                                                  _ = _ := by ac_rfl⟩
  have a5 := le (p := 5) (a := val 5 n) (by decide) ⟨2 ^ val 2 n * (3 ^ val 3 n * leftN n), by calc n = _ := e
                                                                                                  _ = _ := by ac_rfl⟩
  have d2 : 2 ^ val 2 n ∣ 4 ^ k := Nat.dvd_trans (Nat.pow_dvd_pow 2 a2) ⟨2 ^ k, by rw [← Nat.mul_pow]⟩
  have d3 : 3 ^ val 3 n ∣ 3 ^ k := Nat.pow_dvd_pow 3 a3
  have d5 : 5 ^ val 5 n ∣ 5 ^ k := Nat.pow_dvd_pow 5 a5
  have e60 : 60 ^ k = 4 ^ k * (3 ^ k * 5 ^ k) := by rw [← Nat.mul_pow, ← Nat.mul_pow]
  rw [e60]
  exact Nat.mul_dvd_mul d2 (Nat.mul_dvd_mul d3 d5)
end Sx
open PySem L2 RT Sx

namespace Sx
def facV (n : Nat) : List Nat := [val 2 n, val 3 n, val 5 n]
def sp_factors (K : PySem.W.Frag) : Sp := fun vs H Q _ => ∃ a r, vs = [.ref a] ∧ SqT K H a (rowV r) ∧ IsRow r ∧ ∀ p q H', Same H H' → SqT K H' p [.ref q, natV (leftN (whole r))] → SqT K H' q (rowV (facV (whole r))) → Q (.ref p) H'
def sp_part (K : PySem.W.Frag) (e : Er) : Sp := fun vs H Q E => ∃ a b r1 r2, vs = [.ref a, .ref b] ∧ SqT K H a (rowV r1) ∧ IsRow r1 ∧ SqT K H b (rowV r2) ∧ IsRow r2 ∧
  (whole r1 % leftN (whole r2) ≠ 0 → ∀ d H', Same H H' → H' d = none → E (.ref e.turned) (some d) (upd H' d (.xd [("left", natV (leftN (whole r2) / Nat.gcd (leftN (whole r2)) (whole r1)))]))) ∧
  (whole r1 % leftN (whole r2) = 0 → ∀ x j p H', 0 < x → x < 60 ^ 90 → x * whole r2 = whole r1 * 60 ^ j → Same H H' → SqT K H' p (rowV (rowOf x)) → Q (.ref p) H')
def sp_turned (K : PySem.W.Frag) (e : Er) : Sp := fun vs H Q E => ∃ b r2, vs = [.ref b] ∧ SqT K H b (rowV r2) ∧ IsRow r2 ∧
  (leftN (whole r2) ≠ 1 → ∀ d H', Same H H' → H' d = none → E (.ref e.turned) (some d) (upd H' d (.xd [("left", natV (leftN (whole r2)))]))) ∧
  (leftN (whole r2) = 1 → ∀ x j p H', 0 < x → x < 60 ^ 90 → x * whole r2 = 60 ^ j → Same H H' → SqT K H' p (rowV (rowOf x)) → Q (.ref p) H')
def sp__law_left (K : PySem.W.Frag) : Sp := fun vs H Q _ => ∃ n, vs = [natV n] ∧ 0 < n ∧ ∀ H', Same H H' → Q (natV (leftN n)) H'
def sp__law_many (K : PySem.W.Frag) : Sp := fun vs H Q _ => ∃ n p, vs = [natV n, natV p] ∧ 0 < n ∧ 2 ≤ p ∧ p < 64 ∧ Q (natV (val p n)) H
def sp__law_short (K : PySem.W.Frag) : Sp := fun vs H Q _ => ∃ (d : Addr) (m : Nat), vs = [.ref d, natV m] ∧ Dice K H d ∧ 2 ≤ m ∧ m ≤ 12 ∧
  ∀ p r H', IsRow r → r.length ≤ m → Drew d H H' → SqT K H' p (rowV r) → Q (.ref p) H'
def t_factors (K : PySem.W.Frag) (c_PRIMES : Addr) : TS := (tSeq (tAsg (tCall (sp_whole_of K) [] E0 (tCons (tVar 0) tNil)) (gName 1))
  (tSeq (tAsg (tLstN tNil) (gName 2))
  (tSeq (tFor (iTup K (tC (.ref c_PRIMES))) (gName 3)
  (tSeq (tAsg (tC (natV 0)) (gName 4))
  (tSeq (tWhile (tTest (tOp rEq (tOp rMd (tVar 1) (tVar 3)) (tC (natV 0)))) (tSeq (tAug 1 (tVar 3) rFdW)
  (tAug 4 (tC (natV 1)) (ipI fun i j => i + j))))
  (tDrop (tBM K "list" rAppend (tVar 2) (tCons (tVar 4) tNil))))))
  (tRet (tTupN K (tCons (tCB (rTupN K) (tCons (tVar 2) tNil)) (tCons (tVar 1) tNil)))))))
def t_part (K : PySem.W.Frag) (e : Er) (E : XK) : TS := (tSeq (tAsg (tCall (sp_whole_of K) [] E0 (tCons (tVar 0) tNil)) (gName 2))
  (tSeq (tAsg (tCall (sp_factors K) [] E0 (tCons (tVar 1) tNil)) (gTup K 2 (gCons (gName 3) (gCons (gName 4) gNil))))
  (tSeq (tIfS (tTest (tOp rNe (tOp rMd (tVar 2) (tVar 4)) (tC (natV 0)))) (tRaiseF e.turned "left" (fun cls d _ H => E cls d H) (tCons (tOp rFdW (tVar 4) (tCB rGcd (tCons (tVar 4) (tCons (tVar 2) tNil)))) tNil)) tNext)
  (tSeq (tAsg (tOp rFdW (tCall (sp_whole_of K) [] E0 (tCons (tVar 1) tNil)) (tVar 4)) (gName 5))
  (tSeq (tAug 2 (tVar 4) rFdW)
  (tSeq (tWhile (tTest (tOp rNe (tOp rMd (tVar 2) (tVar 5)) (tC (natV 0)))) (tAug 2 (tC (natV 60)) rMul))
  (tRet (tCall (sp_row_of K) [] E0 (tCons (tOp rFdW (tVar 2) (tVar 5)) tNil)))))))))
def t_turned (K : PySem.W.Frag) (e : Er) (E : XK) : TS := (tRet (tCallS (sp_part K e) (WE fun cls d _ H => E cls d H) (tCons (tTupN K (tCons (tC (natV 1)) tNil)) (tCons (tVar 0) tNil))))
def t__law_left (K : PySem.W.Frag) : TS := (tSeq (tFor (iList K (tLstN (tCons (tC (natV 2)) (tCons (tC (natV 3)) (tCons (tC (natV 5)) tNil))))) (gName 1)
  (tWhile (tTest (tOp rEq (tOp rMd (tVar 0) (tVar 1)) (tC (natV 0)))) (tAsg (tOp rFdW (tVar 0) (tVar 1)) (gName 0))))
  (tRet (tVar 0)))
def t__law_many (K : PySem.W.Frag) : TS := (tSeq (tAsg (tC (natV 0)) (gName 2))
  (tSeq (tWhile (tTest (tOp rEq (tOp rMd (tVar 0) (tVar 1)) (tC (natV 0)))) (tSeq (tAsg (tOp rFdW (tVar 0) (tVar 1)) (gName 0))
  (tAsg (tOp rAdd (tVar 2) (tC (natV 1))) (gName 2))))
  (tRet (tVar 2))))
def t__law_short (K : PySem.W.Frag) : TS := (tSeq (tAsg (tCall (sp__law_drawn K) [] E0 (tCons (tVar 0) (tCons (tVar 1) tNil))) (gName 2))
  (tRet (tIf (tTest (tOp rLe (tCB (rLen K) (tCons (tVar 2) tNil)) (tVar 1))) (tVar 2) (tSl (rSlN K) (tVar 2) tNoPart (tPart (tC (natV 1)))))))

section
variable {K : PySem.W.Frag} {H : Hp} {Q : VK} {er : Er}
theorem i_fdWN {a b : Nat} (h : 0 < b) (h2 : b < 2 ^ 250) (q : Q (natV (a / b)) H) : rFdW (natV a) (natV b) H Q := ⟨a, b, rfl, rfl, wide_div (by omega) (b := 250) (by simpa using h2) (by decide) (by decide), by
  show Q (.int ((a : Int) / (b : Int))) H
  rw [show ((a : Int) / (b : Int)) = ((a / b : Nat) : Int) by simp]; exact q⟩
theorem i_ipadd {a b : Nat} (q : Q (natV (a + b)) H) : ipI (fun i j => i + j) (natV a) (natV b) H Q := ⟨(a : Int), (b : Int), rfl, rfl, q⟩
theorem i_gcd {a b : Nat} (q : Q (natV (Nat.gcd a b)) H) : rGcd [natV a, natV b] H Q := ⟨a, b, rfl, q⟩
theorem pure__law_many {vs : List V} {E : XK} (h : sp__law_many K vs H Q E) : t__law_many K (endsOf Q) (start ["_law_number", "_law_prime", "_law_found"] vs) H := by
  obtain ⟨n, p, rfl, hn, hp, hp2, q⟩ := h
  show t__law_many K (endsOf Q) [some (natV n), some (natV p), none] H
  unfold t__law_many
  walk_at "go"
  refine l_whileN (fun m σ H' => ∃ k, 0 < m ∧ k + val p m = val p n ∧ σ = [some (natV m), some (natV p), some (natV k)] ∧ H' = H) n ⟨0, hn, by omega, rfl, rfl⟩ ?_
  rintro m σ H' ⟨k, hm, hk, rfl, rfl⟩
  walk_at "go"
  by_cases e : m % p = 0
  · refine i_yes e (l_turn ?_)
    walk_at "go"
    refine i_fdWN (by omega) (by omega) ?_
    walk_at "go"
    exact ⟨m / p, div_lt2 hp hm, k + 1, div_pos2 hp hm e, by rw [val_yes hp hm e] at hk; omega, rfl, rfl⟩
  · refine i_nay e ?_
    walk_at "go"
    rw [val_no hm e] at hk
    rw [show k = val p n by omega]
    exact q
theorem pure__law_left {vs : List V} {E : XK} (h : sp__law_left K vs H Q E) : t__law_left K (endsOf Q) (start ["_law_number", "_law_prime"] vs) H := by
  obtain ⟨n, rfl, hn, q⟩ := h
  show t__law_left K (endsOf Q) [some (natV n), none] H
  unfold t__law_left
  walk_at "go"
  refine i_for (i_iList ?_)
  walk_at "go"
  refine ⟨szl (by simp), fun l H1 nl s1 hl => ?_⟩
  have turn : ∀ (m p : Nat) (D : Ends), 0 < m → 2 ≤ p → p < 64 → D.nx [some (natV (rem p m)), some (natV p)] H1 →
      tWhile (tTest (tOp rEq (tOp rMd (tVar 0) (tVar 1)) (tC (natV 0)))) (tAsg (tOp rFdW (tVar 0) (tVar 1)) (gName 0)) D [some (natV m), some (natV p)] H1 := by
    intro m p D hm hp hp2 q
    refine l_whileN (fun k σ H' => 0 < k ∧ rem p k = rem p m ∧ σ = [some (natV k), some (natV p)] ∧ H' = H1) m ⟨hm, rfl, rfl, rfl⟩ ?_
    rintro k σ H' ⟨hk, e, rfl, rfl⟩
    walk_at "go"
    by_cases z : k % p = 0
    · refine i_yes z (l_turn ?_)
      walk_at "go"
      refine i_fdWN (by omega) (by omega) ?_
      walk_at "go"
      exact ⟨k / p, div_lt2 hp hk, div_pos2 hp hk z, by rw [← e, rem_yes hp hk z], rfl, rfl⟩
    · refine i_nay z ?_
      rw [rem_no hk z] at e
      rw [e]
      exact q
  have p2 := (val_spec (p := 2) (by decide) n hn).2.2
  have p3 := (val_spec (p := 3) (by decide) _ p2).2.2
  refine l_list (K := K) (sql hl) (fun i σ H' => ∃ x : Option V, σ = [some (natV ([n, rem 2 n, rem 3 (rem 2 n), leftN n].getD i 0)), x] ∧ H' = H1) ⟨none, rfl, rfl⟩ ?_ ?_ ?_
  · rintro i σ H' _ ⟨x, rfl, rfl⟩
    exact sql hl
  · rintro i x σ H' hx ⟨x0, rfl, rfl⟩
    rcases i with _ | _ | _ | i
    · obtain rfl := Option.some.inj hx
      walk_at "go"
      exact turn _ _ _ hn (by decide) (by decide) ⟨_, rfl, rfl⟩
    · obtain rfl := Option.some.inj hx
      walk_at "go"
      exact turn _ _ _ p2 (by decide) (by decide) ⟨_, rfl, rfl⟩
    · obtain rfl := Option.some.inj hx
      walk_at "go"
      exact turn _ _ _ p3 (by decide) (by decide) ⟨_, rfl, rfl⟩
    · simp at hx
  · rintro σ H' ⟨x, rfl, rfl⟩
    walk_at "go"
    exact q _ s1
theorem pure__law_short {vs : List V} {E : XK} (h : sp__law_short K vs H Q E) : t__law_short K (endsOf Q) (start ["_law_d", "_law_most", "_law_row_here"] vs) H := by
  obtain ⟨d, m, rfl, hd, h2, h12, q⟩ := h
  show t__law_short K (endsOf Q) [some (.ref d), some (natV m), none] H
  unfold t__law_short
  walk_at "go"
  refine ⟨d, m, rfl, hd, h2, h12, fun p1 r H2 ir l1 d2 h1 => ?_⟩
  walk_at "go"
  refine i_lenT h1 ?_
  rw [rowV_len]
  walk_at "go"
  exact q _ _ _ ir l1 d2 h1
theorem pure_factors {vs : List V} {E : XK} {c : Addr} (hc : ∀ H, SqT K H c (rowV [2, 3, 5])) (h : sp_factors K vs H Q E) : t_factors K c (endsOf Q) (start ["row", "left", "counts", "prime", "often"] vs) H := by
  obtain ⟨a, r, rfl, hr, ir, q⟩ := h
  show t_factors K c (endsOf Q) [some (.ref a), none, none, none, none] H
  unfold t_factors
  have hn := whole_pos (row_ne ir) ir.hd
  generalize hN : whole r = n at *
  walk_at "go"
  refine ⟨a, r, rfl, hr, ir, ?_⟩
  rw [hN]
  walk_at "go"
  refine ⟨szl (by simp), fun D H1 nD s1 hD => ?_⟩
  walk_at "go"
  refine i_for (i_iTup ?_)
  walk_at "go"
  have turn : ∀ (H2 : Hp) (m p : Nat) (D' : Ends), 0 < m → 2 ≤ p → p < 64 → D'.nx [some (.ref a), some (natV (rem p m)), some (.ref D), some (natV p), some (natV (val p m))] H2 →
      tWhile (tTest (tOp rEq (tOp rMd (tVar 1) (tVar 3)) (tC (natV 0)))) (tSeq (tAug 1 (tVar 3) rFdW) (tAug 4 (tC (natV 1)) (ipI fun i j => i + j))) D' [some (.ref a), some (natV m), some (.ref D), some (natV p), some (natV 0)] H2 := by
    intro H2 m p D' hm hp hp2 q
    refine l_whileN (fun k σ H' => ∃ j, 0 < k ∧ rem p k = rem p m ∧ j + val p k = val p m ∧ σ = [some (.ref a), some (natV k), some (.ref D), some (natV p), some (natV j)] ∧ H' = H2) m ⟨0, hm, rfl, by omega, rfl, rfl⟩ ?_
    rintro k σ H' ⟨j, hk, e, ej, rfl, rfl⟩
    walk_at "go"
    by_cases z : k % p = 0
    · refine i_yes z (l_turn ?_)
      walk_at "go"
      refine i_fdWN (by omega) (by omega) ?_
      walk_at "go"
      refine i_ipadd ?_
      exact ⟨k / p, div_lt2 hp hk, j + 1, div_pos2 hp hk z, by rw [← e, rem_yes hp hk z], by rw [val_yes hp hk z] at ej; omega, rfl, rfl⟩
    · refine i_nay z ?_
      rw [rem_no hk z] at e
      rw [val_no hk z] at ej
      rw [e, show j = val p m by omega]
      exact q
  have p2 := (val_spec (p := 2) (by decide) n hn).2.2
  have p3 := (val_spec (p := 3) (by decide) _ p2).2.2
  refine l_tup (K := K) (hc H1) (fun i σ H' => ∃ x y : Option V, σ = [some (.ref a), some (natV ([n, rem 2 n, rem 3 (rem 2 n), leftN n].getD i 0)), some (.ref D), x, y] ∧
    H' D = some (.lst (rowV ([val 2 n, val 3 (rem 2 n), val 5 (rem 3 (rem 2 n))].take i))) ∧ SB D H1 H') ⟨none, none, rfl, hD, SB.refl _ _⟩ ?_ ?_ ?_
  · intro i σ H' _ _
    exact hc H'
  · rintro i x σ H' hx ⟨x0, y0, rfl, hl, sb⟩
    rcases i with _ | _ | _ | i
    · obtain rfl := Option.some.inj hx
      walk_at "go"
      refine turn _ _ _ _ hn (by decide) (by decide) ?_
      walk_at "go"
      refine i_ty hl ?_
      walk_at "go"
      refine i_app hl (by simp [rowV]) ?_
      walk_at "go"
      exact ⟨_, _, rfl, upd_same, SB.trans sb (SB.upd _ _ _)⟩
    · obtain rfl := Option.some.inj hx
      walk_at "go"
      refine turn _ _ _ _ p2 (by decide) (by decide) ?_
      walk_at "go"
      refine i_ty hl ?_
      walk_at "go"
      refine i_app hl (by simp [rowV]) ?_
      walk_at "go"
      exact ⟨_, _, rfl, upd_same, SB.trans sb (SB.upd _ _ _)⟩
    · obtain rfl := Option.some.inj hx
      walk_at "go"
      refine turn _ _ _ _ p3 (by decide) (by decide) ?_
      walk_at "go"
      refine i_ty hl ?_
      walk_at "go"
      refine i_app hl (by simp [rowV]) ?_
      walk_at "go"
      exact ⟨_, _, rfl, upd_same, SB.trans sb (SB.upd _ _ _)⟩
    · simp [rowV] at hx
  · rintro σ H' ⟨x, y, rfl, hl, sb⟩
    walk_at "go"
    obtain ⟨_, f3, f5, _, g3, g5⟩ := (fac_of hn).all
    refine i_tupOfL (sql hl) fun q1 H3 s3 h3 => ?_
    walk_at "go"
    refine ⟨szl (by simp), fun p4 H4 s4 h4 => ?_⟩
    refine q p4 q1 H4 ?_ h4 ?_
    · refine Same.trans ?_ (Same.trans s3 s4)
      intro b o hb
      have hne : b ≠ D := fun z => by rw [z, nD] at hb; cases hb
      exact sb b o hne (s1 b o hb)
    · have := Same.seqT s4 h3
      rw [show ([val 2 n, val 3 (rem 2 n), val 5 (rem 3 (rem 2 n))].take (rowV [2, 3, 5]).length) = facV n by
        unfold facV rowV; rw [f3, f5]; rfl] at this
      exact this
end
end Sx
open PySem L2 RT Sx

namespace Sx
theorem nat60 (k : Nat) : 0 < 60 ^ k := Nat.pos_of_ne_zero (by simp)
section
variable {K : PySem.W.Frag} {H : Hp} {Q : VK} {er : Er}
theorem pure_part {vs : List V} {E : XK} (h : sp_part K er vs H Q E) : t_part K er E (endsOf Q) (start ["one", "other", "number", "_", "left", "divisor"] vs) H := by
  obtain ⟨a, b, r1, r2, rfl, h1, i1, h2, i2, qE, q⟩ := h
  show t_part K er E (endsOf Q) [some (.ref a), some (.ref b), none, none, none, none] H
  unfold t_part
  have n1 := whole_pos (row_ne i1) i1.hd
  have n2 := whole_pos (row_ne i2) i2.hd
  have b1 := whole12 i1
  have b2 := whole12 i2
  walk_at "go"
  refine ⟨a, r1, rfl, h1, i1, ?_⟩
  walk_at "go"
  refine ⟨b, r2, rfl, h2, i2, fun p1 q1 H1 s1 hp1 hq1 => ?_⟩
  have h2' := Same.seqT s1 h2
  generalize whole r1 = w1 at *
  generalize hw2 : whole r2 = w2 at *
  have lp := left_pos n2
  have ll := left_le n2
  have ld := left_dvd n2
  have sd := smooth_dvd (k := 70) n2 (Nat.lt_trans b2 (by decide))
  generalize hl : leftN w2 = l at *
  refine ⟨p1, _, rfl, hp1, rfl, ?_⟩
  refine ⟨_, _, rfl, ?_⟩
  walk_at "s"
  refine ⟨_, _, rfl, ?_⟩
  walk_at "go"
  refine ⟨rfl, ?_⟩
  walk_at "go"
  by_cases e : w1 % l = 0
  · refine i_nayN e ?_
    walk_at "go"
    refine ⟨b, r2, rfl, h2', i2, ?_⟩
    rw [hw2]
    walk_at "go"
    refine i_fdWN lp (by omega) ?_
    walk_at "go"
    refine i_fdWN lp (by omega) ?_
    walk_at "go"
    have dpos : 0 < w2 / l := Nat.div_pos ll lp
    have dle : w2 / l ≤ w2 := Nat.div_le_self _ _
    have xle : w1 / l ≤ w1 := Nat.div_le_self _ _
    have xpos : 0 < w1 / l := Nat.div_pos (Nat.le_of_dvd n1 (Nat.dvd_of_mod_eq_zero e)) lp
    have e1 : w1 / l * l = w1 := Nat.div_mul_cancel (Nat.dvd_of_mod_eq_zero e)
    have e2 : w2 / l * l = w2 := Nat.div_mul_cancel ld
    generalize w1 / l = x at *
    generalize w2 / l = d at *
    refine l_whileN (fun m σ H' => ∃ j, m + j = 70 ∧ σ = [some (.ref a), some (.ref b), some (natV (x * 60 ^ j)), some (.ref q1), some (natV l), some (natV d)] ∧ H' = H1) 70 ⟨0, rfl, by rw [Nat.pow_zero, Nat.mul_one], rfl⟩ ?_
    rintro m σ H' ⟨j, hj, rfl, rfl⟩
    have lt : x * 60 ^ j < 60 ^ 83 := by
      have h3 : 60 ^ j ≤ 60 ^ 70 := Nat.pow_le_pow_right (by decide) (by omega)
      calc x * 60 ^ j ≤ 60 ^ 12 * 60 ^ 70 := Nat.mul_le_mul (by omega) h3
        _ < 60 ^ 83 := by decide
    walk_at "go"
    by_cases z : x * 60 ^ j % d = 0
    · refine i_nayN z ?_
      walk_at "go"
      refine i_fdWN dpos (by omega) ?_
      have hd : d ∣ x * 60 ^ j := Nat.dvd_of_mod_eq_zero z
      have pos : 0 < x * 60 ^ j := Nat.mul_pos xpos (nat60 j)
      have h4 : 0 < x * 60 ^ j / d := Nat.div_pos (Nat.le_of_dvd pos hd) dpos
      have h5 : x * 60 ^ j / d ≤ x * 60 ^ j := Nat.div_le_self _ _
      have h6 : x * 60 ^ j / d * d = x * 60 ^ j := Nat.div_mul_cancel hd
      refine ⟨_, rfl, h4, Nat.lt_of_le_of_lt h5 (Nat.lt_trans lt (by decide)), fun p2 H2 s2 hp2 => ?_⟩
      refine q e _ j p2 H2 h4 (Nat.lt_of_le_of_lt h5 (Nat.lt_trans lt (by decide))) ?_ (Same.trans s1 s2) hp2
      rw [← e2, ← Nat.mul_assoc, h6, ← e1]
      ac_rfl
    · refine i_yesN z (l_turn ?_)
      walk_at "go"
      have hj70 : j < 70 := by
        rcases Nat.lt_or_ge j 70 with h | h
        · exact h
        · have : j = 70 := by omega
          rw [this] at z
          exact absurd (Nat.mod_eq_zero_of_dvd (Nat.dvd_trans sd (Nat.dvd_mul_left _ _))) z
      exact ⟨m - 1, by omega, j + 1, by omega, by rw [Nat.pow_succ, Nat.mul_assoc], rfl⟩
  · refine i_yesN e ?_
    show tMkF _ _ _ _ _ _
    refine i_cons ?_
    walk_at "go"
    refine i_gcd ?_
    refine i_fdWN (Nat.pos_of_ne_zero fun z => ?_) ?_ ?_
    · have := Nat.eq_zero_of_gcd_eq_zero_left z; omega
    · exact Nat.lt_of_le_of_lt (Nat.le_of_dvd lp (Nat.gcd_dvd_left _ _)) (by omega)
    walk_at "go"
    exact ⟨_, rfl, fun d hd => qE e d H1 s1 hd⟩
theorem pure_turned {vs : List V} {E : XK} (h : sp_turned K er vs H Q E) : t_turned K er E (endsOf Q) (start ["row"] vs) H := by
  obtain ⟨b, r2, rfl, h2, i2, qE, q⟩ := h
  show t_turned K er E (endsOf Q) [some (.ref b)] H
  unfold t_turned
  walk_at "go"
  show tCons _ _ _ _ _
  walk_at "go"
  refine ⟨szl (by simp), fun p1 H1 s1 hp1 => ?_⟩
  walk_at "go"
  have n2 := whole_pos (row_ne i2) i2.hd
  have lp := left_pos n2
  have e1 : whole [1] = 1 := rfl
  refine ⟨p1, b, [1], r2, rfl, hp1, ⟨by decide, by decide, by decide, by decide⟩, Same.seqT s1 h2, i2, fun z d H2 s2 hd => ?_, fun z x j p2 H2 x0 x1 ex s2 hp2 => ?_⟩
  · rw [e1, Nat.gcd_one_right, Nat.div_one]
    refine qE (fun y => z ?_) d H2 (Same.trans s1 s2) hd
    rw [e1, y]
  · rw [e1, Nat.one_mul] at ex
    refine q ?_ x j p2 H2 x0 x1 ex (Same.trans s1 s2) hp2
    rw [e1] at z
    rcases Nat.lt_or_ge 1 (leftN (whole r2)) with h | h
    · rw [Nat.mod_eq_of_lt h] at z; omega
    · omega
end
end Sx
open PySem L2 RT Sx

namespace Sx
/-- why a number has no side -/
def sideW (n : Nat) : Option String :=
  if val 2 n % 2 ≠ 0 then some "two" else if (val 3 n + val 5 n) % 2 ≠ 0 then some "three" else if Float64.isqrt (leftN n) * Float64.isqrt (leftN n) ≠ leftN n then some "left" else none
def sp_squared (K : PySem.W.Frag) : Sp := fun vs H Q _ => ∃ a r, vs = [.ref a] ∧ SqT K H a (rowV r) ∧ IsRow r ∧ ∀ p H', Same H H' → SqT K H' p (rowV (rowOf (whole r * whole r))) → Q (.ref p) H'
def sp_side (K : PySem.W.Frag) (e : Er) : Sp := fun vs H Q E => ∃ a r, vs = [.ref a] ∧ SqT K H a (rowV r) ∧ IsRow r ∧
  (∀ z, sideW (whole r) = some z → ∀ d H', Same H H' → H' d = none → E (.ref e.side) (some d) (upd H' d (.xd [("why", .str z)]))) ∧
  (sideW (whole r) = none → ∀ s p H', 0 < s → s < 60 ^ 7 → (s * s = whole r ∨ s * s = whole r * 60) → Same H H' → SqT K H' p (rowV (rowOf s)) → Q (.ref p) H')
def t_squared (K : PySem.W.Frag) : TS := (tRet (tCall (sp_times K) [] E0 (tCons (tVar 0) (tCons (tVar 0) tNil))))
def t_side (K : PySem.W.Frag) (e : Er) (E : XK) : TS := (tSeq (tAsg (tCall (sp_factors K) [] E0 (tCons (tVar 0) tNil)) (gTup K 2 (gCons (gTup K 3 (gCons (gName 1) (gCons (gName 2) (gCons (gName 3) gNil)))) (gCons (gName 4) gNil))))
  (tSeq (tIfS (tTest (tOp rNe (tOp rMd (tVar 1) (tC (natV 2))) (tC (natV 0)))) (tRaiseF e.side "why" (fun cls d _ H => E cls d H) (tCons (tC (.str "two")) tNil)) tNext)
  (tSeq (tIfS (tTest (tOp rNe (tOp rMd (tOp rSub (tVar 2) (tVar 3)) (tC (natV 2))) (tC (natV 0)))) (tRaiseF e.side "why" (fun cls d _ H => E cls d H) (tCons (tC (.str "three")) tNil)) tNext)
  (tSeq (tIfS (tTest (tOp rNe (tOp rMulW (tCB rIsqrt (tCons (tVar 4) tNil)) (tCB rIsqrt (tCons (tVar 4) tNil))) (tVar 4))) (tRaiseF e.side "why" (fun cls d _ H => E cls d H) (tCons (tC (.str "left")) tNil)) tNext)
  (tSeq (tAsg (tCall (sp_whole_of K) [] E0 (tCons (tVar 0) tNil)) (gName 5))
  (tSeq (tIfS (tTest (tOp rNe (tOp rMd (tVar 2) (tC (natV 2))) (tC (natV 0)))) (tAug 5 (tC (natV 60)) rMul) tNext)
  (tRet (tCall (sp_row_of K) [] E0 (tCons (tCB rIsqrt (tCons (tVar 5) tNil)) tNil)))))))))

section
variable {K : PySem.W.Frag} {H : Hp} {Q : VK} {er : Er}
theorem pure_squared {vs : List V} {E : XK} (h : sp_squared K vs H Q E) : t_squared K (endsOf Q) (start ["row"] vs) H := by
  obtain ⟨a, r, rfl, h1, i1, q⟩ := h
  show t_squared K (endsOf Q) [some (.ref a)] H
  unfold t_squared
  walk_at "go"
  exact ⟨a, a, r, r, rfl, h1, i1, h1, i1, q⟩
theorem sq_of_even {n a b c u v : Nat} (f : n = 2 ^ (2 * a) * (3 ^ (2 * b) * (5 ^ (2 * c) * u))) (hu : v * v = u) : (2 ^ a * (3 ^ b * (5 ^ c * v))) * (2 ^ a * (3 ^ b * (5 ^ c * v))) = n := by
  rw [f, ← hu, Nat.two_mul, Nat.two_mul, Nat.two_mul, Nat.pow_add, Nat.pow_add, Nat.pow_add]
  ac_rfl
theorem side_sq {n : Nat} (hn : 0 < n) (h : sideW n = none) : ∃ s, s * s = n * (if val 3 n % 2 = 0 then 1 else 60) := by
  unfold sideW at h
  by_cases h2 : val 2 n % 2 ≠ 0
  · rw [if_pos h2] at h; cases h
  rw [if_neg h2] at h
  by_cases h3 : (val 3 n + val 5 n) % 2 ≠ 0
  · rw [if_pos h3] at h; cases h
  rw [if_neg h3] at h
  by_cases h4 : Float64.isqrt (leftN n) * Float64.isqrt (leftN n) ≠ leftN n
  · rw [if_pos h4] at h; cases h
  have hu : Float64.isqrt (leftN n) * Float64.isqrt (leftN n) = leftN n := Decidable.not_not.mp h4
  have f := (fac_of hn).eq
  generalize Float64.isqrt (leftN n) = v at *
  generalize leftN n = u at *
  generalize val 2 n = a at *
  generalize val 3 n = b at *
  generalize val 5 n = c at *
  obtain ⟨a', rfl⟩ : ∃ k, a = 2 * k := ⟨a / 2, by omega⟩
  by_cases hb : b % 2 = 0
  · obtain ⟨b', rfl⟩ : ∃ k, b = 2 * k := ⟨b / 2, by omega⟩
    obtain ⟨c', rfl⟩ : ∃ k, c = 2 * k := ⟨c / 2, by omega⟩
    rw [if_pos hb]
    exact ⟨_, (sq_of_even f hu).trans (Nat.mul_one n).symm⟩
  · obtain ⟨b', rfl⟩ : ∃ k, b = 2 * k + 1 := ⟨b / 2, by omega⟩
    obtain ⟨c', rfl⟩ : ∃ k, c = 2 * k + 1 := ⟨c / 2, by omega⟩
    rw [if_neg hb]
    refine ⟨_, sq_of_even (a := a' + 1) (b := b' + 1) (c := c' + 1) ?_ hu⟩
    rw [f, show 2 * (a' + 1) = 2 * a' + 2 by omega, show 2 * (b' + 1) = 2 * b' + 1 + 1 by omega, show 2 * (c' + 1) = 2 * c' + 1 + 1 by omega, Nat.pow_add 2, Nat.pow_succ 3 (2 * b' + 1), Nat.pow_succ 5 (2 * c' + 1), show (60 : Nat) = 2 ^ 2 * (3 * 5) by decide]
    ac_rfl
theorem i_subI {a b : Nat} (q : Q (.int ((a : Int) - (b : Int))) H) : rSub (natV a) (natV b) H Q := ⟨a, b, rfl, rfl, q⟩
theorem i_mdIx {i : Int} {b : Nat} (h : 0 < b) (q : Q (natV (i % (b : Int)).toNat) H) : rMd (.int i) (natV b) H Q := ⟨i, b, rfl, rfl, by show (0 : Int) < (b : Int); omega, by
  show Q (.int (i % (b : Int))) H
  have : 0 ≤ i % (b : Int) := Int.emod_nonneg _ (by omega)
  rw [show i % (b : Int) = (((i % (b : Int)).toNat : Nat) : Int) by omega]; exact q⟩
theorem pure_side {vs : List V} {E : XK} (h : sp_side K er vs H Q E) : t_side K er E (endsOf Q) (start ["row", "twos", "threes", "fives", "left", "number"] vs) H := by
  obtain ⟨a, r, rfl, h1, i1, qE, q⟩ := h
  show t_side K er E (endsOf Q) [some (.ref a), none, none, none, none, none] H
  unfold t_side
  have n1 := whole_pos (row_ne i1) i1.hd
  have b1 := whole12 i1
  walk_at "go"
  refine ⟨a, r, rfl, h1, i1, fun p1 q1 H1 s1 hp1 hq1 => ?_⟩
  have h1' := Same.seqT s1 h1
  have sq := side_sq n1
  have ll := left_le n1
  have fv : rowV (facV (whole r)) = [natV (val 2 (whole r)), natV (val 3 (whole r)), natV (val 5 (whole r))] := rfl
  rw [fv] at hq1
  generalize hw : whole r = w at *
  refine ⟨p1, _, rfl, hp1, rfl, ?_⟩
  refine ⟨_, _, rfl, ?_⟩
  refine ⟨q1, _, rfl, hq1, rfl, ?_⟩
  refine ⟨_, _, rfl, ?_⟩
  walk_at "s"
  refine ⟨_, _, rfl, ?_⟩
  walk_at "s"
  refine ⟨_, _, rfl, ?_⟩
  walk_at "go"
  refine ⟨rfl, ?_⟩
  refine ⟨_, _, rfl, ?_⟩
  walk_at "go"
  refine ⟨rfl, ?_⟩
  walk_at "go"
  by_cases e2 : val 2 w % 2 = 0
  case neg =>
    refine i_yesN e2 ?_
    show tMkF _ _ _ _ _ _
    refine i_cons ?_
    walk_at "go"
    exact ⟨_, rfl, fun d hd => qE "two" (by unfold sideW; rw [if_pos e2]) d H1 s1 hd⟩
  refine i_nayN e2 ?_
  walk_at "go"
  refine i_subI ?_
  walk_at "go"
  refine i_mdIx (by decide) ?_
  walk_at "go"
  have e3' : (((val 3 w : Int) - (val 5 w : Int)) % ((2 : Nat) : Int)).toNat = (val 3 w + val 5 w) % 2 := by omega
  rw [e3']
  by_cases e3 : (val 3 w + val 5 w) % 2 = 0
  case neg =>
    refine i_yesN e3 ?_
    show tMkF _ _ _ _ _ _
    refine i_cons ?_
    walk_at "go"
    exact ⟨_, rfl, fun d hd => qE "three" (by unfold sideW; rw [if_neg (fun z => z e2), if_pos e3]) d H1 s1 hd⟩
  refine i_nayN e3 ?_
  walk_at "go"
  refine i_isqrt (by omega) ?_
  walk_at "go"
  refine i_isqrt (by omega) ?_
  have hq := isqrt_le (leftN w)
  refine i_mulWN (m := 100) (n := 100) (by omega) (by omega) (by decide) (by decide) (by decide) ?_
  walk_at "go"
  by_cases e4 : Float64.isqrt (leftN w) * Float64.isqrt (leftN w) = leftN w
  case neg =>
    refine i_yesN e4 ?_
    show tMkF _ _ _ _ _ _
    refine i_cons ?_
    walk_at "go"
    exact ⟨_, rfl, fun d hd => qE "left" (by unfold sideW; rw [if_neg (fun z => z e2), if_neg (fun z => z e3), if_pos e4]) d H1 s1 hd⟩
  have nn : sideW w = none := by unfold sideW; rw [if_neg (fun z => z e2), if_neg (fun z => z e3), if_neg (fun z => z e4)]
  refine i_nayN e4 ?_
  walk_at "go"
  refine ⟨a, r, rfl, h1', i1, ?_⟩
  rw [hw]
  walk_at "go"
  obtain ⟨s, es⟩ := sq nn
  have tail : ∀ m, s * s = m → 0 < m → m ≤ w * 60 → (m = w ∨ m = w * 60) → (tRet (tCall (sp_row_of K) [] E0 (tCons (tCB rIsqrt (tCons (tVar 5) tNil)) tNil))) (endsOf Q)
      [some (.ref a), some (natV (val 2 w)), some (natV (val 3 w)), some (natV (val 5 w)), some (natV (leftN w)), some (natV m)] H1 := by
    intro m hm mp ml mw
    walk_at "go"
    refine i_isqrt (by omega) ?_
    have ei : Float64.isqrt m = s := isqrt_eq (by omega) (by rw [← hm]; exact Nat.mul_lt_mul'' (by omega) (by omega))
    rw [ei]
    have sp : 0 < s := Nat.pos_of_ne_zero fun z => by rw [z] at hm; omega
    have sl : s < 60 ^ 7 := by
      rcases Nat.lt_or_ge s (60 ^ 7) with h | h
      · exact h
      · have := Nat.mul_le_mul h h; omega
    walk_at "go"
    refine ⟨s, rfl, sp, Nat.lt_trans sl (by decide), fun p2 H2 s2 hp2 => ?_⟩
    exact q nn s p2 H2 sp sl (mw.imp (fun h => hm.trans h) fun h => hm.trans h) (Same.trans s1 s2) hp2
  by_cases e5 : val 3 w % 2 = 0
  · rw [if_pos e5] at es
    refine i_nayN e5 ?_
    walk_at "s"
    exact tail w (by omega) n1 (by omega) (.inl rfl)
  · rw [if_neg e5] at es
    refine i_yesN e5 ?_
    walk_at "s"
    walk_at "s"
    walk_at "s"
    walk_at "s"
    exact tail (w * 60) es (by omega) (by omega) (.inr rfl)
end
end Sx
/-! a try with clauses that may bear a name or none -/
namespace L2
open PySem PySem.Spec PyProof.Rows
section
variable {X : Cx} {pins : List (Addr × Obj)} {σ : St} {H : Hp} {cls : Value} {d : Option Addr} {a : Addr} {B : Heap} {sI s : Shared}
/-- an exception at a has come down to the clauses: sI, where it was raised, s, where it is looked at -/
structure Down (X : Cx) (pins : List (Addr × Obj)) (σ : St) (H : Hp) (cls : Value) (d : Option Addr) (a : Addr) (B : Heap) (sI s : Shared) : Prop where
  inv : Inv X pins σ H sI
  old : ∀ b o, sI.heap.get? b = some o → b ∉ frs X.stack → B.get? b = some o
  up : sI.heap.UpToSlots s.heap
  fly : HandSPX.FlyingZ B (X.env :: X.outer) a (Zc cls d) s.heap
  none : H a = none
  os : s.os = sI.os
  gens : AllBare s.gens
theorem Down.here (D : Down X pins σ H cls d a B sI s) : Inv X pins σ H s := D.inv.landed D.old D.fly.1 D.up D.os D.gens
/-- looked at as what the suite holds -/
theorem Down.held (D : Down X pins σ H cls d a B sI s) (hf : X.env.frame = some X.env.locals) : ∃ oe, s.heap.get? a = some oe ∧ Zc cls d oe ∧ (∃ vs, oe.data = .fields vs) ∧ Inv (X.suite a ((a, oe) :: (X.pn ++ pins))) [] σ H s := by
  obtain ⟨oe, vs, at_, zc, fl⟩ := D.fly.there
  have no : a ∉ frs (X.env :: X.outer) := fun m => by
    obtain ⟨_, o, e, n⟩ := D.fly.2.2.1.mem m
    cases at_.symm.trans e
    exact n _ fl
  refine ⟨oe, at_, zc, ⟨vs, fl⟩, D.here.suite at_ fl D.none (fun z => no ?_) fun m => no ?_⟩
  · exact List.mem_filterMap.mpr ⟨X.env, .head _, hf.trans (congrArg some z.symm)⟩
  · have ⟨v, hv, q⟩ := List.mem_filterMap.mp m
    exact List.mem_filterMap.mpr ⟨v, .tail _ hv, q⟩
theorem Down.at' (D : Down X pins σ H cls d a B sI s) {h : Heap} (fl : HandSPX.FlyingZ B (X.env :: X.outer) a (Zc cls d) h) (u : s.heap.UpToSlots h) : Down X pins σ H cls d a B sI { s with heap := h } :=
  ⟨D.inv, D.old, D.up.trans u, fl, D.none, D.os, D.gens⟩
/-- no clause takes it: it goes up -/
theorem Down.out {W : WX} {P : Flow → Shared → Prop} (D : Down X pins σ H cls d a B sI s) (hs : X.stack = X.env :: X.outer) (hf : X.env.frame = some X.env.locals) (tk : Takes X W) (w : W cls d σ H) :
    wpAny (model X.prog X.w) X.A (handleBy (.ref a) X.env []) P X.xe s := by
  have last : wpAny (model X.prog X.w) X.A (setFlight (.ref a) X.env.frame) (fun _ t => wpAny (model X.prog X.w) X.A (throw (.ref a) : Sem Flow) P X.xe t) X.xe s := by
    rw [hf]
    refine HandSPX.setFlight_upZ D.fly fun h fl u => wpAny_throw (tk _ _ ?_)
    refine ⟨a, B, sI, pins, σ, H, cls, d, rfl, D.inv, D.old, D.up.trans u, Or.inr (Or.inr ?_), D.none, D.os, D.gens, w⟩
    rw [hs]
    exact fl
  have fl := D.fly
  obtain ⟨_, _, _, oe, vs, T, oT, ts, at_, _, dat, one, _⟩ := fl
  refine wpAny_handleBy_nil ?_
  unfold PySem.passOn
  refine wpAny_bind (wpAny_field at_ dat one ?_)
  rw [show (Value.ref T == Value.none) = false from rfl]
  simp only [Bool.false_eq_true, if_false]
  first
    | exact wpAny_bind last
    | exact wpAny_bind (wpAny_pure (wpAny_bind last))
end
/-- a clause: the class it names, the name's slot, its suite's reading -/
structure Clause where
  c : Value
  i : Option Nat
  ts : Addr → Value → Option Addr → TS
def endsC : Option Nat → Ends → Ends
  | none, D => D
  | some i, D => { rt := D.rt, nx := fun σ H => D.nx (σ.set i none) H, bk := fun σ H => D.bk (σ.set i none) H, ct := fun σ H => D.ct (σ.set i none) H }
def slotC : Option Nat → Addr → St → St
  | none, _, σ => σ
  | some i, a, σ => σ.set i (some (.ref a))
/-- what the clauses wish of what comes down -/
def wishC (K : PySem.W.Frag) (W : WX) (D : Ends) : List Clause → WX
  | [], cls, d, σ, H => W cls d σ H
  | k :: r, cls, d, σ, H => (PySem.W.exmOne K cls k.c = some true ∧ ∀ a, H a = none → k.ts a cls d (endsC k.i D) (slotC k.i a σ) H) ∨ (PySem.W.exmOne K cls k.c = some false ∧ wishC K W D r cls d σ H)
abbrev SuiteOk (X : Cx) (b : Stmt) (r : List Stmt) (ts : Addr → Value → Option Addr → TS) : Prop :=
  ∀ (a : Addr) (oe : Obj) (cls : Value) (d : Option Addr) (pn : List (Addr × Obj)), Zc cls d oe → (∃ vs, oe.data = .fields vs) → PSs (X.suite a ((a, oe) :: pn)) (b :: r) (ts a cls d)
inductive ClausesOk (X : Cx) : List ExceptHandler → List Clause → Prop
  | nil : ClausesOk X [] []
  | bare {x : Str} {c : Value} {ts : Addr → Value → Option Addr → TS} {b : Stmt} {r : List Stmt} {p q : Pos} {hs : List ExceptHandler} {l : List Clause} : Names X x c → SuiteOk X b r ts → ClausesOk X hs l →
      ClausesOk X (.ExceptHandler (some (.Name x p)) none (b :: r) q :: hs) (⟨c, none, ts⟩ :: l)
  | name {x n : Str} {i : Nat} {c : Value} {ts : Addr → Value → Option Addr → TS} {b : Stmt} {r : List Stmt} {p q : Pos} {hs : List ExceptHandler} {l : List Clause} : Names X x c → X.N[i]? = some n → X.env.kindOf n = some .local → SuiteOk X b r ts → ClausesOk X hs l →
      ClausesOk X (.ExceptHandler (some (.Name x p)) (some n) (b :: r) q :: hs) (⟨c, some i, ts⟩ :: l)
section
variable {X : Cx} {pins : List (Addr × Obj)} {σ : St} {H : Hp} {cls : Value} {d : Option Addr} {a : Addr} {B : Heap} {sI s : Shared} {D : Ends} {W : WX}
/-- the class's test -/
theorem Down.asks {x : Str} {c : Value} {p : Pos} {k : Bool} {Q : Bool → Shared → Prop} {E : Value → Shared → Prop} (dn : Down X pins σ H cls d a B sI s) (hf : X.env.frame = some X.env.locals) (nm : Names X x c) (e : PySem.W.exmOne X.K cls c = some k) (q : Q k s) :
    wpAny (model X.prog X.w) (X.A.mark (some (.ref a))) (eval (.Name x p) X.env) (fun v t => wpAny (model X.prog X.w) (X.A.mark (some (.ref a))) (excMatches (.ref a) v) Q E t) E s := by
  obtain ⟨oe, at_, zc, _, S⟩ := dn.held hf
  have ans : wpAny (model X.prog X.w) (X.A.mark (some (.ref a))) (excMatches (.ref a) c) Q E s := by
    have L := PySem.W.exm_one (M := model X.prog X.w) dn.here.kIn (fun A Q E t k q => wpAny_typeOf_ref (k _ _ at_) (by rw [zc.1]; exact q)) e
    exact L.here q
  rcases nm with ⟨g, db, m | ⟨m, v, n⟩⟩
  · exact ld_glob (X := X.suite a ((a, oe) :: (X.pn ++ pins))) S g m ans db
  · exact ld_blt (X := X.suite a ((a, oe) :: (X.pn ++ pins))) S g m v ans n db
/-- the clauses, one behind the other -/
theorem Down.through (dn : Down X pins σ H cls d a B sI s) (hs : X.stack = X.env :: X.outer) (hf : X.env.frame = some X.env.locals) (hN : X.N.Nodup) (tk : Takes X W) {hds : List ExceptHandler} {l : List Clause} (ok : ClausesOk X hds l) :
    wishC X.K W D l cls d σ H → wpAny (model X.prog X.w) X.A (handleBy (.ref a) X.env hds) (SP X pins D) X.xe s := by
  induction ok with
  | nil => exact fun w => dn.out hs hf tk w
  | bare nm su r ih =>
    rintro (⟨e, w⟩ | ⟨e, w⟩)
    · refine wpAny_handleBy_cons (codeAny_handlers_test (dn.asks hf nm e (codeAny_handlers_suite (HandSPX.lands_againZ dn.fly fun h fl u => ?_)))) (by intro z; cases z)
      obtain ⟨oe, _, zc, fd, S⟩ := (dn.at' fl u).held hf
      refine wpAny_mono ((su a oe cls d (X.pn ++ pins) zc fd).run [] _ _ H _ S (w a dn.none)) (fun f t q => ?_) fun _ _ z => z.elim
      cases f with
      | ret v => have ⟨v', σ', H', I, r, q⟩ := q; exact ⟨v', σ', H', I.unsuite dn.inv.ok, r, q⟩
      | next => have ⟨σ', H', I, q⟩ := q; exact ⟨σ', H', I.unsuite dn.inv.ok, q⟩
      | brk => have ⟨σ', H', I, q⟩ := q; exact ⟨σ', H', I.unsuite dn.inv.ok, q⟩
      | cont => have ⟨σ', H', I, q⟩ := q; exact ⟨σ', H', I.unsuite dn.inv.ok, q⟩
    · exact wpAny_handleBy_cons (codeAny_handlers_test (dn.asks hf nm e (ih w))) (by intro z; cases z)
  | @name x n i c ts b r p q hs' l' nm hi hn su r ih =>
    rintro (⟨e, w⟩ | ⟨e, w⟩)
    · refine wpAny_handleBy_cons (codeAny_handlers_test (dn.asks hf nm e (codeAny_handlers_suite_as (HandSPX.lands_againZ dn.fly fun h fl u => ?_)))) (by intro z; cases z)
      obtain ⟨oe, _, zc, fd, S⟩ := (dn.at' fl u).held hf
      refine store_ok (X := X.suite a ((a, oe) :: (X.pn ++ pins))) (v := .ref a) S hN hi (.inl hn) rfl (fun t0 S0 => ?_) (.inr hn)
      refine wpAny_mono ((su a oe cls d (X.pn ++ pins) zc fd).run [] t0 _ H _ S0 (w a dn.none)) (fun f t q => ?_) fun _ _ z => z.elim
      cases f with
      | ret v => have ⟨v', σ', H', I, r, q⟩ := q; exact gone_ok (I.unsuite dn.inv.ok) hN hi hn fun _ J => ⟨v', _, H', J, r, q⟩
      | next => have ⟨σ', H', I, q⟩ := q; exact gone_ok (I.unsuite dn.inv.ok) hN hi hn fun _ J => ⟨_, H', J, q⟩
      | brk => have ⟨σ', H', I, q⟩ := q; exact gone_ok (I.unsuite dn.inv.ok) hN hi hn fun _ J => ⟨_, H', J, q⟩
      | cont => have ⟨σ', H', I, q⟩ := q; exact gone_ok (I.unsuite dn.inv.ok) hN hi hn fun _ J => ⟨_, H', J, q⟩
    · exact wpAny_handleBy_cons (codeAny_handlers_test (dn.asks hf nm e (ih w))) (by intro z; cases z)
end
section
variable {X : Cx} {body : List Stmt} {h₀ : ExceptHandler} {hds : List ExceptHandler} {l : List Clause} {pos : Pos} {tb : WX → TS} {W : WX}
theorem ps_tryC (hs : X.stack = X.env :: X.outer) (hf : X.env.frame = some X.env.locals) (hN : X.N.Nodup) (tk : Takes X W)
    (bd : ∀ (W : WX) (pn : List (Addr × Obj)) (xe : Value → Shared → Prop), Takes (X.tr pn xe) W → PassesOwn (model X.prog X.w) X.A X.env xe → PSs (X.tr pn xe) body (tb W)) (ok : ClausesOk X (h₀ :: hds) l) :
    PS X (.Try body (h₀ :: hds) [] [] pos) fun D σ H => tb (wishC X.K W D l) D σ H := ⟨fun pins s σ H D I q => by
  have O := I.ok
  refine wpAny_Try_except (wpAny_mono ((bd (wishC X.K W D l) (X.pn ++ pins) _ ?_ PassesOwn.looking).run [] s σ H D (I.toTry _) q) (fun f t r => ?_) fun _ _ z => z)
  · rintro u t ⟨a, B, sI, pins', σ', H', cls, d, rfl, J, old, up, sky, na, os, ag, w⟩
    refine Sky.land Zc.steady (by rw [O.frames, hs]) hf (show Sky B (X.env :: X.outer) a (Zc cls d) X.env.locals t.heap by rw [← hs]; exact sky) fun h fl u => ?_
    exact Down.through (s := { t with heap := h }) ⟨J.ofTry O, old, up.trans u, fl, na, os, ag⟩ hs hf hN tk ok w
  · cases f with
    | ret v => have ⟨v', σ', H', J, r, q⟩ := r; exact ⟨v', σ', H', J.ofTry O, r, q⟩
    | next => have ⟨σ', H', J, q⟩ := r; exact wpAny_execs_nil ⟨σ', H', J.ofTry O, q⟩
    | brk => have ⟨σ', H', J, q⟩ := r; exact ⟨σ', H', J.ofTry O, q⟩
    | cont => have ⟨σ', H', J, q⟩ := r; exact ⟨σ', H', J.ofTry O, q⟩⟩
end
end L2
/-! what is told, or the word of a refusal with its field: the laws' own helper, handed a lambda -/
namespace LamX
open PySem PySem.Spec PyProof.Rows L2
/-- the errors' wish -/
def WordE (K : PySem.W.Frag) (cS cT : Addr) (Q : VK) : XK := fun cls d H' =>
  (cls = .ref cS ∧ ∃ (dd : Addr) (z : V), d = some dd ∧ H' dd = some (.xd [("why", z)]) ∧ ∀ p H2, Same H' H2 → SqT K H2 p [.str "side", z] → Q (.ref p) H2) ∨
  (cls = .ref cT ∧ ∃ (dd : Addr) (z : V), d = some dd ∧ H' dd = some (.xd [("left", z)]) ∧ ∀ p H2, Same H' H2 → SqT K H2 p [.str "turned", z] → Q (.ref p) H2)
def TTword (K : PySem.W.Frag) (cS cT : Addr) : (XK → Hp → VK → Prop) → Hp → VK → Prop := fun tl H Q => tl (WordE K cS cT Q) H Q
/-- which class a clause takes -/
structure WordK (K : PySem.W.Frag) (mg : Str → Option Value) (cS cT cB : Addr) : Prop where
  gS : mg "NoSide" = some (.ref cS)
  gT : mg "NotTurned" = some (.ref cT)
  gB : mg "BadRow" = some (.ref cB)
  xS : XfC K cS
  xT : XfC K cT
  nS : PySem.W.findIn K (.ref cS) "why" = some none
  nT : PySem.W.findIn K (.ref cT) "left" = some none
  eSS : PySem.W.exmOne K (.ref cS) (.ref cS) = some true
  eTS : PySem.W.exmOne K (.ref cT) (.ref cS) = some false
  eTT : PySem.W.exmOne K (.ref cT) (.ref cT) = some true
section
variable {X : Cx}
theorem word_gives {q : Str} {sg : Scope} {g cS cT cB : Addr} {cdg : Value} {j1 j2 j3 k1 k2 k3 : Nat} {p1 p2 p3 p4 p5 p6 p7 p8 p9 p10 p11 p12 p13 p14 p15 p16 p17 p18 p19 p20 p21 p22 p23 : Pos} (W0 : WordK X.K X.mg cS cT cB)
    (hS : sg.names.lookup ("NoSide" : Str) = some .globalImplicit) (hT : sg.names.lookup ("NotTurned" : Str) = some .globalImplicit) (hB : sg.names.lookup ("BadRow" : Str) = some .globalImplicit) (he : sg.names.lookup ("e" : Str) = some .local) :
    GivesTo X ["_law_work", "e"] "_law_word" sg g cdg [.Try [.Return (some (.Call (.Name "_law_work" p1) [] [] p2)) p3]
      [.ExceptHandler (some (.Name "NoSide" p4)) (some "e") [.Return (some (.Tuple [.Constant (.str "side") j1 p5, .Attribute (.Name "e" p6) "why" p7] k1 p8)) p9] p10,
       .ExceptHandler (some (.Name "NotTurned" p11)) (some "e") [.Return (some (.Tuple [.Constant (.str "turned") j2 p12, .Attribute (.Name "e" p13) "left" p14] k2 p15)) p16] p17,
       .ExceptHandler (some (.Name "BadRow" p18)) none [.Return (some (.Tuple [.Constant (.str "row") j3 p19] k3 p20)) p21] p22] [] [] p23] "_law_work" q (TTword X.K cS cT) := by
  intro f c' s H Q tl act hc h
  have hgl : ∀ {x : Str}, sg.names.lookup x = some .globalImplicit → Gl (cxOf C8.CX0 X.prog X.w X.K X.mg X.base ["_law_work", "e"] "_law_word" sg g cdg X.A X.stack s H C8.E0).nox x := fun h => h
  refine ⟨_, pss_one (ps_tryC (X := (cxOf C8.CX0 X.prog X.w X.K X.mg X.base ["_law_work", "e"] "_law_word" sg g cdg X.A X.stack s H C8.E0).nox)
      (l := [⟨.ref cS, some 1, fun a cls d => tRet (Sx.tTupN X.K (tCons (tC (.str "side")) (tCons (tXf a cls d cS "why" (tVar 1)) tNil)))⟩,
        ⟨.ref cT, some 1, fun a cls d => tRet (Sx.tTupN X.K (tCons (tC (.str "turned")) (tCons (tXf a cls d cT "left" (tVar 1)) tNil)))⟩,
        ⟨.ref cB, none, fun a cls d => tRet (Sx.tTupN X.K (tCons (tC (.str "row")) tNil))⟩])
      (tb := fun W D σ H => ∃ Ech : XK, (∀ cls d σ' H', σ'.length = 2 → Ech cls d H' → W cls d σ' H') ∧ σ[0]? = some (some (.ref f)) ∧ H c' = some (CodeO c' q) ∧ tl Ech H D.rt)
      rfl rfl (show (["_law_work", "e"] : List Str).Nodup by decide) takes0 (fun W pn xe tk _ => ?_)
      (.name (i := 1) ⟨hgl hS, by decide, .inl W0.gS⟩ rfl he (fun a oe cls d pn hz hf => pss_one (ps_ret (Sx.pe_tupN (pa_cons pe_str (pa_cons (by exact (pe_xf W0.xS W0.nS hz hf (pe_var (i := 1) rfl (Or.inl he)))) pa_nil)))))
      (.name (i := 1) ⟨hgl hT, by decide, .inl W0.gT⟩ rfl he (fun a oe cls d pn hz hf => pss_one (ps_ret (Sx.pe_tupN (pa_cons pe_str (pa_cons (by exact (pe_xf W0.xT W0.nT hz hf (pe_var (i := 1) rfl (Or.inl he)))) pa_nil)))))
      (.bare ⟨hgl hB, by decide, .inl W0.gB⟩ (fun a oe cls d pn hz hf => pss_one (ps_ret (Sx.pe_tupN (pa_cons pe_str pa_nil)))) .nil)))), ?_⟩
  · refine ⟨fun pins t σ1 H1 D I r => ?_⟩
    obtain ⟨W1, into, slot, code, told⟩ := r
    have tk2 : Takes ((cxOf C8.CX0 X.prog X.w X.K X.mg X.base ["_law_work", "e"] "_law_word" sg g cdg X.A X.stack s H C8.E0).nox.tr pn xe) (fun cls d _ H' => W1 cls d H') := fun u s' ⟨a, B, sI, pins, σ2, H2, cls, d, e, I1, nb, up, sky, na, os, ag, w⟩ =>
      tk u s' ⟨a, B, sI, pins, σ2, H2, cls, d, e, I1, nb, up, sky, na, os, ag, into cls d σ2 H2 I1.len w⟩
    exact (pss_one (ps_ret (pos := p3) (act _ pn xe W1 p1 p2 tk2 fun _ _ _ _ h => h))).run pins t σ1 H1 D I ⟨slot, code, told⟩
  · refine ⟨WordE X.K cS cT Q, fun cls d σ' H' hl w => ?_, rfl, hc, h⟩
    have h1 : ∀ a : Addr, (σ'.set 1 (some (V.ref a)))[1]? = some (some (V.ref a)) := fun a => by simp [hl]
    rcases w with ⟨rfl, dd, z, rfl, hd, w⟩ | ⟨rfl, dd, z, rfl, hd, w⟩
    · refine .inl ⟨W0.eSS, fun a ha => ?_⟩
      show Sx.tTupN X.K (tCons (tC (.str "side")) (tCons (tXf a (.ref cS) (some dd) cS "why" (tVar 1)) tNil)) (σ'.set 1 (some (.ref a))) H' Q
      exact ⟨_, h1 a, rfl, rfl, dd, _, z, rfl, hd, by simp [List.lookup], (show 2 ≤ sizeLine by decide), fun p H2 s2 hp => w p H2 s2 hp⟩
    · refine .inr ⟨W0.eTS, .inl ⟨W0.eTT, fun a ha => ?_⟩⟩
      show Sx.tTupN X.K (tCons (tC (.str "turned")) (tCons (tXf a (.ref cT) (some dd) cT "left" (tVar 1)) tNil)) (σ'.set 1 (some (.ref a))) H' Q
      exact ⟨_, h1 a, rfl, rfl, dd, _, z, rfl, hd, by simp [List.lookup], (show 2 ≤ sizeLine by decide), fun p H2 s2 hp => w p H2 s2 hp⟩
end
end LamX
/-! dicts by truth values -/
namespace Sx
open PySem PySem.Spec PyProof.Rows L2
/-- the dict at a: its keys are truth values -/
def BD (a : Addr) (kvs : List (Bool × V)) : HO := .ext fun h => ∃ (P : Program) (w : World) (vs : List (Bool × Value)), KV kvs vs ∧ h.DictOf (PpSet.boolK P w) a vs
theorem bd_ok {P P' : Program} {w w' : World} {H : Hp} {h : Heap} {a : Addr} {kvs : List (Bool × V)} {vs : List (Bool × Value)} (r : KV kvs vs) (e : h.DictOf (PpSet.boolK P w) a vs) : ObjOk P' w' H h a (BD a kvs) := by
  refine ⟨⟨P, w, vs, r, e⟩, ?_, fun h1 h2 x k => ?_⟩
  · obtain ⟨o, _, _, ho, _⟩ := e
    exact ⟨o, ho⟩
  · obtain ⟨P, w, vs, r, o, es, ep, ho, z⟩ := x
    exact ⟨P, w, vs, r, o, es, ep, k o ho, z⟩
theorem pairs_any {P P' : Program} {w w' : World} : ∀ {es : List DictEntry} {vs : List (Bool × Value)}, Pairs (PpSet.boolK P w) es vs → Pairs (PpSet.boolK P' w') es vs
  | _, _, .nil => .nil
  | _, _, .cons h e r => .cons h e (pairs_any r)
theorem bd_at {P : Program} {w : World} {H : Hp} {h : Heap} {a : Addr} {kvs : List (Bool × V)} (x : HOk P w H h) (e : H a = some (BD a kvs)) : ∃ vs, KV kvs vs ∧ h.DictOf (PpSet.boolK P w) a vs := by
  obtain ⟨⟨_, _, vs, r, o, es, ep, ho, ex, dat, ks, ps, nd⟩, _⟩ := x a _ e
  exact ⟨vs, r, o, es, ep, ho, ex, dat, ks, pairs_any ps, nd⟩
theorem bd_nil {P : Program} {w : World} {H : Hp} {h : Heap} {a : Addr} (x : HOk P w H h) (e : H a = some (.dK [])) : h.DictOf (PpSet.boolK P w) a [] := by
  obtain ⟨_, _, vs, r, o, es, ep, ho, ex, dat, _, ps, _⟩ := dk_of x e
  cases r
  have key : ∀ {l : List DictEntry} {r : List (Key × Value)}, Pairs (mixKind P w) l r → r = [] → l = [] := fun p z => by
    cases p with
    | nil => rfl
    | cons _ _ _ => cases z
  have nil : es.toList = [] := key ps rfl
  have ne : ∀ z, z ∉ es := fun z m => by
    rw [← Array.mem_toList_iff, nil] at m
    cases m
  exact ⟨o, es, ep, ho, ex, dat, fun z m => (ne z m).elim, by rw [nil]; exact .nil, List.nodup_nil⟩
def NoWr (H : Hp) (a : Addr) (kvs : List (Bool × V)) : Prop := (H a = some (.dK []) ∧ kvs = []) ∨ H a = some (BD a kvs)
/-- d[b] = v -/
def tPutB (td ty tv : TE) : TS := fun D σ H => tv σ H fun v H1 => td σ H1 fun x H2 => ty σ H2 fun y H3 => ∃ (a : Addr) (b : Bool) (kvs : List (Bool × V)), x = .ref a ∧ y = .bl b ∧ NoWr H3 a kvs ∧ kvs.length ≤ 1000 ∧ D.nx σ (upd H3 a (BD a (putK kvs b v)))
/-- d[b] -/
def tGetB (td ty : TE) : TE := fun σ H Q => td σ H fun x H1 => ty σ H1 fun y H2 => ∃ (a : Addr) (b : Bool) (kvs : List (Bool × V)) (v : V), x = .ref a ∧ y = .bl b ∧ H2 a = some (BD a kvs) ∧ valV kvs b = some v ∧ Q v H2
section
variable {X : Cx} {o i value : Expr} {pos pos' : Pos} {td ty tv : TE}
theorem ps_putB (ho : PE X o td) (hi : PE X i ty) (hv : PE X value tv) (hs : swapsWith value (some (.Subscript o i pos')) pos.line X.env = pure false := by rfl) : PS X (.Assign [.Subscript o i pos'] value pos) (tPutB td ty tv) := ⟨fun pins s σ H D I h => by
  refine wpAny_Assign_Subscript (thn (hv.run pins s σ H _ I h) fun r s1 ⟨v, H1, I1, rv, q1⟩ => thn (ho.run pins s1 σ H1 _ I1 q1) fun u s2 ⟨x, H2, I2, rx, q2⟩ => thn (hi.run pins s2 σ H2 _ I2 q2) fun iv s3 ⟨y, H3, I3, ry, a, b, kvs, ex, ey, w, l, q3⟩ => ?_) hs
  subst ex ey
  obtain rfl : u = Value.ref a := rx
  obtain rfl : iv = Value.bool b := ry
  have go : ∀ vs : List (Bool × Value), KV kvs vs → s3.heap.DictOf (PpSet.boolK X.prog X.w) a vs → Mut (H3 a) → wpAny (model X.prog X.w) X.A (setItem (.ref a) (.bool b) r) (fun _ t => SP X pins D .next t) X.xe s3 := fun vs rel dd mu => by
    have z : vs.length ≤ sizeLine := by rw [← rel.length, sizeLine_eq]; omega
    refine wpAny_setItem_pairs (hsz := z) (PpSet.boolK_is _ _ b) dd fun h' dd' sb => ?_
    · have there : ∃ z, h'.get? a = some z := by
        obtain ⟨z, _, _, e, _⟩ := dd'
        exact ⟨z, e⟩
      exact ⟨σ, _, d_write I3 mu sb there (bd_ok (rel.put b rv) dd'), q3⟩
  rcases w with ⟨e, rfl⟩ | e
  · exact go [] .nil (bd_nil I3.hok e) (by rw [e]; exact True.intro)
  · obtain ⟨vs, rel, dd⟩ := bd_at I3.hok e
    exact go vs rel dd (by rw [e]; exact True.intro)⟩
theorem pe_getB (ho : PE X o td) (hi : PE X i ty) (hs : NoSl i) : PE X (.Subscript o i pos) (tGetB td ty) := ⟨fun pins s σ H Q I h => by
  refine subD_of PySem.F.slot_dict_getitem.lookup hs (thn (ho.run pins s σ H _ I h) fun u s1 ⟨x, H1, I1, rx, q1⟩ => thn (hi.run pins s1 σ H1 _ I1 q1) fun iv s2 ⟨y, H2, I2, ry, a, b, kvs, v, ex, ey, e, l, q⟩ => ?_)
  subst ex ey
  obtain rfl : u = Value.ref a := rx
  obtain rfl : iv = Value.bool b := ry
  obtain ⟨vs, rel, dd⟩ := bd_at I2.hok e
  obtain ⟨w', hw, rw'⟩ := RelO.some_of (v := v) (o := valueAt vs b) (by rw [← l]; exact rel.val b)
  exact ⟨dd.typeIs, wpAny_getItem_of (PpSet.boolK_is _ _ b) dd.mapOf hw ⟨v, H2, I2.tok _, rw', q⟩⟩⟩
end
end Sx
/-! a law that hands a lambda on -/
namespace L2
open PySem PySem.Spec PyProof.Rows LamX
/-- a def whose code object is known -/
structure FunC (K : PySem.W.Frag) (x : Str) (st : Stmt) (f : Addr) (fd : FuncData) (c : Addr) : Prop where
  is : ∃ (oc : Value) (od : Option Addr) (kV doc pm : Value) (an : Option Addr) (ct : Value) (osl : Array (Option Value)),
    fd = PySem.W.fnOf x x (defArgs st) (defBody st) (defScope st) .none kV doc pm an (.ref c) ct ∧ K.lookup f = some ⟨oc, od, .func fd, osl⟩ ∧ PySem.W.codeIn K (.ref c) x = true
section
variable {P : Program} {w : World} {K : PySem.W.Frag} {mg : Str → Option Value} {base : Heap}
theorem FunC.ok {x : Str} {st : Stmt} {f c : Addr} {fd : FuncData} {N ps : List Str} {k : Nat} {sp : Sp} (F : FunC K x st f fd c) (S : FnScope N ps (defScope st)) (len : ∀ vs H Q E, sp vs H Q E → vs.length = ps.length)
    (body : ∀ (A : Around) (outer : List Env) (s : Shared) (H : Hp) (vs : List V) (Q : VK) (E : XK), Room k (A.deeper (envOfC x (defScope st) s.heap.objs.size f (.ref c))) → sp vs H Q E →
      ∃ t, PSs (cxOf CX0 P w K mg base N x (defScope st) f (.ref c) A outer s H E).nox (defBody st) t ∧ t { nx := fun _ H' => Q .non H', rt := Q } (start N vs) H) : FnOk P w K mg base CX0 (k + 1) f fd ps sp := by
  obtain ⟨oc, od, kV, doc, pm, an, ct, osl, rfl, lk, hcd⟩ := F.is
  refine fn_of lk hcd S len fun A outer s H vs Q E hr h => ?_
  have ⟨t, p, q⟩ := body A outer s H vs Q E hr h
  exact ⟨t, p.nox, q⟩
end
/-- the end: the law's own table of code objects is empty at the law's entry -/
theorem walk_lam {l : PySem.W.OpenLaw} {n k : Nat} {q : Program} {loose : List Str} {XP : (Str → Option Value) → Heap → Prop} {YP : World → Heap → Prop} {d : DefRec} {K : Params → PySem.W.Frag} {x : Str}
    (hn : l.most = some n) (hn2 : n ≤ sizeLine) (hdf : d.params.defaults = []) (hr : Room k callerA) (hY : ∀ (w : World) (h : Heap), YP w h → (K w.params).In h) (hrec : ∃ d', (recsOf q).find? (fun e => e.name == d.name) = some d')
    (F : ∀ (w : World) (mg : Str → Option Value) (fa : Addr) (h : Heap), (K w.params).In h → h.Ns mainGlobals mg → mg d.name = some (.ref fa) →
      ∃ (fd : FuncData) (c P : Addr) (sp : Sp), PySem.W.tabIn (K w.params) d.name = some (c, P) ∧ (K w.params).lookup P = none ∧ (∀ (s : Shared) (u : Value), BindsTo s fd ⟨[u], []⟩ [(x, u)]) ∧
        (∀ (H : Hp) (a : Addr) (ns : List Int), ns.length ≤ n → H P = some (.tbl #[]) → SqL (K w.params) H a (ns.map V.int) → sp [.ref a] H (fun v _ => v = .bl true) fun _ _ _ => False) ∧
        ∀ base : Heap, (K w.params).In base → base.Ns mainGlobals mg → TabB base mg c P → FnOk l.prog w (K w.params) mg base CX0 k fa fd [x] sp) :
    PySem.W.WalkO q loose XP YP l.row.toRowW d [] (fun f vs => PySem.call f vs) := by
  refine Att.attach_callB hn hdf fun w s₀ s₁ mg mb fa o pm cd doc a vs ns G Y ho hd hcd hmg hobj hints hlen hbits hg => ?_
  have X := hY w _ Y
  obtain ⟨d', hd'⟩ := hrec
  obtain ⟨fd, c, P, sp, ht, nP, hb, hsp, hF⟩ := F w mg fa _ X G.T.g hmg
  have T := PySem.W.tab_of G.T X hd' ht
  have one : ∀ {R : Addr × Addr → Prop}, R (c, P) → ∀ p ∈ [(c, P)], R p := fun r p hp => by rw [List.mem_singleton.mp hp]; exact r
  exact law_callTs (cs := [(c, P)]) X G.T.g G.T.b G.T.builtins G.T.nolimit hg (one T.2) (one nP) (one T.1) G.T.bmain hobj hints (Nat.le_trans hlen hn2) hr (fun base h1 h2 h3 => hF base h1 h2 (h3 (c, P) (.head _))) hb
    (fun H hH hS => hsp H a ns hlen (hH (c, P) (.head _)) hS) fun _ _ _ z => z
/-- in a tuple -/
def rInDT (K : PySem.W.Frag) : R2 := fun x y H Q => ∃ d ds, Dp K H x d ∧ Dp K H y (.tuple ds) ∧ SeqAt.shaped d = true ∧ SeqAt.shaped (.tuple ds) = true ∧ Q (.bl (ds.any fun z => PyData.eqv z d)) H
theorem op_inDT {X : Cx} (hu : X.A.units + 65 < cLine) : OpR X (compareOp .In) (rInDT X.K) := fun pins s σ H x y v u Q I rx ry ⟨d, ds, hd, he, sd, se, q⟩ => by
  have ⟨_, r1⟩ := Dp.reads I d x v hd rx
  have ⟨_, r2⟩ := Dp.reads I (.tuple ds) y u he ry
  exact SeqAt.in_tuple_reads r2 r1 (SeqAt.canLay_of_shaped se) (SeqAt.canLay_of_shaped sd) (room_in_shaped sd hu) ⟨.bl _, H, I, rfl, q⟩
end L2
open PySem L2 RT Sx
namespace Sx
/-- one is within sixty times sixty as often as wanted of a square -/
def Near (n f : Nat) : Prop := ∃ k, k ≤ 12 ∧ ((f * f ≤ n * 3600 ^ k ∧ n * 3600 ^ k < (f + 1) * (f + 1)) ∨ (f * f * 3600 ^ k ≤ n ∧ n < (f + 1) * (f + 1) * 3600 ^ k))
theorem near_lo {n f k j : Nat} (h0 : 0 < f) (hj : j < k) (h : n * 3600 ^ k < (f + 1) * (f + 1)) : n * 3600 ^ j < f * f := by
  obtain ⟨i, rfl⟩ : ∃ i, k = j + 1 + i := ⟨k - (j + 1), by omega⟩
  have h1 : (f + 1) * (f + 1) ≤ f * f * 3600 := by
    have : (f + 1) * (f + 1) ≤ (60 * f) * (60 * f) := Nat.mul_le_mul (by omega) (by omega)
    calc (f + 1) * (f + 1) ≤ (60 * f) * (60 * f) := this
      _ = f * f * 3600 := by rw [Nat.mul_mul_mul_comm]; omega
  have h2 : n * 3600 ^ j * 3600 ≤ n * 3600 ^ (j + 1 + i) := by
    rw [Nat.pow_add, Nat.pow_add, Nat.pow_one, ← Nat.mul_assoc, ← Nat.mul_assoc]
    exact Nat.le_mul_of_pos_right _ (Nat.pos_of_ne_zero (by simp))
  omega
theorem near_hi {n f k j : Nat} (h0 : 0 < f) (hj : j < k) (h : f * f * 3600 ^ k ≤ n) : (f + 1) * (f + 1) * 3600 ^ j ≤ n := by
  obtain ⟨i, rfl⟩ : ∃ i, k = j + 1 + i := ⟨k - (j + 1), by omega⟩
  have h1 : (f + 1) * (f + 1) ≤ f * f * 3600 := by
    have : (f + 1) * (f + 1) ≤ (60 * f) * (60 * f) := Nat.mul_le_mul (by omega) (by omega)
    calc (f + 1) * (f + 1) ≤ (60 * f) * (60 * f) := this
      _ = f * f * 3600 := by rw [Nat.mul_mul_mul_comm]; omega
  calc (f + 1) * (f + 1) * 3600 ^ j ≤ f * f * 3600 * 3600 ^ j := Nat.mul_le_mul_right _ h1
    _ = f * f * 3600 ^ (j + 1) := by rw [Nat.pow_succ, Nat.mul_assoc, Nat.mul_comm 3600]
    _ ≤ f * f * 3600 ^ (j + 1 + i) := Nat.mul_le_mul_left _ (Nat.pow_le_pow_right (by decide) (by omega))
    _ ≤ n := h
/-! the near side's figures -/
theorem figs_take {s p : Nat} (hs : 0 < s) (hp : p ≤ (figs s).length) : ∃ e, (figs s).length = p + e ∧ whole ((figs s).take p) * 60 ^ e ≤ s ∧ s < (whole ((figs s).take p) + 1) * 60 ^ e := by
  refine ⟨(figs s).length - p, by omega, ?_⟩
  have e1 : figs s = (figs s).take p ++ (figs s).drop p := (List.take_append_drop p _).symm
  have e2 : ∀ (l r : List Nat), whole (l ++ r) = whole l * 60 ^ r.length + whole r := by
    intro l r
    have key : ∀ (r : List Nat) (a : Nat), r.foldl (fun a d => a * 60 + d) a = a * 60 ^ r.length + whole r := by
      intro r
      induction r with
      | nil => intro a; simp [whole]
      | cons d r ih =>
        intro a
        have h1 : whole (d :: r) = r.foldl (fun a d => a * 60 + d) (0 * 60 + d) := rfl
        rw [h1, List.foldl_cons, ih, ih, List.length_cons, Nat.pow_succ, Nat.add_mul, Nat.zero_mul, Nat.zero_add, Nat.mul_assoc a, Nat.mul_comm 60]; omega
    show (l ++ r).foldl _ 0 = _
    rw [List.foldl_append, key]; rfl
  have e3 := whole_figs s
  rw [e1, e2, List.length_drop] at e3
  have e4 : whole ((figs s).drop p) < 60 ^ ((figs s).length - p) := whole_lt (fun d hd => figs_lt s d (List.mem_of_mem_drop hd)) (by rw [List.length_drop]; exact Nat.le_refl _)
  rw [Nat.add_mul]
  omega
theorem figs_long : ∀ (k s : Nat), 60 ^ k ≤ s → k + 1 ≤ (figs s).length
  | 0, s, h => figs_len1 (by rw [Nat.pow_zero] at h; omega)
  | k + 1, s, h => by
    have h1 : 60 ^ k ≤ s / 60 := by
      rw [Nat.pow_succ] at h
      exact (Nat.le_div_iff_mul_le (by decide)).mpr h
    have := figs_long k (s / 60) h1
    have h0 : 0 < s := Nat.lt_of_lt_of_le (Nat.pos_of_ne_zero (by simp)) h
    rw [figs, List.length_reverse] at this ⊢
    rw [figsL_pos h0, List.length_cons]; omega
theorem root_ge {r : List Nat} {b : Bool} {p : Nat} (ir : IsRow r) : 60 ^ p ≤ Float64.isqrt (nearN r b p) := by
  have h1 := whole_pos (row_ne ir) ir.hd
  have h2 : 1 ≤ (if b then 60 else 1) := by cases b <;> decide
  have h3 : 3600 ^ p ≤ nearN r b p := by
    calc 3600 ^ p = 1 * 1 * 3600 ^ p := by omega
      _ ≤ nearN r b p := Nat.mul_le_mul_right _ (Nat.mul_le_mul h1 h2)
  have h4 := (Float64.isqrt_spec (nearN r b p)).2
  rcases Nat.lt_or_ge (Float64.isqrt (nearN r b p)) (60 ^ p) with h | h
  · have h5 := Nat.mul_le_mul (show Float64.isqrt (nearN r b p) + 1 ≤ 60 ^ p by omega) (show Float64.isqrt (nearN r b p) + 1 ≤ 60 ^ p by omega)
    rw [← Nat.mul_pow] at h5
    have h6 : (60 * 60) ^ p = 3600 ^ p := rfl
    omega
  · exact h
theorem nearF_len {r : List Nat} {b : Bool} {p : Nat} (ir : IsRow r) : (nearF r b p).length = p := by
  have := figs_long p _ (root_ge (b := b) ir)
  unfold nearF
  rw [List.length_take]; omega
theorem nearF_lt {r : List Nat} {b : Bool} {p : Nat} : ∀ d ∈ nearF r b p, d < 60 := fun d hd => figs_lt _ d (List.mem_of_mem_take hd)
theorem nearF_hd {r : List Nat} {b : Bool} {p : Nat} (ir : IsRow r) (hp : 1 ≤ p) : (nearF r b p)[0]? ≠ some 0 := by
  unfold nearF
  rw [List.getElem?_take, if_pos (by omega)]
  exact figs_head (Nat.lt_of_lt_of_le (Nat.pos_of_ne_zero (by simp)) (root_ge (b := b) ir))
theorem sq60 (x e : Nat) : (x * 60 ^ e) * (x * 60 ^ e) = x * x * 3600 ^ e := by
  rw [Nat.mul_mul_mul_comm, ← Nat.mul_pow]
theorem nearF_near {r : List Nat} {b : Bool} {p : Nat} (ir : IsRow r) (hp : 1 ≤ p) (hp6 : p ≤ 6) : Near (whole r * (if b then 60 else 1)) (whole (nearF r b p)) := by
  have hge := root_ge (b := b) (p := p) ir
  have hs : 0 < Float64.isqrt (nearN r b p) := Nat.lt_of_lt_of_le (Nat.pos_of_ne_zero (by simp)) hge
  have hl := figs_long p _ hge
  obtain ⟨e, e1, e2, e3⟩ := figs_take hs (p := p) (by omega)
  obtain ⟨s1, s2⟩ := Float64.isqrt_spec (nearN r b p)
  have hF : whole (nearF r b p) = whole ((figs (Float64.isqrt (nearN r b p))).take p) := rfl
  rw [hF]
  generalize hf : whole ((figs (Float64.isqrt (nearN r b p))).take p) = f at *
  generalize hsq : Float64.isqrt (nearN r b p) = s at *
  have hup : s < 60 ^ (p + 7) := by
    rcases Nat.lt_or_ge s (60 ^ (p + 7)) with h | h
    · exact h
    · have h1 := whole12 ir
      have h2 : (if b then 60 else 1) ≤ 60 := by cases b <;> decide
      have h3 : nearN r b p < 60 ^ 13 * 3600 ^ p := by
        have : whole r * (if b then 60 else 1) < 60 ^ 13 := by
          calc whole r * (if b then 60 else 1) ≤ whole r * 60 := Nat.mul_le_mul_left _ h2
            _ < 60 ^ 13 := by rw [show 60 ^ 13 = 60 ^ 12 * 60 by decide]; omega
        exact Nat.mul_lt_mul_of_pos_right this (Nat.pos_of_ne_zero (by simp))
      have h4 := Nat.mul_le_mul h h
      rw [← Nat.mul_pow] at h4
      have h5 : (60 * 60) ^ (p + 7) = 3600 ^ 7 * 3600 ^ p := by show 3600 ^ (p + 7) = _; rw [Nat.pow_add, Nat.mul_comm]
      rw [h5] at h4
      have h6 : 60 ^ 13 * 3600 ^ p ≤ 3600 ^ 7 * 3600 ^ p := Nat.mul_le_mul_right _ (by decide)
      omega
  have hle := figs_len hup
  have t1 : f * f * 3600 ^ e ≤ whole r * (if b then 60 else 1) * 3600 ^ p := by
    rw [← sq60]; exact Nat.le_trans (Nat.mul_le_mul e2 e2) s1
  have t2 : whole r * (if b then 60 else 1) * 3600 ^ p < (f + 1) * (f + 1) * 3600 ^ e := by
    rw [← sq60]; exact Nat.lt_of_lt_of_le s2 (Nat.mul_le_mul e3 e3)
  generalize whole r * (if b then 60 else 1) = n at *
  have pos : ∀ k, 0 < 3600 ^ k := fun k => Nat.pos_of_ne_zero (by simp)
  rcases Nat.le_total e p with h | h
  · obtain ⟨k, rfl⟩ := Nat.exists_eq_add_of_le h
    refine ⟨k, by omega, .inl ⟨?_, ?_⟩⟩
    · have : f * f * 3600 ^ e ≤ n * 3600 ^ k * 3600 ^ e := by rw [Nat.mul_assoc n, ← Nat.pow_add, Nat.add_comm k e]; exact t1
      exact Nat.le_of_mul_le_mul_right this (pos e)
    · have : n * 3600 ^ k * 3600 ^ e < (f + 1) * (f + 1) * 3600 ^ e := by rw [Nat.mul_assoc n, ← Nat.pow_add, Nat.add_comm k e]; exact t2
      exact Nat.lt_of_mul_lt_mul_right this
  · obtain ⟨k, rfl⟩ := Nat.exists_eq_add_of_le h
    refine ⟨k, by omega, .inr ⟨?_, ?_⟩⟩
    · have : f * f * 3600 ^ k * 3600 ^ p ≤ n * 3600 ^ p := by rw [Nat.mul_assoc (f * f), ← Nat.pow_add, Nat.add_comm k p]; exact t1
      exact Nat.le_of_mul_le_mul_right this (pos p)
    · have : n * 3600 ^ p < (f + 1) * (f + 1) * 3600 ^ k * 3600 ^ p := by rw [Nat.mul_assoc ((f + 1) * (f + 1)), ← Nat.pow_add, Nat.add_comm k p]; exact t2
      exact Nat.lt_of_mul_lt_mul_right this
/-! figures of greater places -/
theorem figs_div : ∀ (j s : Nat), 60 ^ j ≤ s → ∃ l, figs s = figs (s / 60 ^ j) ++ l ∧ l.length = j
  | 0, s, _ => ⟨[], by rw [Nat.pow_zero, Nat.div_one, List.append_nil], rfl⟩
  | j + 1, s, h => by
    have h0 : 0 < s := Nat.lt_of_lt_of_le (nat60 _) h
    have h1 : 60 ^ j ≤ s / 60 := by
      rw [Nat.pow_succ] at h
      exact (Nat.le_div_iff_mul_le (by decide)).mpr h
    obtain ⟨l, e1, e2⟩ := figs_div j (s / 60) h1
    refine ⟨l ++ [s % 60], ?_, by rw [List.length_append, e2]; rfl⟩
    have e3 : figs s = figs (s / 60) ++ [s % 60] := by unfold figs; rw [figsL_pos h0, List.reverse_cons]
    rw [e3, e1, List.append_assoc, Nat.div_div_eq_div_mul, Nat.pow_succ, Nat.mul_comm 60]
theorem isqrt_div (n j : Nat) : Float64.isqrt (n * 3600 ^ j) / 60 ^ j = Float64.isqrt n := by
  obtain ⟨h1, h2⟩ := Float64.isqrt_spec (n * 3600 ^ j)
  have p := nat60 j
  refine (isqrt_eq ?_ ?_).symm
  · have h3 := Nat.div_mul_le_self (Float64.isqrt (n * 3600 ^ j)) (60 ^ j)
    generalize Float64.isqrt (n * 3600 ^ j) / 60 ^ j = q at *
    have h4 := Nat.mul_le_mul h3 h3
    rw [sq60] at h4
    exact Nat.le_of_mul_le_mul_right (Nat.le_trans h4 h1) (Nat.pos_of_ne_zero (by simp))
  · have h3 := Nat.lt_div_mul_add p (a := Float64.isqrt (n * 3600 ^ j))
    have h4 : Float64.isqrt (n * 3600 ^ j) + 1 ≤ (Float64.isqrt (n * 3600 ^ j) / 60 ^ j + 1) * 60 ^ j := by rw [Nat.add_mul]; omega
    generalize Float64.isqrt (n * 3600 ^ j) / 60 ^ j = q at *
    have h5 := Nat.mul_le_mul h4 h4
    rw [sq60] at h5
    exact Nat.lt_of_mul_lt_mul_right (Nat.lt_of_lt_of_le h2 h5)
theorem nearF_take {r : List Nat} {b : Bool} {p q : Nat} (ir : IsRow r) (h : p ≤ q) : nearF r b p = (nearF r b q).take p := by
  obtain ⟨j, rfl⟩ := Nat.exists_eq_add_of_le h
  have e : nearN r b (p + j) = nearN r b p * 3600 ^ j := by unfold nearN; rw [Nat.pow_add, ← Nat.mul_assoc]
  unfold nearF
  rw [e, List.take_take, Nat.min_eq_left (Nat.le_add_right p j)]
  have g : 60 ^ j ≤ Float64.isqrt (nearN r b p * 3600 ^ j) := by
    rw [← e]
    exact Nat.le_trans (Nat.pow_le_pow_right (by decide) (Nat.le_add_left j p)) (root_ge ir)
  obtain ⟨l, e1, e2⟩ := figs_div j _ g
  have fl := figs_long p _ (root_ge (b := b) (p := p) ir)
  rw [e1, isqrt_div, List.take_append_of_le_length (by omega)]
/-- the side's own row with noughts behind -/
theorem near_side_eq {r : List Nat} {s : Nat} {b : Bool} (hs : 0 < s) (e : s * s = whole r * (if b then 60 else 1)) : (rowOf s ++ List.replicate 6 0).take 6 = nearF r b 6 := by
  have e1 : Float64.isqrt (nearN r b 6) = s * 60 ^ 6 := by
    unfold nearN
    rw [← e, ← sq60]
    exact isqrt_eq (Nat.le_refl _) (Nat.mul_lt_mul'' (Nat.lt_succ_self _) (Nat.lt_succ_self _))
  have key : ∀ j m, 0 < m → figs (m * 60 ^ j) = figs m ++ List.replicate j 0 := by
    intro j
    induction j with
    | zero => intro m _; simp
    | succ j ih =>
      intro m hm
      have e3 : m * 60 ^ (j + 1) = m * 60 ^ j * 60 := by rw [Nat.pow_succ, Nat.mul_assoc]
      have p : 0 < m * 60 ^ j * 60 := Nat.mul_pos (Nat.mul_pos hm (nat60 j)) (by decide)
      rw [e3]
      have e4 : figs (m * 60 ^ j * 60) = figs (m * 60 ^ j) ++ [0] := by
        unfold figs
        rw [figsL_pos p, Nat.mul_div_cancel _ (by decide), Nat.mul_mod_left, List.reverse_cons]
      rw [e4, ih m hm, List.append_assoc]
      congr 1
      rw [show (0 : Nat) :: [] = List.replicate 1 0 from rfl, List.replicate_append_replicate]
  obtain ⟨p0, _, k, ek⟩ := strip_spec s hs
  unfold nearF
  rw [e1]
  have e5 : figs (s * 60 ^ 6) = rowOf s ++ List.replicate (k + 6) 0 := by
    conv => lhs; rw [ek, Nat.mul_assoc, ← Nat.pow_add]
    rw [key _ _ p0]; rfl
  rw [e5, List.take_append, List.take_append, List.take_replicate, List.take_replicate]
  congr 2
  omega
end Sx
open PySem L2 RT Sx
/-! more readings: an empty dict, a range with two ends, a tuple again and again -/
namespace Sx
def tDNewN : TE := fun _ H Q => ∀ p H2, H p = none → Same H H2 → H2 p = some (.dK []) → Q (.ref p) H2
theorem pe_dnewN {X : Cx} {pos : Pos} : PE X (.Dict [] [] pos) tDNewN := PE.imp pe_dnewK fun _ _ _ q p hp => q p _ hp (same_new hp) upd_same
def rRepTN (K : PySem.W.Frag) : R2 := fun x y H Q => ∃ l k xs, x = .ref l ∧ y = .int k ∧ SqT K H l xs ∧ xs ≠ [] ∧ 2 ≤ k ∧ k ≤ 1000 ∧ xs.length ≤ 1000 ∧ ∀ p H2, Same H H2 → SqT K H2 p (List.replicate k.toNat xs).flatten → Q (.ref p) H2
theorem op_repTN {X : Cx} : OpR X (PySem.binaryOp .Mult) (rRepTN X.K) := fun pins s σ H x y v u Q I rx ry ⟨l, k, xs, e1, e2, h, hn, h2, h3, hz, q⟩ =>
  op_repT pins s σ H x y v u Q I rx ry ⟨l, k, xs, e1, e2, h, hn, h2, h3, hz, fun p hp => q p _ (same_new hp) (sqt upd_same)⟩
def tLcR2 (ta : TA) (g : TG) (tt : TT) (te : TE) (vs : List Nat) : TE := fun σ H Q => ta σ H fun us H1 => ∃ a n : Nat, us = [natV a, natV n] ∧ a ≤ n ∧ n < 2 ^ 62 ∧ ∀ D, H1 D = none → ∃ Pv : Nat → Hp → Prop, Pv 0 (upd H1 D (.lst [])) ∧
  (∀ i H', a + i < n → Pv i H' → LcTurn D g tt te vs σ (Pv (i + 1)) (natV (a + i)) H') ∧ ∀ H', Pv (n - a) H' → Q (.ref D) H'
theorem lcR2_of {ta : TA} {g : TG} {tt : TT} {te : TE} {vs : List Nat} {σ : L2.St} {H : Hp} {Q : VK} (q : tLcR2 ta g tt te vs σ H Q) : tLc (iRng2 (wkA ta)) g tt te vs σ H Q := ⟨_, q, fun us H1 ⟨a, n, e, han, hn, k⟩ => by
  subst e
  refine ⟨(a : Int), (n : Int), rfl, ⟨by omega, by omega, by omega, by omega⟩, fun D hD => ?_⟩
  rw [show ((n : Int) - (a : Int)).toNat = n - a by omega]
  obtain ⟨Pv, h0, hs, hd⟩ := k D hD
  exact lc_range Pv h0 (fun i H' hi p => hs i H' (by omega) p) hd⟩
theorem i_lcR2 {ta : TA} {g : TG} {tt : TT} {te : TE} {vs : List Nat} {σ : L2.St} {H : Hp} {Q : VK} (q : ta σ H fun us H1 => ∃ a n : Nat, us = [natV a, natV n] ∧ a ≤ n ∧ n < 2 ^ 62 ∧ ∀ D, H1 D = none → ∃ Pv : Nat → Hp → Prop, Pv 0 (upd H1 D (.lst [])) ∧
  (∀ i H', a + i < n → Pv i H' → LcTurn D g tt te vs σ (Pv (i + 1)) (natV (a + i)) H') ∧ ∀ H', Pv (n - a) H' → Q (.ref D) H') : tLcR2 ta g tt te vs σ H Q := q
theorem extN_seqT {K : PySem.W.Frag} {H H' : Hp} {a : Addr} {xs : List V} (e : LamX.ExtN H H') (h : SqT K H a xs) : SqT K H' a xs := by
  rcases h with (h | ⟨o, h⟩) | h
  · exact .inl (.inl (e _ _ h (by simp)))
  · exact .inl (.inr ⟨o, e _ _ h (by simp)⟩)
  · exact .inr h
/-- one of the hits comes: what the turns keep -/
structure Hit (n f : Nat) (i w c h : Nat) : Prop where
  wl : w ≤ n * 3600 ^ i
  cl : c ≤ 3600 ^ i
  go : h = 0 → (∃ k, k ≤ 12 ∧ i ≤ k ∧ ((w = n * 3600 ^ i ∧ c = 1 ∧ f * f ≤ n * 3600 ^ k ∧ n * 3600 ^ k < (f + 1) * (f + 1)) ∨ (w = n ∧ c = 3600 ^ i ∧ f * f * 3600 ^ k ≤ n ∧ n < (f + 1) * (f + 1) * 3600 ^ k)))
theorem Hit.start {n f : Nat} (h : Near n f) : Hit n f 0 n 1 0 := by
  obtain ⟨k, hk, h⟩ := h
  refine ⟨by omega, by omega, fun _ => ⟨k, hk, by omega, ?_⟩⟩
  rcases h with ⟨h1, h2⟩ | ⟨h1, h2⟩
  · exact .inl ⟨by omega, rfl, h1, h2⟩
  · exact .inr ⟨rfl, by omega, h1, h2⟩
theorem Hit.step {n f i w c h : Nat} (f0 : 0 < f) (z : Hit n f i w c h) :
    Hit n f (i + 1) (if w < f * f * c then w * 3600 else w) (if w < f * f * c then c else c * 3600) (h + (if f * f * c ≤ w ∧ w < (f + 1) * (f + 1) * c then 1 else 0)) := by
  have p : 0 < 3600 ^ i := Nat.pos_of_ne_zero (by simp)
  have e : 3600 ^ (i + 1) = 3600 ^ i * 3600 := Nat.pow_succ ..
  refine ⟨?_, ?_, fun h0 => ?_⟩
  · have e2 : n * 3600 ^ (i + 1) = n * 3600 ^ i * 3600 := by rw [e, Nat.mul_assoc]
    rw [e2]
    have := z.wl
    split <;> omega
  · rw [e]
    have := z.cl
    split <;> omega
  · have hz : h = 0 := by omega
    have nh : ¬ (f * f * c ≤ w ∧ w < (f + 1) * (f + 1) * c) := fun y => by rw [if_pos y] at h0; omega
    obtain ⟨k, hk, hik, y⟩ := z.go hz
    have lt : i < k := by
      rcases Nat.lt_or_ge i k with g | g
      · exact g
      · obtain rfl : i = k := by omega
        rcases y with ⟨rfl, rfl, y1, y2⟩ | ⟨rfl, rfl, y1, y2⟩
        · exact absurd ⟨by omega, by omega⟩ nh
        · exact absurd ⟨y1, y2⟩ nh
    refine ⟨k, hk, lt, ?_⟩
    rcases y with ⟨rfl, rfl, y1, y2⟩ | ⟨rfl, rfl, y1, y2⟩
    · have lo := near_lo f0 lt y2
      rw [Nat.mul_one, if_pos lo, if_pos lo]
      exact .inl ⟨by rw [e, Nat.mul_assoc], rfl, y1, y2⟩
    · have hle : f * f * 3600 ^ i ≤ w := Nat.le_trans (Nat.mul_le_mul_left _ (Nat.pow_le_pow_right (by decide) hik)) y1
      rw [if_neg (by omega), if_neg (by omega)]
      exact .inr ⟨rfl, e.symm, y1, y2⟩
theorem Hit.fin {n f w c h : Nat} (z : Hit n f 14 w c h) : h ≠ 0 := fun e => by
  obtain ⟨k, hk, hi, _⟩ := z.go e
  omega
end Sx
open PySem L2 RT Sx

namespace Sx
def t_after (K : PySem.W.Frag) : TS := (tSeq (tAsg tDNewN (gName 4))
  (tSeq (tFor (iTup K (tTupN K (tCons (tC (.bl false)) (tCons (tC (.bl true)) tNil)))) (gName 5)
  (tSeq (tAsg (tLcR2 (tCons (tC (natV 1)) (tCons (tC (natV 7)) tNil)) (gName 16) tYes (tCall (sp_near_side K) [] E0 (tCons (tVar 2) (tCons (tVar 5) (tCons (tVar 16) tNil)))) [16]) (gName 6))
  (tSeq (tFor (iRng1 (tCons (tC (natV 6)) tNil)) (gName 7)
  (tSeq (tIfS (tTest (tOp rNe (tCB (rLen K) (tCons (tOp (rIxL K) (tVar 6) (tVar 7)) tNil)) (tOp rAdd (tVar 7) (tC (natV 1))))) (tRet (tC (.bl false))) tNext)
  (tSeq (tIfS (tTest (tOp (rNeD K) (tOp (rIxL K) (tVar 6) (tVar 7)) (tSl (rSlN K) (tOp (rIxL K) (tVar 6) (tC (natV 5))) tNoPart (tPart (tOp rAdd (tVar 7) (tC (natV 1))))))) (tRet (tC (.bl false))) tNext)
  (tSeq (tIfS (tTest (tOp rEq (tOp (rIxT K) (tOp (rIxL K) (tVar 6) (tVar 7)) (tC (natV 0))) (tC (natV 0)))) (tRet (tC (.bl false))) tNext)
  (tIfS (tTest (tOp (rNeD K) (tLcT K (tOp (rIxL K) (tVar 6) (tVar 7)) (gName 17) (tNot (tTest (tChain rLe rLt (tC (natV 0)) (tVar 17) (tC (natV 60))))) (tVar 17) [17]) (tLstN tNil))) (tRet (tC (.bl false))) tNext)))))
  (tSeq (tPutB (tVar 4) (tVar 5) (tOp (rIxL K) (tVar 6) (tC (natV 5))))
  (tSeq (tPar 8 9 (tCons (tCall (sp__law_whole_of K) [] E0 (tCons (tOp (rIxL K) (tVar 6) (tC (natV 5))) tNil)) (tCons (tOp rMulW (tCall (sp__law_whole_of K) [] E0 (tCons (tVar 2) tNil)) (tIf (tB (tVar 5)) (tC (natV 60)) (tC (natV 1)))) tNil)))
  (tSeq (tAsg (tTupN K (tCons (tC (natV 1)) (tCons (tC (natV 0)) tNil))) (gTup K 2 (gCons (gName 10) (gCons (gName 11) gNil))))
  (tSeq (tFor (iRng1 (tCons (tC (natV 14)) tNil)) (gName 12)
  (tSeq (tPar 13 14 (tCons (tOp rMulW (tOp rMulW (tVar 8) (tVar 8)) (tVar 10)) (tCons (tOp rMulW (tOp rMulW (tOp rAdd (tVar 8) (tC (natV 1))) (tOp rAdd (tVar 8) (tC (natV 1)))) (tVar 10)) tNil)))
  (tSeq (tAsg (tOp rAdd (tVar 11) (tCB rInt1 (tCons (tChain rLe rLt (tVar 13) (tVar 9) (tVar 14)) tNil))) (gName 11))
  (tAsg (tIf (tTest (tOp rLt (tVar 9) (tVar 13))) (tTupN K (tCons (tOp rMul (tVar 9) (tC (natV 3600))) (tCons (tVar 10) tNil))) (tTupN K (tCons (tVar 9) (tCons (tOp rMul (tVar 10) (tC (natV 3600))) tNil)))) (gTup K 2 (gCons (gName 9) (gCons (gName 10) gNil)))))))
  (tIfS (tTest (tOp rEq (tVar 11) (tC (natV 0)))) (tRet (tC (.bl false))) tNext))))))))
  (tSeq (tIfS (tB (tCB (rIsi K) (tCons (tOp (rIxT K) (tVar 3) (tC (natV 0))) (tCons (tC (.ty "str")) tNil)))) (tRet (tC (.bl true))) tNext)
  (tSeq (tAsg (tSl (rSlN K) (tOp (rCatN K) (tVar 3) (tOp (rRepTN K) (tTupN K (tCons (tC (natV 0)) tNil)) (tC (natV 6)))) tNoPart (tPart (tC (natV 6)))) (gName 15))
  (tRet (tOp (rInDT K) (tVar 15) (tTupN K (tCons (tGetB (tVar 4) (tC (.bl false))) (tCons (tGetB (tVar 4) (tC (.bl true))) tNil)))))))))
def t_tail (K : PySem.W.Frag) (e : Er) (cP : Addr) : TS := (tSeq (tAsg (LamX.tLam [(cP, ("law" : Str) ++ ".<locals>." ++ "<lambda>")] (LamX.TTword K e.side e.turned) fun E => (tCallS (sp_side K e) (WE fun cls d _ H => E cls d H) (tCons (tVar 2) tNil))) (gName 3))
  (t_after K))
def t_law (K : PySem.W.Frag) (e : Er) (cP : Addr) : TS := (tSeq (tAsg (tCall (sp__law_dice K) [] E0 (tCons (tVar 0) tNil)) (gName 1))
  (tSeq (tAsg (tCall (sp__law_short K) [] E0 (tCons (tVar 1) (tCons (tC (natV 3)) tNil))) (gName 2))
  (tSeq (tAsg (tIf (tTest (tOp rEq (tCall (sp__law_next K) [] E0 (tCons (tVar 1) (tCons (tC (natV 2)) tNil))) (tC (natV 0)))) (tCall (sp_squared K) [] E0 (tCons (tVar 2) tNil)) (tVar 2)) (gName 2))
  (t_tail K e cP))))

def sp_law (K : PySem.W.Frag) (cP : Addr) : Sp := fun vs H Q _ => ∃ (a : Addr) (ns : List Int), vs = [.ref a] ∧ SqL K H a (ns.map V.int) ∧ ns.length ≤ 63 ∧ H cP = some (.tbl #[]) ∧ ∀ H', Q (.bl true) H'
section
variable {K : PySem.W.Frag} {H : Hp} {Q : VK} {er : Er}
theorem i_neR {a b : Addr} {r : List Nat} (h1 : SqT K H a (rowV r)) (h2 : SqT K H b (rowV r)) (q : Q (.bl false) H) : rNeD K (.ref a) (.ref b) H Q :=
  ⟨rowD r, rowD r, dp_row h1, dp_row h2, shaped_row r, shaped_row r, by rw [eqv_row]; exact q⟩
theorem i_ifC {b : Bool} {m n : Nat} {F : VK} {σ : L2.St} (q : F (natV (if b then m else n)) H) : if b = true then tC (natV m) σ H F else tC (natV n) σ H F := by
  cases b
  · exact q
  · exact q
theorem i_par {i j : Nat} {ta : TA} {D : Ends} {σ : L2.St} (q : ta σ H fun vs H1 => ∃ v w, vs = [v, w] ∧ D.nx ((List.set σ i (some v)).set j (some w)) H1) : tPar i j ta D σ H := q
theorem i_ex2 {v w : V} {A : V → V → Prop} (q : A v w) : ∃ v' w', [v, w] = [v', w'] ∧ A v' w' := ⟨v, w, rfl, q⟩
theorem i_putB {td ty tv : TE} {D : Ends} {σ : L2.St} (q : tv σ H fun v H1 => td σ H1 fun x H2 => ty σ H2 fun y H3 => ∃ (a : Addr) (b : Bool) (kvs : List (Bool × V)), x = .ref a ∧ y = .bl b ∧ NoWr H3 a kvs ∧ kvs.length ≤ 1000 ∧ D.nx σ (upd H3 a (BD a (putK kvs b v)))) : tPutB td ty tv D σ H := q
theorem i_getB {td ty : TE} {σ : L2.St} (q : td σ H fun x H1 => ty σ H1 fun y H2 => ∃ (a : Addr) (b : Bool) (kvs : List (Bool × V)) (v : V), x = .ref a ∧ y = .bl b ∧ H2 a = some (BD a kvs) ∧ valV kvs b = some v ∧ Q v H2) : tGetB td ty σ H Q := q
theorem put_seqT {a D : Addr} {xs : List V} {kvs : List (Bool × V)} {o : HO} (w : NoWr H D kvs) (h : SqT K H a xs) : SqT K (upd H D o) a xs := by
  have ne : ∀ {u : HO}, H a = some u → (∀ φ, u ≠ .ext φ) → u ≠ .dK [] → a ≠ D := fun {u} e n1 n2 z => by
    subst z
    rcases w with ⟨w, _⟩ | w
    · rw [w] at e; exact n2 (Option.some.inj e).symm
    · rw [w] at e; exact n1 _ (Option.some.inj e).symm
  rcases h with (h | ⟨ob, h⟩) | h
  · exact .inl (.inl (by rw [upd_ne (ne h (by simp) (by simp))]; exact h))
  · exact .inl (.inr ⟨ob, by rw [upd_ne (ne h (by simp) (by simp))]; exact h⟩)
  · exact .inr h
theorem nowr_same {H' : Hp} {D : Addr} {kvs : List (Bool × V)} (w : NoWr H D kvs) (s : Same H H') : NoWr H' D kvs := by
  rcases w with ⟨w, e⟩ | w
  · exact .inl ⟨s _ _ w, e⟩
  · exact .inr (s _ _ w)
theorem shaped_two (r1 r2 : List Nat) : SeqAt.shaped (.tuple [rowD r1, rowD r2]) = true := by
  obtain ⟨h1, h2, _⟩ := depth_ints r1
  obtain ⟨h3, h4, _⟩ := depth_ints r2
  have d : PyData.depth (.tuple [rowD r1, rowD r2]) ≤ 64 := by unfold rowD; simp only [PyData.depth, PyData.depthAll]; omega
  show ((PyData.tuple [rowD r1, rowD r2]).canLay0 && decide ((PyData.tuple [rowD r1, rowD r2]).depth ≤ 64)) = true
  rw [Bool.and_eq_true]
  exact ⟨by unfold rowD; simp only [PyData.canLay0, PyData.canLayAll0, h2, h4]; rfl, decide_eq_true d⟩
/-- what was found: a row or a refusal -/
def Found (w : Nat) (xs : List V) : Prop := (∃ z, xs = [.str "side", .str z]) ∨ ∃ s, 0 < s ∧ s < 60 ^ 7 ∧ (s * s = w ∨ s * s = w * 60) ∧ xs = rowV (rowOf s)
theorem after {a d p pf : Addr} {r : List Nat} {xs : List V} (hr : SqT K H p (rowV r)) (ir : IsRow r) (hl6 : r.length ≤ 6) (hf : SqT K H pf xs) (fx : Found (whole r) xs) (q : ∀ H', Q (.bl true) H') :
    t_after K (endsOf Q) [some (.ref a), some (.ref d), some (.ref p), some (.ref pf), none, none, none, none, none, none, none, none, none, none, none, none, none, none] H := by
  unfold t_after
  walk_at "go"
  refine fun D H1 nD s1 hD => ?_
  walk_at "go"
  refine i_for (i_iTup ?_)
  walk_at "go"
  refine ⟨szl (by simp), fun pt H2 s2 ht => ?_⟩
  have hD2 : NoWr H2 D [] := .inl ⟨s2 _ _ hD, rfl⟩
  have bw := whole_lt ir.fig (k := 6) hl6
  have pw := whole_pos (row_ne ir) ir.hd
  refine l_tup (K := K) ht (fun i σ H' => ∃ (x5 x6 x7 x8 x9 x10 x11 x12 x13 x14 : Option V) (kvs : List (Bool × V)), σ = [some (.ref a), some (.ref d), some (.ref p), some (.ref pf), some (.ref D), x5, x6, x7, x8, x9, x10, x11, x12, x13, x14, none, none, none] ∧
      NoWr H' D kvs ∧ kvs.length ≤ i ∧ SqT K H' p (rowV r) ∧ SqT K H' pf xs ∧ SqT K H' pt [.bl false, .bl true] ∧
      (0 < i → ∃ z, valV kvs false = some (.ref z) ∧ SqT K H' z (rowV (nearF r false 6))) ∧ (1 < i → ∃ z, valV kvs true = some (.ref z) ∧ SqT K H' z (rowV (nearF r true 6))))
    ⟨none, none, none, none, none, none, none, none, none, none, [], rfl, hD2, by simp, Same.seqT (Same.trans s1 s2) hr, Same.seqT (Same.trans s1 s2) hf, ht, fun z => by omega, fun z => by omega⟩ ?_ ?_ ?_
  · rintro i σ H' _ ⟨_, _, _, _, _, _, _, _, _, _, _, _, _, _, _, _, h, _⟩
    exact h
  · rintro i x σ H' hx ⟨x5, x6, x7, x8, x9, x10, x11, x12, x13, x14, kvs, rfl, hD', hk, hr', hf', ht', g0, g1⟩
    obtain ⟨b, rfl, hi⟩ : ∃ b, x = .bl b ∧ i = (if b then 1 else 0) := by
      rcases i with _ | _ | i
      · exact ⟨false, (Option.some.inj hx).symm, rfl⟩
      · exact ⟨true, (Option.some.inj hx).symm, rfl⟩
      · simp at hx
    walk_at "go"
    refine i_lcR2 ?_
    walk_at "go"
    refine ⟨1, 7, rfl, by decide, by decide, fun D6 n6 => ⟨fun t H3 => Same H' H3 ∧ ∃ f : Nat → Addr, H3 D6 = some (.lst ((List.range t).map fun i => V.ref (f i))) ∧ ∀ i, i < t → SqT K H3 (f i) (rowV (nearF r b (1 + i))), ⟨same_new n6, fun _ => 0, upd_same, fun i z => by omega⟩, ?_, ?_⟩⟩
    · rintro t H3 ht3 ⟨s3, f, h6, hft⟩
      walk_at "go"
      refine i_lcg ?_
      walk_at "go"
      refine ⟨p, r, b, 1 + t, rfl, Same.seqT s3 hr', ir, by omega, fun z H4 s4 hz => ?_⟩
      have h64 := s4 _ _ h6
      refine i_lcput h64 (by simp; omega) ⟨?_, fun i => if i = t then z else f i, ?_, ?_⟩
      · intro y o hy
        rw [upd_ne (ne_of_none hy n6)]
        exact s4 _ _ (s3 _ _ hy)
      · rw [upd_same, List.range_succ, List.map_append]
        congr 2
        congr 1
        · refine List.map_congr_left fun i hi => ?_
          have := List.mem_range.mp hi
          simp only []
          rw [if_neg (by omega)]
        · simp
      · intro i hi
        have keep : ∀ {y : Addr} {zs : List V}, SqT K H4 y zs → SqT K (upd H4 D6 (.lst ((List.range t).map (fun i => V.ref (f i)) ++ [.ref z]))) y zs := fun {y zs} h => SB.seqT (SB.upd D6 H4 _) h64 h
        by_cases e : i = t
        · simp only [if_pos e]
          rw [e]
          exact keep hz
        · simp only [if_neg e]
          exact keep (Same.seqT s4 (hft i (by omega)))
    · rintro H3 ⟨s3, f, h6, hft⟩
      have h6' : ∀ i, i < 6 → ((List.range 6).map fun i => V.ref (f i))[i]? = some (.ref (f i)) := fun i hi => by
        rw [List.getElem?_map, List.getElem?_range hi]; rfl
      walk_at "go"
      refine i_for (i_iRng1 ?_)
      walk_at "go"
      refine l_rng1 (n := 6) (by decide) (fun k σ H4 => ∃ x7 : Option V, σ = [some (.ref a), some (.ref d), some (.ref p), some (.ref pf), some (.ref D), some (.bl b), some (.ref D6), x7, x8, x9, x10, x11, x12, x13, x14, none, none, none] ∧ Same H3 H4) ⟨x7, rfl, Same.refl _⟩ ?_ ?_
      · rintro k σ H4 hk6 ⟨y7, rfl, s4⟩
        walk_at "go"
        have h64 := s4 _ _ h6
        have hfk := Same.seqT s4 (hft k hk6)
        have hf5 := Same.seqT s4 (hft 5 (by decide))
        have hF := nearF_len (b := b) (p := 1 + k) ir
        refine i_ixL (sql h64) (h6' k hk6) ?_
        walk_at "go"
        refine i_lenT hfk ?_
        rw [rowV_len, hF]
        walk_at "go"
        refine i_ixL (sql h64) (h6' k hk6) ?_
        walk_at "go"
        refine i_ixL (sql h64) (a := 5) (h6' 5 (by decide)) ?_
        walk_at "go"
        refine i_slT hf5 fun p5 H5 s5 h5 => ?_
        rw [cutV_to, rowV_take, show k + 1 = 1 + k by omega, ← nearF_take ir (by omega : 1 + k ≤ 1 + 5)] at h5
        refine i_neR (Same.seqT s5 hfk) h5 ?_
        walk_at "go"
        have h65 := s5 _ _ h64
        have hfk5 := Same.seqT s5 hfk
        refine i_ixL (sql h65) (h6' k hk6) ?_
        have hhd := nearF_hd (b := b) (p := 1 + k) ir (by omega)
        obtain ⟨x, hx0⟩ : ∃ x, (nearF r b (1 + k))[0]? = some x := ⟨_, List.getElem?_eq_getElem (by omega)⟩
        have hxn : x ≠ 0 := fun e => hhd (by rw [hx0, e])
        walk_at "go"
        refine i_ixT hfk5 (rowV_get hx0) ?_
        walk_at "go"
        refine i_ixL (sql h65) (h6' k hk6) ?_
        refine ⟨f k, _, rfl, hfk5, fun D7 n7 => ⟨fun t H6 => H6 D7 = some (.lst []) ∧ Same H5 H6, ⟨upd_same, same_new n7⟩, ?_, ?_, ?_⟩⟩
        · rintro t H6 _ ⟨_, s6⟩
          exact Same.seqT s6 hfk5
        · rintro t y H6 hy ⟨h7, s6⟩
          obtain ⟨c, hc, rfl⟩ := rowV_of hy
          have hc60 := nearF_lt (r := r) (b := b) (p := 1 + k) c (List.mem_of_getElem? hc)
          walk_at "go"
          refine i_lcg ?_
          walk_at "go"
          exact ⟨h7, s6⟩
        · rintro H6 ⟨h7, s6⟩
          walk_at "go"
          refine ⟨szl (by simp), fun pe H8 npe s8 hpe => ?_⟩
          refine i_neNil (s8 _ _ h7) hpe ?_
          walk_at "go"
          exact ⟨_, rfl, Same.trans s4 (Same.trans s5 (Same.trans s6 s8))⟩
      · rintro σ H4 ⟨y7, rfl, s4⟩
        walk_at "go"
        refine i_putB ?_
        walk_at "go"
        have h64 := s4 _ _ h6
        have h5 := Same.seqT s4 (hft 5 (by decide))
        have s34 := Same.trans s3 s4
        have hr4 := Same.seqT s34 hr'
        refine i_ixL (sql h64) (a := 5) (h6' 5 (by decide)) ?_
        walk_at "go"
        have w4 := nowr_same hD' s34
        refine ⟨D, b, kvs, rfl, rfl, w4, by have : i ≤ 1 := by (rw [hi]; cases b <;> decide)
                                            omega, ?_⟩
        walk_at "go"
        refine i_par ?_
        have h65 : (upd H4 D (BD D (putK kvs b (.ref (f 5))))) D6 = some (.lst ((List.range (7 - 1)).map fun i => V.ref (f i))) := by
          rw [upd_ne (fun z => ?_)]
          · exact h64
          · subst z
            rcases w4 with ⟨w, _⟩ | w <;> rw [h64] at w <;> cases w
        have h55 := put_seqT (o := BD D (putK kvs b (.ref (f 5)))) w4 h5
        have hr5 := put_seqT (o := BD D (putK kvs b (.ref (f 5)))) w4 hr4
        walk_at "go"
        refine i_ixL (sql h65) (a := 5) (h6' 5 (by decide)) ?_
        have hF := nearF_len (b := b) (p := 1 + 5) ir
        refine ⟨f 5, _, rfl, h55, by omega, ?_⟩
        walk_at "go"
        refine ⟨p, r, rfl, hr5, by omega, ?_⟩
        walk_at "go"
        refine i_ifC ?_
        have b60 : (if b then 60 else 1) < 2 ^ 6 := by cases b <;> decide
        refine i_mulWN (m := 36) (n := 6) (Nat.lt_trans bw (by decide)) b60 (by decide) (by decide) (by decide) ?_
        walk_at "go"
        refine i_ex2 ?_
        walk_at "go"
        refine ⟨szl (by simp), fun pz Hz sz hz => ?_⟩
        refine ⟨pz, _, rfl, hz, rfl, ?_⟩
        refine ⟨_, _, rfl, ?_⟩
        walk_at "s"
        refine ⟨_, _, rfl, ?_⟩
        walk_at "go"
        refine ⟨rfl, ?_⟩
        walk_at "go"
        have hN : Near (whole r * (if b then 60 else 1)) (whole (nearF r b (1 + 5))) := nearF_near ir (by decide) (by decide)
        have hF0 : 0 < whole (nearF r b (1 + 5)) := whole_pos (fun e => by rw [e] at hF; simp at hF) (nearF_hd ir (by decide))
        have hF6 : whole (nearF r b (1 + 5)) < 60 ^ 6 := whole_lt nearF_lt (by omega)
        have hn42 : whole r * (if b then 60 else 1) < 2 ^ 42 := by
          calc whole r * (if b then 60 else 1) < 2 ^ 36 * 2 ^ 6 := Nat.mul_lt_mul'' (Nat.lt_trans bw (by decide)) b60
            _ = 2 ^ 42 := by decide
        have hz5 : valV (putK kvs b (.ref (f 5))) b = some (.ref (f 5)) := by rw [valV_put, if_pos rfl]
        have hkeep : ∀ c, c ≠ b → valV (putK kvs b (.ref (f 5))) c = valV kvs c := fun c e => by rw [valV_put, if_neg e]
        have hlen := length_putK kvs b (.ref (f 5))
        have hf5' := put_seqT (o := BD D (putK kvs b (.ref (f 5)))) w4 (Same.seqT s34 hf')
        have ht5' := put_seqT (o := BD D (putK kvs b (.ref (f 5)))) w4 (Same.seqT s34 ht')
        have g05 : b = true → ∃ z, valV (putK kvs b (.ref (f 5))) false = some (.ref z) ∧ SqT K (upd H4 D (BD D (putK kvs b (.ref (f 5))))) z (rowV (nearF r false 6)) := fun e => by
          subst e
          obtain ⟨z, e1, e2⟩ := g0 (by rw [hi]; decide)
          exact ⟨z, by rw [hkeep _ (by decide)]; exact e1, put_seqT w4 (Same.seqT s34 e2)⟩
        have hBD : NoWr (upd H4 D (BD D (putK kvs b (.ref (f 5))))) D (putK kvs b (.ref (f 5))) := .inr upd_same
        generalize upd H4 D (BD D (putK kvs b (.ref (f 5)))) = H5 at *
        generalize putK kvs b (.ref (f 5)) = kv2 at *
        generalize hnn : whole r * (if b then 60 else 1) = n at *
        generalize hff : whole (nearF r b (1 + 5)) = ff at *
        refine i_for (i_iRng1 ?_)
        walk_at "go"
        refine l_rng1 (n := 14) (by decide) (fun t σ H6 => ∃ (y12 y13 y14 : Option V) (w c h : Nat), σ = [some (.ref a), some (.ref d), some (.ref p), some (.ref pf), some (.ref D), some (.bl b), some (.ref D6), y7, some (natV ff), some (natV w), some (natV c), some (natV h), y12, y13, y14, none, none, none] ∧ Hit n ff t w c h ∧ Same H5 H6)
          ⟨x12, x13, x14, n, 1, 0, rfl, Hit.start hN, sz⟩ ?_ ?_
        · rintro t σ H6 ht14 ⟨y12, y13, y14, w, c, h, rfl, hit, s6⟩
          have c166 : c < 2 ^ 166 := by
            have h1 : 3600 ^ t ≤ 3600 ^ 14 := Nat.pow_le_pow_right (by decide) (by omega)
            exact Nat.lt_of_le_of_lt (Nat.le_trans hit.cl h1) (by decide)
          have f36 : ff < 2 ^ 36 := Nat.lt_trans hF6 (by decide)
          have ff72 : ff * ff < 2 ^ 72 := Nat.lt_of_lt_of_le (Nat.mul_lt_mul'' f36 f36) (by decide)
          have fg74 : (ff + 1) * (ff + 1) < 2 ^ 74 := Nat.lt_of_lt_of_le (Nat.mul_lt_mul'' (show ff + 1 < 2 ^ 37 by omega) (show ff + 1 < 2 ^ 37 by omega)) (by decide)
          walk_at "go"
          refine i_par ?_
          walk_at "go"
          refine i_mulWN (m := 36) (n := 36) f36 f36 (by decide) (by decide) (by decide) ?_
          walk_at "go"
          refine i_mulWN (m := 72) (n := 166) ff72 c166 (by decide) (by decide) (by decide) ?_
          walk_at "go"
          refine i_mulWN (m := 37) (n := 37) (by omega) (by omega) (by decide) (by decide) (by decide) ?_
          walk_at "go"
          refine i_mulWN (m := 74) (n := 166) fg74 c166 (by decide) (by decide) (by decide) ?_
          walk_at "go"
          refine i_ex2 ?_
          walk_at "go"
          have st := hit.step hF0
          have done : ∀ (lo hi w' c' h' : Nat) (H7 : Hp), Same H6 H7 → Hit n ff (t + 1) w' c' h' → ∃ (y12 y13 y14 : Option V) (w c h : Nat), [some (V.ref a), some (.ref d), some (.ref p), some (.ref pf), some (.ref D), some (.bl b), some (.ref D6), y7, some (natV ff), some (natV w'), some (natV c'), some (natV h'), some (natV t), some (natV lo), some (natV hi), none, none, none] = [some (.ref a), some (.ref d), some (.ref p), some (.ref pf), some (.ref D), some (.bl b), some (.ref D6), y7, some (natV ff), some (natV w), some (natV c), some (natV h), y12, y13, y14, none, none, none] ∧ Hit n ff (t + 1) w c h ∧ Same H5 H7 :=
            fun lo hi w' c' h' H7 s7 st => ⟨_, _, _, _, _, _, rfl, st, Same.trans s6 s7⟩
          by_cases hlo : ff * ff * c ≤ w
          · refine i_yes hlo ?_
            walk_at "go"
            rw [if_neg (by omega), if_neg (by omega)] at st
            by_cases hhi : w < (ff + 1) * (ff + 1) * c
            · rw [if_pos ⟨hlo, hhi⟩] at st
              rw [decide_eq_true hhi]
              walk_at "go"
              refine ⟨szl (by simp), fun p7 H7 s7 h7 => ?_⟩
              refine ⟨p7, _, rfl, h7, rfl, ?_⟩
              refine ⟨_, _, rfl, ?_⟩
              walk_at "s"
              refine ⟨_, _, rfl, ?_⟩
              walk_at "go"
              refine ⟨rfl, ?_⟩
              exact done _ _ _ _ _ H7 s7 st
            · rw [if_neg (fun z => hhi z.2)] at st
              rw [decide_eq_false hhi]
              walk_at "go"
              refine ⟨szl (by simp), fun p7 H7 s7 h7 => ?_⟩
              refine ⟨p7, _, rfl, h7, rfl, ?_⟩
              refine ⟨_, _, rfl, ?_⟩
              walk_at "s"
              refine ⟨_, _, rfl, ?_⟩
              walk_at "go"
              refine ⟨rfl, ?_⟩
              exact done _ _ _ _ _ H7 s7 st
          · refine i_nay hlo ?_
            walk_at "go"
            rw [if_pos (by omega), if_pos (by omega), if_neg (fun z => hlo z.1)] at st
            refine ⟨szl (by simp), fun p7 H7 s7 h7 => ?_⟩
            refine ⟨p7, _, rfl, h7, rfl, ?_⟩
            refine ⟨_, _, rfl, ?_⟩
            walk_at "s"
            refine ⟨_, _, rfl, ?_⟩
            walk_at "go"
            refine ⟨rfl, ?_⟩
            exact done _ _ _ _ _ H7 s7 st
        · rintro σ H6 ⟨y12, y13, y14, w, c, h, rfl, hit, s6⟩
          have hne := hit.fin
          walk_at "go"
          refine ⟨_, _, _, _, _, _, _, _, _, _, kv2, rfl, nowr_same hBD s6, ?_, Same.seqT s6 hr5, Same.seqT s6 hf5', Same.seqT s6 ht5', fun _ => ?_, fun z => ?_⟩
          · omega
          · cases b with
            | false => exact ⟨f 5, hz5, Same.seqT s6 h55⟩
            | true =>
              obtain ⟨z, e1, e2⟩ := g05 rfl
              exact ⟨z, e1, Same.seqT s6 e2⟩
          · cases b with
            | false => simp at hi; omega
            | true => exact ⟨f 5, hz5, Same.seqT s6 h55⟩
  · rintro σ H' ⟨x5, x6, x7, x8, x9, x10, x11, x12, x13, x14, kvs, rfl, hD', hk, hr', hf', ht', g0, g1⟩
    obtain ⟨z0, e0, h0⟩ := g0 (by decide)
    obtain ⟨z1, e1, h1⟩ := g1 (by decide)
    have hB : H' D = some (BD D kvs) := by
      rcases hD' with ⟨_, w⟩ | w
      · rw [w] at e0; cases e0
      · exact w
    walk_at "go"
    rcases fx with ⟨z, rfl⟩ | ⟨s, sp, s7, ss, rfl⟩
    · refine i_ixT (a := 0) hf' rfl ?_
      walk_at "go"
      refine i_isi (.base (.str _)) (b := true) (by decide +kernel) ?_
      walk_at "go"
      exact q _
    · obtain ⟨t0, _, _⟩ := strip_spec s sp
      have l1 := figs_len1 t0
      have l7 : (rowOf s).length ≤ 7 := figs_len (Nat.lt_of_le_of_lt (strip_le sp) s7)
      obtain ⟨x, hx⟩ : ∃ x, (rowOf s)[0]? = some x := ⟨_, List.getElem?_eq_getElem (show 0 < (rowOf s).length from l1)⟩
      refine i_ixT hf' (rowV_get hx) ?_
      walk_at "go"
      refine i_isi (.base (.int _)) (b := false) (by decide +kernel) ?_
      walk_at "go"
      refine ⟨szl (by simp), fun q1 K1 s1 k1 => ?_⟩
      walk_at "go"
      refine ⟨q1, 6, _, rfl, rfl, k1, by simp, by decide, by decide, by simp, fun q2 K2 s2 k2 => ?_⟩
      have k2' : SqT K K2 q2 (rowV (List.replicate 6 0)) := k2
      have s12 := Same.trans s1 s2
      refine i_cat (Same.seqT s12 hf') k2' (by rw [rowV_len, rowV_len, List.length_replicate]; omega) fun q3 K3 s3 k3 => ?_
      walk_at "go"
      have ea : rowV (rowOf s) ++ rowV (List.replicate 6 0) = rowV (rowOf s ++ List.replicate 6 0) := by unfold rowV; rw [List.map_append]
      rw [ea] at k3
      refine i_slT k3 fun q4 K4 s4 k4 => ?_
      obtain ⟨b, eb⟩ : ∃ b : Bool, s * s = whole r * (if b then 60 else 1) := by
        rcases ss with e | e
        · exact ⟨false, by rw [e]; simp⟩
        · exact ⟨true, by rw [e]; simp⟩
      have k4' : SqT K K4 q4 (rowV (nearF r b 6)) := by
        have := k4
        rw [cutV_to, rowV_take, near_side_eq sp eb] at this
        exact this
      have s14 := Same.trans s12 (Same.trans s3 s4)
      walk_at "go"
      refine i_getB ?_
      walk_at "go"
      refine ⟨D, false, kvs, _, rfl, rfl, s14 _ _ hB, e0, ?_⟩
      walk_at "go"
      refine i_getB ?_
      walk_at "go"
      refine ⟨D, true, kvs, _, rfl, rfl, s14 _ _ hB, e1, ?_⟩
      walk_at "go"
      refine ⟨szl (by simp), fun q5 K5 s5 k5 => ?_⟩
      have s15 := Same.trans s14 s5
      refine ⟨rowD (nearF r b 6), [rowD (nearF r false 6), rowD (nearF r true 6)], dp_row (Same.seqT s5 k4'), .tup k5 (.cons (dp_row (Same.seqT s15 h0)) (.cons (dp_row (Same.seqT s15 h1)) .nil)), shaped_row _, shaped_two _ _, ?_⟩
      have any : ([rowD (nearF r false 6), rowD (nearF r true 6)].any fun z => PyData.eqv z (rowD (nearF r b 6))) = true := by
        cases b
        · simp [eqv_row]
        · simp [eqv_row]
      rw [any]
      exact q _
theorem tail {a d p cP : Addr} {r : List Nat} (hr : SqT K H p (rowV r)) (ir : IsRow r) (hl6 : r.length ≤ 6) (hP : H cP = some (.tbl #[])) (q : ∀ H', Q (.bl true) H') :
    t_tail K er cP (endsOf Q) [some (.ref a), some (.ref d), some (.ref p), none, none, none, none, none, none, none, none, none, none, none, none, none, none, none] H := by
  unfold t_tail
  walk_at "s"
  walk_at "s"
  refine ⟨fun y hy => ?_, fun H1 x1 _ => ?_⟩
  · rw [List.mem_singleton.mp hy]
    exact LamX.TabS.nil hP
  · have hr1 := extN_seqT x1 hr
    unfold LamX.TTword tCallS
    refine i_cons ?_
    walk_at "go"
    refine ⟨p, r, rfl, hr1, ir, fun z hz d6 H6 s6 hd6 => ?_, fun hn s p6 H6 s0 s7 hss s6 hp6 => ?_⟩
    · refine .inl ⟨rfl, d6, .str z, rfl, upd_same, fun p7 H7 s7 hp7 => ?_⟩
      walk_at "s"
      have s67 : Same H1 H7 := fun b o hb => s7 _ _ (by rw [upd_ne (ne_of_none (s6 _ _ hb) hd6)]; exact s6 _ _ hb)
      exact after (Same.seqT s67 hr1) ir hl6 hp7 (.inl ⟨z, rfl⟩) q
    · walk_at "s"
      exact after (Same.seqT s6 hr1) ir hl6 hp6 (.inr ⟨s, s0, s7, hss, rfl⟩) q
theorem pure_law {vs : List V} {E : XK} {cP : Addr} (h : sp_law K cP vs H Q E) : t_law K er cP (endsOf Q) (start ["_law_script", "_law_d", "_law_row_here", "_law_found", "_law_rows", "_law_is_odd", "_law_told", "_law_k", "_law_near", "_law_whole", "_law_scale", "_law_hits", "_law_turn", "_law_low", "_law_high", "_law_due", "_law_places", "_law_figure"] vs) H := by
  obtain ⟨a, ns, rfl, hs, hl, hP, q⟩ := h
  show t_law K er cP (endsOf Q) [some (.ref a), none, none, none, none, none, none, none, none, none, none, none, none, none, none, none, none, none] H
  unfold t_law
  walk_at "go"
  refine ⟨a, ns, rfl, hs, hl, fun d H1 nd s1 hd => ?_⟩
  have dP : cP ≠ d := fun z => by rw [z, nd] at hP; cases hP
  walk_at "go"
  refine ⟨d, 3, rfl, hd, by decide, by decide, fun p1 r H2 ir l1 d2 h1 => ?_⟩
  walk_at "go"
  refine i_draw (hd.drew d2) (q := fun pl H3 hpl d3 => ?_)
  walk_at "go"
  have d13 := d2.trans d3
  have h3 := (hd.drew d2).row d3 h1
  have hP3 := d13.1 cP _ dP (s1 _ _ hP)
  by_cases e : pl = 0
  · refine i_yes e ?_
    walk_at "go"
    refine ⟨p1, r, rfl, h3, ir, fun p4 H4 s4 h4 => ?_⟩
    walk_at "s"
    have w3 := whole_lt ir.fig (k := 3) l1
    have pw := whole_pos (row_ne ir) ir.hd
    have ww : whole r * whole r < 60 ^ 6 := Nat.lt_of_lt_of_le (Nat.mul_lt_mul'' w3 w3) (by decide)
    have pp := Nat.mul_pos pw pw
    exact tail h4 (isRow_small pp (Nat.lt_trans ww (by decide))) (figs_len (Nat.lt_of_le_of_lt (strip_le pp) ww)) (s4 _ _ hP3) q
  · refine i_nay e ?_
    walk_at "s"
    walk_at "s"
    exact tail h3 ir (by omega) hP3 q
end
end Sx
namespace Sx
open PySem L2 RT
def top (i : Nat) : Stmt := PySem.Challenge.pw_sixtyfold_k33_whole_near_sides_figure_by.main.body.getD i (.Pass ⟨0, 0, 0, 0⟩)
abbrev s__law_dice : Stmt := top 21
theorem sc__law_dice : FnScope ["_law_script", "_law_mixed", "_law_cell"] ["_law_script"] (defScope s__law_dice) := ⟨rfl, rfl, rfl, by decide +kernel, rfl, by decide +kernel, by decide +kernel⟩
abbrev s__law_next : Stmt := top 22
theorem sc__law_next : FnScope ["_law_dice_here", "_law_many", "_law_found", "_law_cell"] ["_law_dice_here", "_law_many"] (defScope s__law_next) := ⟨rfl, rfl, rfl, by decide +kernel, rfl, by decide +kernel, by decide +kernel⟩
abbrev s__law_row : Stmt := top 24
theorem sc__law_row : FnScope ["_law_number", "_law_figures"] ["_law_number"] (defScope s__law_row) := ⟨rfl, rfl, rfl, by decide +kernel, rfl, by decide +kernel, by decide +kernel⟩
abbrev s__law_smooth : Stmt := top 25
theorem sc__law_smooth : FnScope ["_law_d", "_law_found", "_law_prime", "_law_k"] ["_law_d"] (defScope s__law_smooth) := ⟨rfl, rfl, rfl, by decide +kernel, rfl, by decide +kernel, by decide +kernel⟩
abbrev s__law_drawn : Stmt := top 26
theorem sc__law_drawn : FnScope ["_law_d", "_law_most", "_law_kind", "_law_found", "_law_figures", "_law_k"] ["_law_d", "_law_most"] (defScope s__law_drawn) := ⟨rfl, rfl, rfl, by decide +kernel, rfl, by decide +kernel, by decide +kernel⟩
abbrev s__law_short : Stmt := top 27
theorem sc__law_short : FnScope ["_law_d", "_law_most", "_law_row_here"] ["_law_d", "_law_most"] (defScope s__law_short) := ⟨rfl, rfl, rfl, by decide +kernel, rfl, by decide +kernel, by decide +kernel⟩
abbrev s__law_whole_of : Stmt := top 23
theorem sc__law_whole_of : FnScope ["_law_row_here", "_law_found", "_law_k"] ["_law_row_here"] (defScope s__law_whole_of) := ⟨rfl, rfl, rfl, by decide +kernel, rfl, by decide +kernel, by decide +kernel⟩
abbrev s__law_word : Stmt := top 28
theorem sc__law_word : FnScope ["_law_work", "e"] ["_law_work"] (defScope s__law_word) := ⟨rfl, rfl, rfl, by decide +kernel, rfl, by decide +kernel, by decide +kernel⟩
abbrev s_figures_of : Stmt := top 11
theorem sc_figures_of : FnScope ["number", "figures"] ["number"] (defScope s_figures_of) := ⟨rfl, rfl, rfl, by decide +kernel, rfl, by decide +kernel, by decide +kernel⟩
abbrev s_check_row : Stmt := top 9
theorem sc_check_row : FnScope ["row"] ["row"] (defScope s_check_row) := ⟨rfl, rfl, rfl, by decide +kernel, rfl, by decide +kernel, by decide +kernel⟩
abbrev s_whole_of : Stmt := top 10
theorem sc_whole_of : FnScope ["row", "number", "figure"] ["row"] (defScope s_whole_of) := ⟨rfl, rfl, rfl, by decide +kernel, rfl, by decide +kernel, by decide +kernel⟩
abbrev s_near_side : Stmt := top 19
theorem sc_near_side : FnScope ["row", "is_odd", "places", "number", "_"] ["row", "is_odd", "places"] (defScope s_near_side) := ⟨rfl, rfl, rfl, by decide +kernel, rfl, by decide +kernel, by decide +kernel⟩
abbrev s_factors : Stmt := top 15
theorem sc_factors : FnScope ["row", "left", "counts", "prime", "often"] ["row"] (defScope s_factors) := ⟨rfl, rfl, rfl, by decide +kernel, rfl, by decide +kernel, by decide +kernel⟩
abbrev s_row_of : Stmt := top 12
theorem sc_row_of : FnScope ["number"] ["number"] (defScope s_row_of) := ⟨rfl, rfl, rfl, by decide +kernel, rfl, by decide +kernel, by decide +kernel⟩
abbrev s_side : Stmt := top 18
theorem sc_side : FnScope ["row", "twos", "threes", "fives", "left", "number"] ["row"] (defScope s_side) := ⟨rfl, rfl, rfl, by decide +kernel, rfl, by decide +kernel, by decide +kernel⟩
abbrev s_times : Stmt := top 8
theorem sc_times : FnScope ["one", "other"] ["one", "other"] (defScope s_times) := ⟨rfl, rfl, rfl, by decide +kernel, rfl, by decide +kernel, by decide +kernel⟩
abbrev s_squared : Stmt := top 17
theorem sc_squared : FnScope ["row"] ["row"] (defScope s_squared) := ⟨rfl, rfl, rfl, by decide +kernel, rfl, by decide +kernel, by decide +kernel⟩
abbrev s_law : Stmt := top 29
theorem sc_law : FnScope ["_law_script", "_law_d", "_law_row_here", "_law_found", "_law_rows", "_law_is_odd", "_law_told", "_law_k", "_law_near", "_law_whole", "_law_scale", "_law_hits", "_law_turn", "_law_low", "_law_high", "_law_due", "_law_places", "_law_figure"] ["_law_script"] (defScope s_law) := ⟨rfl, rfl, rfl, by decide +kernel, rfl, by decide +kernel, by decide +kernel⟩
structure Tx (P : Program) (w : World) (K : PySem.W.Frag) (mg : Str → Option Value) where
  e : Er
  e_NoSide : OwnC P w K mg "NoSide" "why" e.side
  e_NotTurned : OwnC P w K mg "NotTurned" "left" e.turned
  a__law_dice : Addr
  d__law_dice : FuncData
  F__law_dice : Fun K "_law_dice" "_law_dice" s__law_dice a__law_dice d__law_dice
  g__law_dice : mg "_law_dice" = some (.ref a__law_dice)
  b__law_dice : Binds K d__law_dice ["_law_script"] []
  a__law_next : Addr
  d__law_next : FuncData
  F__law_next : Fun K "_law_next" "_law_next" s__law_next a__law_next d__law_next
  g__law_next : mg "_law_next" = some (.ref a__law_next)
  b__law_next : Binds K d__law_next ["_law_dice_here", "_law_many"] []
  a__law_row : Addr
  d__law_row : FuncData
  F__law_row : Fun K "_law_row" "_law_row" s__law_row a__law_row d__law_row
  g__law_row : mg "_law_row" = some (.ref a__law_row)
  b__law_row : Binds K d__law_row ["_law_number"] []
  a__law_smooth : Addr
  d__law_smooth : FuncData
  F__law_smooth : Fun K "_law_smooth" "_law_smooth" s__law_smooth a__law_smooth d__law_smooth
  g__law_smooth : mg "_law_smooth" = some (.ref a__law_smooth)
  b__law_smooth : Binds K d__law_smooth ["_law_d"] []
  a__law_drawn : Addr
  d__law_drawn : FuncData
  F__law_drawn : Fun K "_law_drawn" "_law_drawn" s__law_drawn a__law_drawn d__law_drawn
  g__law_drawn : mg "_law_drawn" = some (.ref a__law_drawn)
  b__law_drawn : Binds K d__law_drawn ["_law_d", "_law_most"] []
  a__law_short : Addr
  d__law_short : FuncData
  F__law_short : Fun K "_law_short" "_law_short" s__law_short a__law_short d__law_short
  g__law_short : mg "_law_short" = some (.ref a__law_short)
  b__law_short : Binds K d__law_short ["_law_d", "_law_most"] []
  a__law_whole_of : Addr
  d__law_whole_of : FuncData
  F__law_whole_of : Fun K "_law_whole_of" "_law_whole_of" s__law_whole_of a__law_whole_of d__law_whole_of
  g__law_whole_of : mg "_law_whole_of" = some (.ref a__law_whole_of)
  b__law_whole_of : Binds K d__law_whole_of ["_law_row_here"] []
  a__law_word : Addr
  d__law_word : FuncData
  F__law_word : Fun K "_law_word" "_law_word" s__law_word a__law_word d__law_word
  g__law_word : mg "_law_word" = some (.ref a__law_word)
  b__law_word : Binds K d__law_word ["_law_work"] []
  a_figures_of : Addr
  d_figures_of : FuncData
  F_figures_of : Fun K "figures_of" "figures_of" s_figures_of a_figures_of d_figures_of
  g_figures_of : mg "figures_of" = some (.ref a_figures_of)
  b_figures_of : Binds K d_figures_of ["number"] []
  a_check_row : Addr
  d_check_row : FuncData
  F_check_row : Fun K "check_row" "check_row" s_check_row a_check_row d_check_row
  g_check_row : mg "check_row" = some (.ref a_check_row)
  b_check_row : Binds K d_check_row ["row"] []
  a_whole_of : Addr
  d_whole_of : FuncData
  F_whole_of : Fun K "whole_of" "whole_of" s_whole_of a_whole_of d_whole_of
  g_whole_of : mg "whole_of" = some (.ref a_whole_of)
  b_whole_of : Binds K d_whole_of ["row"] []
  a_near_side : Addr
  d_near_side : FuncData
  F_near_side : Fun K "near_side" "near_side" s_near_side a_near_side d_near_side
  g_near_side : mg "near_side" = some (.ref a_near_side)
  b_near_side : Binds K d_near_side ["row", "is_odd", "places"] []
  a_factors : Addr
  d_factors : FuncData
  F_factors : Fun K "factors" "factors" s_factors a_factors d_factors
  g_factors : mg "factors" = some (.ref a_factors)
  b_factors : Binds K d_factors ["row"] []
  a_row_of : Addr
  d_row_of : FuncData
  F_row_of : Fun K "row_of" "row_of" s_row_of a_row_of d_row_of
  g_row_of : mg "row_of" = some (.ref a_row_of)
  b_row_of : Binds K d_row_of ["number"] []
  a_side : Addr
  d_side : FuncData
  F_side : Fun K "side" "side" s_side a_side d_side
  g_side : mg "side" = some (.ref a_side)
  b_side : Binds K d_side ["row"] []
  a_times : Addr
  d_times : FuncData
  F_times : Fun K "times" "times" s_times a_times d_times
  g_times : mg "times" = some (.ref a_times)
  b_times : Binds K d_times ["one", "other"] []
  a_squared : Addr
  d_squared : FuncData
  F_squared : Fun K "squared" "squared" s_squared a_squared d_squared
  g_squared : mg "squared" = some (.ref a_squared)
  b_squared : Binds K d_squared ["row"] []
  a_law : Addr
  d_law : FuncData
  F_law : Fun K "law" "law" s_law a_law d_law
  g_law : mg "law" = some (.ref a_law)
  b_law : Binds K d_law ["_law_script"] []
  wk : LamX.WordK K mg e.side e.turned e.bad
  z_int : mg "int" = none
  z_isinstance : mg "isinstance" = none
  z_len : mg "len" = none
  z_max : mg "max" = none
  z_min : mg "min" = none
  z_range : mg "range" = none
  z_reversed : mg "reversed" = none
  z_str : mg "str" = none
  z_tuple : mg "tuple" = none
  c_MOST_FIGURES : ∃ t, mg "MOST_FIGURES" = some (.int 12 t)
  c_PRIMES : ∃ a, mg "PRIMES" = some (.ref a) ∧ ∀ H, SqT K H a (rowV [2, 3, 5])
  m_isqrt : mg "isqrt" = some (.builtin "math.isqrt")
section
variable {P : Program} {w : World} {K : PySem.W.Frag} {mg : Str → Option Value} {base : Heap}
theorem len__law_dice {vs : List V} {H : Hp} {Q : VK} {E : XK} (h : sp__law_dice K vs H Q E) : vs.length = 1 := by
  unfold sp__law_dice at h; first | (obtain ⟨_, rfl, _⟩ := h; rfl) | (obtain ⟨_, _, rfl, _⟩ := h; rfl) | (obtain ⟨_, _, _, rfl, _⟩ := h; rfl) | (obtain ⟨_, _, _, _, rfl, _⟩ := h; rfl) | (obtain ⟨_, _, _, _, _, rfl, _⟩ := h; rfl) | (obtain ⟨_, _, _, _, _, _, rfl, _⟩ := h; rfl)
theorem ok__law_dice (T : Tx P w K mg) : FnOk P w K mg base CX0 1 T.a__law_dice T.d__law_dice ["_law_script"] (sp__law_dice K) := by
  refine T.F__law_dice.ok sc__law_dice (fun vs H Q E h => len__law_dice h) (fun cdv A outer s H vs Q E hr h => ⟨t__law_dice K, ?_, pure__law_dice h⟩)
  exact (pss_cons (ps_set (i := 1) sc__law_dice.nd rfl (Or.inl rfl) pe_int)
  (pss_cons (ps_for PassesOwn.never rfl (pi_list (pv 0)) (pg_name (i := 2) sc__law_dice.nd rfl (Or.inl rfl))
  (pss_one (ps_set (i := 1) sc__law_dice.nd rfl (Or.inl rfl) (pe_op op_mod (pe_op op_add (pe_op op_add (pe_op op_mul (pv 1) pe_int) (pe_op op_mul (pe_op op_mod (pv 2) pe_int) pe_int)) pe_int) pe_int))))
  (pss_one (ps_ret (pe_lstN (pa_cons (pv 0) (pa_cons pe_int (pa_cons (pe_op op_mulW (pv 1) (pe_callTy call_int1 rfl T.z_int (by decide +kernel) (pa_cons (pe_cmpR op_gt (pe_callB call_len_seq rfl T.z_len (by decide +kernel) (pa_cons (pv 0) pa_nil)) pe_int (nomark _)) pa_nil))) (pa_cons pe_int pa_nil)))))))))
theorem len__law_next {vs : List V} {H : Hp} {Q : VK} {E : XK} (h : sp__law_next K vs H Q E) : vs.length = 2 := by
  unfold sp__law_next at h; first | (obtain ⟨_, rfl, _⟩ := h; rfl) | (obtain ⟨_, _, rfl, _⟩ := h; rfl) | (obtain ⟨_, _, _, rfl, _⟩ := h; rfl) | (obtain ⟨_, _, _, _, rfl, _⟩ := h; rfl) | (obtain ⟨_, _, _, _, _, rfl, _⟩ := h; rfl) | (obtain ⟨_, _, _, _, _, _, rfl, _⟩ := h; rfl)
theorem ok__law_next (T : Tx P w K mg) : FnOk P w K mg base CX0 1 T.a__law_next T.d__law_next ["_law_dice_here", "_law_many"] (sp__law_next K) := by
  refine T.F__law_next.ok sc__law_next (fun vs H Q E h => len__law_next h) (fun cdv A outer s H vs Q E hr h => ⟨t__law_next K, ?_, pure__law_next h⟩)
  exact (pss_cons (ps_if (pt_cmpR op_gt (pe_ix ix_list (pv 0) pe_int (fun _ _ => rfl)) pe_int (nomark _)) (pss_cons (ps_set (i := 2) sc__law_next.nd rfl (Or.inl rfl) (pe_op op_mod (pe_ix ix_list (pv 0) pe_int (fun _ _ => rfl)) (pv 1)))
  (pss_cons (ps_asg (pe_op op_fdiv (pe_ix ix_list (pv 0) pe_int (fun _ _ => rfl)) (pv 1)) (pg_sub (pv 0) pe_int set_list))
  (pss_one (ps_ret (pv 2))))) pss_nil)
  (pss_cons (ps_asg (pe_op op_add (pe_ix ix_list (pv 0) pe_int (fun _ _ => rfl)) pe_int) (pg_sub (pv 0) pe_int set_list))
  (pss_cons (ps_if (pt_cmpR op_le (pe_ix ix_list (pv 0) pe_int (fun _ _ => rfl)) (pe_callB call_len_seq rfl T.z_len (by decide +kernel) (pa_cons (pe_ix ix_list (pv 0) pe_int (fun _ _ => rfl)) pa_nil)) (nomark _)) (pss_cons (ps_set (i := 3) sc__law_next.nd rfl (Or.inl rfl) (pe_ix ix_list (pe_ix ix_list (pv 0) pe_int (fun _ _ => rfl)) (pe_op op_sub (pe_ix ix_list (pv 0) pe_int (fun _ _ => rfl)) pe_int) (fun _ _ => rfl)))
  (pss_cons (ps_asg (pe_ifExp (pt_cmpR op_ge (pv 3) (pe_op op_pow pe_int pe_int) (nomark _)) (pe_op op_fdiv (pv 3) (pv 1)) pe_int) (pg_sub (pv 0) pe_int set_list))
  (pss_one (ps_ret (pe_op op_mod (pv 3) (pv 1)))))) pss_nil)
  (pss_cons (ps_asg (pe_op op_mod (pe_op op_mul (pe_ix ix_list (pv 0) pe_int (fun _ _ => rfl)) pe_int) pe_int) (pg_sub (pv 0) pe_int set_list))
  (pss_one (ps_ret (pe_op op_mod (pe_op op_fdiv (pe_ix ix_list (pv 0) pe_int (fun _ _ => rfl)) pe_int) (pv 1))))))))
theorem len__law_row {vs : List V} {H : Hp} {Q : VK} {E : XK} (h : sp__law_row K vs H Q E) : vs.length = 1 := by
  unfold sp__law_row at h; first | (obtain ⟨_, rfl, _⟩ := h; rfl) | (obtain ⟨_, _, rfl, _⟩ := h; rfl) | (obtain ⟨_, _, _, rfl, _⟩ := h; rfl) | (obtain ⟨_, _, _, _, rfl, _⟩ := h; rfl) | (obtain ⟨_, _, _, _, _, rfl, _⟩ := h; rfl) | (obtain ⟨_, _, _, _, _, _, rfl, _⟩ := h; rfl)
theorem ok__law_row (T : Tx P w K mg) : FnOk P w K mg base CX0 1 T.a__law_row T.d__law_row ["_law_number"] (sp__law_row K) := by
  refine T.F__law_row.ok sc__law_row (fun vs H Q E h => len__law_row h) (fun cdv A outer s H vs Q E hr h => ⟨t__law_row K, ?_, pure__law_row h⟩)
  exact (pss_cons (ps_set (i := 1) sc__law_row.nd rfl (Or.inl rfl) (pe_lstN pa_nil))
  (pss_cons (ps_while PassesOwn.never (pt_cmpR op_gt (pv 0) pe_int (nomark _)) (pss_cons (ps_expr (pe_bm PySem.F.plainAttrs_list PySem.F.slot_list_append PySem.F.type_list_append mt_append (pv 1) (by exact (pa_cons (pe_op op_mod (pv 0) pe_int) pa_nil))))
  (pss_one (ps_set (i := 0) sc__law_row.nd rfl (Or.inl rfl) (pe_op op_fdiv (pv 0) pe_int)))))
  (pss_cons (ps_while PassesOwn.never (pt_cmpR op_eq (pe_ix ix_list (pv 1) pe_int (fun _ _ => rfl)) pe_int (nomark _)) (pss_one (ps_expr (pe_bm PySem.F.plainAttrs_list PySem.F.slot_list_pop PySem.F.type_list_pop mt_popAt (pv 1) (by exact (pa_cons pe_int pa_nil))))))
  (pss_one (ps_ret (pe_callTy call_tupN rfl T.z_tuple (by decide +kernel) (pa_cons (pe_revLN (pv 1)) pa_nil)))))))
theorem len__law_smooth {vs : List V} {H : Hp} {Q : VK} {E : XK} (h : sp__law_smooth K vs H Q E) : vs.length = 1 := by
  unfold sp__law_smooth at h; first | (obtain ⟨_, rfl, _⟩ := h; rfl) | (obtain ⟨_, _, rfl, _⟩ := h; rfl) | (obtain ⟨_, _, _, rfl, _⟩ := h; rfl) | (obtain ⟨_, _, _, _, rfl, _⟩ := h; rfl) | (obtain ⟨_, _, _, _, _, rfl, _⟩ := h; rfl) | (obtain ⟨_, _, _, _, _, _, rfl, _⟩ := h; rfl)
theorem ok__law_smooth (T : Tx P w K mg) : FnOk P w K mg base CX0 2 T.a__law_smooth T.d__law_smooth ["_law_d"] (sp__law_smooth K) := by
  have G__law_next : FnOk P w K mg base CX0 1 T.a__law_next T.d__law_next ["_law_dice_here", "_law_many"] (sp__law_next K) := ok__law_next T
  refine T.F__law_smooth.ok sc__law_smooth (fun vs H Q E h => len__law_smooth h) (fun cdv A outer s H vs Q E hr h => ⟨t__law_smooth K, ?_, pure__law_smooth h⟩)
  exact (pss_cons (ps_set (i := 1) sc__law_smooth.nd rfl (Or.inl rfl) pe_int)
  (pss_cons (ps_for PassesOwn.never rfl (pi_list (pe_lstN (pa_cons pe_int (pa_cons pe_int (pa_cons pe_int pa_nil))))) (pg_name (i := 2) sc__law_smooth.nd rfl (Or.inl rfl))
  (pss_one (ps_for PassesOwn.never rfl (pi_range1 rfl T.z_range (pa_cons (pe_ix ix_list (pe_lstN (pa_cons (pe_call G__law_next (hr.mono (by decide)) rfl T.g__law_next T.F__law_next.kp T.b__law_next .nil pass0 (pa_cons (pv 0) (pa_cons pe_int pa_nil))) (pa_cons (pe_call G__law_next (hr.mono (by decide)) rfl T.g__law_next T.F__law_next.kp T.b__law_next .nil pass0 (pa_cons (pv 0) (pa_cons pe_int pa_nil))) pa_nil))) (pe_callTy call_int1 rfl T.z_int (by decide +kernel) (pa_cons (pe_cmpR op_eq (pe_call G__law_next (hr.mono (by decide)) rfl T.g__law_next T.F__law_next.kp T.b__law_next .nil pass0 (pa_cons (pv 0) (pa_cons pe_int pa_nil))) pe_int (nomark _)) pa_nil)) (fun _ _ => rfl)) pa_nil)) (pg_name (i := 3) sc__law_smooth.nd rfl (Or.inl rfl))
  (pss_one (ps_set (i := 1) sc__law_smooth.nd rfl (Or.inl rfl) (pe_op op_mulW (pv 1) (pv 2)))))))
  (pss_one (ps_ret (pv 1)))))
theorem len__law_drawn {vs : List V} {H : Hp} {Q : VK} {E : XK} (h : sp__law_drawn K vs H Q E) : vs.length = 2 := by
  unfold sp__law_drawn at h; first | (obtain ⟨_, rfl, _⟩ := h; rfl) | (obtain ⟨_, _, rfl, _⟩ := h; rfl) | (obtain ⟨_, _, _, rfl, _⟩ := h; rfl) | (obtain ⟨_, _, _, _, rfl, _⟩ := h; rfl) | (obtain ⟨_, _, _, _, _, rfl, _⟩ := h; rfl) | (obtain ⟨_, _, _, _, _, _, rfl, _⟩ := h; rfl)
theorem ok__law_drawn (T : Tx P w K mg) : FnOk P w K mg base CX0 3 T.a__law_drawn T.d__law_drawn ["_law_d", "_law_most"] (sp__law_drawn K) := by
  have G__law_next : FnOk P w K mg base CX0 1 T.a__law_next T.d__law_next ["_law_dice_here", "_law_many"] (sp__law_next K) := ok__law_next T
  have G__law_row : FnOk P w K mg base CX0 1 T.a__law_row T.d__law_row ["_law_number"] (sp__law_row K) := ok__law_row T
  have G__law_smooth : FnOk P w K mg base CX0 2 T.a__law_smooth T.d__law_smooth ["_law_d"] (sp__law_smooth K) := ok__law_smooth T
  refine T.F__law_drawn.ok sc__law_drawn (fun vs H Q E h => len__law_drawn h) (fun cdv A outer s H vs Q E hr h => ⟨t__law_drawn K, ?_, pure__law_drawn h⟩)
  exact (pss_cons (ps_set (i := 2) sc__law_drawn.nd rfl (Or.inl rfl) (pe_call G__law_next (hr.mono (by decide)) rfl T.g__law_next T.F__law_next.kp T.b__law_next .nil pass0 (pa_cons (pv 0) (pa_cons pe_int pa_nil))))
  (pss_cons (ps_if (pt_cmpR op_eq (pv 2) pe_int (nomark _)) (pss_one (ps_ret (pe_call G__law_row (hr.mono (by decide)) rfl T.g__law_row T.F__law_row.kp T.b__law_row .nil pass0 (pa_cons (pe_op op_add pe_int (pe_call G__law_next (hr.mono (by decide)) rfl T.g__law_next T.F__law_next.kp T.b__law_next .nil pass0 (pa_cons (pv 0) (pa_cons pe_int pa_nil)))) pa_nil)))) pss_nil)
  (pss_cons (ps_if (pt_cmpR op_lt (pv 2) pe_int (nomark _)) (pss_one (ps_set (i := 3) sc__law_drawn.nd rfl (Or.inl rfl) (pe_call G__law_row (hr.mono (by decide)) rfl T.g__law_row T.F__law_row.kp T.b__law_row .nil pass0 (pa_cons (pe_op op_mulW (pe_call G__law_smooth (hr.mono (by decide)) rfl T.g__law_smooth T.F__law_smooth.kp T.b__law_smooth .nil pass0 (pa_cons (pv 0) pa_nil)) (pe_ix ix_list (pe_lstN (pa_cons pe_int (pa_cons pe_int (pa_cons pe_int (pa_cons pe_int (pa_cons pe_int (pa_cons pe_int pa_nil))))))) (pe_call G__law_next (hr.mono (by decide)) rfl T.g__law_next T.F__law_next.kp T.b__law_next .nil pass0 (pa_cons (pv 0) (pa_cons pe_int pa_nil))) (fun _ _ => rfl))) pa_nil)))) (pss_cons (PS.imp (ps_setLc (i := 4) (own := [("_law_k", 5)]) (g := (gName 5)) (tt := tYes) rfl sc__law_drawn.nd rfl rfl (sw_true rfl rfl rfl (by decide +kernel)) (pi_range1 rfl T.z_range (PA.weak (pa_cons (pe_op op_add pe_int (pe_call G__law_next (hr.mono (by decide)) rfl T.g__law_next T.F__law_next.kp T.b__law_next .nil pass0 (pa_cons (pv 0) (pa_cons (pv 1) pa_nil)))) pa_nil))) (blkOk_by (own := [("_law_k", 5)]) (N := ["_law_d", "_law_most", "_law_kind", "_law_found", "_law_figures", "_law_k"]) (sc := defScope s__law_drawn) (by decide +kernel)) (fun _ _ _ _ _ => (pg_name (i := 5) sc__law_drawn.nd rfl (Or.inl rfl))) (fun _ _ _ _ _ => pts_nil) (fun _ _ _ _ _ => (pe_call G__law_next (hr.mono (by decide)) rfl T.g__law_next T.F__law_next.kp T.b__law_next .nil pass0 (pa_cons (pv 0) (pa_cons pe_int pa_nil))))) fun _ _ _ q => lcR_of q)
  (pss_one (ps_set (i := 3) sc__law_drawn.nd rfl (Or.inl rfl) (pe_op op_catN (pe_op op_catN (pe_tupN (pa_cons (pe_op op_add pe_int (pe_call G__law_next (hr.mono (by decide)) rfl T.g__law_next T.F__law_next.kp T.b__law_next .nil pass0 (pa_cons (pv 0) (pa_cons pe_int pa_nil)))) pa_nil)) (pe_callTy call_tupN rfl T.z_tuple (by decide +kernel) (pa_cons (pv 4) pa_nil))) (pe_tupN (pa_cons (pe_op op_add pe_int (pe_call G__law_next (hr.mono (by decide)) rfl T.g__law_next T.F__law_next.kp T.b__law_next .nil pass0 (pa_cons (pv 0) (pa_cons pe_int pa_nil)))) pa_nil)))))))
  (pss_one (ps_ret (pe_ifExp (pt_cmpR op_gt (pe_ix ix_tup (pe_slice sl_tupN (pv 3) po_none (po_some (pv 1))) (pe_un un_neg pe_int) (fun _ _ => rfl)) pe_int (nomark _)) (pe_slice sl_tupN (pv 3) po_none (po_some (pv 1))) (pe_tupN (pa_cons pe_int (pa_cons pe_int pa_nil)))))))))
theorem len__law_short {vs : List V} {H : Hp} {Q : VK} {E : XK} (h : sp__law_short K vs H Q E) : vs.length = 2 := by
  unfold sp__law_short at h; first | (obtain ⟨_, rfl, _⟩ := h; rfl) | (obtain ⟨_, _, rfl, _⟩ := h; rfl) | (obtain ⟨_, _, _, rfl, _⟩ := h; rfl) | (obtain ⟨_, _, _, _, rfl, _⟩ := h; rfl) | (obtain ⟨_, _, _, _, _, rfl, _⟩ := h; rfl) | (obtain ⟨_, _, _, _, _, _, rfl, _⟩ := h; rfl)
theorem ok__law_short (T : Tx P w K mg) : FnOk P w K mg base CX0 4 T.a__law_short T.d__law_short ["_law_d", "_law_most"] (sp__law_short K) := by
  have G__law_drawn : FnOk P w K mg base CX0 3 T.a__law_drawn T.d__law_drawn ["_law_d", "_law_most"] (sp__law_drawn K) := ok__law_drawn T
  refine T.F__law_short.ok sc__law_short (fun vs H Q E h => len__law_short h) (fun cdv A outer s H vs Q E hr h => ⟨t__law_short K, ?_, pure__law_short h⟩)
  exact (pss_cons (ps_set (i := 2) sc__law_short.nd rfl (Or.inl rfl) (pe_call G__law_drawn (hr.mono (by decide)) rfl T.g__law_drawn T.F__law_drawn.kp T.b__law_drawn .nil pass0 (pa_cons (pv 0) (pa_cons (pv 1) pa_nil))))
  (pss_one (ps_ret (pe_ifExp (pt_cmpR op_le (pe_callB call_len_seq rfl T.z_len (by decide +kernel) (pa_cons (pv 2) pa_nil)) (pv 1) (nomark _)) (pv 2) (pe_slice sl_tupN (pv 2) po_none (po_some pe_int))))))
theorem len__law_whole_of {vs : List V} {H : Hp} {Q : VK} {E : XK} (h : sp__law_whole_of K vs H Q E) : vs.length = 1 := by
  unfold sp__law_whole_of at h; first | (obtain ⟨_, rfl, _⟩ := h; rfl) | (obtain ⟨_, _, rfl, _⟩ := h; rfl) | (obtain ⟨_, _, _, rfl, _⟩ := h; rfl) | (obtain ⟨_, _, _, _, rfl, _⟩ := h; rfl) | (obtain ⟨_, _, _, _, _, rfl, _⟩ := h; rfl) | (obtain ⟨_, _, _, _, _, _, rfl, _⟩ := h; rfl)
theorem ok__law_whole_of (T : Tx P w K mg) : FnOk P w K mg base CX0 1 T.a__law_whole_of T.d__law_whole_of ["_law_row_here"] (sp__law_whole_of K) := by
  refine T.F__law_whole_of.ok sc__law_whole_of (fun vs H Q E h => len__law_whole_of h) (fun cdv A outer s H vs Q E hr h => ⟨t__law_whole_of K, ?_, pure__law_whole_of h⟩)
  exact (pss_cons (ps_set (i := 1) sc__law_whole_of.nd rfl (Or.inl rfl) pe_int)
  (pss_cons (ps_for PassesOwn.never rfl (pi_range1 rfl T.z_range (pa_cons (pe_callB call_len_seq rfl T.z_len (by decide +kernel) (pa_cons (pv 0) pa_nil)) pa_nil)) (pg_name (i := 2) sc__law_whole_of.nd rfl (Or.inl rfl))
  (pss_one (ps_set (i := 1) sc__law_whole_of.nd rfl (Or.inl rfl) (pe_op op_add (pe_op op_mul (pv 1) pe_int) (pe_ix ix_tup (pv 0) (pv 2) (fun _ _ => rfl))))))
  (pss_one (ps_ret (pv 1)))))
theorem len_figures_of {vs : List V} {H : Hp} {Q : VK} {E : XK} (h : sp_figures_of K vs H Q E) : vs.length = 1 := by
  unfold sp_figures_of at h; first | (obtain ⟨_, rfl, _⟩ := h; rfl) | (obtain ⟨_, _, rfl, _⟩ := h; rfl) | (obtain ⟨_, _, _, rfl, _⟩ := h; rfl) | (obtain ⟨_, _, _, _, rfl, _⟩ := h; rfl) | (obtain ⟨_, _, _, _, _, rfl, _⟩ := h; rfl) | (obtain ⟨_, _, _, _, _, _, rfl, _⟩ := h; rfl)
theorem ok_figures_of (T : Tx P w K mg) : FnOk P w K mg base CX0 1 T.a_figures_of T.d_figures_of ["number"] (sp_figures_of K) := by
  refine T.F_figures_of.ok sc_figures_of (fun vs H Q E h => len_figures_of h) (fun cdv A outer s H vs Q E hr h => ⟨t_figures_of K, ?_, pure_figures_of h⟩)
  exact (pss_cons (ps_set (i := 1) sc_figures_of.nd rfl (Or.inl rfl) (pe_lstN pa_nil))
  (pss_cons (ps_while PassesOwn.never (pt_cmpR op_gt (pv 0) pe_int (nomark _)) (pss_cons (ps_expr (pe_bm PySem.F.plainAttrs_list PySem.F.slot_list_append PySem.F.type_list_append mt_append (pv 1) (by exact (pa_cons (pe_op op_mod (pv 0) pe_int) pa_nil))))
  (pss_one (ps_aug (i := 0) sc_figures_of.nd rfl (Or.inl rfl) pe_int (ip_of iop_fdiv)))))
  (pss_one (ps_ret (pe_tupRevN rfl rfl T.z_tuple rfl T.z_reversed (pv 1))))))
theorem len_check_row {vs : List V} {H : Hp} {Q : VK} {E : XK} (h : sp_check_row K vs H Q E) : vs.length = 1 := by
  unfold sp_check_row at h; first | (obtain ⟨_, rfl, _⟩ := h; rfl) | (obtain ⟨_, _, rfl, _⟩ := h; rfl) | (obtain ⟨_, _, _, rfl, _⟩ := h; rfl) | (obtain ⟨_, _, _, _, rfl, _⟩ := h; rfl) | (obtain ⟨_, _, _, _, _, rfl, _⟩ := h; rfl) | (obtain ⟨_, _, _, _, _, _, rfl, _⟩ := h; rfl)
theorem ok_check_row (T : Tx P w K mg) : FnOk P w K mg base CX0 1 T.a_check_row T.d_check_row ["row"] (sp_check_row K) := by
  refine T.F_check_row.ok sc_check_row (fun vs H Q E h => len_check_row h) (fun cdv A outer s H vs Q E hr h => ⟨t_check_row K, ?_, pure_check_row h⟩)
  exact (pss_cons (ps_if (pt_not (pt_chain op_le op_le pe_int (pe_callB call_len_seq rfl T.z_len (by decide +kernel) (pa_cons (pv 0) pa_nil)) (pe_glob rfl (T.c_MOST_FIGURES).choose_spec ⟨_, rfl⟩))) (pss_one ps_never) pss_nil)
  (pss_cons (ps_if (PW.pt (pw_or (pt_cmpR op_lt (pe_callB (cr_minT rfl) rfl T.z_min (by decide +kernel) (pa_cons (pv 0) pa_nil)) pe_int (nomark _)) (pw_or1 (pt_cmpR op_gt (pe_callB (cr_maxT rfl) rfl T.z_max (by decide +kernel) (pa_cons (pv 0) pa_nil)) pe_int (nomark _))))) (pss_one ps_never) pss_nil)
  (pss_one (ps_if (PW.pt (pw_or (pt_cmpR op_eq (pe_ix ix_tup (pv 0) pe_int (fun _ _ => rfl)) pe_int (nomark _)) (pw_or1 (pt_cmpR op_eq (pe_ix ix_tup (pv 0) (pe_un un_neg pe_int) (fun _ _ => rfl)) pe_int (nomark _))))) (pss_one ps_never) pss_nil))))
theorem len_whole_of {vs : List V} {H : Hp} {Q : VK} {E : XK} (h : sp_whole_of K vs H Q E) : vs.length = 1 := by
  unfold sp_whole_of at h; first | (obtain ⟨_, rfl, _⟩ := h; rfl) | (obtain ⟨_, _, rfl, _⟩ := h; rfl) | (obtain ⟨_, _, _, rfl, _⟩ := h; rfl) | (obtain ⟨_, _, _, _, rfl, _⟩ := h; rfl) | (obtain ⟨_, _, _, _, _, rfl, _⟩ := h; rfl) | (obtain ⟨_, _, _, _, _, _, rfl, _⟩ := h; rfl)
theorem ok_whole_of (T : Tx P w K mg) : FnOk P w K mg base CX0 2 T.a_whole_of T.d_whole_of ["row"] (sp_whole_of K) := by
  have G_check_row : FnOk P w K mg base CX0 1 T.a_check_row T.d_check_row ["row"] (sp_check_row K) := ok_check_row T
  refine T.F_whole_of.ok sc_whole_of (fun vs H Q E h => len_whole_of h) (fun cdv A outer s H vs Q E hr h => ⟨t_whole_of K, ?_, pure_whole_of h⟩)
  exact (pss_cons (ps_expr (pe_call G_check_row (hr.mono (by decide)) rfl T.g_check_row T.F_check_row.kp T.b_check_row .nil pass0 (pa_cons (pv 0) pa_nil)))
  (pss_cons (ps_set (i := 1) sc_whole_of.nd rfl (Or.inl rfl) pe_int)
  (pss_cons (ps_for PassesOwn.never rfl (pi_tup (pv 0)) (pg_name (i := 2) sc_whole_of.nd rfl (Or.inl rfl))
  (pss_one (ps_set (i := 1) sc_whole_of.nd rfl (Or.inl rfl) (pe_op op_add (pe_op op_mul (pv 1) pe_int) (pv 2)))))
  (pss_one (ps_ret (pv 1))))))
theorem len_near_side {vs : List V} {H : Hp} {Q : VK} {E : XK} (h : sp_near_side K vs H Q E) : vs.length = 3 := by
  unfold sp_near_side at h; first | (obtain ⟨_, rfl, _⟩ := h; rfl) | (obtain ⟨_, _, rfl, _⟩ := h; rfl) | (obtain ⟨_, _, _, rfl, _⟩ := h; rfl) | (obtain ⟨_, _, _, _, rfl, _⟩ := h; rfl) | (obtain ⟨_, _, _, _, _, rfl, _⟩ := h; rfl) | (obtain ⟨_, _, _, _, _, _, rfl, _⟩ := h; rfl)
theorem ok_near_side (T : Tx P w K mg) : FnOk P w K mg base CX0 3 T.a_near_side T.d_near_side ["row", "is_odd", "places"] (sp_near_side K) := by
  have G_figures_of : FnOk P w K mg base CX0 1 T.a_figures_of T.d_figures_of ["number"] (sp_figures_of K) := ok_figures_of T
  have G_whole_of : FnOk P w K mg base CX0 2 T.a_whole_of T.d_whole_of ["row"] (sp_whole_of K) := ok_whole_of T
  refine T.F_near_side.ok sc_near_side (fun vs H Q E h => len_near_side h) (fun cdv A outer s H vs Q E hr h => ⟨t_near_side K, ?_, pure_near_side h⟩)
  exact (pss_cons (ps_set (i := 3) sc_near_side.nd rfl (Or.inl rfl) (pe_call G_whole_of (hr.mono (by decide)) rfl T.g_whole_of T.F_whole_of.kp T.b_whole_of .nil pass0 (pa_cons (pv 0) pa_nil)))
  (pss_cons (ps_if (pt_val (pv 1)) (pss_one (ps_aug (i := 3) sc_near_side.nd rfl (Or.inl rfl) pe_int (ip_of iop_mul))) pss_nil)
  (pss_cons (ps_for PassesOwn.never rfl (pi_range1 rfl T.z_range (pa_cons (pv 2) pa_nil)) (pg_name (i := 4) sc_near_side.nd rfl (Or.inl rfl))
  (pss_one (ps_aug (i := 3) sc_near_side.nd rfl (Or.inl rfl) pe_int (ip_of iop_mul))))
  (pss_one (ps_ret (pe_slice sl_tupN (pe_call G_figures_of (hr.mono (by decide)) rfl T.g_figures_of T.F_figures_of.kp T.b_figures_of .nil pass0 (pa_cons (pe_callBfun cr_isqrt rfl T.m_isqrt (pa_cons (pv 3) pa_nil)) pa_nil)) po_none (po_some (pv 2))))))))
theorem len_factors {vs : List V} {H : Hp} {Q : VK} {E : XK} (h : sp_factors K vs H Q E) : vs.length = 1 := by
  unfold sp_factors at h; first | (obtain ⟨_, rfl, _⟩ := h; rfl) | (obtain ⟨_, _, rfl, _⟩ := h; rfl) | (obtain ⟨_, _, _, rfl, _⟩ := h; rfl) | (obtain ⟨_, _, _, _, rfl, _⟩ := h; rfl) | (obtain ⟨_, _, _, _, _, rfl, _⟩ := h; rfl) | (obtain ⟨_, _, _, _, _, _, rfl, _⟩ := h; rfl)
theorem ok_factors (T : Tx P w K mg) : FnOk P w K mg base CX0 3 T.a_factors T.d_factors ["row"] (sp_factors K) := by
  have G_whole_of : FnOk P w K mg base CX0 2 T.a_whole_of T.d_whole_of ["row"] (sp_whole_of K) := ok_whole_of T
  refine T.F_factors.ok sc_factors (fun vs H Q E h => len_factors h) (fun cdv A outer s H vs Q E hr h => ⟨t_factors K (T.c_PRIMES).choose, ?_, pure_factors (T.c_PRIMES).choose_spec.2 h⟩)
  exact (pss_cons (ps_set (i := 1) sc_factors.nd rfl (Or.inl rfl) (pe_call G_whole_of (hr.mono (by decide)) rfl T.g_whole_of T.F_whole_of.kp T.b_whole_of .nil pass0 (pa_cons (pv 0) pa_nil)))
  (pss_cons (ps_set (i := 2) sc_factors.nd rfl (Or.inl rfl) (pe_lstN pa_nil))
  (pss_cons (ps_for PassesOwn.never rfl (pi_tup (pe_glob rfl (T.c_PRIMES).choose_spec.1 rfl)) (pg_name (i := 3) sc_factors.nd rfl (Or.inl rfl))
  (pss_cons (ps_set (i := 4) sc_factors.nd rfl (Or.inl rfl) pe_int)
  (pss_cons (ps_while PassesOwn.never (pt_cmpR op_eq (pe_op op_mod (pv 1) (pv 3)) pe_int (nomark _)) (pss_cons (ps_aug (i := 1) sc_factors.nd rfl (Or.inl rfl) (pv 3) (ip_of iop_fdivW))
  (pss_one (ps_aug (i := 4) sc_factors.nd rfl (Or.inl rfl) pe_int ip_add))))
  (pss_one (ps_expr (pe_bm PySem.F.plainAttrs_list PySem.F.slot_list_append PySem.F.type_list_append mt_append (pv 2) (by exact (pa_cons (pv 4) pa_nil))))))))
  (pss_one (ps_ret (pe_tupN (pa_cons (pe_callTy call_tupN rfl T.z_tuple (by decide +kernel) (pa_cons (pv 2) pa_nil)) (pa_cons (pv 1) pa_nil))))))))
theorem len_row_of {vs : List V} {H : Hp} {Q : VK} {E : XK} (h : sp_row_of K vs H Q E) : vs.length = 1 := by
  unfold sp_row_of at h; first | (obtain ⟨_, rfl, _⟩ := h; rfl) | (obtain ⟨_, _, rfl, _⟩ := h; rfl) | (obtain ⟨_, _, _, rfl, _⟩ := h; rfl) | (obtain ⟨_, _, _, _, rfl, _⟩ := h; rfl) | (obtain ⟨_, _, _, _, _, rfl, _⟩ := h; rfl) | (obtain ⟨_, _, _, _, _, _, rfl, _⟩ := h; rfl)
theorem ok_row_of (T : Tx P w K mg) : FnOk P w K mg base CX0 2 T.a_row_of T.d_row_of ["number"] (sp_row_of K) := by
  have G_figures_of : FnOk P w K mg base CX0 1 T.a_figures_of T.d_figures_of ["number"] (sp_figures_of K) := ok_figures_of T
  refine T.F_row_of.ok sc_row_of (fun vs H Q E h => len_row_of h) (fun cdv A outer s H vs Q E hr h => ⟨t_row_of K, ?_, pure_row_of h⟩)
  exact (pss_cons (ps_while PassesOwn.never (pt_cmpR op_eq (pe_op op_mod (pv 0) pe_int) pe_int (nomark _)) (pss_one (ps_aug (i := 0) sc_row_of.nd rfl (Or.inl rfl) pe_int (ip_of iop_fdiv))))
  (pss_one (ps_ret (pe_call G_figures_of (hr.mono (by decide)) rfl T.g_figures_of T.F_figures_of.kp T.b_figures_of .nil pass0 (pa_cons (pv 0) pa_nil)))))
theorem len_side {vs : List V} {H : Hp} {Q : VK} {E : XK} {e : Er} (h : sp_side K e vs H Q E) : vs.length = 1 := by
  unfold sp_side at h; first | (obtain ⟨_, rfl, _⟩ := h; rfl) | (obtain ⟨_, _, rfl, _⟩ := h; rfl) | (obtain ⟨_, _, _, rfl, _⟩ := h; rfl) | (obtain ⟨_, _, _, _, rfl, _⟩ := h; rfl) | (obtain ⟨_, _, _, _, _, rfl, _⟩ := h; rfl) | (obtain ⟨_, _, _, _, _, _, rfl, _⟩ := h; rfl)
theorem ok_side (T : Tx P w K mg) : FnOk P w K mg base (L2.CX P w) 4 T.a_side T.d_side ["row"] (sp_side K T.e) := by
  have G_factors : FnOk P w K mg base CX0 3 T.a_factors T.d_factors ["row"] (sp_factors K) := ok_factors T
  have G_row_of : FnOk P w K mg base CX0 2 T.a_row_of T.d_row_of ["number"] (sp_row_of K) := ok_row_of T
  have G_whole_of : FnOk P w K mg base CX0 2 T.a_whole_of T.d_whole_of ["row"] (sp_whole_of K) := ok_whole_of T
  refine T.F_side.okX sc_side (fun vs H Q E h => len_side h) (fun cdv A outer s H vs Q E hr h => ⟨t_side K T.e E, ?_, pure_side h⟩)
  exact (pss_cons (ps_asg (pe_call G_factors (hr.mono (by decide)) rfl T.g_factors T.F_factors.kp T.b_factors .nil pass0 (pa_cons (pv 0) pa_nil)) (pg_tup rfl (pgs_cons (pg_tup rfl (pgs_cons (pg_name (i := 1) sc_side.nd rfl (Or.inl rfl)) (pgs_cons (pg_name (i := 2) sc_side.nd rfl (Or.inl rfl)) (pgs_cons (pg_name (i := 3) sc_side.nd rfl (Or.inl rfl)) pgs_nil)))) (pgs_cons (pg_name (i := 4) sc_side.nd rfl (Or.inl rfl)) pgs_nil))))
  (pss_cons (ps_if (pt_cmpR op_ne (pe_op op_mod (pv 1) pe_int) pe_int (nomark _)) (pss_one (ps_raiseF rfl (takes_of rfl rfl rfl rfl) T.e_NoSide hr (by exact (pa_cons pe_str pa_nil)) rfl)) pss_nil)
  (pss_cons (ps_if (pt_cmpR op_ne (pe_op op_mod (pe_op op_sub (pv 2) (pv 3)) pe_int) pe_int (nomark _)) (pss_one (ps_raiseF rfl (takes_of rfl rfl rfl rfl) T.e_NoSide hr (by exact (pa_cons pe_str pa_nil)) rfl)) pss_nil)
  (pss_cons (ps_if (pt_cmpR op_ne (pe_op op_mulW (pe_callBfun cr_isqrt rfl T.m_isqrt (pa_cons (pv 4) pa_nil)) (pe_callBfun cr_isqrt rfl T.m_isqrt (pa_cons (pv 4) pa_nil))) (pv 4) (nomark _)) (pss_one (ps_raiseF rfl (takes_of rfl rfl rfl rfl) T.e_NoSide hr (by exact (pa_cons pe_str pa_nil)) rfl)) pss_nil)
  (pss_cons (ps_set (i := 5) sc_side.nd rfl (Or.inl rfl) (pe_call G_whole_of (hr.mono (by decide)) rfl T.g_whole_of T.F_whole_of.kp T.b_whole_of .nil pass0 (pa_cons (pv 0) pa_nil)))
  (pss_cons (ps_if (pt_cmpR op_ne (pe_op op_mod (pv 2) pe_int) pe_int (nomark _)) (pss_one (ps_aug (i := 5) sc_side.nd rfl (Or.inl rfl) pe_int (ip_of iop_mul))) pss_nil)
  (pss_one (ps_ret (pe_call G_row_of (hr.mono (by decide)) rfl T.g_row_of T.F_row_of.kp T.b_row_of .nil pass0 (pa_cons (pe_callBfun cr_isqrt rfl T.m_isqrt (pa_cons (pv 5) pa_nil)) pa_nil))))))))))
theorem len_times {vs : List V} {H : Hp} {Q : VK} {E : XK} (h : sp_times K vs H Q E) : vs.length = 2 := by
  unfold sp_times at h; first | (obtain ⟨_, rfl, _⟩ := h; rfl) | (obtain ⟨_, _, rfl, _⟩ := h; rfl) | (obtain ⟨_, _, _, rfl, _⟩ := h; rfl) | (obtain ⟨_, _, _, _, rfl, _⟩ := h; rfl) | (obtain ⟨_, _, _, _, _, rfl, _⟩ := h; rfl) | (obtain ⟨_, _, _, _, _, _, rfl, _⟩ := h; rfl)
theorem ok_times (T : Tx P w K mg) : FnOk P w K mg base CX0 3 T.a_times T.d_times ["one", "other"] (sp_times K) := by
  have G_row_of : FnOk P w K mg base CX0 2 T.a_row_of T.d_row_of ["number"] (sp_row_of K) := ok_row_of T
  have G_whole_of : FnOk P w K mg base CX0 2 T.a_whole_of T.d_whole_of ["row"] (sp_whole_of K) := ok_whole_of T
  refine T.F_times.ok sc_times (fun vs H Q E h => len_times h) (fun cdv A outer s H vs Q E hr h => ⟨t_times K, ?_, pure_times h⟩)
  exact (pss_one (ps_ret (pe_call G_row_of (hr.mono (by decide)) rfl T.g_row_of T.F_row_of.kp T.b_row_of .nil pass0 (pa_cons (pe_op op_mulW (pe_call G_whole_of (hr.mono (by decide)) rfl T.g_whole_of T.F_whole_of.kp T.b_whole_of .nil pass0 (pa_cons (pv 0) pa_nil)) (pe_call G_whole_of (hr.mono (by decide)) rfl T.g_whole_of T.F_whole_of.kp T.b_whole_of .nil pass0 (pa_cons (pv 1) pa_nil))) pa_nil))))
theorem len_squared {vs : List V} {H : Hp} {Q : VK} {E : XK} (h : sp_squared K vs H Q E) : vs.length = 1 := by
  unfold sp_squared at h; first | (obtain ⟨_, rfl, _⟩ := h; rfl) | (obtain ⟨_, _, rfl, _⟩ := h; rfl) | (obtain ⟨_, _, _, rfl, _⟩ := h; rfl) | (obtain ⟨_, _, _, _, rfl, _⟩ := h; rfl) | (obtain ⟨_, _, _, _, _, rfl, _⟩ := h; rfl) | (obtain ⟨_, _, _, _, _, _, rfl, _⟩ := h; rfl)
theorem ok_squared (T : Tx P w K mg) : FnOk P w K mg base CX0 4 T.a_squared T.d_squared ["row"] (sp_squared K) := by
  have G_times : FnOk P w K mg base CX0 3 T.a_times T.d_times ["one", "other"] (sp_times K) := ok_times T
  refine T.F_squared.ok sc_squared (fun vs H Q E h => len_squared h) (fun cdv A outer s H vs Q E hr h => ⟨t_squared K, ?_, pure_squared h⟩)
  exact (pss_one (ps_ret (pe_call G_times (hr.mono (by decide)) rfl T.g_times T.F_times.kp T.b_times .nil pass0 (pa_cons (pv 0) (pa_cons (pv 0) pa_nil)))))
theorem ok_law (T : Tx P w K mg) {c cP : Addr} (FC : FunC K "law" s_law T.a_law T.d_law c) (TB : LamX.TabB base mg c cP) : FnOk P w K mg base CX0 7 T.a_law T.d_law ["_law_script"] (sp_law K cP) := by
  have G__law_dice : FnOk P w K mg base CX0 1 T.a__law_dice T.d__law_dice ["_law_script"] (sp__law_dice K) := ok__law_dice T
  have G__law_next : FnOk P w K mg base CX0 1 T.a__law_next T.d__law_next ["_law_dice_here", "_law_many"] (sp__law_next K) := ok__law_next T
  have G__law_short : FnOk P w K mg base CX0 4 T.a__law_short T.d__law_short ["_law_d", "_law_most"] (sp__law_short K) := ok__law_short T
  have G__law_whole_of : FnOk P w K mg base CX0 1 T.a__law_whole_of T.d__law_whole_of ["_law_row_here"] (sp__law_whole_of K) := ok__law_whole_of T
  have G_near_side : FnOk P w K mg base CX0 3 T.a_near_side T.d_near_side ["row", "is_odd", "places"] (sp_near_side K) := ok_near_side T
  have G_side : FnOk P w K mg base (L2.CX P w) 4 T.a_side T.d_side ["row"] (sp_side K T.e) := ok_side T
  have G_squared : FnOk P w K mg base CX0 4 T.a_squared T.d_squared ["row"] (sp_squared K) := ok_squared T
  obtain ⟨oc, od, kV, doc, pm, an, cdv, ct, osl, ed, lk, hcd⟩ := T.F__law_word.ex
  have hb := T.b__law_word
  rw [ed] at lk hb
  refine FC.ok sc_law (fun vs H Q E h => by obtain ⟨_, _, rfl, _⟩ := h; rfl) (fun A outer s H vs Q E hr h => ⟨t_law K T.e cP, ?_, pure_law h⟩)
  exact (pss_cons (ps_set (i := 1) sc_law.nd rfl (Or.inl rfl) (pe_call G__law_dice (hr.mono (by decide)) rfl T.g__law_dice T.F__law_dice.kp T.b__law_dice .nil pass0 (pa_cons (pv 0) pa_nil)))
  (pss_cons (ps_set (i := 2) sc_law.nd rfl (Or.inr rfl) (pe_call G__law_short (hr.mono (by decide)) rfl T.g__law_short T.F__law_short.kp T.b__law_short .nil pass0 (pa_cons (pv 1) (pa_cons pe_int pa_nil))))
  (pss_cons (ps_set (i := 2) sc_law.nd rfl (Or.inr rfl) (pe_ifExp (pt_cmpR op_eq (pe_call G__law_next (hr.mono (by decide)) rfl T.g__law_next T.F__law_next.kp T.b__law_next .nil pass0 (pa_cons (pv 1) (pa_cons pe_int pa_nil))) pe_int (nomark _)) (pe_call G_squared (hr.mono (by decide)) rfl T.g_squared T.F_squared.kp T.b_squared .nil pass0 (pa_cons (pv 2) pa_nil)) (pv 2)))
  (pss_cons (ps_set (i := 3) sc_law.nd rfl (Or.inl rfl) (LamX.pe_lamcall (k := 4) (T := [(cP, ("law" : Str) ++ ".<locals>." ++ "<lambda>")]) (TT := LamX.TTword K T.e.side T.e.turned) (Ng := ["_law_work", "e"]) (a := "_law_work") rfl T.g__law_word T.F__law_word.kp lk hcd hb sc__law_word rfl (Or.inl rfl) (by exact (LamX.word_gives T.wk rfl rfl rfl rfl)) TB rfl (by exact List.mem_singleton.mpr rfl) (by intro p hp _; rw [List.mem_singleton.mp hp] <;> rfl) hr (by exact LamX.lamS_by (sc := defScope s_law) (by decide +kernel)) rfl (fun _ _ _ _ _ => rfl) (fun A outer s H E f c' hr => by exact (pe_callS G_side (hr.mono (by decide)) rfl T.g_side T.F_side.kp T.b_side (fun σ => passAt (takes_of rfl rfl rfl rfl) σ) (by exact (pa_cons (pv 2) pa_nil))))))
  (pss_cons (ps_set (i := 4) sc_law.nd rfl (Or.inl rfl) pe_dnewN)
  (pss_cons (ps_for PassesOwn.never rfl (pi_tup (pe_tupN (pa_cons pe_bl (pa_cons pe_bl pa_nil)))) (pg_name (i := 5) sc_law.nd rfl (Or.inr rfl))
  (pss_cons (PS.imp (ps_setLc (i := 6) (own := [("_law_places", 16)]) (g := (gName 16)) (tt := tYes) rfl sc_law.nd rfl rfl (sw_true rfl rfl rfl (by decide +kernel)) (pi_range2 rfl T.z_range (PA.weak (pa_cons pe_int (pa_cons pe_int pa_nil)))) (blkOk_by (own := [("_law_places", 16)]) (N := ["_law_script", "_law_d", "_law_row_here", "_law_found", "_law_rows", "_law_is_odd", "_law_told", "_law_k", "_law_near", "_law_whole", "_law_scale", "_law_hits", "_law_turn", "_law_low", "_law_high", "_law_due", "_law_places", "_law_figure"]) (sc := defScope s_law) (by decide +kernel)) (fun _ _ _ _ _ => (pg_name (i := 16) sc_law.nd rfl (Or.inl rfl))) (fun _ _ _ _ _ => pts_nil) (fun _ _ _ _ _ => (pe_call G_near_side (hr.mono (by decide)) rfl T.g_near_side T.F_near_side.kp T.b_near_side .nil pass0 (pa_cons (pv 2) (pa_cons (pv 5) (pa_cons (pv 16) pa_nil)))))) fun _ _ _ q => lcR2_of q)
  (pss_cons (ps_for PassesOwn.never rfl (pi_range1 rfl T.z_range (pa_cons pe_int pa_nil)) (pg_name (i := 7) sc_law.nd rfl (Or.inl rfl))
  (pss_cons (ps_if (pt_cmpR op_ne (pe_callB call_len_seq rfl T.z_len (by decide +kernel) (pa_cons (pe_ix ix_list (pv 6) (pv 7) (fun _ _ => rfl)) pa_nil)) (pe_op op_add (pv 7) pe_int) (nomark _)) (pss_one (ps_ret pe_bl)) pss_nil)
  (pss_cons (ps_if (pt_cmpR (op_neD (hu64 hr)) (pe_ix ix_list (pv 6) (pv 7) (fun _ _ => rfl)) (pe_slice sl_tupN (pe_ix ix_list (pv 6) pe_int (fun _ _ => rfl)) po_none (po_some (pe_op op_add (pv 7) pe_int))) (nomark _)) (pss_one (ps_ret pe_bl)) pss_nil)
  (pss_cons (ps_if (pt_cmpR op_eq (pe_ix ix_tup (pe_ix ix_list (pv 6) (pv 7) (fun _ _ => rfl)) pe_int (fun _ _ => rfl)) pe_int (nomark _)) (pss_one (ps_ret pe_bl)) pss_nil)
  (pss_one (ps_if (pt_cmpR (op_neD (hu64 hr)) (PE.imp (pe_lc (own := [("_law_figure", 17)]) (g := (gName 17)) (tt := (tNot (tTest (tChain rLe rLt (tC (natV 0)) (tVar 17) (tC (natV 60)))))) rfl sc_law.nd (pi_tup (PE.weak (pe_ix ix_list (pv 6) (pv 7) (fun _ _ => rfl)))) (blkOk_by (own := [("_law_figure", 17)]) (N := ["_law_script", "_law_d", "_law_row_here", "_law_found", "_law_rows", "_law_is_odd", "_law_told", "_law_k", "_law_near", "_law_whole", "_law_scale", "_law_hits", "_law_turn", "_law_low", "_law_high", "_law_due", "_law_places", "_law_figure"]) (sc := defScope s_law) (by decide +kernel)) (fun _ _ _ _ _ => (pg_name (i := 17) sc_law.nd rfl (Or.inl rfl))) (fun _ _ _ _ _ => (pts_one (pt_not (pt_chain op_le op_lt pe_int (pv 17) pe_int)))) (fun _ _ _ _ _ => (pv 17))) fun _ _ _ q => lcT_of q) (pe_lstN pa_nil) (nomark _)) (pss_one (ps_ret pe_bl)) pss_nil))))))
  (pss_cons (ps_putB (pv 4) (pv 5) (pe_ix ix_list (pv 6) pe_int (fun _ _ => rfl)))
  (pss_cons (ps_par (i := 8) (j := 9) (by rfl) sc_law.nd rfl rfl (by decide) rfl rfl (pa_cons (pe_call G__law_whole_of (hr.mono (by decide)) rfl T.g__law_whole_of T.F__law_whole_of.kp T.b__law_whole_of .nil pass0 (pa_cons (pe_ix ix_list (pv 6) pe_int (fun _ _ => rfl)) pa_nil)) (pa_cons (pe_op op_mulW (pe_call G__law_whole_of (hr.mono (by decide)) rfl T.g__law_whole_of T.F__law_whole_of.kp T.b__law_whole_of .nil pass0 (pa_cons (pv 2) pa_nil)) (pe_ifExp (pt_val (pv 5)) pe_int pe_int)) pa_nil)) (by rfl))
  (pss_cons (ps_asg (pe_tupN (pa_cons pe_int (pa_cons pe_int pa_nil))) (pg_tup rfl (pgs_cons (pg_name (i := 10) sc_law.nd rfl (Or.inl rfl)) (pgs_cons (pg_name (i := 11) sc_law.nd rfl (Or.inl rfl)) pgs_nil))))
  (pss_cons (ps_for PassesOwn.never rfl (pi_range1 rfl T.z_range (pa_cons pe_int pa_nil)) (pg_name (i := 12) sc_law.nd rfl (Or.inl rfl))
  (pss_cons (ps_par (i := 13) (j := 14) (by rfl) sc_law.nd rfl rfl (by decide) rfl rfl (pa_cons (pe_op op_mulW (pe_op op_mulW (pv 8) (pv 8)) (pv 10)) (pa_cons (pe_op op_mulW (pe_op op_mulW (pe_op op_add (pv 8) pe_int) (pe_op op_add (pv 8) pe_int)) (pv 10)) pa_nil)) (by rfl))
  (pss_cons (ps_set (i := 11) sc_law.nd rfl (Or.inl rfl) (pe_op op_add (pv 11) (pe_callTy call_int1 rfl T.z_int (by decide +kernel) (pa_cons (pe_chain op_le op_lt (pv 13) (pv 9) (pv 14)) pa_nil))))
  (pss_one (ps_asg (pe_ifExp (pt_cmpR op_lt (pv 9) (pv 13) (nomark _)) (pe_tupN (pa_cons (pe_op op_mul (pv 9) pe_int) (pa_cons (pv 10) pa_nil))) (pe_tupN (pa_cons (pv 9) (pa_cons (pe_op op_mul (pv 10) pe_int) pa_nil)))) (pg_tup rfl (pgs_cons (pg_name (i := 9) sc_law.nd rfl (Or.inl rfl)) (pgs_cons (pg_name (i := 10) sc_law.nd rfl (Or.inl rfl)) pgs_nil))))))))
  (pss_one (ps_if (pt_cmpR op_eq (pv 11) pe_int (nomark _)) (pss_one (ps_ret pe_bl)) pss_nil)))))))))
  (pss_cons (ps_if (pt_val (pe_callB call_isi rfl T.z_isinstance (by decide +kernel) (pa_cons (pe_ix ix_tup (pv 3) pe_int (fun _ _ => rfl)) (pa_cons (pe_bltn (v := .ty "str") rfl T.z_str (by decide +kernel) rfl) pa_nil)))) (pss_one (ps_ret pe_bl)) pss_nil)
  (pss_cons (ps_set (i := 15) sc_law.nd rfl (Or.inl rfl) (pe_slice sl_tupN (pe_op op_catN (pv 3) (pe_op op_repTN (pe_tupN (pa_cons pe_int pa_nil)) pe_int)) po_none (po_some pe_int)))
  (pss_one (ps_ret (pe_cmpR (op_inDT (hu65 hr)) (pv 15) (pe_tupN (pa_cons (pe_getB (pv 4) pe_bl (fun _ _ => rfl)) (pa_cons (pe_getB (pv 4) pe_bl (fun _ _ => rfl)) pa_nil))) rfl)))))))))))
end
theorem all_mk {l : PySem.W.OpenLaw} {w : World} {K : PySem.W.Frag} {h : Heap} {mg : Str → Option Value} {fa : Addr} (X : K.In h) (G : h.Ns mainGlobals mg) (hfa : mg "law" = some (.ref fa))
    {od0 an0 : Option Addr} {sl0 : Array (Option Value)} {oc0 kV0 dc0 pm0 cd0 ct0 : Value} {f0 : Addr} {od1 an1 : Option Addr} {sl1 : Array (Option Value)} {oc1 kV1 dc1 pm1 cd1 ct1 : Value} {f1 : Addr} {od2 an2 : Option Addr} {sl2 : Array (Option Value)} {oc2 kV2 dc2 pm2 cd2 ct2 : Value} {f2 : Addr} {od3 an3 : Option Addr} {sl3 : Array (Option Value)} {oc3 kV3 dc3 pm3 cd3 ct3 : Value} {f3 : Addr} {od4 an4 : Option Addr} {sl4 : Array (Option Value)} {oc4 kV4 dc4 pm4 cd4 ct4 : Value} {f4 : Addr} {od5 an5 : Option Addr} {sl5 : Array (Option Value)} {oc5 kV5 dc5 pm5 cd5 ct5 : Value} {f5 : Addr} {od6 an6 : Option Addr} {sl6 : Array (Option Value)} {oc6 kV6 dc6 pm6 cd6 ct6 : Value} {f6 : Addr} {od7 an7 : Option Addr} {sl7 : Array (Option Value)} {oc7 kV7 dc7 pm7 cd7 ct7 : Value} {f7 : Addr} {od8 an8 : Option Addr} {sl8 : Array (Option Value)} {oc8 kV8 dc8 pm8 cd8 ct8 : Value} {f8 : Addr} {od9 an9 : Option Addr} {sl9 : Array (Option Value)} {oc9 kV9 dc9 pm9 cd9 ct9 : Value} {f9 : Addr} {od10 an10 : Option Addr} {sl10 : Array (Option Value)} {oc10 kV10 dc10 pm10 cd10 ct10 : Value} {f10 : Addr} {od11 an11 : Option Addr} {sl11 : Array (Option Value)} {oc11 kV11 dc11 pm11 cd11 ct11 : Value} {f11 : Addr} {od12 an12 : Option Addr} {sl12 : Array (Option Value)} {oc12 kV12 dc12 pm12 cd12 ct12 : Value} {f12 : Addr} {od13 an13 : Option Addr} {sl13 : Array (Option Value)} {oc13 kV13 dc13 pm13 cd13 ct13 : Value} {f13 : Addr} {od14 an14 : Option Addr} {sl14 : Array (Option Value)} {oc14 kV14 dc14 pm14 cd14 ct14 : Value} {f14 : Addr} {od15 an15 : Option Addr} {sl15 : Array (Option Value)} {oc15 kV15 dc15 pm15 cd15 ct15 : Value} {f15 : Addr} {od16 an16 : Option Addr} {sl16 : Array (Option Value)} {oc16 kV16 dc16 pm16 cd16 ct16 : Value} {f16 : Addr} {od17 an17 : Option Addr} {sl17 : Array (Option Value)} {oc17 kV17 dc17 pm17 ct17 : Value} {f17 : Addr} {t_MOST_FIGURES : Tok} {a_PRIMES : Addr} {o_PRIMES : Option Addr} {n_PRIMES : Nat} {s_PRIMES : Array (Option Value)} {t_PRIMES_0 t_PRIMES_1 t_PRIMES_2 : Tok} {C_NoSide f_NoSide cda_NoSide cc_NoSide S_NoSide : Addr} {nm_NoSide q_NoSide : Str} {ns_NoSide : Addr} {bs_NoSide : List Value} {sn_NoSide : List Str} {sub_NoSide : List Value} {ab_NoSide : Bool} {col_NoSide : Option Bool} {dd_NoSide : Option Addr} {m0_NoSide m1_NoSide m2_NoSide m3_NoSide m5_NoSide : Option Value} {oc_NoSide : Value} {od_NoSide : Option Addr} {dc_NoSide pm_NoSide : Value} {an_NoSide : Option Addr} {ct_NoSide : Value} {sl_NoSide : Array (Option Value)} {kl_NoSide : Value} {kd_NoSide : Option Addr} {vs_NoSide : Array Value} {ks_NoSide : Array (Option Value)} {fl_NoSide : Str} {tf_NoSide : Tok} {ll_NoSide : Value} {ld_NoSide : Option Addr} {ls_NoSide : Array (Option Value)} {C_NotTurned f_NotTurned cda_NotTurned cc_NotTurned S_NotTurned : Addr} {nm_NotTurned q_NotTurned : Str} {ns_NotTurned : Addr} {bs_NotTurned : List Value} {sn_NotTurned : List Str} {sub_NotTurned : List Value} {ab_NotTurned : Bool} {col_NotTurned : Option Bool} {dd_NotTurned : Option Addr} {m0_NotTurned m1_NotTurned m2_NotTurned m3_NotTurned m5_NotTurned : Option Value} {oc_NotTurned : Value} {od_NotTurned : Option Addr} {dc_NotTurned pm_NotTurned : Value} {an_NotTurned : Option Addr} {ct_NotTurned : Value} {sl_NotTurned : Array (Option Value)} {kl_NotTurned : Value} {kd_NotTurned : Option Addr} {vs_NotTurned : Array Value} {ks_NotTurned : Array (Option Value)} {fl_NotTurned : Str} {tf_NotTurned : Tok} {ll_NotTurned : Value} {ld_NotTurned : Option Addr} {ls_NotTurned : Array (Option Value)} {c_law cP C_BadRow : Addr} {kl_law : Value} {kd_law : Option Addr} {vs_law : Array Value} {ks_law : Array (Option Value)}
    (a0 : PySem.W.nsIn K mainGlobals "_law_dice" = some (some (.ref f0))) (l0 : K.lookup f0 = some ⟨oc0, od0, .func (PySem.W.fnOf "_law_dice" "_law_dice" (defArgs s__law_dice) (defBody s__law_dice) (defScope s__law_dice) .none kV0 dc0 pm0 an0 cd0 ct0), sl0⟩) (c0 : PySem.W.codeIn K cd0 "_law_dice" = true) (k0 : PySem.W.keepIn K (.ref f0) = true)
    (a1 : PySem.W.nsIn K mainGlobals "_law_next" = some (some (.ref f1))) (l1 : K.lookup f1 = some ⟨oc1, od1, .func (PySem.W.fnOf "_law_next" "_law_next" (defArgs s__law_next) (defBody s__law_next) (defScope s__law_next) .none kV1 dc1 pm1 an1 cd1 ct1), sl1⟩) (c1 : PySem.W.codeIn K cd1 "_law_next" = true) (k1 : PySem.W.keepIn K (.ref f1) = true)
    (a2 : PySem.W.nsIn K mainGlobals "_law_row" = some (some (.ref f2))) (l2 : K.lookup f2 = some ⟨oc2, od2, .func (PySem.W.fnOf "_law_row" "_law_row" (defArgs s__law_row) (defBody s__law_row) (defScope s__law_row) .none kV2 dc2 pm2 an2 cd2 ct2), sl2⟩) (c2 : PySem.W.codeIn K cd2 "_law_row" = true) (k2 : PySem.W.keepIn K (.ref f2) = true)
    (a3 : PySem.W.nsIn K mainGlobals "_law_smooth" = some (some (.ref f3))) (l3 : K.lookup f3 = some ⟨oc3, od3, .func (PySem.W.fnOf "_law_smooth" "_law_smooth" (defArgs s__law_smooth) (defBody s__law_smooth) (defScope s__law_smooth) .none kV3 dc3 pm3 an3 cd3 ct3), sl3⟩) (c3 : PySem.W.codeIn K cd3 "_law_smooth" = true) (k3 : PySem.W.keepIn K (.ref f3) = true)
    (a4 : PySem.W.nsIn K mainGlobals "_law_drawn" = some (some (.ref f4))) (l4 : K.lookup f4 = some ⟨oc4, od4, .func (PySem.W.fnOf "_law_drawn" "_law_drawn" (defArgs s__law_drawn) (defBody s__law_drawn) (defScope s__law_drawn) .none kV4 dc4 pm4 an4 cd4 ct4), sl4⟩) (c4 : PySem.W.codeIn K cd4 "_law_drawn" = true) (k4 : PySem.W.keepIn K (.ref f4) = true)
    (a5 : PySem.W.nsIn K mainGlobals "_law_short" = some (some (.ref f5))) (l5 : K.lookup f5 = some ⟨oc5, od5, .func (PySem.W.fnOf "_law_short" "_law_short" (defArgs s__law_short) (defBody s__law_short) (defScope s__law_short) .none kV5 dc5 pm5 an5 cd5 ct5), sl5⟩) (c5 : PySem.W.codeIn K cd5 "_law_short" = true) (k5 : PySem.W.keepIn K (.ref f5) = true)
    (a6 : PySem.W.nsIn K mainGlobals "_law_whole_of" = some (some (.ref f6))) (l6 : K.lookup f6 = some ⟨oc6, od6, .func (PySem.W.fnOf "_law_whole_of" "_law_whole_of" (defArgs s__law_whole_of) (defBody s__law_whole_of) (defScope s__law_whole_of) .none kV6 dc6 pm6 an6 cd6 ct6), sl6⟩) (c6 : PySem.W.codeIn K cd6 "_law_whole_of" = true) (k6 : PySem.W.keepIn K (.ref f6) = true)
    (a7 : PySem.W.nsIn K mainGlobals "_law_word" = some (some (.ref f7))) (l7 : K.lookup f7 = some ⟨oc7, od7, .func (PySem.W.fnOf "_law_word" "_law_word" (defArgs s__law_word) (defBody s__law_word) (defScope s__law_word) .none kV7 dc7 pm7 an7 cd7 ct7), sl7⟩) (c7 : PySem.W.codeIn K cd7 "_law_word" = true) (k7 : PySem.W.keepIn K (.ref f7) = true)
    (a8 : PySem.W.nsIn K mainGlobals "figures_of" = some (some (.ref f8))) (l8 : K.lookup f8 = some ⟨oc8, od8, .func (PySem.W.fnOf "figures_of" "figures_of" (defArgs s_figures_of) (defBody s_figures_of) (defScope s_figures_of) .none kV8 dc8 pm8 an8 cd8 ct8), sl8⟩) (c8 : PySem.W.codeIn K cd8 "figures_of" = true) (k8 : PySem.W.keepIn K (.ref f8) = true)
    (a9 : PySem.W.nsIn K mainGlobals "check_row" = some (some (.ref f9))) (l9 : K.lookup f9 = some ⟨oc9, od9, .func (PySem.W.fnOf "check_row" "check_row" (defArgs s_check_row) (defBody s_check_row) (defScope s_check_row) .none kV9 dc9 pm9 an9 cd9 ct9), sl9⟩) (c9 : PySem.W.codeIn K cd9 "check_row" = true) (k9 : PySem.W.keepIn K (.ref f9) = true)
    (a10 : PySem.W.nsIn K mainGlobals "whole_of" = some (some (.ref f10))) (l10 : K.lookup f10 = some ⟨oc10, od10, .func (PySem.W.fnOf "whole_of" "whole_of" (defArgs s_whole_of) (defBody s_whole_of) (defScope s_whole_of) .none kV10 dc10 pm10 an10 cd10 ct10), sl10⟩) (c10 : PySem.W.codeIn K cd10 "whole_of" = true) (k10 : PySem.W.keepIn K (.ref f10) = true)
    (a11 : PySem.W.nsIn K mainGlobals "near_side" = some (some (.ref f11))) (l11 : K.lookup f11 = some ⟨oc11, od11, .func (PySem.W.fnOf "near_side" "near_side" (defArgs s_near_side) (defBody s_near_side) (defScope s_near_side) .none kV11 dc11 pm11 an11 cd11 ct11), sl11⟩) (c11 : PySem.W.codeIn K cd11 "near_side" = true) (k11 : PySem.W.keepIn K (.ref f11) = true)
    (a12 : PySem.W.nsIn K mainGlobals "factors" = some (some (.ref f12))) (l12 : K.lookup f12 = some ⟨oc12, od12, .func (PySem.W.fnOf "factors" "factors" (defArgs s_factors) (defBody s_factors) (defScope s_factors) .none kV12 dc12 pm12 an12 cd12 ct12), sl12⟩) (c12 : PySem.W.codeIn K cd12 "factors" = true) (k12 : PySem.W.keepIn K (.ref f12) = true)
    (a13 : PySem.W.nsIn K mainGlobals "row_of" = some (some (.ref f13))) (l13 : K.lookup f13 = some ⟨oc13, od13, .func (PySem.W.fnOf "row_of" "row_of" (defArgs s_row_of) (defBody s_row_of) (defScope s_row_of) .none kV13 dc13 pm13 an13 cd13 ct13), sl13⟩) (c13 : PySem.W.codeIn K cd13 "row_of" = true) (k13 : PySem.W.keepIn K (.ref f13) = true)
    (a14 : PySem.W.nsIn K mainGlobals "side" = some (some (.ref f14))) (l14 : K.lookup f14 = some ⟨oc14, od14, .func (PySem.W.fnOf "side" "side" (defArgs s_side) (defBody s_side) (defScope s_side) .none kV14 dc14 pm14 an14 cd14 ct14), sl14⟩) (c14 : PySem.W.codeIn K cd14 "side" = true) (k14 : PySem.W.keepIn K (.ref f14) = true)
    (a15 : PySem.W.nsIn K mainGlobals "times" = some (some (.ref f15))) (l15 : K.lookup f15 = some ⟨oc15, od15, .func (PySem.W.fnOf "times" "times" (defArgs s_times) (defBody s_times) (defScope s_times) .none kV15 dc15 pm15 an15 cd15 ct15), sl15⟩) (c15 : PySem.W.codeIn K cd15 "times" = true) (k15 : PySem.W.keepIn K (.ref f15) = true)
    (a16 : PySem.W.nsIn K mainGlobals "squared" = some (some (.ref f16))) (l16 : K.lookup f16 = some ⟨oc16, od16, .func (PySem.W.fnOf "squared" "squared" (defArgs s_squared) (defBody s_squared) (defScope s_squared) .none kV16 dc16 pm16 an16 cd16 ct16), sl16⟩) (c16 : PySem.W.codeIn K cd16 "squared" = true) (k16 : PySem.W.keepIn K (.ref f16) = true)
    (a17 : PySem.W.nsIn K mainGlobals "law" = some (some (.ref f17))) (l17 : K.lookup f17 = some ⟨oc17, od17, .func (PySem.W.fnOf "law" "law" (defArgs s_law) (defBody s_law) (defScope s_law) .none kV17 dc17 pm17 an17 (.ref c_law) ct17), sl17⟩) (c17 : PySem.W.codeIn K (.ref c_law) "law" = true) (k17 : PySem.W.keepIn K (.ref f17) = true)
    (m_isqrt : PySem.W.nsIn K mainGlobals "isqrt" = some (some (.builtin "math.isqrt")))
    (z_int : PySem.W.nsIn K mainGlobals "int" = some none)
    (z_isinstance : PySem.W.nsIn K mainGlobals "isinstance" = some none)
    (z_len : PySem.W.nsIn K mainGlobals "len" = some none)
    (z_max : PySem.W.nsIn K mainGlobals "max" = some none)
    (z_min : PySem.W.nsIn K mainGlobals "min" = some none)
    (z_range : PySem.W.nsIn K mainGlobals "range" = some none)
    (z_reversed : PySem.W.nsIn K mainGlobals "reversed" = some none)
    (z_str : PySem.W.nsIn K mainGlobals "str" = some none)
    (z_tuple : PySem.W.nsIn K mainGlobals "tuple" = some none)
    (c_MOST_FIGURES : PySem.W.nsIn K mainGlobals "MOST_FIGURES" = some (some (.int 12 t_MOST_FIGURES)))
    (c_PRIMES : PySem.W.nsIn K mainGlobals "PRIMES" = some (some (.ref a_PRIMES))) (k_PRIMES : K.lookup a_PRIMES = some ⟨.type "tuple", o_PRIMES, .seq #[.int 2 t_PRIMES_0, .int 3 t_PRIMES_1, .int 5 t_PRIMES_2] n_PRIMES, s_PRIMES⟩)
    (ea_NoSide : PySem.W.nsIn K mainGlobals "NoSide" = some (some (.ref C_NoSide))) (ex_NoSide : K.lookup C_NoSide = some (excClassObj nm_NoSide q_NoSide C_NoSide ns_NoSide bs_NoSide [.ref S_NoSide, .type "ValueError", .type "Exception", .type "BaseException", .type "object"] true sn_NoSide sub_NoSide ab_NoSide col_NoSide dd_NoSide m0_NoSide m1_NoSide m2_NoSide m3_NoSide m5_NoSide "ValueError.__new__")) (es_NoSide : PySem.W.findIn K (.ref C_NoSide) "__setattr__" = some (some (.builtin "object.__setattr__"))) (eg_NoSide : PySem.W.findIn K (.ref C_NoSide) "__getattribute__" = some (some (.builtin "BaseException.__getattribute__"))) (eh_NoSide : PySem.W.findIn K (.ref C_NoSide) "__getattr__" = some none) (ef_NoSide : PySem.W.findIn K (.ref C_NoSide) "why" = some none) (ei_NoSide : PySem.W.findIn K (.ref C_NoSide) "__init__" = some (some (.ref f_NoSide))) (et_NoSide : PySem.W.typeIn K (.ref f_NoSide) = some (.type "function")) (ek_NoSide : PySem.W.keepIn K (.ref C_NoSide) = true) (eb_NoSide : PySem.W.subIn K (.ref C_NoSide) (.type "BaseException") = some true) (ety_NoSide : PySem.W.typeIn K (.ref C_NoSide) = some (.type "type")) (ed_NoSide : PySem.W.hasDictIn K C_NoSide = true) (el_NoSide : K.lookup f_NoSide = some ⟨oc_NoSide, od_NoSide, .func (PySem.W.ksFn "__init__" "NoSide.__init__" (PySem.Own_why.iA ⟨14, 17, 14, 21⟩ ⟨14, 23, 14, 26⟩) (PySem.Own_why.iB "no row has this row as its square" ⟨15, 8, 15, 13⟩ ⟨15, 8, 15, 15⟩ ⟨15, 8, 15, 24⟩ ⟨15, 25, 15, 60⟩ ⟨15, 8, 15, 61⟩ ⟨15, 8, 15, 61⟩ ⟨16, 8, 16, 12⟩ ⟨16, 8, 16, 16⟩ ⟨16, 19, 16, 22⟩ ⟨16, 8, 16, 22⟩) PySem.Own_why.iS .none .none dc_NoSide pm_NoSide an_NoSide (.ref cda_NoSide) ct_NoSide cc_NoSide), sl_NoSide⟩) (ec_NoSide : PySem.W.codeIn K (.ref cda_NoSide) "NoSide.__init__" = true) (eo_NoSide : K.lookup cda_NoSide = some ⟨kl_NoSide, kd_NoSide, .fields vs_NoSide, ks_NoSide⟩) (ev_NoSide : vs_NoSide[2]? = some (.str fl_NoSide tf_NoSide)) (ew_NoSide : ((l.prog.main.file : Str) == fl_NoSide) = true) (ell_NoSide : K.lookup cc_NoSide = some ⟨ll_NoSide, ld_NoSide, .cell (some (.ref C_NoSide)), ls_NoSide⟩) (eu_NoSide : PySem.W.ks_superIn K C_NoSide C_NoSide "__init__" = some (some (.builtin "ValueError.__init__"))) (ev2_NoSide : PySem.W.subIn K (.ref C_NoSide) (.type "ValueError") = some true) (em_NoSide : PySem.W.mroIn K C_NoSide (.ref C_NoSide) = some true) (er_NoSide : PySem.Own_why.Reads "no row has this row as its square" ⟨15, 8, 15, 13⟩ ⟨15, 8, 15, 15⟩ ⟨15, 8, 15, 24⟩ ⟨15, 25, 15, 60⟩ ⟨15, 8, 15, 61⟩)
    (ea_NotTurned : PySem.W.nsIn K mainGlobals "NotTurned" = some (some (.ref C_NotTurned))) (ex_NotTurned : K.lookup C_NotTurned = some (excClassObj nm_NotTurned q_NotTurned C_NotTurned ns_NotTurned bs_NotTurned [.ref S_NotTurned, .type "ValueError", .type "Exception", .type "BaseException", .type "object"] true sn_NotTurned sub_NotTurned ab_NotTurned col_NotTurned dd_NotTurned m0_NotTurned m1_NotTurned m2_NotTurned m3_NotTurned m5_NotTurned "ValueError.__new__")) (es_NotTurned : PySem.W.findIn K (.ref C_NotTurned) "__setattr__" = some (some (.builtin "object.__setattr__"))) (eg_NotTurned : PySem.W.findIn K (.ref C_NotTurned) "__getattribute__" = some (some (.builtin "BaseException.__getattribute__"))) (eh_NotTurned : PySem.W.findIn K (.ref C_NotTurned) "__getattr__" = some none) (ef_NotTurned : PySem.W.findIn K (.ref C_NotTurned) "left" = some none) (ei_NotTurned : PySem.W.findIn K (.ref C_NotTurned) "__init__" = some (some (.ref f_NotTurned))) (et_NotTurned : PySem.W.typeIn K (.ref f_NotTurned) = some (.type "function")) (ek_NotTurned : PySem.W.keepIn K (.ref C_NotTurned) = true) (eb_NotTurned : PySem.W.subIn K (.ref C_NotTurned) (.type "BaseException") = some true) (ety_NotTurned : PySem.W.typeIn K (.ref C_NotTurned) = some (.type "type")) (ed_NotTurned : PySem.W.hasDictIn K C_NotTurned = true) (el_NotTurned : K.lookup f_NotTurned = some ⟨oc_NotTurned, od_NotTurned, .func (PySem.W.ksFn "__init__" "NotTurned.__init__" (PySem.Own_left.iA ⟨9, 17, 9, 21⟩ ⟨9, 23, 9, 27⟩) (PySem.Own_left.iB "no row times the other row is the one" ⟨10, 8, 10, 13⟩ ⟨10, 8, 10, 15⟩ ⟨10, 8, 10, 24⟩ ⟨10, 25, 10, 64⟩ ⟨10, 8, 10, 65⟩ ⟨10, 8, 10, 65⟩ ⟨11, 8, 11, 12⟩ ⟨11, 8, 11, 17⟩ ⟨11, 20, 11, 24⟩ ⟨11, 8, 11, 24⟩) PySem.Own_left.iS .none .none dc_NotTurned pm_NotTurned an_NotTurned (.ref cda_NotTurned) ct_NotTurned cc_NotTurned), sl_NotTurned⟩) (ec_NotTurned : PySem.W.codeIn K (.ref cda_NotTurned) "NotTurned.__init__" = true) (eo_NotTurned : K.lookup cda_NotTurned = some ⟨kl_NotTurned, kd_NotTurned, .fields vs_NotTurned, ks_NotTurned⟩) (ev_NotTurned : vs_NotTurned[2]? = some (.str fl_NotTurned tf_NotTurned)) (ew_NotTurned : ((l.prog.main.file : Str) == fl_NotTurned) = true) (ell_NotTurned : K.lookup cc_NotTurned = some ⟨ll_NotTurned, ld_NotTurned, .cell (some (.ref C_NotTurned)), ls_NotTurned⟩) (eu_NotTurned : PySem.W.ks_superIn K C_NotTurned C_NotTurned "__init__" = some (some (.builtin "ValueError.__init__"))) (ev2_NotTurned : PySem.W.subIn K (.ref C_NotTurned) (.type "ValueError") = some true) (em_NotTurned : PySem.W.mroIn K C_NotTurned (.ref C_NotTurned) = some true) (er_NotTurned : PySem.Own_left.Reads "no row times the other row is the one" ⟨10, 8, 10, 13⟩ ⟨10, 8, 10, 15⟩ ⟨10, 8, 10, 24⟩ ⟨10, 25, 10, 64⟩ ⟨10, 8, 10, 65⟩)
    (x_lc : K.lookup c_law = some ⟨kl_law, kd_law, .fields vs_law, ks_law⟩) (x_vP : vs_law[11]? = some (.ref cP)) (x_nP : K.lookup cP = none) (x_bad : PySem.W.nsIn K mainGlobals "BadRow" = some (some (.ref C_BadRow))) (x_SS : PySem.W.exmOne K (.ref C_NoSide) (.ref C_NoSide) = some true) (x_TS : PySem.W.exmOne K (.ref C_NotTurned) (.ref C_NoSide) = some false) (x_TT : PySem.W.exmOne K (.ref C_NotTurned) (.ref C_NotTurned) = some true)
    (e_sup : PySem.W.nsIn K mainGlobals "super" = some none) (e_any : PySem.W.nsIn K PySem.cStatics "thirdparty.any" = some none) (e_top : (l.prog.main.scope.names.lookup ("super" : Str)).isSome = false) :
    ∃ (fd : FuncData) (c P : Addr) (sp : Sp), PySem.W.tabIn K "law" = some (c, P) ∧ K.lookup P = none ∧ (∀ (s : Shared) (u : Value), BindsTo s fd ⟨[u], []⟩ [("_law_script", u)]) ∧ (∀ (H : Hp) (a : Addr) (ns : List Int), ns.length ≤ 63 → H P = some (.tbl #[]) → SqL K H a (ns.map V.int) → sp [.ref a] H (fun v _ => v = .bl true) fun _ _ _ => False) ∧ ∀ base : Heap, K.In base → base.Ns mainGlobals mg → LamX.TabB base mg c P → FnOk l.prog w K mg base CX0 7 fa fd ["_law_script"] sp := by
  have e := hfa.symm.trans (PySem.W.mg_of X G a17)
  cases e
  have F0 := fun_mk (st := s__law_dice) l0 c0 k0
  have F1 := fun_mk (st := s__law_next) l1 c1 k1
  have F2 := fun_mk (st := s__law_row) l2 c2 k2
  have F3 := fun_mk (st := s__law_smooth) l3 c3 k3
  have F4 := fun_mk (st := s__law_drawn) l4 c4 k4
  have F5 := fun_mk (st := s__law_short) l5 c5 k5
  have F6 := fun_mk (st := s__law_whole_of) l6 c6 k6
  have F7 := fun_mk (st := s__law_word) l7 c7 k7
  have F8 := fun_mk (st := s_figures_of) l8 c8 k8
  have F9 := fun_mk (st := s_check_row) l9 c9 k9
  have F10 := fun_mk (st := s_whole_of) l10 c10 k10
  have F11 := fun_mk (st := s_near_side) l11 c11 k11
  have F12 := fun_mk (st := s_factors) l12 c12 k12
  have F13 := fun_mk (st := s_row_of) l13 c13 k13
  have F14 := fun_mk (st := s_side) l14 c14 k14
  have F15 := fun_mk (st := s_times) l15 c15 k15
  have F16 := fun_mk (st := s_squared) l16 c16 k16
  have F17 := fun_mk (st := s_law) l17 c17 k17
  let T : Tx l.prog w K mg := {
    a__law_dice := f0,
    d__law_dice := _,
    F__law_dice := F0,
    g__law_dice := PySem.W.mg_of X G a0,
    b__law_dice := F0.binds (ps := ["_law_script"]) (fun _ _ _ _ _ _ us hl => match us, hl with | [_], _ => rfl),
    a__law_next := f1,
    d__law_next := _,
    F__law_next := F1,
    g__law_next := PySem.W.mg_of X G a1,
    b__law_next := F1.binds (ps := ["_law_dice_here", "_law_many"]) (fun _ _ _ _ _ _ us hl => match us, hl with | [_, _], _ => rfl),
    a__law_row := f2,
    d__law_row := _,
    F__law_row := F2,
    g__law_row := PySem.W.mg_of X G a2,
    b__law_row := F2.binds (ps := ["_law_number"]) (fun _ _ _ _ _ _ us hl => match us, hl with | [_], _ => rfl),
    a__law_smooth := f3,
    d__law_smooth := _,
    F__law_smooth := F3,
    g__law_smooth := PySem.W.mg_of X G a3,
    b__law_smooth := F3.binds (ps := ["_law_d"]) (fun _ _ _ _ _ _ us hl => match us, hl with | [_], _ => rfl),
    a__law_drawn := f4,
    d__law_drawn := _,
    F__law_drawn := F4,
    g__law_drawn := PySem.W.mg_of X G a4,
    b__law_drawn := F4.binds (ps := ["_law_d", "_law_most"]) (fun _ _ _ _ _ _ us hl => match us, hl with | [_, _], _ => rfl),
    a__law_short := f5,
    d__law_short := _,
    F__law_short := F5,
    g__law_short := PySem.W.mg_of X G a5,
    b__law_short := F5.binds (ps := ["_law_d", "_law_most"]) (fun _ _ _ _ _ _ us hl => match us, hl with | [_, _], _ => rfl),
    a__law_whole_of := f6,
    d__law_whole_of := _,
    F__law_whole_of := F6,
    g__law_whole_of := PySem.W.mg_of X G a6,
    b__law_whole_of := F6.binds (ps := ["_law_row_here"]) (fun _ _ _ _ _ _ us hl => match us, hl with | [_], _ => rfl),
    a__law_word := f7,
    d__law_word := _,
    F__law_word := F7,
    g__law_word := PySem.W.mg_of X G a7,
    b__law_word := F7.binds (ps := ["_law_work"]) (fun _ _ _ _ _ _ us hl => match us, hl with | [_], _ => rfl),
    a_figures_of := f8,
    d_figures_of := _,
    F_figures_of := F8,
    g_figures_of := PySem.W.mg_of X G a8,
    b_figures_of := F8.binds (ps := ["number"]) (fun _ _ _ _ _ _ us hl => match us, hl with | [_], _ => rfl),
    a_check_row := f9,
    d_check_row := _,
    F_check_row := F9,
    g_check_row := PySem.W.mg_of X G a9,
    b_check_row := F9.binds (ps := ["row"]) (fun _ _ _ _ _ _ us hl => match us, hl with | [_], _ => rfl),
    a_whole_of := f10,
    d_whole_of := _,
    F_whole_of := F10,
    g_whole_of := PySem.W.mg_of X G a10,
    b_whole_of := F10.binds (ps := ["row"]) (fun _ _ _ _ _ _ us hl => match us, hl with | [_], _ => rfl),
    a_near_side := f11,
    d_near_side := _,
    F_near_side := F11,
    g_near_side := PySem.W.mg_of X G a11,
    b_near_side := F11.binds (ps := ["row", "is_odd", "places"]) (fun _ _ _ _ _ _ us hl => match us, hl with | [_, _, _], _ => rfl),
    a_factors := f12,
    d_factors := _,
    F_factors := F12,
    g_factors := PySem.W.mg_of X G a12,
    b_factors := F12.binds (ps := ["row"]) (fun _ _ _ _ _ _ us hl => match us, hl with | [_], _ => rfl),
    a_row_of := f13,
    d_row_of := _,
    F_row_of := F13,
    g_row_of := PySem.W.mg_of X G a13,
    b_row_of := F13.binds (ps := ["number"]) (fun _ _ _ _ _ _ us hl => match us, hl with | [_], _ => rfl),
    a_side := f14,
    d_side := _,
    F_side := F14,
    g_side := PySem.W.mg_of X G a14,
    b_side := F14.binds (ps := ["row"]) (fun _ _ _ _ _ _ us hl => match us, hl with | [_], _ => rfl),
    a_times := f15,
    d_times := _,
    F_times := F15,
    g_times := PySem.W.mg_of X G a15,
    b_times := F15.binds (ps := ["one", "other"]) (fun _ _ _ _ _ _ us hl => match us, hl with | [_, _], _ => rfl),
    a_squared := f16,
    d_squared := _,
    F_squared := F16,
    g_squared := PySem.W.mg_of X G a16,
    b_squared := F16.binds (ps := ["row"]) (fun _ _ _ _ _ _ us hl => match us, hl with | [_], _ => rfl),
    a_law := fa,
    d_law := _,
    F_law := F17,
    g_law := PySem.W.mg_of X G a17,
    b_law := F17.binds (ps := ["_law_script"]) (fun _ _ _ _ _ _ us hl => match us, hl with | [_], _ => rfl),
    z_int := PySem.W.mg_none_of X G z_int,
    z_isinstance := PySem.W.mg_none_of X G z_isinstance,
    z_len := PySem.W.mg_none_of X G z_len,
    z_max := PySem.W.mg_none_of X G z_max,
    z_min := PySem.W.mg_none_of X G z_min,
    z_range := PySem.W.mg_none_of X G z_range,
    z_reversed := PySem.W.mg_none_of X G z_reversed,
    z_str := PySem.W.mg_none_of X G z_str,
    z_tuple := PySem.W.mg_none_of X G z_tuple,
    m_isqrt := PySem.W.mg_of X G m_isqrt,
    c_MOST_FIGURES := ⟨_, PySem.W.mg_of X G c_MOST_FIGURES⟩,
    c_PRIMES := ⟨_, PySem.W.mg_of X G c_PRIMES, fun H => .inr ⟨_, _, _, k_PRIMES, rfl, rfl, (by show 3 ≤ sizeLine; decide), .cons ⟨_, rfl⟩ (.cons ⟨_, rfl⟩ (.cons ⟨_, rfl⟩ (.nil)))⟩⟩,
    wk := { gS := PySem.W.mg_of X G ea_NoSide, gT := PySem.W.mg_of X G ea_NotTurned, gB := PySem.W.mg_of X G x_bad, xS := ⟨eg_NoSide, eh_NoSide, eb_NoSide, ed_NoSide⟩, xT := ⟨eg_NotTurned, eh_NotTurned, eb_NotTurned, ed_NotTurned⟩, nS := ef_NoSide, nT := ef_NotTurned, eSS := x_SS, eTS := x_TS, eTT := x_TT },
    e := ⟨0, C_BadRow, C_NotTurned, C_NoSide, 0, 0⟩,
    e_NoSide := PySem.Own_why.own_c (fI := f_NoSide) { gC := PySem.W.mg_of X G ea_NoSide, noS := PySem.W.mg_none_of X G e_sup, cls := ⟨_, _, _, _, _, _, _, _, _, _, _, _, _, _, _, ex_NoSide, (show PySem.HandSPX.refsVE [.type "ValueError", .type "Exception", .type "BaseException", .type "object"] = true by decide +kernel)⟩, sa := es_NoSide, xf := ⟨eg_NoSide, eh_NoSide, eb_NoSide, ed_NoSide⟩, noN := ef_NoSide, iC := ei_NoSide, tC := et_NoSide, kC := ek_NoSide, exC := eb_NoSide, tyC := ety_NoSide, sup := eu_NoSide, sV := ev2_NoSide, mC := em_NoSide, any := e_any, top := e_top, fn := ⟨_, _, _, _, _, _, _, _, _, _, _, _, _, _, _, _, _, _, _, _, _, _, _, _, _, _, _, _, _, _, _, _, el_NoSide, ec_NoSide, eo_NoSide, ev_NoSide, ew_NoSide, ell_NoSide, er_NoSide⟩ },
    e_NotTurned := PySem.Own_left.own_c (fI := f_NotTurned) { gC := PySem.W.mg_of X G ea_NotTurned, noS := PySem.W.mg_none_of X G e_sup, cls := ⟨_, _, _, _, _, _, _, _, _, _, _, _, _, _, _, ex_NotTurned, (show PySem.HandSPX.refsVE [.type "ValueError", .type "Exception", .type "BaseException", .type "object"] = true by decide +kernel)⟩, sa := es_NotTurned, xf := ⟨eg_NotTurned, eh_NotTurned, eb_NotTurned, ed_NotTurned⟩, noN := ef_NotTurned, iC := ei_NotTurned, tC := et_NotTurned, kC := ek_NotTurned, exC := eb_NotTurned, tyC := ety_NotTurned, sup := eu_NotTurned, sV := ev2_NotTurned, mC := em_NotTurned, any := e_any, top := e_top, fn := ⟨_, _, _, _, _, _, _, _, _, _, _, _, _, _, _, _, _, _, _, _, _, _, _, _, _, _, _, _, _, _, _, _, el_NotTurned, ec_NotTurned, eo_NotTurned, ev_NotTurned, ew_NotTurned, ell_NotTurned, er_NotTurned⟩ } }
  exact ⟨PySem.W.fnOf "law" "law" (defArgs s_law) (defBody s_law) (defScope s_law) .none kV17 dc17 pm17 an17 (.ref c_law) ct17, c_law, cP, sp_law K cP, by unfold PySem.W.tabIn; rw [a17]; simp only [l17, x_lc, x_vP], x_nP, fun s u => .of_eq rfl, fun H a ns hl hP hS => ⟨a, ns, rfl, hS, hl, hP, fun _ => rfl⟩, fun base _ _ TB => ok_law T ⟨⟨_, _, _, _, _, _, _, _, rfl, l17, c17⟩⟩ TB⟩
end Sx
open PySem PySem.W PyProof.Rows
set_option maxRecDepth 100000 in
set_option maxHeartbeats 0 in
theorem PySem.Challenge.cw_sixtyfold_k33_whole_near_sides_figure_by_holds : PySem.Challenge.rw_sixtyfold_k33_whole_near_sides_figure_by.Holds := by
  w_on; o_law; k_head; (case hw => w_witness2)
  k_fill
  refine L2.walk_lam (l := PySem.Challenge.rw_sixtyfold_k33_whole_near_sides_figure_by) (n := 63) (k := 7) (x := "_law_script") rfl (by decide) rfl ⟨rfl, by decide, by decide⟩ (fun w h Y => PySem.W.km_in_of Y) ⟨_, by first | rfl | kernel_rfl⟩ ?F
  case F =>
    intro w mg fa h KX G hmg
    refine' Sx.all_mk KX G hmg ?a0 ?l0 ?c0 ?k0 ?a1 ?l1 ?c1 ?k1 ?a2 ?l2 ?c2 ?k2 ?a3 ?l3 ?c3 ?k3 ?a4 ?l4 ?c4 ?k4 ?a5 ?l5 ?c5 ?k5 ?a6 ?l6 ?c6 ?k6 ?a7 ?l7 ?c7 ?k7 ?a8 ?l8 ?c8 ?k8 ?a9 ?l9 ?c9 ?k9 ?a10 ?l10 ?c10 ?k10 ?a11 ?l11 ?c11 ?k11 ?a12 ?l12 ?c12 ?k12 ?a13 ?l13 ?c13 ?k13 ?a14 ?l14 ?c14 ?k14 ?a15 ?l15 ?c15 ?k15 ?a16 ?l16 ?c16 ?k16 ?a17 ?l17 ?c17 ?k17 ?m_isqrt ?z_int ?z_isinstance ?z_len ?z_max ?z_min ?z_range ?z_reversed ?z_str ?z_tuple ?c_MOST_FIGURES ?c_PRIMES ?k_PRIMES ?ea_NoSide ?ex_NoSide ?es_NoSide ?eg_NoSide ?eh_NoSide ?ef_NoSide ?ei_NoSide ?et_NoSide ?ek_NoSide ?eb_NoSide ?ety_NoSide ?ed_NoSide ?el_NoSide ?ec_NoSide ?eo_NoSide ?ev_NoSide ?ew_NoSide ?ell_NoSide ?eu_NoSide ?ev2_NoSide ?em_NoSide ?er_NoSide ?ea_NotTurned ?ex_NotTurned ?es_NotTurned ?eg_NotTurned ?eh_NotTurned ?ef_NotTurned ?ei_NotTurned ?et_NotTurned ?ek_NotTurned ?eb_NotTurned ?ety_NotTurned ?ed_NotTurned ?el_NotTurned ?ec_NotTurned ?eo_NotTurned ?ev_NotTurned ?ew_NotTurned ?ell_NotTurned ?eu_NotTurned ?ev2_NotTurned ?em_NotTurned ?er_NotTurned ?x_lc ?x_vP ?x_nP ?x_bad ?x_SS ?x_TS ?x_TT ?e_sup ?e_any ?e_top
    (case a0 => k_is)
    (case l0 => k_is)
    (case c0 => k_is)
    (case k0 => k_is)
    (case a1 => k_is)
    (case l1 => k_is)
    (case c1 => k_is)
    (case k1 => k_is)
    (case a2 => k_is)
    (case l2 => k_is)
    (case c2 => k_is)
    (case k2 => k_is)
    (case a3 => k_is)
    (case l3 => k_is)
    (case c3 => k_is)
    (case k3 => k_is)
    (case a4 => k_is)
    (case l4 => k_is)
    (case c4 => k_is)
    (case k4 => k_is)
    (case a5 => k_is)
    (case l5 => k_is)
    (case c5 => k_is)
    (case k5 => k_is)
    (case a6 => k_is)
    (case l6 => k_is)
    (case c6 => k_is)
    (case k6 => k_is)
    (case a7 => k_is)
    (case l7 => k_is)
    (case c7 => k_is)
    (case k7 => k_is)
    (case a8 => k_is)
    (case l8 => k_is)
    (case c8 => k_is)
    (case k8 => k_is)
    (case a9 => k_is)
    (case l9 => k_is)
    (case c9 => k_is)
    (case k9 => k_is)
    (case a10 => k_is)
    (case l10 => k_is)
    (case c10 => k_is)
    (case k10 => k_is)
    (case a11 => k_is)
    (case l11 => k_is)
    (case c11 => k_is)
    (case k11 => k_is)
    (case a12 => k_is)
    (case l12 => k_is)
    (case c12 => k_is)
    (case k12 => k_is)
    (case a13 => k_is)
    (case l13 => k_is)
    (case c13 => k_is)
    (case k13 => k_is)
    (case a14 => k_is)
    (case l14 => k_is)
    (case c14 => k_is)
    (case k14 => k_is)
    (case a15 => k_is)
    (case l15 => k_is)
    (case c15 => k_is)
    (case k15 => k_is)
    (case a16 => k_is)
    (case l16 => k_is)
    (case c16 => k_is)
    (case k16 => k_is)
    (case a17 => k_is)
    (case l17 => k_is)
    (case c17 => k_is)
    (case k17 => k_is)
    (case m_isqrt => k_is)
    (case z_int => k_is)
    (case z_isinstance => k_is)
    (case z_len => k_is)
    (case z_max => k_is)
    (case z_min => k_is)
    (case z_range => k_is)
    (case z_reversed => k_is)
    (case z_str => k_is)
    (case z_tuple => k_is)
    (case c_MOST_FIGURES => k_is)
    (case c_PRIMES => k_is)
    (case k_PRIMES => k_is)
    (case ea_NoSide => k_is)
    (case ex_NoSide => k_is)
    (case es_NoSide => k_is)
    (case eg_NoSide => k_is)
    (case eh_NoSide => k_is)
    (case ef_NoSide => k_is)
    (case ei_NoSide => k_is)
    (case et_NoSide => k_is)
    (case ek_NoSide => k_is)
    (case eb_NoSide => k_is)
    (case ety_NoSide => k_is)
    (case ed_NoSide => k_is)
    (case el_NoSide => k_is)
    (case ec_NoSide => k_is)
    (case eo_NoSide => k_is)
    (case ev_NoSide => rfl)
    (case ew_NoSide => first | rfl | decide +kernel)
    (case ell_NoSide => k_is)
    (case eu_NoSide => first | k_is | ks_is)
    (case ev2_NoSide => k_is)
    (case em_NoSide => k_is)
    (case er_NoSide => exact ⟨_, fun _ => rfl⟩)
    (case ea_NotTurned => k_is)
    (case ex_NotTurned => k_is)
    (case es_NotTurned => k_is)
    (case eg_NotTurned => k_is)
    (case eh_NotTurned => k_is)
    (case ef_NotTurned => k_is)
    (case ei_NotTurned => k_is)
    (case et_NotTurned => k_is)
    (case ek_NotTurned => k_is)
    (case eb_NotTurned => k_is)
    (case ety_NotTurned => k_is)
    (case ed_NotTurned => k_is)
    (case el_NotTurned => k_is)
    (case ec_NotTurned => k_is)
    (case eo_NotTurned => k_is)
    (case ev_NotTurned => rfl)
    (case ew_NotTurned => first | rfl | decide +kernel)
    (case ell_NotTurned => k_is)
    (case eu_NotTurned => first | k_is | ks_is)
    (case ev2_NotTurned => k_is)
    (case em_NotTurned => k_is)
    (case er_NotTurned => exact ⟨_, fun _ => rfl⟩)
    (case x_lc => k_is)
    (case x_vP => rfl)
    (case x_nP => first | rfl | kernel_rfl)
    (case x_bad => k_is)
    (case x_SS => kts_exm)
    (case x_TS => kts_exm)
    (case x_TT => kts_exm)
    (case e_sup => k_is)
    (case e_any => k_is)
    (case e_top => decide +kernel)

