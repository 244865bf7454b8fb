import PyProof.Rows.All
import Wide.All
import OpenK.AllK
import Wide.FinOn
import HandS.ForMost
import HandS.Wide
import HandS.Rev
import HandS.Style
import HandS.TupAny
import HandS.IsInst
import HandS.Flow
import KE.KTupSum
import KE.DataMinMax
import HandS.Steps
import HandS.Gcd
import Flt.RightSqrt
import PySem.Challenge.RW_sixtyfold_k06_whole_near_sides
set_option Elab.async false
set_option linter.all false
set_option maxRecDepth 100000
namespace L2
open PySem PySem.Spec PyProof.Rows
/-! ### min, max, sum of a tuple of whole numbers: the walk of a tuple in the place of a list's -/
section
variable {prog : Program} {w : World} {A : Around} {E : Value → Shared → Prop} {s : Shared} {l : Addr}
/-- the walk over a tuple of ints as min and max ask for it: where its iterator stands, and that what stood stands behind it -/
theorem tup_walk {xs : Array (Int × Tok)} (hh : A.handled = none) (hl : s.heap.IsTuple l (intItems xs)) {R : Value → Shared → Prop}
    (k : ∀ s₂ : Shared, s₂ = { s with heap := s.heap.push { cls := .type "tuple_iterator", data := .fields #[.ref l, .int 0 0] } } → Walks prog w A s.heap.objs.size [s.heap.objs.size, l] [s.heap.objs.size] (intItems xs).size (fun i v => (intItems xs)[i]? = some v) (fun i h => h.IsTupleIter s.heap.objs.size l i ∧ h.IsTuple l (intItems xs)) →
      (s₂.heap.IsTupleIter s.heap.objs.size l 0 ∧ s₂.heap.IsTuple l (intItems xs)) → (∀ b ∈ [s.heap.objs.size, l], b < s₂.heap.objs.size) → (∀ (h' : Heap), (∀ b o, b ∉ [s.heap.objs.size] → s₂.heap.get? b = some o → h'.get? b = some o) → ∀ b o, s.heap.get? b = some o → h'.get? b = some o) → R (.ref s.heap.objs.size) s₂) :
    wpAny (model prog w) A (pyIter (.ref l)) R E s := by
  have hlt : l < s.heap.objs.size := hl.elim fun _ z => Heap.lt_size z.1
  refine wpAny_pyIter_tuple hl (k _ rfl (Walks.tuple hh _ l (Nat.ne_of_lt hlt) (intItems xs)) ⟨⟨_, Heap.get?_push_size _ rfl, rfl, rfl⟩, hl.push _⟩ (fun b hb => ?_) fun h' hk b o e => ?_)
  · rw [Heap.size_push]; simp only [List.mem_cons, List.not_mem_nil, or_false] at hb; exact hb.elim (fun z => z ▸ Nat.lt_succ_self _) (fun z => z ▸ Nat.lt_succ_of_lt hlt)
  · exact hk b o (fun z => Nat.lt_irrefl _ ((List.mem_singleton.mp z) ▸ Heap.lt_size e)) (Heap.get?_push_of_some _ e)
theorem ints_of {its : List Value} {ns : List Int} (hi : IntsAre its ns) : ∃ xs : Array (Int × Tok), its.toArray = intItems xs ∧ ns = (xs.toList.map (·.1)) := by
  obtain ⟨xs, e⟩ := hi.allInts.items; refine ⟨xs, e, ?_⟩; rw [← nums_intItems, ← e]; exact hi.numsOf.symm
theorem sum_rawT {its : List Value} {ns : List Int} {Q : Value → Shared → Prop} (hh : A.handled = none) (hl : s.heap.IsTuple l its.toArray) (hi : IntsAre its ns)
    (h : ∀ h' tk t', (∀ b o, s.heap.get? b = some o → h'.get? b = some o) → Q (.int ns.sum t') { s with heap := h', toks := tk }) :
      wpAny (model prog w) A (call (.builtin "sum") [.ref l]) Q E s := by -- of a tuple
  obtain ⟨xs, e, rfl⟩ := ints_of hi; rw [e] at hl
  exact PySem.W.ktm_sumG hh hl fun h' tk t' hk => by rw [preSum_eq, List.take_of_length_le (by simp)]; exact h h' tk t' hk
theorem max_rawT {its : List Value} {ns : List Int} {Q : Value → Shared → Prop} (hh : A.handled = none) (hl : s.heap.IsTuple l its.toArray) (hi : IntsAre its ns) (hne : 0 < ns.length)
    (h : ∀ h' tk M t', (∀ b o, s.heap.get? b = some o → h'.get? b = some o) → M ∈ ns → (∀ a, a ∈ ns → a ≤ M) → Q (.int M t') { s with heap := h', toks := tk }) :
      wpAny (model prog w) A (call (.builtin "max") [.ref l]) Q E s := by -- of a tuple
  obtain ⟨xs, e, rfl⟩ := ints_of hi; rw [e] at hl
  have hsz : 0 < xs.size := by rw [List.length_map, Array.length_toList] at hne; exact hne
  obtain ⟨h1, h2⟩ := argBest_gt (numAt xs) (xs.size - 1)
  refine call_max_walk (tup_walk (A := A.in1) hh hl fun s₂ e2 W st hfp hk => ⟨_, _, _, _, _, _, _, rfl, W, st, hfp, by simpa [intItems] using hsz, CmpOf.ints_gt (numAt xs) (fun _ _ => intItems_at), fun v h' tk hP hold => ?_⟩)
  subst e2; obtain ⟨t, rfl⟩ := intItems_at hP; have e3 : (intItems xs).size = xs.size := by simp [intItems]
  rw [e3, numAt_eq]; refine h h' tk _ t (hk h' hold) (PySem.getD_mem (by rw [List.length_map, Array.length_toList]; omega)) fun a ha => ?_
  obtain ⟨j, hj, rfl⟩ := mem_getD ha; have z := h2 j (by rw [List.length_map, Array.length_toList] at hj; omega); rw [numAt_eq, numAt_eq] at z; exact z
theorem min_rawT {its : List Value} {ns : List Int} {Q : Value → Shared → Prop} (hh : A.handled = none) (hl : s.heap.IsTuple l its.toArray) (hi : IntsAre its ns) (hne : 0 < ns.length)
    (h : ∀ h' tk M t', (∀ b o, s.heap.get? b = some o → h'.get? b = some o) → M ∈ ns → (∀ a, a ∈ ns → M ≤ a) → Q (.int M t') { s with heap := h', toks := tk }) :
      wpAny (model prog w) A (call (.builtin "min") [.ref l]) Q E s := by -- of a tuple
  obtain ⟨xs, e, rfl⟩ := ints_of hi; rw [e] at hl
  have hsz : 0 < xs.size := by rw [List.length_map, Array.length_toList] at hne; exact hne
  obtain ⟨h1, h2⟩ := argBest_lt (numAt xs) (xs.size - 1)
  refine call_min_walk (tup_walk (A := A.in1) hh hl fun s₂ e2 W st hfp hk => ⟨_, _, _, _, _, _, _, rfl, W, st, hfp, by simpa [intItems] using hsz, CmpOf.ints_lt (numAt xs) (fun _ _ => intItems_at), fun v h' tk hP hold => ?_⟩)
  subst e2; obtain ⟨t, rfl⟩ := intItems_at hP; have e3 : (intItems xs).size = xs.size := by simp [intItems]
  rw [e3, numAt_eq]; refine h h' tk _ t (hk h' hold) (PySem.getD_mem (by rw [List.length_map, Array.length_toList]; omega)) fun a ha => ?_
  obtain ⟨j, hj, rfl⟩ := mem_getD ha; have z := h2 j (by rw [List.length_map, Array.length_toList] at hj; omega); rw [numAt_eq, numAt_eq] at z; exact z
end
section
variable {X : Cx}
def rSumT (K : PySem.W.Frag) : List V → Hp → VK → Prop := fun vs H Q => ∃ (a : Addr) (ns : List Int), vs = [V.ref a] ∧ SqT K H a (ns.map V.int) ∧ Q (.int ns.sum) H
def rMaxT (K : PySem.W.Frag) : List V → Hp → VK → Prop := fun vs H Q => ∃ (a : Addr) (ns : List Int), vs = [V.ref a] ∧ SqT K H a (ns.map V.int) ∧ 0 < ns.length ∧ ∀ m, m ∈ ns → (∀ y, y ∈ ns → y ≤ m) → Q (.int m) H
def rMinT (K : PySem.W.Frag) : List V → Hp → VK → Prop := fun vs H Q => ∃ (a : Addr) (ns : List Int), vs = [V.ref a] ∧ SqT K H a (ns.map V.int) ∧ 0 < ns.length ∧ ∀ m, m ∈ ns → (∀ y, y ∈ ns → m ≤ y) → Q (.int m) H
theorem cr_sumT (hc : X.calm = true) : CallR X (.builtin "sum") (rSumT X.K) := fun pins s σ H vs us Q I r ⟨a, ns, e, hs, q⟩ => by
  subst e; obtain ⟨its, rv, hl, _⟩ := I.tuple hs; rw [Vals.ref1 r]
  exact sum_rawT (I.ok.hd hc) hl rv.ints fun h' tk t' hk => ⟨.int _, H, I.kept hk, ⟨_, rfl⟩, q⟩
theorem cr_maxT (hc : X.calm = true) : CallR X (.builtin "max") (rMaxT X.K) := fun pins s σ H vs us Q I r ⟨a, ns, e, hs, hne, q⟩ => by
  subst e; obtain ⟨its, rv, hl, _⟩ := I.tuple hs; rw [Vals.ref1 r]
  exact max_rawT (I.ok.hd hc) hl rv.ints hne fun h' tk m t' hk h1 h2 => ⟨.int _, H, I.kept hk, ⟨_, rfl⟩, q m h1 h2⟩
theorem cr_minT (hc : X.calm = true) : CallR X (.builtin "min") (rMinT X.K) := fun pins s σ H vs us Q I r ⟨a, ns, e, hs, hne, q⟩ => by
  subst e; obtain ⟨its, rv, hl, _⟩ := I.tuple hs; rw [Vals.ref1 r]
  exact min_rawT (I.ok.hd hc) hl rv.ints hne fun h' tk m t' hk h1 h2 => ⟨.int _, H, I.kept hk, ⟨_, rfl⟩, q m h1 h2⟩
/-- x op= e at a name -/
theorem ip_of {op : Operator} {r : R2} (h : OpR X (inplaceOp op) r) : PIp X op r := h
theorem hu64 {k : Nat} {A : Around} (hr : Room k A) : A.units + 64 < cLine := by have := hr.un; omega
theorem hu65 {k : Nat} {A : Around} (hr : Room k A) : A.units + 65 < cLine := by have := hr.un; omega
end
end L2
/-! ### what is new, told by what stood: rules whose readings speak of an extension -/
namespace Sx
open PySem L2 RT PySem.Spec PyProof.Rows
theorem same_new {H : Hp} {p : Addr} {o : HO} (h : H p = none) : Same H (upd H p o) := fun b u e => by
  rw [upd_ne (ne_of_none e h)]; exact e
theorem sqt {K : PySem.W.Frag} {H : Hp} {a : Addr} {xs : List V} (h : H a = some (.tup xs)) : SqT K H a xs := .inl (.inl h)
theorem sql {K : PySem.W.Frag} {H : Hp} {a : Addr} {xs : List V} (h : H a = some (.lst xs)) : SqL K H a xs := .inl (.inl h)
section
variable {X : Cx} {e : Expr} {es : List Expr} {t t' : TE} {ta ta' : TA} {pos : Pos}
theorem PE.imp (h : PE X e t) (i : ∀ σ H Q, t' σ H Q → t σ H Q) : PE X e t' := ⟨fun pins s σ H Q I q => h.run pins s σ H Q I (i σ H Q q)⟩
def wkE (t : TE) : TE := fun σ H Q => ∃ A : VK, t σ H A ∧ ∀ v H1, A v H1 → Q v H1
def wkA (t : TA) : TA := fun σ H Q => ∃ A : List V → Hp → Prop, t σ H A ∧ ∀ v H1, A v H1 → Q v H1
theorem PE.weak (h : PE X e t) : PE X e (wkE t) := ⟨fun pins s σ H Q I q => by
  obtain ⟨A, q1, q2⟩ := q
  exact thn (h.run pins s σ H A I q1) fun u s' ⟨v, H1, I1, r, z⟩ => ⟨v, H1, I1, r, q2 v H1 z⟩⟩
theorem PA.weak (h : PA X es ta) : PA X es (wkA ta) := ⟨fun p pins s σ H Q I q => by
  obtain ⟨A, q1, q2⟩ := q
  exact thn (h.run p pins s σ H A I q1) fun u s' ⟨v, H1, I1, r, z⟩ => ⟨v, H1, I1, r, q2 v H1 z⟩⟩
/-- a tuple display -/
def tTupN (K : PySem.W.Frag) (t : TA) : TE := fun σ H Q => t σ H fun xs H1 => xs.length ≤ sizeLine ∧ ∀ p H2, Same H1 H2 → SqT K H2 p xs → Q (.ref p) H2
theorem pe_tupN {x1} (h : PA X es ta) : PE X (.Tuple es x1 pos) (tTupN X.K ta) := PE.imp (pe_tup (PA.weak h)) fun σ H Q q =>
  ⟨_, q, fun xs H1 ⟨hz, k⟩ => ⟨hz, fun p hp => k p _ (same_new hp) (sqt upd_same)⟩⟩
def tLstN (t : TA) : TE := fun σ H Q => t σ H fun xs H1 => xs.length ≤ sizeLine ∧ ∀ p H2, H1 p = none → Same H1 H2 → H2 p = some (.lst xs) → Q (.ref p) H2
theorem pe_lstN (h : PA X es ta) : PE X (.List es pos) (tLstN ta) := PE.imp (pe_lst (PA.weak h)) fun σ H Q q =>
  ⟨_, q, fun xs H1 ⟨hz, k⟩ => ⟨hz, fun p hp => k p _ hp (same_new hp) upd_same⟩⟩
def tTupRevN (K : PySem.W.Frag) (t : TE) : TE := fun σ H Q => t σ H fun v H1 => ∃ (a : Addr) (xs : List V), v = .ref a ∧ SqL K H1 a xs ∧ ∀ p H2, Same H1 H2 → SqT K H2 p xs.reverse → Q (.ref p) H2
theorem pe_tupRevN {p p2 pos pos2 : Pos} (hc : X.calm = true) (hg : Gl X "tuple") (hm : X.mg "tuple" = none) (hg2 : Gl X "reversed") (hm2 : X.mg "reversed" = none) (he : PE X e t)
    (hs : starEach [e] X.env = (false, eval e X.env) :: starEach [] X.env := by rfl) (hs2 : starEach [.Call (.Name "reversed" p2) [e] [] pos2] X.env = (false, eval (.Call (.Name "reversed" p2) [e] [] pos2) X.env) :: starEach [] X.env := by rfl) : PE X (.Call (.Name "tuple" p) [.Call (.Name "reversed" p2) [e] [] pos2] [] pos) (tTupRevN X.K t) := PE.imp (pe_tupRev hc hg hm hg2 hm2 (PE.weak he) hs hs2) fun σ H Q q =>
  ⟨_, q, fun v H1 ⟨a, xs, e, h, k⟩ => ⟨a, xs, e, h, fun p hp => k p _ (same_new hp) (sqt upd_same)⟩⟩
def tRevLN (K : PySem.W.Frag) (t : TE) : TE := fun σ H Q => t σ H fun v H1 => ∃ (a : Addr) (xs : List V), v = .ref a ∧ SqL K H1 a xs ∧ ∀ p H2, H1 p = none → Same H1 H2 → H2 p = some (.lst xs.reverse) → Q (.ref p) H2
theorem pe_revLN {k : Nat} {p1 p2 p3 pos : Pos} (he : PE X e t) : PE X (.Subscript e (.Slice none none (some (.UnaryOp .USub (.Constant (.int 1) k p1) p2)) p3) pos) (tRevLN X.K t) := PE.imp (pe_revL (PE.weak he)) fun σ H Q q =>
  ⟨_, q, fun v H1 ⟨a, xs, e, h, k⟩ => ⟨a, xs, e, h, fun p hp => k p _ hp (same_new hp) upd_same⟩⟩
/-! by values -/
def rTupN (K : PySem.W.Frag) : List V → Hp → VK → Prop := fun xs H Q => ∃ p ys, xs = [.ref p] ∧ (SqL K H p ys ∨ SqT K H p ys) ∧ ∀ p H2, Same H H2 → SqT K H2 p ys → Q (.ref p) H2
theorem call_tupN : CallR X (.type "tuple") (rTupN X.K) := fun pins s σ H xs us Q I r h => by
  obtain ⟨p, ys, rfl, hs, k⟩ := h
  refine call_tuple_of pins s σ H _ us Q I r ⟨p, ys, rfl, ?_⟩
  rcases hs with hs | hs
  · exact .inl ⟨hs, fun l hl => k l _ (same_new hl) (sqt upd_same)⟩
  · exact .inr ⟨hs, k p H (Same.refl H) hs⟩
def rListN (K : PySem.W.Frag) : List V → Hp → VK → Prop := fun xs H Q => ∃ p ys, xs = [.ref p] ∧ (SqL K H p ys ∨ SqT K H p ys) ∧ ∀ p H2, H p = none → Same H H2 → H2 p = some (.lst ys) → Q (.ref p) H2
theorem call_listN : CallR X (.type "list") (rListN X.K) := fun pins s σ H xs us Q I r h => by
  obtain ⟨p, ys, rfl, hs, k⟩ := h
  exact call_list_of pins s σ H _ us Q I r ⟨p, ys, rfl, hs, fun l hl => k l _ hl (same_new hl) upd_same⟩
def rCatN (K : PySem.W.Frag) : R2 := fun x y H Q => ∃ a b xs ys, x = .ref a ∧ y = .ref b ∧ SqT K H a xs ∧ SqT K H b ys ∧ xs.length + ys.length ≤ sizeLine ∧ ∀ p H2, Same H H2 → SqT K H2 p (xs ++ ys) → Q (.ref p) H2
theorem op_catN : OpR X (binaryOp .Add) (rCatN X.K) := fun pins s σ H x y v u Q I rx ry h => by
  obtain ⟨a, b, xs, ys, rfl, rfl, ha, hb, hz, k⟩ := h
  refine op_catA pins s σ H _ _ v u Q I rx ry ⟨a, b, xs, ys, rfl, rfl, ha, hb, hz, fun e => ?_, fun _ e => ?_, fun _ _ p hp => k p _ (same_new hp) (sqt upd_same)⟩
  · subst e; exact k b H (Same.refl H) hb
  · subst e; exact k a H (Same.refl H) (by rw [List.append_nil]; exact ha)
def rCatLN (K : PySem.W.Frag) : R2 := fun x y H Q => ∃ a b xs ys, x = .ref a ∧ y = .ref b ∧ H a = some (.lst xs) ∧ H b = some (.lst ys) ∧ xs.length + ys.length ≤ sizeLine ∧ ∀ p H2, H p = none → Same H H2 → H2 p = some (.lst (xs ++ ys)) → Q (.ref p) H2
theorem op_catLN : OpR X (binaryOp .Add) (rCatLN X.K) := fun pins s σ H x y v u Q I rx ry h => by
  obtain ⟨a, b, xs, ys, rfl, rfl, ha, hb, hz, k⟩ := h
  exact op_cat pins s σ H _ _ v u Q I rx ry ⟨a, b, xs, ys, rfl, rfl, ha, hb, hz, fun p hp => k p _ hp (same_new hp) upd_same⟩
theorem cut_whole {xs : List V} {lo hi : Option Int} (h : HT.sIx xs.length 0 lo = 0 ∧ HT.sIx xs.length xs.length hi = xs.length) : cutV xs lo hi = xs := by
  unfold cutV
  rw [h.1, h.2, List.drop_zero, Nat.sub_zero, List.take_length]
def rSlN (K : PySem.W.Frag) : V → Option Int → Option Int → Hp → VK → Prop := fun x lo hi H Q => ∃ a xs, x = .ref a ∧ SqT K H a xs ∧ ∀ p H2, Same H H2 → SqT K H2 p (cutV xs lo hi) → Q (.ref p) H2
theorem sl_tupN : SlR X (rSlN X.K) := fun pins s σ H x v vl vu lo hi sl Q I rx hs pl pu h => by
  obtain ⟨a, xs, rfl, hx, k⟩ := h
  exact sl_tupA pins s σ H _ v vl vu lo hi sl Q I rx hs pl pu ⟨a, xs, rfl, hx, fun e => k a H (Same.refl H) (by rw [cut_whole e]; exact hx), fun _ p hp => k p _ (same_new hp) (sqt upd_same)⟩
def rSlLN (K : PySem.W.Frag) : V → Option Int → Option Int → Hp → VK → Prop := fun x lo hi H Q => ∃ a xs, x = .ref a ∧ SqL K H a xs ∧ ∀ p H2, H p = none → Same H H2 → H2 p = some (.lst (cutV xs lo hi)) → Q (.ref p) H2
theorem sl_listN : SlR X (rSlLN X.K) := fun pins s σ H x v vl vu lo hi sl Q I rx hs pl pu h => by
  obtain ⟨a, xs, rfl, hx, k⟩ := h
  exact sl_list pins s σ H _ v vl vu lo hi sl Q I rx hs pl pu ⟨a, xs, rfl, hx, fun p hp => k p _ hp (same_new hp) upd_same⟩
/-- an item of a list or a tuple -/
def rIxQ (K : PySem.W.Frag) : R2 := fun x y H Q => rIxL K x y H Q ∨ rIxT K x y H Q
theorem ix_seq : IxR X (rIxQ X.K) := fun value slice pins s σ H x y v u Q I rx ry h hs => by
  rcases h with h | h
  · exact ix_list value slice pins s σ H x y v u Q I rx ry h hs
  · exact ix_tup value slice pins s σ H x y v u Q I rx ry h hs
end
end Sx
/-! steps of a reading, one lemma a construct; rows as lists of naturals -/
namespace Sx
open PySem L2 RT
abbrev rAdd : R2 := rI0 fun i j => .int (i + j)
abbrev rSub : R2 := rI0 fun i j => .int (i - j)
abbrev rMul : R2 := rI CMul fun i j => .int (i * j)
abbrev rMulW : R2 := rI CMulW fun i j => .int (i * j)
abbrev rFd : R2 := rI CDiv fun i j => .int (i / j)
abbrev rFdW : R2 := rI CDivW fun i j => .int (i / j)
abbrev rMd : R2 := rI (fun _ j => 0 < j) fun i j => .int (i % j)
abbrev rPw : R2 := rI CPow fun i j => .int (i ^ j.toNat)
abbrev rLt : R2 := rI0 fun i j => .bl (decide (i < j))
abbrev rLe : R2 := rI0 fun i j => .bl (decide (i ≤ j))
abbrev rGt : R2 := rI0 fun i j => .bl (decide (j < i))
abbrev rGe : R2 := rI0 fun i j => .bl (decide (j ≤ i))
abbrev rNeg : V → Hp → VK → Prop := rU fun i => .int (-i)
abbrev rLen (K : PySem.W.Frag) : List V → Hp → VK → Prop := fun xs H Q => ∃ p ys, xs = [.ref p] ∧ (SqL K H p ys ∨ SqT K H p ys) ∧ Q (.int ys.length) H
abbrev rInt1 : List V → Hp → VK → Prop := fun xs H Q => (∃ i, xs = [.int i] ∧ Q (.int i) H) ∨ ∃ k, xs = [.bl k] ∧ Q (.int (if k then 1 else 0)) H
/-- a whole number not below 0 -/
def natV (n : Nat) : V := .int (n : Int)
def rowV (r : List Nat) : List V := r.map natV

/-! ### heaps -/
/-- all but d as it was -/
def SB (d : Addr) (H H' : Hp) : Prop := ∀ b o, b ≠ d → H b = some o → H' b = some o
theorem Same.sb {d : Addr} {H H' : Hp} (h : Same H H') : SB d H H' := fun b o _ e => h b o e
theorem SB.refl (d : Addr) (H : Hp) : SB d H H := fun _ _ _ e => e
theorem SB.trans {d : Addr} {H H1 H2 : Hp} (a : SB d H H1) (b : SB d H1 H2) : SB d H H2 := fun c o n e => b c o n (a c o n e)
theorem SB.upd (d : Addr) (H : Hp) (o : HO) : SB d H (upd H d o) := fun b u n e => by rw [upd_ne n]; exact e
/-- what H does not know may change -/
theorem Same.mut {H H' : Hp} {p : Addr} {o : HO} (e : Same H H') (h : H p = none) : Same H (upd H' p o) := fun a u ha => by
  rw [upd_ne (ne_of_none ha h)]; exact e a u ha
theorem SB.mut {d : Addr} {H H' : Hp} {p : Addr} {o : HO} (e : SB d H H') (h : H p = none) : SB d H (L2.upd H' p o) := fun a u n ha => by
  rw [upd_ne (ne_of_none ha h)]; exact e a u n ha
theorem Same.seqT {K : PySem.W.Frag} {H H' : Hp} {a : Addr} {xs : List V} (e : Same H H') (h : SqT K H a xs) : SqT K H' a xs := by
  rcases h with (h | ⟨o, h⟩) | h
  · exact .inl (.inl (e _ _ h))
  · exact .inl (.inr ⟨o, e _ _ h⟩)
  · exact .inr h
theorem SB.seqT {K : PySem.W.Frag} {d : Addr} {H H' : Hp} {a : Addr} {xs ys : List V} (e : SB d H H') (hd : H d = some (.lst ys)) (h : SqT K H a xs) : SqT K H' a xs := by
  rcases h with (h | ⟨o, h⟩) | h
  · exact .inl (.inl (e _ _ (by rintro rfl; rw [hd] at h; cases h) h))
  · exact .inl (.inr ⟨o, e _ _ (by rintro rfl; rw [hd] at h; cases h) h⟩)
  · exact .inr h
theorem SB.seqL {K : PySem.W.Frag} {d : Addr} {H H' : Hp} {a : Addr} {xs : List V} (e : SB d H H') (hd : a ≠ d) (h : SqL K H a xs) : SqL K H' a xs := by
  rcases h with (h | ⟨o, h⟩) | h
  · exact .inl (.inl (e _ _ hd h))
  · exact .inl (.inr ⟨o, e _ _ hd h⟩)
  · exact .inr h
/-- what stood ahead of a new d stands whatever d becomes -/
theorem keep_new {K : PySem.W.Frag} {d : Addr} {H H1 H2 : Hp} {a : Addr} {xs : List V} (h : SqL K H a xs) (nd : H d = none) (s : Same H H1) (s2 : SB d H1 H2) : SqL K H2 a xs := by
  rcases h with (h | ⟨o, h⟩) | h
  · exact .inl (.inl (s2 _ _ (ne_of_none h nd) (s _ _ h)))
  · exact .inl (.inr ⟨o, s2 _ _ (ne_of_none h nd) (s _ _ h)⟩)
  · exact .inr h
/-- a list changed: tuples stand -/
theorem mut_seqT {K : PySem.W.Frag} {H : Hp} {p a : Addr} {ys : List V} {o : HO} {xs : List V} (hp : H p = some (.lst ys)) (h : SqT K H a xs) : SqT K (upd H p o) a xs := SB.seqT (SB.upd p H o) hp h

/-! ### steps -/
section
variable {K : PySem.W.Frag} {σ : L2.St} {H : Hp} {Q : VK} {D : Ends} {ta tb tc te : TE} {tt tu : TT} {r r' : R2} {t u : TS} {v x y : V} {g : TG} {sp : Sp} {dvs : List V} {E : XK} {args : TA} {QB : Bool → Hp → Prop} {QA : List V → Hp → Prop} {QS : L2.St → Hp → Prop}
theorem i_var {i : Nat} (h : σ[i]? = some (some v)) (q : Q v H) : tVar i σ H Q := ⟨v, h, q⟩
theorem i_c (q : Q v H) : tC v σ H Q := q
theorem i_op (q : ta σ H fun x H1 => tb σ H1 fun y H2 => r x y H2 Q) : tOp r ta tb σ H Q := q
theorem i_un {ru : V → Hp → VK → Prop} (q : ta σ H fun x H1 => ru x H1 Q) : tUn ru ta σ H Q := q
theorem i_chain (q : ta σ H fun x H1 => tb σ H1 fun y H2 => r x y H2 fun z H3 => ∃ k, z = .bl k ∧ (if k = true then tc σ H3 fun w' H4 => r' y w' H4 Q else Q (.bl false) H3)) : tChain r r' ta tb tc σ H Q := q
theorem i_seq (q : t { D with nx := u D } σ H) : tSeq t u D σ H := q
theorem i_asg (q : te σ H fun x H1 => g x σ H1 D.nx) : tAsg te g D σ H := q
theorem i_gname {i : Nat} (q : QS (σ.set i (some v)) H) : gName i v σ H QS := q
theorem i_ret (q : te σ H D.rt) : tRet te D σ H := q
theorem i_drop (q : te σ H fun _ H1 => D.nx σ H1) : tDrop te D σ H := q
theorem i_next (q : D.nx σ H) : tNext D σ H := q
theorem i_ifS (q : tt σ H fun b H1 => if b = true then t D σ H1 else u D σ H1) : tIfS tt t u D σ H := q
theorem i_test (q : te σ H fun x H' => ∃ k, x = .bl k ∧ QB k H') : tTest te σ H QB := q
theorem i_tB (q : te σ H fun x H' => ∃ k, x = .bl k ∧ QB k H') : tB te σ H QB := q
theorem i_and (q : tt σ H fun c H1 => if c = true then tu σ H1 QB else QB false H1) : tAnd tt tu σ H QB := q
theorem i_or (q : tt σ H fun c H1 => if c = true then QB true H1 else tu σ H1 QB) : tOr tt tu σ H QB := q
theorem i_not (q : tt σ H fun c H1 => QB (!c) H1) : tNot tt σ H QB := q
theorem i_andV (q : ta σ H fun x H1 => ∃ c, x = .bl c ∧ if c = true then tb σ H1 Q else Q (.bl false) H1) : tAndV ta tb σ H Q := q
theorem i_orV (q : ta σ H fun x H1 => ∃ c, x = .bl c ∧ if c = true then Q (.bl true) H1 else tb σ H1 Q) : tOrV ta tb σ H Q := q
theorem i_notV (q : ta σ H fun x H1 => ∃ c, x = .bl c ∧ Q (.bl (!c)) H1) : tNotV ta σ H Q := q
theorem i_if (q : tt σ H fun c H1 => if c = true then ta σ H1 Q else tb σ H1 Q) : tIf tt ta tb σ H Q := q
theorem i_call (q : args σ H fun vs H1 => sp (vs ++ dvs) H1 Q E) : tCall sp dvs E args σ H Q := q
theorem i_cb {rc : List V → Hp → VK → Prop} (q : args σ H fun vs H1 => rc vs H1 Q) : tCB rc args σ H Q := q
theorem i_nil (q : QA [] H) : tNil σ H QA := q
theorem i_cons {ar : TA} (q : ta σ H fun x H1 => ar σ H1 fun xs H2 => QA (x :: xs) H2) : tCons ta ar σ H QA := q
theorem i_tup (q : args σ H fun xs H1 => xs.length ≤ sizeLine ∧ ∀ p H2, Same H1 H2 → SqT K H2 p xs → Q (.ref p) H2) : tTupN K args σ H Q := q
theorem i_lst (q : args σ H fun xs H1 => xs.length ≤ sizeLine ∧ ∀ p H2, H1 p = none → Same H1 H2 → H2 p = some (.lst xs) → Q (.ref p) H2) : tLstN args σ H Q := q
theorem i_bm {T : String} {rm : V → List V → Hp → VK → Prop} (q : te σ H fun x H1 => tyV K T x H1 ∧ args σ H1 fun xs H2 => rm x xs H2 Q) : tBM K T rm te args σ H Q := q
theorem i_bm0 {T : String} {rm : V → List V → Hp → VK → Prop} (q : te σ H fun x H1 => tyV K T x H1 ∧ rm x [] H1 Q) : tBM0 K T rm te σ H Q := q
theorem i_aug {i : Nat} {ti : TIp} (h : σ[i]? = some (some x)) (q : te σ H fun y H1 => ti x y H1 fun z H2 => D.nx (σ.set i (some z)) H2) : tAug i te ti D σ H := ⟨x, h, q⟩
theorem i_sl {rs : V → Option Int → Option Int → Hp → VK → Prop} {tl th : TO} (q : te σ H fun x H1 => tl σ H1 fun l H2 => th σ H2 fun u H3 => rs x l u H3 Q) : tSl rs te tl th σ H Q := q
theorem i_nopart {QO : Option Int → Hp → Prop} (q : QO none H) : tNoPart σ H QO := q
theorem i_part {QO : Option Int → Hp → Prop} (q : te σ H fun x H1 => ∃ i, x = .int i ∧ QO (some i) H1) : tPart te σ H QO := q
theorem i_exbl {P : Bool → Prop} {c : Bool} (q : P c) : ∃ k, V.bl c = V.bl k ∧ P k := ⟨c, rfl, q⟩
theorem i_exint {P : Int → Prop} {c : Int} (q : P c) : ∃ k, V.int c = V.int k ∧ P k := ⟨c, rfl, q⟩
theorem i_exnat {P : Int → Prop} {c : Nat} (q : P (c : Int)) : ∃ k, natV c = V.int k ∧ P k := ⟨c, rfl, q⟩
theorem i_gsub {to ti : TE} {ts : TSet} (q : to σ H fun o H1 => ti σ H1 fun i H2 => ts o i v H2 fun H3 => QS σ H3) : gSub to ti ts v σ H QS := q
theorem i_iteT {A B : Prop} (h : A) : if true = true then A else B := by rw [if_pos rfl]; exact h
theorem i_iteF {A B : Prop} (h : B) : if false = true then A else B := by rw [if_neg Bool.false_ne_true]; exact h
theorem i_iteNT {A B : Prop} (h : B) : if (!true) = true then A else B := i_iteF h
theorem i_iteNF {A B : Prop} (h : A) : if (!false) = true then A else B := i_iteT h
theorem i_ite {c A B : Prop} [Decidable c] (h1 : c → A) (h2 : ¬ c → B) : if decide c = true then A else B := by
  by_cases h : c
  · rw [decide_eq_true h]; exact i_iteT (h1 h)
  · rw [decide_eq_false h]; exact i_iteF (h2 h)
theorem i_iteN {c A B : Prop} [Decidable c] (h1 : ¬ c → A) (h2 : c → B) : if (!decide c) = true then A else B := by
  by_cases h : c
  · rw [decide_eq_true h]; exact i_iteF (h2 h)
  · rw [decide_eq_false h]; exact i_iteT (h1 h)
theorem i_yes {c A B : Prop} [Decidable c] (h : c) (h1 : A) : if decide c = true then A else B := by rw [decide_eq_true h]; exact i_iteT h1
theorem i_nay {c A B : Prop} [Decidable c] (h : ¬ c) (h1 : B) : if decide c = true then A else B := by rw [decide_eq_false h]; exact i_iteF h1
theorem i_yesN {c A B : Prop} [Decidable c] (h : ¬ c) (h1 : A) : if (!decide c) = true then A else B := by rw [decide_eq_false h]; exact i_iteT h1
theorem i_nayN {c A B : Prop} [Decidable c] (h : c) (h1 : B) : if (!decide c) = true then A else B := by rw [decide_eq_true h]; exact i_iteF h1
/-! numbers -/
variable {a b : Nat} {i j : Int}
theorem i_addN (q : Q (natV (a + b)) H) : rAdd (natV a) (natV b) H Q := ⟨a, b, rfl, rfl, q⟩
theorem i_subN (h : b ≤ a) (q : Q (natV (a - b)) H) : rSub (natV a) (natV b) H Q := ⟨a, b, rfl, rfl, by
  have e : (a : Int) - (b : Int) = ((a - b : Nat) : Int) := by omega
  show Q (.int ((a : Int) - (b : Int))) H
  rw [e]; exact q⟩
theorem i_mulN (h : a < 2 ^ 64 ∨ b < 2 ^ 64) (q : Q (natV (a * b)) H) : rMul (natV a) (natV b) H Q := ⟨a, b, rfl, rfl, by
  rcases h with h | h
  · exact .inl ⟨by omega, by omega⟩
  · exact .inr ⟨by omega, by omega⟩, by
  show Q (.int ((a : Int) * (b : Int))) H
  rw [← Int.natCast_mul]; exact q⟩
theorem i_mulWN {m n : Nat} (h1 : a < 2 ^ m) (h2 : b < 2 ^ n) (h3 : 0 < m) (h4 : 0 < n) (h5 : m + n ≤ 1000000) (q : Q (natV (a * b)) H) : rMulW (natV a) (natV b) H Q := ⟨a, b, rfl, rfl, wide_mul (by simpa using h1) (by simpa using h2) h3 h4 h5, by
  show Q (.int ((a : Int) * (b : Int))) H
  rw [← Int.natCast_mul]; exact q⟩
theorem i_fdN (h : 0 < b) (h2 : b < 1073741824) (q : Q (natV (a / b)) H) : rFd (natV a) (natV b) H Q := ⟨a, b, rfl, rfl, ⟨by omega, by omega⟩, by
  show Q (.int ((a : Int) / (b : Int))) H
  rw [← Int.natCast_ediv]; exact q⟩
theorem i_mdN (h : 0 < b) (q : Q (natV (a % b)) H) : rMd (natV a) (natV b) H Q := ⟨a, b, rfl, rfl, by show (0 : Int) < (b : Int); omega, by
  show Q (.int ((a : Int) % (b : Int))) H
  rw [← Int.natCast_emod]; exact q⟩
/-- the rest of any whole number -/
theorem i_mdI (h : 0 < b) (q : ∀ n : Nat, n < b → Q (natV n) H) : rMd (.int i) (natV b) H Q := ⟨i, b, rfl, rfl, by show (0 : Int) < (b : Int); omega, by
  have h1 : 0 ≤ i % (b : Int) := Int.emod_nonneg _ (by omega)
  have h2 : i % (b : Int) < b := Int.emod_lt_of_pos _ (by omega)
  have e : i % (b : Int) = (((i % (b : Int)).toNat : Nat) : Int) := by omega
  show Q (.int (i % (b : Int))) H
  rw [e]; exact q _ (by omega)⟩
theorem i_ltN (q : Q (.bl (decide (a < b))) H) : rLt (natV a) (natV b) H Q := ⟨a, b, rfl, rfl, by
  have e : decide ((a : Int) < (b : Int)) = decide (a < b) := by congr 1; exact propext Int.ofNat_lt
  show Q (.bl (decide ((a : Int) < (b : Int)))) H
  rw [e]; exact q⟩
theorem i_leN (q : Q (.bl (decide (a ≤ b))) H) : rLe (natV a) (natV b) H Q := ⟨a, b, rfl, rfl, by
  have e : decide ((a : Int) ≤ (b : Int)) = decide (a ≤ b) := by congr 1; exact propext Int.ofNat_le
  show Q (.bl (decide ((a : Int) ≤ (b : Int)))) H
  rw [e]; exact q⟩
theorem i_gtN (q : Q (.bl (decide (b < a))) H) : rGt (natV a) (natV b) H Q := ⟨a, b, rfl, rfl, by
  have e : decide ((b : Int) < (a : Int)) = decide (b < a) := by congr 1; exact propext Int.ofNat_lt
  show Q (.bl (decide ((b : Int) < (a : Int)))) H
  rw [e]; exact q⟩
theorem i_geN (q : Q (.bl (decide (b ≤ a))) H) : rGe (natV a) (natV b) H Q := ⟨a, b, rfl, rfl, by
  have e : decide ((b : Int) ≤ (a : Int)) = decide (b ≤ a) := by congr 1; exact propext Int.ofNat_le
  show Q (.bl (decide ((b : Int) ≤ (a : Int)))) H
  rw [e]; exact q⟩
theorem natV_inj {a b : Nat} (h : natV a = natV b) : a = b := by
  have e : (a : Int) = (b : Int) := V.int.inj h
  omega
theorem i_eqN (q : Q (.bl (decide (a = b))) H) : rEq (natV a) (natV b) H Q := ⟨rfl, by
  have e : decide (natV a = natV b) = decide (a = b) := by congr 1; exact propext ⟨natV_inj, fun h => by rw [h]⟩
  rw [e]; exact q⟩
theorem i_neN (q : Q (.bl (!decide (a = b))) H) : rNe (natV a) (natV b) H Q := ⟨rfl, by
  have e : decide (natV a = natV b) = decide (a = b) := by congr 1; exact propext ⟨natV_inj, fun h => by rw [h]⟩
  rw [e]; exact q⟩
theorem i_ltI (q : Q (.bl (decide (i < j))) H) : rLt (.int i) (.int j) H Q := ⟨i, j, rfl, rfl, q⟩
theorem i_leI (q : Q (.bl (decide (i ≤ j))) H) : rLe (.int i) (.int j) H Q := ⟨i, j, rfl, rfl, q⟩
theorem i_gtI (q : Q (.bl (decide (j < i))) H) : rGt (.int i) (.int j) H Q := ⟨i, j, rfl, rfl, q⟩
theorem i_geI (q : Q (.bl (decide (j ≤ i))) H) : rGe (.int i) (.int j) H Q := ⟨i, j, rfl, rfl, q⟩
theorem i_gtIN (q : Q (.bl (decide ((a : Int) < i))) H) : rGt (.int i) (natV a) H Q := ⟨i, a, rfl, rfl, q⟩
theorem i_geIN (q : Q (.bl (decide ((a : Int) ≤ i))) H) : rGe (.int i) (natV a) H Q := ⟨i, a, rfl, rfl, q⟩
theorem i_ltIN (q : Q (.bl (decide (i < (a : Int)))) H) : rLt (.int i) (natV a) H Q := ⟨i, a, rfl, rfl, q⟩
theorem i_pwN (h : a < 2 ^ 64) (h2 : b ≤ 1000000) (q : Q (natV (a ^ b)) H) : rPw (natV a) (natV b) H Q := ⟨a, b, rfl, rfl, ⟨by omega, by omega, by simpa using h⟩, by
  show Q (.int ((a : Int) ^ (b : Int).toNat)) H
  rw [Int.toNat_natCast, ← Int.natCast_pow]; exact q⟩
theorem i_negN (q : Q (.int (-(a : Int))) H) : rNeg (natV a) H Q := ⟨a, rfl, q⟩
theorem i_bit {c : Bool} (q : Q (natV (if c then 1 else 0)) H) : rInt1 [.bl c] H Q := .inr ⟨c, rfl, by cases c <;> exact q⟩
/-! sequences -/
variable {p : Addr} {xs ys : List V}
theorem i_ixL (h : SqL K H p xs) (e : xs[a]? = some v) (q : Q v H) : rIxL K (.ref p) (natV a) H Q := ⟨p, xs, a, v, rfl, rfl, h, atI_nat e, q⟩
theorem i_ixT (h : SqT K H p xs) (e : xs[a]? = some v) (q : Q v H) : rIxT K (.ref p) (natV a) H Q := ⟨p, xs, a, v, rfl, rfl, h, atI_nat e, q⟩
theorem i_ixTlast (h : SqT K H p (xs ++ [v])) (q : Q v H) : rIxT K (.ref p) (.int (-1)) H Q := ⟨p, _, -1, v, rfl, rfl, h, atI_last _ _, q⟩
theorem i_lenL (h : SqL K H p xs) (q : Q (natV xs.length) H) : rLen K [.ref p] H Q := ⟨p, xs, rfl, .inl h, q⟩
theorem i_lenT (h : SqT K H p xs) (q : Q (natV xs.length) H) : rLen K [.ref p] H Q := ⟨p, xs, rfl, .inr h, q⟩
theorem ixN_nat {n k : Nat} (h : k < n) : ixN n (k : Int) = some k := by
  unfold ixN
  rw [if_pos (by omega), if_pos (by omega)]; simp
theorem i_setL {QH : Hp → Prop} (h : H p = some (.lst xs)) (hk : a < xs.length) (q : QH (upd H p (.lst (xs.set a v)))) : rSetL (.ref p) (natV a) v H QH := ⟨p, xs, a, a, rfl, rfl, h, ixN_nat hk, q⟩
theorem i_append (h : H p = some (.lst xs)) (hz : xs.length ≤ 100000) (q : Q .non (upd H p (.lst (xs ++ [v])))) :
    tyV K "list" (.ref p) H ∧ rAppend (.ref p) [v] H Q := ⟨.inl ⟨rfl, xs, sql h⟩, p, xs, v, rfl, rfl, h, Nat.lt_of_le_of_lt hz (by decide), q⟩
theorem i_ty {A : Prop} (h : H p = some (.lst xs)) (q : A) : tyV K "list" (.ref p) H ∧ A := ⟨.inl ⟨rfl, xs, sql h⟩, q⟩
theorem i_app (h : H p = some (.lst xs)) (hz : xs.length ≤ 100000) (q : Q .non (upd H p (.lst (xs ++ [v])))) : rAppend (.ref p) [v] H Q := ⟨p, xs, v, rfl, rfl, h, Nat.lt_of_le_of_lt hz (by decide), q⟩
theorem i_pop0 (h : H p = some (.lst (v :: xs))) (q : Q v (upd H p (.lst xs))) : rPopAt (.ref p) [natV 0] H Q :=
  ⟨p, v :: xs, 0, 0, v, rfl, rfl, h, by decide, by decide, by
    show seqIndex? 0 (xs.length + 1) = some 0
    have := (ixN_seq (n := xs.length + 1) (i := 0) (j := 0) (by unfold ixN; rw [if_pos (by decide), if_pos (by omega)]; rfl)).1
    exact this, rfl, q⟩
theorem szl {n : Nat} (h : n ≤ 100000) : n ≤ sizeLine := Nat.le_trans h (by decide)
theorem i_tupOfL (h : SqL K H p ys) (q : ∀ p H2, Same H H2 → SqT K H2 p ys → Q (.ref p) H2) : rTupN K [.ref p] H Q := ⟨p, ys, rfl, .inl h, q⟩
theorem i_tupOfT (h : SqT K H p ys) (q : ∀ p H2, Same H H2 → SqT K H2 p ys → Q (.ref p) H2) : rTupN K [.ref p] H Q := ⟨p, ys, rfl, .inr h, q⟩
theorem i_listOfL (h : SqL K H p ys) (q : ∀ p H2, H p = none → Same H H2 → H2 p = some (.lst ys) → Q (.ref p) H2) : rListN K [.ref p] H Q := ⟨p, ys, rfl, .inl h, q⟩
theorem i_listOfT (h : SqT K H p ys) (q : ∀ p H2, H p = none → Same H H2 → H2 p = some (.lst ys) → Q (.ref p) H2) : rListN K [.ref p] H Q := ⟨p, ys, rfl, .inr h, q⟩
theorem i_cat {p2 : Addr} (h : SqT K H p xs) (h2 : SqT K H p2 ys) (hz : xs.length + ys.length ≤ 100000) (q : ∀ p H2, Same H H2 → SqT K H2 p (xs ++ ys) → Q (.ref p) H2) : rCatN K (.ref p) (.ref p2) H Q := ⟨p, p2, xs, ys, rfl, rfl, h, h2, szl hz, q⟩
theorem i_catL {p2 : Addr} (h : H p = some (.lst xs)) (h2 : H p2 = some (.lst ys)) (hz : xs.length + ys.length ≤ 100000) (q : ∀ p H2, H p = none → Same H H2 → H2 p = some (.lst (xs ++ ys)) → Q (.ref p) H2) : rCatLN K (.ref p) (.ref p2) H Q := ⟨p, p2, xs, ys, rfl, rfl, h, h2, szl hz, q⟩
theorem i_slT {lo hi : Option Int} (h : SqT K H p xs) (q : ∀ p H2, Same H H2 → SqT K H2 p (cutV xs lo hi) → Q (.ref p) H2) : rSlN K (.ref p) lo hi H Q := ⟨p, xs, rfl, h, q⟩
theorem i_slL {lo hi : Option Int} (h : SqL K H p xs) (q : ∀ p H2, H p = none → Same H H2 → H2 p = some (.lst (cutV xs lo hi)) → Q (.ref p) H2) : rSlLN K (.ref p) lo hi H Q := ⟨p, xs, rfl, h, q⟩
theorem cutV_to {n : Nat} : cutV xs none (some (n : Int)) = xs.take n := by
  unfold cutV
  rw [HT.sIx_none, HT.sIx_nat, List.drop_zero, Nat.sub_zero]
  by_cases h : n ≤ xs.length
  · rw [Nat.min_eq_left h]
  · rw [Nat.min_eq_right (by omega), List.take_length, List.take_of_length_le (by omega)]
theorem cutV_from {n : Nat} : cutV xs (some (n : Int)) none = xs.drop n := by
  unfold cutV
  rw [HT.sIx_none, HT.sIx_nat]
  by_cases h : n ≤ xs.length
  · rw [Nat.min_eq_left h, List.take_of_length_le (by rw [List.length_drop]; omega)]
  · rw [Nat.min_eq_right (by omega), List.drop_length, List.drop_of_length_le (by omega), List.take_nil]
end

/-! loops -/
section
variable {K : PySem.W.Frag} {σ : L2.St} {H : Hp} {D : Ends} {tb : TS} {g : TG} {c : TT}
theorem i_for {wi : TI} (q : wi σ H fun J H1 => ∃ W : Nat → Nat → L2.St → Hp → Prop, (∃ m, W 0 m σ H1) ∧ ∀ i m σ H, W i m σ H →
    (J.stop i H ∧ D.nx σ H) ∨ (J.go i H ∧ ∃ N : L2.St → Hp → Prop, (∀ σ' H', N σ' H' → ∃ m', m' < m ∧ W (i + 1) m' σ' H') ∧ ∀ x H', J.yld i H x H' → g x σ H' fun σ2 H2 => tb { D with nx := N, ct := N, bk := D.nx } σ2 H2)) : tFor wi g tb D σ H := q
theorem i_iTup {tl : TE} {R : It → Hp → Prop} (q : tl σ H fun x H1 => ∃ a, x = .ref a ∧ (∃ xs, SqT K H1 a xs) ∧ R (Itt K a) H1) : iTup K tl σ H R := q
theorem i_iList {tl : TE} {R : It → Hp → Prop} (q : tl σ H fun x H1 => ∃ a, x = .ref a ∧ (∃ xs, SqL K H1 a xs) ∧ R (Itl K a) H1) : iList K tl σ H R := q
theorem i_iRng1 {ta : TA} {R : It → Hp → Prop} (q : ta σ H fun vs H1 => ∃ j : Int, vs = [.int j] ∧ -(2 ^ 62) ≤ j ∧ j < 2 ^ 62 ∧ R (Itr 0 j.toNat) H1) : iRng1 ta σ H R := q
theorem i_iRng2 {ta : TA} {R : It → Hp → Prop} (q : ta σ H fun vs H1 => ∃ i j : Int, vs = [.int i, .int j] ∧ (-(2 ^ 62) ≤ i ∧ i < 2 ^ 62 ∧ -(2 ^ 62) ≤ j ∧ j < 2 ^ 62) ∧ R (Itr i (j - i).toNat) H1) : iRng2 ta σ H R := q
theorem l_tup {a : Addr} {xs : List V} (h : SqT K H a xs) (Pv : Nat → L2.St → Hp → Prop) (h0 : Pv 0 σ H) (hl : ∀ i σ H, i ≤ xs.length → Pv i σ H → SqT K H a xs) (hs : ∀ i x σ H, xs[i]? = some x → Pv i σ H → g x σ H fun σ2 H2 => tb { D with nx := Pv (i + 1), ct := Pv (i + 1), bk := D.nx } σ2 H2) (hd : ∀ σ H, Pv xs.length σ H → D.nx σ H) :
    ∃ a', V.ref a = .ref a' ∧ (∃ xs, SqT K H a' xs) ∧ ∃ W : Nat → Nat → L2.St → Hp → Prop, (∃ m, W 0 m σ H) ∧ ∀ i m σ H, W i m σ H →
    ((Itt K a').stop i H ∧ D.nx σ H) ∨ ((Itt K a').go i H ∧ ∃ N : L2.St → Hp → Prop, (∀ σ' H', N σ' H' → ∃ m', m' < m ∧ W (i + 1) m' σ' H') ∧ ∀ x H', (Itt K a').yld i H x H' → g x σ H' fun σ2 H2 => tb { D with nx := N, ct := N, bk := D.nx } σ2 H2) :=
  ⟨a, rfl, ⟨xs, h⟩, for_tup Pv h0 hl hs hd⟩
theorem l_list {a : Addr} {xs : List V} (h : SqL K H a xs) (Pv : Nat → L2.St → Hp → Prop) (h0 : Pv 0 σ H) (hl : ∀ i σ H, i ≤ xs.length → Pv i σ H → SqL K H a xs) (hs : ∀ i x σ H, xs[i]? = some x → Pv i σ H → g x σ H fun σ2 H2 => tb { D with nx := Pv (i + 1), ct := Pv (i + 1), bk := D.nx } σ2 H2) (hd : ∀ σ H, Pv xs.length σ H → D.nx σ H) :
    ∃ a', V.ref a = .ref a' ∧ (∃ xs, SqL K H a' xs) ∧ ∃ W : Nat → Nat → L2.St → Hp → Prop, (∃ m, W 0 m σ H) ∧ ∀ i m σ H, W i m σ H →
    ((Itl K a').stop i H ∧ D.nx σ H) ∨ ((Itl K a').go i H ∧ ∃ N : L2.St → Hp → Prop, (∀ σ' H', N σ' H' → ∃ m', m' < m ∧ W (i + 1) m' σ' H') ∧ ∀ x H', (Itl K a').yld i H x H' → g x σ H' fun σ2 H2 => tb { D with nx := N, ct := N, bk := D.nx } σ2 H2) :=
  ⟨a, rfl, ⟨xs, h⟩, for_list Pv h0 hl hs hd⟩
theorem l_rng1 {n : Nat} (hn : n < 2 ^ 62) (Pv : Nat → L2.St → Hp → Prop) (h0 : Pv 0 σ H)
    (hs : ∀ i σ H, i < n → Pv i σ H → g (natV i) σ H fun σ2 H2 => tb { D with nx := Pv (i + 1), ct := Pv (i + 1), bk := D.nx } σ2 H2) (hd : ∀ σ H, Pv n σ H → D.nx σ H) :
    ∃ j : Int, [natV n] = [V.int j] ∧ -(2 ^ 62) ≤ j ∧ j < 2 ^ 62 ∧ ∃ W : Nat → Nat → L2.St → Hp → Prop, (∃ m, W 0 m σ H) ∧ ∀ i m σ H, W i m σ H →
    ((Itr 0 j.toNat).stop i H ∧ D.nx σ H) ∨ ((Itr 0 j.toNat).go i H ∧ ∃ N : L2.St → Hp → Prop, (∀ σ' H', N σ' H' → ∃ m', m' < m ∧ W (i + 1) m' σ' H') ∧ ∀ x H', (Itr 0 j.toNat).yld i H x H' → g x σ H' fun σ2 H2 => tb { D with nx := N, ct := N, bk := D.nx } σ2 H2) := by
  refine ⟨(n : Int), rfl, by omega, by omega, ?_⟩
  rw [Int.toNat_natCast]
  refine for_range Pv h0 (fun i σ H hi p => ?_) hd
  rw [Int.zero_add]
  exact hs i σ H hi p
theorem l_rng2 {a n : Nat} (han : a ≤ n) (hn : n < 2 ^ 62) (Pv : Nat → L2.St → Hp → Prop) (h0 : Pv 0 σ H)
    (hs : ∀ i σ H, a + i < n → Pv i σ H → g (natV (a + i)) σ H fun σ2 H2 => tb { D with nx := Pv (i + 1), ct := Pv (i + 1), bk := D.nx } σ2 H2) (hd : ∀ σ H, Pv (n - a) σ H → D.nx σ H) :
    ∃ i j : Int, [natV a, natV n] = [V.int i, V.int j] ∧ (-(2 ^ 62) ≤ i ∧ i < 2 ^ 62 ∧ -(2 ^ 62) ≤ j ∧ j < 2 ^ 62) ∧ ∃ W : Nat → Nat → L2.St → Hp → Prop, (∃ m, W 0 m σ H) ∧ ∀ k m σ H, W k m σ H →
    ((Itr i (j - i).toNat).stop k H ∧ D.nx σ H) ∨ ((Itr i (j - i).toNat).go k H ∧ ∃ N : L2.St → Hp → Prop, (∀ σ' H', N σ' H' → ∃ m', m' < m ∧ W (k + 1) m' σ' H') ∧ ∀ x H', (Itr i (j - i).toNat).yld k H x H' → g x σ H' fun σ2 H2 => tb { D with nx := N, ct := N, bk := D.nx } σ2 H2) := by
  refine ⟨(a : Int), (n : Int), rfl, ⟨by omega, by omega, by omega, by omega⟩, ?_⟩
  rw [show ((n : Int) - (a : Int)).toNat = n - a by omega]
  refine for_range Pv h0 (fun i σ H hi p => ?_) hd
  have := hs i σ H (by omega) p
  exact this
theorem l_while (W : Nat → L2.St → Hp → Prop) (m : Nat) (h0 : W m σ H) (hs : ∀ m σ H, W m σ H → c σ H fun b H1 => if b = true then tb { D with nx := fun σ' H' => ∃ m', m' < m ∧ W m' σ' H', ct := fun σ' H' => ∃ m', m' < m ∧ W m' σ' H', bk := D.nx } σ H1 else D.nx σ H1)
    (mono : ∀ σ H (Q Q' : Bool → Hp → Prop), (∀ b H1, Q b H1 → Q' b H1) → c σ H Q → c σ H Q') : tWhile c tb D σ H := by
  refine ⟨W, ⟨m, h0⟩, fun m σ H w => mono σ H _ _ (fun b H1 q => ?_) (hs m σ H w)⟩
  cases b with
  | true => exact ⟨_, fun _ _ h => h, q⟩
  | false => exact q
/-- the body in the test's own words -/
theorem l_whileN (W : Nat → L2.St → Hp → Prop) (m : Nat) (h0 : W m σ H) (hs : ∀ m σ H, W m σ H → c σ H fun b H1 => if b = true then ∃ N : L2.St → Hp → Prop, (∀ σ' H', N σ' H' → ∃ m', m' < m ∧ W m' σ' H') ∧ tb { D with nx := N, ct := N, bk := D.nx } σ H1 else D.nx σ H1) : tWhile c tb D σ H := ⟨W, ⟨m, h0⟩, hs⟩
theorem l_turn {W : Nat → L2.St → Hp → Prop} {m : Nat} (q : tb { D with nx := fun σ' H' => ∃ m', m' < m ∧ W m' σ' H', ct := fun σ' H' => ∃ m', m' < m ∧ W m' σ' H', bk := D.nx } σ H) :
    ∃ N : L2.St → Hp → Prop, (∀ σ' H', N σ' H' → ∃ m', m' < m ∧ W m' σ' H') ∧ tb { D with nx := N, ct := N, bk := D.nx } σ H := ⟨_, fun _ _ h => h, q⟩
theorem i_tupRev {te : TE} {Q : VK} (q : te σ H fun x H1 => ∃ a xs, x = .ref a ∧ SqL K H1 a xs ∧ ∀ p H2, Same H1 H2 → SqT K H2 p xs.reverse → Q (.ref p) H2) : tTupRevN K te σ H Q := q
theorem i_revL {te : TE} {Q : VK} (q : te σ H fun x H1 => ∃ a xs, x = .ref a ∧ SqL K H1 a xs ∧ ∀ p H2, H1 p = none → Same H1 H2 → H2 p = some (.lst xs.reverse) → Q (.ref p) H2) : tRevLN K te σ H Q := q
theorem i_exseq {a : Addr} {xs : List V} {A : Addr → List V → Prop} (h : SqL K H a xs) (q : A a xs) : ∃ a' xs', V.ref a = .ref a' ∧ SqL K H a' xs' ∧ A a' xs' := ⟨a, xs, rfl, h, q⟩
/-! list comprehensions: their wish is told behind the list's own end -/
def LcTurn (D : Addr) (g : TG) (tt : TT) (te : TE) (vs : List Nat) (σ : L2.St) (P : Hp → Prop) (x : V) (H' : Hp) : Prop :=
  g x (wipe σ vs) H' fun σ2 H2 => wipe σ2 vs = wipe σ vs ∧ tt σ2 H2 fun b H3 => if b = true then te σ2 H3 fun y H4 => ∃ acc, H4 D = some (.lst acc) ∧ acc.length < sizeLine ∧ P (upd H4 D (.lst (acc ++ [y]))) else P H3
def tLcR (ta : TA) (g : TG) (tt : TT) (te : TE) (vs : List Nat) : TE := fun σ H Q => ta σ H fun us H1 => ∃ n : Nat, us = [natV n] ∧ n < 2 ^ 62 ∧ ∀ D, H1 D = none → ∃ Pv : Nat → Hp → Prop, Pv 0 (upd H1 D (.lst [])) ∧
  (∀ i H', i < n → Pv i H' → LcTurn D g tt te vs σ (Pv (i + 1)) (natV i) H') ∧ ∀ H', Pv n H' → Q (.ref D) H'
def tLcL (K : PySem.W.Frag) (tl : TE) (g : TG) (tt : TT) (te : TE) (vs : List Nat) : TE := fun σ H Q => tl σ H fun u H1 => ∃ a xs, u = .ref a ∧ SqL K H1 a xs ∧ ∀ D, H1 D = none → ∃ Pv : Nat → Hp → Prop, Pv 0 (upd H1 D (.lst [])) ∧
  (∀ i H', i ≤ xs.length → Pv i H' → SqL K H' a xs) ∧ (∀ i x H', xs[i]? = some x → Pv i H' → LcTurn D g tt te vs σ (Pv (i + 1)) x H') ∧ ∀ H', Pv xs.length H' → Q (.ref D) H'
def tLcT (K : PySem.W.Frag) (tl : TE) (g : TG) (tt : TT) (te : TE) (vs : List Nat) : TE := fun σ H Q => tl σ H fun u H1 => ∃ a xs, u = .ref a ∧ SqT K H1 a xs ∧ ∀ D, H1 D = none → ∃ Pv : Nat → Hp → Prop, Pv 0 (upd H1 D (.lst [])) ∧
  (∀ i H', i ≤ xs.length → Pv i H' → SqT K H' a xs) ∧ (∀ i x H', xs[i]? = some x → Pv i H' → LcTurn D g tt te vs σ (Pv (i + 1)) x H') ∧ ∀ H', Pv xs.length H' → Q (.ref D) H'
section
variable {X : Cx} {tg : Expr} {ta : TA} {tl : TE} {tt : TT} {te : TE} {vs : List Nat} {Q : VK}
theorem lcR_of (q : tLcR ta g tt te vs σ H Q) : tLc (iRng1 (wkA ta)) g tt te vs σ H Q := ⟨_, q, fun us H1 ⟨n, e, hn, k⟩ => by
  subst e
  refine ⟨(n : Int), rfl, by omega, by omega, fun D hD => ?_⟩
  rw [Int.toNat_natCast]
  obtain ⟨Pv, h0, hs, hd⟩ := k D hD
  refine lc_range Pv h0 (fun i H' hi p => ?_) hd
  rw [Int.zero_add]
  exact hs i H' hi p⟩
theorem lcL_of (q : tLcL K tl g tt te vs σ H Q) : tLc (iList K (wkE tl)) g tt te vs σ H Q := ⟨_, q, fun us H1 ⟨a, xs, e, hx, k⟩ => by
  subst e
  refine ⟨a, rfl, ⟨xs, hx⟩, fun D hD => ?_⟩
  obtain ⟨Pv, h0, hl, hs, hd⟩ := k D hD
  exact lc_list Pv h0 hl hs hd⟩
theorem lcT_of (q : tLcT K tl g tt te vs σ H Q) : tLc (iTup K (wkE tl)) g tt te vs σ H Q := ⟨_, q, fun us H1 ⟨a, xs, e, hx, k⟩ => by
  subst e
  refine ⟨a, rfl, ⟨xs, hx⟩, fun D hD => ?_⟩
  obtain ⟨Pv, h0, hl, hs, hd⟩ := k D hD
  exact lc_tup Pv h0 hl hs hd⟩
theorem PS.imp {st : Stmt} {t t' : TS} (h : PS X st t) (i : ∀ D σ H, t' D σ H → t D σ H) : PS X st t' := ⟨fun pins s σ H D I q => h.run pins s σ H D I (i D σ H q)⟩
end
theorem i_lcR {ta : TA} {tt : TT} {te : TE} {vs : List Nat} {Q : VK} (q : ta σ H fun us H1 => ∃ n : Nat, us = [natV n] ∧ n < 2 ^ 62 ∧ ∀ D, H1 D = none → ∃ Pv : Nat → Hp → Prop, Pv 0 (upd H1 D (.lst [])) ∧
  (∀ i H', i < n → Pv i H' → LcTurn D g tt te vs σ (Pv (i + 1)) (natV i) H') ∧ ∀ H', Pv n H' → Q (.ref D) H') : tLcR ta g tt te vs σ H Q := q
theorem i_lcL {tl : TE} {tt : TT} {te : TE} {vs : List Nat} {Q : VK} (q : tl σ H fun u H1 => ∃ a xs, u = .ref a ∧ SqL K H1 a xs ∧ ∀ D, H1 D = none → ∃ Pv : Nat → Hp → Prop, Pv 0 (upd H1 D (.lst [])) ∧
  (∀ i H', i ≤ xs.length → Pv i H' → SqL K H' a xs) ∧ (∀ i x H', xs[i]? = some x → Pv i H' → LcTurn D g tt te vs σ (Pv (i + 1)) x H') ∧ ∀ H', Pv xs.length H' → Q (.ref D) H') : tLcL K tl g tt te vs σ H Q := q
theorem i_lcT {tl : TE} {tt : TT} {te : TE} {vs : List Nat} {Q : VK} (q : tl σ H fun u H1 => ∃ a xs, u = .ref a ∧ SqT K H1 a xs ∧ ∀ D, H1 D = none → ∃ Pv : Nat → Hp → Prop, Pv 0 (upd H1 D (.lst [])) ∧
  (∀ i H', i ≤ xs.length → Pv i H' → SqT K H' a xs) ∧ (∀ i x H', xs[i]? = some x → Pv i H' → LcTurn D g tt te vs σ (Pv (i + 1)) x H') ∧ ∀ H', Pv xs.length H' → Q (.ref D) H') : tLcT K tl g tt te vs σ H Q := q
theorem i_lct {D : Addr} {tt : TT} {te : TE} {vs : List Nat} {P : Hp → Prop} {x : V} (q : g x (wipe σ vs) H fun σ2 H2 => wipe σ2 vs = wipe σ vs ∧ tt σ2 H2 fun b H3 => if b = true then te σ2 H3 fun y H4 => ∃ acc, H4 D = some (.lst acc) ∧ acc.length < sizeLine ∧ P (upd H4 D (.lst (acc ++ [y]))) else P H3) :
  LcTurn D g tt te vs σ P x H := q
theorem i_yes1 {QB : Bool → Hp → Prop} (q : QB true H) : tYes σ H QB := q
theorem i_lcg {A : Prop} {σ2 : L2.St} {vs : List Nat} (q : A) (e : wipe σ2 vs = wipe σ vs := by rfl) : wipe σ2 vs = wipe σ vs ∧ A := ⟨e, q⟩
theorem i_lcput {D : Addr} {acc : List V} {P : List V → Prop} (h : H D = some (.lst acc)) (hz : acc.length ≤ 100000) (q : P acc) : ∃ acc, H D = some (.lst acc) ∧ acc.length < sizeLine ∧ P acc := ⟨acc, h, Nat.lt_of_le_of_lt hz (by decide), q⟩
end
end Sx
/-! figures to sixty -/
namespace Sx
open PySem L2
/-- the number that figures tell -/
def whole (r : List Nat) : Nat := r.foldl (fun a d => a * 60 + d) 0
/-- figures, ones first -/
def figsF : Nat → Nat → List Nat
  | 0, _ => []
  | f + 1, n => if n = 0 then [] else n % 60 :: figsF f (n / 60)
def stripF : Nat → Nat → Nat
  | 0, n => n
  | f + 1, n => if n % 60 = 0 then stripF f (n / 60) else n
def figsL (n : Nat) : List Nat := figsF n n
def figs (n : Nat) : List Nat := (figsL n).reverse
def strip (n : Nat) : Nat := stripF n n
def rowOf (n : Nat) : List Nat := figs (strip n)
structure IsRow (r : List Nat) : Prop where
  len : 1 ≤ r.length ∧ r.length ≤ 12
  fig : ∀ d ∈ r, d < 60
  hd : r[0]? ≠ some 0
  last : r.getLast? ≠ some 0

theorem figsF_more : ∀ (f g n : Nat), n ≤ f → n ≤ g → figsF f n = figsF g n
  | 0, 0, _, _, _ => rfl
  | 0, g + 1, n, h, _ => by
    have : n = 0 := by omega
    subst this
    simp [figsF]
  | f + 1, 0, n, _, h => by
    have : n = 0 := by omega
    subst this
    simp [figsF]
  | f + 1, g + 1, n, h1, h2 => by
    unfold figsF
    by_cases h : n = 0
    · rw [if_pos h, if_pos h]
    · rw [if_neg h, if_neg h, figsF_more f g (n / 60) (by omega) (by omega)]
theorem figsL_zero : figsL 0 = [] := rfl
theorem figsL_pos {n : Nat} (h : 0 < n) : figsL n = n % 60 :: figsL (n / 60) := by
  unfold figsL
  rw [show n = (n - 1) + 1 by omega]
  show (if n - 1 + 1 = 0 then [] else _) = _
  rw [if_neg (by omega)]
  congr 1
  exact figsF_more _ _ _ (by omega) (by omega)
theorem figsL_lt (n : Nat) : ∀ d ∈ figsL n, d < 60 := by
  induction n using Nat.strongRecOn with
  | ind n ih =>
    by_cases h : n = 0
    · subst h; simp [figsL_zero]
    · rw [figsL_pos (by omega)]
      intro d hd
      rcases List.mem_cons.mp hd with rfl | hd
      · omega
      · exact ih (n / 60) (by omega) d hd
theorem figsL_len : ∀ (k n : Nat), n < 60 ^ k → (figsL n).length ≤ k
  | 0, n, h => by
    have : n = 0 := by simpa using h
    subst this; simp [figsL_zero]
  | k + 1, n, h => by
    by_cases h0 : n = 0
    · subst h0; simp [figsL_zero]
    · rw [figsL_pos (by omega), List.length_cons]
      have := figsL_len k (n / 60) (by rw [Nat.pow_succ] at h; omega)
      omega
def wholeL : List Nat → Nat
  | [] => 0
  | d :: r => d + 60 * wholeL r
theorem whole_append (r : List Nat) (d : Nat) : whole (r ++ [d]) = whole r * 60 + d := by
  unfold whole; rw [List.foldl_append]; rfl
theorem whole_rev : ∀ l : List Nat, whole l.reverse = wholeL l
  | [] => rfl
  | d :: r => by
    rw [List.reverse_cons, whole_append, whole_rev r]
    show wholeL r * 60 + d = d + 60 * wholeL r
    omega
theorem wholeL_figs (n : Nat) : wholeL (figsL n) = n := by
  induction n using Nat.strongRecOn with
  | ind n ih =>
    by_cases h : n = 0
    · subst h; rfl
    · rw [figsL_pos (by omega)]
      show n % 60 + 60 * wholeL (figsL (n / 60)) = n
      rw [ih (n / 60) (by omega)]; omega
theorem whole_figs (n : Nat) : whole (figs n) = n := by rw [figs, whole_rev, wholeL_figs]
theorem wholeL_pos : ∀ {l : List Nat}, l ≠ [] → l.getLast? ≠ some 0 → 0 < wholeL l
  | [], h, _ => absurd rfl h
  | [d], _, h => by
    have : d ≠ 0 := fun e => h (by rw [e]; rfl)
    show 0 < d + 60 * 0
    omega
  | d :: e :: r, _, h => by
    have := wholeL_pos (l := e :: r) (by simp) (by rw [List.getLast?_cons_cons] at h; exact h)
    show 0 < d + 60 * wholeL (e :: r)
    omega
theorem figsL_wholeL : ∀ {l : List Nat}, (∀ d ∈ l, d < 60) → l.getLast? ≠ some 0 → figsL (wholeL l) = l
  | [], _, _ => rfl
  | [d], hl, h => by
    have h0 : d ≠ 0 := fun e => h (by rw [e]; rfl)
    have h1 := hl d (by simp)
    show figsL (d + 60 * 0) = [d]
    rw [show d + 60 * 0 = d by omega, figsL_pos (by omega), show d / 60 = 0 by omega, show d % 60 = d by omega, figsL_zero]
  | d :: e :: r, hl, h => by
    have h1 := hl d (by simp)
    have ih := figsL_wholeL (l := e :: r) (fun x hx => hl x (List.mem_cons_of_mem _ hx)) (by rw [List.getLast?_cons_cons] at h; exact h)
    have hp := wholeL_pos (l := e :: r) (by simp) (by rw [List.getLast?_cons_cons] at h; exact h)
    show figsL (d + 60 * wholeL (e :: r)) = _
    rw [figsL_pos (by omega), show (d + 60 * wholeL (e :: r)) / 60 = wholeL (e :: r) by omega, show (d + 60 * wholeL (e :: r)) % 60 = d by omega, ih]
theorem head_rev {α : Type} (l : List α) : l.reverse.getLast? = l[0]? := by
  rw [List.getLast?_reverse, List.head?_eq_getElem?]
theorem whole_eq (r : List Nat) : whole r = wholeL r.reverse := by
  rw [← whole_rev, List.reverse_reverse]
theorem figs_whole {r : List Nat} (h1 : ∀ d ∈ r, d < 60) (h2 : r[0]? ≠ some 0) : figs (whole r) = r := by
  rw [figs, whole_eq, figsL_wholeL (fun d hd => h1 d (List.mem_reverse.mp hd)) (by rw [head_rev]; exact h2), List.reverse_reverse]
theorem whole_pos {r : List Nat} (h1 : r ≠ []) (h2 : r[0]? ≠ some 0) : 0 < whole r := by
  rw [whole_eq]
  exact wholeL_pos (by simpa using h1) (by rw [head_rev]; exact h2)
theorem whole_last {r : List Nat} (h1 : ∀ d ∈ r, d < 60) (h2 : r ≠ []) (h : r.getLast? ≠ some 0) : whole r % 60 ≠ 0 := by
  have e := List.dropLast_concat_getLast h2
  rw [← e, whole_append]
  have hl := h1 _ (List.getLast_mem h2)
  have hn : r.getLast h2 ≠ 0 := fun z => h (by rw [List.getLast?_eq_getLast h2, z])
  omega
theorem whole_lt : ∀ {k : Nat} {r : List Nat}, (∀ d ∈ r, d < 60) → r.length ≤ k → whole r < 60 ^ k := by
  intro k r h1 h2
  rw [whole_eq]
  have key : ∀ (l : List Nat) (k : Nat), (∀ d ∈ l, d < 60) → l.length ≤ k → wholeL l < 60 ^ k := by
    intro l
    induction l with
    | nil => intro k _ _; exact Nat.pos_of_ne_zero (by simp)
    | cons d r ih =>
      intro k hd hk
      cases k with
      | zero => simp at hk
      | succ k =>
        have := ih k (fun x hx => hd x (List.mem_cons_of_mem _ hx)) (by simpa using hk)
        have h0 := hd d (by simp)
        show d + 60 * wholeL r < 60 ^ (k + 1)
        rw [Nat.pow_succ]; omega
  exact key _ _ (fun d hd => h1 d (List.mem_reverse.mp hd)) (by simpa using h2)
/-! strip -/
theorem stripF_more : ∀ (f g n : Nat), 0 < n → n ≤ f → n ≤ g → stripF f n = stripF g n
  | 0, _, n, h, h1, _ => by omega
  | _ + 1, 0, n, h, _, h2 => by omega
  | f + 1, g + 1, n, h, h1, h2 => by
    unfold stripF
    by_cases e : n % 60 = 0
    · rw [if_pos e, if_pos e, stripF_more f g (n / 60) (by omega) (by omega) (by omega)]
    · rw [if_neg e, if_neg e]
theorem strip_yes {n : Nat} (h : 0 < n) (e : n % 60 = 0) : strip n = strip (n / 60) := by
  unfold strip
  rw [show n = (n - 1) + 1 by omega]
  show (if (n - 1 + 1) % 60 = 0 then _ else _) = _
  rw [if_pos (by rw [show n - 1 + 1 = n by omega]; exact e)]
  exact stripF_more _ _ _ (by omega) (by omega) (by omega)
theorem strip_no {n : Nat} (h : 0 < n) (e : n % 60 ≠ 0) : strip n = n := by
  unfold strip
  rw [show n = (n - 1) + 1 by omega]
  show (if (n - 1 + 1) % 60 = 0 then _ else _) = _
  rw [if_neg (by rw [show n - 1 + 1 = n by omega]; exact e)]
theorem strip_spec (n : Nat) (h : 0 < n) : 0 < strip n ∧ strip n % 60 ≠ 0 ∧ ∃ k, n = strip n * 60 ^ k := by
  induction n using Nat.strongRecOn with
  | ind n ih =>
    by_cases e : n % 60 = 0
    · rw [strip_yes h e]
      obtain ⟨h1, h2, k, h3⟩ := ih (n / 60) (by omega) (by omega)
      refine ⟨h1, h2, k + 1, ?_⟩
      rw [Nat.pow_succ, ← Nat.mul_assoc, ← h3]; omega
    · rw [strip_no h e]
      exact ⟨h, e, 0, by simp⟩
theorem strip_le {n : Nat} (h : 0 < n) : strip n ≤ n := by
  obtain ⟨_, _, k, e⟩ := strip_spec n h
  have : 0 < 60 ^ k := Nat.pos_of_ne_zero (by simp)
  calc strip n = strip n * 1 := by omega
    _ ≤ strip n * 60 ^ k := Nat.mul_le_mul_left _ this
    _ = n := e.symm
theorem rowOf_whole {r : List Nat} (h : IsRow r) : rowOf (whole r) = r := by
  have hne : r ≠ [] := by
    rintro rfl
    have := h.len.1
    simp at this
  rw [rowOf, strip_no (whole_pos hne h.hd) (whole_last h.fig hne h.last), figs_whole h.fig h.hd]
theorem figs_head {n : Nat} (h : 0 < n) : (figs n)[0]? ≠ some 0 := by
  rw [figs, ← List.head?_eq_getElem?, List.head?_reverse]
  have key : ∀ n : Nat, 0 < n → (figsL n).getLast? ≠ some 0 := by
    intro n
    induction n using Nat.strongRecOn with
    | ind n ih =>
      intro hp
      rw [figsL_pos hp]
      by_cases h0 : n / 60 = 0
      · rw [h0, figsL_zero]
        intro e
        have : n % 60 = 0 := Option.some.inj e
        omega
      · have hq := ih (n / 60) (by omega) (by omega)
        rw [figsL_pos (n := n / 60) (by omega)] at hq ⊢
        rw [List.getLast?_cons_cons]
        exact hq
  exact key n h
theorem figs_last {n : Nat} (h : 0 < n) (e : n % 60 ≠ 0) : (figs n).getLast? ≠ some 0 := by
  rw [figs, head_rev, figsL_pos h]
  intro z
  exact e (Option.some.inj z)
theorem figs_lt (n : Nat) : ∀ d ∈ figs n, d < 60 := fun d hd => figsL_lt n d (List.mem_reverse.mp hd)
theorem figs_len {k n : Nat} (h : n < 60 ^ k) : (figs n).length ≤ k := by
  rw [figs, List.length_reverse]; exact figsL_len k n h
theorem figs_len1 {n : Nat} (h : 0 < n) : 1 ≤ (figs n).length := by
  rw [figs, List.length_reverse, figsL_pos h, List.length_cons]; omega
theorem isRow_rowOf {n : Nat} (h : 0 < n) (hl : (rowOf n).length ≤ 12) : IsRow (rowOf n) := by
  obtain ⟨h1, h2, _⟩ := strip_spec n h
  exact ⟨⟨figs_len1 h1, hl⟩, figs_lt _, figs_head h1, figs_last h1 h2⟩
theorem isRow_small {n : Nat} (h : 0 < n) (hl : n < 60 ^ 12) : IsRow (rowOf n) :=
  isRow_rowOf h (figs_len (Nat.lt_of_le_of_lt (strip_le h) hl))
/-! casts -/
theorem sum_mod : ∀ l : List Nat, l.sum % 59 = wholeL l % 59
  | [] => rfl
  | d :: r => by
    have := sum_mod r
    rw [List.sum_cons]
    show (d + r.sum) % 59 = (d + 60 * wholeL r) % 59
    omega
theorem whole_mod (r : List Nat) : r.sum % 59 = whole r % 59 := by
  rw [whole_eq, ← sum_mod, List.sum_reverse]
theorem pow60_mod : ∀ k : Nat, 60 ^ k % 59 = 1
  | 0 => rfl
  | k + 1 => by rw [Nat.pow_succ, Nat.mul_mod, pow60_mod k]
theorem strip_mod {n : Nat} (h : 0 < n) : strip n % 59 = n % 59 := by
  obtain ⟨_, _, k, e⟩ := strip_spec n h
  calc strip n % 59 = strip n % 59 * 1 % 59 := by omega
    _ = (strip n % 59) * (60 ^ k % 59) % 59 := by rw [pow60_mod]
    _ = (strip n * 60 ^ k) % 59 := (Nat.mul_mod _ _ _).symm
    _ = n % 59 := by rw [← e]
theorem cast_rowOf {n : Nat} (h : 0 < n) : (rowOf n).sum % 59 = n % 59 := by
  rw [whole_mod, rowOf, whole_figs, strip_mod h]
end Sx
/-! promises: rows.py and the laws' common helpers -/
namespace Sx
open PySem L2
def sp_check_row (K : PySem.W.Frag) : Sp := fun vs H Q _ => ∃ a r, vs = [.ref a] ∧ SqT K H a (rowV r) ∧ IsRow r ∧ Q .non H
def sp_whole_of (K : PySem.W.Frag) : Sp := fun vs H Q _ => ∃ a r, vs = [.ref a] ∧ SqT K H a (rowV r) ∧ IsRow r ∧ Q (natV (whole r)) H
def sp_figures_of (K : PySem.W.Frag) : Sp := fun vs H Q _ => ∃ n, vs = [natV n] ∧ n < 60 ^ 200 ∧ ∀ p H', Same H H' → SqT K H' p (rowV (figs n)) → Q (.ref p) H'
def sp_row_of (K : PySem.W.Frag) : Sp := fun vs H Q _ => ∃ n, vs = [natV n] ∧ 0 < n ∧ n < 60 ^ 200 ∧ ∀ p H', Same H H' → SqT K H' p (rowV (rowOf n)) → Q (.ref p) H'
def sp_times (K : PySem.W.Frag) : Sp := fun vs H Q _ => ∃ a b r1 r2, vs = [.ref a, .ref b] ∧ SqT K H a (rowV r1) ∧ IsRow r1 ∧ SqT K H b (rowV r2) ∧ IsRow r2 ∧
  ∀ p H', Same H H' → SqT K H' p (rowV (rowOf (whole r1 * whole r2))) → Q (.ref p) H'
def sp_cast (K : PySem.W.Frag) : Sp := fun vs H Q _ => ∃ a r, vs = [.ref a] ∧ SqT K H a (rowV r) ∧ IsRow r ∧ Q (natV (r.sum % 59)) H
/-- the drawing list: the script, a place, a mixed number, what is left of a great one -/
def DiceL (H : Hp) (d sc : Addr) : Prop := ∃ i m r : Nat, H d = some (.lst [.ref sc, natV i, natV m, natV r]) ∧ m < 2147483647
def Script (K : PySem.W.Frag) (H : Hp) (d sc : Addr) : Prop := ∃ ns : List Int, ns.length ≤ 63 ∧ ∀ H2, SB d H H2 → SqL K H2 sc (ns.map V.int)
def Dice (K : PySem.W.Frag) (H : Hp) (d : Addr) : Prop := ∃ sc, DiceL H d sc ∧ Script K H d sc
/-- drawn: the drawing list goes on, all else stands -/
def Drew (d : Addr) (H H' : Hp) : Prop := SB d H H' ∧ ∀ sc, DiceL H d sc → DiceL H' d sc
theorem Drew.refl (d : Addr) (H : Hp) : Drew d H H := ⟨SB.refl _ _, fun _ h => h⟩
theorem Drew.trans {d : Addr} {H H1 H2 : Hp} (a : Drew d H H1) (b : Drew d H1 H2) : Drew d H H2 := ⟨a.1.trans b.1, fun sc h => b.2 sc (a.2 sc h)⟩
theorem Drew.of {d : Addr} {H H1 : Hp} (b : Same H H1) : Drew d H H1 := ⟨Same.sb b, fun _ ⟨i, m, r, h, l⟩ => ⟨i, m, r, b _ _ h, l⟩⟩
theorem Drew.same {d : Addr} {H H1 H2 : Hp} (a : Drew d H H1) (b : Same H1 H2) : Drew d H H2 := a.trans (Drew.of b)
theorem Dice.drew {K : PySem.W.Frag} {H H' : Hp} {d : Addr} (x : Dice K H d) (e : Drew d H H') : Dice K H' d := by
  obtain ⟨sc, h, ns, hl, hs⟩ := x
  exact ⟨sc, e.2 sc h, ns, hl, fun H2 s => hs H2 (e.1.trans s)⟩
theorem Dice.lst {K : PySem.W.Frag} {H : Hp} {d : Addr} (x : Dice K H d) : ∃ xs, H d = some (.lst xs) := by
  obtain ⟨sc, ⟨i, m, r, h, _⟩, _⟩ := x
  exact ⟨_, h⟩
theorem Dice.ne {K : PySem.W.Frag} {H : Hp} {d p : Addr} (x : Dice K H d) (h : H p = none) : p ≠ d := by
  rintro rfl
  obtain ⟨zs, e⟩ := x.lst
  rw [e] at h; cases h
theorem Dice.row {K : PySem.W.Frag} {H H' : Hp} {d a : Addr} {xs : List V} (x : Dice K H d) (s : Drew d H H') (h : SqT K H a xs) : SqT K H' a xs := by
  obtain ⟨ys, e⟩ := x.lst
  exact SB.seqT s.1 e h
/-- what is not known behind was not known ahead -/
theorem Drew.back {K : PySem.W.Frag} {H H' : Hp} {d p : Addr} (x : Dice K H d) (e : Drew d H H') (h : H' p = none) : H p = none := by
  cases z : H p with
  | none => rfl
  | some o =>
    have hne := (x.drew e).ne h
    rw [e.1 _ _ hne z] at h; cases h
/-- a new object, changed -/
theorem Drew.mut {d p : Addr} {H H1 : Hp} {o : HO} (a : Drew d H H1) (h : H p = none) (hd : p ≠ d) : Drew d H (upd H1 p o) :=
  ⟨SB.mut a.1 h, fun sc x => by
    obtain ⟨i, m, r, e, l⟩ := a.2 sc x
    exact ⟨i, m, r, by rw [upd_ne hd.symm]; exact e, l⟩⟩
def sp__law_dice (K : PySem.W.Frag) : Sp := fun vs H Q _ => ∃ (a : Addr) (ns : List Int), vs = [.ref a] ∧ SqL K H a (ns.map V.int) ∧ ns.length ≤ 63 ∧ ∀ d H', H d = none → Same H H' → Dice K H' d → Q (.ref d) H'
def sp__law_next (K : PySem.W.Frag) : Sp := fun vs H Q _ => ∃ (d : Addr) (m : Nat), vs = [.ref d, natV m] ∧ Dice K H d ∧ 0 < m ∧ m < 1073741824 ∧ ∀ n H', n < m → Drew d H H' → Q (natV n) H'
def sp__law_whole_of (K : PySem.W.Frag) : Sp := fun vs H Q _ => ∃ a r, vs = [.ref a] ∧ SqT K H a (rowV r) ∧ r.length ≤ 1000 ∧ Q (natV (whole r)) H
def sp__law_row (K : PySem.W.Frag) : Sp := fun vs H Q _ => ∃ n, vs = [natV n] ∧ 0 < n ∧ n < 60 ^ 200 ∧ ∀ p H', Same H H' → SqT K H' p (rowV (rowOf n)) → Q (.ref p) H'
def sp__law_smooth (K : PySem.W.Frag) : Sp := fun vs H Q _ => ∃ d, vs = [.ref d] ∧ Dice K H d ∧ ∀ a b c H', a ≤ 9 → b ≤ 9 → c ≤ 9 → Drew d H H' → Q (natV (2 ^ a * 3 ^ b * 5 ^ c)) H'
def sp__law_drawn (K : PySem.W.Frag) : Sp := fun vs H Q _ => ∃ (d : Addr) (m : Nat), vs = [.ref d, natV m] ∧ Dice K H d ∧ 2 ≤ m ∧ m ≤ 12 ∧
  ∀ p r H', IsRow r → r.length ≤ m → Drew d H H' → SqT K H' p (rowV r) → Q (.ref p) H'
/-- data of a depth: what the laws' own likeness looks at -/
def plainD : Nat → PyData → Prop
  | _, .none => True
  | _, .bool _ => False
  | _, .int _ => True
  | _, .str x => PyData.canLay0 (.str x) = true
  | 0, .list _ => False
  | 0, .tuple _ => False
  | n + 1, .list ds => ds.length ≤ 100000 ∧ ∀ d ∈ ds, plainD n d
  | n + 1, .tuple ds => ds.length ≤ 100000 ∧ ∀ d ∈ ds, plainD n d
  | _, .dict _ => False
def spLike (K : PySem.W.Frag) : Nat → Sp
  | 0 => fun _ _ _ _ => False
  | n + 1 => fun vs H Q _ => ∃ x y D, vs = [x, y] ∧ Dp K H x D ∧ Dp K H y D ∧ plainD n D ∧ Q (.bl true) H
abbrev sp__law_like (K : PySem.W.Frag) : Sp := spLike K 7
end Sx
open PySem L2 RT Sx
local macro_rules | `(tactic| walk_at "s") => `(tactic| first
  | ((with_reducible refine' i_var ?k1 ?_); (case k1 => rfl))
  | with_reducible refine' i_c ?_
  | with_reducible refine' i_op ?_
  | with_reducible refine' i_cons ?_
  | with_reducible refine' i_nil ?_
  | with_reducible refine' i_seq ?_
  | with_reducible refine' i_asg ?_
  | ((with_reducible refine' i_gname ?_); try dsimp -proj only [List.set_cons_zero, List.set_cons_succ])
  | with_reducible refine' i_call ?_
  | with_reducible refine' i_cb ?_
  | with_reducible refine' i_ifS ?_
  | with_reducible refine' i_test ?_
  | with_reducible refine' i_exbl ?_
  | with_reducible refine' i_exnat ?_
  | with_reducible refine' i_ret ?_
  | with_reducible refine' i_drop ?_
  | with_reducible refine' i_next ?_
  | with_reducible refine' i_tB ?_
  | with_reducible refine' i_chain ?_
  | with_reducible refine' i_and ?_
  | with_reducible refine' i_or ?_
  | with_reducible refine' i_not ?_
  | with_reducible refine' i_andV ?_
  | with_reducible refine' i_orV ?_
  | with_reducible refine' i_notV ?_
  | with_reducible refine' i_if ?_
  | with_reducible refine' i_un ?_
  | with_reducible refine' i_negN ?_
  | with_reducible refine' i_addN ?_
  | ((with_reducible refine' i_subN ?k1 ?_); (case k1 => omega))
  | ((with_reducible refine' i_mulN ?k1 ?_); (case k1 => omega))
  | ((with_reducible refine' i_fdN ?k1 ?k2 ?_); (case k1 => omega); (case k2 => omega))
  | ((with_reducible refine' i_mdN ?k1 ?_); (case k1 => omega))
  | ((with_reducible refine' i_pwN ?k1 ?k2 ?_); (case k1 => omega); (case k2 => omega))
  | with_reducible refine' i_ltN ?_
  | with_reducible refine' i_leN ?_
  | with_reducible refine' i_gtN ?_
  | with_reducible refine' i_geN ?_
  | with_reducible refine' i_eqN ?_
  | with_reducible refine' i_neN ?_
  | with_reducible refine' i_bit ?_
  | with_reducible refine' i_tup ?_
  | with_reducible refine' i_lst ?_
  | with_reducible refine' i_bm ?_
  | with_reducible refine' i_bm0 ?_
  | with_reducible refine' i_gsub ?_
  | ((with_reducible refine' i_aug ?k1 ?_); (case k1 => rfl))
  | with_reducible refine' i_sl ?_
  | with_reducible refine' i_nopart ?_
  | with_reducible refine' i_part ?_
  | with_reducible refine' i_yes1 ?_
  | with_reducible refine' i_lcR ?_
  | with_reducible refine' i_lcL ?_
  | with_reducible refine' i_lcT ?_
  | with_reducible refine' i_lct ?_
  | with_reducible refine' i_iteT ?_
  | with_reducible refine' i_iteNT ?_
  | with_reducible refine' i_iteNF ?_
  | with_reducible refine' i_iteF ?_
  | ((with_reducible refine' i_yes ?k1 ?_); (case k1 => omega))
  | ((with_reducible refine' i_nay ?k1 ?_); (case k1 => omega))
  | ((with_reducible refine' i_yesN ?k1 ?_); (case k1 => omega))
  | ((with_reducible refine' i_nayN ?k1 ?_); (case k1 => omega)))
local macro_rules | `(tactic| walk_at "go") => `(tactic| (repeat walk_at "s"; try dsimp -proj only [List.set_cons_zero, List.set_cons_succ]))

namespace Sx
def t_check_row (K : PySem.W.Frag) : TS := (tSeq (tIfS (tNot (tTest (tChain rLe rLe (tC (natV 1)) (tCB (rLen K) (tCons (tVar 0) tNil)) (tC (natV 12))))) tNever tNext)
  (tSeq (tIfS (tOr (tTest (tOp rLt (tCB (rMinT K) (tCons (tVar 0) tNil)) (tC (natV 0)))) (tTest (tOp rGt (tCB (rMaxT K) (tCons (tVar 0) tNil)) (tC (natV 59))))) tNever tNext)
  (tIfS (tOr (tTest (tOp rEq (tOp (rIxT K) (tVar 0) (tC (natV 0))) (tC (natV 0)))) (tTest (tOp rEq (tOp (rIxT K) (tVar 0) (tUn rNeg (tC (natV 1)))) (tC (natV 0))))) tNever tNext)))
def t_whole_of (K : PySem.W.Frag) : TS := (tSeq (tDrop (tCall (sp_check_row K) [] E0 (tCons (tVar 0) tNil)))
  (tSeq (tAsg (tC (natV 0)) (gName 1))
  (tSeq (tFor (iTup K (tVar 0)) (gName 2)
  (tAsg (tOp rAdd (tOp rMul (tVar 1) (tC (natV 60))) (tVar 2)) (gName 1)))
  (tRet (tVar 1)))))
def t_figures_of (K : PySem.W.Frag) : TS := (tSeq (tAsg (tLstN tNil) (gName 1))
  (tSeq (tWhile (tTest (tOp rGt (tVar 0) (tC (natV 0)))) (tSeq (tDrop (tBM K "list" rAppend (tVar 1) (tCons (tOp rMd (tVar 0) (tC (natV 60))) tNil)))
  (tAug 0 (tC (natV 60)) rFd)))
  (tRet (tTupRevN K (tVar 1)))))
def t_row_of (K : PySem.W.Frag) : TS := (tSeq (tWhile (tTest (tOp rEq (tOp rMd (tVar 0) (tC (natV 60))) (tC (natV 0)))) (tAug 0 (tC (natV 60)) rFd))
  (tRet (tCall (sp_figures_of K) [] E0 (tCons (tVar 0) tNil))))
def t_times (K : PySem.W.Frag) : TS := (tRet (tCall (sp_row_of K) [] E0 (tCons (tOp rMulW (tCall (sp_whole_of K) [] E0 (tCons (tVar 0) tNil)) (tCall (sp_whole_of K) [] E0 (tCons (tVar 1) tNil))) tNil)))
def t_cast (K : PySem.W.Frag) : TS := (tSeq (tDrop (tCall (sp_check_row K) [] E0 (tCons (tVar 0) tNil)))
  (tRet (tOp rMd (tCB (rSumT K) (tCons (tVar 0) tNil)) (tC (natV 59)))))
def t__law_dice (K : PySem.W.Frag) : TS := (tSeq (tAsg (tC (natV 0)) (gName 1))
  (tSeq (tFor (iList K (tVar 0)) (gName 2)
  (tAsg (tOp rMd (tOp rAdd (tOp rAdd (tOp rMul (tVar 1) (tC (natV 48271))) (tOp rMul (tOp rMd (tVar 2) (tC (natV 2147483647))) (tC (natV 69621)))) (tC (natV 11))) (tC (natV 2147483647))) (gName 1)))
  (tRet (tLstN (tCons (tVar 0) (tCons (tC (natV 0)) (tCons (tOp rMulW (tVar 1) (tCB rInt1 (tCons (tOp rGt (tCB (rLen K) (tCons (tVar 0) tNil)) (tC (natV 2))) tNil))) (tCons (tC (natV 0)) tNil))))))))
def t__law_next (K : PySem.W.Frag) : TS := (tSeq (tIfS (tTest (tOp rGt (tOp (rIxL K) (tVar 0) (tC (natV 3))) (tC (natV 0)))) (tSeq (tAsg (tOp rMd (tOp (rIxL K) (tVar 0) (tC (natV 3))) (tVar 1)) (gName 2))
  (tSeq (tAsg (tOp rFd (tOp (rIxL K) (tVar 0) (tC (natV 3))) (tVar 1)) (gSub (tVar 0) (tC (natV 3)) rSetL))
  (tRet (tVar 2)))) tNext)
  (tSeq (tAsg (tOp rAdd (tOp (rIxL K) (tVar 0) (tC (natV 1))) (tC (natV 1))) (gSub (tVar 0) (tC (natV 1)) rSetL))
  (tSeq (tIfS (tTest (tOp rLe (tOp (rIxL K) (tVar 0) (tC (natV 1))) (tCB (rLen K) (tCons (tOp (rIxL K) (tVar 0) (tC (natV 0))) tNil)))) (tSeq (tAsg (tOp (rIxL K) (tOp (rIxL K) (tVar 0) (tC (natV 0))) (tOp rSub (tOp (rIxL K) (tVar 0) (tC (natV 1))) (tC (natV 1)))) (gName 3))
  (tSeq (tAsg (tIf (tTest (tOp rGe (tVar 3) (tOp rPw (tC (natV 10)) (tC (natV 18))))) (tOp rFd (tVar 3) (tVar 1)) (tC (natV 0))) (gSub (tVar 0) (tC (natV 3)) rSetL))
  (tRet (tOp rMd (tVar 3) (tVar 1))))) tNext)
  (tSeq (tAsg (tOp rMd (tOp rMul (tOp (rIxL K) (tVar 0) (tC (natV 2))) (tC (natV 48271))) (tC (natV 2147483647))) (gSub (tVar 0) (tC (natV 2)) rSetL))
  (tRet (tOp rMd (tOp rFd (tOp (rIxL K) (tVar 0) (tC (natV 2))) (tC (natV 7))) (tVar 1)))))))
def t__law_whole_of (K : PySem.W.Frag) : TS := (tSeq (tAsg (tC (natV 0)) (gName 1))
  (tSeq (tFor (iRng1 (tCons (tCB (rLen K) (tCons (tVar 0) tNil)) tNil)) (gName 2)
  (tAsg (tOp rAdd (tOp rMul (tVar 1) (tC (natV 60))) (tOp (rIxT K) (tVar 0) (tVar 2))) (gName 1)))
  (tRet (tVar 1))))
def t__law_row (K : PySem.W.Frag) : TS := (tSeq (tAsg (tLstN tNil) (gName 1))
  (tSeq (tWhile (tTest (tOp rGt (tVar 0) (tC (natV 0)))) (tSeq (tDrop (tBM K "list" rAppend (tVar 1) (tCons (tOp rMd (tVar 0) (tC (natV 60))) tNil)))
  (tAsg (tOp rFd (tVar 0) (tC (natV 60))) (gName 0))))
  (tSeq (tWhile (tTest (tOp rEq (tOp (rIxL K) (tVar 1) (tC (natV 0))) (tC (natV 0)))) (tDrop (tBM K "list" rPopAt (tVar 1) (tCons (tC (natV 0)) tNil))))
  (tRet (tCB (rTupN K) (tCons (tRevLN K (tVar 1)) tNil))))))
def t__law_smooth (K : PySem.W.Frag) : TS := (tSeq (tAsg (tC (natV 1)) (gName 1))
  (tSeq (tFor (iList K (tLstN (tCons (tC (natV 2)) (tCons (tC (natV 3)) (tCons (tC (natV 5)) tNil))))) (gName 2)
  (tFor (iRng1 (tCons (tOp (rIxL K) (tLstN (tCons (tCall (sp__law_next K) [] E0 (tCons (tVar 0) (tCons (tC (natV 4)) tNil))) (tCons (tCall (sp__law_next K) [] E0 (tCons (tVar 0) (tCons (tC (natV 10)) tNil))) tNil))) (tCB rInt1 (tCons (tOp rEq (tCall (sp__law_next K) [] E0 (tCons (tVar 0) (tCons (tC (natV 4)) tNil))) (tC (natV 3))) tNil))) tNil)) (gName 3)
  (tAsg (tOp rMulW (tVar 1) (tVar 2)) (gName 1))))
  (tRet (tVar 1))))
def t__law_drawn (K : PySem.W.Frag) : TS := (tSeq (tAsg (tCall (sp__law_next K) [] E0 (tCons (tVar 0) (tCons (tC (natV 4)) tNil))) (gName 2))
  (tSeq (tIfS (tTest (tOp rEq (tVar 2) (tC (natV 0)))) (tRet (tCall (sp__law_row K) [] E0 (tCons (tOp rAdd (tC (natV 1)) (tCall (sp__law_next K) [] E0 (tCons (tVar 0) (tCons (tC (natV 60)) tNil)))) tNil))) tNext)
  (tSeq (tIfS (tTest (tOp rLt (tVar 2) (tC (natV 3)))) (tAsg (tCall (sp__law_row K) [] E0 (tCons (tOp rMulW (tCall (sp__law_smooth K) [] E0 (tCons (tVar 0) tNil)) (tOp (rIxL K) (tLstN (tCons (tC (natV 1)) (tCons (tC (natV 1)) (tCons (tC (natV 1)) (tCons (tC (natV 7)) (tCons (tC (natV 49)) (tCons (tC (natV 11)) tNil))))))) (tCall (sp__law_next K) [] E0 (tCons (tVar 0) (tCons (tC (natV 6)) tNil))))) tNil)) (gName 3)) (tSeq (tAsg (tLcR (tCons (tOp rAdd (tC (natV 1)) (tCall (sp__law_next K) [] E0 (tCons (tVar 0) (tCons (tVar 1) tNil)))) tNil) (gName 5) tYes (tCall (sp__law_next K) [] E0 (tCons (tVar 0) (tCons (tC (natV 60)) tNil))) [5]) (gName 4))
  (tAsg (tOp (rCatN K) (tOp (rCatN K) (tTupN K (tCons (tOp rAdd (tC (natV 1)) (tCall (sp__law_next K) [] E0 (tCons (tVar 0) (tCons (tC (natV 59)) tNil)))) tNil)) (tCB (rTupN K) (tCons (tVar 4) tNil))) (tTupN K (tCons (tOp rAdd (tC (natV 1)) (tCall (sp__law_next K) [] E0 (tCons (tVar 0) (tCons (tC (natV 59)) tNil)))) tNil))) (gName 3))))
  (tRet (tIf (tTest (tOp rGt (tOp (rIxT K) (tSl (rSlN K) (tVar 3) tNoPart (tPart (tVar 1))) (tUn rNeg (tC (natV 1)))) (tC (natV 0)))) (tSl (rSlN K) (tVar 3) tNoPart (tPart (tVar 1))) (tTupN K (tCons (tC (natV 1)) (tCons (tC (natV 30)) tNil))))))))
def t__law_like (K : PySem.W.Frag) (sp : Sp) : TS := (tSeq (tIfS (tB (tCB (rIsi K) (tCons (tVar 1) (tCons (tC (.ty "str")) tNil)))) (tRet (tAndV (tCB (rIsi K) (tCons (tVar 0) (tCons (tC (.ty "str")) tNil))) (tOp (rEqD K) (tVar 0) (tVar 1)))) tNext)
  (tSeq (tIfS (tB (tCB (rIsi K) (tCons (tVar 1) (tCons (tC (.ty "int")) tNil)))) (tRet (tAndV (tCB (rIsi K) (tCons (tVar 0) (tCons (tC (.ty "int")) tNil))) (tAndV (tNotV (tCB (rIsi K) (tCons (tVar 0) (tCons (tC (.ty "bool")) tNil)))) (tOp (rEqD K) (tVar 0) (tVar 1))))) tNext)
  (tSeq (tIfS (tTest (tOp rIsN (tVar 1) (tC .non))) (tRet (tOp rIsN (tVar 0) (tC .non))) tNext)
  (tSeq (tIfS (tOr (tTest (tOp rNe (tCB (rIsi K) (tCons (tVar 1) (tCons (tC (.ty "tuple")) tNil))) (tCB (rIsi K) (tCons (tVar 0) (tCons (tC (.ty "tuple")) tNil))))) (tTest (tOp rNe (tCB (rIsi K) (tCons (tVar 1) (tCons (tC (.ty "list")) tNil))) (tCB (rIsi K) (tCons (tVar 0) (tCons (tC (.ty "list")) tNil)))))) (tRet (tC (.bl false))) tNext)
  (tSeq (tIfS (tTest (tOp rNe (tCB (rLen K) (tCons (tVar 0) tNil)) (tCB (rLen K) (tCons (tVar 1) tNil)))) (tRet (tC (.bl false))) tNext)
  (tSeq (tFor (iRng1 (tCons (tCB (rLen K) (tCons (tVar 1) tNil)) tNil)) (gName 2)
  (tIfS (tNot (tB (tCall (sp) [] E0 (tCons (tOp (rIxQ K) (tVar 0) (tVar 2)) (tCons (tOp (rIxQ K) (tVar 1) (tVar 2)) tNil))))) (tRet (tC (.bl false))) tNext))
  (tRet (tC (.bl true)))))))))

theorem rowV_ints (r : List Nat) : rowV r = (r.map fun n : Nat => (n : Int)).map V.int := by
  unfold rowV natV; rw [List.map_map]; rfl
theorem rowV_get {r : List Nat} {i d : Nat} (h : r[i]? = some d) : (rowV r)[i]? = some (natV d) := by
  unfold rowV; rw [List.getElem?_map, h]; rfl
theorem rowV_len (r : List Nat) : (rowV r).length = r.length := by unfold rowV; rw [List.length_map]
theorem rowV_of {r : List Nat} {i : Nat} {x : V} (h : (rowV r)[i]? = some x) : ∃ d, r[i]? = some d ∧ x = natV d := by
  unfold rowV at h; rw [List.getElem?_map] at h
  cases e : r[i]? with
  | none => rw [e] at h; cases h
  | some d => rw [e] at h; exact ⟨d, rfl, (Option.some.inj h).symm⟩
theorem sum_cast (r : List Nat) : (r.map fun n : Nat => (n : Int)).sum = ((r.sum : Nat) : Int) := by
  induction r with
  | nil => rfl
  | cons d r ih => rw [List.map_cons, List.sum_cons, List.sum_cons, ih]; omega
section
variable {K : PySem.W.Frag} {H : Hp} {Q : VK} {a : Addr} {r : List Nat}
theorem i_sumN (h : SqT K H a (rowV r)) (q : Q (natV r.sum) H) : rSumT K [.ref a] H Q :=
  ⟨a, _, rfl, by rw [← rowV_ints]; exact h, by rw [sum_cast]; exact q⟩
theorem i_minN (h : SqT K H a (rowV r)) (hn : r ≠ []) (q : ∀ m, m ∈ r → (∀ y ∈ r, m ≤ y) → Q (natV m) H) : rMinT K [.ref a] H Q :=
  ⟨a, _, rfl, by rw [← rowV_ints]; exact h, by rw [List.length_map]; exact List.length_pos_iff.mpr hn, fun m hm hy => by
    obtain ⟨k, hk, rfl⟩ := List.mem_map.mp hm
    exact q k hk fun y hy' => by have := hy (y : Int) (List.mem_map.mpr ⟨y, hy', rfl⟩); omega⟩
theorem i_maxN (h : SqT K H a (rowV r)) (hn : r ≠ []) (q : ∀ m, m ∈ r → (∀ y ∈ r, y ≤ m) → Q (natV m) H) : rMaxT K [.ref a] H Q :=
  ⟨a, _, rfl, by rw [← rowV_ints]; exact h, by rw [List.length_map]; exact List.length_pos_iff.mpr hn, fun m hm hy => by
    obtain ⟨k, hk, rfl⟩ := List.mem_map.mp hm
    exact q k hk fun y hy' => by have := hy (y : Int) (List.mem_map.mpr ⟨y, hy', rfl⟩); omega⟩
/-- the last item -/
theorem i_ixlast {xs : List V} {v : V} (h : SqT K H a xs) (e : xs.getLast? = some v) (q : Q v H) : rIxT K (.ref a) (.int (-1)) H Q := by
  obtain ⟨ys, rfl⟩ := List.getLast?_eq_some_iff.mp e
  exact i_ixTlast h q
theorem row_ne {r : List Nat} (h : IsRow r) : r ≠ [] := by
  rintro rfl; have := h.len.1; simp at this
abbrev endsOf (Q : VK) : Ends := { nx := fun _ H' => Q .non H', rt := Q }
theorem pure_check_row {vs : List V} {E : XK} (h : sp_check_row K vs H Q E) : t_check_row K (endsOf Q) (start ["row"] vs) H := by
  obtain ⟨a, r, rfl, hr, ir, q⟩ := h
  show t_check_row K (endsOf Q) [some (.ref a)] H
  unfold t_check_row
  have hne := row_ne ir
  have h1 := ir.len.1
  have h2 := ir.len.2
  walk_at "go"
  refine i_lenT hr ?_
  rw [rowV_len]
  walk_at "go"
  refine i_minN hr hne fun m hm _ => ?_
  walk_at "go"
  refine i_maxN hr hne fun m hm _ => ?_
  have h3 := ir.fig m hm
  walk_at "go"
  obtain ⟨d, hd⟩ : ∃ d, r[0]? = some d := ⟨r[0], List.getElem?_eq_getElem (by omega)⟩
  have hd0 : d ≠ 0 := fun e => ir.hd (by rw [hd, e])
  refine i_ixT hr (rowV_get hd) ?_
  walk_at "go"
  obtain ⟨l, hl⟩ : ∃ l, r.getLast? = some l := ⟨r.getLast hne, List.getLast?_eq_getLast hne⟩
  have hl0 : l ≠ 0 := fun e => ir.last (by rw [hl, e])
  refine i_ixlast hr (v := natV l) (by unfold rowV; rw [List.getLast?_map, hl]; rfl) ?_
  walk_at "go"
  exact q

theorem take_more {α : Type} : ∀ {l : List α} {i : Nat} {x : α}, l[i]? = some x → l.take (i + 1) = l.take i ++ [x]
  | [], i, x, h => by simp at h
  | a :: l, 0, x, h => by
    have e : a = x := Option.some.inj h
    subst e; rfl
  | a :: l, i + 1, x, h => by
    have ih := take_more (l := l) (i := i) (x := x) h
    show a :: l.take (i + 1) = a :: l.take i ++ [x]
    rw [ih]; rfl
theorem whole_take {r : List Nat} {i d : Nat} (h : r[i]? = some d) : whole (r.take (i + 1)) = whole (r.take i) * 60 + d := by
  rw [take_more h, whole_append]
theorem pure_whole_of {vs : List V} {E : XK} (h : sp_whole_of K vs H Q E) : t_whole_of K (endsOf Q) (start ["row", "number", "figure"] vs) H := by
  obtain ⟨a, r, rfl, hr, ir, q⟩ := h
  show t_whole_of K (endsOf Q) [some (.ref a), none, none] H
  unfold t_whole_of
  walk_at "go"
  refine ⟨a, r, rfl, hr, ir, ?_⟩
  walk_at "go"
  refine i_for (i_iTup ?_)
  walk_at "go"
  refine l_tup (K := K) (xs := rowV r) hr (fun i σ H' => ∃ x, σ = [some (.ref a), some (natV (whole (r.take i))), x] ∧ H' = H) ⟨none, rfl, rfl⟩ ?_ ?_ ?_
  · rintro i σ H' _ ⟨x, rfl, rfl⟩
    exact hr
  · rintro i x σ H' hx ⟨y, rfl, rfl⟩
    obtain ⟨d, hd, rfl⟩ := rowV_of hx
    walk_at "go"
    exact ⟨_, by rw [whole_take hd], rfl⟩
  · rintro σ H' ⟨x, rfl, rfl⟩
    walk_at "go"
    rw [rowV_len, List.take_length]
    exact q
theorem figsL_step {n : Nat} {l : List Nat} {k : Nat} (h : 0 < k) (e : figsL n = l ++ figsL k) : figsL n = (l ++ [k % 60]) ++ figsL (k / 60) := by
  rw [e, figsL_pos h, List.append_assoc]; rfl
theorem rowV_snoc (l : List Nat) (d : Nat) : rowV l ++ [natV d] = rowV (l ++ [d]) := by unfold rowV; rw [List.map_append]; rfl
theorem rowV_rev (l : List Nat) : (rowV l).reverse = rowV l.reverse := by unfold rowV; rw [List.map_reverse]
theorem pure_figures_of {vs : List V} {E : XK} (h : sp_figures_of K vs H Q E) : t_figures_of K (endsOf Q) (start ["number", "figures"] vs) H := by
  obtain ⟨n, rfl, hn, q⟩ := h
  have hlen := figsL_len 200 n hn
  show t_figures_of K (endsOf Q) [some (natV n), none] H
  unfold t_figures_of
  walk_at "go"
  refine ⟨szl (by simp), fun p H1 np s1 hp => ?_⟩
  walk_at "go"
  refine l_whileN (fun m σ H' => ∃ l, σ = [some (natV m), some (.ref p)] ∧ Same H H' ∧ H' p = some (.lst (rowV l)) ∧ figsL n = l ++ figsL m) n ⟨[], rfl, s1, hp, rfl⟩ ?_
  rintro m σ H' ⟨l, rfl, s, hl, e⟩
  walk_at "go"
  refine i_ite (fun hm => l_turn ?_) (fun hm => ?_)
  · walk_at "go"
    have hz : l.length ≤ 1000 := by have := congrArg List.length e; rw [List.length_append] at this; omega
    refine i_ty hl ?_
    walk_at "go"
    refine i_app hl (by rw [rowV_len]; omega) ?_
    walk_at "go"
    refine ⟨m / 60, by omega, l ++ [m % 60], rfl, Same.mut s np, ?_, figsL_step hm e⟩
    rw [upd_same, rowV_snoc]
  · walk_at "go"
    have : m = 0 := by omega
    subst this
    rw [figsL_zero, List.append_nil] at e
    refine i_tupRev ?_
    walk_at "go"
    refine i_exseq (sql hl) fun p2 H2 s2 hp2 => ?_
    refine q p2 H2 (Same.trans s s2) ?_
    rw [rowV_rev, ← e] at hp2; exact hp2
theorem Same.back {H H' : Hp} {p : Addr} (s : L2.Same H H') (h : H' p = none) : H p = none := by
  cases z : H p with
  | none => rfl
  | some o => rw [s _ _ z] at h; cases h
theorem pure_row_of {vs : List V} {E : XK} (h : sp_row_of K vs H Q E) : t_row_of K (endsOf Q) (start ["number"] vs) H := by
  obtain ⟨n, rfl, h0, hn, q⟩ := h
  show t_row_of K (endsOf Q) [some (natV n)] H
  unfold t_row_of
  walk_at "go"
  refine l_whileN (fun m σ H' => σ = [some (natV m)] ∧ H' = H ∧ 0 < m ∧ m ≤ n ∧ strip m = strip n) n ⟨rfl, rfl, h0, Nat.le_refl _, rfl⟩ ?_
  rintro m σ H' ⟨rfl, rfl, hm, hmn, e⟩
  walk_at "go"
  refine i_ite (fun hz => l_turn ?_) (fun hz => ?_)
  · walk_at "go"
    exact ⟨m / 60, by omega, rfl, rfl, by omega, by omega, by rw [← e, strip_yes hm hz]⟩
  · walk_at "go"
    rw [strip_no hm hz] at e
    refine ⟨m, rfl, by omega, fun p H2 s hp => q p H2 s ?_⟩
    rw [e] at hp; exact hp
theorem whole12 {r : List Nat} (h : IsRow r) : whole r < 60 ^ 12 := whole_lt h.fig h.len.2
theorem p12 : 60 ^ 12 < 2 ^ 72 := by decide
theorem pure_times {vs : List V} {E : XK} (h : sp_times K vs H Q E) : t_times K (endsOf Q) (start ["one", "other"] vs) H := by
  obtain ⟨a, b, r1, r2, rfl, h1, i1, h2, i2, q⟩ := h
  show t_times K (endsOf Q) [some (.ref a), some (.ref b)] H
  unfold t_times
  have w1 := whole12 i1
  have w2 := whole12 i2
  have z1 := whole_pos (row_ne i1) i1.hd
  have z2 := whole_pos (row_ne i2) i2.hd
  have pp := p12
  walk_at "go"
  refine ⟨a, r1, rfl, h1, i1, ?_⟩
  walk_at "go"
  refine ⟨b, r2, rfl, h2, i2, ?_⟩
  refine i_mulWN (m := 72) (n := 72) (Nat.lt_trans w1 pp) (Nat.lt_trans w2 pp) (by decide) (by decide) (by decide) ?_
  walk_at "go"
  refine ⟨_, rfl, Nat.mul_pos z1 z2, ?_, fun p H' s hp => q p H' s hp⟩
  calc whole r1 * whole r2 < 60 ^ 12 * 60 ^ 12 := Nat.mul_lt_mul'' w1 w2
    _ ≤ 60 ^ 200 := by rw [← Nat.pow_add]; exact Nat.pow_le_pow_right (by decide) (by decide)
theorem pure_cast {vs : List V} {E : XK} (h : sp_cast K vs H Q E) : t_cast K (endsOf Q) (start ["row"] vs) H := by
  obtain ⟨a, r, rfl, hr, ir, q⟩ := h
  show t_cast K (endsOf Q) [some (.ref a)] H
  unfold t_cast
  walk_at "go"
  refine ⟨a, r, rfl, hr, ir, ?_⟩
  walk_at "go"
  refine i_sumN hr ?_
  walk_at "go"
  exact q
/-! the laws' helpers -/
theorem pure__law_dice {vs : List V} {E : XK} (h : sp__law_dice K vs H Q E) : t__law_dice K (endsOf Q) (start ["_law_script", "_law_mixed", "_law_cell"] vs) H := by
  obtain ⟨a, ns, rfl, hr, hl, q⟩ := h
  show t__law_dice K (endsOf Q) [some (.ref a), none, none] H
  unfold t__law_dice
  walk_at "go"
  refine i_for (i_iList ?_)
  walk_at "go"
  refine l_list (K := K) (xs := ns.map V.int) hr (fun i σ H' => ∃ x m, σ = [some (.ref a), some (natV m), x] ∧ m < 2147483647 ∧ H' = H) ⟨none, 0, rfl, by decide, rfl⟩ ?_ ?_ ?_
  · rintro i σ H' _ ⟨x, m, rfl, _, rfl⟩
    exact hr
  · rintro i x σ H' hx ⟨y, m, rfl, hm, rfl⟩
    obtain ⟨z, _, rfl⟩ := List.mem_map.mp (List.mem_of_getElem? hx)
    walk_at "go"
    refine i_mdI (by decide) fun k hk => ?_
    walk_at "go"
    exact ⟨_, _, rfl, Nat.mod_lt _ (by decide), rfl⟩
  · rintro σ H' ⟨x, m, rfl, hm, rfl⟩
    walk_at "go"
    refine i_lenL hr ?_
    walk_at "go"
    have key : ∀ c : Nat, c ≤ 1 → m * c < 2147483647 := fun c hc => by
      rcases Nat.le_one_iff_eq_zero_or_eq_one.mp hc with rfl | rfl <;> omega
    refine i_mulWN (m := 31) (n := 1) (by omega) (by split <;> omega) (by decide) (by decide) (by decide) ?_
    walk_at "go"
    refine ⟨szl (by simp), fun d H1 nd s hd => ?_⟩
    refine q d H1 nd s ⟨a, ⟨0, _, 0, hd, key _ (by split <;> omega)⟩, ns, hl, fun H2 s2 => keep_new hr nd s s2⟩
theorem pure__law_next {vs : List V} {E : XK} (h : sp__law_next K vs H Q E) : t__law_next K (endsOf Q) (start ["_law_dice_here", "_law_many", "_law_found", "_law_cell"] vs) H := by
  obtain ⟨d, m, rfl, D, h0, hm, q⟩ := h
  obtain ⟨sc, ⟨i, x, c, hd, hx⟩, ns, hl, hs⟩ := id D
  show t__law_next K (endsOf Q) [some (.ref d), some (natV m), none, none] H
  unfold t__law_next
  have drew : ∀ (i' x' c' : Nat), x' < 2147483647 → ∀ H', SB d H H' → H' d = some (.lst [.ref sc, natV i', natV x', natV c']) → Drew d H H' := fun i' x' c' hx' H' s e => ⟨s, fun sc2 ⟨_, _, _, e2, _⟩ => by
    rw [hd] at e2
    cases e2
    exact ⟨i', x', c', e, hx'⟩⟩
  walk_at "go"
  refine i_ixL (sql hd) rfl ?_
  walk_at "go"
  refine i_ite (fun hc => ?_) (fun hc => ?_)
  · walk_at "go"
    refine i_ixL (sql hd) rfl ?_
    walk_at "go"
    refine i_ixL (sql hd) rfl ?_
    walk_at "go"
    refine i_setL hd (by simp) ?_
    walk_at "go"
    exact q _ _ (Nat.mod_lt _ h0) (drew i x (c / m) hx _ (SB.upd _ _ _) upd_same)
  · walk_at "go"
    refine i_ixL (sql hd) rfl ?_
    walk_at "go"
    refine i_setL hd (by simp) ?_
    walk_at "go"
    have s1 : SB d H (upd H d (.lst [.ref sc, natV (i + 1), natV x, natV c])) := SB.upd _ _ _
    have e1 : (upd H d (.lst [.ref sc, natV (i + 1), natV x, natV c])) d = some (.lst [.ref sc, natV (i + 1), natV x, natV c]) := upd_same
    generalize upd H d (.lst [.ref sc, natV (i + 1), natV x, natV c]) = H1 at s1 e1 ⊢
    have hs1 := hs H1 s1
    refine i_ixL (sql e1) rfl ?_
    walk_at "go"
    refine i_ixL (sql e1) rfl ?_
    walk_at "go"
    refine i_lenL hs1 ?_
    rw [List.length_map]
    walk_at "go"
    refine i_ite (fun hc2 => ?_) (fun hc2 => ?_)
    · walk_at "go"
      refine i_ixL (sql e1) rfl ?_
      walk_at "go"
      refine i_ixL (sql e1) rfl ?_
      walk_at "go"
      obtain ⟨z, hz⟩ : ∃ z, ns[i + 1 - 1]? = some z := ⟨_, List.getElem?_eq_getElem (by omega)⟩
      refine i_ixL hs1 (v := .int z) (by rw [List.getElem?_map, hz]; rfl) ?_
      walk_at "go"
      refine i_geIN ?_
      walk_at "go"
      have fin : ∀ (c' : Nat), rMd (.int z) (natV m) (upd H1 d (.lst [.ref sc, natV (i + 1), natV x, natV c'])) Q := fun c' =>
        i_mdI h0 fun k hk => q _ _ hk (drew (i + 1) x c' hx _ (s1.trans (SB.upd _ _ _)) upd_same)
      refine i_ite (fun hb => ?_) (fun hb => ?_)
      · walk_at "go"
        obtain ⟨y, rfl⟩ : ∃ y : Nat, z = (y : Int) := ⟨z.toNat, by omega⟩
        refine i_fdN (a := y) h0 hm ?_
        walk_at "go"
        refine i_setL e1 (by simp) ?_
        walk_at "go"
        exact fin _
      · walk_at "go"
        refine i_setL e1 (by simp) ?_
        walk_at "go"
        exact fin _
    · walk_at "go"
      refine i_ixL (sql e1) rfl ?_
      walk_at "go"
      refine i_setL e1 (by simp) ?_
      walk_at "go"
      refine i_ixL (sql upd_same) rfl ?_
      walk_at "go"
      exact q _ _ (Nat.mod_lt _ h0) (drew (i + 1) _ c (Nat.mod_lt _ (by decide)) _ (s1.trans (SB.upd _ _ _)) upd_same)
theorem pure__law_whole_of {vs : List V} {E : XK} (h : sp__law_whole_of K vs H Q E) : t__law_whole_of K (endsOf Q) (start ["_law_row_here", "_law_found", "_law_k"] vs) H := by
  obtain ⟨a, r, rfl, hr, hl, q⟩ := h
  show t__law_whole_of K (endsOf Q) [some (.ref a), none, none] H
  unfold t__law_whole_of
  walk_at "go"
  refine i_for (i_iRng1 ?_)
  walk_at "go"
  refine i_lenT hr ?_
  rw [rowV_len]
  walk_at "go"
  refine l_rng1 (by omega) (fun i σ H' => ∃ x, σ = [some (.ref a), some (natV (whole (r.take i))), x] ∧ H' = H) ⟨none, rfl, rfl⟩ ?_ ?_
  · rintro i σ H' hi ⟨y, rfl, rfl⟩
    walk_at "go"
    have hd : r[i]? = some r[i] := List.getElem?_eq_getElem hi
    refine i_ixT hr (rowV_get hd) ?_
    walk_at "go"
    exact ⟨_, by rw [whole_take hd], rfl⟩
  · rintro σ H' ⟨x, rfl, rfl⟩
    walk_at "go"
    rw [List.take_length]
    exact q
/-- figures, the noughts ahead dropped -/
def dropZ : List Nat → List Nat
  | [] => []
  | d :: r => if d = 0 then dropZ r else d :: r
theorem dropZ_figs (n : Nat) (h : 0 < n) : dropZ (figsL n) = figsL (strip n) := by
  induction n using Nat.strongRecOn with
  | ind n ih =>
    rw [figsL_pos h]
    by_cases e : n % 60 = 0
    · show (if n % 60 = 0 then _ else _) = _
      rw [if_pos e, ih (n / 60) (by omega) (by omega), strip_yes h e]
    · show (if n % 60 = 0 then _ else _) = _
      rw [if_neg e, strip_no h e, figsL_pos h]
theorem i_eqDN {k j : Nat} (q : Q (.bl (decide (k = j))) H) : rEqD K (natV k) (natV j) H Q := by
  refine ⟨.int k, .int j, .int _, .int _, rfl, rfl, ?_⟩
  have e : PyData.eqv (.int (k : Int)) (.int (j : Int)) = decide (k = j) := by
    rw [PyData.eqv]
    by_cases h : k = j
    · subst h; simp
    · rw [decide_eq_false h, beq_eq_false_iff_ne]; omega
  rw [e]; exact q
theorem pure__law_row {vs : List V} {E : XK} (h : sp__law_row K vs H Q E) : t__law_row K (endsOf Q) (start ["_law_number", "_law_figures"] vs) H := by
  obtain ⟨n, rfl, h0, hn, q⟩ := h
  have hlen := figsL_len 200 n hn
  show t__law_row K (endsOf Q) [some (natV n), none] H
  unfold t__law_row
  walk_at "go"
  refine ⟨szl (by simp), fun p H1 np s1 hp => ?_⟩
  walk_at "go"
  refine l_whileN (fun m σ H' => ∃ l, σ = [some (natV m), some (.ref p)] ∧ Same H H' ∧ H' p = some (.lst (rowV l)) ∧ figsL n = l ++ figsL m) n ⟨[], rfl, s1, hp, rfl⟩ ?_
  rintro m σ H' ⟨l, rfl, s, hl, e⟩
  walk_at "go"
  refine i_ite (fun hm => l_turn ?_) (fun hm => ?_)
  · walk_at "go"
    have hz : l.length ≤ 1000 := by have := congrArg List.length e; rw [List.length_append] at this; omega
    refine i_ty hl ?_
    walk_at "go"
    refine i_app hl (by rw [rowV_len]; omega) ?_
    walk_at "go"
    refine ⟨m / 60, by omega, l ++ [m % 60], rfl, Same.mut s np, ?_, figsL_step hm e⟩
    rw [upd_same, rowV_snoc]
  · walk_at "go"
    have : m = 0 := by omega
    subst this
    rw [figsL_zero, List.append_nil] at e
    subst e
    refine l_whileN (fun k σ H' => ∃ l, k = l.length ∧ σ = [some (natV 0), some (.ref p)] ∧ Same H H' ∧ H' p = some (.lst (rowV l)) ∧ l ≠ [] ∧ dropZ l = figsL (strip n)) _ ⟨figsL n, rfl, rfl, s, hl, by rw [figsL_pos h0]; simp, dropZ_figs n h0⟩ ?_
    rintro k σ H' ⟨l, rfl, rfl, s, hl, hne, e⟩
    have hsn := (strip_spec n h0).1
    walk_at "go"
    obtain ⟨d, l', rfl⟩ := List.exists_cons_of_ne_nil hne
    refine i_ixL (sql hl) (v := natV d) rfl ?_
    walk_at "go"
    refine i_ite (fun hd => l_turn ?_) (fun hd => ?_)
    · walk_at "go"
      subst hd
      have e' : dropZ l' = figsL (strip n) := e
      refine i_ty hl ?_
      walk_at "go"
      refine i_pop0 (xs := rowV l') hl ?_
      walk_at "go"
      refine ⟨l'.length, by simp, l', rfl, rfl, Same.mut s np, upd_same, ?_, e'⟩
      rintro rfl
      rw [figsL_pos hsn] at e'; cases e'
    · walk_at "go"
      refine i_revL ?_
      walk_at "go"
      refine i_exseq (sql hl) fun p2 H2 np2 s2 hp2 => ?_
      walk_at "go"
      refine i_tupOfL (sql hp2) fun p3 H3 s3 hp3 => ?_
      refine q p3 H3 ((Same.trans s s2).trans s3) ?_
      have e' : d :: l' = figsL (strip n) := by rw [← e]; show _ = (if d = 0 then _ else _); rw [if_neg hd]
      rw [rowV_rev, e'] at hp3; exact hp3

theorem pow_le9 {p a : Nat} (hp : 1 ≤ p) (h : a ≤ 9) : p ^ a ≤ p ^ 9 := Nat.pow_le_pow_right hp h
theorem smooth_lt {a b c : Nat} (ha : a ≤ 9) (hb : b ≤ 9) (hc : c ≤ 9) : 2 ^ a * 3 ^ b * 5 ^ c < 2 ^ 60 :=
  Nat.lt_of_le_of_lt (Nat.mul_le_mul (Nat.mul_le_mul (pow_le9 (by decide) ha) (pow_le9 (by decide) hb)) (pow_le9 (by decide) hc)) (by decide)
/-- one draw -/
theorem i_draw {d : Addr} {m : Nat} {E : XK} (D : Dice K H d) (h0 : 0 < m := by decide) (h1 : m < 1073741824 := by decide) (q : ∀ n H', n < m → Drew d H H' → Q (natV n) H') : sp__law_next K ([.ref d, natV m] ++ []) H Q E := ⟨d, m, rfl, D, h0, h1, q⟩
theorem smooth_in {D : Ends} {d : Addr} {f p : Nat} {x y : Option V} (hd : Dice K H d) (hf : ∀ j, j ≤ 9 → f * p ^ j < 2 ^ 60) (hp : p ≤ 5)
    (q : ∀ n H' z, n ≤ 9 → Drew d H H' → D.nx [some (.ref d), some (natV (f * p ^ n)), some (natV p), z] H') :
    tFor (iRng1 (tCons (tOp (rIxL K) (tLstN (tCons (tCall (sp__law_next K) [] E0 (tCons (tVar 0) (tCons (tC (natV 4)) tNil))) (tCons (tCall (sp__law_next K) [] E0 (tCons (tVar 0) (tCons (tC (natV 10)) tNil))) tNil))) (tCB rInt1 (tCons (tOp rEq (tCall (sp__law_next K) [] E0 (tCons (tVar 0) (tCons (tC (natV 4)) tNil))) (tC (natV 3))) tNil))) tNil)) (gName 3)
      (tAsg (tOp rMulW (tVar 1) (tVar 2)) (gName 1)) D [some (.ref d), some (natV f), some (natV p), y] H := by
  refine i_for (i_iRng1 ?_)
  walk_at "go"
  refine i_draw hd (q := fun n1 H1 h1 d1 => ?_)
  walk_at "go"
  refine i_draw (hd.drew d1) (q := fun n2 H2 h2 d2 => ?_)
  walk_at "go"
  refine ⟨szl (by simp), fun l H3 nl s3 hl => ?_⟩
  have d3 := (d1.trans d2).same s3
  walk_at "go"
  refine i_draw (hd.drew d3) (q := fun n4 H4 h4 d4 => ?_)
  walk_at "go"
  have hl4 : H4 l = some (.lst [natV n1, natV n2]) := d4.1 l _ ((hd.drew (d1.trans d2)).ne nl) hl
  have dr := d3.trans d4
  have go : ∀ n, n ≤ 9 → ∃ j : Int, [natV n] = [V.int j] ∧ -(2 ^ 62) ≤ j ∧ j < 2 ^ 62 ∧ ∃ W : Nat → Nat → L2.St → Hp → Prop, (∃ m, W 0 m [some (.ref d), some (natV f), some (natV p), y] H4) ∧ ∀ i m σ H, W i m σ H →
      ((Itr 0 j.toNat).stop i H ∧ D.nx σ H) ∨ ((Itr 0 j.toNat).go i H ∧ ∃ N : L2.St → Hp → Prop, (∀ σ' H', N σ' H' → ∃ m', m' < m ∧ W (i + 1) m' σ' H') ∧ ∀ x H', (Itr 0 j.toNat).yld i H x H' → gName 3 x σ H' fun σ2 H2 =>
        tAsg (tOp rMulW (tVar 1) (tVar 2)) (gName 1) { D with nx := N, ct := N, bk := D.nx } σ2 H2) := by
    intro n hn
    refine l_rng1 (by omega) (fun i σ H' => ∃ z, σ = [some (.ref d), some (natV (f * p ^ i)), some (natV p), z] ∧ H' = H4) ⟨y, by rw [Nat.pow_zero, Nat.mul_one], rfl⟩ ?_ ?_
    · rintro i σ H' hi ⟨z, rfl, rfl⟩
      walk_at "go"
      refine i_mulWN (m := 60) (n := 3) (hf i (by omega)) (by omega) (by decide) (by decide) (by decide) ?_
      walk_at "go"
      exact ⟨_, by rw [Nat.pow_succ, Nat.mul_assoc], rfl⟩
    · rintro σ H' ⟨z, rfl, rfl⟩
      exact q n H' z hn dr
  by_cases e : n4 = 3
  · refine i_ixL (sql hl4) (v := natV n2) (by rw [decide_eq_true e]; rfl) ?_
    walk_at "go"
    exact go n2 (by omega)
  · refine i_ixL (sql hl4) (v := natV n1) (by rw [decide_eq_false e]; rfl) ?_
    walk_at "go"
    exact go n1 (by omega)
theorem pure__law_smooth {vs : List V} {E : XK} (h : sp__law_smooth K vs H Q E) : t__law_smooth K (endsOf Q) (start ["_law_d", "_law_found", "_law_prime", "_law_k"] vs) H := by
  obtain ⟨d, rfl, hd, q⟩ := h
  show t__law_smooth K (endsOf Q) [some (.ref d), none, none, none] H
  unfold t__law_smooth
  walk_at "go"
  refine i_for (i_iList ?_)
  walk_at "go"
  refine ⟨szl (by simp), fun l H1 nl s1 hl => ?_⟩
  have hne : l ≠ d := hd.ne nl
  refine l_list (K := K) (sql hl) (fun i σ H' => ∃ a b c x y, a ≤ 9 ∧ b ≤ 9 ∧ c ≤ 9 ∧ (i ≤ 0 → a = 0) ∧ (i ≤ 1 → b = 0) ∧ (i ≤ 2 → c = 0) ∧ σ = [some (.ref d), some (natV (2 ^ a * 3 ^ b * 5 ^ c)), x, y] ∧ Drew d H H' ∧ H' l = some (.lst [natV 2, natV 3, natV 5]))
    ⟨0, 0, 0, none, none, by decide, by decide, by decide, fun _ => rfl, fun _ => rfl, fun _ => rfl, rfl, Drew.of s1, hl⟩ ?_ ?_ ?_
  · rintro i σ H' _ ⟨a, b, c, x, y, _, _, _, _, _, _, rfl, _, hl⟩
    exact sql hl
  · rintro i x σ H' hx ⟨a, b, c, x0, y0, ha, hb, hc, ea, eb, ec, rfl, dr, hl⟩
    walk_at "go"
    rcases i with _ | _ | _ | i
    · obtain rfl : natV 2 = x := Option.some.inj hx
      obtain rfl := ea (by omega)
      obtain rfl := eb (by omega)
      obtain rfl := ec (by omega)
      refine smooth_in (f := 2 ^ 0 * 3 ^ 0 * 5 ^ 0) (x := x0) (hd.drew dr) (fun j hj => ?_) (by decide) fun n H2 z hn d2 => ?_
      · have := smooth_lt (a := j) (b := 0) (c := 0) hj (by decide) (by decide); omega
      · exact ⟨n, 0, 0, _, _, hn, by decide, by decide, fun h => by omega, fun _ => rfl, fun _ => rfl, by rw [show 2 ^ 0 * 3 ^ 0 * 5 ^ 0 * 2 ^ n = 2 ^ n * 3 ^ 0 * 5 ^ 0 by omega], dr.trans d2, d2.1 l _ hne hl⟩
    · obtain rfl : natV 3 = x := Option.some.inj hx
      obtain rfl := eb (by omega)
      obtain rfl := ec (by omega)
      refine smooth_in (f := 2 ^ a * 3 ^ 0 * 5 ^ 0) (x := x0) (hd.drew dr) (fun j hj => ?_) (by decide) fun n H2 z hn d2 => ?_
      · have := smooth_lt (a := a) (b := j) (c := 0) ha hj (by decide); simp only [Nat.pow_zero, Nat.mul_one] at this ⊢; exact this
      · exact ⟨a, n, 0, _, _, ha, hn, by decide, fun h => by omega, fun h => by omega, fun _ => rfl, by simp only [Nat.pow_zero, Nat.mul_one]; rfl, dr.trans d2, d2.1 l _ hne hl⟩
    · obtain rfl : natV 5 = x := Option.some.inj hx
      obtain rfl := ec (by omega)
      refine smooth_in (f := 2 ^ a * 3 ^ b * 5 ^ 0) (x := x0) (hd.drew dr) (fun j hj => ?_) (by decide) fun n H2 z hn d2 => ?_
      · have := smooth_lt (a := a) (b := b) (c := j) ha hb hj; rw [Nat.pow_zero, Nat.mul_one]; exact this
      · exact ⟨a, b, n, _, _, ha, hb, hn, fun h => by omega, fun h => by omega, fun h => by omega, by rw [Nat.pow_zero, Nat.mul_one], dr.trans d2, d2.1 l _ hne hl⟩
    · simp at hx
  · rintro σ H' ⟨a, b, c, x, y, ha, hb, hc, _, _, _, rfl, dr, _⟩
    walk_at "go"
    exact q a b c H' ha hb hc dr

theorem getLast_take {α : Type} {l : List α} {n : Nat} (h : l ≠ []) (hn : 1 ≤ n) : l.take n ≠ [] := by
  cases l with
  | nil => exact absurd rfl h
  | cons x r =>
    cases n with
    | zero => omega
    | succ n => simp
theorem rowV_take (r : List Nat) (n : Nat) : (rowV r).take n = rowV (r.take n) := by unfold rowV; rw [List.map_take]
theorem rowV_last {r : List Nat} {x : Nat} (h : r.getLast? = some x) : (rowV r).getLast? = some (natV x) := by unfold rowV; rw [List.getLast?_map, h]; rfl
theorem row_130 : IsRow [1, 30] := ⟨by decide, by decide, by decide, by decide⟩
theorem drawn_row {r : List Nat} {m x : Nat} (h1 : ∀ d ∈ r, d < 60) (h2 : r ≠ []) (h3 : r[0]? ≠ some 0) (hm : 1 ≤ m) (hm2 : m ≤ 12) (hx : (r.take m).getLast? = some x) (h0 : 0 < x) : IsRow (r.take m) := by
  have hne := getLast_take h2 hm
  refine ⟨⟨List.length_pos_iff.mpr hne, by rw [List.length_take]; omega⟩, fun d hd => h1 d (List.mem_of_mem_take hd), ?_, ?_⟩
  · rw [List.getElem?_take]
    rw [if_pos (by omega)]; exact h3
  · rw [hx]; intro e
    have := Option.some.inj e
    omega
theorem isRow_one {n : Nat} (h : 0 < n) (hl : n ≤ 60) : IsRow (rowOf n) ∧ (rowOf n).length = 1 := by
  have key : ∀ k : Fin 60, IsRow (rowOf (k.val + 1)) ∧ (rowOf (k.val + 1)).length = 1 := by
    intro k
    have h1 : IsRow (rowOf (k.val + 1)) := isRow_small (by omega) (Nat.lt_of_le_of_lt (Nat.succ_le_of_lt k.isLt) (by decide))
    refine ⟨h1, ?_⟩
    revert k; intro k _
    have : ∀ k : Fin 60, (rowOf (k.val + 1)).length = 1 := by decide +kernel
    exact this k
  have := key ⟨n - 1, by omega⟩
  rw [show n - 1 + 1 = n by omega] at this
  exact this
theorem smooth_row_lt {a b c k : Nat} (ha : a ≤ 9) (hb : b ≤ 9) (hc : c ≤ 9) (hk : k ≤ 49) : 2 ^ a * 3 ^ b * 5 ^ c * k < 60 ^ 200 := by
  have h1 := smooth_lt ha hb hc
  calc 2 ^ a * 3 ^ b * 5 ^ c * k ≤ 2 ^ 60 * 49 := Nat.mul_le_mul (by omega) hk
    _ < 60 ^ 200 := by decide
theorem rowOf_spec {n : Nat} (h : 0 < n) : (∀ d ∈ rowOf n, d < 60) ∧ rowOf n ≠ [] ∧ (rowOf n)[0]? ≠ some 0 := by
  have h1 := (strip_spec n h).1
  refine ⟨figs_lt _, ?_, figs_head h1⟩
  intro e
  have := figs_len1 h1
  have e2 : figs (strip n) = [] := e
  rw [e2] at this; simp at this
theorem drawn_tail {d : Addr} {m : Nat} {kd fg ck : Option V} {H0 : Hp} {p : Addr} {r : List Nat} (hm : 2 ≤ m) (hm2 : m ≤ 12)
    (q : ∀ p r H', IsRow r → r.length ≤ m → Drew d H0 H' → SqT K H' p (rowV r) → Q (.ref p) H') (dr : Drew d H0 H) (hr : SqT K H p (rowV r)) (h1 : ∀ d ∈ r, d < 60) (h2 : r ≠ []) (h3 : r[0]? ≠ some 0) :
    tRet (tIf (tTest (tOp rGt (tOp (rIxT K) (tSl (rSlN K) (tVar 3) tNoPart (tPart (tVar 1))) (tUn rNeg (tC (natV 1)))) (tC (natV 0)))) (tSl (rSlN K) (tVar 3) tNoPart (tPart (tVar 1))) (tTupN K (tCons (tC (natV 1)) (tCons (tC (natV 30)) tNil)))) (endsOf Q)
      [some (.ref d), some (natV m), kd, some (.ref p), fg, ck] H := by
  walk_at "go"
  refine i_slT hr fun p2 H2 s2 hp2 => ?_
  rw [cutV_to, rowV_take] at hp2
  walk_at "go"
  obtain ⟨x, hx⟩ : ∃ x, (r.take m).getLast? = some x := ⟨_, List.getLast?_eq_getLast (getLast_take h2 (by omega))⟩
  refine i_ixlast hp2 (rowV_last hx) ?_
  walk_at "go"
  refine i_ite (fun hc => ?_) (fun hc => ?_)
  · walk_at "go"
    refine i_slT (Same.seqT s2 hr) fun p3 H3 s3 hp3 => ?_
    rw [cutV_to, rowV_take] at hp3
    exact q p3 _ H3 (drawn_row h1 h2 h3 (by omega) hm2 hx hc) (by rw [List.length_take]; omega) ((dr.same s2).same s3) hp3
  · walk_at "go"
    refine ⟨szl (by simp), fun p3 H3 s3 hp3 => ?_⟩
    exact q p3 [1, 30] H3 row_130 (by simpa using hm) ((dr.same s2).same s3) hp3
theorem pure__law_drawn {vs : List V} {E : XK} (h : sp__law_drawn K vs H Q E) : t__law_drawn K (endsOf Q) (start ["_law_d", "_law_most", "_law_kind", "_law_found", "_law_figures", "_law_k"] vs) H := by
  obtain ⟨d, m, rfl, hd, hm, hm2, q⟩ := h
  show t__law_drawn K (endsOf Q) [some (.ref d), some (natV m), none, none, none, none] H
  unfold t__law_drawn
  walk_at "go"
  refine i_draw hd (q := fun kd H1 _ d1 => ?_)
  walk_at "go"
  refine i_ite (fun hc => ?_) (fun hc => ?_)
  · walk_at "go"
    refine i_draw (hd.drew d1) (q := fun n H2 hn d2 => ?_)
    walk_at "go"
    obtain ⟨r1, r2⟩ := isRow_one (n := 1 + n) (by omega) (by omega)
    refine ⟨1 + n, rfl, by omega, Nat.lt_of_lt_of_le (by omega : 1 + n < 60 ^ 2) (Nat.pow_le_pow_right (by decide) (by decide)), fun p H3 s3 hp => ?_⟩
    exact q p _ H3 r1 (by omega) ((d1.trans d2).same s3) hp
  · walk_at "go"
    refine i_ite (fun hc2 => ?_) (fun hc2 => ?_)
    · walk_at "go"
      refine ⟨d, rfl, hd.drew d1, fun a b c H2 ha hb hc' d2 => ?_⟩
      walk_at "go"
      refine ⟨szl (by simp), fun l H3 nl s3 hl => ?_⟩
      have d3 := (d1.trans d2).same s3
      walk_at "go"
      refine i_draw (hd.drew d3) (q := fun k H4 hk d4 => ?_)
      have hl4 : H4 l = some (.lst [natV 1, natV 1, natV 1, natV 7, natV 49, natV 11]) := d4.1 l _ ((hd.drew (d1.trans d2)).ne nl) hl
      obtain ⟨y, hy, hy1, hy2⟩ : ∃ y, ([natV 1, natV 1, natV 1, natV 7, natV 49, natV 11] : List V)[k]? = some (natV y) ∧ 0 < y ∧ y ≤ 49 := by
        rcases k with _ | _ | _ | _ | _ | _ | k
        · exact ⟨1, rfl, by decide, by decide⟩
        · exact ⟨1, rfl, by decide, by decide⟩
        · exact ⟨1, rfl, by decide, by decide⟩
        · exact ⟨7, rfl, by decide, by decide⟩
        · exact ⟨49, rfl, by decide, by decide⟩
        · exact ⟨11, rfl, by decide, by decide⟩
        · omega
      refine i_ixL (sql hl4) hy ?_
      refine i_mulWN (m := 60) (n := 6) (smooth_lt ha hb hc') (by omega) (by decide) (by decide) (by decide) ?_
      walk_at "go"
      have hpos : 0 < 2 ^ a * 3 ^ b * 5 ^ c * y := Nat.mul_pos (Nat.mul_pos (Nat.mul_pos (Nat.pos_of_ne_zero (by simp)) (Nat.pos_of_ne_zero (by simp))) (Nat.pos_of_ne_zero (by simp))) hy1
      refine ⟨_, rfl, hpos, smooth_row_lt ha hb hc' hy2, fun p H5 s5 hp => ?_⟩
      walk_at "s"
      obtain ⟨w1, w2, w3⟩ := rowOf_spec hpos
      exact drawn_tail hm hm2 q ((d3.trans d4).same s5) hp w1 w2 w3
    · walk_at "go"
      refine i_draw (m := m) (hd.drew d1) (by omega) (by omega) (q := fun n H2 hn d2 => ?_)
      walk_at "go"
      have d12 := d1.trans d2
      refine ⟨1 + n, rfl, by omega, fun D nD => ⟨fun i H' => ∃ l : List Nat, l.length = i ∧ (∀ x ∈ l, x < 60) ∧ Drew d H H' ∧ H' D = some (.lst (rowV l)), ⟨[], rfl, by simp, d12.same (same_new nD), upd_same⟩, ?_, ?_⟩⟩
      · rintro i H' hi ⟨l, rfl, hl, dr, hD⟩
        walk_at "go"
        refine i_lcg ?_
        walk_at "go"
        refine i_draw (hd.drew dr) (q := fun k H3 hk d3 => ?_)
        have hne : D ≠ d := (hd.drew d12).ne nD
        have hD3 := d3.1 D _ hne hD
        refine i_lcput hD3 (by rw [rowV_len]; omega) ⟨l ++ [k], by simp, ?_, (dr.trans d3).mut (Drew.back hd d12 nD) hne, ?_⟩
        · intro x hx
          rcases List.mem_append.mp hx with hx | hx
          · exact hl x hx
          · rw [List.mem_singleton.mp hx]; exact hk
        · rw [upd_same, rowV_snoc]
      · rintro H' ⟨l, hln, hl, dr, hD⟩
        walk_at "go"
        refine i_draw (hd.drew dr) (q := fun k H3 hk d3 => ?_)
        walk_at "go"
        refine ⟨szl (by simp), fun p4 H4 s4 hp4 => ?_⟩
        walk_at "go"
        have hne : D ≠ d := (hd.drew d12).ne nD
        refine i_tupOfL (sql (s4 _ _ (d3.1 D _ hne hD))) fun p5 H5 s5 hp5 => ?_
        refine i_cat (Same.seqT s5 hp4) hp5 (by rw [rowV_len]; simp; omega) fun p6 H6 s6 hp6 => ?_
        walk_at "go"
        have d6 := (((dr.trans d3).same s4).same s5).same s6
        refine i_draw (hd.drew d6) (q := fun k2 H7 hk2 d7 => ?_)
        walk_at "go"
        refine ⟨szl (by simp), fun p8 H8 s8 hp8 => ?_⟩
        refine i_cat (Same.seqT s8 ((hd.drew d6).row d7 hp6)) hp8 (by rw [List.length_append, rowV_len]; simp; omega) fun p9 H9 s9 hp9 => ?_
        walk_at "s"
        have e : ([natV (1 + k)] ++ rowV l) ++ [natV (1 + k2)] = rowV ((1 + k) :: l ++ [1 + k2]) := by unfold rowV; simp
        rw [e] at hp9
        refine drawn_tail hm hm2 q (((d6.trans d7).same s8).same s9) hp9 ?_ (by simp) ?_
        · intro x hx
          rcases List.mem_append.mp hx with hx | hx
          · rcases List.mem_cons.mp hx with rfl | hx
            · omega
            · exact hl x hx
          · rw [List.mem_singleton.mp hx]; omega
        · intro e
          have : 1 + k = 0 := Option.some.inj e
          omega

/-! likeness -/
theorem ty_list {xs : List V} (h : SqL K H a xs) : TyX K H (.ref a) (.type "list") := by
  rcases h with (h | ⟨o, h⟩) | ⟨o, its, n, h2, h3, _⟩
  · exact .base (.lst h)
  · exact .base (.frz h)
  · exact .kList h2 h3
theorem ty_tup {xs : List V} (h : SqT K H a xs) : TyX K H (.ref a) (.type "tuple") := by
  rcases h with (h | ⟨o, h⟩) | ⟨o, its, n, h2, h3, _⟩
  · exact .base (.tup h)
  · exact .fTuple h
  · exact .kTuple h2 h3
theorem i_isi {x : V} {t c : String} {b : Bool} (h : TyX K H x (.type t)) (e : kitB t c = some b) (q : Q (.bl b) H) : rIsi K [x, .ty c] H Q := ⟨x, .ty c, .type t, .type c, b, rfl, .ty c, h, kit_ty e, q⟩
theorem i_isNref {b : Addr} (q : Q (.bl false) H) : rIsN (.ref b) .non H Q := ⟨rfl, by rw [decide_eq_false (by intro h; cases h)]; exact q⟩
theorem i_isNint {b : Nat} (q : Q (.bl false) H) : rIsN (natV b) .non H Q := ⟨rfl, by rw [decide_eq_false (by intro h; cases h)]; exact q⟩
theorem i_isNnon (q : Q (.bl true) H) : rIsN .non .non H Q := ⟨rfl, by rw [decide_eq_true rfl]; exact q⟩
theorem i_neBB {b : Bool} (q : Q (.bl false) H) : rNe (.bl b) (.bl b) H Q := ⟨rfl, by rw [decide_eq_true rfl]; exact q⟩
theorem dpAll_len : ∀ {xs : List V} {ds : List PyData}, DpAll K H xs ds → xs.length = ds.length
  | _, _, .nil => rfl
  | _, _, .cons _ h => by rw [List.length_cons, List.length_cons, dpAll_len h]
theorem dpAll_get : ∀ {xs : List V} {ds : List PyData} {i : Nat} {d : PyData}, DpAll K H xs ds → ds[i]? = some d → ∃ x, xs[i]? = some x ∧ Dp K H x d
  | _, _, i, d, .nil, h => by simp at h
  | _, _, 0, d, .cons h _, e => by
    obtain rfl := Option.some.inj e
    exact ⟨_, rfl, h⟩
  | _, _, i + 1, d, .cons _ h, e => dpAll_get (i := i) h e
theorem like_loop {n : Nat} {x y : V} {ds : List PyData} {D : Ends} {z : Option V} (hx : ∃ a xs, x = .ref a ∧ (SqL K H a xs ∨ SqT K H a xs) ∧ DpAll K H xs ds) (hy : ∃ a xs, y = .ref a ∧ (SqL K H a xs ∨ SqT K H a xs) ∧ DpAll K H xs ds)
    (hp : ∀ d ∈ ds, plainD n d) (hz : ds.length < 2 ^ 62) (q : ∀ z, D.nx [some x, some y, z] H) :
    tFor (iRng1 (tCons (tCB (rLen K) (tCons (tVar 1) tNil)) tNil)) (gName 2)
      (tIfS (tNot (tB (tCall (spLike K (n + 1)) [] E0 (tCons (tOp (rIxQ K) (tVar 0) (tVar 2)) (tCons (tOp (rIxQ K) (tVar 1) (tVar 2)) tNil))))) (tRet (tC (.bl false))) tNext) D [some x, some y, z] H := by
  obtain ⟨a, xs, rfl, ha, da⟩ := hx
  obtain ⟨b, ys, rfl, hb, db⟩ := hy
  have ix : ∀ {a : Addr} {xs : List V} {i : Nat} {v : V} {Q : VK}, (SqL K H a xs ∨ SqT K H a xs) → xs[i]? = some v → Q v H → rIxQ K (.ref a) (natV i) H Q := fun h e q => by
    rcases h with h | h
    · exact .inl (i_ixL h e q)
    · exact .inr (i_ixT h e q)
  refine i_for (i_iRng1 ?_)
  walk_at "go"
  refine ⟨b, ys, rfl, hb, ?_⟩
  rw [dpAll_len db]
  refine l_rng1 hz (fun i σ H' => ∃ z, σ = [some (.ref a), some (.ref b), z] ∧ H' = H) ⟨z, rfl, rfl⟩ ?_ ?_
  · rintro i σ H' hi ⟨z, rfl, rfl⟩
    walk_at "go"
    have hd : ds[i]? = some ds[i] := List.getElem?_eq_getElem hi
    obtain ⟨u, hu, du⟩ := dpAll_get da hd
    obtain ⟨w, hw, dw⟩ := dpAll_get db hd
    refine ix ha hu ?_
    walk_at "go"
    refine ix hb hw ?_
    refine ⟨u, w, ds[i], rfl, du, dw, hp _ (List.getElem_mem hi), ?_⟩
    walk_at "go"
    exact ⟨_, rfl, rfl⟩
  · rintro σ H' ⟨z, rfl, rfl⟩
    exact q z
theorem pure__law_like {vs : List V} {E : XK} {n : Nat} (h : spLike K (n + 1) vs H Q E) : t__law_like K (spLike K n) (endsOf Q) (start ["_law_found", "_law_due", "_law_k"] vs) H := by
  obtain ⟨x, y, D, rfl, hx, hy, hp, q⟩ := h
  show t__law_like K (spLike K n) (endsOf Q) [some x, some y, none] H
  unfold t__law_like
  cases D with
  | none =>
    cases hx; cases hy
    walk_at "go"
    refine i_isi (.base .non) (b := false) (by decide +kernel) ?_
    walk_at "go"
    refine i_isi (.base .non) (b := false) (by decide +kernel) ?_
    walk_at "go"
    refine i_isNnon ?_
    walk_at "go"
    refine i_isNnon ?_
    exact q
  | bool b => exact (by cases n <;> exact hp.elim)
  | int i =>
    cases hx; cases hy
    walk_at "go"
    refine i_isi (.base (.int i)) (b := false) (by decide +kernel) ?_
    walk_at "go"
    refine i_isi (.base (.int i)) (b := true) (by decide +kernel) ?_
    walk_at "go"
    refine i_isi (.base (.int i)) (b := true) (by decide +kernel) ?_
    refine ⟨_, rfl, i_iteT ?_⟩
    walk_at "go"
    refine i_isi (.base (.int i)) (b := false) (by decide +kernel) ?_
    refine ⟨_, rfl, ?_⟩
    refine ⟨_, rfl, i_iteT ?_⟩
    walk_at "go"
    refine ⟨.int i, .int i, .int i, .int i, rfl, rfl, ?_⟩
    rw [show PyData.eqv (.int i) (.int i) = true by simp [PyData.eqv]]
    exact q
  | str z =>
    cases hx; cases hy
    have hz : PyData.canLay0 (.str z) = true := by cases n <;> exact hp
    walk_at "go"
    refine i_isi (.base (.str z)) (b := true) (by decide +kernel) ?_
    walk_at "go"
    refine i_isi (.base (.str z)) (b := true) (by decide +kernel) ?_
    refine ⟨_, rfl, i_iteT ?_⟩
    walk_at "go"
    have hsh : SeqAt.shaped (.str z) = true := by simp [SeqAt.shaped, PyData.depth, hz]
    refine ⟨.str z, .str z, .str z, .str z, hsh, hsh, ?_⟩
    rw [show PyData.eqv (.str z) (.str z) = true by simp [PyData.eqv]]
    exact q
  | list ds =>
    cases n with
    | zero => exact hp.elim
    | succ n =>
      obtain ⟨hz, hp⟩ := hp
      cases hx with
      | lst h1 h2 =>
        cases hy with
        | lst h3 h4 =>
          walk_at "go"
          refine i_isi (ty_list h3) (b := false) (by decide +kernel) ?_
          walk_at "go"
          refine i_isi (ty_list h3) (b := false) (by decide +kernel) ?_
          walk_at "go"
          refine i_isNref ?_
          walk_at "go"
          refine i_isi (ty_list h3) (b := false) (by decide +kernel) ?_
          walk_at "go"
          refine i_isi (ty_list h1) (b := false) (by decide +kernel) ?_
          refine i_neBB ?_
          walk_at "go"
          refine i_isi (ty_list h3) (b := true) (by decide +kernel) ?_
          walk_at "go"
          refine i_isi (ty_list h1) (b := true) (by decide +kernel) ?_
          refine i_neBB ?_
          walk_at "go"
          refine i_lenL h1 ?_
          walk_at "go"
          refine i_lenL h3 ?_
          rw [dpAll_len h2, dpAll_len h4]
          walk_at "go"
          refine like_loop (n := n) ⟨_, _, rfl, .inl h1, h2⟩ ⟨_, _, rfl, .inl h3, h4⟩ hp (by omega) fun z => ?_
          walk_at "go"
          exact q
  | tuple ds =>
    cases n with
    | zero => exact hp.elim
    | succ n =>
      obtain ⟨hz, hp⟩ := hp
      cases hx with
      | tup h1 h2 =>
        cases hy with
        | tup h3 h4 =>
          walk_at "go"
          refine i_isi (ty_tup h3) (b := false) (by decide +kernel) ?_
          walk_at "go"
          refine i_isi (ty_tup h3) (b := false) (by decide +kernel) ?_
          walk_at "go"
          refine i_isNref ?_
          walk_at "go"
          refine i_isi (ty_tup h3) (b := true) (by decide +kernel) ?_
          walk_at "go"
          refine i_isi (ty_tup h1) (b := true) (by decide +kernel) ?_
          refine i_neBB ?_
          walk_at "go"
          refine i_isi (ty_tup h3) (b := false) (by decide +kernel) ?_
          walk_at "go"
          refine i_isi (ty_tup h1) (b := false) (by decide +kernel) ?_
          refine i_neBB ?_
          walk_at "go"
          refine i_lenT h1 ?_
          walk_at "go"
          refine i_lenT h3 ?_
          rw [dpAll_len h2, dpAll_len h4]
          walk_at "go"
          refine like_loop (n := n) ⟨_, _, rfl, .inr h1, h2⟩ ⟨_, _, rfl, .inr h3, h4⟩ hp (by omega) fun z => ?_
          walk_at "go"
          exact q
  | dict kvs => exact (by cases n <;> exact hp.elim)
end
end Sx
open PySem L2 RT Sx

namespace Sx
section
variable {K : PySem.W.Frag} {H : Hp} {Q : VK}
def rowD (r : List Nat) : PyData := .tuple (r.map fun n : Nat => PyData.int (n : Int))
theorem dp_ints : ∀ r : List Nat, DpAll K H (rowV r) (r.map fun n : Nat => PyData.int (n : Int))
  | [] => .nil
  | d :: r => .cons (.int (d : Int)) (dp_ints r)
theorem dp_row {a : Addr} {r : List Nat} (h : SqT K H a (rowV r)) : Dp K H (.ref a) (rowD r) := .tup h (dp_ints r)
theorem plain_row {n : Nat} {r : List Nat} (h : r.length ≤ 100000) : plainD (n + 1) (rowD r) := by
  refine ⟨by rw [List.length_map]; exact h, fun d hd => ?_⟩
  obtain ⟨k, _, rfl⟩ := List.mem_map.mp hd
  cases n <;> trivial
theorem depth_ints : ∀ r : List Nat, PyData.depthAll (r.map fun n : Nat => PyData.int (n : Int)) ≤ 1 ∧ PyData.canLayAll0 (r.map fun n : Nat => PyData.int (n : Int)) = true ∧ PyData.eqvAll (r.map fun n : Nat => PyData.int (n : Int)) (r.map fun n : Nat => PyData.int (n : Int)) = true
  | [] => by simp [PyData.depthAll, PyData.canLayAll0, PyData.eqvAll]
  | d :: r => by
    obtain ⟨h1, h2, h3⟩ := depth_ints r
    simp only [List.map_cons, PyData.depthAll, PyData.canLayAll0, PyData.eqvAll, PyData.depth, PyData.canLay0, PyData.eqv, h2, h3]
    refine ⟨by omega, rfl, by simp⟩
theorem shaped_row (r : List Nat) : SeqAt.shaped (rowD r) = true := by
  obtain ⟨h1, h2, _⟩ := depth_ints r
  have h3 : PyData.depth (rowD r) ≤ 64 := by unfold rowD; simp only [PyData.depth]; omega
  show ((rowD r).canLay0 && decide ((rowD r).depth ≤ 64)) = true
  rw [Bool.and_eq_true]
  exact ⟨by unfold rowD; simp only [PyData.canLay0]; exact h2, decide_eq_true h3⟩
theorem eqv_row (r : List Nat) : PyData.eqv (rowD r) (rowD r) = true := by
  unfold rowD; simp only [PyData.eqv]; exact (depth_ints r).2.2
/-- alike rows -/
theorem i_eqR {a b : Addr} {r : List Nat} (h1 : SqT K H a (rowV r)) (h2 : SqT K H b (rowV r)) (q : Q (.bl true) H) : rEqD K (.ref a) (.ref b) H Q :=
  ⟨rowD r, rowD r, dp_row h1, dp_row h2, shaped_row r, shaped_row r, by rw [eqv_row]; exact q⟩
theorem i_likeR {a b : Addr} {r : List Nat} {E : XK} (h1 : SqT K H a (rowV r)) (h2 : SqT K H b (rowV r)) (hz : r.length ≤ 100000) (q : Q (.bl true) H) : sp__law_like K ([.ref a, .ref b] ++ []) H Q E :=
  ⟨_, _, rowD r, rfl, dp_row h1, dp_row h2, plain_row hz, q⟩
end

section
variable {X : Cx}
/-- math.isqrt of a number below 2 ^ 250 -/
def rIsqrt : List V → Hp → VK → Prop := fun vs H Q => ∃ a : Nat, vs = [natV a] ∧ a < 2 ^ 250 ∧ Q (natV (Float64.isqrt a)) H
theorem cr_isqrt : CallR X (.builtin "math.isqrt") rIsqrt := fun pins s σ H vs us Q I r ⟨a, e, hz, q⟩ => by
  subst e
  obtain ⟨u, rfl, t, rfl⟩ := vals1 r
  have hl : a.log2 ≤ 249 := PySem.W.mg_log hz
  have hn : ((a : Nat) : Int).toNat = a := Int.toNat_natCast a
  exact PySem.call_function_meets PySem.W.MGF.kind_isqrt PySem.W.MGF.plain_isqrt PySem.W.MGF.entry_isqrt (PySem.W.MGF.args_isqrt _) (PySem.W.mg_run_isqrt (a : Int) t (by omega) (by rw [hn]; omega) (by rw [hn]; omega)).meets ⟨natV (Float64.isqrt a), H, I.tok _, ⟨_, by rw [hn]⟩, q⟩
end
section
variable {K : PySem.W.Frag} {H : Hp} {Q : VK}
theorem dp_lnil {p : Addr} (h : H p = some (.lst [])) : Dp K H (.ref p) (.list []) := .lst (sql h) .nil
theorem i_neNil {p p2 : Addr} (h : H p = some (.lst [])) (h2 : H p2 = some (.lst [])) (q : Q (.bl false) H) : rNeD K (.ref p) (.ref p2) H Q :=
  ⟨_, _, dp_lnil h, dp_lnil h2, by decide +kernel, by decide +kernel, by rw [show PyData.eqv (.list []) (.list []) = true by decide +kernel]; exact q⟩
theorem i_eqNil {p p2 : Addr} (h : H p = some (.lst [])) (h2 : H p2 = some (.lst [])) (q : Q (.bl true) H) : rEqD K (.ref p) (.ref p2) H Q :=
  ⟨_, _, dp_lnil h, dp_lnil h2, by decide +kernel, by decide +kernel, by rw [show PyData.eqv (.list []) (.list []) = true by decide +kernel]; exact q⟩
end
end Sx
open PySem L2 RT Sx

namespace Sx
/-- what the near side of a row is the root of -/
def nearN (r : List Nat) (b : Bool) (p : Nat) : Nat := whole r * (if b then 60 else 1) * 3600 ^ p
def nearF (r : List Nat) (b : Bool) (p : Nat) : List Nat := (figs (Float64.isqrt (nearN r b p))).take p
def sp_near_side (K : PySem.W.Frag) : Sp := fun vs H Q _ => ∃ a r b p, vs = [.ref a, .bl b, natV p] ∧ SqT K H a (rowV r) ∧ IsRow r ∧ p ≤ 10 ∧ ∀ q H', Same H H' → SqT K H' q (rowV (nearF r b p)) → Q (.ref q) H'
def t_near_side (K : PySem.W.Frag) : TS := (tSeq (tAsg (tCall (sp_whole_of K) [] E0 (tCons (tVar 0) tNil)) (gName 3))
  (tSeq (tIfS (tB (tVar 1)) (tAug 3 (tC (natV 60)) rMul) tNext)
  (tSeq (tFor (iRng1 (tCons (tVar 2) tNil)) (gName 4)
  (tAug 3 (tC (natV 3600)) rMul))
  (tRet (tSl (rSlN K) (tCall (sp_figures_of K) [] E0 (tCons (tCB rIsqrt (tCons (tVar 3) tNil)) tNil)) tNoPart (tPart (tVar 2)))))))

section
variable {K : PySem.W.Frag} {H : Hp} {Q : VK}
theorem i_isqrt {a : Nat} (hz : a < 2 ^ 250) (q : Q (natV (Float64.isqrt a)) H) : rIsqrt [natV a] H Q := ⟨a, rfl, hz, q⟩
theorem isqrt_le (n : Nat) : Float64.isqrt n ≤ n := by
  have h := (Float64.isqrt_spec n).1
  rcases Nat.eq_zero_or_pos (Float64.isqrt n) with e | e
  · omega
  · calc Float64.isqrt n = Float64.isqrt n * 1 := by omega
      _ ≤ Float64.isqrt n * Float64.isqrt n := Nat.mul_le_mul_left _ e
      _ ≤ n := h
theorem isqrt_eq {n k : Nat} (h1 : k * k ≤ n) (h2 : n < (k + 1) * (k + 1)) : Float64.isqrt n = k := by
  obtain ⟨h3, h4⟩ := Float64.isqrt_spec n
  rcases Nat.lt_trichotomy (Float64.isqrt n) k with h | h | h
  · have := Nat.mul_le_mul (show Float64.isqrt n + 1 ≤ k by omega) (show Float64.isqrt n + 1 ≤ k by omega); omega
  · exact h
  · have := Nat.mul_le_mul (show k + 1 ≤ Float64.isqrt n by omega) (show k + 1 ≤ Float64.isqrt n by omega); omega
theorem nearN_lt {r : List Nat} {b : Bool} {p : Nat} (ir : IsRow r) (hp : p ≤ 10) : nearN r b p < 2 ^ 200 := by
  have h1 := whole12 ir
  have h2 : (if b then 60 else 1) ≤ 60 := by cases b <;> decide
  have h3 : 3600 ^ p ≤ 3600 ^ 10 := Nat.pow_le_pow_right (by decide) hp
  calc nearN r b p ≤ 60 ^ 12 * 60 * 3600 ^ 10 := Nat.mul_le_mul (Nat.mul_le_mul (by omega) h2) h3
    _ < 2 ^ 200 := by decide
theorem pure_near_side {vs : List V} {E : XK} (h : sp_near_side K vs H Q E) : t_near_side K (endsOf Q) (start ["row", "is_odd", "places", "number", "_"] vs) H := by
  obtain ⟨a, r, b, p, rfl, hr, ir, hp, q⟩ := h
  show t_near_side K (endsOf Q) [some (.ref a), some (.bl b), some (natV p), none, none] H
  unfold t_near_side
  walk_at "go"
  refine ⟨a, r, rfl, hr, ir, ?_⟩
  walk_at "go"
  have tail : ∀ m : Nat, m = whole r * (if b then 60 else 1) → (tSeq (tFor (iRng1 (tCons (tVar 2) tNil)) (gName 4) (tAug 3 (tC (natV 3600)) rMul))
      (tRet (tSl (rSlN K) (tCall (sp_figures_of K) [] E0 (tCons (tCB rIsqrt (tCons (tVar 3) tNil)) tNil)) tNoPart (tPart (tVar 2))))) (endsOf Q) [some (.ref a), some (.bl b), some (natV p), some (natV m), none] H := by
    intro m hm
    walk_at "go"
    refine i_for (i_iRng1 ?_)
    walk_at "go"
    refine l_rng1 (by omega) (fun i σ H' => ∃ x, σ = [some (.ref a), some (.bl b), some (natV p), some (natV (m * 3600 ^ i)), x] ∧ H' = H) ⟨none, by rw [Nat.pow_zero, Nat.mul_one], rfl⟩ ?_ ?_
    · rintro i σ H' hi ⟨x, rfl, rfl⟩
      walk_at "go"
      exact ⟨_, by rw [Nat.pow_succ, Nat.mul_assoc], rfl⟩
    · rintro σ H' ⟨x, rfl, rfl⟩
      walk_at "go"
      have e : m * 3600 ^ p = nearN r b p := by rw [hm]; rfl
      have hz := nearN_lt (b := b) ir hp
      rw [e]
      refine i_isqrt (by omega) ?_
      walk_at "go"
      have hz2 := isqrt_le (nearN r b p)
      refine ⟨_, rfl, Nat.lt_trans (Nat.lt_of_le_of_lt hz2 hz) (by decide), fun p2 H2 s2 hp2 => ?_⟩
      walk_at "go"
      refine i_slT hp2 fun p3 H3 s3 hp3 => ?_
      rw [cutV_to, rowV_take] at hp3
      exact q p3 H3 (Same.trans s2 s3) hp3
  cases b with
  | true =>
    walk_at "s"
    walk_at "s"
    walk_at "s"
    walk_at "s"
    exact tail _ rfl
  | false =>
    walk_at "s"
    walk_at "s"
    exact tail _ (by simp)
end
end Sx
open PySem L2 RT Sx

namespace Sx
/-- one is within sixty times sixty as often as wanted of a square -/
def Near (n f : Nat) : Prop := ∃ k, k ≤ 12 ∧ ((f * f ≤ n * 3600 ^ k ∧ n * 3600 ^ k < (f + 1) * (f + 1)) ∨ (f * f * 3600 ^ k ≤ n ∧ n < (f + 1) * (f + 1) * 3600 ^ k))
def sp__law_whole (K : PySem.W.Frag) : Sp := fun vs H Q _ => ∃ n, vs = [natV n] ∧ Q (.bl true) H
def sp__law_is_near (K : PySem.W.Frag) : Sp := fun vs H Q _ => ∃ n f, vs = [natV n, natV f] ∧ 0 < f ∧ n < 2 ^ 200 ∧ f < 2 ^ 200 ∧ Near n f ∧ Q (.bl true) H
def t__law_whole (K : PySem.W.Frag) : TS := (tRet (tAndV (tCB (rIsi K) (tCons (tVar 0) (tCons (tC (.ty "int")) tNil))) (tNotV (tCB (rIsi K) (tCons (tVar 0) (tCons (tC (.ty "bool")) tNil))))))
def t__law_is_near (K : PySem.W.Frag) : TS := (tSeq (tAsg (tOp rMulW (tVar 1) (tVar 1)) (gName 2))
  (tSeq (tAsg (tOp rMulW (tOp rAdd (tVar 1) (tC (natV 1))) (tOp rAdd (tVar 1) (tC (natV 1)))) (gName 3))
  (tSeq (tFor (iRng1 (tCons (tC (natV 30)) tNil)) (gName 4)
  (tSeq (tIfS (tAnd (tTest (tOp rLe (tVar 2) (tVar 0))) (tTest (tOp rLt (tVar 0) (tVar 3)))) (tRet (tC (.bl true))) tNext)
  (tIfS (tTest (tOp rLt (tVar 0) (tVar 2))) (tAsg (tOp rMul (tVar 0) (tC (natV 3600))) (gName 0)) (tSeq (tAsg (tOp rMul (tVar 2) (tC (natV 3600))) (gName 2))
  (tSeq (tAsg (tOp rMul (tVar 3) (tC (natV 3600))) (gName 3))
  (tIfS (tTest (tOp rLt (tVar 0) (tVar 2))) (tRet (tC (.bl false))) tNext))))))
  (tRet (tC (.bl false))))))
def t_law (K : PySem.W.Frag) : TS := (tSeq (tAsg (tCall (sp__law_dice K) [] E0 (tCons (tVar 0) tNil)) (gName 1))
  (tSeq (tAsg (tCall (sp__law_drawn K) [] E0 (tCons (tVar 1) (tCons (tC (natV 12)) tNil))) (gName 2))
  (tSeq (tAsg (tOp rAdd (tC (natV 1)) (tCall (sp__law_next K) [] E0 (tCons (tVar 1) (tCons (tC (natV 6)) tNil)))) (gName 3))
  (tSeq (tFor (iList K (tLstN (tCons (tC (.bl false)) (tCons (tC (.bl true)) tNil)))) (gName 4)
  (tSeq (tAsg (tCall (sp_near_side K) [] E0 (tCons (tVar 2) (tCons (tVar 4) (tCons (tVar 3) tNil)))) (gName 5))
  (tSeq (tIfS (tOr (tNot (tB (tCB (rIsi K) (tCons (tVar 5) (tCons (tC (.ty "tuple")) tNil))))) (tOr (tTest (tOp rNe (tCB (rLen K) (tCons (tVar 5) tNil)) (tVar 3))) (tTest (tOp rEq (tOp (rIxT K) (tVar 5) (tC (natV 0))) (tC (natV 0)))))) (tRet (tC (.bl false))) tNext)
  (tSeq (tIfS (tTest (tOp (rNeD K) (tLcT K (tVar 5) (gName 6) (tOr (tNot (tB (tCall (sp__law_whole K) [] E0 (tCons (tVar 6) tNil)))) (tNot (tTest (tChain rLe rLt (tC (natV 0)) (tVar 6) (tC (natV 60)))))) (tVar 6) [6]) (tLstN tNil))) (tRet (tC (.bl false))) tNext)
  (tIfS (tNot (tB (tCall (sp__law_is_near K) [] E0 (tCons (tOp rMulW (tCall (sp__law_whole_of K) [] E0 (tCons (tVar 2) tNil)) (tOp (rIxL K) (tLstN (tCons (tC (natV 1)) (tCons (tC (natV 60)) tNil))) (tCB rInt1 (tCons (tVar 4) tNil)))) (tCons (tCall (sp__law_whole_of K) [] E0 (tCons (tVar 5) tNil)) tNil))))) (tRet (tC (.bl false))) tNext)))))
  (tRet (tAndV (tOp (rEqD K) (tCall (sp_near_side K) [] E0 (tCons (tTupN K (tCons (tC (natV 1)) tNil)) (tCons (tC (.bl false)) (tCons (tC (natV 3)) tNil)))) (tTupN K (tCons (tC (natV 1)) (tCons (tC (natV 0)) (tCons (tC (natV 0)) tNil))))) (tOp (rEqD K) (tCall (sp_near_side K) [] E0 (tCons (tTupN K (tCons (tC (natV 2)) tNil)) (tCons (tC (.bl false)) (tCons (tC (natV 4)) tNil)))) (tTupN K (tCons (tC (natV 1)) (tCons (tC (natV 24)) (tCons (tC (natV 51)) (tCons (tC (natV 10)) tNil))))))))))))
def sp_law (K : PySem.W.Frag) : Sp := fun vs H Q _ => ∃ (a : Addr) (ns : List Int), vs = [.ref a] ∧ SqL K H a (ns.map V.int) ∧ ns.length ≤ 63 ∧ ∀ H', Q (.bl true) H'
section
variable {K : PySem.W.Frag} {H : Hp} {Q : VK}
theorem pure__law_whole {vs : List V} {E : XK} (h : sp__law_whole K vs H Q E) : t__law_whole K (endsOf Q) (start ["_law_found"] vs) H := by
  obtain ⟨n, rfl, q⟩ := h
  show t__law_whole K (endsOf Q) [some (natV n)] H
  unfold t__law_whole
  walk_at "go"
  refine i_isi (.base (.int n)) (b := true) (by decide +kernel) ?_
  refine ⟨_, rfl, i_iteT ?_⟩
  walk_at "go"
  refine i_isi (.base (.int n)) (b := false) (by decide +kernel) ?_
  exact ⟨_, rfl, q⟩
theorem near_lo {n f k j : Nat} (h0 : 0 < f) (hj : j < k) (h : n * 3600 ^ k < (f + 1) * (f + 1)) : n * 3600 ^ j < f * f := by
  obtain ⟨i, rfl⟩ : ∃ i, k = j + 1 + i := ⟨k - (j + 1), by omega⟩
  have h1 : (f + 1) * (f + 1) ≤ f * f * 3600 := by
    have : (f + 1) * (f + 1) ≤ (60 * f) * (60 * f) := Nat.mul_le_mul (by omega) (by omega)
    calc (f + 1) * (f + 1) ≤ (60 * f) * (60 * f) := this
      _ = f * f * 3600 := by rw [Nat.mul_mul_mul_comm]; omega
  have h2 : n * 3600 ^ j * 3600 ≤ n * 3600 ^ (j + 1 + i) := by
    rw [Nat.pow_add, Nat.pow_add, Nat.pow_one, ← Nat.mul_assoc, ← Nat.mul_assoc]
    exact Nat.le_mul_of_pos_right _ (Nat.pos_of_ne_zero (by simp))
  omega
theorem near_hi {n f k j : Nat} (h0 : 0 < f) (hj : j < k) (h : f * f * 3600 ^ k ≤ n) : (f + 1) * (f + 1) * 3600 ^ j ≤ n := by
  obtain ⟨i, rfl⟩ : ∃ i, k = j + 1 + i := ⟨k - (j + 1), by omega⟩
  have h1 : (f + 1) * (f + 1) ≤ f * f * 3600 := by
    have : (f + 1) * (f + 1) ≤ (60 * f) * (60 * f) := Nat.mul_le_mul (by omega) (by omega)
    calc (f + 1) * (f + 1) ≤ (60 * f) * (60 * f) := this
      _ = f * f * 3600 := by rw [Nat.mul_mul_mul_comm]; omega
  calc (f + 1) * (f + 1) * 3600 ^ j ≤ f * f * 3600 * 3600 ^ j := Nat.mul_le_mul_right _ h1
    _ = f * f * 3600 ^ (j + 1) := by rw [Nat.pow_succ, Nat.mul_assoc, Nat.mul_comm 3600]
    _ ≤ f * f * 3600 ^ (j + 1 + i) := Nat.mul_le_mul_left _ (Nat.pow_le_pow_right (by decide) (by omega))
    _ ≤ n := h
theorem pure__law_is_near {vs : List V} {E : XK} (h : sp__law_is_near K vs H Q E) : t__law_is_near K (endsOf Q) (start ["_law_number", "_law_found", "_law_low", "_law_high", "_law_turn"] vs) H := by
  obtain ⟨n, f, rfl, h0, hn, hf, hN, q⟩ := h
  show t__law_is_near K (endsOf Q) [some (natV n), some (natV f), none, none, none] H
  unfold t__law_is_near
  walk_at "go"
  refine i_mulWN (m := 200) (n := 200) hf hf (by decide) (by decide) (by decide) ?_
  walk_at "go"
  refine i_mulWN (m := 201) (n := 201) (by omega) (by omega) (by decide) (by decide) (by decide) ?_
  walk_at "go"
  refine i_for (i_iRng1 ?_)
  walk_at "go"
  obtain ⟨k, hk, hN⟩ := hN
  rcases hN with ⟨ha, hb⟩ | ⟨ha, hb⟩
  · refine l_rng1 (n := 30) (by decide) (fun i σ H' => i ≤ k ∧ ∃ x, σ = [some (natV (n * 3600 ^ i)), some (natV f), some (natV (f * f)), some (natV ((f + 1) * (f + 1))), x] ∧ H' = H) ⟨Nat.zero_le _, none, by rw [Nat.pow_zero, Nat.mul_one], rfl⟩ ?_ ?_
    · rintro i σ H' hi ⟨hik, x, rfl, rfl⟩
      walk_at "go"
      rcases Nat.lt_or_ge i k with hlt | hge
      · have hlo := near_lo h0 hlt hb
        refine i_nay (by omega) ?_
        walk_at "go"
        exact ⟨by omega, _, by rw [Nat.pow_succ, Nat.mul_assoc], rfl⟩
      · obtain rfl : i = k := by omega
        refine i_yes ha ?_
        walk_at "go"
        exact q
    · rintro σ H' ⟨hik, _⟩
      omega
  · refine l_rng1 (n := 30) (by decide) (fun i σ H' => i ≤ k ∧ ∃ x, σ = [some (natV n), some (natV f), some (natV (f * f * 3600 ^ i)), some (natV ((f + 1) * (f + 1) * 3600 ^ i)), x] ∧ H' = H) ⟨Nat.zero_le _, none, by rw [Nat.pow_zero, Nat.mul_one, Nat.mul_one], rfl⟩ ?_ ?_
    · rintro i σ H' hi ⟨hik, x, rfl, rfl⟩
      walk_at "go"
      have hle : f * f * 3600 ^ i ≤ n := Nat.le_trans (Nat.mul_le_mul_left _ (Nat.pow_le_pow_right (by decide) hik)) ha
      refine i_yes hle ?_
      walk_at "go"
      rcases Nat.lt_or_ge i k with hlt | hge
      · have hhi := near_hi h0 hlt ha
        refine i_nay (by omega) ?_
        walk_at "go"
        have hle2 : f * f * 3600 ^ (i + 1) ≤ n := Nat.le_trans (Nat.mul_le_mul_left _ (Nat.pow_le_pow_right (by decide) hlt)) ha
        have e1 : f * f * 3600 ^ i * 3600 = f * f * 3600 ^ (i + 1) := by rw [Nat.pow_succ, Nat.mul_assoc]
        have e2 : (f + 1) * (f + 1) * 3600 ^ i * 3600 = (f + 1) * (f + 1) * 3600 ^ (i + 1) := by rw [Nat.pow_succ, Nat.mul_assoc]
        rw [e1, e2]
        refine i_nay (by omega) ?_
        walk_at "go"
        exact ⟨by omega, _, rfl, rfl⟩
      · obtain rfl : i = k := by omega
        refine i_yes hb ?_
        walk_at "go"
        exact q
    · rintro σ H' ⟨hik, _⟩
      omega
/-! the near side's figures -/
theorem figs_take {s p : Nat} (hs : 0 < s) (hp : p ≤ (figs s).length) : ∃ e, (figs s).length = p + e ∧ whole ((figs s).take p) * 60 ^ e ≤ s ∧ s < (whole ((figs s).take p) + 1) * 60 ^ e := by
  refine ⟨(figs s).length - p, by omega, ?_⟩
  have e1 : figs s = (figs s).take p ++ (figs s).drop p := (List.take_append_drop p _).symm
  have e2 : ∀ (l r : List Nat), whole (l ++ r) = whole l * 60 ^ r.length + whole r := by
    intro l r
    have key : ∀ (r : List Nat) (a : Nat), r.foldl (fun a d => a * 60 + d) a = a * 60 ^ r.length + whole r := by
      intro r
      induction r with
      | nil => intro a; simp [whole]
      | cons d r ih =>
        intro a
        have h1 : whole (d :: r) = r.foldl (fun a d => a * 60 + d) (0 * 60 + d) := rfl
        rw [h1, List.foldl_cons, ih, ih, List.length_cons, Nat.pow_succ, Nat.add_mul, Nat.zero_mul, Nat.zero_add, Nat.mul_assoc a, Nat.mul_comm 60]; omega
    show (l ++ r).foldl _ 0 = _
    rw [List.foldl_append, key]; rfl
  have e3 := whole_figs s
  rw [e1, e2, List.length_drop] at e3
  have e4 : whole ((figs s).drop p) < 60 ^ ((figs s).length - p) := whole_lt (fun d hd => figs_lt s d (List.mem_of_mem_drop hd)) (by rw [List.length_drop]; exact Nat.le_refl _)
  rw [Nat.add_mul]
  omega
theorem figs_long : ∀ (k s : Nat), 60 ^ k ≤ s → k + 1 ≤ (figs s).length
  | 0, s, h => figs_len1 (by rw [Nat.pow_zero] at h; omega)
  | k + 1, s, h => by
    have h1 : 60 ^ k ≤ s / 60 := by
      rw [Nat.pow_succ] at h
      exact (Nat.le_div_iff_mul_le (by decide)).mpr h
    have := figs_long k (s / 60) h1
    have h0 : 0 < s := Nat.lt_of_lt_of_le (Nat.pos_of_ne_zero (by simp)) h
    rw [figs, List.length_reverse] at this ⊢
    rw [figsL_pos h0, List.length_cons]; omega
theorem root_ge {r : List Nat} {b : Bool} {p : Nat} (ir : IsRow r) : 60 ^ p ≤ Float64.isqrt (nearN r b p) := by
  have h1 := whole_pos (row_ne ir) ir.hd
  have h2 : 1 ≤ (if b then 60 else 1) := by cases b <;> decide
  have h3 : 3600 ^ p ≤ nearN r b p := by
    calc 3600 ^ p = 1 * 1 * 3600 ^ p := by omega
      _ ≤ nearN r b p := Nat.mul_le_mul_right _ (Nat.mul_le_mul h1 h2)
  have h4 := (Float64.isqrt_spec (nearN r b p)).2
  rcases Nat.lt_or_ge (Float64.isqrt (nearN r b p)) (60 ^ p) with h | h
  · have h5 := Nat.mul_le_mul (show Float64.isqrt (nearN r b p) + 1 ≤ 60 ^ p by omega) (show Float64.isqrt (nearN r b p) + 1 ≤ 60 ^ p by omega)
    rw [← Nat.mul_pow] at h5
    have h6 : (60 * 60) ^ p = 3600 ^ p := rfl
    omega
  · exact h
theorem nearF_len {r : List Nat} {b : Bool} {p : Nat} (ir : IsRow r) : (nearF r b p).length = p := by
  have := figs_long p _ (root_ge (b := b) ir)
  unfold nearF
  rw [List.length_take]; omega
theorem nearF_lt {r : List Nat} {b : Bool} {p : Nat} : ∀ d ∈ nearF r b p, d < 60 := fun d hd => figs_lt _ d (List.mem_of_mem_take hd)
theorem nearF_hd {r : List Nat} {b : Bool} {p : Nat} (ir : IsRow r) (hp : 1 ≤ p) : (nearF r b p)[0]? ≠ some 0 := by
  unfold nearF
  rw [List.getElem?_take, if_pos (by omega)]
  exact figs_head (Nat.lt_of_lt_of_le (Nat.pos_of_ne_zero (by simp)) (root_ge (b := b) ir))
theorem sq60 (x e : Nat) : (x * 60 ^ e) * (x * 60 ^ e) = x * x * 3600 ^ e := by
  rw [Nat.mul_mul_mul_comm, ← Nat.mul_pow]
theorem nearF_near {r : List Nat} {b : Bool} {p : Nat} (ir : IsRow r) (hp : 1 ≤ p) (hp6 : p ≤ 6) : Near (whole r * (if b then 60 else 1)) (whole (nearF r b p)) := by
  have hge := root_ge (b := b) (p := p) ir
  have hs : 0 < Float64.isqrt (nearN r b p) := Nat.lt_of_lt_of_le (Nat.pos_of_ne_zero (by simp)) hge
  have hl := figs_long p _ hge
  obtain ⟨e, e1, e2, e3⟩ := figs_take hs (p := p) (by omega)
  obtain ⟨s1, s2⟩ := Float64.isqrt_spec (nearN r b p)
  have hF : whole (nearF r b p) = whole ((figs (Float64.isqrt (nearN r b p))).take p) := rfl
  rw [hF]
  generalize hf : whole ((figs (Float64.isqrt (nearN r b p))).take p) = f at *
  generalize hsq : Float64.isqrt (nearN r b p) = s at *
  have hup : s < 60 ^ (p + 7) := by
    rcases Nat.lt_or_ge s (60 ^ (p + 7)) with h | h
    · exact h
    · have h1 := whole12 ir
      have h2 : (if b then 60 else 1) ≤ 60 := by cases b <;> decide
      have h3 : nearN r b p < 60 ^ 13 * 3600 ^ p := by
        have : whole r * (if b then 60 else 1) < 60 ^ 13 := by
          calc whole r * (if b then 60 else 1) ≤ whole r * 60 := Nat.mul_le_mul_left _ h2
            _ < 60 ^ 13 := by rw [show 60 ^ 13 = 60 ^ 12 * 60 by decide]; omega
        exact Nat.mul_lt_mul_of_pos_right this (Nat.pos_of_ne_zero (by simp))
      have h4 := Nat.mul_le_mul h h
      rw [← Nat.mul_pow] at h4
      have h5 : (60 * 60) ^ (p + 7) = 3600 ^ 7 * 3600 ^ p := by show 3600 ^ (p + 7) = _; rw [Nat.pow_add, Nat.mul_comm]
      rw [h5] at h4
      have h6 : 60 ^ 13 * 3600 ^ p ≤ 3600 ^ 7 * 3600 ^ p := Nat.mul_le_mul_right _ (by decide)
      omega
  have hle := figs_len hup
  have t1 : f * f * 3600 ^ e ≤ whole r * (if b then 60 else 1) * 3600 ^ p := by
    rw [← sq60]; exact Nat.le_trans (Nat.mul_le_mul e2 e2) s1
  have t2 : whole r * (if b then 60 else 1) * 3600 ^ p < (f + 1) * (f + 1) * 3600 ^ e := by
    rw [← sq60]; exact Nat.lt_of_lt_of_le s2 (Nat.mul_le_mul e3 e3)
  generalize whole r * (if b then 60 else 1) = n at *
  have pos : ∀ k, 0 < 3600 ^ k := fun k => Nat.pos_of_ne_zero (by simp)
  rcases Nat.le_total e p with h | h
  · obtain ⟨k, rfl⟩ := Nat.exists_eq_add_of_le h
    refine ⟨k, by omega, .inl ⟨?_, ?_⟩⟩
    · have : f * f * 3600 ^ e ≤ n * 3600 ^ k * 3600 ^ e := by rw [Nat.mul_assoc n, ← Nat.pow_add, Nat.add_comm k e]; exact t1
      exact Nat.le_of_mul_le_mul_right this (pos e)
    · have : n * 3600 ^ k * 3600 ^ e < (f + 1) * (f + 1) * 3600 ^ e := by rw [Nat.mul_assoc n, ← Nat.pow_add, Nat.add_comm k e]; exact t2
      exact Nat.lt_of_mul_lt_mul_right this
  · obtain ⟨k, rfl⟩ := Nat.exists_eq_add_of_le h
    refine ⟨k, by omega, .inr ⟨?_, ?_⟩⟩
    · have : f * f * 3600 ^ k * 3600 ^ p ≤ n * 3600 ^ p := by rw [Nat.mul_assoc (f * f), ← Nat.pow_add, Nat.add_comm k p]; exact t1
      exact Nat.le_of_mul_le_mul_right this (pos p)
    · have : n * 3600 ^ p < (f + 1) * (f + 1) * 3600 ^ k * 3600 ^ p := by rw [Nat.mul_assoc ((f + 1) * (f + 1)), ← Nat.pow_add, Nat.add_comm k p]; exact t2
      exact Nat.lt_of_mul_lt_mul_right this
theorem near_one : nearF [1] false 3 = [1, 0, 0] := by
  unfold nearF
  rw [show Float64.isqrt (nearN [1] false 3) = 216000 from isqrt_eq (by decide) (by decide)]
  decide +kernel
theorem near_two : nearF [2] false 4 = [1, 24, 51, 10] := by
  unfold nearF
  rw [show Float64.isqrt (nearN [2] false 4) = 18328207 from isqrt_eq (by decide) (by decide)]
  decide +kernel
theorem pure_law {vs : List V} {E : XK} (h : sp_law K vs H Q E) : t_law K (endsOf Q) (start ["_law_script", "_law_d", "_law_row_here", "_law_places", "_law_is_odd", "_law_found", "_law_figure"] vs) H := by
  obtain ⟨a, ns, rfl, hs, hl, q⟩ := h
  show t_law K (endsOf Q) [some (.ref a), none, none, none, none, none, none] H
  unfold t_law
  walk_at "go"
  refine ⟨a, ns, rfl, hs, hl, fun d H1 nd s1 hd => ?_⟩
  walk_at "go"
  refine ⟨d, 12, rfl, hd, by decide, by decide, fun p1 r H2 ir l1 d2 h1 => ?_⟩
  walk_at "go"
  refine i_draw (hd.drew d2) (q := fun pl H3 hpl d3 => ?_)
  walk_at "go"
  have h13 := (hd.drew d2).row d3 h1
  refine i_for (i_iList ?_)
  walk_at "go"
  refine ⟨szl (by simp), fun lb H4 nlb s4 hlb => ?_⟩
  have h14 := Same.seqT s4 h13
  refine l_list (K := K) (sql hlb) (fun i σ H' => ∃ x y z, σ = [some (.ref a), some (.ref d), some (.ref p1), some (natV (1 + pl)), x, y, z] ∧ Same H4 H') ⟨none, none, none, rfl, Same.refl H4⟩ ?_ ?_ ?_
  · rintro i σ H' _ ⟨x, y, z, rfl, s⟩
    exact sql (s _ _ hlb)
  · rintro i x σ H' hx ⟨x0, y0, z0, rfl, s⟩
    obtain ⟨b, rfl⟩ : ∃ b, x = .bl b := by
      rcases i with _ | _ | i
      · exact ⟨false, (Option.some.inj hx).symm⟩
      · exact ⟨true, (Option.some.inj hx).symm⟩
      · simp at hx
    walk_at "go"
    have hr := Same.seqT s h14
    refine ⟨p1, r, b, 1 + pl, rfl, hr, ir, by omega, fun p5 H5 s5 h5 => ?_⟩
    walk_at "go"
    have hF := nearF_len (b := b) (p := 1 + pl) ir
    have hlt := nearF_lt (r := r) (b := b) (p := 1 + pl)
    have hhd := nearF_hd (b := b) (p := 1 + pl) ir (by omega)
    refine i_isi (ty_tup h5) (b := true) (by decide +kernel) ?_
    walk_at "go"
    refine i_lenT h5 ?_
    rw [rowV_len, hF]
    walk_at "go"
    obtain ⟨x, hx⟩ : ∃ x, (nearF r b (1 + pl))[0]? = some x := ⟨_, List.getElem?_eq_getElem (by omega)⟩
    have hx0 : x ≠ 0 := fun e => hhd (by rw [hx, e])
    refine i_ixT h5 (rowV_get hx) ?_
    walk_at "go"
    refine ⟨p5, _, rfl, h5, fun D nD => ⟨fun i H' => H' D = some (.lst []) ∧ Same H5 H', ⟨upd_same, same_new nD⟩, ?_, ?_, ?_⟩⟩
    · rintro i H' _ ⟨_, s6⟩
      exact Same.seqT s6 h5
    · rintro i x H' hx ⟨hD, s6⟩
      obtain ⟨k, hk, rfl⟩ := rowV_of hx
      have hk60 := hlt k (List.mem_of_getElem? hk)
      walk_at "go"
      refine i_lcg ?_
      walk_at "go"
      refine ⟨k, rfl, ?_⟩
      walk_at "go"
      exact ⟨hD, s6⟩
    · rintro H6 ⟨hD, s6⟩
      walk_at "go"
      refine ⟨szl (by simp), fun pe H7 npe s7 hpe => ?_⟩
      refine i_neNil (s7 _ _ hD) hpe ?_
      walk_at "go"
      have s57 := Same.trans s6 s7
      have hr7 := Same.seqT s57 (Same.seqT s5 hr)
      refine ⟨p1, r, rfl, hr7, by have := ir.len.2; omega, ?_⟩
      walk_at "go"
      refine ⟨szl (by simp), fun l8 H8 n8 s8 h8 => ?_⟩
      walk_at "go"
      refine i_ixL (sql h8) (v := natV (if b then 60 else 1)) (by cases b <;> rfl) ?_
      have hb60 : (if b then 60 else 1) < 2 ^ 6 := by cases b <;> decide
      refine i_mulWN (m := 72) (n := 6) (Nat.lt_trans (whole12 ir) p12) hb60 (by decide) (by decide) (by decide) ?_
      walk_at "go"
      have h58 := Same.seqT s8 (Same.seqT s57 h5)
      refine ⟨p5, _, rfl, h58, by omega, ?_⟩
      have hne : nearF r b (1 + pl) ≠ [] := by
        intro e; rw [e] at hF; simp at hF; omega
      have hw : whole (nearF r b (1 + pl)) < 60 ^ 6 := whole_lt hlt (by omega)
      have hn78 : whole r * (if b then 60 else 1) < 2 ^ 78 := by
        have h1 := Nat.lt_trans (whole12 ir) p12
        calc whole r * (if b then 60 else 1) < 2 ^ 72 * 2 ^ 6 := Nat.mul_lt_mul'' h1 hb60
          _ = 2 ^ 78 := by decide
      refine ⟨_, _, rfl, whole_pos hne hhd, Nat.lt_trans hn78 (by decide), Nat.lt_trans hw (by decide), nearF_near ir (by omega) (by omega), ?_⟩
      walk_at "go"
      exact ⟨_, _, _, rfl, Same.trans s (Same.trans s5 (Same.trans s57 s8))⟩
  · rintro σ H' ⟨x, y, z, rfl, s⟩
    walk_at "go"
    refine ⟨szl (by simp), fun p5 H5 s5 h5 => ?_⟩
    walk_at "go"
    refine ⟨p5, [1], false, 3, rfl, h5, ⟨by decide, by decide, by decide, by decide⟩, by decide, fun p6 H6 s6 h6 => ?_⟩
    walk_at "go"
    refine ⟨szl (by simp), fun p7 H7 s7 h7 => ?_⟩
    rw [near_one] at h6
    refine i_eqR (r := [1, 0, 0]) (Same.seqT s7 h6) h7 ?_
    refine ⟨_, rfl, i_iteT ?_⟩
    walk_at "go"
    refine ⟨szl (by simp), fun p8 H8 s8 h8 => ?_⟩
    walk_at "go"
    refine ⟨p8, [2], false, 4, rfl, h8, ⟨by decide, by decide, by decide, by decide⟩, by decide, fun p9 H9 s9 h9 => ?_⟩
    walk_at "go"
    refine ⟨szl (by simp), fun p10 H10 s10 h10 => ?_⟩
    rw [near_two] at h9
    exact i_eqR (r := [1, 24, 51, 10]) (Same.seqT s10 h9) h10 (q _)
end
end Sx
namespace Sx
open PySem L2 RT
def top (i : Nat) : Stmt := PySem.Challenge.pw_sixtyfold_k06_whole_near_sides.main.body.getD i (.Pass ⟨0, 0, 0, 0⟩)
abbrev s__law_dice : Stmt := top 12
theorem sc__law_dice : FnScope ["_law_script", "_law_mixed", "_law_cell"] ["_law_script"] (defScope s__law_dice) := ⟨rfl, rfl, rfl, by decide +kernel, rfl, by decide +kernel, by decide +kernel⟩
abbrev s__law_next : Stmt := top 13
theorem sc__law_next : FnScope ["_law_dice_here", "_law_many", "_law_found", "_law_cell"] ["_law_dice_here", "_law_many"] (defScope s__law_next) := ⟨rfl, rfl, rfl, by decide +kernel, rfl, by decide +kernel, by decide +kernel⟩
abbrev s__law_row : Stmt := top 16
theorem sc__law_row : FnScope ["_law_number", "_law_figures"] ["_law_number"] (defScope s__law_row) := ⟨rfl, rfl, rfl, by decide +kernel, rfl, by decide +kernel, by decide +kernel⟩
abbrev s__law_smooth : Stmt := top 17
theorem sc__law_smooth : FnScope ["_law_d", "_law_found", "_law_prime", "_law_k"] ["_law_d"] (defScope s__law_smooth) := ⟨rfl, rfl, rfl, by decide +kernel, rfl, by decide +kernel, by decide +kernel⟩
abbrev s__law_drawn : Stmt := top 18
theorem sc__law_drawn : FnScope ["_law_d", "_law_most", "_law_kind", "_law_found", "_law_figures", "_law_k"] ["_law_d", "_law_most"] (defScope s__law_drawn) := ⟨rfl, rfl, rfl, by decide +kernel, rfl, by decide +kernel, by decide +kernel⟩
abbrev s__law_is_near : Stmt := top 20
theorem sc__law_is_near : FnScope ["_law_number", "_law_found", "_law_low", "_law_high", "_law_turn"] ["_law_number", "_law_found"] (defScope s__law_is_near) := ⟨rfl, rfl, rfl, by decide +kernel, rfl, by decide +kernel, by decide +kernel⟩
abbrev s__law_whole : Stmt := top 19
theorem sc__law_whole : FnScope ["_law_found"] ["_law_found"] (defScope s__law_whole) := ⟨rfl, rfl, rfl, by decide +kernel, rfl, by decide +kernel, by decide +kernel⟩
abbrev s__law_whole_of : Stmt := top 15
theorem sc__law_whole_of : FnScope ["_law_row_here", "_law_found", "_law_k"] ["_law_row_here"] (defScope s__law_whole_of) := ⟨rfl, rfl, rfl, by decide +kernel, rfl, by decide +kernel, by decide +kernel⟩
abbrev s_figures_of : Stmt := top 8
theorem sc_figures_of : FnScope ["number", "figures"] ["number"] (defScope s_figures_of) := ⟨rfl, rfl, rfl, by decide +kernel, rfl, by decide +kernel, by decide +kernel⟩
abbrev s_check_row : Stmt := top 6
theorem sc_check_row : FnScope ["row"] ["row"] (defScope s_check_row) := ⟨rfl, rfl, rfl, by decide +kernel, rfl, by decide +kernel, by decide +kernel⟩
abbrev s_whole_of : Stmt := top 7
theorem sc_whole_of : FnScope ["row", "number", "figure"] ["row"] (defScope s_whole_of) := ⟨rfl, rfl, rfl, by decide +kernel, rfl, by decide +kernel, by decide +kernel⟩
abbrev s_near_side : Stmt := top 10
theorem sc_near_side : FnScope ["row", "is_odd", "places", "number", "_"] ["row", "is_odd", "places"] (defScope s_near_side) := ⟨rfl, rfl, rfl, by decide +kernel, rfl, by decide +kernel, by decide +kernel⟩
abbrev s_law : Stmt := top 21
theorem sc_law : FnScope ["_law_script", "_law_d", "_law_row_here", "_law_places", "_law_is_odd", "_law_found", "_law_figure"] ["_law_script"] (defScope s_law) := ⟨rfl, rfl, rfl, by decide +kernel, rfl, by decide +kernel, by decide +kernel⟩
structure Tx (K : PySem.W.Frag) (mg : Str → Option Value) where
  a__law_dice : Addr
  d__law_dice : FuncData
  F__law_dice : Fun K "_law_dice" "_law_dice" s__law_dice a__law_dice d__law_dice
  g__law_dice : mg "_law_dice" = some (.ref a__law_dice)
  b__law_dice : Binds K d__law_dice ["_law_script"] []
  a__law_next : Addr
  d__law_next : FuncData
  F__law_next : Fun K "_law_next" "_law_next" s__law_next a__law_next d__law_next
  g__law_next : mg "_law_next" = some (.ref a__law_next)
  b__law_next : Binds K d__law_next ["_law_dice_here", "_law_many"] []
  a__law_row : Addr
  d__law_row : FuncData
  F__law_row : Fun K "_law_row" "_law_row" s__law_row a__law_row d__law_row
  g__law_row : mg "_law_row" = some (.ref a__law_row)
  b__law_row : Binds K d__law_row ["_law_number"] []
  a__law_smooth : Addr
  d__law_smooth : FuncData
  F__law_smooth : Fun K "_law_smooth" "_law_smooth" s__law_smooth a__law_smooth d__law_smooth
  g__law_smooth : mg "_law_smooth" = some (.ref a__law_smooth)
  b__law_smooth : Binds K d__law_smooth ["_law_d"] []
  a__law_drawn : Addr
  d__law_drawn : FuncData
  F__law_drawn : Fun K "_law_drawn" "_law_drawn" s__law_drawn a__law_drawn d__law_drawn
  g__law_drawn : mg "_law_drawn" = some (.ref a__law_drawn)
  b__law_drawn : Binds K d__law_drawn ["_law_d", "_law_most"] []
  a__law_is_near : Addr
  d__law_is_near : FuncData
  F__law_is_near : Fun K "_law_is_near" "_law_is_near" s__law_is_near a__law_is_near d__law_is_near
  g__law_is_near : mg "_law_is_near" = some (.ref a__law_is_near)
  b__law_is_near : Binds K d__law_is_near ["_law_number", "_law_found"] []
  a__law_whole : Addr
  d__law_whole : FuncData
  F__law_whole : Fun K "_law_whole" "_law_whole" s__law_whole a__law_whole d__law_whole
  g__law_whole : mg "_law_whole" = some (.ref a__law_whole)
  b__law_whole : Binds K d__law_whole ["_law_found"] []
  a__law_whole_of : Addr
  d__law_whole_of : FuncData
  F__law_whole_of : Fun K "_law_whole_of" "_law_whole_of" s__law_whole_of a__law_whole_of d__law_whole_of
  g__law_whole_of : mg "_law_whole_of" = some (.ref a__law_whole_of)
  b__law_whole_of : Binds K d__law_whole_of ["_law_row_here"] []
  a_figures_of : Addr
  d_figures_of : FuncData
  F_figures_of : Fun K "figures_of" "figures_of" s_figures_of a_figures_of d_figures_of
  g_figures_of : mg "figures_of" = some (.ref a_figures_of)
  b_figures_of : Binds K d_figures_of ["number"] []
  a_check_row : Addr
  d_check_row : FuncData
  F_check_row : Fun K "check_row" "check_row" s_check_row a_check_row d_check_row
  g_check_row : mg "check_row" = some (.ref a_check_row)
  b_check_row : Binds K d_check_row ["row"] []
  a_whole_of : Addr
  d_whole_of : FuncData
  F_whole_of : Fun K "whole_of" "whole_of" s_whole_of a_whole_of d_whole_of
  g_whole_of : mg "whole_of" = some (.ref a_whole_of)
  b_whole_of : Binds K d_whole_of ["row"] []
  a_near_side : Addr
  d_near_side : FuncData
  F_near_side : Fun K "near_side" "near_side" s_near_side a_near_side d_near_side
  g_near_side : mg "near_side" = some (.ref a_near_side)
  b_near_side : Binds K d_near_side ["row", "is_odd", "places"] []
  a_law : Addr
  d_law : FuncData
  F_law : Fun K "law" "law" s_law a_law d_law
  g_law : mg "law" = some (.ref a_law)
  b_law : Binds K d_law ["_law_script"] []
  z_bool : mg "bool" = none
  z_int : mg "int" = none
  z_isinstance : mg "isinstance" = none
  z_len : mg "len" = none
  z_max : mg "max" = none
  z_min : mg "min" = none
  z_range : mg "range" = none
  z_reversed : mg "reversed" = none
  z_tuple : mg "tuple" = none
  c_MOST_FIGURES : ∃ t, mg "MOST_FIGURES" = some (.int 12 t)
  m_isqrt : mg "isqrt" = some (.builtin "math.isqrt")
section
variable {P : Program} {w : World} {K : PySem.W.Frag} {mg : Str → Option Value} {base : Heap}
theorem len__law_dice {vs : List V} {H : Hp} {Q : VK} {E : XK} (h : sp__law_dice K vs H Q E) : vs.length = 1 := by
  unfold sp__law_dice at h; first | (obtain ⟨_, rfl, _⟩ := h; rfl) | (obtain ⟨_, _, rfl, _⟩ := h; rfl) | (obtain ⟨_, _, _, rfl, _⟩ := h; rfl) | (obtain ⟨_, _, _, _, rfl, _⟩ := h; rfl) | (obtain ⟨_, _, _, _, _, rfl, _⟩ := h; rfl) | (obtain ⟨_, _, _, _, _, _, rfl, _⟩ := h; rfl)
theorem ok__law_dice (T : Tx K mg) : FnOk P w K mg base CX0 1 T.a__law_dice T.d__law_dice ["_law_script"] (sp__law_dice K) := by
  refine T.F__law_dice.ok sc__law_dice (fun vs H Q E h => len__law_dice h) (fun cdv A outer s H vs Q E hr h => ⟨t__law_dice K, ?_, pure__law_dice h⟩)
  exact (pss_cons (ps_set (i := 1) sc__law_dice.nd rfl (Or.inl rfl) pe_int)
  (pss_cons (ps_for PassesOwn.never rfl (pi_list (pv 0)) (pg_name (i := 2) sc__law_dice.nd rfl (Or.inl rfl))
  (pss_one (ps_set (i := 1) sc__law_dice.nd rfl (Or.inl rfl) (pe_op op_mod (pe_op op_add (pe_op op_add (pe_op op_mul (pv 1) pe_int) (pe_op op_mul (pe_op op_mod (pv 2) pe_int) pe_int)) pe_int) pe_int))))
  (pss_one (ps_ret (pe_lstN (pa_cons (pv 0) (pa_cons pe_int (pa_cons (pe_op op_mulW (pv 1) (pe_callTy call_int1 rfl T.z_int (by decide +kernel) (pa_cons (pe_cmpR op_gt (pe_callB call_len_seq rfl T.z_len (by decide +kernel) (pa_cons (pv 0) pa_nil)) pe_int (nomark _)) pa_nil))) (pa_cons pe_int pa_nil)))))))))
theorem len__law_next {vs : List V} {H : Hp} {Q : VK} {E : XK} (h : sp__law_next K vs H Q E) : vs.length = 2 := by
  unfold sp__law_next at h; first | (obtain ⟨_, rfl, _⟩ := h; rfl) | (obtain ⟨_, _, rfl, _⟩ := h; rfl) | (obtain ⟨_, _, _, rfl, _⟩ := h; rfl) | (obtain ⟨_, _, _, _, rfl, _⟩ := h; rfl) | (obtain ⟨_, _, _, _, _, rfl, _⟩ := h; rfl) | (obtain ⟨_, _, _, _, _, _, rfl, _⟩ := h; rfl)
theorem ok__law_next (T : Tx K mg) : FnOk P w K mg base CX0 1 T.a__law_next T.d__law_next ["_law_dice_here", "_law_many"] (sp__law_next K) := by
  refine T.F__law_next.ok sc__law_next (fun vs H Q E h => len__law_next h) (fun cdv A outer s H vs Q E hr h => ⟨t__law_next K, ?_, pure__law_next h⟩)
  exact (pss_cons (ps_if (pt_cmpR op_gt (pe_ix ix_list (pv 0) pe_int (fun _ _ => rfl)) pe_int (nomark _)) (pss_cons (ps_set (i := 2) sc__law_next.nd rfl (Or.inl rfl) (pe_op op_mod (pe_ix ix_list (pv 0) pe_int (fun _ _ => rfl)) (pv 1)))
  (pss_cons (ps_asg (pe_op op_fdiv (pe_ix ix_list (pv 0) pe_int (fun _ _ => rfl)) (pv 1)) (pg_sub (pv 0) pe_int set_list))
  (pss_one (ps_ret (pv 2))))) pss_nil)
  (pss_cons (ps_asg (pe_op op_add (pe_ix ix_list (pv 0) pe_int (fun _ _ => rfl)) pe_int) (pg_sub (pv 0) pe_int set_list))
  (pss_cons (ps_if (pt_cmpR op_le (pe_ix ix_list (pv 0) pe_int (fun _ _ => rfl)) (pe_callB call_len_seq rfl T.z_len (by decide +kernel) (pa_cons (pe_ix ix_list (pv 0) pe_int (fun _ _ => rfl)) pa_nil)) (nomark _)) (pss_cons (ps_set (i := 3) sc__law_next.nd rfl (Or.inl rfl) (pe_ix ix_list (pe_ix ix_list (pv 0) pe_int (fun _ _ => rfl)) (pe_op op_sub (pe_ix ix_list (pv 0) pe_int (fun _ _ => rfl)) pe_int) (fun _ _ => rfl)))
  (pss_cons (ps_asg (pe_ifExp (pt_cmpR op_ge (pv 3) (pe_op op_pow pe_int pe_int) (nomark _)) (pe_op op_fdiv (pv 3) (pv 1)) pe_int) (pg_sub (pv 0) pe_int set_list))
  (pss_one (ps_ret (pe_op op_mod (pv 3) (pv 1)))))) pss_nil)
  (pss_cons (ps_asg (pe_op op_mod (pe_op op_mul (pe_ix ix_list (pv 0) pe_int (fun _ _ => rfl)) pe_int) pe_int) (pg_sub (pv 0) pe_int set_list))
  (pss_one (ps_ret (pe_op op_mod (pe_op op_fdiv (pe_ix ix_list (pv 0) pe_int (fun _ _ => rfl)) pe_int) (pv 1))))))))
theorem len__law_row {vs : List V} {H : Hp} {Q : VK} {E : XK} (h : sp__law_row K vs H Q E) : vs.length = 1 := by
  unfold sp__law_row at h; first | (obtain ⟨_, rfl, _⟩ := h; rfl) | (obtain ⟨_, _, rfl, _⟩ := h; rfl) | (obtain ⟨_, _, _, rfl, _⟩ := h; rfl) | (obtain ⟨_, _, _, _, rfl, _⟩ := h; rfl) | (obtain ⟨_, _, _, _, _, rfl, _⟩ := h; rfl) | (obtain ⟨_, _, _, _, _, _, rfl, _⟩ := h; rfl)
theorem ok__law_row (T : Tx K mg) : FnOk P w K mg base CX0 1 T.a__law_row T.d__law_row ["_law_number"] (sp__law_row K) := by
  refine T.F__law_row.ok sc__law_row (fun vs H Q E h => len__law_row h) (fun cdv A outer s H vs Q E hr h => ⟨t__law_row K, ?_, pure__law_row h⟩)
  exact (pss_cons (ps_set (i := 1) sc__law_row.nd rfl (Or.inl rfl) (pe_lstN pa_nil))
  (pss_cons (ps_while PassesOwn.never (pt_cmpR op_gt (pv 0) pe_int (nomark _)) (pss_cons (ps_expr (pe_bm PySem.F.plainAttrs_list PySem.F.slot_list_append PySem.F.type_list_append mt_append (pv 1) (pa_cons (pe_op op_mod (pv 0) pe_int) pa_nil)))
  (pss_one (ps_set (i := 0) sc__law_row.nd rfl (Or.inl rfl) (pe_op op_fdiv (pv 0) pe_int)))))
  (pss_cons (ps_while PassesOwn.never (pt_cmpR op_eq (pe_ix ix_list (pv 1) pe_int (fun _ _ => rfl)) pe_int (nomark _)) (pss_one (ps_expr (pe_bm PySem.F.plainAttrs_list PySem.F.slot_list_pop PySem.F.type_list_pop mt_popAt (pv 1) (pa_cons pe_int pa_nil)))))
  (pss_one (ps_ret (pe_callTy call_tupN rfl T.z_tuple (by decide +kernel) (pa_cons (pe_revLN (pv 1)) pa_nil)))))))
theorem len__law_smooth {vs : List V} {H : Hp} {Q : VK} {E : XK} (h : sp__law_smooth K vs H Q E) : vs.length = 1 := by
  unfold sp__law_smooth at h; first | (obtain ⟨_, rfl, _⟩ := h; rfl) | (obtain ⟨_, _, rfl, _⟩ := h; rfl) | (obtain ⟨_, _, _, rfl, _⟩ := h; rfl) | (obtain ⟨_, _, _, _, rfl, _⟩ := h; rfl) | (obtain ⟨_, _, _, _, _, rfl, _⟩ := h; rfl) | (obtain ⟨_, _, _, _, _, _, rfl, _⟩ := h; rfl)
theorem ok__law_smooth (T : Tx K mg) : FnOk P w K mg base CX0 2 T.a__law_smooth T.d__law_smooth ["_law_d"] (sp__law_smooth K) := by
  have G__law_next : FnOk P w K mg base CX0 1 T.a__law_next T.d__law_next ["_law_dice_here", "_law_many"] (sp__law_next K) := ok__law_next T
  refine T.F__law_smooth.ok sc__law_smooth (fun vs H Q E h => len__law_smooth h) (fun cdv A outer s H vs Q E hr h => ⟨t__law_smooth K, ?_, pure__law_smooth h⟩)
  exact (pss_cons (ps_set (i := 1) sc__law_smooth.nd rfl (Or.inl rfl) pe_int)
  (pss_cons (ps_for PassesOwn.never rfl (pi_list (pe_lstN (pa_cons pe_int (pa_cons pe_int (pa_cons pe_int pa_nil))))) (pg_name (i := 2) sc__law_smooth.nd rfl (Or.inl rfl))
  (pss_one (ps_for PassesOwn.never rfl (pi_range1 rfl T.z_range (pa_cons (pe_ix ix_list (pe_lstN (pa_cons (pe_call G__law_next (hr.mono (by decide)) rfl T.g__law_next T.F__law_next.kp T.b__law_next .nil pass0 (pa_cons (pv 0) (pa_cons pe_int pa_nil))) (pa_cons (pe_call G__law_next (hr.mono (by decide)) rfl T.g__law_next T.F__law_next.kp T.b__law_next .nil pass0 (pa_cons (pv 0) (pa_cons pe_int pa_nil))) pa_nil))) (pe_callTy call_int1 rfl T.z_int (by decide +kernel) (pa_cons (pe_cmpR op_eq (pe_call G__law_next (hr.mono (by decide)) rfl T.g__law_next T.F__law_next.kp T.b__law_next .nil pass0 (pa_cons (pv 0) (pa_cons pe_int pa_nil))) pe_int (nomark _)) pa_nil)) (fun _ _ => rfl)) pa_nil)) (pg_name (i := 3) sc__law_smooth.nd rfl (Or.inl rfl))
  (pss_one (ps_set (i := 1) sc__law_smooth.nd rfl (Or.inl rfl) (pe_op op_mulW (pv 1) (pv 2)))))))
  (pss_one (ps_ret (pv 1)))))
theorem len__law_drawn {vs : List V} {H : Hp} {Q : VK} {E : XK} (h : sp__law_drawn K vs H Q E) : vs.length = 2 := by
  unfold sp__law_drawn at h; first | (obtain ⟨_, rfl, _⟩ := h; rfl) | (obtain ⟨_, _, rfl, _⟩ := h; rfl) | (obtain ⟨_, _, _, rfl, _⟩ := h; rfl) | (obtain ⟨_, _, _, _, rfl, _⟩ := h; rfl) | (obtain ⟨_, _, _, _, _, rfl, _⟩ := h; rfl) | (obtain ⟨_, _, _, _, _, _, rfl, _⟩ := h; rfl)
theorem ok__law_drawn (T : Tx K mg) : FnOk P w K mg base CX0 3 T.a__law_drawn T.d__law_drawn ["_law_d", "_law_most"] (sp__law_drawn K) := by
  have G__law_next : FnOk P w K mg base CX0 1 T.a__law_next T.d__law_next ["_law_dice_here", "_law_many"] (sp__law_next K) := ok__law_next T
  have G__law_row : FnOk P w K mg base CX0 1 T.a__law_row T.d__law_row ["_law_number"] (sp__law_row K) := ok__law_row T
  have G__law_smooth : FnOk P w K mg base CX0 2 T.a__law_smooth T.d__law_smooth ["_law_d"] (sp__law_smooth K) := ok__law_smooth T
  refine T.F__law_drawn.ok sc__law_drawn (fun vs H Q E h => len__law_drawn h) (fun cdv A outer s H vs Q E hr h => ⟨t__law_drawn K, ?_, pure__law_drawn h⟩)
  exact (pss_cons (ps_set (i := 2) sc__law_drawn.nd rfl (Or.inl rfl) (pe_call G__law_next (hr.mono (by decide)) rfl T.g__law_next T.F__law_next.kp T.b__law_next .nil pass0 (pa_cons (pv 0) (pa_cons pe_int pa_nil))))
  (pss_cons (ps_if (pt_cmpR op_eq (pv 2) pe_int (nomark _)) (pss_one (ps_ret (pe_call G__law_row (hr.mono (by decide)) rfl T.g__law_row T.F__law_row.kp T.b__law_row .nil pass0 (pa_cons (pe_op op_add pe_int (pe_call G__law_next (hr.mono (by decide)) rfl T.g__law_next T.F__law_next.kp T.b__law_next .nil pass0 (pa_cons (pv 0) (pa_cons pe_int pa_nil)))) pa_nil)))) pss_nil)
  (pss_cons (ps_if (pt_cmpR op_lt (pv 2) pe_int (nomark _)) (pss_one (ps_set (i := 3) sc__law_drawn.nd rfl (Or.inl rfl) (pe_call G__law_row (hr.mono (by decide)) rfl T.g__law_row T.F__law_row.kp T.b__law_row .nil pass0 (pa_cons (pe_op op_mulW (pe_call G__law_smooth (hr.mono (by decide)) rfl T.g__law_smooth T.F__law_smooth.kp T.b__law_smooth .nil pass0 (pa_cons (pv 0) pa_nil)) (pe_ix ix_list (pe_lstN (pa_cons pe_int (pa_cons pe_int (pa_cons pe_int (pa_cons pe_int (pa_cons pe_int (pa_cons pe_int pa_nil))))))) (pe_call G__law_next (hr.mono (by decide)) rfl T.g__law_next T.F__law_next.kp T.b__law_next .nil pass0 (pa_cons (pv 0) (pa_cons pe_int pa_nil))) (fun _ _ => rfl))) pa_nil)))) (pss_cons (PS.imp (ps_setLc (i := 4) (own := [("_law_k", 5)]) (g := (gName 5)) (tt := tYes) rfl sc__law_drawn.nd rfl rfl (sw_true rfl rfl rfl (by decide +kernel)) (pi_range1 rfl T.z_range (PA.weak (pa_cons (pe_op op_add pe_int (pe_call G__law_next (hr.mono (by decide)) rfl T.g__law_next T.F__law_next.kp T.b__law_next .nil pass0 (pa_cons (pv 0) (pa_cons (pv 1) pa_nil)))) pa_nil))) (blkOk_by (own := [("_law_k", 5)]) (N := ["_law_d", "_law_most", "_law_kind", "_law_found", "_law_figures", "_law_k"]) (sc := defScope s__law_drawn) (by decide +kernel)) (fun _ _ _ _ _ => (pg_name (i := 5) sc__law_drawn.nd rfl (Or.inl rfl))) (fun _ _ _ _ _ => pts_nil) (fun _ _ _ _ _ => (pe_call G__law_next (hr.mono (by decide)) rfl T.g__law_next T.F__law_next.kp T.b__law_next .nil pass0 (pa_cons (pv 0) (pa_cons pe_int pa_nil))))) fun _ _ _ q => lcR_of q)
  (pss_one (ps_set (i := 3) sc__law_drawn.nd rfl (Or.inl rfl) (pe_op op_catN (pe_op op_catN (pe_tupN (pa_cons (pe_op op_add pe_int (pe_call G__law_next (hr.mono (by decide)) rfl T.g__law_next T.F__law_next.kp T.b__law_next .nil pass0 (pa_cons (pv 0) (pa_cons pe_int pa_nil)))) pa_nil)) (pe_callTy call_tupN rfl T.z_tuple (by decide +kernel) (pa_cons (pv 4) pa_nil))) (pe_tupN (pa_cons (pe_op op_add pe_int (pe_call G__law_next (hr.mono (by decide)) rfl T.g__law_next T.F__law_next.kp T.b__law_next .nil pass0 (pa_cons (pv 0) (pa_cons pe_int pa_nil)))) pa_nil)))))))
  (pss_one (ps_ret (pe_ifExp (pt_cmpR op_gt (pe_ix ix_tup (pe_slice sl_tupN (pv 3) po_none (po_some (pv 1))) (pe_un un_neg pe_int) (fun _ _ => rfl)) pe_int (nomark _)) (pe_slice sl_tupN (pv 3) po_none (po_some (pv 1))) (pe_tupN (pa_cons pe_int (pa_cons pe_int pa_nil)))))))))
theorem len__law_is_near {vs : List V} {H : Hp} {Q : VK} {E : XK} (h : sp__law_is_near K vs H Q E) : vs.length = 2 := by
  unfold sp__law_is_near at h; first | (obtain ⟨_, rfl, _⟩ := h; rfl) | (obtain ⟨_, _, rfl, _⟩ := h; rfl) | (obtain ⟨_, _, _, rfl, _⟩ := h; rfl) | (obtain ⟨_, _, _, _, rfl, _⟩ := h; rfl) | (obtain ⟨_, _, _, _, _, rfl, _⟩ := h; rfl) | (obtain ⟨_, _, _, _, _, _, rfl, _⟩ := h; rfl)
theorem ok__law_is_near (T : Tx K mg) : FnOk P w K mg base CX0 1 T.a__law_is_near T.d__law_is_near ["_law_number", "_law_found"] (sp__law_is_near K) := by
  refine T.F__law_is_near.ok sc__law_is_near (fun vs H Q E h => len__law_is_near h) (fun cdv A outer s H vs Q E hr h => ⟨t__law_is_near K, ?_, pure__law_is_near h⟩)
  exact (pss_cons (ps_set (i := 2) sc__law_is_near.nd rfl (Or.inl rfl) (pe_op op_mulW (pv 1) (pv 1)))
  (pss_cons (ps_set (i := 3) sc__law_is_near.nd rfl (Or.inl rfl) (pe_op op_mulW (pe_op op_add (pv 1) pe_int) (pe_op op_add (pv 1) pe_int)))
  (pss_cons (ps_for PassesOwn.never rfl (pi_range1 rfl T.z_range (pa_cons pe_int pa_nil)) (pg_name (i := 4) sc__law_is_near.nd rfl (Or.inl rfl))
  (pss_cons (ps_if (PW.pt (pw_and (pt_cmpR op_le (pv 2) (pv 0) (nomark _)) (pw_and1 (pt_cmpR op_lt (pv 0) (pv 3) (nomark _))))) (pss_one (ps_ret pe_bl)) pss_nil)
  (pss_one (ps_if (pt_cmpR op_lt (pv 0) (pv 2) (nomark _)) (pss_one (ps_set (i := 0) sc__law_is_near.nd rfl (Or.inl rfl) (pe_op op_mul (pv 0) pe_int))) (pss_cons (ps_set (i := 2) sc__law_is_near.nd rfl (Or.inl rfl) (pe_op op_mul (pv 2) pe_int))
  (pss_cons (ps_set (i := 3) sc__law_is_near.nd rfl (Or.inl rfl) (pe_op op_mul (pv 3) pe_int))
  (pss_one (ps_if (pt_cmpR op_lt (pv 0) (pv 2) (nomark _)) (pss_one (ps_ret pe_bl)) pss_nil))))))))
  (pss_one (ps_ret pe_bl)))))
theorem len__law_whole {vs : List V} {H : Hp} {Q : VK} {E : XK} (h : sp__law_whole K vs H Q E) : vs.length = 1 := by
  unfold sp__law_whole at h; first | (obtain ⟨_, rfl, _⟩ := h; rfl) | (obtain ⟨_, _, rfl, _⟩ := h; rfl) | (obtain ⟨_, _, _, rfl, _⟩ := h; rfl) | (obtain ⟨_, _, _, _, rfl, _⟩ := h; rfl) | (obtain ⟨_, _, _, _, _, rfl, _⟩ := h; rfl) | (obtain ⟨_, _, _, _, _, _, rfl, _⟩ := h; rfl)
theorem ok__law_whole (T : Tx K mg) : FnOk P w K mg base CX0 1 T.a__law_whole T.d__law_whole ["_law_found"] (sp__law_whole K) := by
  refine T.F__law_whole.ok sc__law_whole (fun vs H Q E h => len__law_whole h) (fun cdv A outer s H vs Q E hr h => ⟨t__law_whole K, ?_, pure__law_whole h⟩)
  exact (pss_one (ps_ret (pe_and (pe_callB call_isi rfl T.z_isinstance (by decide +kernel) (pa_cons (pv 0) (pa_cons (pe_bltn (v := .ty "int") rfl T.z_int (by decide +kernel) rfl) pa_nil))) (pe_one (pe_not (pe_callB call_isi rfl T.z_isinstance (by decide +kernel) (pa_cons (pv 0) (pa_cons (pe_bltn (v := .ty "bool") rfl T.z_bool (by decide +kernel) rfl) pa_nil))))))))
theorem len__law_whole_of {vs : List V} {H : Hp} {Q : VK} {E : XK} (h : sp__law_whole_of K vs H Q E) : vs.length = 1 := by
  unfold sp__law_whole_of at h; first | (obtain ⟨_, rfl, _⟩ := h; rfl) | (obtain ⟨_, _, rfl, _⟩ := h; rfl) | (obtain ⟨_, _, _, rfl, _⟩ := h; rfl) | (obtain ⟨_, _, _, _, rfl, _⟩ := h; rfl) | (obtain ⟨_, _, _, _, _, rfl, _⟩ := h; rfl) | (obtain ⟨_, _, _, _, _, _, rfl, _⟩ := h; rfl)
theorem ok__law_whole_of (T : Tx K mg) : FnOk P w K mg base CX0 1 T.a__law_whole_of T.d__law_whole_of ["_law_row_here"] (sp__law_whole_of K) := by
  refine T.F__law_whole_of.ok sc__law_whole_of (fun vs H Q E h => len__law_whole_of h) (fun cdv A outer s H vs Q E hr h => ⟨t__law_whole_of K, ?_, pure__law_whole_of h⟩)
  exact (pss_cons (ps_set (i := 1) sc__law_whole_of.nd rfl (Or.inl rfl) pe_int)
  (pss_cons (ps_for PassesOwn.never rfl (pi_range1 rfl T.z_range (pa_cons (pe_callB call_len_seq rfl T.z_len (by decide +kernel) (pa_cons (pv 0) pa_nil)) pa_nil)) (pg_name (i := 2) sc__law_whole_of.nd rfl (Or.inl rfl))
  (pss_one (ps_set (i := 1) sc__law_whole_of.nd rfl (Or.inl rfl) (pe_op op_add (pe_op op_mul (pv 1) pe_int) (pe_ix ix_tup (pv 0) (pv 2) (fun _ _ => rfl))))))
  (pss_one (ps_ret (pv 1)))))
theorem len_figures_of {vs : List V} {H : Hp} {Q : VK} {E : XK} (h : sp_figures_of K vs H Q E) : vs.length = 1 := by
  unfold sp_figures_of at h; first | (obtain ⟨_, rfl, _⟩ := h; rfl) | (obtain ⟨_, _, rfl, _⟩ := h; rfl) | (obtain ⟨_, _, _, rfl, _⟩ := h; rfl) | (obtain ⟨_, _, _, _, rfl, _⟩ := h; rfl) | (obtain ⟨_, _, _, _, _, rfl, _⟩ := h; rfl) | (obtain ⟨_, _, _, _, _, _, rfl, _⟩ := h; rfl)
theorem ok_figures_of (T : Tx K mg) : FnOk P w K mg base CX0 1 T.a_figures_of T.d_figures_of ["number"] (sp_figures_of K) := by
  refine T.F_figures_of.ok sc_figures_of (fun vs H Q E h => len_figures_of h) (fun cdv A outer s H vs Q E hr h => ⟨t_figures_of K, ?_, pure_figures_of h⟩)
  exact (pss_cons (ps_set (i := 1) sc_figures_of.nd rfl (Or.inl rfl) (pe_lstN pa_nil))
  (pss_cons (ps_while PassesOwn.never (pt_cmpR op_gt (pv 0) pe_int (nomark _)) (pss_cons (ps_expr (pe_bm PySem.F.plainAttrs_list PySem.F.slot_list_append PySem.F.type_list_append mt_append (pv 1) (pa_cons (pe_op op_mod (pv 0) pe_int) pa_nil)))
  (pss_one (ps_aug (i := 0) sc_figures_of.nd rfl (Or.inl rfl) pe_int (ip_of iop_fdiv)))))
  (pss_one (ps_ret (pe_tupRevN rfl rfl T.z_tuple rfl T.z_reversed (pv 1))))))
theorem len_check_row {vs : List V} {H : Hp} {Q : VK} {E : XK} (h : sp_check_row K vs H Q E) : vs.length = 1 := by
  unfold sp_check_row at h; first | (obtain ⟨_, rfl, _⟩ := h; rfl) | (obtain ⟨_, _, rfl, _⟩ := h; rfl) | (obtain ⟨_, _, _, rfl, _⟩ := h; rfl) | (obtain ⟨_, _, _, _, rfl, _⟩ := h; rfl) | (obtain ⟨_, _, _, _, _, rfl, _⟩ := h; rfl) | (obtain ⟨_, _, _, _, _, _, rfl, _⟩ := h; rfl)
theorem ok_check_row (T : Tx K mg) : FnOk P w K mg base CX0 1 T.a_check_row T.d_check_row ["row"] (sp_check_row K) := by
  refine T.F_check_row.ok sc_check_row (fun vs H Q E h => len_check_row h) (fun cdv A outer s H vs Q E hr h => ⟨t_check_row K, ?_, pure_check_row h⟩)
  exact (pss_cons (ps_if (pt_not (pt_chain op_le op_le pe_int (pe_callB call_len_seq rfl T.z_len (by decide +kernel) (pa_cons (pv 0) pa_nil)) (pe_glob rfl (T.c_MOST_FIGURES).choose_spec ⟨_, rfl⟩))) (pss_one ps_never) pss_nil)
  (pss_cons (ps_if (PW.pt (pw_or (pt_cmpR op_lt (pe_callB (cr_minT rfl) rfl T.z_min (by decide +kernel) (pa_cons (pv 0) pa_nil)) pe_int (nomark _)) (pw_or1 (pt_cmpR op_gt (pe_callB (cr_maxT rfl) rfl T.z_max (by decide +kernel) (pa_cons (pv 0) pa_nil)) pe_int (nomark _))))) (pss_one ps_never) pss_nil)
  (pss_one (ps_if (PW.pt (pw_or (pt_cmpR op_eq (pe_ix ix_tup (pv 0) pe_int (fun _ _ => rfl)) pe_int (nomark _)) (pw_or1 (pt_cmpR op_eq (pe_ix ix_tup (pv 0) (pe_un un_neg pe_int) (fun _ _ => rfl)) pe_int (nomark _))))) (pss_one ps_never) pss_nil))))
theorem len_whole_of {vs : List V} {H : Hp} {Q : VK} {E : XK} (h : sp_whole_of K vs H Q E) : vs.length = 1 := by
  unfold sp_whole_of at h; first | (obtain ⟨_, rfl, _⟩ := h; rfl) | (obtain ⟨_, _, rfl, _⟩ := h; rfl) | (obtain ⟨_, _, _, rfl, _⟩ := h; rfl) | (obtain ⟨_, _, _, _, rfl, _⟩ := h; rfl) | (obtain ⟨_, _, _, _, _, rfl, _⟩ := h; rfl) | (obtain ⟨_, _, _, _, _, _, rfl, _⟩ := h; rfl)
theorem ok_whole_of (T : Tx K mg) : FnOk P w K mg base CX0 2 T.a_whole_of T.d_whole_of ["row"] (sp_whole_of K) := by
  have G_check_row : FnOk P w K mg base CX0 1 T.a_check_row T.d_check_row ["row"] (sp_check_row K) := ok_check_row T
  refine T.F_whole_of.ok sc_whole_of (fun vs H Q E h => len_whole_of h) (fun cdv A outer s H vs Q E hr h => ⟨t_whole_of K, ?_, pure_whole_of h⟩)
  exact (pss_cons (ps_expr (pe_call G_check_row (hr.mono (by decide)) rfl T.g_check_row T.F_check_row.kp T.b_check_row .nil pass0 (pa_cons (pv 0) pa_nil)))
  (pss_cons (ps_set (i := 1) sc_whole_of.nd rfl (Or.inl rfl) pe_int)
  (pss_cons (ps_for PassesOwn.never rfl (pi_tup (pv 0)) (pg_name (i := 2) sc_whole_of.nd rfl (Or.inl rfl))
  (pss_one (ps_set (i := 1) sc_whole_of.nd rfl (Or.inl rfl) (pe_op op_add (pe_op op_mul (pv 1) pe_int) (pv 2)))))
  (pss_one (ps_ret (pv 1))))))
theorem len_near_side {vs : List V} {H : Hp} {Q : VK} {E : XK} (h : sp_near_side K vs H Q E) : vs.length = 3 := by
  unfold sp_near_side at h; first | (obtain ⟨_, rfl, _⟩ := h; rfl) | (obtain ⟨_, _, rfl, _⟩ := h; rfl) | (obtain ⟨_, _, _, rfl, _⟩ := h; rfl) | (obtain ⟨_, _, _, _, rfl, _⟩ := h; rfl) | (obtain ⟨_, _, _, _, _, rfl, _⟩ := h; rfl) | (obtain ⟨_, _, _, _, _, _, rfl, _⟩ := h; rfl)
theorem ok_near_side (T : Tx K mg) : FnOk P w K mg base CX0 3 T.a_near_side T.d_near_side ["row", "is_odd", "places"] (sp_near_side K) := by
  have G_figures_of : FnOk P w K mg base CX0 1 T.a_figures_of T.d_figures_of ["number"] (sp_figures_of K) := ok_figures_of T
  have G_whole_of : FnOk P w K mg base CX0 2 T.a_whole_of T.d_whole_of ["row"] (sp_whole_of K) := ok_whole_of T
  refine T.F_near_side.ok sc_near_side (fun vs H Q E h => len_near_side h) (fun cdv A outer s H vs Q E hr h => ⟨t_near_side K, ?_, pure_near_side h⟩)
  exact (pss_cons (ps_set (i := 3) sc_near_side.nd rfl (Or.inl rfl) (pe_call G_whole_of (hr.mono (by decide)) rfl T.g_whole_of T.F_whole_of.kp T.b_whole_of .nil pass0 (pa_cons (pv 0) pa_nil)))
  (pss_cons (ps_if (pt_val (pv 1)) (pss_one (ps_aug (i := 3) sc_near_side.nd rfl (Or.inl rfl) pe_int (ip_of iop_mul))) pss_nil)
  (pss_cons (ps_for PassesOwn.never rfl (pi_range1 rfl T.z_range (pa_cons (pv 2) pa_nil)) (pg_name (i := 4) sc_near_side.nd rfl (Or.inl rfl))
  (pss_one (ps_aug (i := 3) sc_near_side.nd rfl (Or.inl rfl) pe_int (ip_of iop_mul))))
  (pss_one (ps_ret (pe_slice sl_tupN (pe_call G_figures_of (hr.mono (by decide)) rfl T.g_figures_of T.F_figures_of.kp T.b_figures_of .nil pass0 (pa_cons (pe_callBfun cr_isqrt rfl T.m_isqrt (pa_cons (pv 3) pa_nil)) pa_nil)) po_none (po_some (pv 2))))))))
theorem len_law {vs : List V} {H : Hp} {Q : VK} {E : XK} (h : sp_law K vs H Q E) : vs.length = 1 := by
  unfold sp_law at h; first | (obtain ⟨_, rfl, _⟩ := h; rfl) | (obtain ⟨_, _, rfl, _⟩ := h; rfl) | (obtain ⟨_, _, _, rfl, _⟩ := h; rfl) | (obtain ⟨_, _, _, _, rfl, _⟩ := h; rfl) | (obtain ⟨_, _, _, _, _, rfl, _⟩ := h; rfl) | (obtain ⟨_, _, _, _, _, _, rfl, _⟩ := h; rfl)
theorem ok_law (T : Tx K mg) : FnOk P w K mg base CX0 4 T.a_law T.d_law ["_law_script"] (sp_law K) := by
  have G__law_dice : FnOk P w K mg base CX0 1 T.a__law_dice T.d__law_dice ["_law_script"] (sp__law_dice K) := ok__law_dice T
  have G__law_drawn : FnOk P w K mg base CX0 3 T.a__law_drawn T.d__law_drawn ["_law_d", "_law_most"] (sp__law_drawn K) := ok__law_drawn T
  have G__law_is_near : FnOk P w K mg base CX0 1 T.a__law_is_near T.d__law_is_near ["_law_number", "_law_found"] (sp__law_is_near K) := ok__law_is_near T
  have G__law_next : FnOk P w K mg base CX0 1 T.a__law_next T.d__law_next ["_law_dice_here", "_law_many"] (sp__law_next K) := ok__law_next T
  have G__law_whole : FnOk P w K mg base CX0 1 T.a__law_whole T.d__law_whole ["_law_found"] (sp__law_whole K) := ok__law_whole T
  have G__law_whole_of : FnOk P w K mg base CX0 1 T.a__law_whole_of T.d__law_whole_of ["_law_row_here"] (sp__law_whole_of K) := ok__law_whole_of T
  have G_near_side : FnOk P w K mg base CX0 3 T.a_near_side T.d_near_side ["row", "is_odd", "places"] (sp_near_side K) := ok_near_side T
  refine T.F_law.ok sc_law (fun vs H Q E h => len_law h) (fun cdv A outer s H vs Q E hr h => ⟨t_law K, ?_, pure_law h⟩)
  exact (pss_cons (ps_set (i := 1) sc_law.nd rfl (Or.inl rfl) (pe_call G__law_dice (hr.mono (by decide)) rfl T.g__law_dice T.F__law_dice.kp T.b__law_dice .nil pass0 (pa_cons (pv 0) pa_nil)))
  (pss_cons (ps_set (i := 2) sc_law.nd rfl (Or.inl rfl) (pe_call G__law_drawn (hr.mono (by decide)) rfl T.g__law_drawn T.F__law_drawn.kp T.b__law_drawn .nil pass0 (pa_cons (pv 1) (pa_cons pe_int pa_nil))))
  (pss_cons (ps_set (i := 3) sc_law.nd rfl (Or.inl rfl) (pe_op op_add pe_int (pe_call G__law_next (hr.mono (by decide)) rfl T.g__law_next T.F__law_next.kp T.b__law_next .nil pass0 (pa_cons (pv 1) (pa_cons pe_int pa_nil)))))
  (pss_cons (ps_for PassesOwn.never rfl (pi_list (pe_lstN (pa_cons pe_bl (pa_cons pe_bl pa_nil)))) (pg_name (i := 4) sc_law.nd rfl (Or.inl rfl))
  (pss_cons (ps_set (i := 5) sc_law.nd rfl (Or.inl rfl) (pe_call G_near_side (hr.mono (by decide)) rfl T.g_near_side T.F_near_side.kp T.b_near_side .nil pass0 (pa_cons (pv 2) (pa_cons (pv 4) (pa_cons (pv 3) pa_nil)))))
  (pss_cons (ps_if (PW.pt (pw_or (pt_not (pt_val (pe_callB call_isi rfl T.z_isinstance (by decide +kernel) (pa_cons (pv 5) (pa_cons (pe_bltn (v := .ty "tuple") rfl T.z_tuple (by decide +kernel) rfl) pa_nil))))) (pw_or (pt_cmpR op_ne (pe_callB call_len_seq rfl T.z_len (by decide +kernel) (pa_cons (pv 5) pa_nil)) (pv 3) (nomark _)) (pw_or1 (pt_cmpR op_eq (pe_ix ix_tup (pv 5) pe_int (fun _ _ => rfl)) pe_int (nomark _)))))) (pss_one (ps_ret pe_bl)) pss_nil)
  (pss_cons (ps_if (pt_cmpR (op_neD (hu64 hr)) (PE.imp (pe_lc (own := [("_law_figure", 6)]) (g := (gName 6)) (tt := (tOr (tNot (tB (tCall (sp__law_whole K) [] E0 (tCons (tVar 6) tNil)))) (tNot (tTest (tChain rLe rLt (tC (natV 0)) (tVar 6) (tC (natV 60))))))) rfl sc_law.nd (pi_tup (PE.weak (pv 5))) (blkOk_by (own := [("_law_figure", 6)]) (N := ["_law_script", "_law_d", "_law_row_here", "_law_places", "_law_is_odd", "_law_found", "_law_figure"]) (sc := defScope s_law) (by decide +kernel)) (fun _ _ _ _ _ => (pg_name (i := 6) sc_law.nd rfl (Or.inl rfl))) (fun _ _ _ _ _ => (pts_one (PW.pt (pw_or (pt_not (pt_val (pe_call G__law_whole (hr.mono (by decide)) rfl T.g__law_whole T.F__law_whole.kp T.b__law_whole .nil pass0 (pa_cons (pv 6) pa_nil)))) (pw_or1 (pt_not (pt_chain op_le op_lt pe_int (pv 6) pe_int))))))) (fun _ _ _ _ _ => (pv 6))) fun _ _ _ q => lcT_of q) (pe_lstN pa_nil) (nomark _)) (pss_one (ps_ret pe_bl)) pss_nil)
  (pss_one (ps_if (pt_not (pt_val (pe_call G__law_is_near (hr.mono (by decide)) rfl T.g__law_is_near T.F__law_is_near.kp T.b__law_is_near .nil pass0 (pa_cons (pe_op op_mulW (pe_call G__law_whole_of (hr.mono (by decide)) rfl T.g__law_whole_of T.F__law_whole_of.kp T.b__law_whole_of .nil pass0 (pa_cons (pv 2) pa_nil)) (pe_ix ix_list (pe_lstN (pa_cons pe_int (pa_cons pe_int pa_nil))) (pe_callTy call_int1 rfl T.z_int (by decide +kernel) (pa_cons (pv 4) pa_nil)) (fun _ _ => rfl))) (pa_cons (pe_call G__law_whole_of (hr.mono (by decide)) rfl T.g__law_whole_of T.F__law_whole_of.kp T.b__law_whole_of .nil pass0 (pa_cons (pv 5) pa_nil)) pa_nil))))) (pss_one (ps_ret pe_bl)) pss_nil))))))
  (pss_one (ps_ret (pe_and (pe_cmpR (op_eqD (hu64 hr)) (pe_call G_near_side (hr.mono (by decide)) rfl T.g_near_side T.F_near_side.kp T.b_near_side .nil pass0 (pa_cons (pe_tupN (pa_cons pe_int pa_nil)) (pa_cons pe_bl (pa_cons pe_int pa_nil)))) (pe_tupN (pa_cons pe_int (pa_cons pe_int (pa_cons pe_int pa_nil)))) (nomark _)) (pe_one (pe_cmpR (op_eqD (hu64 hr)) (pe_call G_near_side (hr.mono (by decide)) rfl T.g_near_side T.F_near_side.kp T.b_near_side .nil pass0 (pa_cons (pe_tupN (pa_cons pe_int pa_nil)) (pa_cons pe_bl (pa_cons pe_int pa_nil)))) (pe_tupN (pa_cons pe_int (pa_cons pe_int (pa_cons pe_int (pa_cons pe_int pa_nil))))) (nomark _))))))))))
end
theorem all_mk {l : PySem.W.OpenLaw} {w : World} {K : PySem.W.Frag} {h : Heap} {mg : Str → Option Value} {fa : Addr} (X : K.In h) (G : h.Ns mainGlobals mg) (hfa : mg "law" = some (.ref fa))
    {od0 an0 : Option Addr} {sl0 : Array (Option Value)} {oc0 kV0 dc0 pm0 cd0 ct0 : Value} {f0 : Addr} {od1 an1 : Option Addr} {sl1 : Array (Option Value)} {oc1 kV1 dc1 pm1 cd1 ct1 : Value} {f1 : Addr} {od2 an2 : Option Addr} {sl2 : Array (Option Value)} {oc2 kV2 dc2 pm2 cd2 ct2 : Value} {f2 : Addr} {od3 an3 : Option Addr} {sl3 : Array (Option Value)} {oc3 kV3 dc3 pm3 cd3 ct3 : Value} {f3 : Addr} {od4 an4 : Option Addr} {sl4 : Array (Option Value)} {oc4 kV4 dc4 pm4 cd4 ct4 : Value} {f4 : Addr} {od5 an5 : Option Addr} {sl5 : Array (Option Value)} {oc5 kV5 dc5 pm5 cd5 ct5 : Value} {f5 : Addr} {od6 an6 : Option Addr} {sl6 : Array (Option Value)} {oc6 kV6 dc6 pm6 cd6 ct6 : Value} {f6 : Addr} {od7 an7 : Option Addr} {sl7 : Array (Option Value)} {oc7 kV7 dc7 pm7 cd7 ct7 : Value} {f7 : Addr} {od8 an8 : Option Addr} {sl8 : Array (Option Value)} {oc8 kV8 dc8 pm8 cd8 ct8 : Value} {f8 : Addr} {od9 an9 : Option Addr} {sl9 : Array (Option Value)} {oc9 kV9 dc9 pm9 cd9 ct9 : Value} {f9 : Addr} {od10 an10 : Option Addr} {sl10 : Array (Option Value)} {oc10 kV10 dc10 pm10 cd10 ct10 : Value} {f10 : Addr} {od11 an11 : Option Addr} {sl11 : Array (Option Value)} {oc11 kV11 dc11 pm11 cd11 ct11 : Value} {f11 : Addr} {od12 an12 : Option Addr} {sl12 : Array (Option Value)} {oc12 kV12 dc12 pm12 cd12 ct12 : Value} {f12 : Addr} {t_MOST_FIGURES : Tok}
    (a0 : PySem.W.nsIn K mainGlobals "_law_dice" = some (some (.ref f0))) (l0 : K.lookup f0 = some ⟨oc0, od0, .func (PySem.W.fnOf "_law_dice" "_law_dice" (defArgs s__law_dice) (defBody s__law_dice) (defScope s__law_dice) .none kV0 dc0 pm0 an0 cd0 ct0), sl0⟩) (c0 : PySem.W.codeIn K cd0 "_law_dice" = true) (k0 : PySem.W.keepIn K (.ref f0) = true)
    (a1 : PySem.W.nsIn K mainGlobals "_law_next" = some (some (.ref f1))) (l1 : K.lookup f1 = some ⟨oc1, od1, .func (PySem.W.fnOf "_law_next" "_law_next" (defArgs s__law_next) (defBody s__law_next) (defScope s__law_next) .none kV1 dc1 pm1 an1 cd1 ct1), sl1⟩) (c1 : PySem.W.codeIn K cd1 "_law_next" = true) (k1 : PySem.W.keepIn K (.ref f1) = true)
    (a2 : PySem.W.nsIn K mainGlobals "_law_row" = some (some (.ref f2))) (l2 : K.lookup f2 = some ⟨oc2, od2, .func (PySem.W.fnOf "_law_row" "_law_row" (defArgs s__law_row) (defBody s__law_row) (defScope s__law_row) .none kV2 dc2 pm2 an2 cd2 ct2), sl2⟩) (c2 : PySem.W.codeIn K cd2 "_law_row" = true) (k2 : PySem.W.keepIn K (.ref f2) = true)
    (a3 : PySem.W.nsIn K mainGlobals "_law_smooth" = some (some (.ref f3))) (l3 : K.lookup f3 = some ⟨oc3, od3, .func (PySem.W.fnOf "_law_smooth" "_law_smooth" (defArgs s__law_smooth) (defBody s__law_smooth) (defScope s__law_smooth) .none kV3 dc3 pm3 an3 cd3 ct3), sl3⟩) (c3 : PySem.W.codeIn K cd3 "_law_smooth" = true) (k3 : PySem.W.keepIn K (.ref f3) = true)
    (a4 : PySem.W.nsIn K mainGlobals "_law_drawn" = some (some (.ref f4))) (l4 : K.lookup f4 = some ⟨oc4, od4, .func (PySem.W.fnOf "_law_drawn" "_law_drawn" (defArgs s__law_drawn) (defBody s__law_drawn) (defScope s__law_drawn) .none kV4 dc4 pm4 an4 cd4 ct4), sl4⟩) (c4 : PySem.W.codeIn K cd4 "_law_drawn" = true) (k4 : PySem.W.keepIn K (.ref f4) = true)
    (a5 : PySem.W.nsIn K mainGlobals "_law_is_near" = some (some (.ref f5))) (l5 : K.lookup f5 = some ⟨oc5, od5, .func (PySem.W.fnOf "_law_is_near" "_law_is_near" (defArgs s__law_is_near) (defBody s__law_is_near) (defScope s__law_is_near) .none kV5 dc5 pm5 an5 cd5 ct5), sl5⟩) (c5 : PySem.W.codeIn K cd5 "_law_is_near" = true) (k5 : PySem.W.keepIn K (.ref f5) = true)
    (a6 : PySem.W.nsIn K mainGlobals "_law_whole" = some (some (.ref f6))) (l6 : K.lookup f6 = some ⟨oc6, od6, .func (PySem.W.fnOf "_law_whole" "_law_whole" (defArgs s__law_whole) (defBody s__law_whole) (defScope s__law_whole) .none kV6 dc6 pm6 an6 cd6 ct6), sl6⟩) (c6 : PySem.W.codeIn K cd6 "_law_whole" = true) (k6 : PySem.W.keepIn K (.ref f6) = true)
    (a7 : PySem.W.nsIn K mainGlobals "_law_whole_of" = some (some (.ref f7))) (l7 : K.lookup f7 = some ⟨oc7, od7, .func (PySem.W.fnOf "_law_whole_of" "_law_whole_of" (defArgs s__law_whole_of) (defBody s__law_whole_of) (defScope s__law_whole_of) .none kV7 dc7 pm7 an7 cd7 ct7), sl7⟩) (c7 : PySem.W.codeIn K cd7 "_law_whole_of" = true) (k7 : PySem.W.keepIn K (.ref f7) = true)
    (a8 : PySem.W.nsIn K mainGlobals "figures_of" = some (some (.ref f8))) (l8 : K.lookup f8 = some ⟨oc8, od8, .func (PySem.W.fnOf "figures_of" "figures_of" (defArgs s_figures_of) (defBody s_figures_of) (defScope s_figures_of) .none kV8 dc8 pm8 an8 cd8 ct8), sl8⟩) (c8 : PySem.W.codeIn K cd8 "figures_of" = true) (k8 : PySem.W.keepIn K (.ref f8) = true)
    (a9 : PySem.W.nsIn K mainGlobals "check_row" = some (some (.ref f9))) (l9 : K.lookup f9 = some ⟨oc9, od9, .func (PySem.W.fnOf "check_row" "check_row" (defArgs s_check_row) (defBody s_check_row) (defScope s_check_row) .none kV9 dc9 pm9 an9 cd9 ct9), sl9⟩) (c9 : PySem.W.codeIn K cd9 "check_row" = true) (k9 : PySem.W.keepIn K (.ref f9) = true)
    (a10 : PySem.W.nsIn K mainGlobals "whole_of" = some (some (.ref f10))) (l10 : K.lookup f10 = some ⟨oc10, od10, .func (PySem.W.fnOf "whole_of" "whole_of" (defArgs s_whole_of) (defBody s_whole_of) (defScope s_whole_of) .none kV10 dc10 pm10 an10 cd10 ct10), sl10⟩) (c10 : PySem.W.codeIn K cd10 "whole_of" = true) (k10 : PySem.W.keepIn K (.ref f10) = true)
    (a11 : PySem.W.nsIn K mainGlobals "near_side" = some (some (.ref f11))) (l11 : K.lookup f11 = some ⟨oc11, od11, .func (PySem.W.fnOf "near_side" "near_side" (defArgs s_near_side) (defBody s_near_side) (defScope s_near_side) .none kV11 dc11 pm11 an11 cd11 ct11), sl11⟩) (c11 : PySem.W.codeIn K cd11 "near_side" = true) (k11 : PySem.W.keepIn K (.ref f11) = true)
    (a12 : PySem.W.nsIn K mainGlobals "law" = some (some (.ref f12))) (l12 : K.lookup f12 = some ⟨oc12, od12, .func (PySem.W.fnOf "law" "law" (defArgs s_law) (defBody s_law) (defScope s_law) .none kV12 dc12 pm12 an12 cd12 ct12), sl12⟩) (c12 : PySem.W.codeIn K cd12 "law" = true) (k12 : PySem.W.keepIn K (.ref f12) = true)
    (m_isqrt : PySem.W.nsIn K mainGlobals "isqrt" = some (some (.builtin "math.isqrt")))
    (z_bool : PySem.W.nsIn K mainGlobals "bool" = some none)
    (z_int : PySem.W.nsIn K mainGlobals "int" = some none)
    (z_isinstance : PySem.W.nsIn K mainGlobals "isinstance" = some none)
    (z_len : PySem.W.nsIn K mainGlobals "len" = some none)
    (z_max : PySem.W.nsIn K mainGlobals "max" = some none)
    (z_min : PySem.W.nsIn K mainGlobals "min" = some none)
    (z_range : PySem.W.nsIn K mainGlobals "range" = some none)
    (z_reversed : PySem.W.nsIn K mainGlobals "reversed" = some none)
    (z_tuple : PySem.W.nsIn K mainGlobals "tuple" = some none)
    (c_MOST_FIGURES : PySem.W.nsIn K mainGlobals "MOST_FIGURES" = some (some (.int 12 t_MOST_FIGURES))) :
    ∃ fd : FuncData, (∀ (s : Shared) (v : Value), BindsTo s fd ⟨[v], []⟩ [("_law_script", v)]) ∧ ∀ base : Heap, K.In base → base.Ns mainGlobals mg → FnOk l.prog w K mg base CX0 4 fa fd ["_law_script"] (sp_law K) := by
  have e := hfa.symm.trans (PySem.W.mg_of X G a12)
  cases e
  have F0 := fun_mk (st := s__law_dice) l0 c0 k0
  have F1 := fun_mk (st := s__law_next) l1 c1 k1
  have F2 := fun_mk (st := s__law_row) l2 c2 k2
  have F3 := fun_mk (st := s__law_smooth) l3 c3 k3
  have F4 := fun_mk (st := s__law_drawn) l4 c4 k4
  have F5 := fun_mk (st := s__law_is_near) l5 c5 k5
  have F6 := fun_mk (st := s__law_whole) l6 c6 k6
  have F7 := fun_mk (st := s__law_whole_of) l7 c7 k7
  have F8 := fun_mk (st := s_figures_of) l8 c8 k8
  have F9 := fun_mk (st := s_check_row) l9 c9 k9
  have F10 := fun_mk (st := s_whole_of) l10 c10 k10
  have F11 := fun_mk (st := s_near_side) l11 c11 k11
  have F12 := fun_mk (st := s_law) l12 c12 k12
  let T : Tx K mg := {
    a__law_dice := f0,
    d__law_dice := _,
    F__law_dice := F0,
    g__law_dice := PySem.W.mg_of X G a0,
    b__law_dice := F0.binds (ps := ["_law_script"]) (fun _ _ _ _ _ _ us hl => match us, hl with | [_], _ => rfl),
    a__law_next := f1,
    d__law_next := _,
    F__law_next := F1,
    g__law_next := PySem.W.mg_of X G a1,
    b__law_next := F1.binds (ps := ["_law_dice_here", "_law_many"]) (fun _ _ _ _ _ _ us hl => match us, hl with | [_, _], _ => rfl),
    a__law_row := f2,
    d__law_row := _,
    F__law_row := F2,
    g__law_row := PySem.W.mg_of X G a2,
    b__law_row := F2.binds (ps := ["_law_number"]) (fun _ _ _ _ _ _ us hl => match us, hl with | [_], _ => rfl),
    a__law_smooth := f3,
    d__law_smooth := _,
    F__law_smooth := F3,
    g__law_smooth := PySem.W.mg_of X G a3,
    b__law_smooth := F3.binds (ps := ["_law_d"]) (fun _ _ _ _ _ _ us hl => match us, hl with | [_], _ => rfl),
    a__law_drawn := f4,
    d__law_drawn := _,
    F__law_drawn := F4,
    g__law_drawn := PySem.W.mg_of X G a4,
    b__law_drawn := F4.binds (ps := ["_law_d", "_law_most"]) (fun _ _ _ _ _ _ us hl => match us, hl with | [_, _], _ => rfl),
    a__law_is_near := f5,
    d__law_is_near := _,
    F__law_is_near := F5,
    g__law_is_near := PySem.W.mg_of X G a5,
    b__law_is_near := F5.binds (ps := ["_law_number", "_law_found"]) (fun _ _ _ _ _ _ us hl => match us, hl with | [_, _], _ => rfl),
    a__law_whole := f6,
    d__law_whole := _,
    F__law_whole := F6,
    g__law_whole := PySem.W.mg_of X G a6,
    b__law_whole := F6.binds (ps := ["_law_found"]) (fun _ _ _ _ _ _ us hl => match us, hl with | [_], _ => rfl),
    a__law_whole_of := f7,
    d__law_whole_of := _,
    F__law_whole_of := F7,
    g__law_whole_of := PySem.W.mg_of X G a7,
    b__law_whole_of := F7.binds (ps := ["_law_row_here"]) (fun _ _ _ _ _ _ us hl => match us, hl with | [_], _ => rfl),
    a_figures_of := f8,
    d_figures_of := _,
    F_figures_of := F8,
    g_figures_of := PySem.W.mg_of X G a8,
    b_figures_of := F8.binds (ps := ["number"]) (fun _ _ _ _ _ _ us hl => match us, hl with | [_], _ => rfl),
    a_check_row := f9,
    d_check_row := _,
    F_check_row := F9,
    g_check_row := PySem.W.mg_of X G a9,
    b_check_row := F9.binds (ps := ["row"]) (fun _ _ _ _ _ _ us hl => match us, hl with | [_], _ => rfl),
    a_whole_of := f10,
    d_whole_of := _,
    F_whole_of := F10,
    g_whole_of := PySem.W.mg_of X G a10,
    b_whole_of := F10.binds (ps := ["row"]) (fun _ _ _ _ _ _ us hl => match us, hl with | [_], _ => rfl),
    a_near_side := f11,
    d_near_side := _,
    F_near_side := F11,
    g_near_side := PySem.W.mg_of X G a11,
    b_near_side := F11.binds (ps := ["row", "is_odd", "places"]) (fun _ _ _ _ _ _ us hl => match us, hl with | [_, _, _], _ => rfl),
    a_law := fa,
    d_law := _,
    F_law := F12,
    g_law := PySem.W.mg_of X G a12,
    b_law := F12.binds (ps := ["_law_script"]) (fun _ _ _ _ _ _ us hl => match us, hl with | [_], _ => rfl),
    z_bool := PySem.W.mg_none_of X G z_bool,
    z_int := PySem.W.mg_none_of X G z_int,
    z_isinstance := PySem.W.mg_none_of X G z_isinstance,
    z_len := PySem.W.mg_none_of X G z_len,
    z_max := PySem.W.mg_none_of X G z_max,
    z_min := PySem.W.mg_none_of X G z_min,
    z_range := PySem.W.mg_none_of X G z_range,
    z_reversed := PySem.W.mg_none_of X G z_reversed,
    z_tuple := PySem.W.mg_none_of X G z_tuple,
    m_isqrt := PySem.W.mg_of X G m_isqrt,
    c_MOST_FIGURES := ⟨_, PySem.W.mg_of X G c_MOST_FIGURES⟩ }
  exact ⟨PySem.W.fnOf "law" "law" (defArgs s_law) (defBody s_law) (defScope s_law) .none kV12 dc12 pm12 an12 cd12 ct12, fun s v => .of_eq rfl, fun base _ _ => ok_law T⟩
end Sx
open PySem PySem.W PyProof.Rows
set_option maxRecDepth 100000 in
set_option maxHeartbeats 0 in
theorem PySem.Challenge.cw_sixtyfold_k06_whole_near_sides_holds : PySem.Challenge.rw_sixtyfold_k06_whole_near_sides.Holds := by
  w_on; o_law; k_head; (case hw => w_witness2)
  k_fill
  refine L2.walk_of (l := PySem.Challenge.rw_sixtyfold_k06_whole_near_sides) (n := 63) (k := 4) (x := "_law_script") (CX := fun _ => L2.CX0) (sp := fun w => Sx.sp_law _) rfl (by decide) rfl ⟨rfl, by decide, by decide⟩ (fun w h Y => PySem.W.kIn_of Y) ?F (fun _ _ a ns hl _ hS => ⟨a, ns, rfl, hS, hl, fun _ => rfl⟩) (fun _ _ _ _ _ h => h)
  case F =>
    intro w mg fa h KX G hmg
    refine' Sx.all_mk KX G hmg ?a0 ?l0 ?c0 ?k0 ?a1 ?l1 ?c1 ?k1 ?a2 ?l2 ?c2 ?k2 ?a3 ?l3 ?c3 ?k3 ?a4 ?l4 ?c4 ?k4 ?a5 ?l5 ?c5 ?k5 ?a6 ?l6 ?c6 ?k6 ?a7 ?l7 ?c7 ?k7 ?a8 ?l8 ?c8 ?k8 ?a9 ?l9 ?c9 ?k9 ?a10 ?l10 ?c10 ?k10 ?a11 ?l11 ?c11 ?k11 ?a12 ?l12 ?c12 ?k12 ?m_isqrt ?z_bool ?z_int ?z_isinstance ?z_len ?z_max ?z_min ?z_range ?z_reversed ?z_tuple ?c_MOST_FIGURES
    (case a0 => k_is)
    (case l0 => k_is)
    (case c0 => k_is)
    (case k0 => k_is)
    (case a1 => k_is)
    (case l1 => k_is)
    (case c1 => k_is)
    (case k1 => k_is)
    (case a2 => k_is)
    (case l2 => k_is)
    (case c2 => k_is)
    (case k2 => k_is)
    (case a3 => k_is)
    (case l3 => k_is)
    (case c3 => k_is)
    (case k3 => k_is)
    (case a4 => k_is)
    (case l4 => k_is)
    (case c4 => k_is)
    (case k4 => k_is)
    (case a5 => k_is)
    (case l5 => k_is)
    (case c5 => k_is)
    (case k5 => k_is)
    (case a6 => k_is)
    (case l6 => k_is)
    (case c6 => k_is)
    (case k6 => k_is)
    (case a7 => k_is)
    (case l7 => k_is)
    (case c7 => k_is)
    (case k7 => k_is)
    (case a8 => k_is)
    (case l8 => k_is)
    (case c8 => k_is)
    (case k8 => k_is)
    (case a9 => k_is)
    (case l9 => k_is)
    (case c9 => k_is)
    (case k9 => k_is)
    (case a10 => k_is)
    (case l10 => k_is)
    (case c10 => k_is)
    (case k10 => k_is)
    (case a11 => k_is)
    (case l11 => k_is)
    (case c11 => k_is)
    (case k11 => k_is)
    (case a12 => k_is)
    (case l12 => k_is)
    (case c12 => k_is)
    (case k12 => k_is)
    (case m_isqrt => k_is)
    (case z_bool => k_is)
    (case z_int => k_is)
    (case z_isinstance => k_is)
    (case z_len => k_is)
    (case z_max => k_is)
    (case z_min => k_is)
    (case z_range => k_is)
    (case z_reversed => k_is)
    (case z_tuple => k_is)
    (case c_MOST_FIGURES => k_is)

