import PyProof.Rows.All
import Wide.All
import OpenK.AllK
import Wide.FinOn
import HandS.ForMost
import HandS.Wide
import HandS.Rev
import HandS.Style
import HandS.TupAny
import HandS.IsInst
import HandS.Flow
import KE.KTupSum
import KE.DataMinMax
import HandS.Steps
import HandS.Dict
import HandS.SetBool
import HandS.Lambda
import HandS.Walk
import KE.KExcSuper
import HandS.Exc
import HandS.ExcField
import HandS.ExcSuper
import HandS.TryMany
import HandS.Gcd
import HandS.WideMore
import HandS.Words
import HandS.EndTab
import KE.KNest
import HandS.Codes
import HandS.Deep
import Flt.RightSqrt
import HandS.WideBits
import HandS.Zip
import HandS.ExcOwn
import HandS.WordsExc
import HandS.Conv
import HandS.DictComp
import HandS.Iter
import PyProof.ExcBaseAll.ValueError
import HandS.Text
import HandS.TryOnly
import HandS.List
import KE.KRevSl
import HandS.More
import HandS.CallLocal
import HandS.TupMul
import KE.GoesMore
import KE.GoesZip
import KE.GoesEnum
import KE.KDictZip
import KE.SortData
import KE.DatumOrd
import HandS.SortInts
import PyProof.P3Eq
import PySem.Challenge.RW_sixtyfold_k09_tables_and_faults
set_option Elab.async false
set_option linter.all false
set_option maxRecDepth 100000
set_option maxHeartbeats 4000000
section
namespace L2
open PySem PySem.Spec PyProof.Rows
/-! ### min, max, sum of a tuple of whole numbers: the walk of a tuple in the place of a list's -/
section
variable {prog : Program} {w : World} {A : Around} {E : Value → Shared → Prop} {s : Shared} {l : Addr}
/-- the walk over a tuple of ints as min and max ask for it: where its iterator stands, and that what stood stands behind it -/
theorem tup_walk {xs : Array (Int × Tok)} (hh : A.handled = none) (hl : s.heap.IsTuple l (intItems xs)) {R : Value → Shared → Prop}
    (k : ∀ s₂ : Shared, s₂ = { s with heap := s.heap.push { cls := .type "tuple_iterator", data := .fields #[.ref l, .int 0 0] } } → Walks prog w A s.heap.objs.size [s.heap.objs.size, l] [s.heap.objs.size] (intItems xs).size (fun i v => (intItems xs)[i]? = some v) (fun i h => h.IsTupleIter s.heap.objs.size l i ∧ h.IsTuple l (intItems xs)) →
      (s₂.heap.IsTupleIter s.heap.objs.size l 0 ∧ s₂.heap.IsTuple l (intItems xs)) → (∀ b ∈ [s.heap.objs.size, l], b < s₂.heap.objs.size) → (∀ (h' : Heap), (∀ b o, b ∉ [s.heap.objs.size] → s₂.heap.get? b = some o → h'.get? b = some o) → ∀ b o, s.heap.get? b = some o → h'.get? b = some o) → R (.ref s.heap.objs.size) s₂) :
    wpAny (model prog w) A (pyIter (.ref l)) R E s := by
  have hlt : l < s.heap.objs.size := hl.elim fun _ z => Heap.lt_size z.1
  refine wpAny_pyIter_tuple hl (k _ rfl (Walks.tuple hh _ l (Nat.ne_of_lt hlt) (intItems xs)) ⟨⟨_, Heap.get?_push_size _ rfl, rfl, rfl⟩, hl.push _⟩ (fun b hb => ?_) fun h' hk b o e => ?_)
  · rw [Heap.size_push]; simp only [List.mem_cons, List.not_mem_nil, or_false] at hb; exact hb.elim (fun z => z ▸ Nat.lt_succ_self _) (fun z => z ▸ Nat.lt_succ_of_lt hlt)
  · exact hk b o (fun z => Nat.lt_irrefl _ ((List.mem_singleton.mp z) ▸ Heap.lt_size e)) (Heap.get?_push_of_some _ e)
theorem intsT_of {its : List Value} {ns : List Int} (hi : IntsAre its ns) : ∃ xs : Array (Int × Tok), its.toArray = intItems xs ∧ ns = (xs.toList.map (·.1)) := by
  obtain ⟨xs, e⟩ := hi.allInts.items; refine ⟨xs, e, ?_⟩; rw [← nums_intItems, ← e]; exact hi.numsOf.symm
theorem sum_rawT {its : List Value} {ns : List Int} {Q : Value → Shared → Prop} (hh : A.handled = none) (hl : s.heap.IsTuple l its.toArray) (hi : IntsAre its ns)
    (h : ∀ h' tk t', (∀ b o, s.heap.get? b = some o → h'.get? b = some o) → Q (.int ns.sum t') { s with heap := h', toks := tk }) :
      wpAny (model prog w) A (call (.builtin "sum") [.ref l]) Q E s := by -- of a tuple
  obtain ⟨xs, e, rfl⟩ := intsT_of hi; rw [e] at hl
  exact PySem.W.ktm_sumG hh hl fun h' tk t' hk => by rw [preSum_eq, List.take_of_length_le (by simp)]; exact h h' tk t' hk
theorem max_rawT {its : List Value} {ns : List Int} {Q : Value → Shared → Prop} (hh : A.handled = none) (hl : s.heap.IsTuple l its.toArray) (hi : IntsAre its ns) (hne : 0 < ns.length)
    (h : ∀ h' tk M t', (∀ b o, s.heap.get? b = some o → h'.get? b = some o) → M ∈ ns → (∀ a, a ∈ ns → a ≤ M) → Q (.int M t') { s with heap := h', toks := tk }) :
      wpAny (model prog w) A (call (.builtin "max") [.ref l]) Q E s := by -- of a tuple
  obtain ⟨xs, e, rfl⟩ := intsT_of hi; rw [e] at hl
  have hsz : 0 < xs.size := by rw [List.length_map, Array.length_toList] at hne; exact hne
  obtain ⟨h1, h2⟩ := argBest_gt (numAt xs) (xs.size - 1)
  refine call_max_walk (tup_walk (A := A.in1) hh hl fun s₂ e2 W st hfp hk => ⟨_, _, _, _, _, _, _, rfl, W, st, hfp, by simpa [intItems] using hsz, CmpOf.ints_gt (numAt xs) (fun _ _ => intItems_at), fun v h' tk hP hold => ?_⟩)
  subst e2; obtain ⟨t, rfl⟩ := intItems_at hP; have e3 : (intItems xs).size = xs.size := by simp [intItems]
  rw [e3, numAt_eq]; refine h h' tk _ t (hk h' hold) (PySem.getD_mem (by rw [List.length_map, Array.length_toList]; omega)) fun a ha => ?_
  obtain ⟨j, hj, rfl⟩ := mem_getD ha; have z := h2 j (by rw [List.length_map, Array.length_toList] at hj; omega); rw [numAt_eq, numAt_eq] at z; exact z
theorem min_rawT {its : List Value} {ns : List Int} {Q : Value → Shared → Prop} (hh : A.handled = none) (hl : s.heap.IsTuple l its.toArray) (hi : IntsAre its ns) (hne : 0 < ns.length)
    (h : ∀ h' tk M t', (∀ b o, s.heap.get? b = some o → h'.get? b = some o) → M ∈ ns → (∀ a, a ∈ ns → M ≤ a) → Q (.int M t') { s with heap := h', toks := tk }) :
      wpAny (model prog w) A (call (.builtin "min") [.ref l]) Q E s := by -- of a tuple
  obtain ⟨xs, e, rfl⟩ := intsT_of hi; rw [e] at hl
  have hsz : 0 < xs.size := by rw [List.length_map, Array.length_toList] at hne; exact hne
  obtain ⟨h1, h2⟩ := argBest_lt (numAt xs) (xs.size - 1)
  refine call_min_walk (tup_walk (A := A.in1) hh hl fun s₂ e2 W st hfp hk => ⟨_, _, _, _, _, _, _, rfl, W, st, hfp, by simpa [intItems] using hsz, CmpOf.ints_lt (numAt xs) (fun _ _ => intItems_at), fun v h' tk hP hold => ?_⟩)
  subst e2; obtain ⟨t, rfl⟩ := intItems_at hP; have e3 : (intItems xs).size = xs.size := by simp [intItems]
  rw [e3, numAt_eq]; refine h h' tk _ t (hk h' hold) (PySem.getD_mem (by rw [List.length_map, Array.length_toList]; omega)) fun a ha => ?_
  obtain ⟨j, hj, rfl⟩ := mem_getD ha; have z := h2 j (by rw [List.length_map, Array.length_toList] at hj; omega); rw [numAt_eq, numAt_eq] at z; exact z
end
section
variable {X : Cx}
def rSumT (K : PySem.W.Frag) : List V → Hp → VK → Prop := fun vs H Q => ∃ (a : Addr) (ns : List Int), vs = [V.ref a] ∧ SqT K H a (ns.map V.int) ∧ Q (.int ns.sum) H
def rMaxT (K : PySem.W.Frag) : List V → Hp → VK → Prop := fun vs H Q => ∃ (a : Addr) (ns : List Int), vs = [V.ref a] ∧ SqT K H a (ns.map V.int) ∧ 0 < ns.length ∧ ∀ m, m ∈ ns → (∀ y, y ∈ ns → y ≤ m) → Q (.int m) H
def rMinT (K : PySem.W.Frag) : List V → Hp → VK → Prop := fun vs H Q => ∃ (a : Addr) (ns : List Int), vs = [V.ref a] ∧ SqT K H a (ns.map V.int) ∧ 0 < ns.length ∧ ∀ m, m ∈ ns → (∀ y, y ∈ ns → m ≤ y) → Q (.int m) H
theorem cr_sumT (hc : X.calm = true) : CallR X (.builtin "sum") (rSumT X.K) := fun pins s σ H vs us Q I r ⟨a, ns, e, hs, q⟩ => by
  subst e; obtain ⟨its, rv, hl, _⟩ := I.tuple hs; rw [Vals.ref1 r]
  exact sum_rawT (I.ok.hd hc) hl rv.ints fun h' tk t' hk => ⟨.int _, H, I.kept hk, ⟨_, rfl⟩, q⟩
theorem cr_maxT (hc : X.calm = true) : CallR X (.builtin "max") (rMaxT X.K) := fun pins s σ H vs us Q I r ⟨a, ns, e, hs, hne, q⟩ => by
  subst e; obtain ⟨its, rv, hl, _⟩ := I.tuple hs; rw [Vals.ref1 r]
  exact max_rawT (I.ok.hd hc) hl rv.ints hne fun h' tk m t' hk h1 h2 => ⟨.int _, H, I.kept hk, ⟨_, rfl⟩, q m h1 h2⟩
theorem cr_minT (hc : X.calm = true) : CallR X (.builtin "min") (rMinT X.K) := fun pins s σ H vs us Q I r ⟨a, ns, e, hs, hne, q⟩ => by
  subst e; obtain ⟨its, rv, hl, _⟩ := I.tuple hs; rw [Vals.ref1 r]
  exact min_rawT (I.ok.hd hc) hl rv.ints hne fun h' tk m t' hk h1 h2 => ⟨.int _, H, I.kept hk, ⟨_, rfl⟩, q m h1 h2⟩
/-- x op= e at a name -/
theorem ip_of {op : Operator} {r : R2} (h : OpR X (inplaceOp op) r) : PIp X op r := h
theorem hu64 {k : Nat} {A : Around} (hr : Room k A) : A.units + 64 < cLine := by have := hr.un; omega
theorem hu65 {k : Nat} {A : Around} (hr : Room k A) : A.units + 65 < cLine := by have := hr.un; omega
end
end L2
/-! ### what is new, told by what stood: rules whose readings speak of an extension -/
namespace Sx
open PySem L2 RT PySem.Spec PyProof.Rows
theorem same_new {H : Hp} {p : Addr} {o : HO} (h : H p = none) : Same H (upd H p o) := fun b u e => by
  rw [upd_ne (ne_of_none e h)]; exact e
theorem sqt {K : PySem.W.Frag} {H : Hp} {a : Addr} {xs : List V} (h : H a = some (.tup xs)) : SqT K H a xs := .inl (.inl h)
theorem sql {K : PySem.W.Frag} {H : Hp} {a : Addr} {xs : List V} (h : H a = some (.lst xs)) : SqL K H a xs := .inl (.inl h)
section
variable {X : Cx} {e : Expr} {es : List Expr} {t t' : TE} {ta ta' : TA} {pos : Pos}
theorem PE.imp (h : PE X e t) (i : ∀ σ H Q, t' σ H Q → t σ H Q) : PE X e t' := ⟨fun pins s σ H Q I q => h.run pins s σ H Q I (i σ H Q q)⟩
def wkE (t : TE) : TE := fun σ H Q => ∃ A : VK, t σ H A ∧ ∀ v H1, A v H1 → Q v H1
def wkA (t : TA) : TA := fun σ H Q => ∃ A : List V → Hp → Prop, t σ H A ∧ ∀ v H1, A v H1 → Q v H1
theorem PE.weak (h : PE X e t) : PE X e (wkE t) := ⟨fun pins s σ H Q I q => by
  obtain ⟨A, q1, q2⟩ := q
  exact thn (h.run pins s σ H A I q1) fun u s' ⟨v, H1, I1, r, z⟩ => ⟨v, H1, I1, r, q2 v H1 z⟩⟩
theorem PA.weak (h : PA X es ta) : PA X es (wkA ta) := ⟨fun p pins s σ H Q I q => by
  obtain ⟨A, q1, q2⟩ := q
  exact thn (h.run p pins s σ H A I q1) fun u s' ⟨v, H1, I1, r, z⟩ => ⟨v, H1, I1, r, q2 v H1 z⟩⟩
/-- a tuple display -/
def tTupN (K : PySem.W.Frag) (t : TA) : TE := fun σ H Q => t σ H fun xs H1 => xs.length ≤ sizeLine ∧ ∀ p H2, Same H1 H2 → SqT K H2 p xs → Q (.ref p) H2
theorem pe_tupN {x1} (h : PA X es ta) : PE X (.Tuple es x1 pos) (tTupN X.K ta) := PE.imp (pe_tup (PA.weak h)) fun σ H Q q =>
  ⟨_, q, fun xs H1 ⟨hz, k⟩ => ⟨hz, fun p hp => k p _ (same_new hp) (sqt upd_same)⟩⟩
def tLstN (t : TA) : TE := fun σ H Q => t σ H fun xs H1 => xs.length ≤ sizeLine ∧ ∀ p H2, H1 p = none → Same H1 H2 → H2 p = some (.lst xs) → Q (.ref p) H2
theorem pe_lstN (h : PA X es ta) : PE X (.List es pos) (tLstN ta) := PE.imp (pe_lst (PA.weak h)) fun σ H Q q =>
  ⟨_, q, fun xs H1 ⟨hz, k⟩ => ⟨hz, fun p hp => k p _ hp (same_new hp) upd_same⟩⟩
def tTupRevN (K : PySem.W.Frag) (t : TE) : TE := fun σ H Q => t σ H fun v H1 => ∃ (a : Addr) (xs : List V), v = .ref a ∧ SqL K H1 a xs ∧ ∀ p H2, Same H1 H2 → SqT K H2 p xs.reverse → Q (.ref p) H2
theorem pe_tupRevN {p p2 pos pos2 : Pos} (hc : X.calm = true) (hg : Gl X "tuple") (hm : X.mg "tuple" = none) (hg2 : Gl X "reversed") (hm2 : X.mg "reversed" = none) (he : PE X e t)
    (hs : starEach [e] X.env = (false, eval e X.env) :: starEach [] X.env := by rfl) (hs2 : starEach [.Call (.Name "reversed" p2) [e] [] pos2] X.env = (false, eval (.Call (.Name "reversed" p2) [e] [] pos2) X.env) :: starEach [] X.env := by rfl) : PE X (.Call (.Name "tuple" p) [.Call (.Name "reversed" p2) [e] [] pos2] [] pos) (tTupRevN X.K t) := PE.imp (pe_tupRev hc hg hm hg2 hm2 (PE.weak he) hs hs2) fun σ H Q q =>
  ⟨_, q, fun v H1 ⟨a, xs, e, h, k⟩ => ⟨a, xs, e, h, fun p hp => k p _ (same_new hp) (sqt upd_same)⟩⟩
def tRevLN (K : PySem.W.Frag) (t : TE) : TE := fun σ H Q => t σ H fun v H1 => ∃ (a : Addr) (xs : List V), v = .ref a ∧ SqL K H1 a xs ∧ ∀ p H2, H1 p = none → Same H1 H2 → H2 p = some (.lst xs.reverse) → Q (.ref p) H2
theorem pe_revLN {k : Nat} {p1 p2 p3 pos : Pos} (he : PE X e t) : PE X (.Subscript e (.Slice none none (some (.UnaryOp .USub (.Constant (.int 1) k p1) p2)) p3) pos) (tRevLN X.K t) := PE.imp (pe_revL (PE.weak he)) fun σ H Q q =>
  ⟨_, q, fun v H1 ⟨a, xs, e, h, k⟩ => ⟨a, xs, e, h, fun p hp => k p _ hp (same_new hp) upd_same⟩⟩
/-! by values -/
def rTupN (K : PySem.W.Frag) : List V → Hp → VK → Prop := fun xs H Q => ∃ p ys, xs = [.ref p] ∧ (SqL K H p ys ∨ SqT K H p ys) ∧ ∀ p H2, Same H H2 → SqT K H2 p ys → Q (.ref p) H2
theorem call_tupN : CallR X (.type "tuple") (rTupN X.K) := fun pins s σ H xs us Q I r h => by
  obtain ⟨p, ys, rfl, hs, k⟩ := h
  refine call_tuple_of pins s σ H _ us Q I r ⟨p, ys, rfl, ?_⟩
  rcases hs with hs | hs
  · exact .inl ⟨hs, fun l hl => k l _ (same_new hl) (sqt upd_same)⟩
  · exact .inr ⟨hs, k p H (Same.refl H) hs⟩
def rListN (K : PySem.W.Frag) : List V → Hp → VK → Prop := fun xs H Q => ∃ p ys, xs = [.ref p] ∧ (SqL K H p ys ∨ SqT K H p ys) ∧ ∀ p H2, H p = none → Same H H2 → H2 p = some (.lst ys) → Q (.ref p) H2
theorem call_listN : CallR X (.type "list") (rListN X.K) := fun pins s σ H xs us Q I r h => by
  obtain ⟨p, ys, rfl, hs, k⟩ := h
  exact call_list_of pins s σ H _ us Q I r ⟨p, ys, rfl, hs, fun l hl => k l _ hl (same_new hl) upd_same⟩
def rCatN (K : PySem.W.Frag) : R2 := fun x y H Q => ∃ a b xs ys, x = .ref a ∧ y = .ref b ∧ SqT K H a xs ∧ SqT K H b ys ∧ xs.length + ys.length ≤ sizeLine ∧ ∀ p H2, Same H H2 → SqT K H2 p (xs ++ ys) → Q (.ref p) H2
theorem op_catN : OpR X (binaryOp .Add) (rCatN X.K) := fun pins s σ H x y v u Q I rx ry h => by
  obtain ⟨a, b, xs, ys, rfl, rfl, ha, hb, hz, k⟩ := h
  refine op_catA pins s σ H _ _ v u Q I rx ry ⟨a, b, xs, ys, rfl, rfl, ha, hb, hz, fun e => ?_, fun _ e => ?_, fun _ _ p hp => k p _ (same_new hp) (sqt upd_same)⟩
  · subst e; exact k b H (Same.refl H) hb
  · subst e; exact k a H (Same.refl H) (by rw [List.append_nil]; exact ha)
def rCatLN (K : PySem.W.Frag) : R2 := fun x y H Q => ∃ a b xs ys, x = .ref a ∧ y = .ref b ∧ H a = some (.lst xs) ∧ H b = some (.lst ys) ∧ xs.length + ys.length ≤ sizeLine ∧ ∀ p H2, H p = none → Same H H2 → H2 p = some (.lst (xs ++ ys)) → Q (.ref p) H2
theorem op_catLN : OpR X (binaryOp .Add) (rCatLN X.K) := fun pins s σ H x y v u Q I rx ry h => by
  obtain ⟨a, b, xs, ys, rfl, rfl, ha, hb, hz, k⟩ := h
  exact op_cat pins s σ H _ _ v u Q I rx ry ⟨a, b, xs, ys, rfl, rfl, ha, hb, hz, fun p hp => k p _ hp (same_new hp) upd_same⟩
theorem cut_whole {xs : List V} {lo hi : Option Int} (h : HT.sIx xs.length 0 lo = 0 ∧ HT.sIx xs.length xs.length hi = xs.length) : cutV xs lo hi = xs := by
  unfold cutV
  rw [h.1, h.2, List.drop_zero, Nat.sub_zero, List.take_length]
def rSlN (K : PySem.W.Frag) : V → Option Int → Option Int → Hp → VK → Prop := fun x lo hi H Q => ∃ a xs, x = .ref a ∧ SqT K H a xs ∧ ∀ p H2, Same H H2 → SqT K H2 p (cutV xs lo hi) → Q (.ref p) H2
theorem sl_tupN : SlR X (rSlN X.K) := fun pins s σ H x v vl vu lo hi sl Q I rx hs pl pu h => by
  obtain ⟨a, xs, rfl, hx, k⟩ := h
  exact sl_tupA pins s σ H _ v vl vu lo hi sl Q I rx hs pl pu ⟨a, xs, rfl, hx, fun e => k a H (Same.refl H) (by rw [cut_whole e]; exact hx), fun _ p hp => k p _ (same_new hp) (sqt upd_same)⟩
def rSlLN (K : PySem.W.Frag) : V → Option Int → Option Int → Hp → VK → Prop := fun x lo hi H Q => ∃ a xs, x = .ref a ∧ SqL K H a xs ∧ ∀ p H2, H p = none → Same H H2 → H2 p = some (.lst (cutV xs lo hi)) → Q (.ref p) H2
theorem sl_listN : SlR X (rSlLN X.K) := fun pins s σ H x v vl vu lo hi sl Q I rx hs pl pu h => by
  obtain ⟨a, xs, rfl, hx, k⟩ := h
  exact sl_list pins s σ H _ v vl vu lo hi sl Q I rx hs pl pu ⟨a, xs, rfl, hx, fun p hp => k p _ hp (same_new hp) upd_same⟩
/-- an item of a list or a tuple -/
def rIxQ (K : PySem.W.Frag) : R2 := fun x y H Q => rIxL K x y H Q ∨ rIxT K x y H Q
theorem ix_seq : IxR X (rIxQ X.K) := fun value slice pins s σ H x y v u Q I rx ry h hs => by
  rcases h with h | h
  · exact ix_list value slice pins s σ H x y v u Q I rx ry h hs
  · exact ix_tup value slice pins s σ H x y v u Q I rx ry h hs
end
end Sx
end
section
/-! steps of a reading, one lemma a construct; rows as lists of naturals -/
namespace Sx
open PySem L2 RT
abbrev rAdd : R2 := rI0 fun i j => .int (i + j)
abbrev rSub : R2 := rI0 fun i j => .int (i - j)
abbrev rMul : R2 := rI CMul fun i j => .int (i * j)
abbrev rMulW : R2 := rI CMulW fun i j => .int (i * j)
abbrev rFd : R2 := rI CDiv fun i j => .int (i / j)
abbrev rFdW : R2 := rI CDivW fun i j => .int (i / j)
abbrev rMd : R2 := rI (fun _ j => 0 < j) fun i j => .int (i % j)
abbrev rPw : R2 := rI CPow fun i j => .int (i ^ j.toNat)
abbrev rLt : R2 := rI0 fun i j => .bl (decide (i < j))
abbrev rLe : R2 := rI0 fun i j => .bl (decide (i ≤ j))
abbrev rGt : R2 := rI0 fun i j => .bl (decide (j < i))
abbrev rGe : R2 := rI0 fun i j => .bl (decide (j ≤ i))
abbrev rNeg : V → Hp → VK → Prop := rU fun i => .int (-i)
abbrev rLen (K : PySem.W.Frag) : List V → Hp → VK → Prop := fun xs H Q => ∃ p ys, xs = [.ref p] ∧ (SqL K H p ys ∨ SqT K H p ys) ∧ Q (.int ys.length) H
abbrev rInt1 : List V → Hp → VK → Prop := fun xs H Q => (∃ i, xs = [.int i] ∧ Q (.int i) H) ∨ ∃ k, xs = [.bl k] ∧ Q (.int (if k then 1 else 0)) H
/-- a whole number not below 0 -/
def natV (n : Nat) : V := .int (n : Int)
def rowV (r : List Nat) : List V := r.map natV

/-! ### heaps -/
/-- all but d as it was -/
def SB (d : Addr) (H H' : Hp) : Prop := ∀ b o, b ≠ d → H b = some o → H' b = some o
theorem Same.sb {d : Addr} {H H' : Hp} (h : Same H H') : SB d H H' := fun b o _ e => h b o e
theorem SB.refl (d : Addr) (H : Hp) : SB d H H := fun _ _ _ e => e
theorem SB.trans {d : Addr} {H H1 H2 : Hp} (a : SB d H H1) (b : SB d H1 H2) : SB d H H2 := fun c o n e => b c o n (a c o n e)
theorem SB.upd (d : Addr) (H : Hp) (o : HO) : SB d H (upd H d o) := fun b u n e => by rw [upd_ne n]; exact e
/-- what H does not know may change -/
theorem Same.mut {H H' : Hp} {p : Addr} {o : HO} (e : Same H H') (h : H p = none) : Same H (upd H' p o) := fun a u ha => by
  rw [upd_ne (ne_of_none ha h)]; exact e a u ha
theorem SB.mut {d : Addr} {H H' : Hp} {p : Addr} {o : HO} (e : SB d H H') (h : H p = none) : SB d H (L2.upd H' p o) := fun a u n ha => by
  rw [upd_ne (ne_of_none ha h)]; exact e a u n ha
theorem Same.seqT {K : PySem.W.Frag} {H H' : Hp} {a : Addr} {xs : List V} (e : Same H H') (h : SqT K H a xs) : SqT K H' a xs := by
  rcases h with (h | ⟨o, h⟩) | h
  · exact .inl (.inl (e _ _ h))
  · exact .inl (.inr ⟨o, e _ _ h⟩)
  · exact .inr h
theorem SB.seqT {K : PySem.W.Frag} {d : Addr} {H H' : Hp} {a : Addr} {xs ys : List V} (e : SB d H H') (hd : H d = some (.lst ys)) (h : SqT K H a xs) : SqT K H' a xs := by
  rcases h with (h | ⟨o, h⟩) | h
  · exact .inl (.inl (e _ _ (by rintro rfl; rw [hd] at h; cases h) h))
  · exact .inl (.inr ⟨o, e _ _ (by rintro rfl; rw [hd] at h; cases h) h⟩)
  · exact .inr h
theorem SB.seqL {K : PySem.W.Frag} {d : Addr} {H H' : Hp} {a : Addr} {xs : List V} (e : SB d H H') (hd : a ≠ d) (h : SqL K H a xs) : SqL K H' a xs := by
  rcases h with (h | ⟨o, h⟩) | h
  · exact .inl (.inl (e _ _ hd h))
  · exact .inl (.inr ⟨o, e _ _ hd h⟩)
  · exact .inr h
/-- what stood ahead of a new d stands whatever d becomes -/
theorem keep_new {K : PySem.W.Frag} {d : Addr} {H H1 H2 : Hp} {a : Addr} {xs : List V} (h : SqL K H a xs) (nd : H d = none) (s : Same H H1) (s2 : SB d H1 H2) : SqL K H2 a xs := by
  rcases h with (h | ⟨o, h⟩) | h
  · exact .inl (.inl (s2 _ _ (ne_of_none h nd) (s _ _ h)))
  · exact .inl (.inr ⟨o, s2 _ _ (ne_of_none h nd) (s _ _ h)⟩)
  · exact .inr h
/-- a list changed: tuples stand -/
theorem mut_seqT {K : PySem.W.Frag} {H : Hp} {p a : Addr} {ys : List V} {o : HO} {xs : List V} (hp : H p = some (.lst ys)) (h : SqT K H a xs) : SqT K (upd H p o) a xs := SB.seqT (SB.upd p H o) hp h

/-! ### steps -/
section
variable {K : PySem.W.Frag} {σ : L2.St} {H : Hp} {Q : VK} {D : Ends} {ta tb tc te : TE} {tt tu : TT} {r r' : R2} {t u : TS} {v x y : V} {g : TG} {sp : Sp} {dvs : List V} {E : XK} {args : TA} {QB : Bool → Hp → Prop} {QA : List V → Hp → Prop} {QS : L2.St → Hp → Prop}
theorem i_var {i : Nat} (h : σ[i]? = some (some v)) (q : Q v H) : tVar i σ H Q := ⟨v, h, q⟩
theorem i_c (q : Q v H) : tC v σ H Q := q
theorem i_op (q : ta σ H fun x H1 => tb σ H1 fun y H2 => r x y H2 Q) : tOp r ta tb σ H Q := q
theorem i_un {ru : V → Hp → VK → Prop} (q : ta σ H fun x H1 => ru x H1 Q) : tUn ru ta σ H Q := q
theorem i_chain (q : ta σ H fun x H1 => tb σ H1 fun y H2 => r x y H2 fun z H3 => ∃ k, z = .bl k ∧ (if k = true then tc σ H3 fun w' H4 => r' y w' H4 Q else Q (.bl false) H3)) : tChain r r' ta tb tc σ H Q := q
theorem i_seq (q : t { D with nx := u D } σ H) : tSeq t u D σ H := q
theorem i_asg (q : te σ H fun x H1 => g x σ H1 D.nx) : tAsg te g D σ H := q
theorem i_gname {i : Nat} (q : QS (σ.set i (some v)) H) : gName i v σ H QS := q
theorem i_ret (q : te σ H D.rt) : tRet te D σ H := q
theorem i_drop (q : te σ H fun _ H1 => D.nx σ H1) : tDrop te D σ H := q
theorem i_next (q : D.nx σ H) : tNext D σ H := q
theorem i_ifS (q : tt σ H fun b H1 => if b = true then t D σ H1 else u D σ H1) : tIfS tt t u D σ H := q
theorem i_test (q : te σ H fun x H' => ∃ k, x = .bl k ∧ QB k H') : tTest te σ H QB := q
theorem i_tB (q : te σ H fun x H' => ∃ k, x = .bl k ∧ QB k H') : tB te σ H QB := q
theorem i_and (q : tt σ H fun c H1 => if c = true then tu σ H1 QB else QB false H1) : tAnd tt tu σ H QB := q
theorem i_or (q : tt σ H fun c H1 => if c = true then QB true H1 else tu σ H1 QB) : tOr tt tu σ H QB := q
theorem i_not (q : tt σ H fun c H1 => QB (!c) H1) : tNot tt σ H QB := q
theorem i_andV (q : ta σ H fun x H1 => ∃ c, x = .bl c ∧ if c = true then tb σ H1 Q else Q (.bl false) H1) : tAndV ta tb σ H Q := q
theorem i_orV (q : ta σ H fun x H1 => ∃ c, x = .bl c ∧ if c = true then Q (.bl true) H1 else tb σ H1 Q) : tOrV ta tb σ H Q := q
theorem i_notV (q : ta σ H fun x H1 => ∃ c, x = .bl c ∧ Q (.bl (!c)) H1) : tNotV ta σ H Q := q
theorem i_if (q : tt σ H fun c H1 => if c = true then ta σ H1 Q else tb σ H1 Q) : tIf tt ta tb σ H Q := q
theorem i_call (q : args σ H fun vs H1 => sp (vs ++ dvs) H1 Q E) : tCall sp dvs E args σ H Q := q
theorem i_cb {rc : List V → Hp → VK → Prop} (q : args σ H fun vs H1 => rc vs H1 Q) : tCB rc args σ H Q := q
theorem i_nil (q : QA [] H) : tNil σ H QA := q
theorem i_cons {ar : TA} (q : ta σ H fun x H1 => ar σ H1 fun xs H2 => QA (x :: xs) H2) : tCons ta ar σ H QA := q
theorem i_tup (q : args σ H fun xs H1 => xs.length ≤ sizeLine ∧ ∀ p H2, Same H1 H2 → SqT K H2 p xs → Q (.ref p) H2) : tTupN K args σ H Q := q
theorem i_lst (q : args σ H fun xs H1 => xs.length ≤ sizeLine ∧ ∀ p H2, H1 p = none → Same H1 H2 → H2 p = some (.lst xs) → Q (.ref p) H2) : tLstN args σ H Q := q
theorem i_bm {T : String} {rm : V → List V → Hp → VK → Prop} (q : te σ H fun x H1 => tyV K T x H1 ∧ args σ H1 fun xs H2 => rm x xs H2 Q) : tBM K T rm te args σ H Q := q
theorem i_bm0 {T : String} {rm : V → List V → Hp → VK → Prop} (q : te σ H fun x H1 => tyV K T x H1 ∧ rm x [] H1 Q) : tBM0 K T rm te σ H Q := q
theorem i_aug {i : Nat} {ti : TIp} (h : σ[i]? = some (some x)) (q : te σ H fun y H1 => ti x y H1 fun z H2 => D.nx (σ.set i (some z)) H2) : tAug i te ti D σ H := ⟨x, h, q⟩
theorem i_sl {rs : V → Option Int → Option Int → Hp → VK → Prop} {tl th : TO} (q : te σ H fun x H1 => tl σ H1 fun l H2 => th σ H2 fun u H3 => rs x l u H3 Q) : tSl rs te tl th σ H Q := q
theorem i_nopart {QO : Option Int → Hp → Prop} (q : QO none H) : tNoPart σ H QO := q
theorem i_part {QO : Option Int → Hp → Prop} (q : te σ H fun x H1 => ∃ i, x = .int i ∧ QO (some i) H1) : tPart te σ H QO := q
theorem i_exbl {P : Bool → Prop} {c : Bool} (q : P c) : ∃ k, V.bl c = V.bl k ∧ P k := ⟨c, rfl, q⟩
theorem i_exint {P : Int → Prop} {c : Int} (q : P c) : ∃ k, V.int c = V.int k ∧ P k := ⟨c, rfl, q⟩
theorem i_exnat {P : Int → Prop} {c : Nat} (q : P (c : Int)) : ∃ k, natV c = V.int k ∧ P k := ⟨c, rfl, q⟩
theorem i_gsub {to ti : TE} {ts : TSet} (q : to σ H fun o H1 => ti σ H1 fun i H2 => ts o i v H2 fun H3 => QS σ H3) : gSub to ti ts v σ H QS := q
theorem i_iteT {A B : Prop} (h : A) : if true = true then A else B := by rw [if_pos rfl]; exact h
theorem i_iteF {A B : Prop} (h : B) : if false = true then A else B := by rw [if_neg Bool.false_ne_true]; exact h
theorem i_iteNT {A B : Prop} (h : B) : if (!true) = true then A else B := i_iteF h
theorem i_iteNF {A B : Prop} (h : A) : if (!false) = true then A else B := i_iteT h
theorem i_ite {c A B : Prop} [Decidable c] (h1 : c → A) (h2 : ¬ c → B) : if decide c = true then A else B := by
  by_cases h : c
  · rw [decide_eq_true h]; exact i_iteT (h1 h)
  · rw [decide_eq_false h]; exact i_iteF (h2 h)
theorem i_iteN {c A B : Prop} [Decidable c] (h1 : ¬ c → A) (h2 : c → B) : if (!decide c) = true then A else B := by
  by_cases h : c
  · rw [decide_eq_true h]; exact i_iteF (h2 h)
  · rw [decide_eq_false h]; exact i_iteT (h1 h)
theorem i_yes {c A B : Prop} [Decidable c] (h : c) (h1 : A) : if decide c = true then A else B := by rw [decide_eq_true h]; exact i_iteT h1
theorem i_nay {c A B : Prop} [Decidable c] (h : ¬ c) (h1 : B) : if decide c = true then A else B := by rw [decide_eq_false h]; exact i_iteF h1
theorem i_yesN {c A B : Prop} [Decidable c] (h : ¬ c) (h1 : A) : if (!decide c) = true then A else B := by rw [decide_eq_false h]; exact i_iteT h1
theorem i_nayN {c A B : Prop} [Decidable c] (h : c) (h1 : B) : if (!decide c) = true then A else B := by rw [decide_eq_true h]; exact i_iteF h1
/-! numbers -/
variable {a b : Nat} {i j : Int}
theorem i_addN (q : Q (natV (a + b)) H) : rAdd (natV a) (natV b) H Q := ⟨a, b, rfl, rfl, q⟩
theorem i_subN (h : b ≤ a) (q : Q (natV (a - b)) H) : rSub (natV a) (natV b) H Q := ⟨a, b, rfl, rfl, by
  have e : (a : Int) - (b : Int) = ((a - b : Nat) : Int) := by omega
  show Q (.int ((a : Int) - (b : Int))) H
  rw [e]; exact q⟩
theorem i_mulN (h : a < 2 ^ 64 ∨ b < 2 ^ 64) (q : Q (natV (a * b)) H) : rMul (natV a) (natV b) H Q := ⟨a, b, rfl, rfl, by
  rcases h with h | h
  · exact .inl ⟨by omega, by omega⟩
  · exact .inr ⟨by omega, by omega⟩, by
  show Q (.int ((a : Int) * (b : Int))) H
  rw [← Int.natCast_mul]; exact q⟩
theorem i_mulWN {m n : Nat} (h1 : a < 2 ^ m) (h2 : b < 2 ^ n) (h3 : 0 < m) (h4 : 0 < n) (h5 : m + n ≤ 1000000) (q : Q (natV (a * b)) H) : rMulW (natV a) (natV b) H Q := ⟨a, b, rfl, rfl, wide_mul (by simpa using h1) (by simpa using h2) h3 h4 h5, by
  show Q (.int ((a : Int) * (b : Int))) H
  rw [← Int.natCast_mul]; exact q⟩
theorem i_fdN (h : 0 < b) (h2 : b < 1073741824) (q : Q (natV (a / b)) H) : rFd (natV a) (natV b) H Q := ⟨a, b, rfl, rfl, ⟨by omega, by omega⟩, by
  show Q (.int ((a : Int) / (b : Int))) H
  rw [← Int.natCast_ediv]; exact q⟩
theorem i_mdN (h : 0 < b) (q : Q (natV (a % b)) H) : rMd (natV a) (natV b) H Q := ⟨a, b, rfl, rfl, by show (0 : Int) < (b : Int); omega, by
  show Q (.int ((a : Int) % (b : Int))) H
  rw [← Int.natCast_emod]; exact q⟩
/-- the rest of any whole number -/
theorem i_mdI (h : 0 < b) (q : ∀ n : Nat, n < b → Q (natV n) H) : rMd (.int i) (natV b) H Q := ⟨i, b, rfl, rfl, by show (0 : Int) < (b : Int); omega, by
  have h1 : 0 ≤ i % (b : Int) := Int.emod_nonneg _ (by omega)
  have h2 : i % (b : Int) < b := Int.emod_lt_of_pos _ (by omega)
  have e : i % (b : Int) = (((i % (b : Int)).toNat : Nat) : Int) := by omega
  show Q (.int (i % (b : Int))) H
  rw [e]; exact q _ (by omega)⟩
theorem i_ltN (q : Q (.bl (decide (a < b))) H) : rLt (natV a) (natV b) H Q := ⟨a, b, rfl, rfl, by
  have e : decide ((a : Int) < (b : Int)) = decide (a < b) := by congr 1; exact propext Int.ofNat_lt
  show Q (.bl (decide ((a : Int) < (b : Int)))) H
  rw [e]; exact q⟩
theorem i_leN (q : Q (.bl (decide (a ≤ b))) H) : rLe (natV a) (natV b) H Q := ⟨a, b, rfl, rfl, by
  have e : decide ((a : Int) ≤ (b : Int)) = decide (a ≤ b) := by congr 1; exact propext Int.ofNat_le
  show Q (.bl (decide ((a : Int) ≤ (b : Int)))) H
  rw [e]; exact q⟩
theorem i_gtN (q : Q (.bl (decide (b < a))) H) : rGt (natV a) (natV b) H Q := ⟨a, b, rfl, rfl, by
  have e : decide ((b : Int) < (a : Int)) = decide (b < a) := by congr 1; exact propext Int.ofNat_lt
  show Q (.bl (decide ((b : Int) < (a : Int)))) H
  rw [e]; exact q⟩
theorem i_geN (q : Q (.bl (decide (b ≤ a))) H) : rGe (natV a) (natV b) H Q := ⟨a, b, rfl, rfl, by
  have e : decide ((b : Int) ≤ (a : Int)) = decide (b ≤ a) := by congr 1; exact propext Int.ofNat_le
  show Q (.bl (decide ((b : Int) ≤ (a : Int)))) H
  rw [e]; exact q⟩
theorem natV_inj {a b : Nat} (h : natV a = natV b) : a = b := by
  have e : (a : Int) = (b : Int) := V.int.inj h
  omega
theorem i_eqN (q : Q (.bl (decide (a = b))) H) : rEq (natV a) (natV b) H Q := ⟨rfl, by
  have e : decide (natV a = natV b) = decide (a = b) := by congr 1; exact propext ⟨natV_inj, fun h => by rw [h]⟩
  rw [e]; exact q⟩
theorem i_neN (q : Q (.bl (!decide (a = b))) H) : rNe (natV a) (natV b) H Q := ⟨rfl, by
  have e : decide (natV a = natV b) = decide (a = b) := by congr 1; exact propext ⟨natV_inj, fun h => by rw [h]⟩
  rw [e]; exact q⟩
theorem i_ltI (q : Q (.bl (decide (i < j))) H) : rLt (.int i) (.int j) H Q := ⟨i, j, rfl, rfl, q⟩
theorem i_leI (q : Q (.bl (decide (i ≤ j))) H) : rLe (.int i) (.int j) H Q := ⟨i, j, rfl, rfl, q⟩
theorem i_gtI (q : Q (.bl (decide (j < i))) H) : rGt (.int i) (.int j) H Q := ⟨i, j, rfl, rfl, q⟩
theorem i_geI (q : Q (.bl (decide (j ≤ i))) H) : rGe (.int i) (.int j) H Q := ⟨i, j, rfl, rfl, q⟩
theorem i_gtIN (q : Q (.bl (decide ((a : Int) < i))) H) : rGt (.int i) (natV a) H Q := ⟨i, a, rfl, rfl, q⟩
theorem i_geIN (q : Q (.bl (decide ((a : Int) ≤ i))) H) : rGe (.int i) (natV a) H Q := ⟨i, a, rfl, rfl, q⟩
theorem i_ltIN (q : Q (.bl (decide (i < (a : Int)))) H) : rLt (.int i) (natV a) H Q := ⟨i, a, rfl, rfl, q⟩
theorem i_pwN (h : a < 2 ^ 64) (h2 : b ≤ 1000000) (q : Q (natV (a ^ b)) H) : rPw (natV a) (natV b) H Q := ⟨a, b, rfl, rfl, ⟨by omega, by omega, by simpa using h⟩, by
  show Q (.int ((a : Int) ^ (b : Int).toNat)) H
  rw [Int.toNat_natCast, ← Int.natCast_pow]; exact q⟩
theorem i_negN (q : Q (.int (-(a : Int))) H) : rNeg (natV a) H Q := ⟨a, rfl, q⟩
theorem i_bit {c : Bool} (q : Q (natV (if c then 1 else 0)) H) : rInt1 [.bl c] H Q := .inr ⟨c, rfl, by cases c <;> exact q⟩
/-! sequences -/
variable {p : Addr} {xs ys : List V}
theorem i_ixL (h : SqL K H p xs) (e : xs[a]? = some v) (q : Q v H) : rIxL K (.ref p) (natV a) H Q := ⟨p, xs, a, v, rfl, rfl, h, atI_nat e, q⟩
theorem i_ixT (h : SqT K H p xs) (e : xs[a]? = some v) (q : Q v H) : rIxT K (.ref p) (natV a) H Q := ⟨p, xs, a, v, rfl, rfl, h, atI_nat e, q⟩
theorem i_ixTlast (h : SqT K H p (xs ++ [v])) (q : Q v H) : rIxT K (.ref p) (.int (-1)) H Q := ⟨p, _, -1, v, rfl, rfl, h, atI_last _ _, q⟩
theorem i_lenL (h : SqL K H p xs) (q : Q (natV xs.length) H) : rLen K [.ref p] H Q := ⟨p, xs, rfl, .inl h, q⟩
theorem i_lenT (h : SqT K H p xs) (q : Q (natV xs.length) H) : rLen K [.ref p] H Q := ⟨p, xs, rfl, .inr h, q⟩
theorem ixN_nat {n k : Nat} (h : k < n) : ixN n (k : Int) = some k := by
  unfold ixN
  rw [if_pos (by omega), if_pos (by omega)]; simp
theorem i_setL {QH : Hp → Prop} (h : H p = some (.lst xs)) (hk : a < xs.length) (q : QH (upd H p (.lst (xs.set a v)))) : rSetL (.ref p) (natV a) v H QH := ⟨p, xs, a, a, rfl, rfl, h, ixN_nat hk, q⟩
theorem i_append (h : H p = some (.lst xs)) (hz : xs.length ≤ 100000) (q : Q .non (upd H p (.lst (xs ++ [v])))) :
    tyV K "list" (.ref p) H ∧ rAppend (.ref p) [v] H Q := ⟨.inl ⟨rfl, xs, sql h⟩, p, xs, v, rfl, rfl, h, Nat.lt_of_le_of_lt hz (by decide), q⟩
theorem i_ty {A : Prop} (h : H p = some (.lst xs)) (q : A) : tyV K "list" (.ref p) H ∧ A := ⟨.inl ⟨rfl, xs, sql h⟩, q⟩
theorem i_app (h : H p = some (.lst xs)) (hz : xs.length ≤ 100000) (q : Q .non (upd H p (.lst (xs ++ [v])))) : rAppend (.ref p) [v] H Q := ⟨p, xs, v, rfl, rfl, h, Nat.lt_of_le_of_lt hz (by decide), q⟩
theorem i_pop0 (h : H p = some (.lst (v :: xs))) (q : Q v (upd H p (.lst xs))) : rPopAt (.ref p) [natV 0] H Q :=
  ⟨p, v :: xs, 0, 0, v, rfl, rfl, h, by decide, by decide, by
    show seqIndex? 0 (xs.length + 1) = some 0
    have := (ixN_seq (n := xs.length + 1) (i := 0) (j := 0) (by unfold ixN; rw [if_pos (by decide), if_pos (by omega)]; rfl)).1
    exact this, rfl, q⟩
theorem szl {n : Nat} (h : n ≤ 100000) : n ≤ sizeLine := Nat.le_trans h (by decide)
theorem i_tupOfL (h : SqL K H p ys) (q : ∀ p H2, Same H H2 → SqT K H2 p ys → Q (.ref p) H2) : rTupN K [.ref p] H Q := ⟨p, ys, rfl, .inl h, q⟩
theorem i_tupOfT (h : SqT K H p ys) (q : ∀ p H2, Same H H2 → SqT K H2 p ys → Q (.ref p) H2) : rTupN K [.ref p] H Q := ⟨p, ys, rfl, .inr h, q⟩
theorem i_listOfL (h : SqL K H p ys) (q : ∀ p H2, H p = none → Same H H2 → H2 p = some (.lst ys) → Q (.ref p) H2) : rListN K [.ref p] H Q := ⟨p, ys, rfl, .inl h, q⟩
theorem i_listOfT (h : SqT K H p ys) (q : ∀ p H2, H p = none → Same H H2 → H2 p = some (.lst ys) → Q (.ref p) H2) : rListN K [.ref p] H Q := ⟨p, ys, rfl, .inr h, q⟩
theorem i_cat {p2 : Addr} (h : SqT K H p xs) (h2 : SqT K H p2 ys) (hz : xs.length + ys.length ≤ 100000) (q : ∀ p H2, Same H H2 → SqT K H2 p (xs ++ ys) → Q (.ref p) H2) : rCatN K (.ref p) (.ref p2) H Q := ⟨p, p2, xs, ys, rfl, rfl, h, h2, szl hz, q⟩
theorem i_catL {p2 : Addr} (h : H p = some (.lst xs)) (h2 : H p2 = some (.lst ys)) (hz : xs.length + ys.length ≤ 100000) (q : ∀ p H2, H p = none → Same H H2 → H2 p = some (.lst (xs ++ ys)) → Q (.ref p) H2) : rCatLN K (.ref p) (.ref p2) H Q := ⟨p, p2, xs, ys, rfl, rfl, h, h2, szl hz, q⟩
theorem i_slT {lo hi : Option Int} (h : SqT K H p xs) (q : ∀ p H2, Same H H2 → SqT K H2 p (cutV xs lo hi) → Q (.ref p) H2) : rSlN K (.ref p) lo hi H Q := ⟨p, xs, rfl, h, q⟩
theorem i_slL {lo hi : Option Int} (h : SqL K H p xs) (q : ∀ p H2, H p = none → Same H H2 → H2 p = some (.lst (cutV xs lo hi)) → Q (.ref p) H2) : rSlLN K (.ref p) lo hi H Q := ⟨p, xs, rfl, h, q⟩
theorem cutV_to {n : Nat} : cutV xs none (some (n : Int)) = xs.take n := by
  unfold cutV
  rw [HT.sIx_none, HT.sIx_nat, List.drop_zero, Nat.sub_zero]
  by_cases h : n ≤ xs.length
  · rw [Nat.min_eq_left h]
  · rw [Nat.min_eq_right (by omega), List.take_length, List.take_of_length_le (by omega)]
theorem cutV_from {n : Nat} : cutV xs (some (n : Int)) none = xs.drop n := by
  unfold cutV
  rw [HT.sIx_none, HT.sIx_nat]
  by_cases h : n ≤ xs.length
  · rw [Nat.min_eq_left h, List.take_of_length_le (by rw [List.length_drop]; omega)]
  · rw [Nat.min_eq_right (by omega), List.drop_length, List.drop_of_length_le (by omega), List.take_nil]
end

/-! loops -/
section
variable {K : PySem.W.Frag} {σ : L2.St} {H : Hp} {D : Ends} {tb : TS} {g : TG} {c : TT}
theorem i_for {wi : TI} (q : wi σ H fun J H1 => ∃ W : Nat → Nat → L2.St → Hp → Prop, (∃ m, W 0 m σ H1) ∧ ∀ i m σ H, W i m σ H →
    (J.stop i H ∧ D.nx σ H) ∨ (J.go i H ∧ ∃ N : L2.St → Hp → Prop, (∀ σ' H', N σ' H' → ∃ m', m' < m ∧ W (i + 1) m' σ' H') ∧ ∀ x H', J.yld i H x H' → g x σ H' fun σ2 H2 => tb { D with nx := N, ct := N, bk := D.nx } σ2 H2)) : tFor wi g tb D σ H := q
theorem i_iTup {tl : TE} {R : It → Hp → Prop} (q : tl σ H fun x H1 => ∃ a, x = .ref a ∧ (∃ xs, SqT K H1 a xs) ∧ R (Itt K a) H1) : iTup K tl σ H R := q
theorem i_iList {tl : TE} {R : It → Hp → Prop} (q : tl σ H fun x H1 => ∃ a, x = .ref a ∧ (∃ xs, SqL K H1 a xs) ∧ R (Itl K a) H1) : iList K tl σ H R := q
theorem i_iRng1 {ta : TA} {R : It → Hp → Prop} (q : ta σ H fun vs H1 => ∃ j : Int, vs = [.int j] ∧ -(2 ^ 62) ≤ j ∧ j < 2 ^ 62 ∧ R (Itr 0 j.toNat) H1) : iRng1 ta σ H R := q
theorem i_iRng2 {ta : TA} {R : It → Hp → Prop} (q : ta σ H fun vs H1 => ∃ i j : Int, vs = [.int i, .int j] ∧ (-(2 ^ 62) ≤ i ∧ i < 2 ^ 62 ∧ -(2 ^ 62) ≤ j ∧ j < 2 ^ 62) ∧ R (Itr i (j - i).toNat) H1) : iRng2 ta σ H R := q
theorem l_tup {a : Addr} {xs : List V} (h : SqT K H a xs) (Pv : Nat → L2.St → Hp → Prop) (h0 : Pv 0 σ H) (hl : ∀ i σ H, i ≤ xs.length → Pv i σ H → SqT K H a xs) (hs : ∀ i x σ H, xs[i]? = some x → Pv i σ H → g x σ H fun σ2 H2 => tb { D with nx := Pv (i + 1), ct := Pv (i + 1), bk := D.nx } σ2 H2) (hd : ∀ σ H, Pv xs.length σ H → D.nx σ H) :
    ∃ a', V.ref a = .ref a' ∧ (∃ xs, SqT K H a' xs) ∧ ∃ W : Nat → Nat → L2.St → Hp → Prop, (∃ m, W 0 m σ H) ∧ ∀ i m σ H, W i m σ H →
    ((Itt K a').stop i H ∧ D.nx σ H) ∨ ((Itt K a').go i H ∧ ∃ N : L2.St → Hp → Prop, (∀ σ' H', N σ' H' → ∃ m', m' < m ∧ W (i + 1) m' σ' H') ∧ ∀ x H', (Itt K a').yld i H x H' → g x σ H' fun σ2 H2 => tb { D with nx := N, ct := N, bk := D.nx } σ2 H2) :=
  ⟨a, rfl, ⟨xs, h⟩, for_tup Pv h0 hl hs hd⟩
theorem l_list {a : Addr} {xs : List V} (h : SqL K H a xs) (Pv : Nat → L2.St → Hp → Prop) (h0 : Pv 0 σ H) (hl : ∀ i σ H, i ≤ xs.length → Pv i σ H → SqL K H a xs) (hs : ∀ i x σ H, xs[i]? = some x → Pv i σ H → g x σ H fun σ2 H2 => tb { D with nx := Pv (i + 1), ct := Pv (i + 1), bk := D.nx } σ2 H2) (hd : ∀ σ H, Pv xs.length σ H → D.nx σ H) :
    ∃ a', V.ref a = .ref a' ∧ (∃ xs, SqL K H a' xs) ∧ ∃ W : Nat → Nat → L2.St → Hp → Prop, (∃ m, W 0 m σ H) ∧ ∀ i m σ H, W i m σ H →
    ((Itl K a').stop i H ∧ D.nx σ H) ∨ ((Itl K a').go i H ∧ ∃ N : L2.St → Hp → Prop, (∀ σ' H', N σ' H' → ∃ m', m' < m ∧ W (i + 1) m' σ' H') ∧ ∀ x H', (Itl K a').yld i H x H' → g x σ H' fun σ2 H2 => tb { D with nx := N, ct := N, bk := D.nx } σ2 H2) :=
  ⟨a, rfl, ⟨xs, h⟩, for_list Pv h0 hl hs hd⟩
theorem l_rng1 {n : Nat} (hn : n < 2 ^ 62) (Pv : Nat → L2.St → Hp → Prop) (h0 : Pv 0 σ H)
    (hs : ∀ i σ H, i < n → Pv i σ H → g (natV i) σ H fun σ2 H2 => tb { D with nx := Pv (i + 1), ct := Pv (i + 1), bk := D.nx } σ2 H2) (hd : ∀ σ H, Pv n σ H → D.nx σ H) :
    ∃ j : Int, [natV n] = [V.int j] ∧ -(2 ^ 62) ≤ j ∧ j < 2 ^ 62 ∧ ∃ W : Nat → Nat → L2.St → Hp → Prop, (∃ m, W 0 m σ H) ∧ ∀ i m σ H, W i m σ H →
    ((Itr 0 j.toNat).stop i H ∧ D.nx σ H) ∨ ((Itr 0 j.toNat).go i H ∧ ∃ N : L2.St → Hp → Prop, (∀ σ' H', N σ' H' → ∃ m', m' < m ∧ W (i + 1) m' σ' H') ∧ ∀ x H', (Itr 0 j.toNat).yld i H x H' → g x σ H' fun σ2 H2 => tb { D with nx := N, ct := N, bk := D.nx } σ2 H2) := by
  refine ⟨(n : Int), rfl, by omega, by omega, ?_⟩
  rw [Int.toNat_natCast]
  refine for_range Pv h0 (fun i σ H hi p => ?_) hd
  rw [Int.zero_add]
  exact hs i σ H hi p
theorem l_rng2 {a n : Nat} (han : a ≤ n) (hn : n < 2 ^ 62) (Pv : Nat → L2.St → Hp → Prop) (h0 : Pv 0 σ H)
    (hs : ∀ i σ H, a + i < n → Pv i σ H → g (natV (a + i)) σ H fun σ2 H2 => tb { D with nx := Pv (i + 1), ct := Pv (i + 1), bk := D.nx } σ2 H2) (hd : ∀ σ H, Pv (n - a) σ H → D.nx σ H) :
    ∃ i j : Int, [natV a, natV n] = [V.int i, V.int j] ∧ (-(2 ^ 62) ≤ i ∧ i < 2 ^ 62 ∧ -(2 ^ 62) ≤ j ∧ j < 2 ^ 62) ∧ ∃ W : Nat → Nat → L2.St → Hp → Prop, (∃ m, W 0 m σ H) ∧ ∀ k m σ H, W k m σ H →
    ((Itr i (j - i).toNat).stop k H ∧ D.nx σ H) ∨ ((Itr i (j - i).toNat).go k H ∧ ∃ N : L2.St → Hp → Prop, (∀ σ' H', N σ' H' → ∃ m', m' < m ∧ W (k + 1) m' σ' H') ∧ ∀ x H', (Itr i (j - i).toNat).yld k H x H' → g x σ H' fun σ2 H2 => tb { D with nx := N, ct := N, bk := D.nx } σ2 H2) := by
  refine ⟨(a : Int), (n : Int), rfl, ⟨by omega, by omega, by omega, by omega⟩, ?_⟩
  rw [show ((n : Int) - (a : Int)).toNat = n - a by omega]
  refine for_range Pv h0 (fun i σ H hi p => ?_) hd
  have := hs i σ H (by omega) p
  exact this
theorem l_while (W : Nat → L2.St → Hp → Prop) (m : Nat) (h0 : W m σ H) (hs : ∀ m σ H, W m σ H → c σ H fun b H1 => if b = true then tb { D with nx := fun σ' H' => ∃ m', m' < m ∧ W m' σ' H', ct := fun σ' H' => ∃ m', m' < m ∧ W m' σ' H', bk := D.nx } σ H1 else D.nx σ H1)
    (mono : ∀ σ H (Q Q' : Bool → Hp → Prop), (∀ b H1, Q b H1 → Q' b H1) → c σ H Q → c σ H Q') : tWhile c tb D σ H := by
  refine ⟨W, ⟨m, h0⟩, fun m σ H w => mono σ H _ _ (fun b H1 q => ?_) (hs m σ H w)⟩
  cases b with
  | true => exact ⟨_, fun _ _ h => h, q⟩
  | false => exact q
/-- the body in the test's own words -/
theorem l_whileN (W : Nat → L2.St → Hp → Prop) (m : Nat) (h0 : W m σ H) (hs : ∀ m σ H, W m σ H → c σ H fun b H1 => if b = true then ∃ N : L2.St → Hp → Prop, (∀ σ' H', N σ' H' → ∃ m', m' < m ∧ W m' σ' H') ∧ tb { D with nx := N, ct := N, bk := D.nx } σ H1 else D.nx σ H1) : tWhile c tb D σ H := ⟨W, ⟨m, h0⟩, hs⟩
theorem l_turn {W : Nat → L2.St → Hp → Prop} {m : Nat} (q : tb { D with nx := fun σ' H' => ∃ m', m' < m ∧ W m' σ' H', ct := fun σ' H' => ∃ m', m' < m ∧ W m' σ' H', bk := D.nx } σ H) :
    ∃ N : L2.St → Hp → Prop, (∀ σ' H', N σ' H' → ∃ m', m' < m ∧ W m' σ' H') ∧ tb { D with nx := N, ct := N, bk := D.nx } σ H := ⟨_, fun _ _ h => h, q⟩
theorem i_tupRev {te : TE} {Q : VK} (q : te σ H fun x H1 => ∃ a xs, x = .ref a ∧ SqL K H1 a xs ∧ ∀ p H2, Same H1 H2 → SqT K H2 p xs.reverse → Q (.ref p) H2) : tTupRevN K te σ H Q := q
theorem i_revL {te : TE} {Q : VK} (q : te σ H fun x H1 => ∃ a xs, x = .ref a ∧ SqL K H1 a xs ∧ ∀ p H2, H1 p = none → Same H1 H2 → H2 p = some (.lst xs.reverse) → Q (.ref p) H2) : tRevLN K te σ H Q := q
theorem i_exseq {a : Addr} {xs : List V} {A : Addr → List V → Prop} (h : SqL K H a xs) (q : A a xs) : ∃ a' xs', V.ref a = .ref a' ∧ SqL K H a' xs' ∧ A a' xs' := ⟨a, xs, rfl, h, q⟩
/-! list comprehensions: their wish is told behind the list's own end -/
def LcTurn (D : Addr) (g : TG) (tt : TT) (te : TE) (vs : List Nat) (σ : L2.St) (P : Hp → Prop) (x : V) (H' : Hp) : Prop :=
  g x (wipe σ vs) H' fun σ2 H2 => wipe σ2 vs = wipe σ vs ∧ tt σ2 H2 fun b H3 => if b = true then te σ2 H3 fun y H4 => ∃ acc, H4 D = some (.lst acc) ∧ acc.length < sizeLine ∧ P (upd H4 D (.lst (acc ++ [y]))) else P H3
def tLcR (ta : TA) (g : TG) (tt : TT) (te : TE) (vs : List Nat) : TE := fun σ H Q => ta σ H fun us H1 => ∃ n : Nat, us = [natV n] ∧ n < 2 ^ 62 ∧ ∀ D, H1 D = none → ∃ Pv : Nat → Hp → Prop, Pv 0 (upd H1 D (.lst [])) ∧
  (∀ i H', i < n → Pv i H' → LcTurn D g tt te vs σ (Pv (i + 1)) (natV i) H') ∧ ∀ H', Pv n H' → Q (.ref D) H'
def tLcL (K : PySem.W.Frag) (tl : TE) (g : TG) (tt : TT) (te : TE) (vs : List Nat) : TE := fun σ H Q => tl σ H fun u H1 => ∃ a xs, u = .ref a ∧ SqL K H1 a xs ∧ ∀ D, H1 D = none → ∃ Pv : Nat → Hp → Prop, Pv 0 (upd H1 D (.lst [])) ∧
  (∀ i H', i ≤ xs.length → Pv i H' → SqL K H' a xs) ∧ (∀ i x H', xs[i]? = some x → Pv i H' → LcTurn D g tt te vs σ (Pv (i + 1)) x H') ∧ ∀ H', Pv xs.length H' → Q (.ref D) H'
def tLcT (K : PySem.W.Frag) (tl : TE) (g : TG) (tt : TT) (te : TE) (vs : List Nat) : TE := fun σ H Q => tl σ H fun u H1 => ∃ a xs, u = .ref a ∧ SqT K H1 a xs ∧ ∀ D, H1 D = none → ∃ Pv : Nat → Hp → Prop, Pv 0 (upd H1 D (.lst [])) ∧
  (∀ i H', i ≤ xs.length → Pv i H' → SqT K H' a xs) ∧ (∀ i x H', xs[i]? = some x → Pv i H' → LcTurn D g tt te vs σ (Pv (i + 1)) x H') ∧ ∀ H', Pv xs.length H' → Q (.ref D) H'
section
variable {X : Cx} {tg : Expr} {ta : TA} {tl : TE} {tt : TT} {te : TE} {vs : List Nat} {Q : VK}
theorem lcR_of (q : tLcR ta g tt te vs σ H Q) : tLc (iRng1 (wkA ta)) g tt te vs σ H Q := ⟨_, q, fun us H1 ⟨n, e, hn, k⟩ => by
  subst e
  refine ⟨(n : Int), rfl, by omega, by omega, fun D hD => ?_⟩
  rw [Int.toNat_natCast]
  obtain ⟨Pv, h0, hs, hd⟩ := k D hD
  refine lc_range Pv h0 (fun i H' hi p => ?_) hd
  rw [Int.zero_add]
  exact hs i H' hi p⟩
theorem lcL_of (q : tLcL K tl g tt te vs σ H Q) : tLc (iList K (wkE tl)) g tt te vs σ H Q := ⟨_, q, fun us H1 ⟨a, xs, e, hx, k⟩ => by
  subst e
  refine ⟨a, rfl, ⟨xs, hx⟩, fun D hD => ?_⟩
  obtain ⟨Pv, h0, hl, hs, hd⟩ := k D hD
  exact lc_list Pv h0 hl hs hd⟩
theorem lcT_of (q : tLcT K tl g tt te vs σ H Q) : tLc (iTup K (wkE tl)) g tt te vs σ H Q := ⟨_, q, fun us H1 ⟨a, xs, e, hx, k⟩ => by
  subst e
  refine ⟨a, rfl, ⟨xs, hx⟩, fun D hD => ?_⟩
  obtain ⟨Pv, h0, hl, hs, hd⟩ := k D hD
  exact lc_tup Pv h0 hl hs hd⟩
theorem PS.imp {st : Stmt} {t t' : TS} (h : PS X st t) (i : ∀ D σ H, t' D σ H → t D σ H) : PS X st t' := ⟨fun pins s σ H D I q => h.run pins s σ H D I (i D σ H q)⟩
end
theorem i_lcR {ta : TA} {tt : TT} {te : TE} {vs : List Nat} {Q : VK} (q : ta σ H fun us H1 => ∃ n : Nat, us = [natV n] ∧ n < 2 ^ 62 ∧ ∀ D, H1 D = none → ∃ Pv : Nat → Hp → Prop, Pv 0 (upd H1 D (.lst [])) ∧
  (∀ i H', i < n → Pv i H' → LcTurn D g tt te vs σ (Pv (i + 1)) (natV i) H') ∧ ∀ H', Pv n H' → Q (.ref D) H') : tLcR ta g tt te vs σ H Q := q
theorem i_lcL {tl : TE} {tt : TT} {te : TE} {vs : List Nat} {Q : VK} (q : tl σ H fun u H1 => ∃ a xs, u = .ref a ∧ SqL K H1 a xs ∧ ∀ D, H1 D = none → ∃ Pv : Nat → Hp → Prop, Pv 0 (upd H1 D (.lst [])) ∧
  (∀ i H', i ≤ xs.length → Pv i H' → SqL K H' a xs) ∧ (∀ i x H', xs[i]? = some x → Pv i H' → LcTurn D g tt te vs σ (Pv (i + 1)) x H') ∧ ∀ H', Pv xs.length H' → Q (.ref D) H') : tLcL K tl g tt te vs σ H Q := q
theorem i_lcT {tl : TE} {tt : TT} {te : TE} {vs : List Nat} {Q : VK} (q : tl σ H fun u H1 => ∃ a xs, u = .ref a ∧ SqT K H1 a xs ∧ ∀ D, H1 D = none → ∃ Pv : Nat → Hp → Prop, Pv 0 (upd H1 D (.lst [])) ∧
  (∀ i H', i ≤ xs.length → Pv i H' → SqT K H' a xs) ∧ (∀ i x H', xs[i]? = some x → Pv i H' → LcTurn D g tt te vs σ (Pv (i + 1)) x H') ∧ ∀ H', Pv xs.length H' → Q (.ref D) H') : tLcT K tl g tt te vs σ H Q := q
theorem i_lct {D : Addr} {tt : TT} {te : TE} {vs : List Nat} {P : Hp → Prop} {x : V} (q : g x (wipe σ vs) H fun σ2 H2 => wipe σ2 vs = wipe σ vs ∧ tt σ2 H2 fun b H3 => if b = true then te σ2 H3 fun y H4 => ∃ acc, H4 D = some (.lst acc) ∧ acc.length < sizeLine ∧ P (upd H4 D (.lst (acc ++ [y]))) else P H3) :
  LcTurn D g tt te vs σ P x H := q
theorem i_yes1 {QB : Bool → Hp → Prop} (q : QB true H) : tYes σ H QB := q
theorem i_lcg {A : Prop} {σ2 : L2.St} {vs : List Nat} (q : A) (e : wipe σ2 vs = wipe σ vs := by rfl) : wipe σ2 vs = wipe σ vs ∧ A := ⟨e, q⟩
theorem i_lcput {D : Addr} {acc : List V} {P : List V → Prop} (h : H D = some (.lst acc)) (hz : acc.length ≤ 100000) (q : P acc) : ∃ acc, H D = some (.lst acc) ∧ acc.length < sizeLine ∧ P acc := ⟨acc, h, Nat.lt_of_le_of_lt hz (by decide), q⟩
end
end Sx
end
section
/-! figures to sixty -/
namespace Sx
open PySem L2
/-- the number that figures tell -/
def whole (r : List Nat) : Nat := r.foldl (fun a d => a * 60 + d) 0
/-- figures, ones first -/
def figsF : Nat → Nat → List Nat
  | 0, _ => []
  | f + 1, n => if n = 0 then [] else n % 60 :: figsF f (n / 60)
def stripF : Nat → Nat → Nat
  | 0, n => n
  | f + 1, n => if n % 60 = 0 then stripF f (n / 60) else n
def figsL (n : Nat) : List Nat := figsF n n
def figs (n : Nat) : List Nat := (figsL n).reverse
def strip (n : Nat) : Nat := stripF n n
def rowOf (n : Nat) : List Nat := figs (strip n)
structure IsRow (r : List Nat) : Prop where
  len : 1 ≤ r.length ∧ r.length ≤ 12
  fig : ∀ d ∈ r, d < 60
  hd : r[0]? ≠ some 0
  last : r.getLast? ≠ some 0

theorem figsF_more : ∀ (f g n : Nat), n ≤ f → n ≤ g → figsF f n = figsF g n
  | 0, 0, _, _, _ => rfl
  | 0, g + 1, n, h, _ => by
    have : n = 0 := by omega
    subst this
    simp [figsF]
  | f + 1, 0, n, _, h => by
    have : n = 0 := by omega
    subst this
    simp [figsF]
  | f + 1, g + 1, n, h1, h2 => by
    unfold figsF
    by_cases h : n = 0
    · rw [if_pos h, if_pos h]
    · rw [if_neg h, if_neg h, figsF_more f g (n / 60) (by omega) (by omega)]
theorem figsL_zero : figsL 0 = [] := rfl
theorem figsL_pos {n : Nat} (h : 0 < n) : figsL n = n % 60 :: figsL (n / 60) := by
  unfold figsL
  rw [show n = (n - 1) + 1 by omega]
  show (if n - 1 + 1 = 0 then [] else _) = _
  rw [if_neg (by omega)]
  congr 1
  exact figsF_more _ _ _ (by omega) (by omega)
theorem figsL_lt (n : Nat) : ∀ d ∈ figsL n, d < 60 := by
  induction n using Nat.strongRecOn with
  | ind n ih =>
    by_cases h : n = 0
    · subst h; simp [figsL_zero]
    · rw [figsL_pos (by omega)]
      intro d hd
      rcases List.mem_cons.mp hd with rfl | hd
      · omega
      · exact ih (n / 60) (by omega) d hd
theorem figsL_len : ∀ (k n : Nat), n < 60 ^ k → (figsL n).length ≤ k
  | 0, n, h => by
    have : n = 0 := by simpa using h
    subst this; simp [figsL_zero]
  | k + 1, n, h => by
    by_cases h0 : n = 0
    · subst h0; simp [figsL_zero]
    · rw [figsL_pos (by omega), List.length_cons]
      have := figsL_len k (n / 60) (by rw [Nat.pow_succ] at h; omega)
      omega
def wholeL : List Nat → Nat
  | [] => 0
  | d :: r => d + 60 * wholeL r
theorem whole_append (r : List Nat) (d : Nat) : whole (r ++ [d]) = whole r * 60 + d := by
  unfold whole; rw [List.foldl_append]; rfl
theorem whole_rev : ∀ l : List Nat, whole l.reverse = wholeL l
  | [] => rfl
  | d :: r => by
    rw [List.reverse_cons, whole_append, whole_rev r]
    show wholeL r * 60 + d = d + 60 * wholeL r
    omega
theorem wholeL_figs (n : Nat) : wholeL (figsL n) = n := by
  induction n using Nat.strongRecOn with
  | ind n ih =>
    by_cases h : n = 0
    · subst h; rfl
    · rw [figsL_pos (by omega)]
      show n % 60 + 60 * wholeL (figsL (n / 60)) = n
      rw [ih (n / 60) (by omega)]; omega
theorem whole_figs (n : Nat) : whole (figs n) = n := by rw [figs, whole_rev, wholeL_figs]
theorem wholeL_pos : ∀ {l : List Nat}, l ≠ [] → l.getLast? ≠ some 0 → 0 < wholeL l
  | [], h, _ => absurd rfl h
  | [d], _, h => by
    have : d ≠ 0 := fun e => h (by rw [e]; rfl)
    show 0 < d + 60 * 0
    omega
  | d :: e :: r, _, h => by
    have := wholeL_pos (l := e :: r) (by simp) (by rw [List.getLast?_cons_cons] at h; exact h)
    show 0 < d + 60 * wholeL (e :: r)
    omega
theorem figsL_wholeL : ∀ {l : List Nat}, (∀ d ∈ l, d < 60) → l.getLast? ≠ some 0 → figsL (wholeL l) = l
  | [], _, _ => rfl
  | [d], hl, h => by
    have h0 : d ≠ 0 := fun e => h (by rw [e]; rfl)
    have h1 := hl d (by simp)
    show figsL (d + 60 * 0) = [d]
    rw [show d + 60 * 0 = d by omega, figsL_pos (by omega), show d / 60 = 0 by omega, show d % 60 = d by omega, figsL_zero]
  | d :: e :: r, hl, h => by
    have h1 := hl d (by simp)
    have ih := figsL_wholeL (l := e :: r) (fun x hx => hl x (List.mem_cons_of_mem _ hx)) (by rw [List.getLast?_cons_cons] at h; exact h)
    have hp := wholeL_pos (l := e :: r) (by simp) (by rw [List.getLast?_cons_cons] at h; exact h)
    show figsL (d + 60 * wholeL (e :: r)) = _
    rw [figsL_pos (by omega), show (d + 60 * wholeL (e :: r)) / 60 = wholeL (e :: r) by omega, show (d + 60 * wholeL (e :: r)) % 60 = d by omega, ih]
theorem head_rev {α : Type} (l : List α) : l.reverse.getLast? = l[0]? := by
  rw [List.getLast?_reverse, List.head?_eq_getElem?]
theorem whole_eq (r : List Nat) : whole r = wholeL r.reverse := by
  rw [← whole_rev, List.reverse_reverse]
theorem figs_whole {r : List Nat} (h1 : ∀ d ∈ r, d < 60) (h2 : r[0]? ≠ some 0) : figs (whole r) = r := by
  rw [figs, whole_eq, figsL_wholeL (fun d hd => h1 d (List.mem_reverse.mp hd)) (by rw [head_rev]; exact h2), List.reverse_reverse]
theorem whole_pos {r : List Nat} (h1 : r ≠ []) (h2 : r[0]? ≠ some 0) : 0 < whole r := by
  rw [whole_eq]
  exact wholeL_pos (by simpa using h1) (by rw [head_rev]; exact h2)
theorem whole_last {r : List Nat} (h1 : ∀ d ∈ r, d < 60) (h2 : r ≠ []) (h : r.getLast? ≠ some 0) : whole r % 60 ≠ 0 := by
  have e := List.dropLast_concat_getLast h2
  rw [← e, whole_append]
  have hl := h1 _ (List.getLast_mem h2)
  have hn : r.getLast h2 ≠ 0 := fun z => h (by rw [List.getLast?_eq_getLast h2, z])
  omega
theorem whole_lt : ∀ {k : Nat} {r : List Nat}, (∀ d ∈ r, d < 60) → r.length ≤ k → whole r < 60 ^ k := by
  intro k r h1 h2
  rw [whole_eq]
  have key : ∀ (l : List Nat) (k : Nat), (∀ d ∈ l, d < 60) → l.length ≤ k → wholeL l < 60 ^ k := by
    intro l
    induction l with
    | nil => intro k _ _; exact Nat.pos_of_ne_zero (by simp)
    | cons d r ih =>
      intro k hd hk
      cases k with
      | zero => simp at hk
      | succ k =>
        have := ih k (fun x hx => hd x (List.mem_cons_of_mem _ hx)) (by simpa using hk)
        have h0 := hd d (by simp)
        show d + 60 * wholeL r < 60 ^ (k + 1)
        rw [Nat.pow_succ]; omega
  exact key _ _ (fun d hd => h1 d (List.mem_reverse.mp hd)) (by simpa using h2)
/-! strip -/
theorem stripF_more : ∀ (f g n : Nat), 0 < n → n ≤ f → n ≤ g → stripF f n = stripF g n
  | 0, _, n, h, h1, _ => by omega
  | _ + 1, 0, n, h, _, h2 => by omega
  | f + 1, g + 1, n, h, h1, h2 => by
    unfold stripF
    by_cases e : n % 60 = 0
    · rw [if_pos e, if_pos e, stripF_more f g (n / 60) (by omega) (by omega) (by omega)]
    · rw [if_neg e, if_neg e]
theorem strip_yes {n : Nat} (h : 0 < n) (e : n % 60 = 0) : strip n = strip (n / 60) := by
  unfold strip
  rw [show n = (n - 1) + 1 by omega]
  show (if (n - 1 + 1) % 60 = 0 then _ else _) = _
  rw [if_pos (by rw [show n - 1 + 1 = n by omega]; exact e)]
  exact stripF_more _ _ _ (by omega) (by omega) (by omega)
theorem strip_no {n : Nat} (h : 0 < n) (e : n % 60 ≠ 0) : strip n = n := by
  unfold strip
  rw [show n = (n - 1) + 1 by omega]
  show (if (n - 1 + 1) % 60 = 0 then _ else _) = _
  rw [if_neg (by rw [show n - 1 + 1 = n by omega]; exact e)]
theorem strip_spec (n : Nat) (h : 0 < n) : 0 < strip n ∧ strip n % 60 ≠ 0 ∧ ∃ k, n = strip n * 60 ^ k := by
  induction n using Nat.strongRecOn with
  | ind n ih =>
    by_cases e : n % 60 = 0
    · rw [strip_yes h e]
      obtain ⟨h1, h2, k, h3⟩ := ih (n / 60) (by omega) (by omega)
      refine ⟨h1, h2, k + 1, ?_⟩
      rw [Nat.pow_succ, ← Nat.mul_assoc, ← h3]; omega
    · rw [strip_no h e]
      exact ⟨h, e, 0, by simp⟩
theorem strip_le {n : Nat} (h : 0 < n) : strip n ≤ n := by
  obtain ⟨_, _, k, e⟩ := strip_spec n h
  have : 0 < 60 ^ k := Nat.pos_of_ne_zero (by simp)
  calc strip n = strip n * 1 := by omega
    _ ≤ strip n * 60 ^ k := Nat.mul_le_mul_left _ this
    _ = n := e.symm
theorem rowOf_whole {r : List Nat} (h : IsRow r) : rowOf (whole r) = r := by
  have hne : r ≠ [] := by
    rintro rfl
    have := h.len.1
    simp at this
  rw [rowOf, strip_no (whole_pos hne h.hd) (whole_last h.fig hne h.last), figs_whole h.fig h.hd]
theorem figs_head {n : Nat} (h : 0 < n) : (figs n)[0]? ≠ some 0 := by
  rw [figs, ← List.head?_eq_getElem?, List.head?_reverse]
  have key : ∀ n : Nat, 0 < n → (figsL n).getLast? ≠ some 0 := by
    intro n
    induction n using Nat.strongRecOn with
    | ind n ih =>
      intro hp
      rw [figsL_pos hp]
      by_cases h0 : n / 60 = 0
      · rw [h0, figsL_zero]
        intro e
        have : n % 60 = 0 := Option.some.inj e
        omega
      · have hq := ih (n / 60) (by omega) (by omega)
        rw [figsL_pos (n := n / 60) (by omega)] at hq ⊢
        rw [List.getLast?_cons_cons]
        exact hq
  exact key n h
theorem figs_last {n : Nat} (h : 0 < n) (e : n % 60 ≠ 0) : (figs n).getLast? ≠ some 0 := by
  rw [figs, head_rev, figsL_pos h]
  intro z
  exact e (Option.some.inj z)
theorem figs_lt (n : Nat) : ∀ d ∈ figs n, d < 60 := fun d hd => figsL_lt n d (List.mem_reverse.mp hd)
theorem figs_len {k n : Nat} (h : n < 60 ^ k) : (figs n).length ≤ k := by
  rw [figs, List.length_reverse]; exact figsL_len k n h
theorem figs_len1 {n : Nat} (h : 0 < n) : 1 ≤ (figs n).length := by
  rw [figs, List.length_reverse, figsL_pos h, List.length_cons]; omega
theorem isRow_rowOf {n : Nat} (h : 0 < n) (hl : (rowOf n).length ≤ 12) : IsRow (rowOf n) := by
  obtain ⟨h1, h2, _⟩ := strip_spec n h
  exact ⟨⟨figs_len1 h1, hl⟩, figs_lt _, figs_head h1, figs_last h1 h2⟩
theorem isRow_small {n : Nat} (h : 0 < n) (hl : n < 60 ^ 12) : IsRow (rowOf n) :=
  isRow_rowOf h (figs_len (Nat.lt_of_le_of_lt (strip_le h) hl))
/-! casts -/
theorem sum_mod : ∀ l : List Nat, l.sum % 59 = wholeL l % 59
  | [] => rfl
  | d :: r => by
    have := sum_mod r
    rw [List.sum_cons]
    show (d + r.sum) % 59 = (d + 60 * wholeL r) % 59
    omega
theorem whole_mod (r : List Nat) : r.sum % 59 = whole r % 59 := by
  rw [whole_eq, ← sum_mod, List.sum_reverse]
theorem pow60_mod : ∀ k : Nat, 60 ^ k % 59 = 1
  | 0 => rfl
  | k + 1 => by rw [Nat.pow_succ, Nat.mul_mod, pow60_mod k]
theorem strip_mod {n : Nat} (h : 0 < n) : strip n % 59 = n % 59 := by
  obtain ⟨_, _, k, e⟩ := strip_spec n h
  calc strip n % 59 = strip n % 59 * 1 % 59 := by omega
    _ = (strip n % 59) * (60 ^ k % 59) % 59 := by rw [pow60_mod]
    _ = (strip n * 60 ^ k) % 59 := (Nat.mul_mod _ _ _).symm
    _ = n % 59 := by rw [← e]
theorem cast_rowOf {n : Nat} (h : 0 < n) : (rowOf n).sum % 59 = n % 59 := by
  rw [whole_mod, rowOf, whole_figs, strip_mod h]
end Sx
end
section
/-! promises: rows.py and the laws' common helpers -/
namespace Sx
open PySem L2
def sp_check_row (K : PySem.W.Frag) : Sp := fun vs H Q _ => ∃ a r, vs = [.ref a] ∧ SqT K H a (rowV r) ∧ IsRow r ∧ Q .non H
def sp_whole_of (K : PySem.W.Frag) : Sp := fun vs H Q _ => ∃ a r, vs = [.ref a] ∧ SqT K H a (rowV r) ∧ IsRow r ∧ Q (natV (whole r)) H
def sp_figures_of (K : PySem.W.Frag) : Sp := fun vs H Q _ => ∃ n, vs = [natV n] ∧ n < 60 ^ 200 ∧ ∀ p H', Same H H' → SqT K H' p (rowV (figs n)) → Q (.ref p) H'
def sp_row_of (K : PySem.W.Frag) : Sp := fun vs H Q _ => ∃ n, vs = [natV n] ∧ 0 < n ∧ n < 60 ^ 200 ∧ ∀ p H', Same H H' → SqT K H' p (rowV (rowOf n)) → Q (.ref p) H'
def sp_times (K : PySem.W.Frag) : Sp := fun vs H Q _ => ∃ a b r1 r2, vs = [.ref a, .ref b] ∧ SqT K H a (rowV r1) ∧ IsRow r1 ∧ SqT K H b (rowV r2) ∧ IsRow r2 ∧
  ∀ p H', Same H H' → SqT K H' p (rowV (rowOf (whole r1 * whole r2))) → Q (.ref p) H'
def sp_cast (K : PySem.W.Frag) : Sp := fun vs H Q _ => ∃ a r, vs = [.ref a] ∧ SqT K H a (rowV r) ∧ IsRow r ∧ Q (natV (r.sum % 59)) H
/-- the drawing list: the script, a place, a mixed number, what is left of a great one -/
def DiceL (H : Hp) (d sc : Addr) : Prop := ∃ i m r : Nat, H d = some (.lst [.ref sc, natV i, natV m, natV r]) ∧ m < 2147483647
def Script (K : PySem.W.Frag) (H : Hp) (d sc : Addr) : Prop := ∃ ns : List Int, ns.length ≤ 63 ∧ ∀ H2, SB d H H2 → SqL K H2 sc (ns.map V.int)
def Dice (K : PySem.W.Frag) (H : Hp) (d : Addr) : Prop := ∃ sc, DiceL H d sc ∧ Script K H d sc
/-- drawn: the drawing list goes on, all else stands -/
def Drew (d : Addr) (H H' : Hp) : Prop := SB d H H' ∧ ∀ sc, DiceL H d sc → DiceL H' d sc
theorem Drew.refl (d : Addr) (H : Hp) : Drew d H H := ⟨SB.refl _ _, fun _ h => h⟩
theorem Drew.trans {d : Addr} {H H1 H2 : Hp} (a : Drew d H H1) (b : Drew d H1 H2) : Drew d H H2 := ⟨a.1.trans b.1, fun sc h => b.2 sc (a.2 sc h)⟩
theorem Drew.of {d : Addr} {H H1 : Hp} (b : Same H H1) : Drew d H H1 := ⟨Same.sb b, fun _ ⟨i, m, r, h, l⟩ => ⟨i, m, r, b _ _ h, l⟩⟩
theorem Drew.same {d : Addr} {H H1 H2 : Hp} (a : Drew d H H1) (b : Same H1 H2) : Drew d H H2 := a.trans (Drew.of b)
theorem Dice.drew {K : PySem.W.Frag} {H H' : Hp} {d : Addr} (x : Dice K H d) (e : Drew d H H') : Dice K H' d := by
  obtain ⟨sc, h, ns, hl, hs⟩ := x
  exact ⟨sc, e.2 sc h, ns, hl, fun H2 s => hs H2 (e.1.trans s)⟩
theorem Dice.lst {K : PySem.W.Frag} {H : Hp} {d : Addr} (x : Dice K H d) : ∃ xs, H d = some (.lst xs) := by
  obtain ⟨sc, ⟨i, m, r, h, _⟩, _⟩ := x
  exact ⟨_, h⟩
theorem Dice.ne {K : PySem.W.Frag} {H : Hp} {d p : Addr} (x : Dice K H d) (h : H p = none) : p ≠ d := by
  rintro rfl
  obtain ⟨zs, e⟩ := x.lst
  rw [e] at h; cases h
theorem Dice.row {K : PySem.W.Frag} {H H' : Hp} {d a : Addr} {xs : List V} (x : Dice K H d) (s : Drew d H H') (h : SqT K H a xs) : SqT K H' a xs := by
  obtain ⟨ys, e⟩ := x.lst
  exact SB.seqT s.1 e h
/-- what is not known behind was not known ahead -/
theorem Drew.back {K : PySem.W.Frag} {H H' : Hp} {d p : Addr} (x : Dice K H d) (e : Drew d H H') (h : H' p = none) : H p = none := by
  cases z : H p with
  | none => rfl
  | some o =>
    have hne := (x.drew e).ne h
    rw [e.1 _ _ hne z] at h; cases h
/-- a new object, changed -/
theorem Drew.mut {d p : Addr} {H H1 : Hp} {o : HO} (a : Drew d H H1) (h : H p = none) (hd : p ≠ d) : Drew d H (upd H1 p o) :=
  ⟨SB.mut a.1 h, fun sc x => by
    obtain ⟨i, m, r, e, l⟩ := a.2 sc x
    exact ⟨i, m, r, by rw [upd_ne hd.symm]; exact e, l⟩⟩
def sp__law_dice (K : PySem.W.Frag) : Sp := fun vs H Q _ => ∃ (a : Addr) (ns : List Int), vs = [.ref a] ∧ SqL K H a (ns.map V.int) ∧ ns.length ≤ 63 ∧ ∀ d H', H d = none → Same H H' → DiceL H' d a → Q (.ref d) H'
def sp__law_next (K : PySem.W.Frag) : Sp := fun vs H Q _ => ∃ (d : Addr) (m : Nat), vs = [.ref d, natV m] ∧ Dice K H d ∧ 0 < m ∧ m < 1073741824 ∧ ∀ n H', n < m → Drew d H H' → Q (natV n) H'
def sp__law_whole_of (K : PySem.W.Frag) : Sp := fun vs H Q _ => ∃ a r, vs = [.ref a] ∧ SqT K H a (rowV r) ∧ r.length ≤ 1000 ∧ Q (natV (whole r)) H
def sp__law_row (K : PySem.W.Frag) : Sp := fun vs H Q _ => ∃ n, vs = [natV n] ∧ 0 < n ∧ n < 60 ^ 200 ∧ ∀ p H', Same H H' → SqT K H' p (rowV (rowOf n)) → Q (.ref p) H'
def sp__law_smooth (K : PySem.W.Frag) : Sp := fun vs H Q _ => ∃ d, vs = [.ref d] ∧ Dice K H d ∧ ∀ a b c H', a ≤ 9 → b ≤ 9 → c ≤ 9 → Drew d H H' → Q (natV (2 ^ a * 3 ^ b * 5 ^ c)) H'
def sp__law_drawn (K : PySem.W.Frag) : Sp := fun vs H Q _ => ∃ (d : Addr) (m : Nat), vs = [.ref d, natV m] ∧ Dice K H d ∧ 2 ≤ m ∧ m ≤ 12 ∧
  ∀ p r H', IsRow r → r.length ≤ m → Drew d H H' → SqT K H' p (rowV r) → Q (.ref p) H'
/-- data of a depth: what the laws' own likeness looks at -/
def plainD : Nat → PyData → Prop
  | _, .none => True
  | _, .bool _ => False
  | _, .int _ => True
  | _, .str x => PyData.canLay0 (.str x) = true
  | 0, .list _ => False
  | 0, .tuple _ => False
  | n + 1, .list ds => ds.length ≤ 100000 ∧ ∀ d ∈ ds, plainD n d
  | n + 1, .tuple ds => ds.length ≤ 100000 ∧ ∀ d ∈ ds, plainD n d
  | _, .dict _ => False
def spLike (K : PySem.W.Frag) : Nat → Sp
  | 0 => fun _ _ _ _ => False
  | n + 1 => fun vs H Q _ => ∃ x y D, vs = [x, y] ∧ Dp K H x D ∧ Dp K H y D ∧ plainD n D ∧ Q (.bl true) H
abbrev sp__law_like (K : PySem.W.Frag) : Sp := spLike K 7
end Sx
end
section
/-! dicts by truth values -/
namespace Sx
open PySem PySem.Spec PyProof.Rows L2
/-- the dict at a: its keys are truth values -/
def BD (a : Addr) (kvs : List (Bool × V)) : HO := .ext fun h => ∃ (P : Program) (w : World) (vs : List (Bool × Value)), KV kvs vs ∧ h.DictOf (PpSet.boolK P w) a vs
theorem bd_ok {P P' : Program} {w w' : World} {H : Hp} {h : Heap} {a : Addr} {kvs : List (Bool × V)} {vs : List (Bool × Value)} (r : KV kvs vs) (e : h.DictOf (PpSet.boolK P w) a vs) : ObjOk P' w' H h a (BD a kvs) := by
  refine ⟨⟨P, w, vs, r, e⟩, ?_, fun h1 h2 x k => ?_⟩
  · obtain ⟨o, _, _, ho, _⟩ := e
    exact ⟨o, ho⟩
  · obtain ⟨P, w, vs, r, o, es, ep, ho, z⟩ := x
    exact ⟨P, w, vs, r, o, es, ep, k o ho, z⟩
theorem pairs_any {P P' : Program} {w w' : World} : ∀ {es : List DictEntry} {vs : List (Bool × Value)}, Pairs (PpSet.boolK P w) es vs → Pairs (PpSet.boolK P' w') es vs
  | _, _, .nil => .nil
  | _, _, .cons h e r => .cons h e (pairs_any r)
theorem bd_at {P : Program} {w : World} {H : Hp} {h : Heap} {a : Addr} {kvs : List (Bool × V)} (x : HOk P w H h) (e : H a = some (BD a kvs)) : ∃ vs, KV kvs vs ∧ h.DictOf (PpSet.boolK P w) a vs := by
  obtain ⟨⟨_, _, vs, r, o, es, ep, ho, ex, dat, ks, ps, nd⟩, _⟩ := x a _ e
  exact ⟨vs, r, o, es, ep, ho, ex, dat, ks, pairs_any ps, nd⟩
theorem bd_nil {P : Program} {w : World} {H : Hp} {h : Heap} {a : Addr} (x : HOk P w H h) (e : H a = some (.dK [])) : h.DictOf (PpSet.boolK P w) a [] := by
  obtain ⟨_, _, vs, r, o, es, ep, ho, ex, dat, _, ps, _⟩ := dk_of x e
  cases r
  have key : ∀ {l : List DictEntry} {r : List (Key × Value)}, Pairs (mixKind P w) l r → r = [] → l = [] := fun p z => by
    cases p with
    | nil => rfl
    | cons _ _ _ => cases z
  have nil : es.toList = [] := key ps rfl
  have ne : ∀ z, z ∉ es := fun z m => by
    rw [← Array.mem_toList_iff, nil] at m
    cases m
  exact ⟨o, es, ep, ho, ex, dat, fun z m => (ne z m).elim, by rw [nil]; exact .nil, List.nodup_nil⟩
def NoWr (H : Hp) (a : Addr) (kvs : List (Bool × V)) : Prop := (H a = some (.dK []) ∧ kvs = []) ∨ H a = some (BD a kvs)
/-- d[b] = v -/
def tPutB (td ty tv : TE) : TS := fun D σ H => tv σ H fun v H1 => td σ H1 fun x H2 => ty σ H2 fun y H3 => ∃ (a : Addr) (b : Bool) (kvs : List (Bool × V)), x = .ref a ∧ y = .bl b ∧ NoWr H3 a kvs ∧ kvs.length ≤ 1000 ∧ D.nx σ (upd H3 a (BD a (putK kvs b v)))
/-- d[b] -/
def tGetB (td ty : TE) : TE := fun σ H Q => td σ H fun x H1 => ty σ H1 fun y H2 => ∃ (a : Addr) (b : Bool) (kvs : List (Bool × V)) (v : V), x = .ref a ∧ y = .bl b ∧ H2 a = some (BD a kvs) ∧ valV kvs b = some v ∧ Q v H2
section
variable {X : Cx} {o i value : Expr} {pos pos' : Pos} {td ty tv : TE}
theorem ps_putB (ho : PE X o td) (hi : PE X i ty) (hv : PE X value tv) (hs : swapsWith value (some (.Subscript o i pos')) pos.line X.env = pure false := by rfl) : PS X (.Assign [.Subscript o i pos'] value pos) (tPutB td ty tv) := ⟨fun pins s σ H D I h => by
  refine wpAny_Assign_Subscript (thn (hv.run pins s σ H _ I h) fun r s1 ⟨v, H1, I1, rv, q1⟩ => thn (ho.run pins s1 σ H1 _ I1 q1) fun u s2 ⟨x, H2, I2, rx, q2⟩ => thn (hi.run pins s2 σ H2 _ I2 q2) fun iv s3 ⟨y, H3, I3, ry, a, b, kvs, ex, ey, w, l, q3⟩ => ?_) hs
  subst ex ey
  obtain rfl : u = Value.ref a := rx
  obtain rfl : iv = Value.bool b := ry
  have go : ∀ vs : List (Bool × Value), KV kvs vs → s3.heap.DictOf (PpSet.boolK X.prog X.w) a vs → Mut (H3 a) → wpAny (model X.prog X.w) X.A (setItem (.ref a) (.bool b) r) (fun _ t => SP X pins D .next t) X.xe s3 := fun vs rel dd mu => by
    have z : vs.length ≤ sizeLine := by rw [← rel.length, sizeLine_eq]; omega
    refine wpAny_setItem_pairs (hsz := z) (PpSet.boolK_is _ _ b) dd fun h' dd' sb => ?_
    · have there : ∃ z, h'.get? a = some z := by
        obtain ⟨z, _, _, e, _⟩ := dd'
        exact ⟨z, e⟩
      exact ⟨σ, _, d_write I3 mu sb there (bd_ok (rel.put b rv) dd'), q3⟩
  rcases w with ⟨e, rfl⟩ | e
  · exact go [] .nil (bd_nil I3.hok e) (by rw [e]; exact True.intro)
  · obtain ⟨vs, rel, dd⟩ := bd_at I3.hok e
    exact go vs rel dd (by rw [e]; exact True.intro)⟩
theorem pe_getB (ho : PE X o td) (hi : PE X i ty) (hs : NoSl i) : PE X (.Subscript o i pos) (tGetB td ty) := ⟨fun pins s σ H Q I h => by
  refine subD_of PySem.F.slot_dict_getitem.lookup hs (thn (ho.run pins s σ H _ I h) fun u s1 ⟨x, H1, I1, rx, q1⟩ => thn (hi.run pins s1 σ H1 _ I1 q1) fun iv s2 ⟨y, H2, I2, ry, a, b, kvs, v, ex, ey, e, l, q⟩ => ?_)
  subst ex ey
  obtain rfl : u = Value.ref a := rx
  obtain rfl : iv = Value.bool b := ry
  obtain ⟨vs, rel, dd⟩ := bd_at I2.hok e
  obtain ⟨w', hw, rw'⟩ := RelO.some_of (v := v) (o := valueAt vs b) (by rw [← l]; exact rel.val b)
  exact ⟨dd.typeIs, wpAny_getItem_of (PpSet.boolK_is _ _ b) dd.mapOf hw ⟨v, H2, I2.tok _, rw', q⟩⟩⟩
end
end Sx
end
section
/-! values as plain data, without the heap: what the heap tells of them, states, readings lifted from data -/
namespace Dx
open PySem L2 RT Sx
inductive Dt where
  | non | bl (b : Bool) | int (i : Int) | str (x : Str) | ty (n : String)
  | tup (xs : List Dt) | lst (xs : List Dt) | dK (ps : List (Key × Dt)) | dT (ps : List (List Key × Dt))
  | dice | fn (a : Addr) | scr (ns : List Int) | ktup (xs : List Dt) | scrT (ns : List Int)
abbrev nat (n : Nat) : Dt := .int (n : Int)
def keyD : Key → Dt
  | .inl i => .int i
  | .inr s => .str s
def keysD (k : List Key) : Dt := .tup (k.map keyD)
/-- what is frozen, and where the drawing list stands -/
structure Wd where
  F : Hp
  dl : Addr → Prop
  /-- among these: the tables of code objects -/
  tb : Addr → Prop := fun _ => False
/-- the name of a law's lambdas -/
def lamN : Str := ("law" : Str) ++ ".<locals>." ++ "<lambda>"
mutual
inductive Rp (K : PySem.W.Frag) (W : Wd) : V → Dt → Prop
  | non : Rp K W .non .non
  | bl (b : Bool) : Rp K W (.bl b) (.bl b)
  | int (i : Int) : Rp K W (.int i) (.int i)
  | str (x : Str) : Rp K W (.str x) (.str x)
  | ty (n : String) : Rp K W (.ty n) (.ty n)
  | tup {a : Addr} {vs : List V} {xs : List Dt} : W.F a = some (.tup vs) → RpL K W vs xs → Rp K W (.ref a) (.tup xs)
  | ktup {a : Addr} {vs : List V} {xs : List Dt} : (∀ H, SqT K H a vs) → RpL K W vs xs → Rp K W (.ref a) (.ktup xs)
  | lst {a : Addr} {vs : List V} {xs : List Dt} : W.F a = some (.lst vs) → RpL K W vs xs → Rp K W (.ref a) (.lst xs)
  | scr {a : Addr} {ns : List Int} : SqL K W.F a (ns.map V.int) → Rp K W (.ref a) (.scr ns)
  | dK {a : Addr} {ks : List (Key × V)} {ps : List (Key × Dt)} {o : Obj} : W.F a = some (.frz o (.dK ks)) → RpK K W ks ps → Rp K W (.ref a) (.dK ps)
  | dT {a : Addr} {ks : List (List Key × V)} {ps : List (List Key × Dt)} {o : Obj} : W.F a = some (.frz o (.dT ks)) → RpT K W ks ps → Rp K W (.ref a) (.dT ps)
  | dice {a : Addr} : W.dl a → ¬ W.tb a → Rp K W (.ref a) .dice
  | scrT {a : Addr} {ns : List Int} : SqL K W.F a (ns.map V.int) → (∀ c P, PySem.W.tabIn K "law" = some (c, P) → W.dl P ∧ W.tb P) → Rp K W (.ref a) (.scrT ns)
  | fn (a : Addr) : Rp K W (.ref a) (.fn a)
inductive RpL (K : PySem.W.Frag) (W : Wd) : List V → List Dt → Prop
  | nil : RpL K W [] []
  | cons {v : V} {x : Dt} {vs : List V} {xs : List Dt} : Rp K W v x → RpL K W vs xs → RpL K W (v :: vs) (x :: xs)
inductive RpK (K : PySem.W.Frag) (W : Wd) : List (Key × V) → List (Key × Dt) → Prop
  | nil : RpK K W [] []
  | cons {k : Key} {v : V} {x : Dt} {ks : List (Key × V)} {ps : List (Key × Dt)} : Rp K W v x → RpK K W ks ps → RpK K W ((k, v) :: ks) ((k, x) :: ps)
inductive RpT (K : PySem.W.Frag) (W : Wd) : List (List Key × V) → List (List Key × Dt) → Prop
  | nil : RpT K W [] []
  | cons {k : List Key} {v : V} {x : Dt} {ks : List (List Key × V)} {ps : List (List Key × Dt)} : Rp K W v x → RpT K W ks ps → RpT K W ((k, v) :: ks) ((k, x) :: ps)
end
theorem same_seqL {K : PySem.W.Frag} {H H' : Hp} {a : Addr} {xs : List V} (e : Same H H') (h : SqL K H a xs) : SqL K H' a xs := Same.seq e h
/-- the frozen grows -/
structure Wd.Le (W W' : Wd) : Prop where
  sF : Same W.F W'.F
  dd : ∀ d, W.dl d → W'.dl d
  tt : W'.tb = W.tb
theorem Wd.Le.refl (W : Wd) : W.Le W := ⟨Same.refl _, fun _ h => h, rfl⟩
theorem Wd.Le.trans {A B C : Wd} (a : A.Le B) (b : B.Le C) : A.Le C := ⟨Same.trans a.sF b.sF, fun d h => b.dd d (a.dd d h), b.tt.trans a.tt⟩
mutual
theorem Rp.le {K : PySem.W.Frag} {W W' : Wd} (l : W.Le W') : ∀ {v : V} {x : Dt}, Rp K W v x → Rp K W' v x
  | _, _, .non => .non
  | _, _, .bl b => .bl b
  | _, _, .int i => .int i
  | _, _, .str x => .str x
  | _, _, .ty n => .ty n
  | _, _, .tup h r => .tup (l.sF _ _ h) (r.le l)
  | _, _, .ktup h r => .ktup h (r.le l)
  | _, _, .lst h r => .lst (l.sF _ _ h) (r.le l)
  | _, _, .scr h => .scr (same_seqL l.sF h)
  | _, _, .dK h r => .dK (l.sF _ _ h) (r.le l)
  | _, _, .dT h r => .dT (l.sF _ _ h) (r.le l)
  | _, _, .dice h n => .dice (l.dd _ h) (by rw [l.tt]; exact n)
  | _, _, .scrT h t => .scrT (same_seqL l.sF h) fun c P e => ⟨l.dd _ (t c P e).1, by rw [l.tt]; exact (t c P e).2⟩
  | _, _, .fn a => .fn a
theorem RpL.le {K : PySem.W.Frag} {W W' : Wd} (l : W.Le W') : ∀ {v : List V} {x : List Dt}, RpL K W v x → RpL K W' v x
  | _, _, .nil => .nil
  | _, _, .cons a b => .cons (a.le l) (b.le l)
theorem RpK.le {K : PySem.W.Frag} {W W' : Wd} (l : W.Le W') : ∀ {v : List (Key × V)} {x : List (Key × Dt)}, RpK K W v x → RpK K W' v x
  | _, _, .nil => .nil
  | _, _, .cons a b => .cons (a.le l) (b.le l)
theorem RpT.le {K : PySem.W.Frag} {W W' : Wd} (l : W.Le W') : ∀ {v : List (List Key × V)} {x : List (List Key × Dt)}, RpT K W v x → RpT K W' v x
  | _, _, .nil => .nil
  | _, _, .cons a b => .cons (a.le l) (b.le l)
end
section
variable {K : PySem.W.Frag} {W W' : Wd}
theorem RpL.length : ∀ {vs : List V} {xs : List Dt}, RpL K W vs xs → vs.length = xs.length
  | _, _, .nil => rfl
  | _, _, .cons _ h => by rw [List.length_cons, List.length_cons, h.length]
theorem RpL.get : ∀ {vs : List V} {xs : List Dt} {i : Nat} {x : Dt}, RpL K W vs xs → xs[i]? = some x → ∃ v, vs[i]? = some v ∧ Rp K W v x
  | _, _, i, x, .nil, h => by simp at h
  | _, _, 0, x, .cons r _, h => by obtain rfl := Option.some.inj h; exact ⟨_, rfl, r⟩
  | _, _, i + 1, x, .cons _ r, h => RpL.get (i := i) r h
theorem RpL.getV : ∀ {vs : List V} {xs : List Dt} {i : Nat} {v : V}, RpL K W vs xs → vs[i]? = some v → ∃ x, xs[i]? = some x ∧ Rp K W v x
  | _, _, i, x, .nil, h => by simp at h
  | _, _, 0, x, .cons r _, h => by obtain rfl := Option.some.inj h; exact ⟨_, rfl, r⟩
  | _, _, i + 1, x, .cons _ r, h => RpL.getV (i := i) r h
theorem RpL.append : ∀ {vs ws : List V} {xs ys : List Dt}, RpL K W vs xs → RpL K W ws ys → RpL K W (vs ++ ws) (xs ++ ys)
  | _, _, _, _, .nil, h => h
  | _, _, _, _, .cons a b, h => .cons a (RpL.append b h)
theorem RpL.take : ∀ {vs : List V} {xs : List Dt} (n : Nat), RpL K W vs xs → RpL K W (vs.take n) (xs.take n)
  | _, _, 0, _ => .nil
  | _, _, _ + 1, .nil => .nil
  | _, _, n + 1, .cons a b => .cons a (RpL.take n b)
theorem RpL.drop : ∀ {vs : List V} {xs : List Dt} (n : Nat), RpL K W vs xs → RpL K W (vs.drop n) (xs.drop n)
  | _, _, 0, h => h
  | _, _, _ + 1, .nil => .nil
  | _, _, n + 1, .cons _ b => RpL.drop n b
theorem RpL.rev : ∀ {vs : List V} {xs : List Dt}, RpL K W vs xs → RpL K W vs.reverse xs.reverse
  | _, _, .nil => .nil
  | _, _, .cons a b => by rw [List.reverse_cons, List.reverse_cons]; exact (RpL.rev b).append (.cons a .nil)
theorem RpL.set : ∀ {vs : List V} {xs : List Dt} {v : V} {x : Dt} (i : Nat), Rp K W v x → RpL K W vs xs → RpL K W (vs.set i v) (xs.set i x)
  | _, _, _, _, _, _, .nil => .nil
  | _, _, _, _, 0, r, .cons _ b => .cons r b
  | _, _, _, _, i + 1, r, .cons a b => .cons a (RpL.set i r b)
theorem RpL.erase : ∀ {vs : List V} {xs : List Dt} (i : Nat), RpL K W vs xs → RpL K W (vs.eraseIdx i) (xs.eraseIdx i)
  | _, _, _, .nil => .nil
  | _, _, 0, .cons _ b => b
  | _, _, i + 1, .cons a b => .cons a (RpL.erase i b)
theorem RpL.ints : ∀ {ns : List Int}, RpL K W (ns.map V.int) (ns.map Dt.int)
  | [] => .nil
  | i :: _ => .cons (.int i) RpL.ints
theorem RpL.of_ints : ∀ {ns : List Int} {vs : List V}, RpL K W vs (ns.map Dt.int) → vs = ns.map V.int
  | [], _, .nil => rfl
  | i :: r, _, .cons (.int _) h => by rw [List.map_cons, RpL.of_ints h]
end
/-! the heap's part -/
def Ownish : HO → Prop
  | .lst _ => True
  | .dK _ => True
  | .dT _ => True
  | .ext φ => ∃ a kvs, Sx.BD a kvs = .ext φ
  | _ => False
theorem bd_code {a c : Addr} {kvs : List (Bool × V)} {q : Str} (z : Sx.BD a kvs = LamX.CodeO c q) : False := by
  unfold Sx.BD LamX.CodeO at z
  have z := HO.ext.inj z
  let ob : Obj := { cls := .none, data := .fields #[.none, .str q 0] }
  let hp : Heap := { objs := Array.replicate (a + c + 1) ob }
  have g : ∀ b, b < a + c + 1 → hp.get? b = some ob := fun b hb => by
    have e : hp.objs[b]? = some ob := by
      show (Array.replicate (a + c + 1) ob)[b]? = some ob
      rw [Array.getElem?_replicate, if_pos hb]
    unfold Heap.get?
    rw [e]
  have h2 := congrFun z hp
  have h3 := h2.mpr ⟨ob, _, _, g c (Nat.lt_succ_of_le (Nat.le_add_left c a)), rfl, rfl⟩
  obtain ⟨P, w, vs, _, o, es, ep, ho, ex, dat, _⟩ := h3
  rw [g a (Nat.lt_succ_of_le (Nat.le_add_right a c))] at ho
  obtain rfl := Option.some.inj ho
  cases dat
theorem ownish_code {c : Addr} {q : Str} (h : Ownish (LamX.CodeO c q)) : False := by
  obtain ⟨a, kvs, e⟩ := (show ∃ a kvs, Sx.BD a kvs = LamX.CodeO c q from h)
  exact bd_code e
theorem ownish_bd {a : Addr} {kvs : List (Bool × V)} : Ownish (Sx.BD a kvs) := ⟨a, kvs, rfl⟩
/-- the dict by truth values at p -/
def BoolO (p : Addr) (o : HO) (ks : List (Bool × V)) : Prop := (o = .dK [] ∧ ks = []) ∨ o = Sx.BD p ks
theorem BoolO.ownish {p : Addr} {o : HO} {ks : List (Bool × V)} (h : BoolO p o ks) : Ownish o := by
  rcases h with ⟨rfl, _⟩ | rfl
  · trivial
  · exact ownish_bd
inductive RpB (K : PySem.W.Frag) (W : Wd) : List (Bool × V) → List (Bool × Dt) → Prop
  | nil : RpB K W [] []
  | cons {k : Bool} {v : V} {x : Dt} {ks : List (Bool × V)} {ps : List (Bool × Dt)} : Rp K W v x → RpB K W ks ps → RpB K W ((k, v) :: ks) ((k, x) :: ps)
theorem RpB.le {K : PySem.W.Frag} {W W' : Wd} (l : W.Le W') : ∀ {v : List (Bool × V)} {x : List (Bool × Dt)}, RpB K W v x → RpB K W' v x
  | _, _, .nil => .nil
  | _, _, .cons a b => .cons (a.le l) (b.le l)
structure Frm (W : Wd) (H : Hp) (W' : Wd) (H' : Hp) : Prop where
  le : W.Le W'
  sH : ∀ p o, H p = some o → ¬ W.dl p → H' p = some o
  nF : ∀ p o, H p = some o → ¬ W.dl p → Ownish o → W.F p = none → W'.F p = none
  dn : ∀ d, W'.dl d → W.dl d ∨ H d = none
  kp : ∀ p, H' p = none → H p = none
/-- what may change: a drawing list, or a table of code objects -/
def Mu (K : PySem.W.Frag) (W : Wd) (H : Hp) (d : Addr) : Prop := (¬ W.tb d ∧ ∃ (sc : Addr) (ns : List Int), DiceL H d sc ∧ ns.length ≤ 63 ∧ SqL K W.F sc (ns.map V.int)) ∨ (W.tb d ∧ LamX.TabS H d lamN)
theorem Mu.isnt {K : PySem.W.Frag} {W : Wd} {H : Hp} {d : Addr} {o : HO} (m : Mu K W H d) (h : H d = some o) (h1 : ∀ xs, o ≠ .lst xs) (h2 : ∀ ps, o ≠ .tbl ps) : False := by
  rcases m with ⟨_, sc, ns, ⟨i, m, r, e, _⟩, _⟩ | ⟨_, ps, e, _⟩
  · rw [e] at h; exact h1 _ (Option.some.inj h).symm
  · rw [e] at h; exact h2 _ (Option.some.inj h).symm
theorem Mu.there {K : PySem.W.Frag} {W : Wd} {H : Hp} {d : Addr} (m : Mu K W H d) : H d ≠ none := by
  rcases m with ⟨_, sc, ns, ⟨i, m, r, e, _⟩, _⟩ | ⟨_, ps, e, _⟩ <;> (rw [e]; exact fun z => nomatch z)
/-- where neither it nor a code object changes -/
theorem Mu.mv {K : PySem.W.Frag} {W W' : Wd} {H H' : Hp} {d : Addr} (m : Mu K W H d) (ht : W'.tb = W.tb) (hF : Same W.F W'.F) (hd : H' d = H d) (hc : ∀ c, H c = some (LamX.CodeO c lamN) → H' c = some (LamX.CodeO c lamN)) : Mu K W' H' d := by
  rcases m with ⟨n, sc, ns, ⟨i, m, r, e, l⟩, h1, h2⟩ | ⟨n, ps, e, t, q⟩
  · exact .inl ⟨by rw [ht]; exact n, sc, ns, ⟨i, m, r, by rw [hd]; exact e, l⟩, h1, same_seqL hF h2⟩
  · exact .inr ⟨by rw [ht]; exact n, ps, by rw [hd]; exact e, t, fun pos cv h => by
      obtain ⟨c, e1, e2⟩ := q pos cv h
      exact ⟨c, e1, hc c e2⟩⟩
structure Ok (K : PySem.W.Frag) (W : Wd) (H : Hp) : Prop where
  sF : Same W.F H
  dc : ∀ d, W.dl d → W.F d = none ∧ Mu K W H d
  td : ∀ d, W.tb d → W.dl d
  nt : ∀ p ps, W.F p ≠ some (.tbl ps)
theorem Frm.refl (W : Wd) (H : Hp) : Frm W H W H := ⟨Wd.Le.refl W, fun _ _ h _ => h, fun _ _ _ _ _ h => h, fun _ h => .inl h, fun _ h => h⟩
theorem Frm.ndl {A B : Wd} {H1 H2 : Hp} (a : Frm A H1 B H2) {p : Addr} {o : HO} (h : H1 p = some o) (n : ¬ A.dl p) : ¬ B.dl p := fun e => by
  rcases a.dn p e with z | z
  · exact n z
  · rw [h] at z; cases z
theorem Frm.trans {A B C : Wd} {H1 H2 H3 : Hp} (a : Frm A H1 B H2) (b : Frm B H2 C H3) : Frm A H1 C H3 where
  le := a.le.trans b.le
  sH := fun p o h n => b.sH p o (a.sH p o h n) (a.ndl h n)
  nF := fun p o h n m z => b.nF p o (a.sH p o h n) (a.ndl h n) m (a.nF p o h n m z)
  dn := fun d h => by
    rcases b.dn d h with z | z
    · exact a.dn d z
    · exact .inr (a.kp d z)
  kp := fun p h => a.kp p (b.kp p h)

theorem ne_new {H : Hp} {p b : Addr} {o : HO} (n : H p = none) (h : H b = some o) : b ≠ p := fun e => by rw [e, n] at h; cases h
theorem same_upd {H : Hp} {p : Addr} {o : HO} (n : H p = none) : Same H (upd H p o) := fun b u h => by rw [upd_ne (ne_new n h)]; exact h
section
variable {K : PySem.W.Frag} {W : Wd} {H : Hp} {p : Addr} {o : HO}
/-- laid and not (yet) kept -/
theorem Frm.laid (n : H p = none) : Frm W H W (upd H p o) where
  le := Wd.Le.refl W
  sH := fun b u h _ => same_upd n b u h
  nF := fun _ _ _ _ _ h => h
  dn := fun _ h => .inl h
  kp := fun b h => by
    by_cases e : b = p
    · rw [e]; exact n
    · rw [upd_ne e] at h; exact h
theorem Ok.dice_ne (k : Ok K W H) (n : H p = none) : ¬ W.dl p := fun e => by
  exact (k.dc p e).2.there n
theorem Ok.same (k : Ok K W H) {H' : Hp} (s : Same H H') : Ok K W H' := ⟨Same.trans k.sF s, fun d e => by
  obtain ⟨n, m⟩ := k.dc d e
  refine ⟨n, m.mv rfl (Same.refl _) ?_ fun c h => s _ _ h⟩
  cases z : H d with
  | none => exact absurd z m.there
  | some o => exact s _ _ z, k.td, k.nt⟩
theorem Ok.fr (k : Ok K W H) (n : H p = none) : W.F p = none := by
  cases z : W.F p with
  | none => rfl
  | some u => rw [k.sF _ _ z] at n; cases n
theorem Ok.laid (k : Ok K W H) (n : H p = none) : Ok K W (upd H p o) := k.same (same_upd n)
/-- kept from here on -/
def Wd.keep (W : Wd) (p : Addr) (o : HO) : Wd := ⟨upd W.F p o, W.dl, W.tb⟩
theorem Wd.le_keep (n : W.F p = none) : W.Le (W.keep p o) := ⟨same_upd n, fun _ h => h, rfl⟩
theorem Ok.keep (k : Ok K W H) (n : W.F p = none) (h : H p = some o) (nd : ¬ W.dl p) (nt : ∀ ps, o ≠ .tbl ps := by intro _ z; cases z) : Ok K (W.keep p o) H where
  sF := fun b u e => by
    by_cases z : b = p
    · subst z
      have : upd W.F b o b = some u := e
      rw [upd_same] at this
      obtain rfl := Option.some.inj this
      exact h
    · have : upd W.F p o b = some u := e
      rw [upd_ne z] at this
      exact k.sF b u this
  dc := fun d e => by
    obtain ⟨f, m⟩ := k.dc d e
    refine ⟨?_, m.mv rfl (same_upd n) rfl fun _ h => h⟩
    show upd W.F p o d = none
    rw [upd_ne (fun z => nd (by rw [← z]; exact e))]
    exact f
  td := k.td
  nt := fun b ps e => by
    by_cases z : b = p
    · subst z
      have : upd W.F b o b = some (.tbl ps) := e
      rw [upd_same] at this
      exact nt ps (Option.some.inj this)
    · have : upd W.F p o b = some (.tbl ps) := e
      rw [upd_ne z] at this
      exact k.nt b ps this
/-- laid and kept -/
theorem Frm.kept (k : Ok K W H) (n : H p = none) : Frm W H (W.keep p o) (upd H p o) where
  le := Wd.le_keep (k.fr n)
  sH := fun b u h _ => same_upd n b u h
  nF := fun b u h _ _ z => by
    show upd W.F p o b = none
    rw [upd_ne (ne_new n h)]; exact z
  dn := fun _ h => .inl h
  kp := fun b h => by
    by_cases e : b = p
    · rw [e]; exact n
    · rw [upd_ne e] at h; exact h
theorem Ok.kept (k : Ok K W H) (n : H p = none) (nt : ∀ ps, o ≠ .tbl ps := by intro _ z; cases z) : Ok K (W.keep p o) (upd H p o) := (k.laid n).keep (k.fr n) upd_same (k.dice_ne n) nt
theorem keep_at : (W.keep p o).F p = some o := upd_same
end
theorem sqt_keep {K : PySem.W.Frag} {W : Wd} {p : Addr} {xs : List V} : SqT K (W.keep p (.tup xs)).F p xs := sqt keep_at
theorem sql_keep {K : PySem.W.Frag} {W : Wd} {p : Addr} {xs : List V} : SqL K (W.keep p (.lst xs)).F p xs := sql keep_at

/-! slots -/
inductive Sl where
  | un | v (x : Dt) | ol (xs : List Dt) | od (d : Dt) | ob (ps : List (Bool × Dt))
abbrev Env := List Sl
structure Mine (Hin : Hp) (W : Wd) (p : Addr) : Prop where
  f : W.F p = none
  i : Hin p = none
  d : ¬ W.dl p
/-- the dict at p holds ps -/
def DictR (K : PySem.W.Frag) (W : Wd) (o : HO) (d : Dt) : Prop := (∃ ks ps, o = .dK ks ∧ d = .dK ps ∧ RpK K W ks ps) ∨ (∃ ks ps, o = .dT ks ∧ d = .dT ps ∧ RpT K W ks ps)
def SlR (K : PySem.W.Frag) (Hin : Hp) (W : Wd) (H : Hp) : Sl → Option V → Prop
  | .un, _ => True
  | .v x, o => ∃ u, o = some u ∧ Rp K W u x
  | .ol xs, o => ∃ p vs, o = some (.ref p) ∧ Mine Hin W p ∧ H p = some (.lst vs) ∧ RpL K W vs xs
  | .od ps, o => ∃ p h, o = some (.ref p) ∧ Mine Hin W p ∧ H p = some h ∧ DictR K W h ps
  | .ob ps, o => ∃ p h ks, o = some (.ref p) ∧ Mine Hin W p ∧ H p = some h ∧ BoolO p h ks ∧ RpB K W ks ps
def own : Sl → Bool
  | .ol _ => true
  | .od _ => true
  | .ob _ => true
  | _ => false
structure Lk (K : PySem.W.Frag) (Hin : Hp) (W : Wd) (ρ : Env) (σ : L2.St) (H : Hp) : Prop where
  ok : Ok K W H
  len : ρ.length = σ.length
  sl : ∀ (i : Nat) (s : Sl), ρ[i]? = some s → ∃ o, σ[i]? = some o ∧ SlR K Hin W H s o
  sep : ∀ (i j : Nat) (s t : Sl) (p : Addr), i ≠ j → ρ[i]? = some s → ρ[j]? = some t → own s = true → own t = true → σ[i]? = some (some (.ref p)) → σ[j]? = some (some (.ref p)) → False
theorem Mine.frm {Hin H H' : Hp} {W W' : Wd} {p : Addr} {o : HO} (m : Mine Hin W p) (f : Frm W H W' H') (h : H p = some o) (w : Ownish o) : Mine Hin W' p :=
  ⟨f.nF p o h m.d w m.f, m.i, f.ndl h m.d⟩
theorem DictR.ownish {K : PySem.W.Frag} {W : Wd} {o : HO} {ps : Dt} (h : DictR K W o ps) : Ownish o := by
  rcases h with ⟨_, _, rfl, _⟩ | ⟨_, _, rfl, _⟩ <;> trivial
theorem DictR.le {K : PySem.W.Frag} {W W' : Wd} {o : HO} {ps : Dt} (l : W.Le W') (h : DictR K W o ps) : DictR K W' o ps := by
  rcases h with ⟨ks, ps, e, e2, r⟩ | ⟨ks, ps, e, e2, r⟩
  · exact .inl ⟨ks, ps, e, e2, r.le l⟩
  · exact .inr ⟨ks, ps, e, e2, r.le l⟩
theorem SlR.frm {K : PySem.W.Frag} {Hin H H' : Hp} {W W' : Wd} (f : Frm W H W' H') : ∀ {s : Sl} {o : Option V}, SlR K Hin W H s o → SlR K Hin W' H' s o
  | .un, _, _ => trivial
  | .v x, _, ⟨u, e, r⟩ => ⟨u, e, r.le f.le⟩
  | .ol xs, _, ⟨p, vs, e, m, h, r⟩ => ⟨p, vs, e, m.frm f h trivial, f.sH p _ h m.d, r.le f.le⟩
  | .od ps, _, ⟨p, ho, e, m, h, r⟩ => ⟨p, ho, e, m.frm f h r.ownish, f.sH p _ h m.d, r.le f.le⟩
  | .ob ps, _, ⟨p, ho, ks, e, m, h, b, r⟩ => ⟨p, ho, ks, e, m.frm f h b.ownish, f.sH p _ h m.d, b, r.le f.le⟩
theorem Lk.frm {K : PySem.W.Frag} {Hin H H' : Hp} {W W' : Wd} {ρ : Env} {σ : L2.St} (l : Lk K Hin W ρ σ H) (f : Frm W H W' H') (k : Ok K W' H') : Lk K Hin W' ρ σ H' :=
  ⟨k, l.len, fun i s e => by obtain ⟨o, h1, h2⟩ := l.sl i s e; exact ⟨o, h1, h2.frm f⟩, l.sep⟩
theorem set_get {α : Type} {l : List α} {i j : Nat} {x y : α} (h : (l.set i x)[j]? = some y) : (i = j ∧ y = x) ∨ (i ≠ j ∧ l[j]? = some y) := by
  by_cases e : i = j
  · subst e
    by_cases hi : i < l.length
    · rw [List.getElem?_set_self hi] at h; exact .inl ⟨rfl, (Option.some.inj h).symm⟩
    · rw [List.set_eq_of_length_le (by omega)] at h
      rw [List.getElem?_eq_none (by omega)] at h; cases h
  · rw [List.getElem?_set_ne e] at h; exact .inr ⟨e, h⟩
section
variable {K : PySem.W.Frag} {Hin H : Hp} {W : Wd} {ρ : Env} {σ : L2.St}
/-- a slot that is not one's own thing is stored -/
theorem Lk.set {s : Sl} {o : Option V} (l : Lk K Hin W ρ σ H) (i : Nat) (h : SlR K Hin W H s o) (ho : own s = false) : Lk K Hin W (ρ.set i s) (σ.set i o) H where
  ok := l.ok
  len := by rw [List.length_set, List.length_set]; exact l.len
  sl := fun j t e => by
    rcases set_get e with ⟨rfl, rfl⟩ | ⟨ne, e⟩
    · have hl : i < ρ.length := by
        rcases Nat.lt_or_ge i ρ.length with z | z
        · exact z
        · rw [List.set_eq_of_length_le z, List.getElem?_eq_none z] at e; cases e
      exact ⟨o, List.getElem?_set_self (by rw [← l.len]; exact hl), h⟩
    · obtain ⟨u, h1, h2⟩ := l.sl j t e
      exact ⟨u, by rw [List.getElem?_set_ne ne]; exact h1, h2⟩
  sep := fun a b s1 t1 p ne e1 e2 o1 o2 g1 g2 => by
    rcases set_get e1 with ⟨rfl, rfl⟩ | ⟨n1, e1⟩
    · rw [ho] at o1; cases o1
    rcases set_get e2 with ⟨rfl, rfl⟩ | ⟨n2, e2⟩
    · rw [ho] at o2; cases o2
    rw [List.getElem?_set_ne n1] at g1
    rw [List.getElem?_set_ne n2] at g2
    exact l.sep a b s1 t1 p ne e1 e2 o1 o2 g1 g2
/-- a new thing of one's own is stored -/
theorem Lk.setOwn {s : Sl} {p : Addr} (l : Lk K Hin W ρ σ H) (i : Nat) (h : SlR K Hin W H s (some (.ref p))) (nw : ∀ (j : Nat) (t : Sl), ρ[j]? = some t → own t = true → i ≠ j → σ[j]? ≠ some (some (.ref p))) : Lk K Hin W (ρ.set i s) (σ.set i (some (.ref p))) H where
  ok := l.ok
  len := by rw [List.length_set, List.length_set]; exact l.len
  sl := fun j t e => by
    rcases set_get e with ⟨rfl, rfl⟩ | ⟨ne, e⟩
    · have hl : i < ρ.length := by
        rcases Nat.lt_or_ge i ρ.length with z | z
        · exact z
        · rw [List.set_eq_of_length_le z, List.getElem?_eq_none z] at e; cases e
      exact ⟨_, List.getElem?_set_self (by rw [← l.len]; exact hl), h⟩
    · obtain ⟨u, h1, h2⟩ := l.sl j t e
      exact ⟨u, by rw [List.getElem?_set_ne ne]; exact h1, h2⟩
  sep := fun a b s1 t1 q ne e1 e2 o1 o2 g1 g2 => by
    rcases set_get e1 with ⟨rfl, rfl⟩ | ⟨n1, f1⟩
    · rcases set_get e2 with ⟨rfl, rfl⟩ | ⟨n2, f2⟩
      · exact ne rfl
      · rw [List.getElem?_set_ne n2] at g2
        have hl : i < σ.length := by
          rcases Nat.lt_or_ge i σ.length with z | z
          · exact z
          · rw [List.set_eq_of_length_le z, List.getElem?_eq_none z] at g1; cases g1
        rw [List.getElem?_set_self hl] at g1
        have e := V.ref.inj (Option.some.inj (Option.some.inj g1))
        subst e
        exact nw b t1 f2 o2 n2 g2
    · rw [List.getElem?_set_ne n1] at g1
      rcases set_get e2 with ⟨rfl, rfl⟩ | ⟨n2, f2⟩
      · have hl : i < σ.length := by
          rcases Nat.lt_or_ge i σ.length with z | z
          · exact z
          · rw [List.set_eq_of_length_le z, List.getElem?_eq_none z] at g2; cases g2
        rw [List.getElem?_set_self hl] at g2
        have e := V.ref.inj (Option.some.inj (Option.some.inj g2))
        subst e
        exact nw a s1 f1 o1 n1 g1
      · rw [List.getElem?_set_ne n2] at g2
        exact l.sep a b s1 t1 q ne f1 f2 o1 o2 g1 g2
theorem Lk.nocode {i : Nat} {s : Sl} {p c : Addr} {q : Str} (l : Lk K Hin W ρ σ H) (e : ρ[i]? = some s) (ho : own s = true) (hp : σ[i]? = some (some (.ref p))) (h : H p = some (LamX.CodeO c q)) : False := by
  obtain ⟨o, h1, h2⟩ := l.sl i s e
  rw [h1] at hp
  obtain rfl := Option.some.inj hp
  cases s with
  | un => cases ho
  | v x => cases ho
  | ol xs =>
    obtain ⟨p', vs, z, _, hq, _⟩ := h2
    obtain rfl := V.ref.inj (Option.some.inj z)
    rw [hq] at h; cases h
  | od d =>
    obtain ⟨p', ho', z, _, hq, r⟩ := h2
    obtain rfl := V.ref.inj (Option.some.inj z)
    rw [hq] at h
    rcases r with ⟨_, _, rfl, _⟩ | ⟨_, _, rfl, _⟩ <;> cases h
  | ob d =>
    obtain ⟨p', ho', ks, z, _, hq, b, r⟩ := h2
    obtain rfl := V.ref.inj (Option.some.inj z)
    rw [hq] at h
    obtain rfl := Option.some.inj h
    exact ownish_code b.ownish
/-- one's own thing is changed -/
theorem Lk.change {i : Nat} {s t : Sl} {p : Addr} {o : HO} (l : Lk K Hin W ρ σ H) (e : ρ[i]? = some s) (ho : own s = true) (hp : σ[i]? = some (some (.ref p))) (mi : Mine Hin W p)
    (h : SlR K Hin W (upd H p o) t (some (.ref p))) : Lk K Hin W (ρ.set i t) σ (upd H p o) where
  ok := ⟨fun b u z => by rw [upd_ne (fun q => by rw [q, mi.f] at z; cases z)]; exact l.ok.sF b u z, fun d z => by
    obtain ⟨f, m⟩ := l.ok.dc d z
    exact ⟨f, m.mv rfl (Same.refl _) (upd_ne (fun q => mi.d (by rw [← q]; exact z))) fun c hc => by rw [upd_ne (fun q => by rw [q] at hc; exact l.nocode e ho hp hc)]; exact hc⟩, l.ok.td, l.ok.nt⟩
  len := by rw [List.length_set]; exact l.len
  sl := fun j u z => by
    rcases set_get z with ⟨rfl, rfl⟩ | ⟨ne, z⟩
    · exact ⟨_, hp, h⟩
    · obtain ⟨w, h1, h2⟩ := l.sl j u z
      refine ⟨w, h1, ?_⟩
      cases u with
      | un => trivial
      | v x => exact h2
      | ol xs =>
        obtain ⟨q, vs, e1, m, h3, r⟩ := h2
        refine ⟨q, vs, e1, m, ?_, r⟩
        rw [upd_ne (fun c => by subst c; subst e1; exact l.sep i j s (.ol xs) q ne e z ho rfl hp h1)]; exact h3
      | od ps =>
        obtain ⟨q, h0, e1, m, h3, r⟩ := h2
        refine ⟨q, h0, e1, m, ?_, r⟩
        rw [upd_ne (fun c => by subst c; subst e1; exact l.sep i j s (.od ps) q ne e z ho rfl hp h1)]; exact h3
      | ob ps =>
        obtain ⟨q, h0, ks, e1, m, h3, b, r⟩ := h2
        refine ⟨q, h0, ks, e1, m, ?_, b, r⟩
        rw [upd_ne (fun c => by subst c; subst e1; exact l.sep i j s (.ob ps) q ne e z ho rfl hp h1)]; exact h3
  sep := fun a b s1 t1 q ne e1 e2 o1 o2 g1 g2 => by
    have f1 : ∃ s', ρ[a]? = some s' ∧ own s' = true := by
      rcases set_get e1 with ⟨rfl, rfl⟩ | ⟨_, e1⟩
      · exact ⟨s, e, ho⟩
      · exact ⟨s1, e1, o1⟩
    have f2 : ∃ s', ρ[b]? = some s' ∧ own s' = true := by
      rcases set_get e2 with ⟨rfl, rfl⟩ | ⟨_, e2⟩
      · exact ⟨s, e, ho⟩
      · exact ⟨t1, e2, o2⟩
    obtain ⟨s', a1, a2⟩ := f1
    obtain ⟨t', b1, b2⟩ := f2
    exact l.sep a b s' t' q ne a1 b1 a2 b2 g1 g2
end
end Dx
end
section
/-! readings lifted from data -/
namespace Dx
open PySem L2 RT Sx
section
variable {K : PySem.W.Frag} {W : Wd} {H H2 : Hp} {p : Addr} {o : HO} {vs : List V}
theorem Frm.keeps {W1 : Wd} {H1 : Hp} (f : Frm W H W1 H1) (n : H p = none) (nf : W1.F p = none) : Frm W H (W1.keep p o) H1 where
  le := f.le.trans (Wd.le_keep nf)
  sH := f.sH
  nF := fun b u hb nd m z => by
    show upd W1.F p o b = none
    rw [upd_ne (ne_new n hb)]; exact f.nF b u hb nd m z
  dn := f.dn
  kp := f.kp
theorem Frm.keepI {Hin : Hp} {Win : Wd} (f : Frm Win Hin W H) (i : Hin p = none) (nf : W.F p = none) : Frm Win Hin (W.keep p o) H := f.keeps i nf
theorem frm_same (s : Same H H2) : Frm W H W H2 where
  le := Wd.Le.refl W
  sH := fun b u h _ => s b u h
  nF := fun _ _ _ _ _ h => h
  dn := fun _ h => .inl h
  kp := fun b h => by
    cases z : H b with
    | none => rfl
    | some u => rw [s b u z] at h; cases h
theorem frm_keep (k : Ok K W H) (s : Same H H2) (h : H2 p = some o) (w : ∀ u, H p = some u → ¬ Ownish u) (n : W.F p = none) : Frm W H (W.keep p o) H2 where
  le := Wd.le_keep n
  sH := fun b u h _ => s b u h
  nF := fun b u hb _ m z => by
    show upd W.F p o b = none
    rw [upd_ne (fun e => by subst e; exact w u hb m)]; exact z
  dn := fun _ h => .inl h
  kp := (frm_same (W := W) s).kp
theorem keepL (k : Ok K W H) (n : H p = none) (s : Same H H2) (h : H2 p = some o) (nt : ∀ ps, o ≠ .tbl ps := by intro _ z; cases z) : Frm W H (W.keep p o) H2 ∧ Ok K (W.keep p o) H2 :=
  ⟨frm_keep k s h (fun u e => by rw [n] at e; cases e) (k.fr n), (k.same s).keep (k.fr n) h (k.dice_ne n) nt⟩
theorem keepT (k : Ok K W H) (s : Same H H2) (h : H2 p = some (.tup vs)) : ∃ W', Frm W H W' H2 ∧ Ok K W' H2 ∧ W'.F p = some (.tup vs) := by
  have k2 := k.same s
  have nd : ¬ W.dl p := fun z => by
    exact (k2.dc p z).2.isnt h (fun _ z => nomatch z) fun _ z => nomatch z
  cases z : W.F p with
  | some u' =>
    have e2 := k2.sF p u' z
    rw [h] at e2; obtain rfl := Option.some.inj e2
    exact ⟨W, frm_same s, k2, z⟩
  | none => exact ⟨W.keep p (.tup vs), frm_keep k s h (fun u' h' w => by have := s p u' h'; rw [h] at this; obtain rfl := Option.some.inj this; exact w) z, k2.keep z h nd, keep_at⟩
end
abbrev DX := Nat → List Dt → Prop
abbrev DE := DX → Env → (Dt → Prop) → Prop
abbrev DT := DX → Env → (Bool → Prop) → Prop
abbrev DA := DX → Env → (List Dt → Prop) → Prop
abbrev DN := DX → Env → (List Dt → Prop) → Prop
structure DEnds where
  nx : Env → Prop
  rt : Dt → Prop
  bk : Env → Prop := fun _ => False
  ct : Env → Prop := fun _ => False
  rn : List Dt → Prop := fun _ => False
abbrev DS := DEnds → DX → Env → Prop
/-- error classes by number: 0 the base, 1 BadRow, 2 NotTurned, 3 NoSide, 4 BadStep, 5 BadText -/
abbrev Ec := Nat → Addr
def fldsOf : Nat → List Str
  | 2 => ["left"]
  | 3 => ["why"]
  | 4 => ["at", "why"]
  | 5 => ["row"]
  | _ => []
def ErrR (K : PySem.W.Frag) (C : Ec) (W : Wd) (H : Hp) (cls : Value) (d : Option Addr) (k : Nat) (fs : List Dt) : Prop :=
  cls = .ref (C k) ∧ fs.length = (fldsOf k).length ∧ (fs = [] ∨ ∃ dd vs, d = some dd ∧ H dd = some (.xd ((fldsOf k).zip vs)) ∧ RpL K W vs fs)
structure Cn where
  Hin : Hp
  Win : Wd
  Wl : Wd
  W : Wd
  ρ : Env
  PX : DX
def EL (K : PySem.W.Frag) (C : Ec) (Hin : Hp) (Win : Wd) (E : XK) (PX : DX) : Prop := ∀ W' H' k fs cls d, Frm Win Hin W' H' → Ok K W' H' → ErrR K C W' H' cls d k fs → PX k fs → E cls d H'
structure Cn.At (K : PySem.W.Frag) (C : Ec) (E : XK) (c : Cn) (σ : L2.St) (H : Hp) : Prop where
  lk : Lk K c.Hin c.W c.ρ σ H
  fr : Frm c.Win c.Hin c.W H
  el : EL K C c.Hin c.Win E c.PX
  lo : c.Wl.Le c.W
theorem Cn.At.frm {K : PySem.W.Frag} {C : Ec} {E : XK} {c : Cn} {σ : L2.St} {H H' : Hp} {W' : Wd} (a : c.At K C E σ H) (f : Frm c.W H W' H') (k : Ok K W' H') : Cn.At K C E { c with W := W' } σ H' :=
  ⟨a.lk.frm f k, a.fr.trans f, a.el, a.lo.trans f.le⟩
def liftE (K : PySem.W.Frag) (C : Ec) (E : XK) (d : DE) : TE := fun σ H Q => ∃ (c : Cn) (P : Dt → Prop), c.At K C E σ H ∧ d c.PX c.ρ P ∧ ∀ W' H' v x, Frm c.W H W' H' → Ok K W' H' → Rp K W' v x → P x → Q v H'
def liftT (K : PySem.W.Frag) (C : Ec) (E : XK) (d : DT) : TT := fun σ H Q => ∃ (c : Cn) (P : Bool → Prop), c.At K C E σ H ∧ d c.PX c.ρ P ∧ ∀ W' H' b, Frm c.W H W' H' → Ok K W' H' → P b → Q b H'
def liftA (K : PySem.W.Frag) (C : Ec) (E : XK) (d : DA) : TA := fun σ H Q => ∃ (c : Cn) (P : List Dt → Prop), c.At K C E σ H ∧ d c.PX c.ρ P ∧ ∀ W' H' vs xs, Frm c.W H W' H' → Ok K W' H' → RpL K W' vs xs → P xs → Q vs H'
/-- a new list -/
def liftN (K : PySem.W.Frag) (C : Ec) (E : XK) (d : DN) : TE := fun σ H Q => ∃ (c : Cn) (P : List Dt → Prop), c.At K C E σ H ∧ d c.PX c.ρ P ∧
  ∀ W' H' p vs xs, Frm c.W H W' H' → Ok K W' H' → H p = none → W'.F p = none → ¬ W'.dl p → H' p = some (.lst vs) → RpL K W' vs xs → P xs → Q (.ref p) H'
structure EndsOk (K : PySem.W.Frag) (C : Ec) (E : XK) (c : Cn) (DD : DEnds) (D : Ends) : Prop where
  nx : ∀ W' ρ' σ' H', Cn.At K C E { c with W := W', ρ := ρ' } σ' H' → DD.nx ρ' → D.nx σ' H'
  bk : ∀ W' ρ' σ' H', Cn.At K C E { c with W := W', ρ := ρ' } σ' H' → DD.bk ρ' → D.bk σ' H'
  ct : ∀ W' ρ' σ' H', Cn.At K C E { c with W := W', ρ := ρ' } σ' H' → DD.ct ρ' → D.ct σ' H'
  rt : ∀ W' H' v x, Frm c.Win c.Hin W' H' → Ok K W' H' → Rp K W' v x → DD.rt x → D.rt v H'
  rn : ∀ W' H' p vs xs, Frm c.Win c.Hin W' H' → Ok K W' H' → c.Hin p = none → W'.F p = none → ¬ W'.dl p → H' p = some (.lst vs) → RpL K W' vs xs → DD.rn xs → D.rt (.ref p) H'
def liftS (K : PySem.W.Frag) (C : Ec) (E : XK) (d : DS) : TS := fun D σ H => ∃ (c : Cn) (DD : DEnds), c.At K C E σ H ∧ EndsOk K C E c DD D ∧ d DD c.PX c.ρ
theorem EndsOk.mv {K : PySem.W.Frag} {C : Ec} {E : XK} {c : Cn} {DD : DEnds} {D : Ends} {W : Wd} {ρ : Env} (h : EndsOk K C E c DD D) : EndsOk K C E { c with W := W, ρ := ρ } DD D := ⟨h.nx, h.bk, h.ct, h.rt, h.rn⟩

/-! ### expressions -/
def dVar (i : Nat) : DE := fun _ ρ P => ∃ x, ρ[i]? = some (.v x) ∧ P x
def dC (x : Dt) : DE := fun _ _ P => P x
abbrev D1 := Dt → (Dt → Prop) → Prop
abbrev D2 := Dt → Dt → (Dt → Prop) → Prop
abbrev DL := List Dt → (Dt → Prop) → Prop
def dOp (f : D2) (a b : DE) : DE := fun X ρ P => a X ρ fun x => b X ρ fun y => f x y P
def dUn (f : D1) (a : DE) : DE := fun X ρ P => a X ρ fun x => f x P
def dChain (f g : D2) (a b c : DE) : DE := fun X ρ P => a X ρ fun x => b X ρ fun y => f x y fun z => ∃ k, z = .bl k ∧ (if k = true then c X ρ fun w => g y w P else P (.bl false))
def dB (a : DE) : DT := fun X ρ Q => a X ρ fun x => ∃ k, x = .bl k ∧ Q k
def dAnd (a b : DT) : DT := fun X ρ Q => a X ρ fun k => if k = true then b X ρ Q else Q false
def dOr (a b : DT) : DT := fun X ρ Q => a X ρ fun k => if k = true then Q true else b X ρ Q
def dNot (a : DT) : DT := fun X ρ Q => a X ρ fun k => Q (!k)
def dAndV (a b : DE) : DE := fun X ρ P => a X ρ fun x => ∃ k, x = .bl k ∧ (if k = true then b X ρ P else P (.bl false))
def dOrV (a b : DE) : DE := fun X ρ P => a X ρ fun x => ∃ k, x = .bl k ∧ (if k = true then P (.bl true) else b X ρ P)
def dNotV (a : DE) : DE := fun X ρ P => a X ρ fun x => ∃ k, x = .bl k ∧ P (.bl (!k))
def dIf (t : DT) (a b : DE) : DE := fun X ρ P => t X ρ fun k => if k = true then a X ρ P else b X ρ P
def dNil : DA := fun _ _ P => P []
def dCons (a : DE) (r : DA) : DA := fun X ρ P => a X ρ fun x => r X ρ fun xs => P (x :: xs)
def dTup (a : DA) : DE := fun X ρ P => a X ρ fun xs => xs.length ≤ 100000 ∧ P (.tup xs)
def dLst (a : DA) : DN := fun X ρ P => a X ρ fun xs => xs.length ≤ 100000 ∧ P xs
/-- a new list, never changed from here on -/
def dFz (a : DN) : DE := fun X ρ P => a X ρ fun xs => P (.lst xs)
def dCB (f : DL) (a : DA) : DE := fun X ρ P => a X ρ fun xs => f xs P
def Op2 (K : PySem.W.Frag) (r : R2) (f : D2) : Prop := ∀ W H v1 x1 v2 x2 P Q, Ok K W H → Rp K W v1 x1 → Rp K W v2 x2 → f x1 x2 P → (∀ W' H' v x, Frm W H W' H' → Ok K W' H' → Rp K W' v x → P x → Q v H') → r v1 v2 H Q
def Op1 (K : PySem.W.Frag) (r : V → Hp → VK → Prop) (f : D1) : Prop := ∀ W H v1 x1 P Q, Ok K W H → Rp K W v1 x1 → f x1 P → (∀ W' H' v x, Frm W H W' H' → Ok K W' H' → Rp K W' v x → P x → Q v H') → r v1 H Q
def OpL (K : PySem.W.Frag) (r : List V → Hp → VK → Prop) (f : DL) : Prop := ∀ W H vs xs P Q, Ok K W H → RpL K W vs xs → f xs P → (∀ W' H' v x, Frm W H W' H' → Ok K W' H' → Rp K W' v x → P x → Q v H') → r vs H Q
section
variable {K : PySem.W.Frag} {C : Ec} {E : XK} {σ : L2.St} {H : Hp} {Q : VK}
theorem le_var {i : Nat} (q : liftE K C E (dVar i) σ H Q) : tVar i σ H Q := by
  obtain ⟨c, P, at_, ⟨x, e, h⟩, k⟩ := q
  obtain ⟨o, h1, u, rfl, r⟩ := at_.lk.sl i _ e
  exact ⟨u, h1, k _ _ _ _ (Frm.refl _ _) at_.lk.ok r h⟩
theorem le_c {v : V} {x : Dt} (r : ∀ W, Rp K W v x) (q : liftE K C E (dC x) σ H Q) : tC v σ H Q := by
  obtain ⟨c, P, at_, h, k⟩ := q
  exact k _ _ _ _ (Frm.refl _ _) at_.lk.ok (r _) h
theorem le_op {r : R2} {f : D2} {a b : DE} (hb : Op2 K r f) (q : liftE K C E (dOp f a b) σ H Q) : tOp r (liftE K C E a) (liftE K C E b) σ H Q := by
  obtain ⟨c, P, at_, h, k⟩ := q
  refine ⟨c, _, at_, h, fun W1 H1 v1 x1 f1 o1 r1 q1 => ?_⟩
  refine ⟨{ c with W := W1 }, _, at_.frm f1 o1, q1, fun W2 H2 v2 x2 f2 o2 r2 q2 => ?_⟩
  exact hb W2 H2 v1 x1 v2 x2 P Q o2 (r1.le f2.le) r2 q2 fun W3 H3 v3 x3 f3 o3 r3 q3 => k W3 H3 v3 x3 (f1.trans (f2.trans f3)) o3 r3 q3
theorem le_un {r : V → Hp → VK → Prop} {f : D1} {a : DE} (hb : Op1 K r f) (q : liftE K C E (dUn f a) σ H Q) : tUn r (liftE K C E a) σ H Q := by
  obtain ⟨c, P, at_, h, k⟩ := q
  refine ⟨c, _, at_, h, fun W1 H1 v1 x1 f1 o1 r1 q1 => ?_⟩
  exact hb W1 H1 v1 x1 P Q o1 r1 q1 fun W3 H3 v3 x3 f3 o3 r3 q3 => k W3 H3 v3 x3 (f1.trans f3) o3 r3 q3
theorem rp_bl {W : Wd} {v : V} {b : Bool} (r : Rp K W v (.bl b)) : v = .bl b := by cases r; rfl
theorem rp_int {W : Wd} {v : V} {i : Int} (r : Rp K W v (.int i)) : v = .int i := by cases r; rfl
theorem rp_str {W : Wd} {v : V} {i : Str} (r : Rp K W v (.str i)) : v = .str i := by cases r; rfl
theorem rp_tup {W : Wd} {v : V} {xs : List Dt} (r : Rp K W v (.tup xs)) : ∃ a vs, v = .ref a ∧ W.F a = some (.tup vs) ∧ RpL K W vs xs := by cases r with | tup h r => exact ⟨_, _, rfl, h, r⟩
theorem rp_lst {W : Wd} {v : V} {xs : List Dt} (r : Rp K W v (.lst xs)) : ∃ a vs, v = .ref a ∧ W.F a = some (.lst vs) ∧ RpL K W vs xs := by cases r with | lst h r => exact ⟨_, _, rfl, h, r⟩
theorem le_chain {r r' : R2} {f g : D2} {a b d : DE} (hf : Op2 K r f) (hg : Op2 K r' g) (q : liftE K C E (dChain f g a b d) σ H Q) : tChain r r' (liftE K C E a) (liftE K C E b) (liftE K C E d) σ H Q := by
  obtain ⟨c, P, at_, h, k⟩ := q
  refine ⟨c, _, at_, h, fun W1 H1 v1 x1 f1 o1 r1 q1 => ?_⟩
  refine ⟨{ c with W := W1 }, _, at_.frm f1 o1, q1, fun W2 H2 v2 x2 f2 o2 r2 q2 => ?_⟩
  refine hf W2 H2 v1 x1 v2 x2 _ _ o2 (r1.le f2.le) r2 q2 fun W3 H3 v3 x3 f3 o3 r3 ⟨kk, e, q3⟩ => ?_
  subst e
  refine ⟨kk, rp_bl r3, ?_⟩
  have f13 := f1.trans (f2.trans f3)
  cases kk with
  | true =>
    rw [if_pos rfl] at q3 ⊢
    refine ⟨{ c with W := W3 }, _, at_.frm f13 o3, q3, fun W4 H4 v4 x4 f4 o4 r4 q4 => ?_⟩
    exact hg W4 H4 v2 x2 v4 x4 _ _ o4 (r2.le (f3.trans f4).le) r4 q4 fun W5 H5 v5 x5 f5 o5 r5 q5 => k W5 H5 v5 x5 (f13.trans (f4.trans f5)) o5 r5 q5
  | false =>
    rw [if_neg Bool.false_ne_true] at q3 ⊢
    exact k W3 H3 _ _ f13 o3 (.bl false) q3
variable {QB : Bool → Hp → Prop} {QA : List V → Hp → Prop}
theorem le_B {a : DE} (q : liftT K C E (dB a) σ H QB) : liftE K C E a σ H fun x H' => ∃ k, x = .bl k ∧ QB k H' := by
  obtain ⟨c, P, at_, h, k⟩ := q
  refine ⟨c, _, at_, h, fun W1 H1 v1 x1 f1 o1 r1 ⟨kk, e, q1⟩ => ?_⟩
  subst e
  exact ⟨kk, rp_bl r1, k _ _ _ f1 o1 q1⟩
theorem le_and {a b : DT} (q : liftT K C E (dAnd a b) σ H QB) : tAnd (liftT K C E a) (liftT K C E b) σ H QB := by
  obtain ⟨c, P, at_, h, k⟩ := q
  refine ⟨c, _, at_, h, fun W1 H1 b1 f1 o1 q1 => ?_⟩
  cases b1 with
  | true => rw [if_pos rfl] at q1 ⊢; exact ⟨{ c with W := W1 }, P, at_.frm f1 o1, q1, fun W2 H2 b2 f2 o2 q2 => k W2 H2 b2 (f1.trans f2) o2 q2⟩
  | false => rw [if_neg Bool.false_ne_true] at q1 ⊢; exact k W1 H1 false f1 o1 q1
theorem le_or {a b : DT} (q : liftT K C E (dOr a b) σ H QB) : tOr (liftT K C E a) (liftT K C E b) σ H QB := by
  obtain ⟨c, P, at_, h, k⟩ := q
  refine ⟨c, _, at_, h, fun W1 H1 b1 f1 o1 q1 => ?_⟩
  cases b1 with
  | true => rw [if_pos rfl] at q1 ⊢; exact k W1 H1 true f1 o1 q1
  | false => rw [if_neg Bool.false_ne_true] at q1 ⊢; exact ⟨{ c with W := W1 }, P, at_.frm f1 o1, q1, fun W2 H2 b2 f2 o2 q2 => k W2 H2 b2 (f1.trans f2) o2 q2⟩
theorem le_not {a : DT} (q : liftT K C E (dNot a) σ H QB) : tNot (liftT K C E a) σ H QB := by
  obtain ⟨c, P, at_, h, k⟩ := q
  exact ⟨c, _, at_, h, fun W1 H1 b1 f1 o1 q1 => k W1 H1 (!b1) f1 o1 q1⟩
theorem le_andV {a b : DE} (q : liftE K C E (dAndV a b) σ H Q) : tAndV (liftE K C E a) (liftE K C E b) σ H Q := by
  obtain ⟨c, P, at_, h, k⟩ := q
  refine ⟨c, _, at_, h, fun W1 H1 b1 x1 f1 o1 r1 ⟨kk, e, q1⟩ => ?_⟩
  subst e
  refine ⟨kk, rp_bl r1, ?_⟩
  cases kk with
  | true => rw [if_pos rfl] at q1 ⊢; exact ⟨{ c with W := W1 }, P, at_.frm f1 o1, q1, fun W2 H2 b2 x2 f2 o2 r2 q2 => k W2 H2 b2 x2 (f1.trans f2) o2 r2 q2⟩
  | false => rw [if_neg Bool.false_ne_true] at q1 ⊢; exact k W1 H1 _ _ f1 o1 (.bl false) q1
theorem le_orV {a b : DE} (q : liftE K C E (dOrV a b) σ H Q) : tOrV (liftE K C E a) (liftE K C E b) σ H Q := by
  obtain ⟨c, P, at_, h, k⟩ := q
  refine ⟨c, _, at_, h, fun W1 H1 b1 x1 f1 o1 r1 ⟨kk, e, q1⟩ => ?_⟩
  subst e
  refine ⟨kk, rp_bl r1, ?_⟩
  cases kk with
  | true => rw [if_pos rfl] at q1 ⊢; exact k W1 H1 _ _ f1 o1 (.bl true) q1
  | false => rw [if_neg Bool.false_ne_true] at q1 ⊢; exact ⟨{ c with W := W1 }, P, at_.frm f1 o1, q1, fun W2 H2 b2 x2 f2 o2 r2 q2 => k W2 H2 b2 x2 (f1.trans f2) o2 r2 q2⟩
theorem le_notV {a : DE} (q : liftE K C E (dNotV a) σ H Q) : tNotV (liftE K C E a) σ H Q := by
  obtain ⟨c, P, at_, h, k⟩ := q
  refine ⟨c, _, at_, h, fun W1 H1 b1 x1 f1 o1 r1 ⟨kk, e, q1⟩ => ?_⟩
  subst e
  exact ⟨kk, rp_bl r1, k W1 H1 _ _ f1 o1 (.bl _) q1⟩
theorem le_if {t : DT} {a b : DE} (q : liftE K C E (dIf t a b) σ H Q) : tIf (liftT K C E t) (liftE K C E a) (liftE K C E b) σ H Q := by
  obtain ⟨c, P, at_, h, k⟩ := q
  refine ⟨c, _, at_, h, fun W1 H1 b1 f1 o1 q1 => ?_⟩
  cases b1 with
  | true => rw [if_pos rfl] at q1 ⊢; exact ⟨{ c with W := W1 }, P, at_.frm f1 o1, q1, fun W2 H2 b2 x2 f2 o2 r2 q2 => k W2 H2 b2 x2 (f1.trans f2) o2 r2 q2⟩
  | false => rw [if_neg Bool.false_ne_true] at q1 ⊢; exact ⟨{ c with W := W1 }, P, at_.frm f1 o1, q1, fun W2 H2 b2 x2 f2 o2 r2 q2 => k W2 H2 b2 x2 (f1.trans f2) o2 r2 q2⟩
theorem le_nil (q : liftA K C E dNil σ H QA) : tNil σ H QA := by
  obtain ⟨c, P, at_, h, k⟩ := q
  exact k _ _ _ _ (Frm.refl _ _) at_.lk.ok .nil h
theorem le_cons {a : DE} {r : DA} (q : liftA K C E (dCons a r) σ H QA) : tCons (liftE K C E a) (liftA K C E r) σ H QA := by
  obtain ⟨c, P, at_, h, k⟩ := q
  refine ⟨c, _, at_, h, fun W1 H1 v1 x1 f1 o1 r1 q1 => ?_⟩
  refine ⟨{ c with W := W1 }, _, at_.frm f1 o1, q1, fun W2 H2 v2 x2 f2 o2 r2 q2 => ?_⟩
  exact k _ _ _ _ (f1.trans f2) o2 (.cons (r1.le f2.le) r2) q2
theorem le_cb {r : List V → Hp → VK → Prop} {f : DL} {a : DA} (hb : OpL K r f) (q : liftE K C E (dCB f a) σ H Q) : tCB r (liftA K C E a) σ H Q := by
  obtain ⟨c, P, at_, h, k⟩ := q
  refine ⟨c, _, at_, h, fun W1 H1 v1 x1 f1 o1 r1 q1 => ?_⟩
  exact hb W1 H1 v1 x1 P Q o1 r1 q1 fun W3 H3 v3 x3 f3 o3 r3 q3 => k W3 H3 v3 x3 (f1.trans f3) o3 r3 q3
theorem le_tup {a : DA} (q : liftE K C E (dTup a) σ H Q) : tTup (liftA K C E a) σ H Q := by
  obtain ⟨c, P, at_, h, k⟩ := q
  refine ⟨c, _, at_, h, fun W1 H1 v1 x1 f1 o1 r1 ⟨hz, q1⟩ => ⟨szl (by rw [r1.length]; exact hz), fun p n => ?_⟩⟩
  have f2 := Frm.kept (o := .tup v1) o1 n
  exact k _ _ _ _ (f1.trans f2) (o1.kept n) (.tup keep_at (r1.le f2.le)) q1
theorem le_lst {a : DA} (q : liftN K C E (dLst a) σ H Q) : tLst (liftA K C E a) σ H Q := by
  obtain ⟨c, P, at_, h, k⟩ := q
  refine ⟨c, _, at_, h, fun W1 H1 v1 x1 f1 o1 r1 ⟨hz, q1⟩ => ⟨szl (by rw [r1.length]; exact hz), fun p n => ?_⟩⟩
  exact k _ _ p _ _ (f1.trans (Frm.laid n)) (o1.laid n) (f1.kp p n) (o1.fr n) (o1.dice_ne n) upd_same r1 q1
theorem le_fz {a : DN} (q : liftE K C E (dFz a) σ H Q) : liftN K C E a σ H Q := by
  obtain ⟨c, P, at_, h, k⟩ := q
  refine ⟨c, _, at_, h, fun W1 H1 p vs xs f1 o1 n nf nd e r1 q1 => ?_⟩
  exact k (W1.keep p (.lst vs)) H1 _ _ (f1.keeps n nf) (o1.keep nf e nd) (.lst keep_at (r1.le (Wd.le_keep nf))) q1
end

/-! ### statements -/
def dNext : DS := fun D _ ρ => D.nx ρ
def dSeq (t u : DS) : DS := fun D X ρ => t { D with nx := u D X } X ρ
def dRet (a : DE) : DS := fun D X ρ => a X ρ D.rt
def dRetN : DS := fun D _ _ => D.rt .non
def dDrop (a : DE) : DS := fun D X ρ => a X ρ fun _ => D.nx ρ
def dIfS (t : DT) (u v : DS) : DS := fun D X ρ => t X ρ fun k => if k = true then u D X ρ else v D X ρ
def dBreak : DS := fun D _ ρ => D.bk ρ
def dCont : DS := fun D _ ρ => D.ct ρ
def dNever : DS := fun _ _ _ => False
/-- targets -/
inductive Pt where
  | nm (i : Nat) | tp (ps : List Pt)
mutual
def gOf (K : PySem.W.Frag) : Pt → TG
  | .nm i => gName i
  | .tp ps => gTup K ps.length (gsOf K ps)
def gsOf (K : PySem.W.Frag) : List Pt → TGs
  | [] => gNil
  | p :: ps => gCons (gOf K p) (gsOf K ps)
end
mutual
def bindD : Pt → Dt → Env → (Env → Prop) → Prop
  | .nm i, x, ρ, N => N (ρ.set i (.v x))
  | .tp ps, x, ρ, N => ∃ xs, x = .tup xs ∧ bindDs ps xs ρ N
def bindDs : List Pt → List Dt → Env → (Env → Prop) → Prop
  | [], xs, ρ, N => xs = [] ∧ N ρ
  | p :: ps, xs, ρ, N => ∃ y ys, xs = y :: ys ∧ bindD p y ρ fun ρ' => bindDs ps ys ρ' N
end
mutual
def ptIn (vs : List Nat) : Pt → Bool
  | .nm i => decide (i ∈ vs)
  | .tp ps => ptsIn vs ps
def ptsIn (vs : List Nat) : List Pt → Bool
  | [] => true
  | p :: ps => ptIn vs p && ptsIn vs ps
end
def dAsg (p : Pt) (a : DE) : DS := fun D X ρ => a X ρ fun x => bindD p x ρ D.nx
/-- a new list into a slot, to be changed there -/
def dAsgN (i : Nat) (a : DN) : DS := fun D X ρ => a X ρ fun xs => D.nx (ρ.set i (.ol xs))
/-- from here on the list or dict in the slot is not changed any more -/
def frzS : Sl → Sl
  | .ol xs => .v (.lst xs)
  | .od _ => .un
  | .ob _ => .un
  | s => s
def dFrz (i : Nat) (t : DS) : DS := fun D X ρ => ∃ s, ρ[i]? = some s ∧ t D X (ρ.set i (frzS s))
def dAug (i : Nat) (f : D2) (a : DE) : DS := fun D X ρ => ∃ x, ρ[i]? = some (.v x) ∧ a X ρ fun y => f x y fun z => D.nx (ρ.set i (.v z))
mutual
theorem bindD_ex : ∀ (p : Pt) (y : Dt) (ρ : Env) (M : Env → Prop), bindD p y ρ M → ∃ ρ', M ρ'
  | .nm i, y, ρ, M, h => ⟨_, h⟩
  | .tp ps, y, ρ, M, ⟨xs, _, h⟩ => bindDs_ex ps xs ρ M h
theorem bindDs_ex : ∀ (p : List Pt) (y : List Dt) (ρ : Env) (M : Env → Prop), bindDs p y ρ M → ∃ ρ', M ρ'
  | [], y, ρ, M, ⟨_, h⟩ => ⟨_, h⟩
  | p :: ps, y, ρ, M, ⟨z, ys, _, h⟩ => by
    obtain ⟨ρ', h'⟩ := bindD_ex p z ρ _ h
    exact bindDs_ex ps ys ρ' M h'
end
theorem wipe_set {σ : L2.St} {i : Nat} {o : Option V} : ∀ {vs : List Nat}, i ∈ vs → wipe (σ.set i o) vs = wipe σ vs
  | [], h => by cases h
  | v :: vs, h => by
    unfold wipe
    by_cases e : i ∈ vs
    · rw [wipe_set e]
    · have : i = v := by
        rcases List.mem_cons.mp h with z | z
        · exact z
        · exact absurd z e
      subst this
      have key : ∀ (l : List Nat) (τ : L2.St), i ∉ l → wipe (τ.set i o) l = (wipe τ l).set i o := by
        intro l
        induction l with
        | nil => intro τ _; rfl
        | cons w l ih =>
          intro τ hn
          unfold wipe
          rw [ih τ (fun z => hn (List.mem_cons_of_mem _ z)), List.set_comm _ _ (fun z => hn (by rw [z]; exact List.mem_cons_self))]
      rw [key vs σ e, List.set_set]
section
variable {K : PySem.W.Frag} {C : Ec} {E : XK} {σ : L2.St} {H : Hp}
def SameOwn (ρ ρ' : Env) (σ σ' : L2.St) : Prop := ∀ (i : Nat) (s : Sl), ρ'[i]? = some s → own s = true → ρ[i]? = some s ∧ σ'[i]? = σ[i]?
theorem SameOwn.refl (ρ : Env) (σ : L2.St) : SameOwn ρ ρ σ σ := fun _ _ h _ => ⟨h, rfl⟩
theorem SameOwn.trans {ρ ρ1 ρ2 : Env} {σ σ1 σ2 : L2.St} (a : SameOwn ρ ρ1 σ σ1) (b : SameOwn ρ1 ρ2 σ1 σ2) : SameOwn ρ ρ2 σ σ2 := fun i s h o => by
  obtain ⟨h1, h2⟩ := b i s h o
  obtain ⟨h3, h4⟩ := a i s h1 o
  exact ⟨h3, h2.trans h4⟩
theorem SameOwn.set {ρ : Env} {σ : L2.St} (i : Nat) {s : Sl} {o : Option V} (h : own s = false) : SameOwn ρ (ρ.set i s) σ (σ.set i o) := fun j t e w => by
  rcases set_get e with ⟨rfl, rfl⟩ | ⟨ne, e⟩
  · rw [h] at w; cases w
  · exact ⟨e, by rw [List.getElem?_set_ne ne]⟩
mutual
theorem bind_run {c : Cn} {N : Env → Prop} : ∀ (p : Pt) {x : Dt} {v : V} {ρ : Env} {σ : L2.St} {Q : L2.St → Hp → Prop}, Cn.At K C E { c with ρ := ρ } σ H → Rp K c.W v x → bindD p x ρ N →
    (∀ ρ' σ', Cn.At K C E { c with ρ := ρ' } σ' H → (∀ vs, ptIn vs p = true → wipe σ' vs = wipe σ vs) → N ρ' → SameOwn ρ ρ' σ σ' → Q σ' H) → gOf K p v σ H Q
  | .nm i, x, v, ρ, σ, Q, at_, r, h, k => k (ρ.set i (.v x)) _ ⟨at_.lk.set (s := .v x) i ⟨v, rfl, r⟩ rfl, at_.fr, at_.el, at_.lo⟩ (fun vs e => wipe_set (of_decide_eq_true e)) h (SameOwn.set i rfl)
  | .tp ps, x, v, ρ, σ, Q, at_, r, ⟨xs, e, h⟩, k => by
    subst e
    obtain ⟨a, ws, rfl, hs, rs⟩ := rp_tup r
    have hl : ∀ (ps : List Pt) (xs : List Dt) (ρ : Env) (N : Env → Prop), bindDs ps xs ρ N → xs.length = ps.length := by
      intro ps
      induction ps with
      | nil => rintro xs ρ N ⟨rfl, _⟩; rfl
      | cons p ps ih =>
        rintro xs ρ N ⟨y, ys, rfl, h⟩
        obtain ⟨ρ', q⟩ := bindD_ex p y ρ _ h
        rw [List.length_cons, List.length_cons, ih ys ρ' N q]
    refine ⟨a, ws, rfl, sqt (at_.lk.ok.sF _ _ hs), by rw [rs.length]; exact hl _ _ _ _ h, ?_⟩
    exact binds_run ps at_ rs h k
theorem binds_run {c : Cn} {N : Env → Prop} : ∀ (ps : List Pt) {xs : List Dt} {vs : List V} {ρ : Env} {σ : L2.St} {Q : L2.St → Hp → Prop}, Cn.At K C E { c with ρ := ρ } σ H → RpL K c.W vs xs → bindDs ps xs ρ N →
    (∀ ρ' σ', Cn.At K C E { c with ρ := ρ' } σ' H → (∀ vs, ptsIn vs ps = true → wipe σ' vs = wipe σ vs) → N ρ' → SameOwn ρ ρ' σ σ' → Q σ' H) → gsOf K ps vs σ H Q
  | [], xs, vs, ρ, σ, Q, at_, r, ⟨e, h⟩, k => by
    subst e
    cases r
    exact ⟨rfl, k _ _ at_ (fun _ _ => rfl) h (SameOwn.refl _ _)⟩
  | p :: ps, xs, vs, ρ, σ, Q, at_, r, ⟨y, ys, e, h⟩, k => by
    subst e
    cases r with
    | cons r1 r2 => exact ⟨_, _, rfl, bind_run p at_ r1 h fun ρ1 σ1 at1 w1 h1 s1 => binds_run ps at1 r2 h1 fun ρ2 σ2 at2 w2 h2 s2 => k ρ2 σ2 at2 (fun ws e => by
        have := (Bool.and_eq_true _ _).mp e
        rw [w2 ws this.2, w1 ws this.1]) h2 (s1.trans s2)⟩
end
end
end Dx
end
section
/-! statements, loops, comprehensions, defs -/
namespace Dx
open PySem L2 RT Sx
section
variable {K : PySem.W.Frag} {C : Ec} {E : XK} {σ : L2.St} {H : Hp} {D : Ends}
theorem ls_next (q : liftS K C E dNext D σ H) : tNext D σ H := by
  obtain ⟨c, DD, at_, en, h⟩ := q
  exact en.nx _ _ _ _ at_ h
theorem ls_break (q : liftS K C E dBreak D σ H) : tBreak D σ H := by
  obtain ⟨c, DD, at_, en, h⟩ := q
  exact en.bk _ _ _ _ at_ h
theorem ls_cont (q : liftS K C E dCont D σ H) : tCont D σ H := by
  obtain ⟨c, DD, at_, en, h⟩ := q
  exact en.ct _ _ _ _ at_ h
theorem ls_seq {t u : DS} (q : liftS K C E (dSeq t u) D σ H) : tSeq (liftS K C E t) (liftS K C E u) D σ H := by
  obtain ⟨c, DD, at_, en, h⟩ := q
  exact ⟨c, { DD with nx := u DD c.PX }, at_, ⟨fun W' ρ' σ' H' a q => ⟨_, DD, a, en.mv, q⟩, en.bk, en.ct, en.rt, en.rn⟩, h⟩
theorem ls_ret {a : DE} (q : liftS K C E (dRet a) D σ H) : tRet (liftE K C E a) D σ H := by
  obtain ⟨c, DD, at_, en, h⟩ := q
  exact ⟨c, _, at_, h, fun W1 H1 v x f o r q1 => en.rt W1 H1 v x (at_.fr.trans f) o r q1⟩
theorem ls_retN (q : liftS K C E dRetN D σ H) : tRetN D σ H := by
  obtain ⟨c, DD, at_, en, h⟩ := q
  exact en.rt _ _ _ _ at_.fr at_.lk.ok .non h
theorem ls_drop {a : DE} (q : liftS K C E (dDrop a) D σ H) : tDrop (liftE K C E a) D σ H := by
  obtain ⟨c, DD, at_, en, h⟩ := q
  exact ⟨c, _, at_, h, fun W1 H1 v x f o r q1 => en.nx W1 _ _ _ (at_.frm f o) q1⟩
theorem ls_if {t : DT} {u v : DS} (q : liftS K C E (dIfS t u v) D σ H) : tIfS (liftT K C E t) (liftS K C E u) (liftS K C E v) D σ H := by
  obtain ⟨c, DD, at_, en, h⟩ := q
  refine ⟨c, _, at_, h, fun W1 H1 b f o q1 => ?_⟩
  cases b with
  | true => rw [if_pos rfl] at q1 ⊢; exact ⟨{ c with W := W1 }, DD, at_.frm f o, en.mv, q1⟩
  | false => rw [if_neg Bool.false_ne_true] at q1 ⊢; exact ⟨{ c with W := W1 }, DD, at_.frm f o, en.mv, q1⟩
theorem ls_never (q : liftS K C E dNever D σ H) : tNever D σ H := by
  obtain ⟨c, DD, at_, en, h⟩ := q
  exact h
theorem ls_asg {p : Pt} {a : DE} (q : liftS K C E (dAsg p a) D σ H) : tAsg (liftE K C E a) (gOf K p) D σ H := by
  obtain ⟨c, DD, at_, en, h⟩ := q
  refine ⟨c, _, at_, h, fun W1 H1 v x f o r q1 => ?_⟩
  exact bind_run (c := { c with W := W1 }) p (at_.frm f o) r q1 fun ρ' σ' at' _ n _ => en.nx W1 ρ' σ' H1 at' n
theorem ls_asgN {i : Nat} {a : DN} (q : liftS K C E (dAsgN i a) D σ H) : tAsg (liftN K C E a) (gName i) D σ H := by
  obtain ⟨c, DD, at_, en, h⟩ := q
  refine ⟨c, _, at_, h, fun W1 H1 p vs xs f o n nf nd e r q1 => ?_⟩
  have a1 := at_.frm f o
  refine en.nx W1 (c.ρ.set i (.ol xs)) (σ.set i (some (.ref p))) H1 ⟨a1.lk.setOwn i ⟨p, vs, rfl, ⟨nf, at_.fr.kp p n, nd⟩, e, r⟩ fun j t e1 e2 ne e3 => ?_, a1.fr, a1.el, a1.lo⟩ q1
  obtain ⟨w, h1, h2⟩ := at_.lk.sl j t e1
  rw [h1] at e3
  obtain rfl := Option.some.inj e3
  cases t with
  | un => cases e2
  | v x => cases e2
  | ol ys =>
    obtain ⟨q, us, z, _, hq, _⟩ := h2
    obtain rfl := V.ref.inj (Option.some.inj z)
    rw [n] at hq; cases hq
  | od ps =>
    obtain ⟨q, us, z, _, hq, _⟩ := h2
    obtain rfl := V.ref.inj (Option.some.inj z)
    rw [n] at hq; cases hq
  | ob ps =>
    obtain ⟨q, us, ks, z, _, hq, _⟩ := h2
    obtain rfl := V.ref.inj (Option.some.inj z)
    rw [n] at hq; cases hq
/-- what is kept now was one's own -/
theorem Cn.At.frz {c : Cn} {i : Nat} {s : Sl} (a : c.At K C E σ H) (e : c.ρ[i]? = some s) : ∃ W', Cn.At K C E { c with W := W', ρ := c.ρ.set i (frzS s) } σ H := by
  obtain ⟨o, h1, h2⟩ := a.lk.sl i s e
  have hset : ∀ u, c.ρ[i]? = some u → c.ρ.set i u = c.ρ := fun u h => by
    obtain ⟨hl, rfl⟩ := List.getElem?_eq_some_iff.mp h
    exact List.set_getElem_self hl
  have main : ∀ (p : Addr) (ho : HO) (t : Sl), o = some (.ref p) → own s = true → Mine c.Hin c.W p → H p = some ho → (∀ ps, ho ≠ .tbl ps) → own t = false → (∀ W', W'.F p = some ho → c.W.Le W' → SlR K c.Hin W' H t (some (.ref p))) →
      ∃ W', Cn.At K C E { c with W := W', ρ := c.ρ.set i t } σ H := by
    intro p ho t eo hs mi hp nt ht hr
    subst eo
    refine ⟨c.W.keep p ho, ⟨?_, a.fr.keeps mi.i mi.f, a.el, a.lo.trans (Wd.le_keep mi.f)⟩⟩
    refine ⟨a.lk.ok.keep mi.f hp mi.d nt, by rw [List.length_set]; exact a.lk.len, fun j u z => ?_, fun x y s1 t1 q ne e1 e2 o1 o2 g1 g2 => ?_⟩
    · rcases set_get z with ⟨rfl, rfl⟩ | ⟨ne, zz⟩
      · exact ⟨_, h1, hr _ keep_at (Wd.le_keep mi.f)⟩
      · obtain ⟨w, h3, h4⟩ := a.lk.sl j u zz
        refine ⟨w, h3, ?_⟩
        have oth : ∀ q hq, own u = true → w = some (.ref q) → Mine c.Hin c.W q → H q = some hq → Mine c.Hin (c.W.keep p ho) q := fun q hq ou ew m _ => ⟨by
          show upd c.W.F p ho q = none
          rw [upd_ne (fun z2 => by subst z2; subst ew; exact a.lk.sep i j s u q ne e zz hs ou h1 h3)]; exact m.f, m.i, m.d⟩
        cases u with
        | un => trivial
        | v x => obtain ⟨v, e1, r⟩ := h4; exact ⟨v, e1, r.le (Wd.le_keep mi.f)⟩
        | ol xs => obtain ⟨q, vs, e1, m, hq, r⟩ := h4; exact ⟨q, vs, e1, oth q _ rfl e1 m hq, hq, r.le (Wd.le_keep mi.f)⟩
        | od ps => obtain ⟨q, h0, e1, m, hq, r⟩ := h4; exact ⟨q, h0, e1, oth q _ rfl e1 m hq, hq, r.le (Wd.le_keep mi.f)⟩
        | ob ps => obtain ⟨q, h0, ks, e1, m, hq, b, r⟩ := h4; exact ⟨q, h0, ks, e1, oth q _ rfl e1 m hq, hq, b, r.le (Wd.le_keep mi.f)⟩
    · rcases set_get e1 with ⟨rfl, rfl⟩ | ⟨_, f1⟩
      · rw [ht] at o1; cases o1
      rcases set_get e2 with ⟨rfl, rfl⟩ | ⟨_, f2⟩
      · rw [ht] at o2; cases o2
      exact a.lk.sep x y s1 t1 q ne f1 f2 o1 o2 g1 g2
  cases s with
  | un => exact ⟨c.W, by rw [show frzS .un = .un from rfl, hset _ e]; exact a⟩
  | v x => exact ⟨c.W, by rw [show frzS (.v x) = .v x from rfl, hset _ e]; exact a⟩
  | ol xs =>
    obtain ⟨p, vs, e1, m, hp, r⟩ := h2
    exact main p _ (.v (.lst xs)) e1 rfl m hp (fun _ z => nomatch z) rfl fun W' hw l => ⟨_, rfl, .lst hw (r.le l)⟩
  | od ps =>
    have e0 : σ.set i (σ[i]?.getD none) = σ := by
      obtain ⟨hl, z⟩ := List.getElem?_eq_some_iff.mp h1
      rw [h1]
      refine List.ext_getElem? fun j => ?_
      by_cases q : i = j
      · subst q; rw [List.getElem?_set_self hl, h1]; rfl
      · rw [List.getElem?_set_ne q]
    have l' := a.lk.set (s := .un) (o := σ[i]?.getD none) i trivial rfl
    rw [e0] at l'
    exact ⟨c.W, l', a.fr, a.el, a.lo⟩
  | ob ps =>
    have e0 : σ.set i (σ[i]?.getD none) = σ := by
      obtain ⟨hl, z⟩ := List.getElem?_eq_some_iff.mp h1
      rw [h1]
      refine List.ext_getElem? fun j => ?_
      by_cases q : i = j
      · subst q; rw [List.getElem?_set_self hl, h1]; rfl
      · rw [List.getElem?_set_ne q]
    have l' := a.lk.set (s := .un) (o := σ[i]?.getD none) i trivial rfl
    rw [e0] at l'
    exact ⟨c.W, l', a.fr, a.el, a.lo⟩
theorem ls_frz {i : Nat} {t : DS} (q : liftS K C E (dFrz i t) D σ H) : liftS K C E t D σ H := by
  obtain ⟨c, DD, at_, en, s, e, h⟩ := q
  obtain ⟨W', a⟩ := at_.frz e
  exact ⟨_, DD, a, en.mv, h⟩
theorem ls_aug {i : Nat} {f : D2} {a : DE} {ti : TIp} (hb : Op2 K ti f) (q : liftS K C E (dAug i f a) D σ H) : tAug i (liftE K C E a) ti D σ H := by
  obtain ⟨c, DD, at_, en, x, e, h⟩ := q
  obtain ⟨o, h1, u, rfl, r⟩ := at_.lk.sl i _ e
  refine ⟨u, h1, c, _, at_, h, fun W1 H1 v1 x1 f1 o1 r1 q1 => ?_⟩
  refine hb W1 H1 u x v1 x1 _ _ o1 (r.le f1.le) r1 q1 fun W2 H2 v x f2 o2 r2 q2 => ?_
  have a2 := at_.frm (f1.trans f2) o2
  exact en.nx W2 (c.ρ.set i (.v x)) _ H2 ⟨a2.lk.set (s := .v x) i ⟨v, rfl, r2⟩ rfl, a2.fr, a2.el, a2.lo⟩ q2
/-! loops -/
def dWhileF (t : DT) (b : DS) (D : DEnds) (X : DX) : Nat → Env → Prop
  | 0, _ => False
  | n + 1, ρ => t X ρ fun k => if k = true then b { D with nx := dWhileF t b D X n, ct := dWhileF t b D X n, bk := D.nx } X ρ else D.nx ρ
def dWhile (t : DT) (b : DS) : DS := fun D X ρ => ∃ n, dWhileF t b D X n ρ
theorem ls_while {t : DT} {b : DS} (q : liftS K C E (dWhile t b) D σ H) : tWhile (liftT K C E t) (liftS K C E b) D σ H := by
  obtain ⟨c, DD, at_, en, n, h⟩ := q
  refine ⟨fun m σ' H' => ∃ W' ρ', Cn.At K C E { c with W := W', ρ := ρ' } σ' H' ∧ dWhileF t b DD c.PX m ρ', ⟨n, c.W, c.ρ, at_, h⟩, ?_⟩
  rintro m σ' H' ⟨W', ρ', a, w⟩
  cases m with
  | zero => exact w.elim
  | succ m =>
    refine ⟨_, _, a, w, fun W1 H1 k f o q1 => ?_⟩
    cases k with
    | true =>
      rw [if_pos rfl] at q1 ⊢
      refine ⟨fun σ' H' => ∃ W' ρ', Cn.At K C E { c with W := W', ρ := ρ' } σ' H' ∧ dWhileF t b DD c.PX m ρ', fun σ2 H2 w2 => ⟨m, Nat.lt_succ_self m, w2⟩, ?_⟩
      exact ⟨_, { DD with nx := dWhileF t b DD c.PX m, ct := dWhileF t b DD c.PX m, bk := DD.nx }, a.frm f o, ⟨fun W2 ρ2 σ2 H2 a2 w2 => ⟨W2, ρ2, a2, w2⟩, en.nx, fun W2 ρ2 σ2 H2 a2 w2 => ⟨W2, ρ2, a2, w2⟩, en.rt, en.rn⟩, q1⟩
    | false =>
      rw [if_neg Bool.false_ne_true] at q1 ⊢
      exact en.nx _ _ _ _ (a.frm f o) q1
/-- what is walked, item by item -/
def YD (K : PySem.W.Frag) (W : Wd) (xs : List Dt) : Nat → Hp → V → Hp → Prop := fun i H u H' => (H' = H ∧ ∃ x, xs[i]? = some x ∧ Rp K W u x) ∨
  (∃ T a b va vb, u = .ref T ∧ H T = none ∧ H' = upd H T (.tup [va, vb]) ∧ xs[i]? = some (.tup [a, b]) ∧ Rp K W va a ∧ Rp K W vb b) ∨
  (∃ T1 T2 k a b va vb, u = .ref T2 ∧ H T1 = none ∧ upd H T1 (.tup [va, vb]) T2 = none ∧ H' = upd (upd H T1 (.tup [va, vb])) T2 (.tup [.int k, .ref T1]) ∧ xs[i]? = some (.tup [.int k, .tup [a, b]]) ∧ Rp K W va a ∧ Rp K W vb b)
abbrev DWalk (K : PySem.W.Frag) (W : Wd) (J : It) (xs : List Dt) : Prop := Walk J xs.length (fun H => Same W.F H) (YD K W xs)
def liftI (K : PySem.W.Frag) (C : Ec) (E : XK) (d : DA) : TI := fun σ H R => ∃ (c : Cn) (P : List Dt → Prop), c.At K C E σ H ∧ d c.PX c.ρ P ∧ ∀ W' H' J xs, Frm c.W H W' H' → Ok K W' H' → DWalk K W' J xs → P xs → R J H'
theorem yd_run {W W' : Wd} {xs : List Dt} {i : Nat} {H H' : Hp} {u : V} (y : YD K W xs i H u H') (o : Ok K W' H) (l : W.Le W') : ∃ W2 x, Frm W' H W2 H' ∧ Ok K W2 H' ∧ xs[i]? = some x ∧ Rp K W2 u x := by
  rcases y with ⟨rfl, x, e, r⟩ | ⟨T, a, b, va, vb, rfl, n, rfl, e, ra, rb⟩ | ⟨T1, T2, k, a, b, va, vb, rfl, n1, n2, rfl, e, ra, rb⟩
  · exact ⟨W', x, Frm.refl _ _, o, e, r.le l⟩
  · have f := Frm.kept (o := .tup [va, vb]) o n
    exact ⟨_, _, f, o.kept n, e, .tup keep_at (.cons ((ra.le l).le f.le) (.cons ((rb.le l).le f.le) .nil))⟩
  · have f1 := Frm.kept (W := W') (o := .tup [va, vb]) o n1
    have o1 := Ok.kept (o := .tup [va, vb]) o n1
    have f2 := Frm.kept (o := .tup [.int k, .ref T1]) o1 n2
    have r1 : Rp K (W'.keep T1 (.tup [va, vb])) (.ref T1) (.tup [a, b]) := .tup keep_at (.cons ((ra.le l).le f1.le) (.cons ((rb.le l).le f1.le) .nil))
    exact ⟨_, _, f1.trans f2, Ok.kept (o := .tup [.int k, .ref T1]) o1 n2, e, .tup keep_at (.cons (.int k) (.cons (r1.le f2.le) .nil))⟩
def dLoop (p : Pt) (b : DS) (D : DEnds) (X : DX) : List Dt → Env → Prop
  | [], ρ => D.nx ρ
  | x :: xs, ρ => bindD p x ρ fun ρ' => b { D with nx := dLoop p b D X xs, ct := dLoop p b D X xs, bk := D.nx } X ρ'
def dFor (w : DA) (p : Pt) (b : DS) : DS := fun D X ρ => w X ρ fun xs => dLoop p b D X xs ρ
theorem drop_at {α : Type} {l : List α} {i : Nat} {x : α} (h : l[i]? = some x) : l.drop i = x :: l.drop (i + 1) := by
  obtain ⟨hl, rfl⟩ := List.getElem?_eq_some_iff.mp h
  exact List.drop_eq_getElem_cons hl
theorem ls_for {w : DA} {p : Pt} {b : DS} (q : liftS K C E (dFor w p b) D σ H) : tFor (liftI K C E w) (gOf K p) (liftS K C E b) D σ H := by
  obtain ⟨c, DD, at_, en, h⟩ := q
  refine ⟨c, _, at_, h, fun W1 H1 J xs f1 o1 wk q1 => ?_⟩
  refine for_it wk (fun i σ' H' => ∃ W' ρ', Cn.At K C E { c with Wl := W1, W := W', ρ := ρ' } σ' H' ∧ dLoop p b DD c.PX (xs.drop i) ρ') ⟨W1, c.ρ, ⟨(at_.frm f1 o1).lk, (at_.frm f1 o1).fr, at_.el, Wd.Le.refl _⟩, q1⟩ ?_ ?_ ?_
  · rintro i σ' H' _ ⟨W', ρ', a, _⟩
    exact Same.trans a.lo.sF a.lk.ok.sF
  · rintro i u σ' H' H2 hi ⟨W', ρ', a, q⟩ y
    obtain ⟨W2, x, f2, o2, e, r⟩ := yd_run y a.lk.ok a.lo
    rw [drop_at e] at q
    refine bind_run (c := { c with Wl := W1, W := W2 }) p (a.frm f2 o2) r q fun ρ3 σ3 a3 _ q3 _ => ?_
    refine ⟨_, { DD with nx := dLoop p b DD c.PX (xs.drop (i + 1)), ct := dLoop p b DD c.PX (xs.drop (i + 1)), bk := DD.nx }, a3, ⟨fun W4 ρ4 σ4 H4 a4 w4 => ⟨W4, ρ4, a4, w4⟩, fun W4 ρ4 σ4 H4 a4 w4 => ?_, fun W4 ρ4 σ4 H4 a4 w4 => ⟨W4, ρ4, a4, w4⟩, en.rt, en.rn⟩, q3⟩
    exact en.nx W4 ρ4 σ4 H4 ⟨a4.lk, a4.fr, a4.el, (at_.lo.trans f1.le).trans a4.lo⟩ w4
  · rintro σ' H' ⟨W', ρ', a, q⟩
    rw [List.drop_length] at q
    exact en.nx _ _ _ _ ⟨a.lk, a.fr, a.el, (at_.lo.trans f1.le).trans a.lo⟩ q

/-! comprehensions: the walked things, one behind the other; the found ones from the back -/
def wipeD (ρ : Env) : List Nat → Env
  | [] => ρ
  | v :: vs => (wipeD ρ vs).set v .un
theorem Cn.At.wipe {c : Cn} (a : c.At K C E σ H) : ∀ vs : List Nat, Cn.At K C E { c with ρ := wipeD c.ρ vs } (wipe σ vs) H
  | [] => a
  | v :: vs => by
    have h := Cn.At.wipe a vs
    exact ⟨h.lk.set (s := .un) v trivial rfl, h.fr, h.el, h.lo⟩
theorem wipe_wipe {σ : L2.St} {vs : List Nat} : ∀ {us : List Nat}, (∀ i ∈ us, i ∈ vs) → L2.wipe (L2.wipe σ us) vs = L2.wipe σ vs
  | [], _ => rfl
  | u :: us, h => by
    show L2.wipe ((L2.wipe σ us).set u none) vs = _
    rw [wipe_set (h u List.mem_cons_self)]
    exact wipe_wipe fun i hi => h i (List.mem_cons_of_mem _ hi)
theorem Ok.change {W : Wd} {H : Hp} {p : Addr} {o u : HO} (k : Ok K W H) (n : W.F p = none) (nd : ¬ W.dl p) (h : H p = some u) (w : Ownish u) : Ok K W (upd H p o) :=
  ⟨fun b u z => by rw [upd_ne (fun q => by rw [q, n] at z; cases z)]; exact k.sF b u z, fun d z => by
    obtain ⟨f, m⟩ := k.dc d z
    exact ⟨f, m.mv rfl (Same.refl _) (upd_ne (fun q => nd (by rw [← q]; exact z))) fun c hc => by
      rw [upd_ne (fun q => by
        rw [q, h] at hc
        rw [Option.some.inj hc] at w
        exact ownish_code w)]
      exact hc⟩, k.td, k.nt⟩
theorem SameOwn.wipe {ρ : Env} {σ : L2.St} : ∀ vs : List Nat, SameOwn ρ (wipeD ρ vs) σ (L2.wipe σ vs)
  | [] => SameOwn.refl _ _
  | v :: vs => (SameOwn.wipe vs).trans (SameOwn.set v rfl)
def dComp (p : Pt) (t : DT) (e : DE) (ρ0 : Env) (X : DX) : List Dt → List Dt → (List Dt → Prop) → Prop
  | [], acc, P => P acc
  | x :: xs, acc, P => bindD p x ρ0 fun ρ => t X ρ fun k => if k = true then e X ρ fun y => acc.length ≤ 100000 ∧ dComp p t e ρ0 X xs (acc ++ [y]) P else dComp p t e ρ0 X xs acc P
def dLc (w : DA) (p : Pt) (t : DT) (e : DE) (vs : List Nat) : DN := fun X ρ P => w X ρ fun xs => dComp p t e (wipeD ρ vs) X xs [] P
def dYes : DT := fun _ _ Q => Q true
theorem le_yes {QB : Bool → Hp → Prop} (q : liftT K C E dYes σ H QB) : tYes σ H QB := by
  obtain ⟨c, P, at_, h, k⟩ := q
  exact k _ _ _ (Frm.refl _ _) at_.lk.ok h
theorem le_lc {w : DA} {p : Pt} {t : DT} {e : DE} {vs : List Nat} {Q : VK} (hp : ptIn vs p = true) (q : liftN K C E (dLc w p t e vs) σ H Q) : tLc (liftI K C E w) (gOf K p) (liftT K C E t) (liftE K C E e) vs σ H Q := by
  obtain ⟨c, P, at_, h, k⟩ := q
  refine ⟨c, _, at_, h, fun W1 H1 J xs f1 o1 wk q1 D n => ?_⟩
  have hn0 : H D = none := f1.kp D n
  refine lc_it wk (fun i H' => ∃ W' acc vs', Cn.At K C E { c with Wl := W1, W := W' } σ H' ∧ Frm c.W H W' H' ∧ W'.F D = none ∧ ¬ W'.dl D ∧ H' D = some (.lst vs') ∧ RpL K W' vs' acc ∧ dComp p t e (wipeD c.ρ vs) c.PX (xs.drop i) acc P)
    ⟨W1, [], [], ?_, f1.trans (Frm.laid n), o1.fr n, o1.dice_ne n, upd_same, .nil, q1⟩ ?_ ?_ ?_
  · have a1 := at_.frm f1 o1
    have a2 := a1.frm (Frm.laid (o := .lst []) n) (o1.laid n)
    exact ⟨a2.lk, a2.fr, a2.el, Wd.Le.refl _⟩
  · rintro i H' _ ⟨W', acc, vs', a, _⟩
    exact Same.trans a.lo.sF a.lk.ok.sF
  · rintro i u H' H2 hi ⟨W', acc, vs', a, fr, nF, nd, hD, ra, q⟩ y
    obtain ⟨W2, x, f2, o2, ex, r⟩ := yd_run y a.lk.ok a.lo
    rw [drop_at ex] at q
    have a2 := (a.frm f2 o2).wipe vs
    refine bind_run (c := { c with Wl := W1, W := W2, ρ := wipeD c.ρ vs }) p a2 r q fun ρ3 σ3 a3 w3 q3 _ => ⟨(w3 vs hp).trans (wipe_wipe fun _ h => h), ?_⟩
    · refine ⟨{ c with Wl := W1, W := W2, ρ := ρ3 }, _, a3, q3, fun W4 H4 b f4 o4 q4 => ?_⟩
      have fr4 := (fr.trans f2).trans f4
      have f24 := f2.trans f4
      have a4 : Cn.At K C E { c with Wl := W1, W := W4 } σ H4 := a.frm f24 o4
      cases b with
      | true =>
        rw [if_pos rfl] at q4
        refine iteT ?_
        refine ⟨{ c with Wl := W1, W := W4, ρ := ρ3 }, _, a3.frm f4 o4, q4, fun W5 H5 v y f5 o5 r5 ⟨hz, q5⟩ => ?_⟩
        have f25 := f24.trans f5
        have hD5 := f25.sH D _ hD nd
        have nF5 := f25.nF D _ hD nd trivial nF
        have nd5 := f25.ndl hD nd
        have ra5 := ra.le f25.le
        have fr5 := fr4.trans f5
        have up : Frm c.W H W5 (upd H5 D (.lst (vs' ++ [v]))) := ⟨fr5.le, fun b o hb hd => by rw [upd_ne (ne_new hn0 hb)]; exact fr5.sH b o hb hd, fr5.nF, fr5.dn, fun b hb => by
          by_cases e : b = D
          · rw [e]; exact hn0
          · rw [upd_ne e] at hb; exact fr5.kp b hb⟩
        refine ⟨vs', hD5, Nat.lt_of_le_of_lt (by rw [ra.length]; exact hz) (by decide), W5, acc ++ [y], vs' ++ [v], ?_, up, nF5, nd5, upd_same, ra5.append (.cons r5 .nil), q5⟩
        have au := at_.frm up (o5.change nF5 nd5 hD5 trivial)
        exact ⟨au.lk, au.fr, at_.el, a.lo.trans f25.le⟩
      | false =>
        rw [if_neg Bool.false_ne_true] at q4
        refine iteF ?_
        exact ⟨W4, acc, vs', a4, fr4, f24.nF D _ hD nd trivial nF, f24.ndl hD nd, f24.sH D _ hD nd, ra.le f24.le, q4⟩
  · rintro H' ⟨W', acc, vs', a, fr, nF, nd, hD, ra, q⟩
    rw [List.drop_length] at q
    exact k W' H' D vs' acc fr a.lk.ok hn0 nF nd hD ra q
end
end Dx
end
section
/-! an own error whose __init__ hands a text to the base's and keeps one field; what does not name the field -/
namespace PySem
namespace OwnX
open PySem.W PySem.Calls PyProof.Rows PySem.HandSPX
/-- an exception made, its base's __init__ run, the field kept -/
structure InitEnd (f : Str) (h h' : Heap) (x C dx t1 : Addr) (v : Value) : Prop where
  keep : ∀ b o, b ≠ x → h.get? b = some o → h'.get? b = some o
  obj : h'.get? x = some { cls := .ref C, dict := some dx, data := .fields #[.ref t1, .none, .none, .none, .bool false, .none] }
  dbig : h.objs.size ≤ dx
  dne : dx ≠ x
  ns : h'.Ns1 dx (fun y => if y = f then some v else none)
structure OwnMade (f : Str) (h h' : Heap) (e C d : Addr) (v : Value) : Prop where
  keep : ∀ b o, h.get? b = some o → h'.get? b = some o
  new : h.objs.size ≤ e
  obj : ∃ oe vs, h'.get? e = some oe ∧ oe.cls = .ref C ∧ oe.dict = some d ∧ oe.data = .fields vs ∧ vs[1]? = some .none
  dbig : h.objs.size ≤ d
  dne : d ≠ e
  ns : h'.Ns1 d (fun y => if y = f then some v else none)
theorem kept_but {K : Frag} {h h' : Heap} {x : Addr} (X : K.In h) (hx : K.lookup x = none) (k : ∀ b o, b ≠ x → h.get? b = some o → h'.get? b = some o) : K.In h' := fun a o e =>
  k a o (fun z => by rw [z, hx] at e; cases e) (X a o e)
/-- the tail behind own classes, in both of the library's words -/
theorem tail_of : ∀ l : List Value, refsVE l = true → excTail veTail l = true := by
  intro l
  induction l with
  | nil => intro e; exact absurd e (by decide)
  | cons v r ih =>
    intro e
    rcases refsVE_cases (v :: r) e with ⟨c, r', q, z⟩ | q
    · obtain ⟨rfl, rfl⟩ := List.cons.inj q
      exact ih z
    · rw [q]; decide
theorem init_in {K : Frag} {C N : Addr} {nm q : Str} {bs bm : List Value} {hd : Bool} {sn : List Str} {sub : List Value} {ab : Bool} {col : Option Bool} {dd : Option Addr} {k0 k1 k2 k3 k5 : Option Value}
    (h : K.lookup C = some (excClassObj nm q C N bs bm hd sn sub ab col dd k0 k1 k2 k3 k5 "ValueError.__new__")) (t : refsVE bm = true) : excInitIn K C veTail "ValueError.__new__" = true := by
  unfold excInitIn
  rw [h]
  show (C == C && "ValueError.__new__" == "ValueError.__new__" && !false && excTail veTail bm) = true
  rw [tail_of bm t]
  simp
end OwnX
end PySem
namespace L2
open PySem PySem.Spec PyProof.Rows
/-- an own error class with one field: what its call makes -/
structure OwnC (P : Program) (w : World) (K : PySem.W.Frag) (mg : Str → Option Value) (cn f : Str) (C : Addr) : Prop where
  gC : mg cn = some (.ref C)
  kC : PySem.W.keepIn K (.ref C) = true
  exC : PySem.W.subIn K (.ref C) (.type "BaseException") = some true
  tyC : PySem.W.typeIn K (.ref C) = some (.type "type")
  xf : XfC K C
  noN : PySem.W.findIn K (.ref C) f = some none
  made : ∀ {A : Around} {R : Result → Shared → Prop} {s : Shared} {v : Value}, K.In s.heap → s.heap.Ns mainGlobals mg → (∃ mb, s.heap.Ns builtinsNs mb ∧ ∀ y : Str, y ≠ "__name__" → mb y = bootBuiltins y) → s.heap.NoLimit → A.depth + 1 < recursionLimit →
    (∀ h' tk e d, PySem.OwnX.OwnMade f s.heap h' e C d v → R (.ok (.ret (.ref e))) { s with heap := h', toks := tk }) → codeAny (model P w) A (.call (.ref C) ⟨[v], []⟩) R s
theorem relO_one {v : V} {u : Value} {f : Str} (r : RelV v u) (g : Str) : RelO (List.lookup g [(f, v)]) (if g = f then some u else none) := by
  by_cases e : g = f
  · subst e
    rw [if_pos rfl, show List.lookup g [(g, v)] = some v by simp [List.lookup]]
    exact r
  · rw [if_neg e, show List.lookup g [(f, v)] = none by simp [List.lookup, show (g == f) = false by simpa using e]]
    exact True.intro
section
variable {X : Cx} {C : Addr} {cn f : Str}
/-- the class called on one thing: a new error, its dict at d -/
def tMkF (C : Addr) (f : Str) (ta : TA) : St → Hp → XK → Prop := fun σ H Q => ta σ H fun vs H1 => ∃ v, vs = [v] ∧ ∀ d, H1 d = none → Q (.ref C) (some d) (upd H1 d (.xd [(f, v)]))
theorem pmk_f {a : Expr} {ta : TA} {p pos : Pos} {k : Nat} (T : OwnC X.prog X.w X.K X.mg cn f C) (hr : Room k X.A) (ha : PA X [a] ta) (hg : Gl X cn) (hdb : (cn == ("__debug__" : Str)) = false := by decide)
    (he : starEach (a :: []) X.env = (false, eval a X.env) :: starEach [] X.env := by rfl) (hpl : (backTo pos (starEach [] X.env)).any (·.1) = false := by rfl) :
    PMk X (.Call (.Name cn p) [a] [] pos) (tMkF C f ta) := fun pins s σ H Q I h => by
  refine wpAny_Call_Name_kw (ld_glob I hg T.gC ?_ hdb)
  refine PySem.W.callWith_K (h₀ := X.base) I.ok.mod.kin T.kC (thn (ha.run pos pins s σ H _ I h) fun us s1 ⟨vs, H1, I1, r1, v, ev, q1⟩ => ⟨I1.kIn, ?_⟩) he hpl
  subst ev
  cases r1 with
  | @cons _ v' _ us' rv rn =>
    cases rn
    show wpAny _ _ (call (.ref C) [v']) _ _ _
    obtain ⟨mb, hB, hb⟩ := I1.mod.blt
    have G1 := I1.mod.glob.keeps I1.bk
    have B1 : ∃ mb, s1.heap.Ns builtinsNs mb ∧ ∀ y : Str, y ≠ "__name__" → mb y = bootBuiltins y := ⟨mb, hB.keeps I1.bk, hb⟩
    have hlim := I1.nolimit
    obtain ⟨hp, g, dr, tk, os⟩ := s1
    refine wpAny_call (T.made I1.kIn G1 B1 hlim (by have := hr.dp; omega) fun h' tk' e d M => ?_)
    obtain ⟨oe, fv, hoe, hc, hd, hdat, h1⟩ := M.obj
    obtain ⟨G', g1, g2⟩ := restrict h' fun b => decide (b ≠ e)
    have ge : G'.get? e = none := g2 e (by simp)
    have gk : ∀ b, b ≠ e → G'.get? b = h'.get? b := fun b hb => g1 b (decide_eq_true hb)
    have J : Inv X pins σ (upd H1 d (.xd [(f, v)])) ⟨G', g, dr, tk', os⟩ := I1.laid (t' := tk') (fun b o q => (gk b (Nat.ne_of_lt (Nat.lt_of_lt_of_le (Heap.lt_size q) M.new))).trans (M.keep b o q)) M.dbig
      ⟨_, M.ns.at (fun o q => (gk d M.dne).trans q), relO_one rv⟩
    refine ⟨e, oe, fv, ⟨G', g, dr, tk', os⟩, _, .ref C, some d, rfl, J, fun b o q => ?_, ge, hoe, ⟨hc, hd⟩, hdat, h1, ?_, rfl, I1.bare, raises_own T.exC T.tyC, q1 d (I1.hok.fresh M.dbig)⟩
    · by_cases hb : b = e
      · subst hb
        have q' : G'.get? b = some o := q
        rw [ge] at q'; cases q'
      · exact (gk b hb).symm.trans q
    · rw [upd_ne (Ne.symm M.dne)]
      exact I1.hok.fresh M.new
/-- raise -/
def tRaiseF (C : Addr) (f : Str) (W : WX) (ta : TA) : TS := fun _ σ H => tMkF C f ta σ H fun cls d H' => W cls d σ H'
theorem ps_raiseF {a : Expr} {ta : TA} {W : WX} {p pos pos2 : Pos} {k : Nat} (hc : X.calm = true) (tk : Takes X W) (T : OwnC X.prog X.w X.K X.mg cn f C) (hr : Room k X.A) (ha : PA X [a] ta) (hg : Gl X cn) (hdb : (cn == ("__debug__" : Str)) = false := by decide)
    (he : starEach (a :: []) X.env = (false, eval a X.env) :: starEach [] X.env := by rfl) (hpl : (backTo pos (starEach [] X.env)).any (·.1) = false := by rfl) :
    PS X (.Raise (some (.Call (.Name cn p) [a] [] pos)) none pos2) (tRaiseF C f W ta) := ps_raise hc tk (pmk_f T hr ha hg hdb he hpl)
end
end L2
end
section
/-! the program's own errors: one field each, kept behind the base's __init__ -/
namespace PySem
namespace Own_left
open PySem.W PySem.Calls PyProof.Rows PySem.HandSPX PySem.OwnX
def iA (p1 p2 : Pos) : Arguments := { posonlyargs := [], args := [{ arg := "self", annotation := none, pos := p1 }, { arg := "left", annotation := none, pos := p2 }], vararg := none, kwonlyargs := [], kw_defaults := [], kwarg := none, defaults := [] }
def iB (m : Str) (a1 a2 a3 a4 a5 a6 a7 a8 a9 a10 : Pos) : List Stmt := [.Expr (.Call (.Attribute (.Call (.Name "super" a1) [] [] a2) "__init__" a3) [.Constant (.str m) 0 a4] [] a5) a6, .Assign [.Attribute (.Name "self" a7) "left" a8] (.Name "left" a9) a10]
def iS : Scope := { kind := .function, names := [(PySem.Str.ofString "self", .local), (PySem.Str.ofString "left", .local), (PySem.Str.ofString "__class__", .free), (PySem.Str.ofString "super", .globalImplicit)], isGenerator := false, isCoroutine := false, more := [] }
/-- how the call of the base's __init__ is read, whatever the frame -/
def Reads (m : Str) (a1 a2 a3 a4 a5 : Pos) : Prop := ∃ pl : Sem Bool, ∀ env : Env, eval (.Call (.Attribute (.Call (.Name "super" a1) [] [] a2) "__init__" a3) [.Constant (.str m) 0 a4] [] a5) env = (do
      let ov ← attributeBase (.Call (.Name "super" a1) [] [] a2) "__init__" env (eval (.Call (.Name "super" a1) [] [] a2) env)
      standAt a3.atName
      let (f, first) ← holding [ov] (getMethod ov "__init__" pl)
      callWith a5 f first (backTo a5 (starEach [.Constant (.str m) 0 a4] env)) [])
structure Txt (prog : Program) (K : Frag) (mg : Str → Option Value) (cn : Str) (C fI : Addr) : Prop where
  gC : mg cn = some (.ref C)
  noS : mg "super" = none
  cls : ∃ nm q N bs bm sn sub ab col dd k0 k1 k2 k3 k5, K.lookup C = some (excClassObj nm q C N bs bm true sn sub ab col dd k0 k1 k2 k3 k5 "ValueError.__new__") ∧ refsVE bm = true
  sa : findIn K (.ref C) "__setattr__" = some (some (.builtin "object.__setattr__"))
  xf : L2.XfC K C
  noN : findIn K (.ref C) "left" = some none
  iC : findIn K (.ref C) "__init__" = some (some (.ref fI))
  tC : typeIn K (.ref fI) = some (.type "function")
  kC : keepIn K (.ref C) = true
  exC : subIn K (.ref C) (.type "BaseException") = some true
  tyC : typeIn K (.ref C) = some (.type "type")
  sup : ks_superIn K C C "__init__" = some (some (.builtin "ValueError.__init__"))
  sV : subIn K (.ref C) (.type "ValueError") = some true
  mC : mroIn K C (.ref C) = some true
  any : nsIn K cStatics "thirdparty.any" = some none
  top : (prog.main.scope.names.lookup ("super" : Str)).isSome = false
  fn : ∃ (cda cc : Addr) (m qual : Str) (oc : Value) (od : Option Addr) (doc pm : Value) (an : Option Addr) (ct : Value) (osl : Array (Option Value)) (p1 p2 a1 a2 a3 a4 a5 a6 a7 a8 a9 a10 : Pos) (ccl : Value) (cdd : Option Addr) (vs : Array Value) (ccs : Array (Option Value)) (file : Str) (tf : Tok)
    (cl : Value) (cld : Option Addr) (csl : Array (Option Value)),
    K.lookup fI = some ⟨oc, od, .func (ksFn "__init__" qual (iA p1 p2) (iB m a1 a2 a3 a4 a5 a6 a7 a8 a9 a10) iS .none .none doc pm an (.ref cda) ct cc), osl⟩ ∧ codeIn K (.ref cda) qual = true ∧
    K.lookup cda = some ⟨ccl, cdd, .fields vs, ccs⟩ ∧ vs[2]? = some (.str file tf) ∧ ((prog.main.file : Str) == file) = true ∧ K.lookup cc = some ⟨cl, cld, .cell (some (.ref C)), csl⟩ ∧ Reads m a1 a2 a3 a4 a5
section
variable {prog : Program} {w : World} {A : Around} {E : Value → Shared → Prop} {R : Result → Shared → Prop} {s : Shared} {K : Frag} {mg : Str → Option Value} {cn : Str} {C fI : Addr}
theorem own_init (T : Txt prog K mg cn C fI) {x t0 : Addr} {v : Value} (X : K.In s.heap) (G : s.heap.Ns mainGlobals mg) (B : ∃ mb, s.heap.Ns builtinsNs mb ∧ ∀ y : Str, y ≠ "__name__" → mb y = bootBuiltins y) (hlim : s.heap.NoLimit)
    (hx : s.heap.get? x = some (excO C t0)) (hnK : ∀ o, K.lookup x ≠ some o) (hroom : A.depth < recursionLimit) (hq : ∀ h' tk dx t1, InitEnd "left" s.heap h' x C dx t1 v → R (.ok (.ret .none)) { s with heap := h', toks := tk }) :
    codeAny (model prog w) A (.call (.ref fI) ⟨[.ref x, v], []⟩) R s := by
  obtain ⟨cda, cc, m, qual, oc, od, doc, pm, an, ct, osl, p1, p2, a1, a2, a3, a4, a5, a6, a7, a8, a9, a10, ccl, cdd, vs, ccs, file, tf, cl, cld, csl, ho, hcd, hcda, hvs, hfile, hcc, pl, hrd⟩ := T.fn
  obtain ⟨nm, q, N, bs, bm, sn, sub, ab, col, dd, k0, k1, k2, k3, k5, hC, hbm⟩ := T.cls
  obtain ⟨mb, hB, hb⟩ := B
  have hcl : clsIn K C = some { name := nm, bases := bs, mro := .ref C :: bm, ns := N, qualname := q, hasDict := true, slotNames := sn, subclasses := sub, abstract := ab, collection := col, hasDel := false } := by unfold clsIn; rw [hC] <;> rfl
  refine ks_codeAny_call_defAt (fd := ksFn "__init__" qual (iA p1 p2) (iB m a1 a2 a3 a4 a5 a6 a7 a8 a9 a10) iS .none .none doc pm an (.ref cda) ct cc) (body := iB m a1 a2 a3 a4 a5 a6 a7 a8 a9 a10) (binds := [("self", .ref x), ("left", v)])
    hroom (X _ _ ho) rfl hlim (codeRec_of X hcd) rfl (BindsTo.of_eq (by first | rfl | with_unfolding_all rfl)) (show ∀ y ∈ iS.names, y.2 ≠ .cell by decide) (fun y hy => by
      simp only [List.mem_cons, List.not_mem_nil, or_false] at hy
      rcases hy with rfl | rfl
      · exact (by decide : iS.names.lookup ("self" : Str) = some .local)
      · exact (by decide : iS.names.lookup ("left" : Str) = some .local)) (fun h₁ hns k => ?_)
  have X₁ : K.In h₁ := X.keeps k
  have hx₁ := k _ _ hx
  have hxL : x ≠ s.heap.objs.size := Nat.ne_of_lt (Heap.lt_size hx)
  have hself : ([("self", Value.ref x), ("left", v)] : List (Str × Value)).reverse.lookup ("self" : Str) = some (.ref x) := by
    simp only [List.reverse_cons, List.reverse_nil, List.nil_append, List.cons_append, List.lookup, show (("self" : Str) == ("left" : Str)) = false by decide, show (("self" : Str) == ("self" : Str)) = true by decide]
  have hfld : ([("self", Value.ref x), ("left", v)] : List (Str × Value)).reverse.lookup ("left" : Str) = some v := by simp [List.lookup]
  have I₁ : InstAt h₁ x (excO C t0) C none := ⟨hx₁, rfl, rfl, trivial⟩
  have hne := ks_ne X₁ I₁ hcl
  refine ks_wpAt_execs_cons (ks_wpAt_Expr_any (ks_wpAt_MethodCall ?_ (hrd _)))
  refine ks_wpAt_super_base (by first | rfl | with_unfolding_all rfl | kernel_rfl) (by first | rfl | with_unfolding_all rfl | kernel_rfl) (by decide) rfl (X₁ _ _ ho) rfl rfl rfl (X₁ _ _ hcda) rfl hvs hfile T.top ?_
  refine ks_loadName_global rfl (by first | rfl | with_unfolding_all rfl | kernel_rfl) (loadGlobal_builtin (G.keeps k) T.noS (hB.keeps k) ((hb "super" (by decide)).trans (by first | boot_by_name | rfl | kernel_rfl)) ⟨rfl, ?_⟩)
  refine wpAny_loadName_free rfl (by first | rfl | with_unfolding_all rfl | kernel_rfl) (by first | rfl | with_unfolding_all rfl | kernel_rfl) ⟨_, X₁ _ _ hcc, rfl⟩ ?_
  refine wpAny_loadName_local rfl (by first | rfl | with_unfolding_all rfl | kernel_rfl) hns hself ?_
  refine ks_wpAny_isType_cls (X₁ _ _ hC) rfl ⟨rfl, ?_⟩
  refine ks_wpAny_call_super (X₁ _ _ hC) rfl hx₁ rfl (fun c e => by cases e) (looks_mroIn X₁ T.mC) fun h₂ e₂ k₂ => ?_
  have X₂ : K.In h₂ := X₁.keeps k₂
  have I₂ : InstAt h₂ x (excO C t0) C none := ⟨k₂ _ _ hx₁, rfl, rfl, trivial⟩
  have hsup := T.sup
  unfold ks_superIn at hsup
  rw [hcl] at hsup
  refine kxs_getMethod kxs_ValueError e₂ (looks_opaque X₂ T.any) (l₀ := .ref C :: bm) (fun A Q E s k q => wpAny_bind ((looks_clsIn X₂ hcl) A _ E s k (wpAny_pure q))) rfl X₂ hsup (I₂.type.andThen (looks_subIn X₂ T.sV)) hne (by decide) ?_
  have hnx : K.lookup x = none := by
    cases e : K.lookup x with
    | none => rfl
    | some o => exact (hnK o e).elim
  have up : ∀ b o, h₁.get? b = some o → (h₂.push (kxs_mw "ValueError.__init__" x)).get? b = some o := fun b o e => Heap.get?_push_of_some _ (k₂ _ _ e)
  have hu : (h₂.push (kxs_mw "ValueError.__init__" x)).get? h₂.objs.size = some (kxs_mw "ValueError.__init__" x) := Heap.get?_push_at rfl rfl
  have l1 : s.heap.objs.size < h₂.objs.size := by
    obtain ⟨oL, _, _, hL, _⟩ := hns
    exact Heap.lt_size (k₂ _ _ hL)
  have F₃ : Fr (hideAll s.heap [x]) s.heap.objs.size (h₂.push (kxs_mw "ValueError.__init__" x)) _ := ⟨hns.keeps up, fun b o e => up _ _ (k _ _ (of_hideAll _ e)), Nat.le_of_eq (hideAll_size _ _)⟩
  have N₃ : News (hideAll s.heap [x]) s.heap.objs.size (h₂.push (kxs_mw "ValueError.__init__" x)) [(h₂.objs.size, kxs_mw "ValueError.__init__" x), (x, excObj C t0 none .none)] := fun p hp => by
    rcases List.mem_cons.mp hp with rfl | hp
    · refine ⟨hu, fun z => Nat.ne_of_gt l1 z, ?_⟩
      cases e : (hideAll s.heap [x]).get? h₂.objs.size with
      | none => rfl
      | some o =>
        exact absurd (Nat.lt_trans (Heap.lt_size (of_hideAll _ e)) l1) (Nat.lt_irrefl _)
    · obtain rfl := List.mem_singleton.mp hp
      exact ⟨up _ _ hx₁, hxL, hideAll_none _ (by simp)⟩
  have X₀ : K.In (hideAll s.heap [x]) := fun a o e => hideAll_get _ (X _ _ e) fun z => by
    rw [List.mem_singleton.mp z, hnx] at e; cases e
  have xu : h₂.objs.size ≠ x := fun z => by
    have z2 := Heap.lt_size (k₂ _ _ hx₁)
    rw [z] at z2
    exact absurd z2 (Nat.lt_irrefl _)
  refine kxs_callWith1 (i := "ValueError.__init__") (x := x) N₃ (by simp) (spliced_more (wpAny_Constant_str (spliced_none ⟨hu, ?_⟩)))
  refine kxs_call F₃ X₀ N₃ F.excBase_ValueError (init_in hC hbm) (by simp) (.tail xu (.head (by simp))) (by rw [sizeLine_eq]; exact (by decide : 1 ≤ 16777216)) fun t1 h₄ F₄ N₄ _ => ?_
  have hx₄ : h₄.get? x = some (excO C t1) := (N₄ (x, excObj C t1 none .none) (by simp)).1
  show _root_.PySem.wpAt _ _ _ _ _ _ _
  have hns₄ := F₄.ns
  have X₄ : K.In h₄ := X₀.keeps F₄.keep
  have I₄ : InstAt h₄ x (excO C t1) C none := ⟨hx₄, rfl, rfl, trivial⟩
  refine ks_wpAt_execs_cons (wpAt_of_wpAny (plainObj_wpAny_Assign_Attribute ?_))
  refine ESX.ldL hns₄ hfld (ESX.ldL hns₄ hself ?_)
  refine set_plain X₄ I₄ T.sa ?_
  refine exc_osa X₄ hx₄ hcl (show refsVE (.ref C :: bm) = true from hbm) rfl T.noN (fun h₅ tk₅ dx k₅ dn dne hx₅ hn₅ => ?_)
  show _root_.PySem.wpAt _ _ _ _ _ _ _
  have z4 : s.heap.objs.size < h₄.objs.size := hns₄.lt
  refine wpAt_of_wpAny (wpAny_execs_nil (hq h₅ tk₅ dx t1 ⟨fun b o hb e => k₅ b o hb (F₄.keep b o (hideAll_get _ e (by simpa using hb))), hx₅, Nat.le_of_lt (Nat.lt_of_lt_of_le z4 dn), dne, hn₅⟩))
theorem own_made (T : Txt prog K mg cn C fI) {v : Value} (X : K.In s.heap) (G : s.heap.Ns mainGlobals mg) (B : ∃ mb, s.heap.Ns builtinsNs mb ∧ ∀ y : Str, y ≠ "__name__" → mb y = bootBuiltins y) (hlim : s.heap.NoLimit) (hroom : A.depth + 1 < recursionLimit)
    (hq : ∀ h' tk e d, OwnMade "left" s.heap h' e C d v → R (.ok (.ret (.ref e))) { s with heap := h', toks := tk }) :
    codeAny (model prog w) A (.call (.ref C) ⟨[v], []⟩) R s := by
  obtain ⟨nm, q, N, bs, bm, sn, sub, ab, col, dd, k0, k1, k2, k3, k5, hC, hbm⟩ := T.cls
  obtain ⟨hp, g, dr, tk, os⟩ := s
  have k : ∀ b o, hp.get? b = some o → ((hp.push (kdv_tup [v])).push (excO C hp.objs.size)).get? b = some o := fun b o e => Heap.get?_push_of_some _ (Heap.get?_push_of_some _ e)
  have hget : ((hp.push (kdv_tup [v])).push (excO C hp.objs.size)).get? (hp.objs.size + 1) = some (excO C hp.objs.size) := by heap_get
  have hnx : ∀ o, K.lookup (hp.objs.size + 1) ≠ some o := fun o e => by
    have z : hp.get? (hp.objs.size + 1) = some o := X _ _ e
    exact absurd (Nat.lt_of_succ_lt (Heap.lt_size z)) (Nat.lt_irrefl _)
  obtain ⟨mb, hB, hb⟩ := B
  refine call_own F.excBase_ValueError (fun X => refsVE_contains X bm hbm) (X _ _ hC) (looks_findIn X T.iC) (fun self => bind_fn X self T.tC) (by rw [sizeLine_eq]; exact (by decide : 1 ≤ 16777216)) ?_
  refine own_init (s := ⟨(hp.push (kdv_tup [v])).push (excO C hp.objs.size), g, dr, tk, os⟩) T (X.keeps k) (G.keeps k) ⟨mb, hB.keeps k, hb⟩ (hlim.keeps k) hget hnx ?_ fun h' tk' dx t1 ⟨k', hx, dn, dne, hns⟩ => ?_
  · show A.depth + 1 < recursionLimit
    exact hroom
  · have old : ∀ b o, hp.get? b = some o → h'.get? b = some o := fun b o e => k' b o (Nat.ne_of_lt (Nat.lt_succ_of_lt (Heap.lt_size e))) (k b o e)
    have z : hp.objs.size ≤ dx := by
      have q := dn
      rw [Heap.size_push, Heap.size_push] at q
      omega
    exact ⟨rfl, hq h' tk' (hp.objs.size + 1) dx ⟨old, Nat.le_succ _, ⟨_, _, hx, rfl, rfl, rfl, rfl⟩, z, dne, hns⟩⟩
theorem own_c (T : Txt prog K mg cn C fI) : L2.OwnC prog w K mg cn "left" C := ⟨T.gC, T.kC, T.exC, T.tyC, T.xf, T.noN, fun X G B hlim hroom hq => own_made T X G B hlim hroom hq⟩
end
end Own_left
end PySem
namespace PySem
namespace Own_why
open PySem.W PySem.Calls PyProof.Rows PySem.HandSPX PySem.OwnX
def iA (p1 p2 : Pos) : Arguments := { posonlyargs := [], args := [{ arg := "self", annotation := none, pos := p1 }, { arg := "why", annotation := none, pos := p2 }], vararg := none, kwonlyargs := [], kw_defaults := [], kwarg := none, defaults := [] }
def iB (m : Str) (a1 a2 a3 a4 a5 a6 a7 a8 a9 a10 : Pos) : List Stmt := [.Expr (.Call (.Attribute (.Call (.Name "super" a1) [] [] a2) "__init__" a3) [.Constant (.str m) 0 a4] [] a5) a6, .Assign [.Attribute (.Name "self" a7) "why" a8] (.Name "why" a9) a10]
def iS : Scope := { kind := .function, names := [(PySem.Str.ofString "self", .local), (PySem.Str.ofString "why", .local), (PySem.Str.ofString "__class__", .free), (PySem.Str.ofString "super", .globalImplicit)], isGenerator := false, isCoroutine := false, more := [] }
/-- how the call of the base's __init__ is read, whatever the frame -/
def Reads (m : Str) (a1 a2 a3 a4 a5 : Pos) : Prop := ∃ pl : Sem Bool, ∀ env : Env, eval (.Call (.Attribute (.Call (.Name "super" a1) [] [] a2) "__init__" a3) [.Constant (.str m) 0 a4] [] a5) env = (do
      let ov ← attributeBase (.Call (.Name "super" a1) [] [] a2) "__init__" env (eval (.Call (.Name "super" a1) [] [] a2) env)
      standAt a3.atName
      let (f, first) ← holding [ov] (getMethod ov "__init__" pl)
      callWith a5 f first (backTo a5 (starEach [.Constant (.str m) 0 a4] env)) [])
structure Txt (prog : Program) (K : Frag) (mg : Str → Option Value) (cn : Str) (C fI : Addr) : Prop where
  gC : mg cn = some (.ref C)
  noS : mg "super" = none
  cls : ∃ nm q N bs bm sn sub ab col dd k0 k1 k2 k3 k5, K.lookup C = some (excClassObj nm q C N bs bm true sn sub ab col dd k0 k1 k2 k3 k5 "ValueError.__new__") ∧ refsVE bm = true
  sa : findIn K (.ref C) "__setattr__" = some (some (.builtin "object.__setattr__"))
  xf : L2.XfC K C
  noN : findIn K (.ref C) "why" = some none
  iC : findIn K (.ref C) "__init__" = some (some (.ref fI))
  tC : typeIn K (.ref fI) = some (.type "function")
  kC : keepIn K (.ref C) = true
  exC : subIn K (.ref C) (.type "BaseException") = some true
  tyC : typeIn K (.ref C) = some (.type "type")
  sup : ks_superIn K C C "__init__" = some (some (.builtin "ValueError.__init__"))
  sV : subIn K (.ref C) (.type "ValueError") = some true
  mC : mroIn K C (.ref C) = some true
  any : nsIn K cStatics "thirdparty.any" = some none
  top : (prog.main.scope.names.lookup ("super" : Str)).isSome = false
  fn : ∃ (cda cc : Addr) (m qual : Str) (oc : Value) (od : Option Addr) (doc pm : Value) (an : Option Addr) (ct : Value) (osl : Array (Option Value)) (p1 p2 a1 a2 a3 a4 a5 a6 a7 a8 a9 a10 : Pos) (ccl : Value) (cdd : Option Addr) (vs : Array Value) (ccs : Array (Option Value)) (file : Str) (tf : Tok)
    (cl : Value) (cld : Option Addr) (csl : Array (Option Value)),
    K.lookup fI = some ⟨oc, od, .func (ksFn "__init__" qual (iA p1 p2) (iB m a1 a2 a3 a4 a5 a6 a7 a8 a9 a10) iS .none .none doc pm an (.ref cda) ct cc), osl⟩ ∧ codeIn K (.ref cda) qual = true ∧
    K.lookup cda = some ⟨ccl, cdd, .fields vs, ccs⟩ ∧ vs[2]? = some (.str file tf) ∧ ((prog.main.file : Str) == file) = true ∧ K.lookup cc = some ⟨cl, cld, .cell (some (.ref C)), csl⟩ ∧ Reads m a1 a2 a3 a4 a5
section
variable {prog : Program} {w : World} {A : Around} {E : Value → Shared → Prop} {R : Result → Shared → Prop} {s : Shared} {K : Frag} {mg : Str → Option Value} {cn : Str} {C fI : Addr}
theorem own_init (T : Txt prog K mg cn C fI) {x t0 : Addr} {v : Value} (X : K.In s.heap) (G : s.heap.Ns mainGlobals mg) (B : ∃ mb, s.heap.Ns builtinsNs mb ∧ ∀ y : Str, y ≠ "__name__" → mb y = bootBuiltins y) (hlim : s.heap.NoLimit)
    (hx : s.heap.get? x = some (excO C t0)) (hnK : ∀ o, K.lookup x ≠ some o) (hroom : A.depth < recursionLimit) (hq : ∀ h' tk dx t1, InitEnd "why" s.heap h' x C dx t1 v → R (.ok (.ret .none)) { s with heap := h', toks := tk }) :
    codeAny (model prog w) A (.call (.ref fI) ⟨[.ref x, v], []⟩) R s := by
  obtain ⟨cda, cc, m, qual, oc, od, doc, pm, an, ct, osl, p1, p2, a1, a2, a3, a4, a5, a6, a7, a8, a9, a10, ccl, cdd, vs, ccs, file, tf, cl, cld, csl, ho, hcd, hcda, hvs, hfile, hcc, pl, hrd⟩ := T.fn
  obtain ⟨nm, q, N, bs, bm, sn, sub, ab, col, dd, k0, k1, k2, k3, k5, hC, hbm⟩ := T.cls
  obtain ⟨mb, hB, hb⟩ := B
  have hcl : clsIn K C = some { name := nm, bases := bs, mro := .ref C :: bm, ns := N, qualname := q, hasDict := true, slotNames := sn, subclasses := sub, abstract := ab, collection := col, hasDel := false } := by unfold clsIn; rw [hC] <;> rfl
  refine ks_codeAny_call_defAt (fd := ksFn "__init__" qual (iA p1 p2) (iB m a1 a2 a3 a4 a5 a6 a7 a8 a9 a10) iS .none .none doc pm an (.ref cda) ct cc) (body := iB m a1 a2 a3 a4 a5 a6 a7 a8 a9 a10) (binds := [("self", .ref x), ("why", v)])
    hroom (X _ _ ho) rfl hlim (codeRec_of X hcd) rfl (BindsTo.of_eq (by first | rfl | with_unfolding_all rfl)) (show ∀ y ∈ iS.names, y.2 ≠ .cell by decide) (fun y hy => by
      simp only [List.mem_cons, List.not_mem_nil, or_false] at hy
      rcases hy with rfl | rfl
      · exact (by decide : iS.names.lookup ("self" : Str) = some .local)
      · exact (by decide : iS.names.lookup ("why" : Str) = some .local)) (fun h₁ hns k => ?_)
  have X₁ : K.In h₁ := X.keeps k
  have hx₁ := k _ _ hx
  have hxL : x ≠ s.heap.objs.size := Nat.ne_of_lt (Heap.lt_size hx)
  have hself : ([("self", Value.ref x), ("why", v)] : List (Str × Value)).reverse.lookup ("self" : Str) = some (.ref x) := by
    simp only [List.reverse_cons, List.reverse_nil, List.nil_append, List.cons_append, List.lookup, show (("self" : Str) == ("why" : Str)) = false by decide, show (("self" : Str) == ("self" : Str)) = true by decide]
  have hfld : ([("self", Value.ref x), ("why", v)] : List (Str × Value)).reverse.lookup ("why" : Str) = some v := by simp [List.lookup]
  have I₁ : InstAt h₁ x (excO C t0) C none := ⟨hx₁, rfl, rfl, trivial⟩
  have hne := ks_ne X₁ I₁ hcl
  refine ks_wpAt_execs_cons (ks_wpAt_Expr_any (ks_wpAt_MethodCall ?_ (hrd _)))
  refine ks_wpAt_super_base (by first | rfl | with_unfolding_all rfl | kernel_rfl) (by first | rfl | with_unfolding_all rfl | kernel_rfl) (by decide) rfl (X₁ _ _ ho) rfl rfl rfl (X₁ _ _ hcda) rfl hvs hfile T.top ?_
  refine ks_loadName_global rfl (by first | rfl | with_unfolding_all rfl | kernel_rfl) (loadGlobal_builtin (G.keeps k) T.noS (hB.keeps k) ((hb "super" (by decide)).trans (by first | boot_by_name | rfl | kernel_rfl)) ⟨rfl, ?_⟩)
  refine wpAny_loadName_free rfl (by first | rfl | with_unfolding_all rfl | kernel_rfl) (by first | rfl | with_unfolding_all rfl | kernel_rfl) ⟨_, X₁ _ _ hcc, rfl⟩ ?_
  refine wpAny_loadName_local rfl (by first | rfl | with_unfolding_all rfl | kernel_rfl) hns hself ?_
  refine ks_wpAny_isType_cls (X₁ _ _ hC) rfl ⟨rfl, ?_⟩
  refine ks_wpAny_call_super (X₁ _ _ hC) rfl hx₁ rfl (fun c e => by cases e) (looks_mroIn X₁ T.mC) fun h₂ e₂ k₂ => ?_
  have X₂ : K.In h₂ := X₁.keeps k₂
  have I₂ : InstAt h₂ x (excO C t0) C none := ⟨k₂ _ _ hx₁, rfl, rfl, trivial⟩
  have hsup := T.sup
  unfold ks_superIn at hsup
  rw [hcl] at hsup
  refine kxs_getMethod kxs_ValueError e₂ (looks_opaque X₂ T.any) (l₀ := .ref C :: bm) (fun A Q E s k q => wpAny_bind ((looks_clsIn X₂ hcl) A _ E s k (wpAny_pure q))) rfl X₂ hsup (I₂.type.andThen (looks_subIn X₂ T.sV)) hne (by decide) ?_
  have hnx : K.lookup x = none := by
    cases e : K.lookup x with
    | none => rfl
    | some o => exact (hnK o e).elim
  have up : ∀ b o, h₁.get? b = some o → (h₂.push (kxs_mw "ValueError.__init__" x)).get? b = some o := fun b o e => Heap.get?_push_of_some _ (k₂ _ _ e)
  have hu : (h₂.push (kxs_mw "ValueError.__init__" x)).get? h₂.objs.size = some (kxs_mw "ValueError.__init__" x) := Heap.get?_push_at rfl rfl
  have l1 : s.heap.objs.size < h₂.objs.size := by
    obtain ⟨oL, _, _, hL, _⟩ := hns
    exact Heap.lt_size (k₂ _ _ hL)
  have F₃ : Fr (hideAll s.heap [x]) s.heap.objs.size (h₂.push (kxs_mw "ValueError.__init__" x)) _ := ⟨hns.keeps up, fun b o e => up _ _ (k _ _ (of_hideAll _ e)), Nat.le_of_eq (hideAll_size _ _)⟩
  have N₃ : News (hideAll s.heap [x]) s.heap.objs.size (h₂.push (kxs_mw "ValueError.__init__" x)) [(h₂.objs.size, kxs_mw "ValueError.__init__" x), (x, excObj C t0 none .none)] := fun p hp => by
    rcases List.mem_cons.mp hp with rfl | hp
    · refine ⟨hu, fun z => Nat.ne_of_gt l1 z, ?_⟩
      cases e : (hideAll s.heap [x]).get? h₂.objs.size with
      | none => rfl
      | some o =>
        exact absurd (Nat.lt_trans (Heap.lt_size (of_hideAll _ e)) l1) (Nat.lt_irrefl _)
    · obtain rfl := List.mem_singleton.mp hp
      exact ⟨up _ _ hx₁, hxL, hideAll_none _ (by simp)⟩
  have X₀ : K.In (hideAll s.heap [x]) := fun a o e => hideAll_get _ (X _ _ e) fun z => by
    rw [List.mem_singleton.mp z, hnx] at e; cases e
  have xu : h₂.objs.size ≠ x := fun z => by
    have z2 := Heap.lt_size (k₂ _ _ hx₁)
    rw [z] at z2
    exact absurd z2 (Nat.lt_irrefl _)
  refine kxs_callWith1 (i := "ValueError.__init__") (x := x) N₃ (by simp) (spliced_more (wpAny_Constant_str (spliced_none ⟨hu, ?_⟩)))
  refine kxs_call F₃ X₀ N₃ F.excBase_ValueError (init_in hC hbm) (by simp) (.tail xu (.head (by simp))) (by rw [sizeLine_eq]; exact (by decide : 1 ≤ 16777216)) fun t1 h₄ F₄ N₄ _ => ?_
  have hx₄ : h₄.get? x = some (excO C t1) := (N₄ (x, excObj C t1 none .none) (by simp)).1
  show _root_.PySem.wpAt _ _ _ _ _ _ _
  have hns₄ := F₄.ns
  have X₄ : K.In h₄ := X₀.keeps F₄.keep
  have I₄ : InstAt h₄ x (excO C t1) C none := ⟨hx₄, rfl, rfl, trivial⟩
  refine ks_wpAt_execs_cons (wpAt_of_wpAny (plainObj_wpAny_Assign_Attribute ?_))
  refine ESX.ldL hns₄ hfld (ESX.ldL hns₄ hself ?_)
  refine set_plain X₄ I₄ T.sa ?_
  refine exc_osa X₄ hx₄ hcl (show refsVE (.ref C :: bm) = true from hbm) rfl T.noN (fun h₅ tk₅ dx k₅ dn dne hx₅ hn₅ => ?_)
  show _root_.PySem.wpAt _ _ _ _ _ _ _
  have z4 : s.heap.objs.size < h₄.objs.size := hns₄.lt
  refine wpAt_of_wpAny (wpAny_execs_nil (hq h₅ tk₅ dx t1 ⟨fun b o hb e => k₅ b o hb (F₄.keep b o (hideAll_get _ e (by simpa using hb))), hx₅, Nat.le_of_lt (Nat.lt_of_lt_of_le z4 dn), dne, hn₅⟩))
theorem own_made (T : Txt prog K mg cn C fI) {v : Value} (X : K.In s.heap) (G : s.heap.Ns mainGlobals mg) (B : ∃ mb, s.heap.Ns builtinsNs mb ∧ ∀ y : Str, y ≠ "__name__" → mb y = bootBuiltins y) (hlim : s.heap.NoLimit) (hroom : A.depth + 1 < recursionLimit)
    (hq : ∀ h' tk e d, OwnMade "why" s.heap h' e C d v → R (.ok (.ret (.ref e))) { s with heap := h', toks := tk }) :
    codeAny (model prog w) A (.call (.ref C) ⟨[v], []⟩) R s := by
  obtain ⟨nm, q, N, bs, bm, sn, sub, ab, col, dd, k0, k1, k2, k3, k5, hC, hbm⟩ := T.cls
  obtain ⟨hp, g, dr, tk, os⟩ := s
  have k : ∀ b o, hp.get? b = some o → ((hp.push (kdv_tup [v])).push (excO C hp.objs.size)).get? b = some o := fun b o e => Heap.get?_push_of_some _ (Heap.get?_push_of_some _ e)
  have hget : ((hp.push (kdv_tup [v])).push (excO C hp.objs.size)).get? (hp.objs.size + 1) = some (excO C hp.objs.size) := by heap_get
  have hnx : ∀ o, K.lookup (hp.objs.size + 1) ≠ some o := fun o e => by
    have z : hp.get? (hp.objs.size + 1) = some o := X _ _ e
    exact absurd (Nat.lt_of_succ_lt (Heap.lt_size z)) (Nat.lt_irrefl _)
  obtain ⟨mb, hB, hb⟩ := B
  refine call_own F.excBase_ValueError (fun X => refsVE_contains X bm hbm) (X _ _ hC) (looks_findIn X T.iC) (fun self => bind_fn X self T.tC) (by rw [sizeLine_eq]; exact (by decide : 1 ≤ 16777216)) ?_
  refine own_init (s := ⟨(hp.push (kdv_tup [v])).push (excO C hp.objs.size), g, dr, tk, os⟩) T (X.keeps k) (G.keeps k) ⟨mb, hB.keeps k, hb⟩ (hlim.keeps k) hget hnx ?_ fun h' tk' dx t1 ⟨k', hx, dn, dne, hns⟩ => ?_
  · show A.depth + 1 < recursionLimit
    exact hroom
  · have old : ∀ b o, hp.get? b = some o → h'.get? b = some o := fun b o e => k' b o (Nat.ne_of_lt (Nat.lt_succ_of_lt (Heap.lt_size e))) (k b o e)
    have z : hp.objs.size ≤ dx := by
      have q := dn
      rw [Heap.size_push, Heap.size_push] at q
      omega
    exact ⟨rfl, hq h' tk' (hp.objs.size + 1) dx ⟨old, Nat.le_succ _, ⟨_, _, hx, rfl, rfl, rfl, rfl⟩, z, dne, hns⟩⟩
theorem own_c (T : Txt prog K mg cn C fI) : L2.OwnC prog w K mg cn "why" C := ⟨T.gC, T.kC, T.exC, T.tyC, T.xf, T.noN, fun X G B hlim hroom hq => own_made T X G B hlim hroom hq⟩
end
end Own_why
end PySem
namespace PySem
namespace Own_row
open PySem.W PySem.Calls PyProof.Rows PySem.HandSPX PySem.OwnX
def iA (p1 p2 : Pos) : Arguments := { posonlyargs := [], args := [{ arg := "self", annotation := none, pos := p1 }, { arg := "row", annotation := none, pos := p2 }], vararg := none, kwonlyargs := [], kw_defaults := [], kwarg := none, defaults := [] }
def iB (m : Str) (a1 a2 a3 a4 a5 a6 a7 a8 a9 a10 : Pos) : List Stmt := [.Expr (.Call (.Attribute (.Call (.Name "super" a1) [] [] a2) "__init__" a3) [.Constant (.str m) 0 a4] [] a5) a6, .Assign [.Attribute (.Name "self" a7) "row" a8] (.Name "row" a9) a10]
def iS : Scope := { kind := .function, names := [(PySem.Str.ofString "self", .local), (PySem.Str.ofString "row", .local), (PySem.Str.ofString "__class__", .free), (PySem.Str.ofString "super", .globalImplicit)], isGenerator := false, isCoroutine := false, more := [] }
/-- how the call of the base's __init__ is read, whatever the frame -/
def Reads (m : Str) (a1 a2 a3 a4 a5 : Pos) : Prop := ∃ pl : Sem Bool, ∀ env : Env, eval (.Call (.Attribute (.Call (.Name "super" a1) [] [] a2) "__init__" a3) [.Constant (.str m) 0 a4] [] a5) env = (do
      let ov ← attributeBase (.Call (.Name "super" a1) [] [] a2) "__init__" env (eval (.Call (.Name "super" a1) [] [] a2) env)
      standAt a3.atName
      let (f, first) ← holding [ov] (getMethod ov "__init__" pl)
      callWith a5 f first (backTo a5 (starEach [.Constant (.str m) 0 a4] env)) [])
structure Txt (prog : Program) (K : Frag) (mg : Str → Option Value) (cn : Str) (C fI : Addr) : Prop where
  gC : mg cn = some (.ref C)
  noS : mg "super" = none
  cls : ∃ nm q N bs bm sn sub ab col dd k0 k1 k2 k3 k5, K.lookup C = some (excClassObj nm q C N bs bm true sn sub ab col dd k0 k1 k2 k3 k5 "ValueError.__new__") ∧ refsVE bm = true
  sa : findIn K (.ref C) "__setattr__" = some (some (.builtin "object.__setattr__"))
  xf : L2.XfC K C
  noN : findIn K (.ref C) "row" = some none
  iC : findIn K (.ref C) "__init__" = some (some (.ref fI))
  tC : typeIn K (.ref fI) = some (.type "function")
  kC : keepIn K (.ref C) = true
  exC : subIn K (.ref C) (.type "BaseException") = some true
  tyC : typeIn K (.ref C) = some (.type "type")
  sup : ks_superIn K C C "__init__" = some (some (.builtin "ValueError.__init__"))
  sV : subIn K (.ref C) (.type "ValueError") = some true
  mC : mroIn K C (.ref C) = some true
  any : nsIn K cStatics "thirdparty.any" = some none
  top : (prog.main.scope.names.lookup ("super" : Str)).isSome = false
  fn : ∃ (cda cc : Addr) (m qual : Str) (oc : Value) (od : Option Addr) (doc pm : Value) (an : Option Addr) (ct : Value) (osl : Array (Option Value)) (p1 p2 a1 a2 a3 a4 a5 a6 a7 a8 a9 a10 : Pos) (ccl : Value) (cdd : Option Addr) (vs : Array Value) (ccs : Array (Option Value)) (file : Str) (tf : Tok)
    (cl : Value) (cld : Option Addr) (csl : Array (Option Value)),
    K.lookup fI = some ⟨oc, od, .func (ksFn "__init__" qual (iA p1 p2) (iB m a1 a2 a3 a4 a5 a6 a7 a8 a9 a10) iS .none .none doc pm an (.ref cda) ct cc), osl⟩ ∧ codeIn K (.ref cda) qual = true ∧
    K.lookup cda = some ⟨ccl, cdd, .fields vs, ccs⟩ ∧ vs[2]? = some (.str file tf) ∧ ((prog.main.file : Str) == file) = true ∧ K.lookup cc = some ⟨cl, cld, .cell (some (.ref C)), csl⟩ ∧ Reads m a1 a2 a3 a4 a5
section
variable {prog : Program} {w : World} {A : Around} {E : Value → Shared → Prop} {R : Result → Shared → Prop} {s : Shared} {K : Frag} {mg : Str → Option Value} {cn : Str} {C fI : Addr}
theorem own_init (T : Txt prog K mg cn C fI) {x t0 : Addr} {v : Value} (X : K.In s.heap) (G : s.heap.Ns mainGlobals mg) (B : ∃ mb, s.heap.Ns builtinsNs mb ∧ ∀ y : Str, y ≠ "__name__" → mb y = bootBuiltins y) (hlim : s.heap.NoLimit)
    (hx : s.heap.get? x = some (excO C t0)) (hnK : ∀ o, K.lookup x ≠ some o) (hroom : A.depth < recursionLimit) (hq : ∀ h' tk dx t1, InitEnd "row" s.heap h' x C dx t1 v → R (.ok (.ret .none)) { s with heap := h', toks := tk }) :
    codeAny (model prog w) A (.call (.ref fI) ⟨[.ref x, v], []⟩) R s := by
  obtain ⟨cda, cc, m, qual, oc, od, doc, pm, an, ct, osl, p1, p2, a1, a2, a3, a4, a5, a6, a7, a8, a9, a10, ccl, cdd, vs, ccs, file, tf, cl, cld, csl, ho, hcd, hcda, hvs, hfile, hcc, pl, hrd⟩ := T.fn
  obtain ⟨nm, q, N, bs, bm, sn, sub, ab, col, dd, k0, k1, k2, k3, k5, hC, hbm⟩ := T.cls
  obtain ⟨mb, hB, hb⟩ := B
  have hcl : clsIn K C = some { name := nm, bases := bs, mro := .ref C :: bm, ns := N, qualname := q, hasDict := true, slotNames := sn, subclasses := sub, abstract := ab, collection := col, hasDel := false } := by unfold clsIn; rw [hC] <;> rfl
  refine ks_codeAny_call_defAt (fd := ksFn "__init__" qual (iA p1 p2) (iB m a1 a2 a3 a4 a5 a6 a7 a8 a9 a10) iS .none .none doc pm an (.ref cda) ct cc) (body := iB m a1 a2 a3 a4 a5 a6 a7 a8 a9 a10) (binds := [("self", .ref x), ("row", v)])
    hroom (X _ _ ho) rfl hlim (codeRec_of X hcd) rfl (BindsTo.of_eq (by first | rfl | with_unfolding_all rfl)) (show ∀ y ∈ iS.names, y.2 ≠ .cell by decide) (fun y hy => by
      simp only [List.mem_cons, List.not_mem_nil, or_false] at hy
      rcases hy with rfl | rfl
      · exact (by decide : iS.names.lookup ("self" : Str) = some .local)
      · exact (by decide : iS.names.lookup ("row" : Str) = some .local)) (fun h₁ hns k => ?_)
  have X₁ : K.In h₁ := X.keeps k
  have hx₁ := k _ _ hx
  have hxL : x ≠ s.heap.objs.size := Nat.ne_of_lt (Heap.lt_size hx)
  have hself : ([("self", Value.ref x), ("row", v)] : List (Str × Value)).reverse.lookup ("self" : Str) = some (.ref x) := by
    simp only [List.reverse_cons, List.reverse_nil, List.nil_append, List.cons_append, List.lookup, show (("self" : Str) == ("row" : Str)) = false by decide, show (("self" : Str) == ("self" : Str)) = true by decide]
  have hfld : ([("self", Value.ref x), ("row", v)] : List (Str × Value)).reverse.lookup ("row" : Str) = some v := by simp [List.lookup]
  have I₁ : InstAt h₁ x (excO C t0) C none := ⟨hx₁, rfl, rfl, trivial⟩
  have hne := ks_ne X₁ I₁ hcl
  refine ks_wpAt_execs_cons (ks_wpAt_Expr_any (ks_wpAt_MethodCall ?_ (hrd _)))
  refine ks_wpAt_super_base (by first | rfl | with_unfolding_all rfl | kernel_rfl) (by first | rfl | with_unfolding_all rfl | kernel_rfl) (by decide) rfl (X₁ _ _ ho) rfl rfl rfl (X₁ _ _ hcda) rfl hvs hfile T.top ?_
  refine ks_loadName_global rfl (by first | rfl | with_unfolding_all rfl | kernel_rfl) (loadGlobal_builtin (G.keeps k) T.noS (hB.keeps k) ((hb "super" (by decide)).trans (by first | boot_by_name | rfl | kernel_rfl)) ⟨rfl, ?_⟩)
  refine wpAny_loadName_free rfl (by first | rfl | with_unfolding_all rfl | kernel_rfl) (by first | rfl | with_unfolding_all rfl | kernel_rfl) ⟨_, X₁ _ _ hcc, rfl⟩ ?_
  refine wpAny_loadName_local rfl (by first | rfl | with_unfolding_all rfl | kernel_rfl) hns hself ?_
  refine ks_wpAny_isType_cls (X₁ _ _ hC) rfl ⟨rfl, ?_⟩
  refine ks_wpAny_call_super (X₁ _ _ hC) rfl hx₁ rfl (fun c e => by cases e) (looks_mroIn X₁ T.mC) fun h₂ e₂ k₂ => ?_
  have X₂ : K.In h₂ := X₁.keeps k₂
  have I₂ : InstAt h₂ x (excO C t0) C none := ⟨k₂ _ _ hx₁, rfl, rfl, trivial⟩
  have hsup := T.sup
  unfold ks_superIn at hsup
  rw [hcl] at hsup
  refine kxs_getMethod kxs_ValueError e₂ (looks_opaque X₂ T.any) (l₀ := .ref C :: bm) (fun A Q E s k q => wpAny_bind ((looks_clsIn X₂ hcl) A _ E s k (wpAny_pure q))) rfl X₂ hsup (I₂.type.andThen (looks_subIn X₂ T.sV)) hne (by decide) ?_
  have hnx : K.lookup x = none := by
    cases e : K.lookup x with
    | none => rfl
    | some o => exact (hnK o e).elim
  have up : ∀ b o, h₁.get? b = some o → (h₂.push (kxs_mw "ValueError.__init__" x)).get? b = some o := fun b o e => Heap.get?_push_of_some _ (k₂ _ _ e)
  have hu : (h₂.push (kxs_mw "ValueError.__init__" x)).get? h₂.objs.size = some (kxs_mw "ValueError.__init__" x) := Heap.get?_push_at rfl rfl
  have l1 : s.heap.objs.size < h₂.objs.size := by
    obtain ⟨oL, _, _, hL, _⟩ := hns
    exact Heap.lt_size (k₂ _ _ hL)
  have F₃ : Fr (hideAll s.heap [x]) s.heap.objs.size (h₂.push (kxs_mw "ValueError.__init__" x)) _ := ⟨hns.keeps up, fun b o e => up _ _ (k _ _ (of_hideAll _ e)), Nat.le_of_eq (hideAll_size _ _)⟩
  have N₃ : News (hideAll s.heap [x]) s.heap.objs.size (h₂.push (kxs_mw "ValueError.__init__" x)) [(h₂.objs.size, kxs_mw "ValueError.__init__" x), (x, excObj C t0 none .none)] := fun p hp => by
    rcases List.mem_cons.mp hp with rfl | hp
    · refine ⟨hu, fun z => Nat.ne_of_gt l1 z, ?_⟩
      cases e : (hideAll s.heap [x]).get? h₂.objs.size with
      | none => rfl
      | some o =>
        exact absurd (Nat.lt_trans (Heap.lt_size (of_hideAll _ e)) l1) (Nat.lt_irrefl _)
    · obtain rfl := List.mem_singleton.mp hp
      exact ⟨up _ _ hx₁, hxL, hideAll_none _ (by simp)⟩
  have X₀ : K.In (hideAll s.heap [x]) := fun a o e => hideAll_get _ (X _ _ e) fun z => by
    rw [List.mem_singleton.mp z, hnx] at e; cases e
  have xu : h₂.objs.size ≠ x := fun z => by
    have z2 := Heap.lt_size (k₂ _ _ hx₁)
    rw [z] at z2
    exact absurd z2 (Nat.lt_irrefl _)
  refine kxs_callWith1 (i := "ValueError.__init__") (x := x) N₃ (by simp) (spliced_more (wpAny_Constant_str (spliced_none ⟨hu, ?_⟩)))
  refine kxs_call F₃ X₀ N₃ F.excBase_ValueError (init_in hC hbm) (by simp) (.tail xu (.head (by simp))) (by rw [sizeLine_eq]; exact (by decide : 1 ≤ 16777216)) fun t1 h₄ F₄ N₄ _ => ?_
  have hx₄ : h₄.get? x = some (excO C t1) := (N₄ (x, excObj C t1 none .none) (by simp)).1
  show _root_.PySem.wpAt _ _ _ _ _ _ _
  have hns₄ := F₄.ns
  have X₄ : K.In h₄ := X₀.keeps F₄.keep
  have I₄ : InstAt h₄ x (excO C t1) C none := ⟨hx₄, rfl, rfl, trivial⟩
  refine ks_wpAt_execs_cons (wpAt_of_wpAny (plainObj_wpAny_Assign_Attribute ?_))
  refine ESX.ldL hns₄ hfld (ESX.ldL hns₄ hself ?_)
  refine set_plain X₄ I₄ T.sa ?_
  refine exc_osa X₄ hx₄ hcl (show refsVE (.ref C :: bm) = true from hbm) rfl T.noN (fun h₅ tk₅ dx k₅ dn dne hx₅ hn₅ => ?_)
  show _root_.PySem.wpAt _ _ _ _ _ _ _
  have z4 : s.heap.objs.size < h₄.objs.size := hns₄.lt
  refine wpAt_of_wpAny (wpAny_execs_nil (hq h₅ tk₅ dx t1 ⟨fun b o hb e => k₅ b o hb (F₄.keep b o (hideAll_get _ e (by simpa using hb))), hx₅, Nat.le_of_lt (Nat.lt_of_lt_of_le z4 dn), dne, hn₅⟩))
theorem own_made (T : Txt prog K mg cn C fI) {v : Value} (X : K.In s.heap) (G : s.heap.Ns mainGlobals mg) (B : ∃ mb, s.heap.Ns builtinsNs mb ∧ ∀ y : Str, y ≠ "__name__" → mb y = bootBuiltins y) (hlim : s.heap.NoLimit) (hroom : A.depth + 1 < recursionLimit)
    (hq : ∀ h' tk e d, OwnMade "row" s.heap h' e C d v → R (.ok (.ret (.ref e))) { s with heap := h', toks := tk }) :
    codeAny (model prog w) A (.call (.ref C) ⟨[v], []⟩) R s := by
  obtain ⟨nm, q, N, bs, bm, sn, sub, ab, col, dd, k0, k1, k2, k3, k5, hC, hbm⟩ := T.cls
  obtain ⟨hp, g, dr, tk, os⟩ := s
  have k : ∀ b o, hp.get? b = some o → ((hp.push (kdv_tup [v])).push (excO C hp.objs.size)).get? b = some o := fun b o e => Heap.get?_push_of_some _ (Heap.get?_push_of_some _ e)
  have hget : ((hp.push (kdv_tup [v])).push (excO C hp.objs.size)).get? (hp.objs.size + 1) = some (excO C hp.objs.size) := by heap_get
  have hnx : ∀ o, K.lookup (hp.objs.size + 1) ≠ some o := fun o e => by
    have z : hp.get? (hp.objs.size + 1) = some o := X _ _ e
    exact absurd (Nat.lt_of_succ_lt (Heap.lt_size z)) (Nat.lt_irrefl _)
  obtain ⟨mb, hB, hb⟩ := B
  refine call_own F.excBase_ValueError (fun X => refsVE_contains X bm hbm) (X _ _ hC) (looks_findIn X T.iC) (fun self => bind_fn X self T.tC) (by rw [sizeLine_eq]; exact (by decide : 1 ≤ 16777216)) ?_
  refine own_init (s := ⟨(hp.push (kdv_tup [v])).push (excO C hp.objs.size), g, dr, tk, os⟩) T (X.keeps k) (G.keeps k) ⟨mb, hB.keeps k, hb⟩ (hlim.keeps k) hget hnx ?_ fun h' tk' dx t1 ⟨k', hx, dn, dne, hns⟩ => ?_
  · show A.depth + 1 < recursionLimit
    exact hroom
  · have old : ∀ b o, hp.get? b = some o → h'.get? b = some o := fun b o e => k' b o (Nat.ne_of_lt (Nat.lt_succ_of_lt (Heap.lt_size e))) (k b o e)
    have z : hp.objs.size ≤ dx := by
      have q := dn
      rw [Heap.size_push, Heap.size_push] at q
      omega
    exact ⟨rfl, hq h' tk' (hp.objs.size + 1) dx ⟨old, Nat.le_succ _, ⟨_, _, hx, rfl, rfl, rfl, rfl⟩, z, dne, hns⟩⟩
theorem own_c (T : Txt prog K mg cn C fI) : L2.OwnC prog w K mg cn "row" C := ⟨T.gC, T.kC, T.exC, T.tyC, T.xf, T.noN, fun X G B hlim hroom hq => own_made T X G B hlim hroom hq⟩
end
end Own_row
end PySem

namespace Sx
open PySem L2
/-- where the classes stand -/
structure Er where
  base : Addr
  bad : Addr
  turned : Addr
  side : Addr
  step : Addr
  text : Addr
theorem passE {X : Cx} : Passes (L2.CX X.prog X.w) X (fun _ _ _ => False) := fun _ σ _ _ e s' I c => takes_none5 e s' (XE.of_call I (fun _ _ _ h => h.elim) c)
end Sx
end
section
/-! a try with clauses that may bear a name or none -/
namespace L2
open PySem PySem.Spec PyProof.Rows
section
variable {X : Cx} {pins : List (Addr × Obj)} {σ : St} {H : Hp} {cls : Value} {d : Option Addr} {a : Addr} {B : Heap} {sI s : Shared}
/-- an exception at a has come down to the clauses: sI, where it was raised, s, where it is looked at -/
structure Down (X : Cx) (pins : List (Addr × Obj)) (σ : St) (H : Hp) (cls : Value) (d : Option Addr) (a : Addr) (B : Heap) (sI s : Shared) : Prop where
  inv : Inv X pins σ H sI
  old : ∀ b o, sI.heap.get? b = some o → b ∉ frs X.stack → B.get? b = some o
  up : sI.heap.UpToSlots s.heap
  fly : HandSPX.FlyingZ B (X.env :: X.outer) a (Zc cls d) s.heap
  none : H a = none
  os : s.os = sI.os
  gens : AllBare s.gens
theorem Down.here (D : Down X pins σ H cls d a B sI s) : Inv X pins σ H s := D.inv.landed D.old D.fly.1 D.up D.os D.gens
/-- looked at as what the suite holds -/
theorem Down.held (D : Down X pins σ H cls d a B sI s) (hf : X.env.frame = some X.env.locals) : ∃ oe, s.heap.get? a = some oe ∧ Zc cls d oe ∧ (∃ vs, oe.data = .fields vs) ∧ Inv (X.suite a ((a, oe) :: (X.pn ++ pins))) [] σ H s := by
  obtain ⟨oe, vs, at_, zc, fl⟩ := D.fly.there
  have no : a ∉ frs (X.env :: X.outer) := fun m => by
    obtain ⟨_, o, e, n⟩ := D.fly.2.2.1.mem m
    cases at_.symm.trans e
    exact n _ fl
  refine ⟨oe, at_, zc, ⟨vs, fl⟩, D.here.suite at_ fl D.none (fun z => no ?_) fun m => no ?_⟩
  · exact List.mem_filterMap.mpr ⟨X.env, .head _, hf.trans (congrArg some z.symm)⟩
  · have ⟨v, hv, q⟩ := List.mem_filterMap.mp m
    exact List.mem_filterMap.mpr ⟨v, .tail _ hv, q⟩
theorem Down.at' (D : Down X pins σ H cls d a B sI s) {h : Heap} (fl : HandSPX.FlyingZ B (X.env :: X.outer) a (Zc cls d) h) (u : s.heap.UpToSlots h) : Down X pins σ H cls d a B sI { s with heap := h } :=
  ⟨D.inv, D.old, D.up.trans u, fl, D.none, D.os, D.gens⟩
/-- no clause takes it: it goes up -/
theorem Down.out {W : WX} {P : Flow → Shared → Prop} (D : Down X pins σ H cls d a B sI s) (hs : X.stack = X.env :: X.outer) (hf : X.env.frame = some X.env.locals) (tk : Takes X W) (w : W cls d σ H) :
    wpAny (model X.prog X.w) X.A (handleBy (.ref a) X.env []) P X.xe s := by
  have last : wpAny (model X.prog X.w) X.A (setFlight (.ref a) X.env.frame) (fun _ t => wpAny (model X.prog X.w) X.A (throw (.ref a) : Sem Flow) P X.xe t) X.xe s := by
    rw [hf]
    refine HandSPX.setFlight_upZ D.fly fun h fl u => wpAny_throw (tk _ _ ?_)
    refine ⟨a, B, sI, pins, σ, H, cls, d, rfl, D.inv, D.old, D.up.trans u, Or.inr (Or.inr ?_), D.none, D.os, D.gens, w⟩
    rw [hs]
    exact fl
  have fl := D.fly
  obtain ⟨_, _, _, oe, vs, T, oT, ts, at_, _, dat, one, _⟩ := fl
  refine wpAny_handleBy_nil ?_
  unfold PySem.passOn
  refine wpAny_bind (wpAny_field at_ dat one ?_)
  rw [show (Value.ref T == Value.none) = false from rfl]
  simp only [Bool.false_eq_true, if_false]
  first
    | exact wpAny_bind last
    | exact wpAny_bind (wpAny_pure (wpAny_bind last))
end
/-- a clause: the class it names, the name's slot, its suite's reading -/
structure Clause where
  c : Value
  i : Option Nat
  ts : Addr → Value → Option Addr → TS
def endsC : Option Nat → Ends → Ends
  | none, D => D
  | some i, D => { rt := D.rt, nx := fun σ H => D.nx (σ.set i none) H, bk := fun σ H => D.bk (σ.set i none) H, ct := fun σ H => D.ct (σ.set i none) H }
def slotC : Option Nat → Addr → St → St
  | none, _, σ => σ
  | some i, a, σ => σ.set i (some (.ref a))
/-- what the clauses wish of what comes down -/
def wishC (K : PySem.W.Frag) (W : WX) (D : Ends) : List Clause → WX
  | [], cls, d, σ, H => W cls d σ H
  | k :: r, cls, d, σ, H => (PySem.W.exmOne K cls k.c = some true ∧ ∀ a, H a = none → k.ts a cls d (endsC k.i D) (slotC k.i a σ) H) ∨ (PySem.W.exmOne K cls k.c = some false ∧ wishC K W D r cls d σ H)
abbrev SuiteOk (X : Cx) (b : Stmt) (r : List Stmt) (ts : Addr → Value → Option Addr → TS) : Prop :=
  ∀ (a : Addr) (oe : Obj) (cls : Value) (d : Option Addr) (pn : List (Addr × Obj)), Zc cls d oe → (∃ vs, oe.data = .fields vs) → PSs (X.suite a ((a, oe) :: pn)) (b :: r) (ts a cls d)
inductive ClausesOk (X : Cx) : List ExceptHandler → List Clause → Prop
  | nil : ClausesOk X [] []
  | bare {x : Str} {c : Value} {ts : Addr → Value → Option Addr → TS} {b : Stmt} {r : List Stmt} {p q : Pos} {hs : List ExceptHandler} {l : List Clause} : Names X x c → SuiteOk X b r ts → ClausesOk X hs l →
      ClausesOk X (.ExceptHandler (some (.Name x p)) none (b :: r) q :: hs) (⟨c, none, ts⟩ :: l)
  | name {x n : Str} {i : Nat} {c : Value} {ts : Addr → Value → Option Addr → TS} {b : Stmt} {r : List Stmt} {p q : Pos} {hs : List ExceptHandler} {l : List Clause} : Names X x c → X.N[i]? = some n → X.env.kindOf n = some .local → SuiteOk X b r ts → ClausesOk X hs l →
      ClausesOk X (.ExceptHandler (some (.Name x p)) (some n) (b :: r) q :: hs) (⟨c, some i, ts⟩ :: l)
section
variable {X : Cx} {pins : List (Addr × Obj)} {σ : St} {H : Hp} {cls : Value} {d : Option Addr} {a : Addr} {B : Heap} {sI s : Shared} {D : Ends} {W : WX}
/-- the class's test -/
theorem Down.asks {x : Str} {c : Value} {p : Pos} {k : Bool} {Q : Bool → Shared → Prop} {E : Value → Shared → Prop} (dn : Down X pins σ H cls d a B sI s) (hf : X.env.frame = some X.env.locals) (nm : Names X x c) (e : PySem.W.exmOne X.K cls c = some k) (q : Q k s) :
    wpAny (model X.prog X.w) (X.A.mark (some (.ref a))) (eval (.Name x p) X.env) (fun v t => wpAny (model X.prog X.w) (X.A.mark (some (.ref a))) (excMatches (.ref a) v) Q E t) E s := by
  obtain ⟨oe, at_, zc, _, S⟩ := dn.held hf
  have ans : wpAny (model X.prog X.w) (X.A.mark (some (.ref a))) (excMatches (.ref a) c) Q E s := by
    have L := PySem.W.exm_one (M := model X.prog X.w) dn.here.kIn (fun A Q E t k q => wpAny_typeOf_ref (k _ _ at_) (by rw [zc.1]; exact q)) e
    exact L.here q
  rcases nm with ⟨g, db, m | ⟨m, v, n⟩⟩
  · exact ld_glob (X := X.suite a ((a, oe) :: (X.pn ++ pins))) S g m ans db
  · exact ld_blt (X := X.suite a ((a, oe) :: (X.pn ++ pins))) S g m v ans n db
/-- the clauses, one behind the other -/
theorem Down.through (dn : Down X pins σ H cls d a B sI s) (hs : X.stack = X.env :: X.outer) (hf : X.env.frame = some X.env.locals) (hN : X.N.Nodup) (tk : Takes X W) {hds : List ExceptHandler} {l : List Clause} (ok : ClausesOk X hds l) :
    wishC X.K W D l cls d σ H → wpAny (model X.prog X.w) X.A (handleBy (.ref a) X.env hds) (SP X pins D) X.xe s := by
  induction ok with
  | nil => exact fun w => dn.out hs hf tk w
  | bare nm su r ih =>
    rintro (⟨e, w⟩ | ⟨e, w⟩)
    · refine wpAny_handleBy_cons (codeAny_handlers_test (dn.asks hf nm e (codeAny_handlers_suite (HandSPX.lands_againZ dn.fly fun h fl u => ?_)))) (by intro z; cases z)
      obtain ⟨oe, _, zc, fd, S⟩ := (dn.at' fl u).held hf
      refine wpAny_mono ((su a oe cls d (X.pn ++ pins) zc fd).run [] _ _ H _ S (w a dn.none)) (fun f t q => ?_) fun _ _ z => z.elim
      cases f with
      | ret v => have ⟨v', σ', H', I, r, q⟩ := q; exact ⟨v', σ', H', I.unsuite dn.inv.ok, r, q⟩
      | next => have ⟨σ', H', I, q⟩ := q; exact ⟨σ', H', I.unsuite dn.inv.ok, q⟩
      | brk => have ⟨σ', H', I, q⟩ := q; exact ⟨σ', H', I.unsuite dn.inv.ok, q⟩
      | cont => have ⟨σ', H', I, q⟩ := q; exact ⟨σ', H', I.unsuite dn.inv.ok, q⟩
    · exact wpAny_handleBy_cons (codeAny_handlers_test (dn.asks hf nm e (ih w))) (by intro z; cases z)
  | @name x n i c ts b r p q hs' l' nm hi hn su r ih =>
    rintro (⟨e, w⟩ | ⟨e, w⟩)
    · refine wpAny_handleBy_cons (codeAny_handlers_test (dn.asks hf nm e (codeAny_handlers_suite_as (HandSPX.lands_againZ dn.fly fun h fl u => ?_)))) (by intro z; cases z)
      obtain ⟨oe, _, zc, fd, S⟩ := (dn.at' fl u).held hf
      refine store_ok (X := X.suite a ((a, oe) :: (X.pn ++ pins))) (v := .ref a) S hN hi (.inl hn) rfl (fun t0 S0 => ?_) (.inr hn)
      refine wpAny_mono ((su a oe cls d (X.pn ++ pins) zc fd).run [] t0 _ H _ S0 (w a dn.none)) (fun f t q => ?_) fun _ _ z => z.elim
      cases f with
      | ret v => have ⟨v', σ', H', I, r, q⟩ := q; exact gone_ok (I.unsuite dn.inv.ok) hN hi hn fun _ J => ⟨v', _, H', J, r, q⟩
      | next => have ⟨σ', H', I, q⟩ := q; exact gone_ok (I.unsuite dn.inv.ok) hN hi hn fun _ J => ⟨_, H', J, q⟩
      | brk => have ⟨σ', H', I, q⟩ := q; exact gone_ok (I.unsuite dn.inv.ok) hN hi hn fun _ J => ⟨_, H', J, q⟩
      | cont => have ⟨σ', H', I, q⟩ := q; exact gone_ok (I.unsuite dn.inv.ok) hN hi hn fun _ J => ⟨_, H', J, q⟩
    · exact wpAny_handleBy_cons (codeAny_handlers_test (dn.asks hf nm e (ih w))) (by intro z; cases z)
end
section
variable {X : Cx} {body : List Stmt} {h₀ : ExceptHandler} {hds : List ExceptHandler} {l : List Clause} {pos : Pos} {tb : WX → TS} {W : WX}
theorem ps_tryC (hs : X.stack = X.env :: X.outer) (hf : X.env.frame = some X.env.locals) (hN : X.N.Nodup) (tk : Takes X W)
    (bd : ∀ (W : WX) (pn : List (Addr × Obj)) (xe : Value → Shared → Prop), Takes (X.tr pn xe) W → PassesOwn (model X.prog X.w) X.A X.env xe → PSs (X.tr pn xe) body (tb W)) (ok : ClausesOk X (h₀ :: hds) l) :
    PS X (.Try body (h₀ :: hds) [] [] pos) fun D σ H => tb (wishC X.K W D l) D σ H := ⟨fun pins s σ H D I q => by
  have O := I.ok
  refine wpAny_Try_except (wpAny_mono ((bd (wishC X.K W D l) (X.pn ++ pins) _ ?_ PassesOwn.looking).run [] s σ H D (I.toTry _) q) (fun f t r => ?_) fun _ _ z => z)
  · rintro u t ⟨a, B, sI, pins', σ', H', cls, d, rfl, J, old, up, sky, na, os, ag, w⟩
    refine Sky.land Zc.steady (by rw [O.frames, hs]) hf (show Sky B (X.env :: X.outer) a (Zc cls d) X.env.locals t.heap by rw [← hs]; exact sky) fun h fl u => ?_
    exact Down.through (s := { t with heap := h }) ⟨J.ofTry O, old, up.trans u, fl, na, os, ag⟩ hs hf hN tk ok w
  · cases f with
    | ret v => have ⟨v', σ', H', J, r, q⟩ := r; exact ⟨v', σ', H', J.ofTry O, r, q⟩
    | next => have ⟨σ', H', J, q⟩ := r; exact wpAny_execs_nil ⟨σ', H', J.ofTry O, q⟩
    | brk => have ⟨σ', H', J, q⟩ := r; exact ⟨σ', H', J.ofTry O, q⟩
    | cont => have ⟨σ', H', J, q⟩ := r; exact ⟨σ', H', J.ofTry O, q⟩⟩
end
end L2
end
section
/-! what is told, or the word of a refusal with its field: the laws' own helper, handed a lambda -/
namespace LamX
open PySem PySem.Spec PyProof.Rows L2
/-- the errors' wish -/
def WordE (K : PySem.W.Frag) (cS cT : Addr) (Q : VK) : XK := fun cls d H' =>
  (cls = .ref cS ∧ ∃ (dd : Addr) (z : V), d = some dd ∧ H' dd = some (.xd [("why", z)]) ∧ ∀ p H2, Same H' H2 → SqT K H2 p [.str "side", z] → Q (.ref p) H2) ∨
  (cls = .ref cT ∧ ∃ (dd : Addr) (z : V), d = some dd ∧ H' dd = some (.xd [("left", z)]) ∧ ∀ p H2, Same H' H2 → SqT K H2 p [.str "turned", z] → Q (.ref p) H2)
def TTword (K : PySem.W.Frag) (cS cT : Addr) : (XK → Hp → VK → Prop) → Hp → VK → Prop := fun tl H Q => tl (WordE K cS cT Q) H Q
/-- which class a clause takes -/
structure WordK (K : PySem.W.Frag) (mg : Str → Option Value) (cS cT cB : Addr) : Prop where
  gS : mg "NoSide" = some (.ref cS)
  gT : mg "NotTurned" = some (.ref cT)
  gB : mg "BadRow" = some (.ref cB)
  xS : XfC K cS
  xT : XfC K cT
  nS : PySem.W.findIn K (.ref cS) "why" = some none
  nT : PySem.W.findIn K (.ref cT) "left" = some none
  eSS : PySem.W.exmOne K (.ref cS) (.ref cS) = some true
  eTS : PySem.W.exmOne K (.ref cT) (.ref cS) = some false
  eTT : PySem.W.exmOne K (.ref cT) (.ref cT) = some true
section
variable {X : Cx}
theorem word_gives {q : Str} {sg : Scope} {g cS cT cB : Addr} {cdg : Value} {j1 j2 j3 k1 k2 k3 : Nat} {p1 p2 p3 p4 p5 p6 p7 p8 p9 p10 p11 p12 p13 p14 p15 p16 p17 p18 p19 p20 p21 p22 p23 : Pos} (W0 : WordK X.K X.mg cS cT cB)
    (hS : sg.names.lookup ("NoSide" : Str) = some .globalImplicit) (hT : sg.names.lookup ("NotTurned" : Str) = some .globalImplicit) (hB : sg.names.lookup ("BadRow" : Str) = some .globalImplicit) (he : sg.names.lookup ("e" : Str) = some .local) :
    GivesTo X ["_law_work", "e"] "_law_word" sg g cdg [.Try [.Return (some (.Call (.Name "_law_work" p1) [] [] p2)) p3]
      [.ExceptHandler (some (.Name "NoSide" p4)) (some "e") [.Return (some (.Tuple [.Constant (.str "side") j1 p5, .Attribute (.Name "e" p6) "why" p7] k1 p8)) p9] p10,
       .ExceptHandler (some (.Name "NotTurned" p11)) (some "e") [.Return (some (.Tuple [.Constant (.str "turned") j2 p12, .Attribute (.Name "e" p13) "left" p14] k2 p15)) p16] p17,
       .ExceptHandler (some (.Name "BadRow" p18)) none [.Return (some (.Tuple [.Constant (.str "row") j3 p19] k3 p20)) p21] p22] [] [] p23] "_law_work" q (TTword X.K cS cT) := by
  intro f c' s H Q tl act hc h
  have hgl : ∀ {x : Str}, sg.names.lookup x = some .globalImplicit → Gl (cxOf C8.CX0 X.prog X.w X.K X.mg X.base ["_law_work", "e"] "_law_word" sg g cdg X.A X.stack s H C8.E0).nox x := fun h => h
  refine ⟨_, pss_one (ps_tryC (X := (cxOf C8.CX0 X.prog X.w X.K X.mg X.base ["_law_work", "e"] "_law_word" sg g cdg X.A X.stack s H C8.E0).nox)
      (l := [⟨.ref cS, some 1, fun a cls d => tRet (Sx.tTupN X.K (tCons (tC (.str "side")) (tCons (tXf a cls d cS "why" (tVar 1)) tNil)))⟩,
        ⟨.ref cT, some 1, fun a cls d => tRet (Sx.tTupN X.K (tCons (tC (.str "turned")) (tCons (tXf a cls d cT "left" (tVar 1)) tNil)))⟩,
        ⟨.ref cB, none, fun a cls d => tRet (Sx.tTupN X.K (tCons (tC (.str "row")) tNil))⟩])
      (tb := fun W D σ H => ∃ Ech : XK, (∀ cls d σ' H', σ'.length = 2 → Ech cls d H' → W cls d σ' H') ∧ σ[0]? = some (some (.ref f)) ∧ H c' = some (CodeO c' q) ∧ tl Ech H D.rt)
      rfl rfl (show (["_law_work", "e"] : List Str).Nodup by decide) takes0 (fun W pn xe tk _ => ?_)
      (.name (i := 1) ⟨hgl hS, by decide, .inl W0.gS⟩ rfl he (fun a oe cls d pn hz hf => pss_one (ps_ret (Sx.pe_tupN (pa_cons pe_str (pa_cons (by exact (pe_xf W0.xS W0.nS hz hf (pe_var (i := 1) rfl (Or.inl he)))) pa_nil)))))
      (.name (i := 1) ⟨hgl hT, by decide, .inl W0.gT⟩ rfl he (fun a oe cls d pn hz hf => pss_one (ps_ret (Sx.pe_tupN (pa_cons pe_str (pa_cons (by exact (pe_xf W0.xT W0.nT hz hf (pe_var (i := 1) rfl (Or.inl he)))) pa_nil)))))
      (.bare ⟨hgl hB, by decide, .inl W0.gB⟩ (fun a oe cls d pn hz hf => pss_one (ps_ret (Sx.pe_tupN (pa_cons pe_str pa_nil)))) .nil)))), ?_⟩
  · refine ⟨fun pins t σ1 H1 D I r => ?_⟩
    obtain ⟨W1, into, slot, code, told⟩ := r
    have tk2 : Takes ((cxOf C8.CX0 X.prog X.w X.K X.mg X.base ["_law_work", "e"] "_law_word" sg g cdg X.A X.stack s H C8.E0).nox.tr pn xe) (fun cls d _ H' => W1 cls d H') := fun u s' ⟨a, B, sI, pins, σ2, H2, cls, d, e, I1, nb, up, sky, na, os, ag, w⟩ =>
      tk u s' ⟨a, B, sI, pins, σ2, H2, cls, d, e, I1, nb, up, sky, na, os, ag, into cls d σ2 H2 I1.len w⟩
    exact (pss_one (ps_ret (pos := p3) (act _ pn xe W1 p1 p2 tk2 fun _ _ _ _ h => h))).run pins t σ1 H1 D I ⟨slot, code, told⟩
  · refine ⟨WordE X.K cS cT Q, fun cls d σ' H' hl w => ?_, rfl, hc, h⟩
    have h1 : ∀ a : Addr, (σ'.set 1 (some (V.ref a)))[1]? = some (some (V.ref a)) := fun a => by simp [hl]
    rcases w with ⟨rfl, dd, z, rfl, hd, w⟩ | ⟨rfl, dd, z, rfl, hd, w⟩
    · refine .inl ⟨W0.eSS, fun a ha => ?_⟩
      show Sx.tTupN X.K (tCons (tC (.str "side")) (tCons (tXf a (.ref cS) (some dd) cS "why" (tVar 1)) tNil)) (σ'.set 1 (some (.ref a))) H' Q
      exact ⟨_, h1 a, rfl, rfl, dd, _, z, rfl, hd, by simp [List.lookup], (show 2 ≤ sizeLine by decide), fun p H2 s2 hp => w p H2 s2 hp⟩
    · refine .inr ⟨W0.eTS, .inl ⟨W0.eTT, fun a ha => ?_⟩⟩
      show Sx.tTupN X.K (tCons (tC (.str "turned")) (tCons (tXf a (.ref cT) (some dd) cT "left" (tVar 1)) tNil)) (σ'.set 1 (some (.ref a))) H' Q
      exact ⟨_, h1 a, rfl, rfl, dd, _, z, rfl, hd, by simp [List.lookup], (show 2 ≤ sizeLine by decide), fun p H2 s2 hp => w p H2 s2 hp⟩
end
end LamX
end
section
/-! a law that hands a lambda on -/
namespace L2
open PySem PySem.Spec PyProof.Rows LamX
/-- a def whose code object is known -/
structure FunC (K : PySem.W.Frag) (x : Str) (st : Stmt) (f : Addr) (fd : FuncData) (c : Addr) : Prop where
  is : ∃ (oc : Value) (od : Option Addr) (kV doc pm : Value) (an : Option Addr) (ct : Value) (osl : Array (Option Value)),
    fd = PySem.W.fnOf x x (defArgs st) (defBody st) (defScope st) .none kV doc pm an (.ref c) ct ∧ K.lookup f = some ⟨oc, od, .func fd, osl⟩ ∧ PySem.W.codeIn K (.ref c) x = true
section
variable {P : Program} {w : World} {K : PySem.W.Frag} {mg : Str → Option Value} {base : Heap}
theorem FunC.ok {x : Str} {st : Stmt} {f c : Addr} {fd : FuncData} {N ps : List Str} {k : Nat} {sp : Sp} (F : FunC K x st f fd c) (S : FnScope N ps (defScope st)) (len : ∀ vs H Q E, sp vs H Q E → vs.length = ps.length)
    (body : ∀ (A : Around) (outer : List Env) (s : Shared) (H : Hp) (vs : List V) (Q : VK) (E : XK), Room k (A.deeper (envOfC x (defScope st) s.heap.objs.size f (.ref c))) → sp vs H Q E →
      ∃ t, PSs (cxOf CX0 P w K mg base N x (defScope st) f (.ref c) A outer s H E).nox (defBody st) t ∧ t { nx := fun _ H' => Q .non H', rt := Q } (start N vs) H) : FnOk P w K mg base CX0 (k + 1) f fd ps sp := by
  obtain ⟨oc, od, kV, doc, pm, an, ct, osl, rfl, lk, hcd⟩ := F.is
  refine fn_of lk hcd S len fun A outer s H vs Q E hr h => ?_
  have ⟨t, p, q⟩ := body A outer s H vs Q E hr h
  exact ⟨t, p.nox, q⟩
end
/-- the end: the law's own table of code objects is empty at the law's entry -/
theorem walk_lam {l : PySem.W.OpenLaw} {n k : Nat} {q : Program} {loose : List Str} {XP : (Str → Option Value) → Heap → Prop} {YP : World → Heap → Prop} {d : DefRec} {K : Params → PySem.W.Frag} {x : Str}
    (hn : l.most = some n) (hn2 : n ≤ sizeLine) (hdf : d.params.defaults = []) (hr : Room k callerA) (hY : ∀ (w : World) (h : Heap), YP w h → (K w.params).In h) (hrec : ∃ d', (recsOf q).find? (fun e => e.name == d.name) = some d')
    (F : ∀ (w : World) (mg : Str → Option Value) (fa : Addr) (h : Heap), (K w.params).In h → h.Ns mainGlobals mg → mg d.name = some (.ref fa) →
      ∃ (fd : FuncData) (c P : Addr) (sp : Sp), PySem.W.tabIn (K w.params) d.name = some (c, P) ∧ (K w.params).lookup P = none ∧ (∀ (s : Shared) (u : Value), BindsTo s fd ⟨[u], []⟩ [(x, u)]) ∧
        (∀ (H : Hp) (a : Addr) (ns : List Int), ns.length ≤ n → H P = some (.tbl #[]) → SqL (K w.params) H a (ns.map V.int) → sp [.ref a] H (fun v _ => v = .bl true) fun _ _ _ => False) ∧
        ∀ base : Heap, (K w.params).In base → base.Ns mainGlobals mg → TabB base mg c P → FnOk l.prog w (K w.params) mg base CX0 k fa fd [x] sp) :
    PySem.W.WalkO q loose XP YP l.row.toRowW d [] (fun f vs => PySem.call f vs) := by
  refine Att.attach_callB hn hdf fun w s₀ s₁ mg mb fa o pm cd doc a vs ns G Y ho hd hcd hmg hobj hints hlen hbits hg => ?_
  have X := hY w _ Y
  obtain ⟨d', hd'⟩ := hrec
  obtain ⟨fd, c, P, sp, ht, nP, hb, hsp, hF⟩ := F w mg fa _ X G.T.g hmg
  have T := PySem.W.tab_of G.T X hd' ht
  have one : ∀ {R : Addr × Addr → Prop}, R (c, P) → ∀ p ∈ [(c, P)], R p := fun r p hp => by rw [List.mem_singleton.mp hp]; exact r
  exact law_callTs (cs := [(c, P)]) X G.T.g G.T.b G.T.builtins G.T.nolimit hg (one T.2) (one nP) (one T.1) G.T.bmain hobj hints (Nat.le_trans hlen hn2) hr (fun base h1 h2 h3 => hF base h1 h2 (h3 (c, P) (.head _))) hb
    (fun H hH hS => hsp H a ns hlen (hH (c, P) (.head _)) hS) fun _ _ _ z => z
/-- in a tuple -/
def rInDT (K : PySem.W.Frag) : R2 := fun x y H Q => ∃ d ds, Dp K H x d ∧ Dp K H y (.tuple ds) ∧ SeqAt.shaped d = true ∧ SeqAt.shaped (.tuple ds) = true ∧ Q (.bl (ds.any fun z => PyData.eqv z d)) H
theorem op_inDT {X : Cx} (hu : X.A.units + 65 < cLine) : OpR X (compareOp .In) (rInDT X.K) := fun pins s σ H x y v u Q I rx ry ⟨d, ds, hd, he, sd, se, q⟩ => by
  have ⟨_, r1⟩ := Dp.reads I d x v hd rx
  have ⟨_, r2⟩ := Dp.reads I (.tuple ds) y u he ry
  exact SeqAt.in_tuple_reads r2 r1 (SeqAt.canLay_of_shaped se) (SeqAt.canLay_of_shaped sd) (room_in_shaped sd hu) ⟨.bl _, H, I, rfl, q⟩
end L2
end
section
/-! operations on data, and what the heap's rules want of them -/
namespace Dx
open PySem L2 RT Sx
def dI (c : Int → Int → Prop) (g : Int → Int → Dt) : D2 := fun x y P => ∃ i j, x = .int i ∧ y = .int j ∧ c i j ∧ P (g i j)
abbrev dAdd : D2 := dI (fun _ _ => True) fun i j => .int (i + j)
abbrev dSub : D2 := dI (fun _ _ => True) fun i j => .int (i - j)
abbrev dMul : D2 := dI CMulW fun i j => .int (i * j)
abbrev dFd : D2 := dI CDivW fun i j => .int (i / j)
abbrev dMd : D2 := dI (fun _ j => 0 < j) fun i j => .int (i % j)
abbrev dPw : D2 := dI CPow fun i j => .int (i ^ j.toNat)
abbrev dLt : D2 := dI (fun _ _ => True) fun i j => .bl (decide (i < j))
abbrev dLe : D2 := dI (fun _ _ => True) fun i j => .bl (decide (i ≤ j))
abbrev dGt : D2 := dI (fun _ _ => True) fun i j => .bl (decide (j < i))
abbrev dGe : D2 := dI (fun _ _ => True) fun i j => .bl (decide (j ≤ i))
def dNeg : D1 := fun x P => ∃ i, x = .int i ∧ P (.int (-i))
section
variable {K : PySem.W.Frag}
theorem o_rI {c : Int → Int → Prop} {g : Int → Int → V} {g' : Int → Int → Dt} (h : ∀ i j W, Rp K W (g i j) (g' i j)) : Op2 K (rI c g) (dI c g') := fun W H v1 x1 v2 x2 P Q o r1 r2 ⟨i, j, e1, e2, hc, q⟩ k => by
  subst e1; subst e2
  exact ⟨i, j, rp_int r1, rp_int r2, hc, k W H _ _ (Frm.refl _ _) o (h i j W) q⟩
theorem o_rI0 {g : Int → Int → V} {g' : Int → Int → Dt} (h : ∀ i j W, Rp K W (g i j) (g' i j)) : Op2 K (rI0 g) (dI (fun _ _ => True) g') := fun W H v1 x1 v2 x2 P Q o r1 r2 ⟨i, j, e1, e2, _, q⟩ k => by
  subst e1; subst e2
  exact ⟨i, j, rp_int r1, rp_int r2, k W H _ _ (Frm.refl _ _) o (h i j W) q⟩
theorem o_add : Op2 K Sx.rAdd dAdd := o_rI0 fun i j _ => .int _
theorem o_sub : Op2 K Sx.rSub dSub := o_rI0 fun i j _ => .int _
theorem o_mul : Op2 K rMulW dMul := o_rI fun i j _ => .int _
theorem o_fd : Op2 K rFdW dFd := o_rI fun i j _ => .int _
theorem o_md : Op2 K rMd dMd := o_rI fun i j _ => .int _
theorem o_pw : Op2 K rPw dPw := o_rI fun i j _ => .int _
theorem o_lt : Op2 K rLt dLt := o_rI0 fun i j _ => .bl _
theorem o_le : Op2 K rLe dLe := o_rI0 fun i j _ => .bl _
theorem o_gt : Op2 K Sx.rGt dGt := o_rI0 fun i j _ => .bl _
theorem o_ge : Op2 K Sx.rGe dGe := o_rI0 fun i j _ => .bl _
theorem o_neg : Op1 K rNeg dNeg := fun W H v1 x1 P Q o r ⟨i, e, q⟩ k => by
  subst e
  exact ⟨i, rp_int r, k W H _ _ (Frm.refl _ _) o (.int _) q⟩
end
/-! equality of scalars; of data -/
def scalD : Dt → Option V
  | .non => some .non
  | .bl b => some (.bl b)
  | .int i => some (.int i)
  | .str s => some (.str s)
  | _ => none
def dEqS : D2 := fun x y P => ∃ a b, scalD x = some a ∧ scalD y = some b ∧ scal a b = true ∧ P (.bl (decide (a = b)))
def dNeS : D2 := fun x y P => ∃ a b, scalD x = some a ∧ scalD y = some b ∧ scal a b = true ∧ P (.bl (!decide (a = b)))
mutual
def toP : Dt → PyData
  | .non => .none
  | .bl b => .bool b
  | .int i => .int i
  | .str s => .str s
  | .tup xs => .tuple (toPs xs)
  | .lst xs => .list (toPs xs)
  | .ktup xs => .tuple (toPs xs)
  | _ => .dict []
def toPs : List Dt → List PyData
  | [] => []
  | x :: xs => toP x :: toPs xs
end
def eqD (x y : Dt) : Bool := PyData.eqv (toP x) (toP y)
def shD (x : Dt) : Bool := SeqAt.shaped (toP x)
def dEq : D2 := fun x y P => shD x = true ∧ shD y = true ∧ P (.bl (eqD x y))
def dNe : D2 := fun x y P => shD x = true ∧ shD y = true ∧ P (.bl (!eqD x y))
def dIn : D2 := fun x y P => ∃ ys, y = .lst ys ∧ shD x = true ∧ shD (.lst ys) = true ∧ P (.bl (ys.any fun z => eqD z x))
def dNotIn : D2 := fun x y P => ∃ ys, y = .lst ys ∧ shD x = true ∧ shD (.lst ys) = true ∧ P (.bl (!ys.any fun z => eqD z x))
def dInT : D2 := fun x y P => ∃ ys, y = .tup ys ∧ shD x = true ∧ shD (.tup ys) = true ∧ P (.bl (ys.any fun z => eqD z x))
def dIsN : D2 := fun x y P => y = .non ∧ ((x = .non ∧ P (.bl true)) ∨ (x ≠ .non ∧ P (.bl false)))
def dNotN : D2 := fun x y P => y = .non ∧ ((x = .non ∧ P (.bl false)) ∨ (x ≠ .non ∧ P (.bl true)))
theorem toPs_eq : ∀ xs : List Dt, toPs xs = xs.map toP
  | [] => rfl
  | x :: xs => by rw [toPs, toPs_eq xs]; rfl
section
variable {K : PySem.W.Frag} {W : Wd} {H : Hp}
theorem rp_scal : ∀ {x : Dt} {a v : V}, scalD x = some a → Rp K W v x → v = a
  | .non, _, _, e, .non => Option.some.inj e
  | .bl _, _, _, e, .bl _ => Option.some.inj e
  | .int _, _, _, e, .int _ => Option.some.inj e
  | .str _, _, _, e, .str _ => Option.some.inj e
mutual
theorem dp_of (s : Same W.F H) : ∀ {v : V} {x : Dt}, Rp K W v x → SeqAt.shaped (toP x) = true ∨ (toP x).canLay0 = true → Dp K H v (toP x)
  | _, _, .non, _ => .non
  | _, _, .bl b, _ => .bl b
  | _, _, .int i, _ => .int i
  | _, _, .str z, _ => .str z
  | _, _, .tup h r, e => .tup (sqt (s _ _ h)) (dps_of s r (by
      rcases e with e | e
      · exact (Bool.and_eq_true _ _ ▸ e : _ ∧ _).1
      · exact e))
  | _, _, .ktup h r, e => .tup (h _) (dps_of s r (by
      rcases e with e | e
      · exact (Bool.and_eq_true _ _ ▸ e : _ ∧ _).1
      · exact e))
  | _, _, .lst h r, e => .lst (sql (s _ _ h)) (dps_of s r (by
      rcases e with e | e
      · exact (Bool.and_eq_true _ _ ▸ e : _ ∧ _).1
      · exact e))
  | _, _, .ty n, e => by rcases e with e | e <;> exact absurd e (by simp [toP]; try decide)
  | _, _, .dK _ _, e => by rcases e with e | e <;> exact absurd e (by simp [toP]; try decide)
  | _, _, .dT _ _, e => by rcases e with e | e <;> exact absurd e (by simp [toP]; try decide)
  | _, _, .dice _ _, e => by rcases e with e | e <;> exact absurd e (by decide)
  | _, _, .scrT _ _, e => by rcases e with e | e <;> exact absurd e (by simp [toP]; try decide)
  | _, _, .fn _, e => by rcases e with e | e <;> exact absurd e (by simp [toP]; try decide)
  | _, _, .scr _, e => by rcases e with e | e <;> exact absurd e (by simp [toP]; try decide)
theorem dps_of (s : Same W.F H) : ∀ {v : List V} {x : List Dt}, RpL K W v x → PyData.canLayAll0 (toPs x) = true → DpAll K H v (toPs x)
  | _, _, .nil, _ => .nil
  | _, _, .cons a b, e => by
    have e2 := (Bool.and_eq_true _ _).mp e
    exact .cons (dp_of s a (.inr e2.1)) (dps_of s b e2.2)
end
theorem o_eqS : Op2 K rEq dEqS := fun W H v1 x1 v2 x2 P Q o r1 r2 ⟨a, b, e1, e2, hs, q⟩ k => by
  rw [rp_scal e1 r1, rp_scal e2 r2]
  exact ⟨hs, k W H _ _ (Frm.refl _ _) o (.bl _) q⟩
theorem o_neS : Op2 K rNe dNeS := fun W H v1 x1 v2 x2 P Q o r1 r2 ⟨a, b, e1, e2, hs, q⟩ k => by
  rw [rp_scal e1 r1, rp_scal e2 r2]
  exact ⟨hs, k W H _ _ (Frm.refl _ _) o (.bl _) q⟩
theorem o_eq : Op2 K (rEqD K) dEq := fun W H v1 x1 v2 x2 P Q o r1 r2 ⟨h1, h2, q⟩ k =>
  ⟨_, _, dp_of o.sF r1 (.inl h1), dp_of o.sF r2 (.inl h2), h1, h2, k W H _ _ (Frm.refl _ _) o (.bl _) q⟩
theorem o_ne : Op2 K (rNeD K) dNe := fun W H v1 x1 v2 x2 P Q o r1 r2 ⟨h1, h2, q⟩ k =>
  ⟨_, _, dp_of o.sF r1 (.inl h1), dp_of o.sF r2 (.inl h2), h1, h2, k W H _ _ (Frm.refl _ _) o (.bl _) q⟩
theorem any_toPs {ys : List Dt} {x : Dt} : ((toPs ys).any fun z => PyData.eqv z (toP x)) = ys.any fun z => eqD z x := by
  rw [toPs_eq, List.any_map]; rfl
theorem o_in : Op2 K (rInD K) dIn := fun W H v1 x1 v2 x2 P Q o r1 r2 ⟨ys, e, h1, h2, q⟩ k => by
  subst e
  have h2' : SeqAt.shaped (.list (toPs ys)) = true := h2
  exact ⟨_, toPs ys, dp_of o.sF r1 (.inl h1), dp_of o.sF r2 (.inl h2), h1, h2', by rw [any_toPs]; exact k W H _ _ (Frm.refl _ _) o (.bl _) q⟩
theorem o_notin : Op2 K (rNotInD K) dNotIn := fun W H v1 x1 v2 x2 P Q o r1 r2 ⟨ys, e, h1, h2, q⟩ k => by
  subst e
  have h2' : SeqAt.shaped (.list (toPs ys)) = true := h2
  exact ⟨_, toPs ys, dp_of o.sF r1 (.inl h1), dp_of o.sF r2 (.inl h2), h1, h2', by rw [any_toPs]; exact k W H _ _ (Frm.refl _ _) o (.bl _) q⟩
theorem o_inT : Op2 K (rInDT K) dInT := fun W H v1 x1 v2 x2 P Q o r1 r2 ⟨ys, e, h1, h2, q⟩ k => by
  subst e
  have h2' : SeqAt.shaped (.tuple (toPs ys)) = true := h2
  exact ⟨_, toPs ys, dp_of o.sF r1 (.inl h1), dp_of o.sF r2 (.inl h2), h1, h2', by rw [any_toPs]; exact k W H _ _ (Frm.refl _ _) o (.bl _) q⟩
theorem rp_non {v : V} (r : Rp K W v .non) : v = .non := by cases r; rfl
theorem rp_nn {v : V} {x : Dt} (r : Rp K W v x) (h : x ≠ .non) : v ≠ .non := by rintro rfl; cases r; exact h rfl
theorem o_isN : Op2 K rIsN dIsN := fun W H v1 x1 v2 x2 P Q o r1 r2 ⟨e, q⟩ k => by
  subst e
  refine ⟨rp_non r2, ?_⟩
  rcases q with ⟨rfl, q⟩ | ⟨n, q⟩
  · rw [rp_non r1, decide_eq_true rfl]; exact k W H _ _ (Frm.refl _ _) o (.bl _) q
  · rw [decide_eq_false (rp_nn r1 n)]; exact k W H _ _ (Frm.refl _ _) o (.bl _) q
theorem o_notN : Op2 K rNotN dNotN := fun W H v1 x1 v2 x2 P Q o r1 r2 ⟨e, q⟩ k => by
  subst e
  refine ⟨rp_non r2, ?_⟩
  rcases q with ⟨rfl, q⟩ | ⟨n, q⟩
  · rw [rp_non r1, decide_eq_true rfl]; exact k W H _ _ (Frm.refl _ _) o (.bl _) q
  · rw [decide_eq_false (rp_nn r1 n)]; exact k W H _ _ (Frm.refl _ _) o (.bl _) q
end
/-! sequences -/
def dIxT : D2 := fun x y P => ∃ xs i z, x = .tup xs ∧ y = .int i ∧ atI xs i = some z ∧ P z
def dIxL : D2 := fun x y P => ∃ xs i z, x = .lst xs ∧ y = .int i ∧ atI xs i = some z ∧ P z
def dCatT : D2 := fun x y P => ∃ xs ys, x = .tup xs ∧ y = .tup ys ∧ xs.length + ys.length ≤ 100000 ∧ P (.tup (xs ++ ys))
def dAddS : D2 := fun x y P => ∃ a b, x = .str a ∧ y = .str b ∧ a.length + b.length ≤ 100000 ∧ P (.str (a ++ b))
def cutD (xs : List Dt) (lo hi : Option Int) : List Dt := (xs.drop (HT.sIx xs.length 0 lo)).take (HT.sIx xs.length xs.length hi - HT.sIx xs.length 0 lo)
section
variable {K : PySem.W.Frag} {W : Wd} {H : Hp}
theorem at_rp {vs : List V} {xs : List Dt} {i : Int} {z : Dt} (r : RpL K W vs xs) (e : atI xs i = some z) : ∃ v, atI vs i = some v ∧ Rp K W v z := by
  unfold atI at e ⊢
  rw [r.length]
  cases h : ixN xs.length i with
  | none => rw [h] at e; cases e
  | some j => rw [h] at e; exact r.get e
theorem cut_rp {vs : List V} {xs : List Dt} {lo hi : Option Int} (r : RpL K W vs xs) : RpL K W (cutV vs lo hi) (cutD xs lo hi) := by
  unfold cutV cutD
  rw [r.length]
  exact (r.drop _).take _
theorem o_ixT : Op2 K (rIxT K) dIxT := fun W H v1 x1 v2 x2 P Q o r1 r2 ⟨xs, i, z, e1, e2, ea, q⟩ k => by
  subst e1; subst e2
  obtain ⟨a, vs, rfl, hs, rs⟩ := rp_tup r1
  obtain ⟨v, hv, rv⟩ := at_rp rs ea
  exact ⟨a, vs, i, v, rfl, rp_int r2, sqt (o.sF _ _ hs), hv, k W H _ _ (Frm.refl _ _) o rv q⟩
theorem o_ixL : Op2 K (rIxL K) dIxL := fun W H v1 x1 v2 x2 P Q o r1 r2 ⟨xs, i, z, e1, e2, ea, q⟩ k => by
  subst e1; subst e2
  obtain ⟨a, vs, rfl, hs, rs⟩ := rp_lst r1
  obtain ⟨v, hv, rv⟩ := at_rp rs ea
  exact ⟨a, vs, i, v, rfl, rp_int r2, sql (o.sF _ _ hs), hv, k W H _ _ (Frm.refl _ _) o rv q⟩
theorem newT {P : Dt → Prop} {Q : VK} {xs : List Dt} {vs : List V} (o : Ok K W H) (r : RpL K W vs xs) (q : P (.tup xs)) (k : ∀ W' H' v x, Frm W H W' H' → Ok K W' H' → Rp K W' v x → P x → Q v H') :
    ∀ p, H p = none → Q (.ref p) (upd H p (.tup vs)) := fun p n => k _ _ _ _ (Frm.kept o n) (o.kept n) (.tup keep_at (r.le (Frm.kept (o := .tup vs) o n).le)) q
theorem o_catT : Op2 K (rCatA K) dCatT := fun W H v1 x1 v2 x2 P Q o r1 r2 ⟨xs, ys, e1, e2, hz, q⟩ k => by
  subst e1; subst e2
  obtain ⟨a, vs, rfl, hs, rs⟩ := rp_tup r1
  obtain ⟨b, ws, rfl, ht, rt⟩ := rp_tup r2
  refine ⟨a, b, vs, ws, rfl, rfl, sqt (o.sF _ _ hs), sqt (o.sF _ _ ht), szl (by rw [rs.length, rt.length]; exact hz), fun e => ?_, fun _ e => ?_, fun _ _ => newT o (rs.append rt) q k⟩
  · subst e; cases rs
    exact k W H _ _ (Frm.refl _ _) o (.tup ht rt) q
  · subst e; cases rt
    rw [List.append_nil] at q
    exact k W H _ _ (Frm.refl _ _) o (.tup hs rs) q
theorem o_addS : Op2 K rAddS dAddS := fun W H v1 x1 v2 x2 P Q o r1 r2 ⟨a, b, e1, e2, hz, q⟩ k => by
  subst e1; subst e2
  exact ⟨a, b, rp_str r1, rp_str r2, szl hz, k W H _ _ (Frm.refl _ _) o (.str _) q⟩
end
/-! calls of built-ins -/
def lenD : Dt → Option Nat
  | .tup xs => some xs.length
  | .lst xs => some xs.length
  | _ => none
def dLen : DL := fun xs P => ∃ x n, xs = [x] ∧ lenD x = some n ∧ P (nat n)
def dSumT : DL := fun xs P => ∃ ns : List Int, xs = [.tup (ns.map Dt.int)] ∧ P (.int ns.sum)
def dMinT : DL := fun xs P => ∃ ns : List Int, xs = [.tup (ns.map Dt.int)] ∧ 0 < ns.length ∧ ∀ m, m ∈ ns → (∀ y, y ∈ ns → m ≤ y) → P (.int m)
def dMaxT : DL := fun xs P => ∃ ns : List Int, xs = [.tup (ns.map Dt.int)] ∧ 0 < ns.length ∧ ∀ m, m ∈ ns → (∀ y, y ∈ ns → y ≤ m) → P (.int m)
def dInt1 : DL := fun xs P => (∃ i, xs = [.int i] ∧ P (.int i)) ∨ ∃ k, xs = [.bl k] ∧ P (.int (if k then 1 else 0))
def dStrI : DL := fun xs P => ∃ i : Int, xs = [.int i] ∧ i.natAbs.log2 < 1920 ∧ P (.str (toString i))
def dTupOf : DL := fun xs P => (∃ ys, xs = [.lst ys] ∧ P (.tup ys)) ∨ ∃ ys, xs = [.tup ys] ∧ P (.tup ys)
def dDivmod : DL := fun xs P => ∃ i j, xs = [.int i, .int j] ∧ CDivP i j ∧ P (.tup [.int (i / j), .int (i % j)])
abbrev rDivmod : List V → Hp → VK → Prop := fun xs H Q => ∃ i j, xs = [.int i, .int j] ∧ CDivP i j ∧ ∀ p, H p = none → Q (.ref p) (upd H p (.tup [.int (i / j), .int (i % j)]))
section
variable {K : PySem.W.Frag} {W : Wd} {H : Hp}
theorem rpl1 {vs : List V} {x : Dt} (r : RpL K W vs [x]) : ∃ v, vs = [v] ∧ Rp K W v x := by
  cases r with | cons a b => cases b; exact ⟨_, rfl, a⟩
theorem rpl2 {vs : List V} {x y : Dt} (r : RpL K W vs [x, y]) : ∃ v w, vs = [v, w] ∧ Rp K W v x ∧ Rp K W w y := by
  cases r with | cons a b => cases b with | cons b c => cases c; exact ⟨_, _, rfl, a, b⟩
theorem o_len : OpL K (Sx.rLen K) dLen := fun W H vs xs P Q o r ⟨x, n, e, hn, q⟩ k => by
  subst e
  obtain ⟨v, rfl, rv⟩ := rpl1 r
  cases x with
  | tup ys =>
    obtain ⟨a, ws, rfl, hs, rs⟩ := rp_tup rv
    obtain rfl := Option.some.inj hn
    exact ⟨a, ws, rfl, .inr (sqt (o.sF _ _ hs)), k W H _ _ (Frm.refl _ _) o (by rw [rs.length]; exact .int _) q⟩
  | lst ys =>
    obtain ⟨a, ws, rfl, hs, rs⟩ := rp_lst rv
    obtain rfl := Option.some.inj hn
    exact ⟨a, ws, rfl, .inl (sql (o.sF _ _ hs)), k W H _ _ (Frm.refl _ _) o (by rw [rs.length]; exact .int _) q⟩
  | _ => cases hn
theorem tup_ints {v : V} {ns : List Int} (o : Ok K W H) (r : Rp K W v (.tup (ns.map Dt.int))) : ∃ a, v = .ref a ∧ SqT K H a (ns.map V.int) := by
  obtain ⟨a, ws, rfl, hs, rs⟩ := rp_tup r
  rw [rs.of_ints] at hs
  exact ⟨a, rfl, sqt (o.sF _ _ hs)⟩
theorem o_sumT : OpL K (rSumT K) dSumT := fun W H vs xs P Q o r ⟨ns, e, q⟩ k => by
  subst e
  obtain ⟨v, rfl, rv⟩ := rpl1 r
  obtain ⟨a, rfl, hs⟩ := tup_ints o rv
  exact ⟨a, ns, rfl, hs, k W H _ _ (Frm.refl _ _) o (.int _) q⟩
theorem o_minT : OpL K (rMinT K) dMinT := fun W H vs xs P Q o r ⟨ns, e, hl, q⟩ k => by
  subst e
  obtain ⟨v, rfl, rv⟩ := rpl1 r
  obtain ⟨a, rfl, hs⟩ := tup_ints o rv
  exact ⟨a, ns, rfl, hs, hl, fun m h1 h2 => k W H _ _ (Frm.refl _ _) o (.int _) (q m h1 h2)⟩
theorem o_maxT : OpL K (rMaxT K) dMaxT := fun W H vs xs P Q o r ⟨ns, e, hl, q⟩ k => by
  subst e
  obtain ⟨v, rfl, rv⟩ := rpl1 r
  obtain ⟨a, rfl, hs⟩ := tup_ints o rv
  exact ⟨a, ns, rfl, hs, hl, fun m h1 h2 => k W H _ _ (Frm.refl _ _) o (.int _) (q m h1 h2)⟩
theorem o_int1 : OpL K rInt1 dInt1 := fun W H vs xs P Q o r q k => by
  rcases q with ⟨i, e, q⟩ | ⟨b, e, q⟩
  · subst e
    obtain ⟨v, rfl, rv⟩ := rpl1 r
    exact .inl ⟨i, by rw [rp_int rv], k W H _ _ (Frm.refl _ _) o (.int _) q⟩
  · subst e
    obtain ⟨v, rfl, rv⟩ := rpl1 r
    exact .inr ⟨b, by rw [rp_bl rv], k W H _ _ (Frm.refl _ _) o (.int _) q⟩
abbrev rTupOf (K : PySem.W.Frag) : List V → Hp → VK → Prop := fun xs H Q => ∃ p ys, xs = [.ref p] ∧ ((SqL K H p ys ∧ ∀ l, H l = none → Q (.ref l) (upd H l (.tup ys))) ∨ (SqT K H p ys ∧ Q (.ref p) H))
theorem o_tupOf : OpL K (rTupOf K) dTupOf := fun W H vs xs P Q o r q k => by
  rcases q with ⟨ys, e, q⟩ | ⟨ys, e, q⟩
  · subst e
    obtain ⟨v, rfl, rv⟩ := rpl1 r
    obtain ⟨a, ws, rfl, hs, rs⟩ := rp_lst rv
    exact ⟨a, ws, rfl, .inl ⟨sql (o.sF _ _ hs), newT o rs q k⟩⟩
  · subst e
    obtain ⟨v, rfl, rv⟩ := rpl1 r
    obtain ⟨a, ws, rfl, hs, rs⟩ := rp_tup rv
    exact ⟨a, ws, rfl, .inr ⟨sqt (o.sF _ _ hs), k W H _ _ (Frm.refl _ _) o (.tup hs rs) q⟩⟩
theorem o_divmod : OpL K rDivmod dDivmod := fun W H vs xs P Q o r ⟨i, j, e, hc, q⟩ k => by
  subst e
  obtain ⟨v, w, rfl, r1, r2⟩ := rpl2 r
  exact ⟨i, j, by rw [rp_int r1, rp_int r2], hc, fun p n => k _ _ _ _ (Frm.kept o n) (o.kept n) (.tup keep_at (.cons (.int _) (.cons (.int _) .nil))) q⟩
end
end Dx
end
section
/-! the rules over data -/
namespace Dx
open PySem L2 RT Sx
section
variable {X : Cx} {e : Expr} {es : List Expr} {pos : Pos}
theorem PT.imp {t t' : TT} (h : PT X e t) (i : ∀ σ H Q, t' σ H Q → t σ H Q) : PT X e t' := ⟨fun pins s σ H Q I q => h.run pins s σ H Q I (i σ H Q q)⟩
theorem PW.imp {t t' : TT} (h : PW X e t) (i : ∀ σ H Q, t' σ H Q → t σ H Q) : PW X e t' := ⟨fun w pins s σ H Q I q => h.run w pins s σ H Q I (i σ H Q q)⟩
theorem PTs.imp {es : List Expr} {t t' : TT} (h : PTs X es t) (i : ∀ σ H Q, t' σ H Q → t σ H Q) : PTs X es t' := ⟨fun pins s σ H Q I q => h.run pins s σ H Q I (i σ H Q q)⟩
theorem PA.imp {t t' : TA} (h : PA X es t) (i : ∀ σ H Q, t' σ H Q → t σ H Q) : PA X es t' := ⟨fun p pins s σ H Q I q => h.run p pins s σ H Q I (i σ H Q q)⟩
theorem PI.imp {tg : Expr} {t t' : TI} (h : PI X tg e t) (i : ∀ σ H Q, t' σ H Q → t σ H Q) : PI X tg e t' := ⟨fun pins s σ H Q I q => h.run pins s σ H Q I (i σ H Q q)⟩
end
section
variable {K : PySem.W.Frag} {C : Ec} {E : XK} {X : Cx} {e a b c' : Expr} {es : List Expr} {pos : Pos} {i : Nat} {da db dc : DE} {dt du : DT} {dA : DA}
theorem ev (h : PE X e (tVar i)) : PE X e (liftE K C E (dVar i)) := PE.imp h fun _ _ _ => le_var
theorem ec {v : V} {x : Dt} (h : PE X e (tC v)) (r : ∀ W, Rp K W v x) : PE X e (liftE K C E (dC x)) := PE.imp h fun _ _ _ => le_c r
theorem ec_int {k : Int} {j : Nat} : PE X (.Constant (.int k) j pos) (liftE K C E (dC (.int k))) := ec pe_int fun _ => .int _
theorem ec_bl {k : Bool} {j : Nat} : PE X (.Constant (.bool k) j pos) (liftE K C E (dC (.bl k))) := ec pe_bl fun _ => .bl _
theorem ec_non {j : Nat} : PE X (.Constant .none j pos) (liftE K C E (dC .non)) := ec pe_non fun _ => .non
theorem ec_str {k : Str} {j : Nat} : PE X (.Constant (.str k) j pos) (liftE K C E (dC (.str k))) := ec pe_str fun _ => .str _
theorem ec_ty {n : String} (h : PE X e (tC (.ty n))) : PE X e (liftE K C E (dC (.ty n))) := ec h fun _ => .ty _
theorem eop {op : Operator} {r : R2} {f : D2} (h : OpR X (binaryOp op) r) (hb : Op2 K r f) (ha : PE X a (liftE K C E da)) (hb' : PE X b (liftE K C E db)) : PE X (.BinOp a op b pos) (liftE K C E (dOp f da db)) := PE.imp (pe_op h ha hb') fun _ _ _ => le_op hb
theorem eun {op : UnaryOp} {r : V → Hp → VK → Prop} {f : D1} (h : UnR X (unaryOp op) r) (hb : Op1 K r f) (ha : PE X a (liftE K C E da)) : PE X (.UnaryOp op a pos) (liftE K C E (dUn f da)) := PE.imp (pe_un h ha) fun _ _ _ => le_un hb
theorem tnot (h : PT X a (liftT K C E dt)) : PT X (.UnaryOp .Not a pos) (liftT K C E (dNot dt)) := PT.imp (pt_not h) fun _ _ _ => le_not
theorem ent (h : PE X e (tNotV (liftE K C E da)))  : PE X e (liftE K C E (dNotV da)) := PE.imp h fun _ _ _ => le_notV
theorem eif (hc : PT X c' (liftT K C E dt)) (ha : PE X a (liftE K C E da)) (hb : PE X b (liftE K C E db)) : PE X (.IfExp c' a b pos) (liftE K C E (dIf dt da db)) := PE.imp (pe_ifExp hc ha hb) fun _ _ _ => le_if
theorem anil : PA X [] (liftA K C E dNil) := PA.imp pa_nil fun _ _ _ => le_nil
theorem acons {r : List Expr} (ha : PE X e (liftE K C E da)) (hr : PA X r (liftA K C E dA)) (hs : starEach (e :: r) X.env = (false, eval e X.env) :: starEach r X.env := by rfl) : PA X (e :: r) (liftA K C E (dCons da dA)) := PA.imp (pa_cons ha hr hs) fun _ _ _ => le_cons
theorem etup {x1} (h : PA X es (liftA K C E dA)) : PE X (.Tuple es x1 pos) (liftE K C E (dTup dA)) := PE.imp (pe_tup h) fun _ _ _ => le_tup
theorem nlst (h : PA X es (liftA K C E dA)) : PE X (.List es pos) (liftN K C E (dLst dA)) := PE.imp (pe_lst h) fun _ _ _ => le_lst
theorem efz {dn : DN} (h : PE X e (liftN K C E dn)) : PE X e (liftE K C E (dFz dn)) := PE.imp h fun _ _ _ => le_fz
theorem tB' (h : PT X e (tB (liftE K C E da))) : PT X e (liftT K C E (dB da)) := PT.imp h fun _ _ _ => le_B
theorem tT' (h : PT X e (tTest (liftE K C E da))) : PT X e (liftT K C E (dB da)) := PT.imp h fun _ _ _ => le_B
theorem tcmp {op : CmpOp} {r : R2} {f : D2} (h : OpR X (compareOp op) r) (hb : Op2 K r f) (ha : PE X a (liftE K C E da)) (hb' : PE X b (liftE K C E db)) (hm : behindInMarks op b = false) : PT X (.Compare a [op] [b] pos) (liftT K C E (dB (dOp f da db))) :=
  PT.imp (pt_cmpR h ha hb' hm) fun _ _ _ q => le_B (by
    obtain ⟨c, P, at_, h1, k⟩ := q
    exact ⟨c, P, at_, h1, k⟩) |> fun (z : liftE K C E (dOp f da db) _ _ _) => le_op hb z

theorem ecmp {op : CmpOp} {r : R2} {f : D2} (h : OpR X (compareOp op) r) (hb : Op2 K r f) (ha : PE X a (liftE K C E da)) (hb' : PE X b (liftE K C E db)) (hm : behindInMarks op b = false) : PE X (.Compare a [op] [b] pos) (liftE K C E (dOp f da db)) := PE.imp (pe_cmpR h ha hb' hm) fun _ _ _ => le_op hb
theorem echain {r r' : R2} {f g : D2} (hf : Op2 K r f) (hg : Op2 K r' g) (h : PE X e (tChain r r' (liftE K C E da) (liftE K C E db) (liftE K C E dc))) : PE X e (liftE K C E (dChain f g da db dc)) := PE.imp h fun _ _ _ => le_chain hf hg
theorem tchain {r r' : R2} {f g : D2} (hf : Op2 K r f) (hg : Op2 K r' g) (h : PT X e (tTest (tChain r r' (liftE K C E da) (liftE K C E db) (liftE K C E dc)))) : PT X e (liftT K C E (dB (dChain f g da db dc))) :=
  PT.imp h fun _ _ _ q => le_B (by
    obtain ⟨c, P, at_, h1, k⟩ := q
    exact ⟨c, P, at_, h1, k⟩) |> fun (z : liftE K C E (dChain f g da db dc) _ _ _) => le_chain hf hg z
variable {rest : List Expr}
theorem wand (ha : PT X a (liftT K C E dt)) (hb : PW X (.BoolOp .And (b :: rest) pos) (liftT K C E du)) : PW X (.BoolOp .And (a :: b :: rest) pos) (liftT K C E (dAnd dt du)) := PW.imp (pw_and ha hb) fun _ _ _ => le_and
theorem wor (ha : PT X a (liftT K C E dt)) (hb : PW X (.BoolOp .Or (b :: rest) pos) (liftT K C E du)) : PW X (.BoolOp .Or (a :: b :: rest) pos) (liftT K C E (dOr dt du)) := PW.imp (pw_or ha hb) fun _ _ _ => le_or
theorem eand (ha : PE X a (liftE K C E da)) (hb : PE X (.BoolOp .And (b :: rest) pos) (liftE K C E db)) : PE X (.BoolOp .And (a :: b :: rest) pos) (liftE K C E (dAndV da db)) := PE.imp (pe_and ha hb) fun _ _ _ => le_andV
theorem eor (ha : PE X a (liftE K C E da)) (hb : PE X (.BoolOp .Or (b :: rest) pos) (liftE K C E db)) : PE X (.BoolOp .Or (a :: b :: rest) pos) (liftE K C E (dOrV da db)) := PE.imp (pe_or ha hb) fun _ _ _ => le_orV
theorem enot (ha : PE X a (liftE K C E da)) : PE X (.UnaryOp .Not a pos) (liftE K C E (dNotV da)) := PE.imp (pe_not ha) fun _ _ _ => le_notV
theorem ecb {r : List V → Hp → VK → Prop} {f : DL} (hb : OpL K r f) (h : PE X e (tCB r (liftA K C E dA))) : PE X e (liftE K C E (dCB f dA)) := PE.imp h fun _ _ _ => le_cb hb
theorem eix {r : R2} {f : D2} (hb : Op2 K r f) (h : PE X e (tOp r (liftE K C E da) (liftE K C E db))) : PE X e (liftE K C E (dOp f da db)) := PE.imp h fun _ _ _ => le_op hb
end
/-! slices -/
abbrev DO := DX → Env → (Option Int → Prop) → Prop
def liftO (K : PySem.W.Frag) (C : Ec) (E : XK) (d : DO) : TO := fun σ H Q => ∃ (c : Cn) (P : Option Int → Prop), c.At K C E σ H ∧ d c.PX c.ρ P ∧ ∀ W' H' b, Frm c.W H W' H' → Ok K W' H' → P b → Q b H'
def dNoPart : DO := fun _ _ P => P none
def dPart (a : DE) : DO := fun X ρ P => a X ρ fun x => ∃ i, x = .int i ∧ P (some i)
def dSlT (a : DE) (l h : DO) : DE := fun X ρ P => a X ρ fun x => l X ρ fun lo => h X ρ fun hi => ∃ xs, x = .tup xs ∧ P (.tup (cutD xs lo hi))
def dSlL (a : DE) (l h : DO) : DN := fun X ρ P => a X ρ fun x => l X ρ fun lo => h X ρ fun hi => ∃ xs, x = .lst xs ∧ P (cutD xs lo hi)
section
variable {K : PySem.W.Frag} {C : Ec} {E : XK} {σ : L2.St} {H : Hp} {Q : VK}
theorem le_nopart {QO : Option Int → Hp → Prop} (q : liftO K C E dNoPart σ H QO) : tNoPart σ H QO := by
  obtain ⟨c, P, at_, h, k⟩ := q
  exact k _ _ _ (Frm.refl _ _) at_.lk.ok h
theorem le_part {QO : Option Int → Hp → Prop} {a : DE} (q : liftO K C E (dPart a) σ H QO) : tPart (liftE K C E a) σ H QO := by
  obtain ⟨c, P, at_, h, k⟩ := q
  refine ⟨c, _, at_, h, fun W1 H1 v x f1 o1 r1 ⟨i, e, q1⟩ => ?_⟩
  subst e
  exact ⟨i, rp_int r1, k _ _ _ f1 o1 q1⟩
theorem le_slT {a : DE} {l h : DO} (q : liftE K C E (dSlT a l h) σ H Q) : tSl (rSlA K) (liftE K C E a) (liftO K C E l) (liftO K C E h) σ H Q := by
  obtain ⟨c, P, at_, h, k⟩ := q
  refine ⟨c, _, at_, h, fun W1 H1 v1 x1 f1 o1 r1 q1 => ?_⟩
  refine ⟨{ c with W := W1 }, _, at_.frm f1 o1, q1, fun W2 H2 lo f2 o2 q2 => ?_⟩
  refine ⟨{ c with W := W2 }, _, at_.frm (f1.trans f2) o2, q2, fun W3 H3 hi f3 o3 ⟨xs, e, q3⟩ => ?_⟩
  subst e
  obtain ⟨a, vs, rfl, hs, rs⟩ := rp_tup ((r1.le f2.le).le f3.le)
  have k' : ∀ W' H' v x, Frm W3 H3 W' H' → Ok K W' H' → Rp K W' v x → P x → Q v H' := fun W' H' v x f => k W' H' v x (f1.trans (f2.trans (f3.trans f)))
  refine ⟨a, vs, rfl, sqt (o3.sF _ _ hs), fun e => ?_, fun _ => newT o3 (cut_rp rs) q3 k'⟩
  have e2 : cutD xs lo hi = xs := by
    unfold cutD
    rw [← rs.length, e.1, e.2, List.drop_zero, Nat.sub_zero, rs.length, List.take_length]
  rw [e2] at q3
  exact k' W3 H3 _ _ (Frm.refl _ _) o3 (.tup hs rs) q3
theorem le_slL {a : DE} {l h : DO} (q : liftN K C E (dSlL a l h) σ H Q) : tSl (rSlLN K) (liftE K C E a) (liftO K C E l) (liftO K C E h) σ H Q := by
  obtain ⟨c, P, at_, h, k⟩ := q
  refine ⟨c, _, at_, h, fun W1 H1 v1 x1 f1 o1 r1 q1 => ?_⟩
  refine ⟨{ c with W := W1 }, _, at_.frm f1 o1, q1, fun W2 H2 lo f2 o2 q2 => ?_⟩
  refine ⟨{ c with W := W2 }, _, at_.frm (f1.trans f2) o2, q2, fun W3 H3 hi f3 o3 ⟨xs, e, q3⟩ => ?_⟩
  subst e
  obtain ⟨a, vs, rfl, hs, rs⟩ := rp_lst ((r1.le f2.le).le f3.le)
  refine ⟨a, vs, rfl, sql (o3.sF _ _ hs), fun p H4 n s hp => ?_⟩
  have f13 := f1.trans (f2.trans f3)
  exact k W3 H4 p _ _ (f13.trans (frm_same s)) (o3.same s) (f13.kp p n) (o3.fr n) (o3.dice_ne n) hp (cut_rp rs) q3
end
section
variable {X : Cx} {C : Ec} {E : XK} {e lo hi : Expr} {pos p2 : Pos} {da : DE} {dl dh : DO}
theorem onone : PO X none (liftO X.K C E dNoPart) := ⟨fun pins s σ H Q I q => (po_none (X := X)).run pins s σ H Q I (le_nopart q)⟩
theorem osome (h : PE X e (liftE X.K C E da)) : PO X (some e) (liftO X.K C E (dPart da)) := ⟨fun pins s σ H Q I q => (po_some h).run pins s σ H Q I (le_part q)⟩
end
/-! what is walked -/
def dItT (a : DE) : DA := fun X ρ P => a X ρ fun x => ∃ xs, x = .tup xs ∧ P xs
def dItK (a : DE) : DA := fun X ρ P => a X ρ fun x => ∃ xs, x = .ktup xs ∧ P xs
def dItL (a : DE) : DA := fun X ρ P => a X ρ fun x => ∃ xs, x = .lst xs ∧ P xs
def rangeD (lo : Int) (n : Nat) : List Dt := (List.range n).map fun i : Nat => Dt.int (lo + (i : Int))
def rngA (xs : List Dt) (P : List Dt → Prop) : Prop := ∃ j : Int, xs = [.int j] ∧ -(2 ^ 62) ≤ j ∧ j < 2 ^ 62 ∧ P (rangeD 0 j.toNat)
def rngB (xs : List Dt) (P : List Dt → Prop) : Prop := ∃ i j : Int, xs = [.int i, .int j] ∧ (-(2 ^ 62) ≤ i ∧ i < 2 ^ 62 ∧ -(2 ^ 62) ≤ j ∧ j < 2 ^ 62) ∧ P (rangeD i (j - i).toNat)
def dRng1 (a : DA) : DA := fun X ρ P => a X ρ fun xs => rngA xs P
def dRng2 (a : DA) : DA := fun X ρ P => a X ρ fun xs => rngB xs P
def dEnum (a : DA) : DA := fun X ρ P => a X ρ fun xs => ∃ ys, xs = [.lst ys] ∧ P ((List.range ys.length).zipWith (fun i y => .tup [nat i, y]) ys)
def dZipL (a : DA) : DA := fun X ρ P => a X ρ fun xs => ∃ ys zs, xs = [.lst ys, .lst zs] ∧ P (ys.zipWith (fun y z => .tup [y, z]) zs)
def revA (x : Dt) (P : List Dt → Prop) : Prop := ∃ xs, (x = .lst xs ∨ x = .tup xs) ∧ P xs.reverse
def dRev (a : DE) : DA := fun X ρ P => a X ρ fun x => revA x P
section
variable {K : PySem.W.Frag} {C : Ec} {E : XK} {σ : L2.St} {H : Hp} {W : Wd} {R : It → Hp → Prop}
theorem dwalk_list {a : Addr} {vs : List V} {xs : List Dt} (h : W.F a = some (.lst vs)) (r : RpL K W vs xs) : DWalk K W (Itl K a) xs := by
  unfold DWalk
  rw [← r.length]
  exact walk_list.mono (fun H s => sql (s _ _ h)) fun i H x H' hi g ⟨e1, e2⟩ => .inl ⟨e1, by
    obtain ⟨z, hz, rz⟩ := r.getV e2
    exact ⟨z, hz, rz⟩⟩
theorem dwalk_tup {a : Addr} {vs : List V} {xs : List Dt} (h : ∀ H, Same W.F H → SqT K H a vs) (r : RpL K W vs xs) : DWalk K W (Itt K a) xs := by
  unfold DWalk
  rw [← r.length]
  exact walk_tup.mono h fun i H x H' hi g ⟨e1, e2⟩ => .inl ⟨e1, by
    obtain ⟨z, hz, rz⟩ := r.getV e2
    exact ⟨z, hz, rz⟩⟩
theorem dwalk_range {lo : Int} {n : Nat} : DWalk K W (Itr lo n) (rangeD lo n) := by
  unfold DWalk
  have hl : (rangeD lo n).length = n := by unfold rangeD; simp
  rw [hl]
  exact walk_range.mono (fun H s => trivial) fun i H x H' hi g ⟨e1, e2⟩ => .inl ⟨e1, by
    subst e2
    refine ⟨.int (lo + (i : Int)), ?_, .int _⟩
    unfold rangeD
    rw [List.getElem?_map, List.getElem?_range hi]; rfl⟩
theorem dwalk_enum {a : Addr} {vs : List V} {xs : List Dt} (h : W.F a = some (.lst vs)) (r : RpL K W vs xs) : DWalk K W (Ite K a) ((List.range xs.length).zipWith (fun i y => .tup [nat i, y]) xs) := by
  unfold DWalk
  have hl : ((List.range xs.length).zipWith (fun i y => Dt.tup [nat i, y]) xs).length = vs.length := by rw [List.length_zipWith, List.length_range, Nat.min_self, r.length]
  rw [hl]
  refine walk_enum.mono (fun H s => sql (s _ _ h)) fun i H x H' hi g y => ?_
  obtain ⟨T, u, w, e1, n, e2, e3, e4⟩ := y
  obtain ⟨z, hz, rz⟩ := r.getV e4
  obtain rfl := Option.some.inj e3
  refine .inr (.inl ⟨T, nat i, z, _, w, e1, n, e2, ?_, .int _, rz⟩)
  have hi' : i < xs.length := by rw [← r.length]; exact hi
  rw [List.getElem?_zipWith, List.getElem?_range hi', hz]
theorem dwalk_zip {a b : Addr} {vs ws : List V} {xs ys : List Dt} (h : W.F a = some (.lst vs)) (r : RpL K W vs xs) (h2 : W.F b = some (.lst ws)) (r2 : RpL K W ws ys) : DWalk K W (Itz K a b) (xs.zipWith (fun y z => .tup [y, z]) ys) := by
  unfold DWalk
  refine (walk_zip (by rw [List.length_zipWith, ← r.length, ← r2.length])).mono (fun H s => ⟨sql (s _ _ h), sql (s _ _ h2)⟩) fun i H x H' hi g y => ?_
  obtain ⟨T, u, w, e1, n, e2, e3, e4⟩ := y
  obtain ⟨z, hz, rz⟩ := r.getV e3
  obtain ⟨z2, hz2, rz2⟩ := r2.getV e4
  refine .inr (.inl ⟨T, z, z2, u, w, e1, n, e2, ?_, rz, rz2⟩)
  rw [List.getElem?_zipWith, hz, hz2]
theorem dwalk_rev {a : Addr} {vs : List V} {xs : List Dt} (h : W.F a = some (.lst vs)) (r : RpL K W vs xs) : DWalk K W (Itv K a vs.length) xs.reverse := by
  unfold DWalk
  rw [List.length_reverse, ← r.length]
  refine walk_rev.mono (fun H s => sql (s _ _ h)) fun i H x H' hi g ⟨e1, e2⟩ => .inl ⟨e1, ?_⟩
  obtain ⟨z, hz, rz⟩ := r.getV e2
  exact ⟨z, by rw [List.getElem?_reverse (by rw [← r.length]; exact hi), ← r.length]; exact hz, rz⟩
theorem walk_revT {a : Addr} {xs : List V} : Walk (ItvT K a xs.length) xs.length (fun H => SqT K H a xs) (fun i H x H' => H' = H ∧ xs[xs.length - 1 - i]? = some x) :=
  ⟨fun i _ hi q => ⟨hi, xs, xs[xs.length - 1 - i]'(by omega), q, by simp [show xs.length - 1 - i < xs.length by omega]⟩, fun _ _ => Nat.le_refl _, fun _ _ _ _ _ q y => ⟨y.1, y.2 xs q⟩⟩
theorem dwalk_revT {a : Addr} {vs : List V} {xs : List Dt} (h : ∀ H, Same W.F H → SqT K H a vs) (r : RpL K W vs xs) : DWalk K W (ItvT K a vs.length) xs.reverse := by
  unfold DWalk
  rw [List.length_reverse, ← r.length]
  refine walk_revT.mono h fun i H x H' hi g ⟨e1, e2⟩ => .inl ⟨e1, ?_⟩
  obtain ⟨z, hz, rz⟩ := r.getV e2
  exact ⟨z, by rw [List.getElem?_reverse (by rw [← r.length]; exact hi), ← r.length]; exact hz, rz⟩
theorem li_tup {a : DE} (q : liftI K C E (dItT a) σ H R) : iTup K (liftE K C E a) σ H R := by
  obtain ⟨c, P, at_, h, k⟩ := q
  refine ⟨c, _, at_, h, fun W1 H1 v1 x1 f1 o1 r1 ⟨xs, e, q1⟩ => ?_⟩
  subst e
  obtain ⟨a, vs, rfl, hs, rs⟩ := rp_tup r1
  exact ⟨a, rfl, ⟨vs, sqt (o1.sF _ _ hs)⟩, k _ _ _ _ f1 o1 (dwalk_tup (fun H s => sqt (s _ _ hs)) rs) q1⟩
theorem li_ktup {a : DE} (q : liftI K C E (dItK a) σ H R) : iTup K (liftE K C E a) σ H R := by
  obtain ⟨c, P, at_, h, k⟩ := q
  refine ⟨c, _, at_, h, fun W1 H1 v1 x1 f1 o1 r1 ⟨xs, e, q1⟩ => ?_⟩
  subst e
  cases r1 with
  | ktup hs rs => exact ⟨_, rfl, ⟨_, hs _⟩, k _ _ _ _ f1 o1 (dwalk_tup (fun H s => hs H) rs) q1⟩
theorem li_list {a : DE} (q : liftI K C E (dItL a) σ H R) : iList K (liftE K C E a) σ H R := by
  obtain ⟨c, P, at_, h, k⟩ := q
  refine ⟨c, _, at_, h, fun W1 H1 v1 x1 f1 o1 r1 ⟨xs, e, q1⟩ => ?_⟩
  subst e
  obtain ⟨a, vs, rfl, hs, rs⟩ := rp_lst r1
  exact ⟨a, rfl, ⟨vs, sql (o1.sF _ _ hs)⟩, k _ _ _ _ f1 o1 (dwalk_list hs rs) q1⟩
theorem li_rng1 {a : DA} (q : liftI K C E (dRng1 a) σ H R) : iRng1 (liftA K C E a) σ H R := by
  obtain ⟨c, P, at_, h, k⟩ := q
  refine ⟨c, _, at_, h, fun W1 H1 v1 x1 f1 o1 r1 ⟨j, e, h1, h2, q1⟩ => ?_⟩
  subst e
  obtain ⟨v, rfl, rv⟩ := rpl1 r1
  exact ⟨j, by rw [rp_int rv], h1, h2, k _ _ _ _ f1 o1 dwalk_range q1⟩
theorem li_rng2 {a : DA} (q : liftI K C E (dRng2 a) σ H R) : iRng2 (liftA K C E a) σ H R := by
  obtain ⟨c, P, at_, h, k⟩ := q
  refine ⟨c, _, at_, h, fun W1 H1 v1 x1 f1 o1 r1 ⟨i, j, e, hb, q1⟩ => ?_⟩
  subst e
  obtain ⟨v, w, rfl, rv, rw_⟩ := rpl2 r1
  exact ⟨i, j, by rw [rp_int rv, rp_int rw_], hb, k _ _ _ _ f1 o1 dwalk_range q1⟩
theorem li_enum {a : DA} (q : liftI K C E (dEnum a) σ H R) : iEnum K (liftA K C E a) σ H R := by
  obtain ⟨c, P, at_, h, k⟩ := q
  refine ⟨c, _, at_, h, fun W1 H1 v1 x1 f1 o1 r1 ⟨ys, e, q1⟩ => ?_⟩
  subst e
  obtain ⟨v, rfl, rv⟩ := rpl1 r1
  obtain ⟨a, vs, rfl, hs, rs⟩ := rp_lst rv
  exact ⟨a, vs, rfl, sql (o1.sF _ _ hs), k _ _ _ _ f1 o1 (dwalk_enum hs rs) q1⟩
theorem li_zipL {a : DA} (q : liftI K C E (dZipL a) σ H R) : iZip K (liftA K C E a) σ H R := by
  obtain ⟨c, P, at_, h, k⟩ := q
  refine ⟨c, _, at_, h, fun W1 H1 v1 x1 f1 o1 r1 ⟨ys, zs, e, q1⟩ => ?_⟩
  subst e
  obtain ⟨v, w, rfl, rv, rw_⟩ := rpl2 r1
  obtain ⟨a, vs, rfl, hs, rs⟩ := rp_lst rv
  obtain ⟨b, ws, rfl, ht, rt⟩ := rp_lst rw_
  exact ⟨a, b, vs, ws, rfl, sql (o1.sF _ _ hs), sql (o1.sF _ _ ht), k _ _ _ _ f1 o1 (dwalk_zip hs rs ht rt) q1⟩
theorem li_rev {a : DE} (q : liftI K C E (dRev a) σ H R) : iRevA K (liftE K C E a) σ H R := by
  obtain ⟨c, P, at_, h, k⟩ := q
  refine ⟨c, _, at_, h, fun W1 H1 v1 x1 f1 o1 r1 ⟨xs, e, q1⟩ => ?_⟩
  rcases e with rfl | rfl
  · obtain ⟨a, vs, rfl, hs, rs⟩ := rp_lst r1
    exact ⟨a, vs, rfl, .inl ⟨sql (o1.sF _ _ hs), k _ _ _ _ f1 o1 (dwalk_rev hs rs) q1⟩⟩
  · obtain ⟨a, vs, rfl, hs, rs⟩ := rp_tup r1
    exact ⟨a, vs, rfl, .inr ⟨sqt (o1.sF _ _ hs), k _ _ _ _ f1 o1 (dwalk_revT (fun H s => sqt (s _ _ hs)) rs) q1⟩⟩
end
/-! lists of one's own: an item, the length, one more, an item stored -/
def dIxO (i : Nat) (b : DE) : DE := fun X ρ P => ∃ xs, ρ[i]? = some (.ol xs) ∧ b X ρ fun y => ∃ k z, y = .int k ∧ atI xs k = some z ∧ P z
def dLenO (i : Nat) : DE := fun _ ρ P => ∃ xs, ρ[i]? = some (.ol xs) ∧ P (nat xs.length)
def dSlO (i : Nat) (l h : DO) : DN := fun X ρ P => ∃ xs, ρ[i]? = some (.ol xs) ∧ l X ρ fun lo => h X ρ fun hi => P (cutD xs lo hi)
def dApp (i : Nat) (a : DE) : DS := fun D X ρ => ∃ xs, ρ[i]? = some (.ol xs) ∧ a X ρ fun x => xs.length ≤ 100000 ∧ D.nx (ρ.set i (.ol (xs ++ [x])))
def dPutO (i : Nat) (b a : DE) : DS := fun D X ρ => ∃ xs, ρ[i]? = some (.ol xs) ∧ a X ρ fun x => b X ρ fun y => ∃ k j, y = .int k ∧ ixN xs.length k = some j ∧ D.nx (ρ.set i (.ol (xs.set j x)))
section
variable {K : PySem.W.Frag} {C : Ec} {E : XK} {σ : L2.St} {H : Hp} {Q : VK} {D : Ends}
theorem Cn.At.ol {c : Cn} {i : Nat} {xs : List Dt} (a : c.At K C E σ H) (e : c.ρ[i]? = some (.ol xs)) : ∃ p vs, σ[i]? = some (some (.ref p)) ∧ Mine c.Hin c.W p ∧ H p = some (.lst vs) ∧ RpL K c.W vs xs := by
  obtain ⟨o, h1, p, vs, rfl, m, h, r⟩ := a.lk.sl i _ e
  exact ⟨p, vs, h1, m, h, r⟩
theorem le_ixO {i : Nat} {b : DE} (q : liftE K C E (dIxO i b) σ H Q) : tOp (rIxL K) (tVar i) (liftE K C E b) σ H Q := by
  obtain ⟨c, P, at_, ⟨xs, e, h⟩, k⟩ := q
  obtain ⟨p, vs, h1, m, hp, r⟩ := at_.ol e
  refine ⟨_, h1, c, _, at_, h, fun W1 H1 v1 x1 f1 o1 r1 ⟨kk, z, e1, ea, q1⟩ => ?_⟩
  subst e1
  obtain ⟨v, hv, rv⟩ := at_rp (r.le f1.le) ea
  exact ⟨p, vs, kk, v, rfl, rp_int r1, sql (f1.sH p _ hp m.d), hv, k _ _ _ _ f1 o1 rv q1⟩
theorem le_lenO {i : Nat} (q : liftE K C E (dLenO i) σ H Q) : tCB (Sx.rLen K) (tCons (tVar i) tNil) σ H Q := by
  obtain ⟨c, P, at_, ⟨xs, e, h⟩, k⟩ := q
  obtain ⟨p, vs, h1, m, hp, r⟩ := at_.ol e
  exact ⟨_, h1, p, vs, rfl, .inl (sql hp), k _ _ _ _ (Frm.refl _ _) at_.lk.ok (by rw [r.length]; exact .int _) h⟩
theorem le_slO {i : Nat} {l h : DO} (q : liftN K C E (dSlO i l h) σ H Q) : tSl (rSlLN K) (tVar i) (liftO K C E l) (liftO K C E h) σ H Q := by
  obtain ⟨c, P, at_, ⟨xs, e, h⟩, k⟩ := q
  obtain ⟨p, vs, h1, m, hp, r⟩ := at_.ol e
  refine ⟨_, h1, c, _, at_, h, fun W2 H2 lo f2 o2 q2 => ?_⟩
  refine ⟨{ c with W := W2 }, _, at_.frm f2 o2, q2, fun W3 H3 hi f3 o3 q3 => ?_⟩
  have f13 := f2.trans f3
  refine ⟨p, vs, rfl, sql (f13.sH p _ hp m.d), fun p2 H4 n s hp2 => ?_⟩
  exact k W3 H4 p2 _ _ (f13.trans (frm_same s)) (o3.same s) (f13.kp p2 n) (o3.fr n) (o3.dice_ne n) hp2 (cut_rp (r.le f13.le)) q3
theorem Cn.At.put {c : Cn} {i : Nat} {s t : Sl} {p : Addr} {o : HO} (a : c.At K C E σ H) (e : c.ρ[i]? = some s) (ho : own s = true) (hp : σ[i]? = some (some (.ref p))) (m : Mine c.Hin c.W p) (h : SlR K c.Hin c.W (upd H p o) t (some (.ref p))) :
    Cn.At K C E { c with ρ := c.ρ.set i t } σ (upd H p o) :=
  ⟨a.lk.change e ho hp m h, ⟨a.fr.le, fun b u hb hd => by rw [upd_ne (fun z => by rw [z, m.i] at hb; cases hb)]; exact a.fr.sH b u hb hd, a.fr.nF, a.fr.dn, fun b hb => by
    by_cases z : b = p
    · rw [z]; exact m.i
    · rw [upd_ne z] at hb; exact a.fr.kp b hb⟩, a.el, a.lo⟩
theorem ls_app {i : Nat} {a : DE} (q : liftS K C E (dApp i a) D σ H) : tDrop (tBM K "list" rAppend (tVar i) (tCons (liftE K C E a) tNil)) D σ H := by
  obtain ⟨c, DD, at_, en, xs, e, h⟩ := q
  obtain ⟨p, vs, h1, m, hp, r⟩ := at_.ol e
  refine ⟨_, h1, .inl ⟨rfl, vs, sql hp⟩, c, _, at_, h, fun W1 H1 v1 x1 f1 o1 r1 ⟨hz, q1⟩ => ?_⟩
  have a1 := at_.frm f1 o1
  have hp1 := f1.sH p _ hp m.d
  have m1 := m.frm f1 hp trivial
  refine ⟨p, vs, v1, rfl, rfl, hp1, Nat.lt_of_le_of_lt (by rw [r.length]; exact hz) (by decide), ?_⟩
  exact en.nx W1 _ σ _ (a1.put (t := .ol (xs ++ [x1])) e rfl h1 m1 ⟨p, vs ++ [v1], rfl, m1, upd_same, (r.le f1.le).append (.cons r1 .nil)⟩) q1
theorem ls_putO {i : Nat} {b a : DE} (q : liftS K C E (dPutO i b a) D σ H) : tAsg (liftE K C E a) (gSub (tVar i) (liftE K C E b) rSetL) D σ H := by
  obtain ⟨c, DD, at_, en, xs, e, h⟩ := q
  obtain ⟨p, vs, h1, m, hp, r⟩ := at_.ol e
  refine ⟨c, _, at_, h, fun W1 H1 v1 x1 f1 o1 r1 q1 => ?_⟩
  refine ⟨_, h1, { c with W := W1 }, _, at_.frm f1 o1, q1, fun W2 H2 v2 x2 f2 o2 r2 ⟨kk, j, e2, hj, q2⟩ => ?_⟩
  subst e2
  have f12 := f1.trans f2
  have a2 := at_.frm f12 o2
  have hp2 := f12.sH p _ hp m.d
  have m2 := m.frm f12 hp trivial
  refine ⟨p, vs, kk, j, rfl, rp_int r2, hp2, by rw [r.length]; exact hj, ?_⟩
  exact en.nx W2 _ σ _ (a2.put (t := .ol (xs.set j x1)) e rfl h1 m2 ⟨p, vs.set j v1, rfl, m2, upd_same, (r.le f12.le).set j (r1.le f2.le)⟩) q2
end
/-! defs -/
abbrev DSp := List Dt → (Dt → Prop) → DX → Prop
def liftSp (K : PySem.W.Frag) (C : Ec) (d : DSp) : Sp := fun vs H Q E => ∃ W xs P PX, Ok K W H ∧ RpL K W vs xs ∧ d xs P PX ∧ (∀ W' H' v x, Frm W H W' H' → Ok K W' H' → Rp K W' v x → P x → Q v H') ∧ EL K C H W E PX
def none_ : DX := fun _ _ => False
/-- a call that lets out what the callee lets out -/
def dCallX (d : DSp) (a : DA) : DE := fun X ρ P => a X ρ fun xs => d xs P X
/-- a call that lets nothing out -/
def dCall0 (d : DSp) (a : DA) : DE := fun X ρ P => a X ρ fun xs => d xs P none_
section
variable {K : PySem.W.Frag} {C : Ec} {E : XK} {σ : L2.St} {H : Hp} {Q : VK}
theorem le_callX {d : DSp} {a : DA} (q : liftE K C E (dCallX d a) σ H Q) : tCallS (liftSp K C d) (WE fun cls dd _ H => E cls dd H) (liftA K C E a) σ H Q := by
  obtain ⟨c, P, at_, h, k⟩ := q
  refine ⟨c, _, at_, h, fun W1 H1 vs xs f1 o1 r1 q1 => ?_⟩
  exact ⟨W1, xs, P, c.PX, o1, r1, q1, fun W' H' v x f => k W' H' v x (f1.trans f), fun W' H' kk fs cls dd f o er px => at_.el W' H' kk fs cls dd ((at_.fr.trans f1).trans f) o er px⟩
theorem le_call0 {d : DSp} {a : DA} (q : liftE K C E (dCall0 d a) σ H Q) : tCall (liftSp K C d) [] E0 (liftA K C E a) σ H Q := by
  obtain ⟨c, P, at_, h, k⟩ := q
  refine ⟨c, _, at_, h, fun W1 H1 vs xs f1 o1 r1 q1 => ?_⟩
  exact ⟨W1, xs, P, none_, o1, by rw [List.append_nil]; exact r1, q1, fun W' H' v x f => k W' H' v x (f1.trans f), fun W' H' kk fs cls dd f o er px => px⟩
theorem liftSp_len {d : DSp} {n : Nat} {vs : List V} (hl : ∀ xs P PX, d xs P PX → xs.length = n) (h : liftSp K C d vs H Q E) : vs.length = n := by
  obtain ⟨W, xs, P, PX, _, r, q, _⟩ := h
  rw [r.length]; exact hl xs P PX q
def startD (xs : List Dt) (m : Nat) : Env := xs.map Sl.v ++ List.replicate m .un
theorem start_lk {W : Wd} {N : List Str} {vs : List V} {xs : List Dt} (o : Ok K W H) (r : RpL K W vs xs) : Lk K H W (startD xs (N.length - vs.length)) (L2.start N vs) H where
  ok := o
  len := by unfold startD L2.start; simp [r.length]
  sl := fun i s e => by
    unfold startD at e
    unfold L2.start
    by_cases hi : i < xs.length
    · rw [List.getElem?_append_left (by simpa using hi), List.getElem?_map] at e
      cases hx : xs[i]? with
      | none => rw [hx] at e; cases e
      | some x =>
        rw [hx] at e
        obtain rfl := Option.some.inj e
        obtain ⟨v, hv, rv⟩ := r.get hx
        exact ⟨some v, by rw [List.getElem?_append_left (by rw [List.length_map, r.length]; exact hi), List.getElem?_map, hv]; rfl, v, rfl, rv⟩
    · rw [List.getElem?_append_right (by simp; omega)] at e
      have e2 := List.mem_of_getElem? e
      have e3 := (List.mem_replicate.mp e2).2
      subst e3
      have hl : i - (xs.map Sl.v).length < N.length - vs.length := by
        rcases Nat.lt_or_ge (i - (xs.map Sl.v).length) (N.length - vs.length) with z | z
        · exact z
        · rw [List.getElem?_eq_none (by simp at z ⊢; omega)] at e; cases e
      refine ⟨none, ?_, trivial⟩
      rw [List.getElem?_append_right (by rw [List.length_map, r.length]; omega), List.getElem?_replicate, if_pos (by rw [r.length] at hl; rw [List.length_map, r.length]; simpa using hl)]
  sep := fun i j s t p _ e1 _ o1 _ _ _ => by
    unfold startD at e1
    have m := List.mem_of_getElem? e1
    rcases List.mem_append.mp m with m | m
    · obtain ⟨x, _, rfl⟩ := List.mem_map.mp m; cases o1
    · rw [(List.mem_replicate.mp m).2] at o1; cases o1
def dEnds (P : Dt → Prop) : DEnds := { nx := fun _ => P .non, rt := P }
theorem run_lift {d : DSp} {b : DS} {N : List Str} {vs : List V} (hb : ∀ xs P PX, d xs P PX → b (dEnds P) PX (startD xs (N.length - xs.length))) (h : liftSp K C d vs H Q E) : liftS K C E b { nx := fun _ H' => Q .non H', rt := Q } (L2.start N vs) H := by
  obtain ⟨W, xs, P, PX, o, r, q, k, el⟩ := h
  refine ⟨⟨H, W, W, W, startD xs (N.length - vs.length), PX⟩, dEnds P, ⟨start_lk o r, Frm.refl _ _, el, Wd.Le.refl _⟩, ⟨fun W' ρ' σ' H' a p => k W' H' _ _ a.fr a.lk.ok .non p, fun _ _ _ _ _ p => p.elim, fun _ _ _ _ _ p => p.elim, fun W' H' v x f o' r' p => k W' H' v x f o' r' p, fun _ _ _ _ _ _ _ _ _ _ _ _ p => p.elim⟩, ?_⟩
  rw [r.length]
  exact hb xs P PX q
end
end Dx
end
section
/-! more rules over data -/
namespace Dx
open PySem L2 RT Sx
theorem zss {X : Cx} {st : List Stmt} {t t' : TS} (h : PSs X st t) (i : ∀ D σ H, t' D σ H → t D σ H) : PSs X st t' := ⟨fun pins s σ H D I q => h.run pins s σ H D I (i D σ H q)⟩
theorem ty_tup0 {K : PySem.W.Frag} {H : Hp} {a : Addr} {xs : List V} (h : SqT K H a xs) : TyX K H (.ref a) (.type "tuple") := by
  rcases h with (h | ⟨o, h⟩) | ⟨o, its, n, h2, h3, _⟩
  · exact .base (.tup h)
  · exact .fTuple h
  · exact .kTuple h2 h3
/-- list(range(n)) -/
def tLr1N (ta : TE) : TE := fun σ H Q => ta σ H fun x H1 => ∃ n : Nat, x = natV n ∧ n ≤ 1000000 ∧ ∀ q H2, H1 q = none → Same H1 H2 → H2 q = some (.lst (rowV (List.range n))) → Q (.ref q) H2
theorem rgV_nat (n : Nat) : rgV 0 (n : Int) = rowV (List.range n) := by
  unfold rgV rowV
  rw [show ((n : Int) - 0).toNat = n by omega]
  refine List.map_congr_left fun i _ => ?_
  show V.int (0 + (i : Int)) = V.int (i : Int)
  rw [Int.zero_add]
theorem pe_lr1N {X : Cx} {a : Expr} {ta : TE} {p p2 pos pos2 : Pos} (hc : X.calm = true) (hg : Gl X "list") (hm : X.mg "list" = none) (hg2 : Gl X "range") (hm2 : X.mg "range" = none) (ha : PE X a ta) (na : starEach [a] X.env = (false, eval a X.env) :: starEach [] X.env := by rfl)
    (nb : starEach [.Call (.Name "range" p2) [a] [] pos2] X.env = (false, eval (.Call (.Name "range" p2) [a] [] pos2) X.env) :: starEach [] X.env := by rfl) : PE X (.Call (.Name "list" p) [.Call (.Name "range" p2) [a] [] pos2] [] pos) (tLr1N ta) :=
  PE.imp (pe_listRg hc hg hm (prg_1 hg2 hm2 (PE.weak ha) na) nb) fun σ H Q q => ⟨_, q, fun v H1 ⟨n, e, hn, k⟩ => by
    subst e
    refine ⟨(n : Int), rfl, RgOk.of_le (by omega) (by omega) (by omega) (by omega), fun q hq => ?_⟩
    rw [rgV_nat]
    exact k q _ hq (same_new hq) upd_same⟩
def dPar (i j : Nat) (a : DA) : DS := fun D X ρ => a X ρ fun xs => ∃ x y, xs = [x, y] ∧ D.nx ((ρ.set i (.v x)).set j (.v y))
def dPar3 (i j l : Nat) (a : DA) : DS := fun D X ρ => a X ρ fun xs => ∃ x y z, xs = [x, y, z] ∧ D.nx (((ρ.set i (.v x)).set j (.v y)).set l (.v z))
def dTupRev (a : DE) : DE := fun X ρ P => a X ρ fun x => ∃ xs, x = .lst xs ∧ P (.tup xs.reverse)
def dTru (a : DE) : DT := fun X ρ Q => a X ρ fun x => (∃ xs, x = .lst xs ∧ Q (!xs.isEmpty)) ∨ (∃ xs, x = .tup xs ∧ Q (!xs.isEmpty)) ∨ (∃ k, x = .bl k ∧ Q k) ∨ (∃ s : Str, x = .str s ∧ s.length ≤ 100000 ∧ Q ((s.length : Int) != 0))
def dIxQ : D2 := fun x y P => dIxT x y P ∨ dIxL x y P
def dCatL (a b : DE) : DN := fun X ρ P => a X ρ fun x => b X ρ fun y => ∃ xs ys, x = .lst xs ∧ y = .lst ys ∧ xs.length + ys.length ≤ 100000 ∧ P (xs ++ ys)
def dListOf (a : DA) : DN := fun X ρ P => a X ρ fun xs => (∃ ys, xs = [.lst ys] ∧ P ys) ∨ ∃ ys, xs = [.tup ys] ∧ P ys
def dLr1 (a : DE) : DN := fun X ρ P => a X ρ fun x => ∃ n : Nat, x = nat n ∧ n ≤ 1000000 ∧ P ((List.range n).map nat)
def dRaise0 (k : Nat) : DS := fun _ X _ => X k []
def dRaise (k : Nat) (a : DA) : DS := fun _ X ρ => a X ρ fun xs => xs.length = (fldsOf k).length ∧ X k xs
def dPop0 (i : Nat) : DS := fun D _ ρ => ∃ xs x, ρ[i]? = some (.ol (x :: xs)) ∧ D.nx (ρ.set i (.ol xs))
def dRevO (i : Nat) : DN := fun _ ρ P => ∃ xs, ρ[i]? = some (.ol xs) ∧ P xs.reverse
def dRevL (a : DE) : DN := fun X ρ P => a X ρ fun x => ∃ xs, x = .lst xs ∧ P xs.reverse
def dPop (i : Nat) : DS := fun D _ ρ => ∃ xs x, ρ[i]? = some (.ol (xs ++ [x])) ∧ D.nx (ρ.set i (.ol xs))
def dMin2 : DL := fun xs P => ∃ i j, xs = [.int i, .int j] ∧ P (.int (if j < i then j else i))
def dAbs : DL := fun xs P => ∃ i, xs = [.int i] ∧ P (.int (if i < 0 then -i else i))
def dGcd : DL := fun xs P => ∃ a b : Nat, xs = [nat a, nat b] ∧ P (nat (Nat.gcd a b))
def dIsqrt : DL := fun xs P => ∃ a : Nat, xs = [nat a] ∧ a < 2 ^ 250 ∧ P (nat (Float64.isqrt a))
abbrev rMin2 : List V → Hp → VK → Prop := fun xs H Q => ∃ i j, xs = [.int i, .int j] ∧ Q (.int (if j < i then j else i)) H
abbrev rAbs : List V → Hp → VK → Prop := fun xs H Q => ∃ i, xs = [.int i] ∧ Q (.int (if i < 0 then -i else i)) H
/-- the type of data -/
def tyD : Dt → Option String
  | .non => some "NoneType"
  | .bl _ => some "bool"
  | .int _ => some "int"
  | .str _ => some "str"
  | .tup _ => some "tuple"
  | .lst _ => some "list"
  | .dK _ => some "dict"
  | _ => none
def dIsi : DL := fun xs P => ∃ x t c b, xs = [x, .ty c] ∧ tyD x = some t ∧ kitB t c = some b ∧ P (.bl b)
section
variable {K : PySem.W.Frag} {C : Ec} {E : XK} {σ : L2.St} {H : Hp} {Q : VK} {D : Ends}
theorem ls_asg1 {i : Nat} {a : DE} (q : liftS K C E (dAsg (.nm i) a) D σ H) : tAsg (liftE K C E a) (gName i) D σ H := ls_asg q
theorem Cn.At.st {c : Cn} {v : V} {x : Dt} (a : c.At K C E σ H) (i : Nat) (r : Rp K c.W v x) : Cn.At K C E { c with ρ := c.ρ.set i (.v x) } (σ.set i (some v)) H := ⟨a.lk.set (s := .v x) i ⟨v, rfl, r⟩ rfl, a.fr, a.el, a.lo⟩
theorem ls_par {i j : Nat} {a : DA} (q : liftS K C E (dPar i j a) D σ H) : tPar i j (liftA K C E a) D σ H := by
  obtain ⟨c, DD, at_, en, h⟩ := q
  refine ⟨c, _, at_, h, fun W1 H1 vs xs f o r ⟨x, y, e, q1⟩ => ?_⟩
  subst e
  obtain ⟨v, w, rfl, r1, r2⟩ := rpl2 r
  refine ⟨v, w, rfl, ?_⟩
  have a1 := at_.frm f o
  have a2 := a1.st i r1
  have a3 := a2.st j r2
  exact en.nx W1 _ _ H1 ⟨a3.lk, a3.fr, a3.el, a3.lo⟩ q1
theorem rpl3 {W : Wd} {vs : List V} {x y z : Dt} (r : RpL K W vs [x, y, z]) : ∃ u v w, vs = [u, v, w] ∧ Rp K W u x ∧ Rp K W v y ∧ Rp K W w z := by
  cases r with | cons a b => cases b with | cons b c => cases c with | cons c d => cases d; exact ⟨_, _, _, rfl, a, b, c⟩
theorem ls_par3 {i j l : Nat} {a : DA} (q : liftS K C E (dPar3 i j l a) D σ H) : tPar3 i j l (liftA K C E a) D σ H := by
  obtain ⟨c, DD, at_, en, h⟩ := q
  refine ⟨c, _, at_, h, fun W1 H1 vs xs f o r ⟨x, y, z, e, q1⟩ => ?_⟩
  subst e
  obtain ⟨u, v, w, rfl, r1, r2, r3⟩ := rpl3 r
  refine ⟨u, v, w, rfl, ?_⟩
  have a1 := at_.frm f o
  have a2 := a1.st i r1
  have a3 := a2.st j r2
  have a4 := a3.st l r3
  exact en.nx W1 _ _ H1 ⟨a4.lk, a4.fr, a4.el, a4.lo⟩ q1
theorem o_ipadd : Op2 K (ipI fun i j => i + j) dAdd := fun W H v1 x1 v2 x2 P Q o r1 r2 ⟨i, j, e1, e2, _, q⟩ k => by
  subst e1; subst e2
  exact ⟨i, j, rp_int r1, rp_int r2, k W H _ _ (Frm.refl _ _) o (.int _) q⟩
theorem o_ipsub : Op2 K (ipI fun i j => i - j) dSub := fun W H v1 x1 v2 x2 P Q o r1 r2 ⟨i, j, e1, e2, _, q⟩ k => by
  subst e1; subst e2
  exact ⟨i, j, rp_int r1, rp_int r2, k W H _ _ (Frm.refl _ _) o (.int _) q⟩
theorem le_call00 {d : DSp} (q : liftE K C E (dCall0 d dNil) σ H Q) : tCall (liftSp K C d) [] E0 tNil σ H Q := by
  obtain ⟨c, P, at_, h, k⟩ := q
  exact ⟨c.W, [], P, none_, at_.lk.ok, .nil, h, k, fun W' H' kk fs cls dd f o er px => px⟩
theorem le_tupRev {a : DE} (q : liftE K C E (dTupRev a) σ H Q) : tTupRev K (liftE K C E a) σ H Q := by
  obtain ⟨c, P, at_, h, k⟩ := q
  refine ⟨c, _, at_, h, fun W1 H1 v x f o r ⟨xs, e, q1⟩ => ?_⟩
  subst e
  obtain ⟨a, vs, rfl, hs, rs⟩ := rp_lst r
  exact ⟨a, vs, rfl, sql (o.sF _ _ hs), newT o rs.rev q1 fun W' H' v x f' => k W' H' v x (f.trans f')⟩
theorem isEmpty_rp {W : Wd} {vs : List V} {xs : List Dt} (r : RpL K W vs xs) : vs.isEmpty = xs.isEmpty := by cases r <;> rfl
theorem lt_tru {a : DE} {QB : Bool → Hp → Prop} (q : liftT K C E (dTru a) σ H QB) : liftE K C E a σ H fun x H' => ∃ k, TruV K x H' k ∧ QB k H' := by
  obtain ⟨c, P, at_, h, k⟩ := q
  refine ⟨c, _, at_, h, fun W1 H1 v x f o r q1 => ?_⟩
  rcases q1 with ⟨xs, e, q1⟩ | ⟨xs, e, q1⟩ | ⟨b, e, q1⟩ | ⟨s, e, hs, q1⟩
  · subst e
    obtain ⟨a, vs, rfl, hs, rs⟩ := rp_lst r
    exact ⟨_, .inl ⟨vs, sql (o.sF _ _ hs), rfl⟩, by rw [isEmpty_rp rs]; exact k _ _ _ f o q1⟩
  · subst e
    obtain ⟨a, vs, rfl, hs, rs⟩ := rp_tup r
    exact ⟨_, .inr (.inl ⟨vs, sqt (o.sF _ _ hs), rfl⟩), by rw [isEmpty_rp rs]; exact k _ _ _ f o q1⟩
  · subst e
    rw [rp_bl r]
    exact ⟨b, rfl, k _ _ _ f o q1⟩
  · subst e
    rw [rp_str r]
    exact ⟨_, ⟨szl hs, rfl⟩, k _ _ _ f o q1⟩
theorem o_ixQ : Op2 K (rIxQ K) dIxQ := fun W H v1 x1 v2 x2 P Q o r1 r2 q k => by
  rcases q with q | q
  · exact .inr (o_ixT W H v1 x1 v2 x2 P Q o r1 r2 q k)
  · exact .inl (o_ixL W H v1 x1 v2 x2 P Q o r1 r2 q k)
theorem newL {W : Wd} {c : Cn} {H1 : Hp} {P : List Dt → Prop} {xs : List Dt} {vs : List V} (f : Frm c.W H W H1) (o : Ok K W H1) (r : RpL K W vs xs) (q : P xs)
    (k : ∀ W' H' p vs xs, Frm c.W H W' H' → Ok K W' H' → H p = none → W'.F p = none → ¬ W'.dl p → H' p = some (.lst vs) → RpL K W' vs xs → P xs → Q (.ref p) H') : ∀ p H2, H1 p = none → Same H1 H2 → H2 p = some (.lst vs) → Q (.ref p) H2 := fun p H2 n s hp =>
  k W H2 p _ _ (f.trans (frm_same s)) (o.same s) (f.kp p n) (o.fr n) (o.dice_ne n) hp r q
theorem le_catL {a b : DE} (q : liftN K C E (dCatL a b) σ H Q) : tOp (rCatLN K) (liftE K C E a) (liftE K C E b) σ H Q := by
  obtain ⟨c, P, at_, h, k⟩ := q
  refine ⟨c, _, at_, h, fun W1 H1 v1 x1 f1 o1 r1 q1 => ?_⟩
  refine ⟨{ c with W := W1 }, _, at_.frm f1 o1, q1, fun W2 H2 v2 x2 f2 o2 r2 ⟨xs, ys, e1, e2, hz, q2⟩ => ?_⟩
  subst e1; subst e2
  obtain ⟨a, vs, rfl, hs, rs⟩ := rp_lst (r1.le f2.le)
  obtain ⟨b, ws, rfl, ht, rt⟩ := rp_lst r2
  exact ⟨a, b, vs, ws, rfl, rfl, o2.sF _ _ hs, o2.sF _ _ ht, szl (by rw [rs.length, rt.length]; exact hz), newL (f1.trans f2) o2 (rs.append rt) q2 k⟩
theorem le_listOf {a : DA} (q : liftN K C E (dListOf a) σ H Q) : tCB (rListN K) (liftA K C E a) σ H Q := by
  obtain ⟨c, P, at_, h, k⟩ := q
  refine ⟨c, _, at_, h, fun W1 H1 v1 x1 f1 o1 r1 q1 => ?_⟩
  rcases q1 with ⟨ys, e, q1⟩ | ⟨ys, e, q1⟩
  · subst e
    obtain ⟨v, rfl, rv⟩ := rpl1 r1
    obtain ⟨a, vs, rfl, hs, rs⟩ := rp_lst rv
    exact ⟨a, vs, rfl, .inl (sql (o1.sF _ _ hs)), newL f1 o1 rs q1 k⟩
  · subst e
    obtain ⟨v, rfl, rv⟩ := rpl1 r1
    obtain ⟨a, vs, rfl, hs, rs⟩ := rp_tup rv
    exact ⟨a, vs, rfl, .inr (sqt (o1.sF _ _ hs)), newL f1 o1 rs q1 k⟩
theorem rpl_nats {W : Wd} : ∀ {ns : List Nat}, RpL K W (rowV ns) (ns.map nat)
  | [] => .nil
  | _ :: _ => .cons (.int _) rpl_nats
theorem le_lr1 {a : DE} (q : liftN K C E (dLr1 a) σ H Q) : tLr1N (liftE K C E a) σ H Q := by
  obtain ⟨c, P, at_, h, k⟩ := q
  refine ⟨c, _, at_, h, fun W1 H1 v1 x1 f1 o1 r1 ⟨n, e, hn, q1⟩ => ?_⟩
  subst e
  exact ⟨n, rp_int r1, hn, newL f1 o1 rpl_nats q1 k⟩
theorem ls_pop {i : Nat} (q : liftS K C E (dPop i) D σ H) : tDrop (tBM0 K "list" rPop (tVar i)) D σ H := by
  obtain ⟨c, DD, at_, en, xs, x, e, h⟩ := q
  obtain ⟨p, vs, h1, m, hp, r⟩ := at_.ol e
  have hl := r.length
  rw [List.length_append] at hl
  obtain ⟨v, hv, _⟩ := r.get (i := xs.length) (x := x) (by simp)
  refine ⟨_, h1, .inl ⟨rfl, vs, sql hp⟩, p, vs, v, rfl, rfl, hp, by rw [hl]; exact hv, ?_⟩
  have rd : RpL K c.W vs.dropLast xs := by
    have := r.take xs.length
    rw [List.take_left] at this
    rw [List.dropLast_eq_take, hl]; exact this
  exact en.nx c.W _ σ _ (at_.put (t := .ol xs) e rfl h1 m ⟨p, vs.dropLast, rfl, m, upd_same, rd⟩) h
theorem le_revO {i : Nat} (q : liftN K C E (dRevO i) σ H Q) : tRevLN K (tVar i) σ H Q := by
  obtain ⟨c, P, at_, ⟨xs, e, h⟩, k⟩ := q
  obtain ⟨p, vs, h1, m, hp, r⟩ := at_.ol e
  exact ⟨_, h1, p, vs, rfl, sql hp, newL (Frm.refl _ _) at_.lk.ok r.rev h k⟩
theorem le_revL {a : DE} (q : liftN K C E (dRevL a) σ H Q) : tRevLN K (liftE K C E a) σ H Q := by
  obtain ⟨c, P, at_, h, k⟩ := q
  refine ⟨c, _, at_, h, fun W1 H1 v x f o r ⟨xs, e, q1⟩ => ?_⟩
  subst e
  obtain ⟨a, vs, rfl, hs, rs⟩ := rp_lst r
  exact ⟨a, vs, rfl, sql (o.sF _ _ hs), newL f o rs.rev q1 k⟩
theorem ls_pop0 {i : Nat} {t : TA} (ht : ∀ σ H Q, Q [natV 0] H → t σ H Q) (q : liftS K C E (dPop0 i) D σ H) : tDrop (tBM K "list" rPopAt (tVar i) t) D σ H := by
  obtain ⟨c, DD, at_, en, xs, x, e, h⟩ := q
  obtain ⟨p, vs, h1, m, hp, r⟩ := at_.ol e
  cases r with
  | @cons v _ vs' _ rv rr =>
    refine ⟨_, h1, .inl ⟨rfl, _, sql hp⟩, ht _ _ _ ?_⟩
    refine i_pop0 hp ?_
    exact en.nx c.W _ σ _ (at_.put (t := .ol xs) e rfl h1 m ⟨p, vs', rfl, m, upd_same, rr⟩) h
theorem o_min2 : OpL K rMin2 dMin2 := fun W H vs xs P Q o r ⟨i, j, e, q⟩ k => by
  subst e
  obtain ⟨v, w, rfl, r1, r2⟩ := rpl2 r
  exact ⟨i, j, by rw [rp_int r1, rp_int r2], k W H _ _ (Frm.refl _ _) o (.int _) q⟩
theorem o_abs : OpL K rAbs dAbs := fun W H vs xs P Q o r ⟨i, e, q⟩ k => by
  subst e
  obtain ⟨v, rfl, r1⟩ := rpl1 r
  exact ⟨i, by rw [rp_int r1], k W H _ _ (Frm.refl _ _) o (.int _) q⟩
theorem tyx {W : Wd} {v : V} : ∀ {x : Dt} {t : String}, Ok K W H → Rp K W v x → tyD x = some t → TyX K H v (.type t)
  | .non, _, _, .non, e => by obtain rfl := Option.some.inj e; exact .base .non
  | .bl b, _, _, .bl _, e => by obtain rfl := Option.some.inj e; exact .base (.bl _)
  | .int b, _, _, .int _, e => by obtain rfl := Option.some.inj e; exact .base (.int _)
  | .str b, _, _, .str _, e => by obtain rfl := Option.some.inj e; exact .base (.str _)
  | .tup b, _, o, .tup h r, e => by obtain rfl := Option.some.inj e; exact ty_tup0 (sqt (o.sF _ _ h))
  | .lst b, _, o, .lst h r, e => by obtain rfl := Option.some.inj e; exact .base (.lst (o.sF _ _ h))
  | .dK b, _, o, .dK h r, e => by obtain rfl := Option.some.inj e; exact .fDict (o.sF _ _ h)
theorem o_isi : OpL K (rIsi K) dIsi := fun W H vs xs P Q o r ⟨x, t, c, b, e, et, ek, q⟩ k => by
  subst e
  obtain ⟨v, w, rfl, r1, r2⟩ := rpl2 r
  cases r2
  exact ⟨v, .ty c, .type t, .type c, b, rfl, .ty c, tyx o r1 et, kit_ty ek, k W H _ _ (Frm.refl _ _) o (.bl _) q⟩
end
section
variable {X : Cx} {C : Ec} {E : XK} {e a b : Expr} {pos : Pos} {da db : DE} {dA : DA}
theorem ttru (h : PT X e (fun σ H Q => liftE X.K C E da σ H fun x H' => ∃ k, TruV X.K x H' k ∧ Q k H')) : PT X e (liftT X.K C E (dTru da)) := PT.imp h fun _ _ _ => lt_tru
theorem ncatL (ha : PE X a (liftE X.K C E da)) (hb : PE X b (liftE X.K C E db)) : PE X (.BinOp a .Add b pos) (liftN X.K C E (dCatL da db)) := PE.imp (pe_op op_catLN ha hb) fun _ _ _ => le_catL
theorem nlistof (h : PE X e (tCB (rListN X.K) (liftA X.K C E dA))) : PE X e (liftN X.K C E (dListOf dA)) := PE.imp h fun _ _ _ => le_listOf
theorem nlr1 (h : PE X e (tLr1N (liftE X.K C E da))) : PE X e (liftN X.K C E (dLr1 da)) := PE.imp h fun _ _ _ => le_lr1
end
/-! a comprehension of two clauses -/
def dComp1 (p1 : Pt) (t1 : DT) (e : DE) (ρ0 : Env) (X : DX) : List Dt → List Dt → (List Dt → Prop) → Prop
  | [], acc, P => P acc
  | x :: xs, acc, P => bindD p1 x ρ0 fun ρ => t1 X ρ fun k => if k = true then e X ρ fun y => acc.length ≤ 100000 ∧ dComp1 p1 t1 e ρ0 X xs (acc ++ [y]) P else dComp1 p1 t1 e ρ0 X xs acc P
def dComp2 (p : Pt) (t : DT) (w1 : DA) (p1 : Pt) (t1 : DT) (e : DE) (vs1 : List Nat) (ρ0 : Env) (X : DX) : List Dt → List Dt → (List Dt → Prop) → Prop
  | [], acc, P => P acc
  | x :: xs, acc, P => bindD p x ρ0 fun ρ => t X ρ fun k => if k = true then w1 X ρ fun ys => dComp1 p1 t1 e (wipeD ρ vs1) X ys acc fun acc' => dComp2 p t w1 p1 t1 e vs1 ρ0 X xs acc' P else dComp2 p t w1 p1 t1 e vs1 ρ0 X xs acc P
def dLc2 (w : DA) (p : Pt) (t : DT) (w1 : DA) (p1 : Pt) (t1 : DT) (e : DE) (vs vs1 : List Nat) : DN := fun X ρ P => w X ρ fun xs => dComp2 p t w1 p1 t1 e vs1 (wipeD ρ vs) X xs [] P
theorem wipe_sub {σ : L2.St} {vs us : List Nat} (h : ∀ i ∈ us, i ∈ vs) : L2.wipe (L2.wipe σ vs) us = L2.wipe σ vs := by
  induction us with
  | nil => rfl
  | cons u us ih =>
    show (L2.wipe (L2.wipe σ vs) us).set u none = _
    rw [ih fun i hi => h i (List.mem_cons_of_mem _ hi)]
    have hu := h u List.mem_cons_self
    clear ih h
    induction vs with
    | nil => cases hu
    | cons v vs ih =>
      show ((L2.wipe σ vs).set v none).set u none = _
      by_cases e : v = u
      · subst e; rw [List.set_set]; rfl
      · rw [List.set_comm _ _ e, ih (by
          rcases List.mem_cons.mp hu with z | z
          · exact absurd z.symm e
          · exact z)]; rfl
section
variable {K : PySem.W.Frag} {C : Ec} {E : XK} {σ : L2.St} {H : Hp}
theorem le_lc2 {w w1 : DA} {p p1 : Pt} {t t1 : DT} {e : DE} {vs vs1 : List Nat} {Q : VK} (hp : ptIn vs p = true) (hp1 : ptIn vs1 p1 = true) (hv : ∀ i ∈ vs1, i ∈ vs) (q : liftN K C E (dLc2 w p t w1 p1 t1 e vs vs1) σ H Q) :
    tLc2 (liftI K C E w) (gOf K p) (liftT K C E t) (liftI K C E w1) (gOf K p1) (liftT K C E t1) (liftE K C E e) vs vs1 σ H Q := by
  obtain ⟨c, P, at_, h, k⟩ := q
  refine ⟨c, _, at_, h, fun W1 H1 J xs f1 o1 wk q1 D n => ?_⟩
  have hn0 : H D = none := f1.kp D n
  let Pv : List Dt → (List Dt → Prop) → Hp → Prop := fun acc N H' => ∃ W' vs', Cn.At K C E { c with Wl := W1, W := W' } σ H' ∧ Frm c.W H W' H' ∧ W'.F D = none ∧ ¬ W'.dl D ∧ H' D = some (.lst vs') ∧ RpL K W' vs' acc ∧ N acc
  refine (⟨fun i m H' => m = xs.length - i ∧ i ≤ xs.length ∧ ∃ acc, Pv acc (fun acc => dComp2 p t w1 p1 t1 e vs1 (wipeD c.ρ vs) c.PX (xs.drop i) acc P) H', ⟨xs.length, by simp, Nat.zero_le _, [], W1, [], ?_, f1.trans (Frm.laid n), o1.fr n, o1.dice_ne n, upd_same, .nil, q1⟩, ?_⟩)
  · have a1 := at_.frm f1 o1
    have a2 := a1.frm (Frm.laid (o := .lst []) n) (o1.laid n)
    exact ⟨a2.lk, a2.fr, a2.el, Wd.Le.refl _⟩
  · rintro i m H' ⟨rfl, hi, acc, W', vs', a, fr, nF, nd, hD, ra, q⟩
    have g : Same W1.F H' := Same.trans a.lo.sF a.lk.ok.sF
    rcases Nat.lt_or_ge i xs.length with hlt | hge
    · refine .inr ⟨wk.goes i H' hlt g, fun H2 => ∃ acc, Pv acc (fun acc => dComp2 p t w1 p1 t1 e vs1 (wipeD c.ρ vs) c.PX (xs.drop (i + 1)) acc P) H2, fun H2 h2 => ⟨xs.length - (i + 1), by omega, rfl, hlt, h2⟩, fun u H2 y => ?_⟩
      obtain ⟨W2, x, f2, o2, ex, r⟩ := yd_run (wk.yields i H' u H2 hlt g y) a.lk.ok a.lo
      rw [drop_at ex] at q
      have a2 := (a.frm f2 o2).wipe vs
      refine bind_run (c := { c with Wl := W1, W := W2, ρ := wipeD c.ρ vs }) p a2 r q fun ρ3 σ3 a3 w3 q3 so => ⟨(w3 vs hp).trans (wipe_wipe fun _ h => h), ?_⟩
      refine ⟨{ c with Wl := W1, W := W2, ρ := ρ3 }, _, a3, q3, fun W4 H4 b f4 o4 q4 => ?_⟩
      have f24 := f2.trans f4
      cases b with
      | false =>
        rw [if_neg Bool.false_ne_true] at q4
        refine iteF ?_
        exact ⟨acc, W4, vs', a.frm f24 o4, fr.trans f24, f24.nF D _ hD nd trivial nF, f24.ndl hD nd, f24.sH D _ hD nd, ra.le f24.le, q4⟩
      | true =>
        rw [if_pos rfl] at q4
        refine iteT ?_
        refine ⟨{ c with Wl := W1, W := W4, ρ := ρ3 }, _, a3.frm f4 o4, q4, fun W5 H5 J1 ys f5 o5 wk1 q5 => ?_⟩
        have f25 := f24.trans f5
        have a5 : Cn.At K C E { c with Wl := W1, W := W5, ρ := ρ3 } σ3 H5 := (a3.frm f4 o4).frm f5 o5
        -- the inner walk: the outer scene (σ) and the inner one (σ3) go on together
        refine ⟨fun j m H' => m = ys.length - j ∧ j ≤ ys.length ∧ ∃ acc, ∃ W' vs', Cn.At K C E { c with Wl := W1, W := W' } σ H' ∧ Cn.At K C E { c with Wl := W5, W := W', ρ := ρ3 } σ3 H' ∧ Frm c.W H W' H' ∧ W'.F D = none ∧ ¬ W'.dl D ∧ H' D = some (.lst vs') ∧ RpL K W' vs' acc ∧
            dComp1 p1 t1 e (wipeD ρ3 vs1) c.PX (ys.drop j) acc fun acc' => dComp2 p t w1 p1 t1 e vs1 (wipeD c.ρ vs) c.PX (xs.drop (i + 1)) acc' P,
          ⟨ys.length, by simp, Nat.zero_le _, acc, W5, vs', a.frm f25 o5, ⟨a5.lk, a5.fr, a5.el, Wd.Le.refl _⟩, fr.trans f25, f25.nF D _ hD nd trivial nF, f25.ndl hD nd, f25.sH D _ hD nd, ra.le f25.le, q5⟩, ?_⟩
        rintro j m H6 ⟨rfl, hj, acc6, W6, vs6, a6, b6, fr6, nF6, nd6, hD6, ra6, q6⟩
        have g6 : Same W5.F H6 := Same.trans b6.lo.sF b6.lk.ok.sF
        rcases Nat.lt_or_ge j ys.length with hlt6 | hge6
        · refine .inr ⟨wk1.goes j H6 hlt6 g6, fun H' => ∃ acc, ∃ W' vs', Cn.At K C E { c with Wl := W1, W := W' } σ H' ∧ Cn.At K C E { c with Wl := W5, W := W', ρ := ρ3 } σ3 H' ∧ Frm c.W H W' H' ∧ W'.F D = none ∧ ¬ W'.dl D ∧ H' D = some (.lst vs') ∧ RpL K W' vs' acc ∧
            dComp1 p1 t1 e (wipeD ρ3 vs1) c.PX (ys.drop (j + 1)) acc fun acc' => dComp2 p t w1 p1 t1 e vs1 (wipeD c.ρ vs) c.PX (xs.drop (i + 1)) acc' P, fun H2 h2 => ⟨ys.length - (j + 1), by omega, rfl, hlt6, h2⟩, fun u H7 y => ?_⟩
          obtain ⟨W7, x7, f7, o7, ex7, r7⟩ := yd_run (wk1.yields j H6 u H7 hlt6 g6 y) b6.lk.ok b6.lo
          rw [drop_at ex7] at q6
          have b7 := (b6.frm f7 o7).wipe vs1
          refine bind_run (c := { c with Wl := W5, W := W7, ρ := wipeD ρ3 vs1 }) p1 b7 r7 q6 fun ρ8 σ8 b8 w8 q8 _ => ⟨(w8 vs1 hp1).trans (wipe_wipe fun _ h => h), ?_⟩
          refine ⟨{ c with Wl := W5, W := W7, ρ := ρ8 }, _, b8, q8, fun W9 H9 b f9 o9 q9 => ?_⟩
          have f79 := f7.trans f9
          cases b with
          | false =>
            rw [if_neg Bool.false_ne_true] at q9
            refine iteF ?_
            exact ⟨acc6, W9, vs6, a6.frm f79 o9, b6.frm f79 o9, fr6.trans f79, f79.nF D _ hD6 nd6 trivial nF6, f79.ndl hD6 nd6, f79.sH D _ hD6 nd6, ra6.le f79.le, q9⟩
          | true =>
            rw [if_pos rfl] at q9
            refine iteT ?_
            refine ⟨{ c with Wl := W5, W := W9, ρ := ρ8 }, _, b8.frm f9 o9, q9, fun WA HA v y fA oA rA ⟨hz, qA⟩ => ?_⟩
            have f7A := f79.trans fA
            have hDA := f7A.sH D _ hD6 nd6
            have nFA := f7A.nF D _ hD6 nd6 trivial nF6
            have ndA := f7A.ndl hD6 nd6
            have raA := ra6.le f7A.le
            have frA := fr6.trans f7A
            have up : Frm c.W H WA (upd HA D (.lst (vs6 ++ [v]))) := ⟨frA.le, fun b o hb hd => by rw [upd_ne (ne_new hn0 hb)]; exact frA.sH b o hb hd, frA.nF, frA.dn, fun b hb => by
              by_cases e : b = D
              · rw [e]; exact hn0
              · rw [upd_ne e] at hb; exact frA.kp b hb⟩
            refine ⟨vs6, hDA, Nat.lt_of_le_of_lt (by rw [ra6.length]; exact hz) (by decide), acc6 ++ [y], WA, vs6 ++ [v], ?_, ?_, up, nFA, ndA, upd_same, raA.append (.cons rA .nil), qA⟩
            · have au := at_.frm up (oA.change nFA ndA hDA trivial)
              exact ⟨au.lk, au.fr, at_.el, a6.lo.trans f7A.le⟩
            · -- the inner scene: its own things are those of the outer one
              have au := at_.frm up (oA.change nFA ndA hDA trivial)
              have bA := b6.frm f7A oA
              refine ⟨⟨au.lk.ok, bA.lk.len, fun i' s' e' => ?_, bA.lk.sep⟩, au.fr, at_.el, bA.lo⟩
              obtain ⟨o', g1, g2⟩ := bA.lk.sl i' s' e'
              refine ⟨o', g1, ?_⟩
              have ne : ∀ (p : Addr) (s : Sl) , s' = s → own s = true → o' = some (.ref p) → p ≠ D := fun p s es ow eo z => by
                subst es; subst eo; subst z
                obtain ⟨h1, h2⟩ := (SameOwn.wipe (ρ := c.ρ) (σ := σ) vs |>.trans so) i' s' e' ow
                rw [h2] at g1
                obtain ⟨o2, k1, k2⟩ := at_.lk.sl i' s' h1
                rw [k1] at g1
                obtain rfl := Option.some.inj g1
                cases s' with
                | un => cases ow
                | v x => cases ow
                | ol xs' =>
                  obtain ⟨p', vs', e1, _, h', _⟩ := k2
                  obtain rfl := V.ref.inj (Option.some.inj e1)
                  rw [hn0] at h'; cases h'
                | od ps' =>
                  obtain ⟨p', vs', e1, _, h', _⟩ := k2
                  obtain rfl := V.ref.inj (Option.some.inj e1)
                  rw [hn0] at h'; cases h'
                | ob ps' =>
                  obtain ⟨p', vs', _, e1, _, h', _⟩ := k2
                  obtain rfl := V.ref.inj (Option.some.inj e1)
                  rw [hn0] at h'; cases h'
              cases s' with
              | un => trivial
              | v x => exact g2
              | ol xs' => obtain ⟨p', vs', e1, m', h', r'⟩ := g2; exact ⟨p', vs', e1, m', by rw [upd_ne (ne p' _ rfl rfl e1)]; exact h', r'⟩
              | od ps' => obtain ⟨p', h0', e1, m', h', r'⟩ := g2; exact ⟨p', h0', e1, m', by rw [upd_ne (ne p' _ rfl rfl e1)]; exact h', r'⟩
              | ob ps' => obtain ⟨p', h0', ks', e1, m', h', b', r'⟩ := g2; exact ⟨p', h0', ks', e1, m', by rw [upd_ne (ne p' _ rfl rfl e1)]; exact h', b', r'⟩
        · obtain rfl : j = ys.length := by omega
          refine .inl ⟨wk1.stops H6 g6, ?_⟩
          rw [List.drop_length] at q6
          exact ⟨acc6, W6, vs6, a6, fr6, nF6, nd6, hD6, ra6, q6⟩
    · obtain rfl : i = xs.length := by omega
      refine .inl ⟨wk.stops H' g, ?_⟩
      rw [List.drop_length] at q
      exact k W' H' D vs' acc fr a.lk.ok hn0 nF nd hD ra q
theorem ls_lc {i : Nat} {w : DA} {p : Pt} {t : DT} {e : DE} {vs : List Nat} {D : Ends} (hp : ptIn vs p = true) (q : liftS K C E (dAsg (.nm i) (dFz (dLc w p t e vs))) D σ H) : tAsg (tLc (liftI K C E w) (gOf K p) (liftT K C E t) (liftE K C E e) vs) (gName i) D σ H := le_lc hp (le_fz (ls_asg1 q))
theorem ls_lcN {i : Nat} {w : DA} {p : Pt} {t : DT} {e : DE} {vs : List Nat} {D : Ends} (hp : ptIn vs p = true) (q : liftS K C E (dAsgN i (dLc w p t e vs)) D σ H) : tAsg (tLc (liftI K C E w) (gOf K p) (liftT K C E t) (liftE K C E e) vs) (gName i) D σ H := le_lc hp (ls_asgN q)
theorem ls_lc2 {i : Nat} {w w1 : DA} {p p1 : Pt} {t t1 : DT} {e : DE} {vs vs1 : List Nat} {D : Ends} (hp : ptIn vs p = true) (hp1 : ptIn vs1 p1 = true) (hv : ∀ i ∈ vs1, i ∈ vs) (q : liftS K C E (dAsg (.nm i) (dFz (dLc2 w p t w1 p1 t1 e vs vs1))) D σ H) : tAsg (tLc2 (liftI K C E w) (gOf K p) (liftT K C E t) (liftI K C E w1) (gOf K p1) (liftT K C E t1) (liftE K C E e) vs vs1) (gName i) D σ H := le_lc2 hp hp1 hv (le_fz (ls_asg1 q))
end
end Dx
end
section
open PySem L2 RT Sx
local macro_rules | `(tactic| walk_at "s") => `(tactic| first
  | ((with_reducible refine' i_var ?k1 ?_); (case k1 => rfl))
  | with_reducible refine' i_c ?_
  | with_reducible refine' i_op ?_
  | with_reducible refine' i_cons ?_
  | with_reducible refine' i_nil ?_
  | with_reducible refine' i_seq ?_
  | with_reducible refine' i_asg ?_
  | ((with_reducible refine' i_gname ?_); try dsimp -proj only [List.set_cons_zero, List.set_cons_succ])
  | with_reducible refine' i_call ?_
  | with_reducible refine' i_cb ?_
  | with_reducible refine' i_ifS ?_
  | with_reducible refine' i_test ?_
  | with_reducible refine' i_exbl ?_
  | with_reducible refine' i_exnat ?_
  | with_reducible refine' i_ret ?_
  | with_reducible refine' i_drop ?_
  | with_reducible refine' i_next ?_
  | with_reducible refine' i_tB ?_
  | with_reducible refine' i_chain ?_
  | with_reducible refine' i_and ?_
  | with_reducible refine' i_or ?_
  | with_reducible refine' i_not ?_
  | with_reducible refine' i_andV ?_
  | with_reducible refine' i_orV ?_
  | with_reducible refine' i_notV ?_
  | with_reducible refine' i_if ?_
  | with_reducible refine' i_un ?_
  | with_reducible refine' i_negN ?_
  | with_reducible refine' i_addN ?_
  | ((with_reducible refine' i_subN ?k1 ?_); (case k1 => omega))
  | ((with_reducible refine' i_mulN ?k1 ?_); (case k1 => omega))
  | ((with_reducible refine' i_fdN ?k1 ?k2 ?_); (case k1 => omega); (case k2 => omega))
  | ((with_reducible refine' i_mdN ?k1 ?_); (case k1 => omega))
  | ((with_reducible refine' i_pwN ?k1 ?k2 ?_); (case k1 => omega); (case k2 => omega))
  | with_reducible refine' i_ltN ?_
  | with_reducible refine' i_leN ?_
  | with_reducible refine' i_gtN ?_
  | with_reducible refine' i_geN ?_
  | with_reducible refine' i_eqN ?_
  | with_reducible refine' i_neN ?_
  | with_reducible refine' i_bit ?_
  | with_reducible refine' i_tup ?_
  | with_reducible refine' i_lst ?_
  | with_reducible refine' i_bm ?_
  | with_reducible refine' i_bm0 ?_
  | with_reducible refine' i_gsub ?_
  | ((with_reducible refine' i_aug ?k1 ?_); (case k1 => rfl))
  | with_reducible refine' i_sl ?_
  | with_reducible refine' i_nopart ?_
  | with_reducible refine' i_part ?_
  | with_reducible refine' i_yes1 ?_
  | with_reducible refine' i_lcR ?_
  | with_reducible refine' i_lcL ?_
  | with_reducible refine' i_lcT ?_
  | with_reducible refine' i_lct ?_
  | with_reducible refine' i_iteT ?_
  | with_reducible refine' i_iteNT ?_
  | with_reducible refine' i_iteNF ?_
  | with_reducible refine' i_iteF ?_
  | ((with_reducible refine' i_yes ?k1 ?_); (case k1 => omega))
  | ((with_reducible refine' i_nay ?k1 ?_); (case k1 => omega))
  | ((with_reducible refine' i_yesN ?k1 ?_); (case k1 => omega))
  | ((with_reducible refine' i_nayN ?k1 ?_); (case k1 => omega)))
local macro_rules | `(tactic| walk_at "go") => `(tactic| (repeat walk_at "s"; try dsimp -proj only [List.set_cons_zero, List.set_cons_succ]))

namespace Sx
def t__law_dice (K : PySem.W.Frag) : TS := (tSeq (tAsg (tC (natV 0)) (gName 1))
  (tSeq (tFor (iList K (tVar 0)) (gName 2)
  (tAsg (tOp rMd (tOp rAdd (tOp rAdd (tOp rMul (tVar 1) (tC (natV 48271))) (tOp rMul (tOp rMd (tVar 2) (tC (natV 2147483647))) (tC (natV 69621)))) (tC (natV 11))) (tC (natV 2147483647))) (gName 1)))
  (tRet (tLstN (tCons (tVar 0) (tCons (tC (natV 0)) (tCons (tOp rMulW (tVar 1) (tCB rInt1 (tCons (tOp rGt (tCB (rLen K) (tCons (tVar 0) tNil)) (tC (natV 2))) tNil))) (tCons (tC (natV 0)) tNil))))))))
def t__law_next (K : PySem.W.Frag) : TS := (tSeq (tIfS (tTest (tOp rGt (tOp (rIxL K) (tVar 0) (tC (natV 3))) (tC (natV 0)))) (tSeq (tAsg (tOp rMd (tOp (rIxL K) (tVar 0) (tC (natV 3))) (tVar 1)) (gName 2))
  (tSeq (tAsg (tOp rFd (tOp (rIxL K) (tVar 0) (tC (natV 3))) (tVar 1)) (gSub (tVar 0) (tC (natV 3)) rSetL))
  (tRet (tVar 2)))) tNext)
  (tSeq (tAsg (tOp rAdd (tOp (rIxL K) (tVar 0) (tC (natV 1))) (tC (natV 1))) (gSub (tVar 0) (tC (natV 1)) rSetL))
  (tSeq (tIfS (tTest (tOp rLe (tOp (rIxL K) (tVar 0) (tC (natV 1))) (tCB (rLen K) (tCons (tOp (rIxL K) (tVar 0) (tC (natV 0))) tNil)))) (tSeq (tAsg (tOp (rIxL K) (tOp (rIxL K) (tVar 0) (tC (natV 0))) (tOp rSub (tOp (rIxL K) (tVar 0) (tC (natV 1))) (tC (natV 1)))) (gName 3))
  (tSeq (tAsg (tIf (tTest (tOp rGe (tVar 3) (tOp rPw (tC (natV 10)) (tC (natV 18))))) (tOp rFd (tVar 3) (tVar 1)) (tC (natV 0))) (gSub (tVar 0) (tC (natV 3)) rSetL))
  (tRet (tOp rMd (tVar 3) (tVar 1))))) tNext)
  (tSeq (tAsg (tOp rMd (tOp rMul (tOp (rIxL K) (tVar 0) (tC (natV 2))) (tC (natV 48271))) (tC (natV 2147483647))) (gSub (tVar 0) (tC (natV 2)) rSetL))
  (tRet (tOp rMd (tOp rFd (tOp (rIxL K) (tVar 0) (tC (natV 2))) (tC (natV 7))) (tVar 1)))))))
def t__law_like (K : PySem.W.Frag) (sp : Sp) : TS := (tSeq (tIfS (tB (tCB (rIsi K) (tCons (tVar 1) (tCons (tC (.ty "str")) tNil)))) (tRet (tAndV (tCB (rIsi K) (tCons (tVar 0) (tCons (tC (.ty "str")) tNil))) (tOp (rEqD K) (tVar 0) (tVar 1)))) tNext)
  (tSeq (tIfS (tB (tCB (rIsi K) (tCons (tVar 1) (tCons (tC (.ty "int")) tNil)))) (tRet (tAndV (tCB (rIsi K) (tCons (tVar 0) (tCons (tC (.ty "int")) tNil))) (tAndV (tNotV (tCB (rIsi K) (tCons (tVar 0) (tCons (tC (.ty "bool")) tNil)))) (tOp (rEqD K) (tVar 0) (tVar 1))))) tNext)
  (tSeq (tIfS (tTest (tOp rIsN (tVar 1) (tC .non))) (tRet (tOp rIsN (tVar 0) (tC .non))) tNext)
  (tSeq (tIfS (tOr (tTest (tOp rNe (tCB (rIsi K) (tCons (tVar 1) (tCons (tC (.ty "tuple")) tNil))) (tCB (rIsi K) (tCons (tVar 0) (tCons (tC (.ty "tuple")) tNil))))) (tTest (tOp rNe (tCB (rIsi K) (tCons (tVar 1) (tCons (tC (.ty "list")) tNil))) (tCB (rIsi K) (tCons (tVar 0) (tCons (tC (.ty "list")) tNil)))))) (tRet (tC (.bl false))) tNext)
  (tSeq (tIfS (tTest (tOp rNe (tCB (rLen K) (tCons (tVar 0) tNil)) (tCB (rLen K) (tCons (tVar 1) tNil)))) (tRet (tC (.bl false))) tNext)
  (tSeq (tFor (iRng1 (tCons (tCB (rLen K) (tCons (tVar 1) tNil)) tNil)) (gName 2)
  (tIfS (tNot (tB (tCall (sp) [] E0 (tCons (tOp (rIxQ K) (tVar 0) (tVar 2)) (tCons (tOp (rIxQ K) (tVar 1) (tVar 2)) tNil))))) (tRet (tC (.bl false))) tNext))
  (tRet (tC (.bl true)))))))))

theorem rowV_ints (r : List Nat) : rowV r = (r.map fun n : Nat => (n : Int)).map V.int := by
  unfold rowV natV; rw [List.map_map]; rfl
theorem rowV_get {r : List Nat} {i d : Nat} (h : r[i]? = some d) : (rowV r)[i]? = some (natV d) := by
  unfold rowV; rw [List.getElem?_map, h]; rfl
theorem rowV_len (r : List Nat) : (rowV r).length = r.length := by unfold rowV; rw [List.length_map]
theorem rowV_of {r : List Nat} {i : Nat} {x : V} (h : (rowV r)[i]? = some x) : ∃ d, r[i]? = some d ∧ x = natV d := by
  unfold rowV at h; rw [List.getElem?_map] at h
  cases e : r[i]? with
  | none => rw [e] at h; cases h
  | some d => rw [e] at h; exact ⟨d, rfl, (Option.some.inj h).symm⟩
theorem sum_cast (r : List Nat) : (r.map fun n : Nat => (n : Int)).sum = ((r.sum : Nat) : Int) := by
  induction r with
  | nil => rfl
  | cons d r ih => rw [List.map_cons, List.sum_cons, List.sum_cons, ih]; omega
section
variable {K : PySem.W.Frag} {H : Hp} {Q : VK} {a : Addr} {r : List Nat}
theorem i_sumN (h : SqT K H a (rowV r)) (q : Q (natV r.sum) H) : rSumT K [.ref a] H Q :=
  ⟨a, _, rfl, by rw [← rowV_ints]; exact h, by rw [sum_cast]; exact q⟩
theorem i_minN (h : SqT K H a (rowV r)) (hn : r ≠ []) (q : ∀ m, m ∈ r → (∀ y ∈ r, m ≤ y) → Q (natV m) H) : rMinT K [.ref a] H Q :=
  ⟨a, _, rfl, by rw [← rowV_ints]; exact h, by rw [List.length_map]; exact List.length_pos_iff.mpr hn, fun m hm hy => by
    obtain ⟨k, hk, rfl⟩ := List.mem_map.mp hm
    exact q k hk fun y hy' => by have := hy (y : Int) (List.mem_map.mpr ⟨y, hy', rfl⟩); omega⟩
theorem i_maxN (h : SqT K H a (rowV r)) (hn : r ≠ []) (q : ∀ m, m ∈ r → (∀ y ∈ r, y ≤ m) → Q (natV m) H) : rMaxT K [.ref a] H Q :=
  ⟨a, _, rfl, by rw [← rowV_ints]; exact h, by rw [List.length_map]; exact List.length_pos_iff.mpr hn, fun m hm hy => by
    obtain ⟨k, hk, rfl⟩ := List.mem_map.mp hm
    exact q k hk fun y hy' => by have := hy (y : Int) (List.mem_map.mpr ⟨y, hy', rfl⟩); omega⟩
/-- the last item -/
theorem i_ixlast {xs : List V} {v : V} (h : SqT K H a xs) (e : xs.getLast? = some v) (q : Q v H) : rIxT K (.ref a) (.int (-1)) H Q := by
  obtain ⟨ys, rfl⟩ := List.getLast?_eq_some_iff.mp e
  exact i_ixTlast h q
theorem row_ne {r : List Nat} (h : IsRow r) : r ≠ [] := by
  rintro rfl; have := h.len.1; simp at this
abbrev endsOf (Q : VK) : Ends := { nx := fun _ H' => Q .non H', rt := Q }
theorem take_more {α : Type} : ∀ {l : List α} {i : Nat} {x : α}, l[i]? = some x → l.take (i + 1) = l.take i ++ [x]
  | [], i, x, h => by simp at h
  | a :: l, 0, x, h => by
    have e : a = x := Option.some.inj h
    subst e; rfl
  | a :: l, i + 1, x, h => by
    have ih := take_more (l := l) (i := i) (x := x) h
    show a :: l.take (i + 1) = a :: l.take i ++ [x]
    rw [ih]; rfl
theorem whole_take {r : List Nat} {i d : Nat} (h : r[i]? = some d) : whole (r.take (i + 1)) = whole (r.take i) * 60 + d := by
  rw [take_more h, whole_append]
theorem figsL_step {n : Nat} {l : List Nat} {k : Nat} (h : 0 < k) (e : figsL n = l ++ figsL k) : figsL n = (l ++ [k % 60]) ++ figsL (k / 60) := by
  rw [e, figsL_pos h, List.append_assoc]; rfl
theorem rowV_snoc (l : List Nat) (d : Nat) : rowV l ++ [natV d] = rowV (l ++ [d]) := by unfold rowV; rw [List.map_append]; rfl
theorem rowV_rev (l : List Nat) : (rowV l).reverse = rowV l.reverse := by unfold rowV; rw [List.map_reverse]
theorem Same.back {H H' : Hp} {p : Addr} (s : L2.Same H H') (h : H' p = none) : H p = none := by
  cases z : H p with
  | none => rfl
  | some o => rw [s _ _ z] at h; cases h
theorem whole12 {r : List Nat} (h : IsRow r) : whole r < 60 ^ 12 := whole_lt h.fig h.len.2
theorem p12 : 60 ^ 12 < 2 ^ 72 := by decide
/-! the laws' helpers -/
theorem pure__law_dice {vs : List V} {E : XK} (h : sp__law_dice K vs H Q E) : t__law_dice K (endsOf Q) (start ["_law_script", "_law_mixed", "_law_cell"] vs) H := by
  obtain ⟨a, ns, rfl, hr, hl, q⟩ := h
  show t__law_dice K (endsOf Q) [some (.ref a), none, none] H
  unfold t__law_dice
  walk_at "go"
  refine i_for (i_iList ?_)
  walk_at "go"
  refine l_list (K := K) (xs := ns.map V.int) hr (fun i σ H' => ∃ x m, σ = [some (.ref a), some (natV m), x] ∧ m < 2147483647 ∧ H' = H) ⟨none, 0, rfl, by decide, rfl⟩ ?_ ?_ ?_
  · rintro i σ H' _ ⟨x, m, rfl, _, rfl⟩
    exact hr
  · rintro i x σ H' hx ⟨y, m, rfl, hm, rfl⟩
    obtain ⟨z, _, rfl⟩ := List.mem_map.mp (List.mem_of_getElem? hx)
    walk_at "go"
    refine i_mdI (by decide) fun k hk => ?_
    walk_at "go"
    exact ⟨_, _, rfl, Nat.mod_lt _ (by decide), rfl⟩
  · rintro σ H' ⟨x, m, rfl, hm, rfl⟩
    walk_at "go"
    refine i_lenL hr ?_
    walk_at "go"
    have key : ∀ c : Nat, c ≤ 1 → m * c < 2147483647 := fun c hc => by
      rcases Nat.le_one_iff_eq_zero_or_eq_one.mp hc with rfl | rfl <;> omega
    refine i_mulWN (m := 31) (n := 1) (by omega) (by split <;> omega) (by decide) (by decide) (by decide) ?_
    walk_at "go"
    refine ⟨szl (by simp), fun d H1 nd s hd => ?_⟩
    exact q d H1 nd s ⟨0, _, 0, hd, key _ (by split <;> omega)⟩
theorem pure__law_next {vs : List V} {E : XK} (h : sp__law_next K vs H Q E) : t__law_next K (endsOf Q) (start ["_law_dice_here", "_law_many", "_law_found", "_law_cell"] vs) H := by
  obtain ⟨d, m, rfl, D, h0, hm, q⟩ := h
  obtain ⟨sc, ⟨i, x, c, hd, hx⟩, ns, hl, hs⟩ := id D
  show t__law_next K (endsOf Q) [some (.ref d), some (natV m), none, none] H
  unfold t__law_next
  have drew : ∀ (i' x' c' : Nat), x' < 2147483647 → ∀ H', SB d H H' → H' d = some (.lst [.ref sc, natV i', natV x', natV c']) → Drew d H H' := fun i' x' c' hx' H' s e => ⟨s, fun sc2 ⟨_, _, _, e2, _⟩ => by
    rw [hd] at e2
    cases e2
    exact ⟨i', x', c', e, hx'⟩⟩
  walk_at "go"
  refine i_ixL (sql hd) rfl ?_
  walk_at "go"
  refine i_ite (fun hc => ?_) (fun hc => ?_)
  · walk_at "go"
    refine i_ixL (sql hd) rfl ?_
    walk_at "go"
    refine i_ixL (sql hd) rfl ?_
    walk_at "go"
    refine i_setL hd (by simp) ?_
    walk_at "go"
    exact q _ _ (Nat.mod_lt _ h0) (drew i x (c / m) hx _ (SB.upd _ _ _) upd_same)
  · walk_at "go"
    refine i_ixL (sql hd) rfl ?_
    walk_at "go"
    refine i_setL hd (by simp) ?_
    walk_at "go"
    have s1 : SB d H (upd H d (.lst [.ref sc, natV (i + 1), natV x, natV c])) := SB.upd _ _ _
    have e1 : (upd H d (.lst [.ref sc, natV (i + 1), natV x, natV c])) d = some (.lst [.ref sc, natV (i + 1), natV x, natV c]) := upd_same
    generalize upd H d (.lst [.ref sc, natV (i + 1), natV x, natV c]) = H1 at s1 e1 ⊢
    have hs1 := hs H1 s1
    refine i_ixL (sql e1) rfl ?_
    walk_at "go"
    refine i_ixL (sql e1) rfl ?_
    walk_at "go"
    refine i_lenL hs1 ?_
    rw [List.length_map]
    walk_at "go"
    refine i_ite (fun hc2 => ?_) (fun hc2 => ?_)
    · walk_at "go"
      refine i_ixL (sql e1) rfl ?_
      walk_at "go"
      refine i_ixL (sql e1) rfl ?_
      walk_at "go"
      obtain ⟨z, hz⟩ : ∃ z, ns[i + 1 - 1]? = some z := ⟨_, List.getElem?_eq_getElem (by omega)⟩
      refine i_ixL hs1 (v := .int z) (by rw [List.getElem?_map, hz]; rfl) ?_
      walk_at "go"
      refine i_geIN ?_
      walk_at "go"
      have fin : ∀ (c' : Nat), rMd (.int z) (natV m) (upd H1 d (.lst [.ref sc, natV (i + 1), natV x, natV c'])) Q := fun c' =>
        i_mdI h0 fun k hk => q _ _ hk (drew (i + 1) x c' hx _ (s1.trans (SB.upd _ _ _)) upd_same)
      refine i_ite (fun hb => ?_) (fun hb => ?_)
      · walk_at "go"
        obtain ⟨y, rfl⟩ : ∃ y : Nat, z = (y : Int) := ⟨z.toNat, by omega⟩
        refine i_fdN (a := y) h0 hm ?_
        walk_at "go"
        refine i_setL e1 (by simp) ?_
        walk_at "go"
        exact fin _
      · walk_at "go"
        refine i_setL e1 (by simp) ?_
        walk_at "go"
        exact fin _
    · walk_at "go"
      refine i_ixL (sql e1) rfl ?_
      walk_at "go"
      refine i_setL e1 (by simp) ?_
      walk_at "go"
      refine i_ixL (sql upd_same) rfl ?_
      walk_at "go"
      exact q _ _ (Nat.mod_lt _ h0) (drew (i + 1) _ c (Nat.mod_lt _ (by decide)) _ (s1.trans (SB.upd _ _ _)) upd_same)
/-- figures, the noughts ahead dropped -/
def dropZ : List Nat → List Nat
  | [] => []
  | d :: r => if d = 0 then dropZ r else d :: r
theorem dropZ_figs (n : Nat) (h : 0 < n) : dropZ (figsL n) = figsL (strip n) := by
  induction n using Nat.strongRecOn with
  | ind n ih =>
    rw [figsL_pos h]
    by_cases e : n % 60 = 0
    · show (if n % 60 = 0 then _ else _) = _
      rw [if_pos e, ih (n / 60) (by omega) (by omega), strip_yes h e]
    · show (if n % 60 = 0 then _ else _) = _
      rw [if_neg e, strip_no h e, figsL_pos h]
theorem i_eqDN {k j : Nat} (q : Q (.bl (decide (k = j))) H) : rEqD K (natV k) (natV j) H Q := by
  refine ⟨.int k, .int j, .int _, .int _, rfl, rfl, ?_⟩
  have e : PyData.eqv (.int (k : Int)) (.int (j : Int)) = decide (k = j) := by
    rw [PyData.eqv]
    by_cases h : k = j
    · subst h; simp
    · rw [decide_eq_false h, beq_eq_false_iff_ne]; omega
  rw [e]; exact q
theorem pow_le9 {p a : Nat} (hp : 1 ≤ p) (h : a ≤ 9) : p ^ a ≤ p ^ 9 := Nat.pow_le_pow_right hp h
theorem smooth_lt {a b c : Nat} (ha : a ≤ 9) (hb : b ≤ 9) (hc : c ≤ 9) : 2 ^ a * 3 ^ b * 5 ^ c < 2 ^ 60 :=
  Nat.lt_of_le_of_lt (Nat.mul_le_mul (Nat.mul_le_mul (pow_le9 (by decide) ha) (pow_le9 (by decide) hb)) (pow_le9 (by decide) hc)) (by decide)
/-- one draw -/
theorem i_draw {d : Addr} {m : Nat} {E : XK} (D : Dice K H d) (h0 : 0 < m := by decide) (h1 : m < 1073741824 := by decide) (q : ∀ n H', n < m → Drew d H H' → Q (natV n) H') : sp__law_next K ([.ref d, natV m] ++ []) H Q E := ⟨d, m, rfl, D, h0, h1, q⟩
theorem getLast_take {α : Type} {l : List α} {n : Nat} (h : l ≠ []) (hn : 1 ≤ n) : l.take n ≠ [] := by
  cases l with
  | nil => exact absurd rfl h
  | cons x r =>
    cases n with
    | zero => omega
    | succ n => simp
theorem rowV_take (r : List Nat) (n : Nat) : (rowV r).take n = rowV (r.take n) := by unfold rowV; rw [List.map_take]
theorem rowV_last {r : List Nat} {x : Nat} (h : r.getLast? = some x) : (rowV r).getLast? = some (natV x) := by unfold rowV; rw [List.getLast?_map, h]; rfl
theorem row_130 : IsRow [1, 30] := ⟨by decide, by decide, by decide, by decide⟩
theorem drawn_row {r : List Nat} {m x : Nat} (h1 : ∀ d ∈ r, d < 60) (h2 : r ≠ []) (h3 : r[0]? ≠ some 0) (hm : 1 ≤ m) (hm2 : m ≤ 12) (hx : (r.take m).getLast? = some x) (h0 : 0 < x) : IsRow (r.take m) := by
  have hne := getLast_take h2 hm
  refine ⟨⟨List.length_pos_iff.mpr hne, by rw [List.length_take]; omega⟩, fun d hd => h1 d (List.mem_of_mem_take hd), ?_, ?_⟩
  · rw [List.getElem?_take]
    rw [if_pos (by omega)]; exact h3
  · rw [hx]; intro e
    have := Option.some.inj e
    omega
theorem isRow_one {n : Nat} (h : 0 < n) (hl : n ≤ 60) : IsRow (rowOf n) ∧ (rowOf n).length = 1 := by
  have key : ∀ k : Fin 60, IsRow (rowOf (k.val + 1)) ∧ (rowOf (k.val + 1)).length = 1 := by
    intro k
    have h1 : IsRow (rowOf (k.val + 1)) := isRow_small (by omega) (Nat.lt_of_le_of_lt (Nat.succ_le_of_lt k.isLt) (by decide))
    refine ⟨h1, ?_⟩
    revert k; intro k _
    have : ∀ k : Fin 60, (rowOf (k.val + 1)).length = 1 := by decide +kernel
    exact this k
  have := key ⟨n - 1, by omega⟩
  rw [show n - 1 + 1 = n by omega] at this
  exact this
theorem smooth_row_lt {a b c k : Nat} (ha : a ≤ 9) (hb : b ≤ 9) (hc : c ≤ 9) (hk : k ≤ 49) : 2 ^ a * 3 ^ b * 5 ^ c * k < 60 ^ 200 := by
  have h1 := smooth_lt ha hb hc
  calc 2 ^ a * 3 ^ b * 5 ^ c * k ≤ 2 ^ 60 * 49 := Nat.mul_le_mul (by omega) hk
    _ < 60 ^ 200 := by decide
theorem rowOf_spec {n : Nat} (h : 0 < n) : (∀ d ∈ rowOf n, d < 60) ∧ rowOf n ≠ [] ∧ (rowOf n)[0]? ≠ some 0 := by
  have h1 := (strip_spec n h).1
  refine ⟨figs_lt _, ?_, figs_head h1⟩
  intro e
  have := figs_len1 h1
  have e2 : figs (strip n) = [] := e
  rw [e2] at this; simp at this
/-! likeness -/
theorem ty_list {xs : List V} (h : SqL K H a xs) : TyX K H (.ref a) (.type "list") := by
  rcases h with (h | ⟨o, h⟩) | ⟨o, its, n, h2, h3, _⟩
  · exact .base (.lst h)
  · exact .base (.frz h)
  · exact .kList h2 h3
theorem ty_tup {xs : List V} (h : SqT K H a xs) : TyX K H (.ref a) (.type "tuple") := by
  rcases h with (h | ⟨o, h⟩) | ⟨o, its, n, h2, h3, _⟩
  · exact .base (.tup h)
  · exact .fTuple h
  · exact .kTuple h2 h3
theorem i_isi {x : V} {t c : String} {b : Bool} (h : TyX K H x (.type t)) (e : kitB t c = some b) (q : Q (.bl b) H) : rIsi K [x, .ty c] H Q := ⟨x, .ty c, .type t, .type c, b, rfl, .ty c, h, kit_ty e, q⟩
theorem i_isNref {b : Addr} (q : Q (.bl false) H) : rIsN (.ref b) .non H Q := ⟨rfl, by rw [decide_eq_false (by intro h; cases h)]; exact q⟩
theorem i_isNint {b : Nat} (q : Q (.bl false) H) : rIsN (natV b) .non H Q := ⟨rfl, by rw [decide_eq_false (by intro h; cases h)]; exact q⟩
theorem i_isNnon (q : Q (.bl true) H) : rIsN .non .non H Q := ⟨rfl, by rw [decide_eq_true rfl]; exact q⟩
theorem i_neBB {b : Bool} (q : Q (.bl false) H) : rNe (.bl b) (.bl b) H Q := ⟨rfl, by rw [decide_eq_true rfl]; exact q⟩
theorem dpAll_len : ∀ {xs : List V} {ds : List PyData}, DpAll K H xs ds → xs.length = ds.length
  | _, _, .nil => rfl
  | _, _, .cons _ h => by rw [List.length_cons, List.length_cons, dpAll_len h]
theorem dpAll_get : ∀ {xs : List V} {ds : List PyData} {i : Nat} {d : PyData}, DpAll K H xs ds → ds[i]? = some d → ∃ x, xs[i]? = some x ∧ Dp K H x d
  | _, _, i, d, .nil, h => by simp at h
  | _, _, 0, d, .cons h _, e => by
    obtain rfl := Option.some.inj e
    exact ⟨_, rfl, h⟩
  | _, _, i + 1, d, .cons _ h, e => dpAll_get (i := i) h e
theorem like_loop {n : Nat} {x y : V} {ds : List PyData} {D : Ends} {z : Option V} (hx : ∃ a xs, x = .ref a ∧ (SqL K H a xs ∨ SqT K H a xs) ∧ DpAll K H xs ds) (hy : ∃ a xs, y = .ref a ∧ (SqL K H a xs ∨ SqT K H a xs) ∧ DpAll K H xs ds)
    (hp : ∀ d ∈ ds, plainD n d) (hz : ds.length < 2 ^ 62) (q : ∀ z, D.nx [some x, some y, z] H) :
    tFor (iRng1 (tCons (tCB (rLen K) (tCons (tVar 1) tNil)) tNil)) (gName 2)
      (tIfS (tNot (tB (tCall (spLike K (n + 1)) [] E0 (tCons (tOp (rIxQ K) (tVar 0) (tVar 2)) (tCons (tOp (rIxQ K) (tVar 1) (tVar 2)) tNil))))) (tRet (tC (.bl false))) tNext) D [some x, some y, z] H := by
  obtain ⟨a, xs, rfl, ha, da⟩ := hx
  obtain ⟨b, ys, rfl, hb, db⟩ := hy
  have ix : ∀ {a : Addr} {xs : List V} {i : Nat} {v : V} {Q : VK}, (SqL K H a xs ∨ SqT K H a xs) → xs[i]? = some v → Q v H → rIxQ K (.ref a) (natV i) H Q := fun h e q => by
    rcases h with h | h
    · exact .inl (i_ixL h e q)
    · exact .inr (i_ixT h e q)
  refine i_for (i_iRng1 ?_)
  walk_at "go"
  refine ⟨b, ys, rfl, hb, ?_⟩
  rw [dpAll_len db]
  refine l_rng1 hz (fun i σ H' => ∃ z, σ = [some (.ref a), some (.ref b), z] ∧ H' = H) ⟨z, rfl, rfl⟩ ?_ ?_
  · rintro i σ H' hi ⟨z, rfl, rfl⟩
    walk_at "go"
    have hd : ds[i]? = some ds[i] := List.getElem?_eq_getElem hi
    obtain ⟨u, hu, du⟩ := dpAll_get da hd
    obtain ⟨w, hw, dw⟩ := dpAll_get db hd
    refine ix ha hu ?_
    walk_at "go"
    refine ix hb hw ?_
    refine ⟨u, w, ds[i], rfl, du, dw, hp _ (List.getElem_mem hi), ?_⟩
    walk_at "go"
    exact ⟨_, rfl, rfl⟩
  · rintro σ H' ⟨z, rfl, rfl⟩
    exact q z
theorem pure__law_like {vs : List V} {E : XK} {n : Nat} (h : spLike K (n + 1) vs H Q E) : t__law_like K (spLike K n) (endsOf Q) (start ["_law_found", "_law_due", "_law_k"] vs) H := by
  obtain ⟨x, y, D, rfl, hx, hy, hp, q⟩ := h
  show t__law_like K (spLike K n) (endsOf Q) [some x, some y, none] H
  unfold t__law_like
  cases D with
  | none =>
    cases hx; cases hy
    walk_at "go"
    refine i_isi (.base .non) (b := false) (by decide +kernel) ?_
    walk_at "go"
    refine i_isi (.base .non) (b := false) (by decide +kernel) ?_
    walk_at "go"
    refine i_isNnon ?_
    walk_at "go"
    refine i_isNnon ?_
    exact q
  | bool b => exact (by cases n <;> exact hp.elim)
  | int i =>
    cases hx; cases hy
    walk_at "go"
    refine i_isi (.base (.int i)) (b := false) (by decide +kernel) ?_
    walk_at "go"
    refine i_isi (.base (.int i)) (b := true) (by decide +kernel) ?_
    walk_at "go"
    refine i_isi (.base (.int i)) (b := true) (by decide +kernel) ?_
    refine ⟨_, rfl, i_iteT ?_⟩
    walk_at "go"
    refine i_isi (.base (.int i)) (b := false) (by decide +kernel) ?_
    refine ⟨_, rfl, ?_⟩
    refine ⟨_, rfl, i_iteT ?_⟩
    walk_at "go"
    refine ⟨.int i, .int i, .int i, .int i, rfl, rfl, ?_⟩
    rw [show PyData.eqv (.int i) (.int i) = true by simp [PyData.eqv]]
    exact q
  | str z =>
    cases hx; cases hy
    have hz : PyData.canLay0 (.str z) = true := by cases n <;> exact hp
    walk_at "go"
    refine i_isi (.base (.str z)) (b := true) (by decide +kernel) ?_
    walk_at "go"
    refine i_isi (.base (.str z)) (b := true) (by decide +kernel) ?_
    refine ⟨_, rfl, i_iteT ?_⟩
    walk_at "go"
    have hsh : SeqAt.shaped (.str z) = true := by simp [SeqAt.shaped, PyData.depth, hz]
    refine ⟨.str z, .str z, .str z, .str z, hsh, hsh, ?_⟩
    rw [show PyData.eqv (.str z) (.str z) = true by simp [PyData.eqv]]
    exact q
  | list ds =>
    cases n with
    | zero => exact hp.elim
    | succ n =>
      obtain ⟨hz, hp⟩ := hp
      cases hx with
      | lst h1 h2 =>
        cases hy with
        | lst h3 h4 =>
          walk_at "go"
          refine i_isi (ty_list h3) (b := false) (by decide +kernel) ?_
          walk_at "go"
          refine i_isi (ty_list h3) (b := false) (by decide +kernel) ?_
          walk_at "go"
          refine i_isNref ?_
          walk_at "go"
          refine i_isi (ty_list h3) (b := false) (by decide +kernel) ?_
          walk_at "go"
          refine i_isi (ty_list h1) (b := false) (by decide +kernel) ?_
          refine i_neBB ?_
          walk_at "go"
          refine i_isi (ty_list h3) (b := true) (by decide +kernel) ?_
          walk_at "go"
          refine i_isi (ty_list h1) (b := true) (by decide +kernel) ?_
          refine i_neBB ?_
          walk_at "go"
          refine i_lenL h1 ?_
          walk_at "go"
          refine i_lenL h3 ?_
          rw [dpAll_len h2, dpAll_len h4]
          walk_at "go"
          refine like_loop (n := n) ⟨_, _, rfl, .inl h1, h2⟩ ⟨_, _, rfl, .inl h3, h4⟩ hp (by omega) fun z => ?_
          walk_at "go"
          exact q
  | tuple ds =>
    cases n with
    | zero => exact hp.elim
    | succ n =>
      obtain ⟨hz, hp⟩ := hp
      cases hx with
      | tup h1 h2 =>
        cases hy with
        | tup h3 h4 =>
          walk_at "go"
          refine i_isi (ty_tup h3) (b := false) (by decide +kernel) ?_
          walk_at "go"
          refine i_isi (ty_tup h3) (b := false) (by decide +kernel) ?_
          walk_at "go"
          refine i_isNref ?_
          walk_at "go"
          refine i_isi (ty_tup h3) (b := true) (by decide +kernel) ?_
          walk_at "go"
          refine i_isi (ty_tup h1) (b := true) (by decide +kernel) ?_
          refine i_neBB ?_
          walk_at "go"
          refine i_isi (ty_tup h3) (b := false) (by decide +kernel) ?_
          walk_at "go"
          refine i_isi (ty_tup h1) (b := false) (by decide +kernel) ?_
          refine i_neBB ?_
          walk_at "go"
          refine i_lenT h1 ?_
          walk_at "go"
          refine i_lenT h3 ?_
          rw [dpAll_len h2, dpAll_len h4]
          walk_at "go"
          refine like_loop (n := n) ⟨_, _, rfl, .inr h1, h2⟩ ⟨_, _, rfl, .inr h3, h4⟩ hp (by omega) fun z => ?_
          walk_at "go"
          exact q
  | dict kvs => exact (by cases n <;> exact hp.elim)
end
end Sx
end
section
/-! readings over data, step by step -/
namespace Dx
open PySem L2 RT Sx
section
variable {X : DX} {ρ : Env} {P : Dt → Prop} {PA : List Dt → Prop} {PB : Bool → Prop} {D : DEnds} {a b c e : DE} {t u : DT} {s r : DS} {dA : DA} {f g : D2} {x y : Dt} {i : Nat} {xs ys : List Dt}
theorem d_var (h : ρ[i]? = some (.v x)) (q : P x) : dVar i X ρ P := ⟨x, h, q⟩
theorem d_c (q : P x) : dC x X ρ P := q
theorem d_op (q : a X ρ fun x => b X ρ fun y => f x y P) : dOp f a b X ρ P := q
theorem d_un {h : D1} (q : a X ρ fun x => h x P) : dUn h a X ρ P := q
theorem d_chain (q : a X ρ fun x => b X ρ fun y => f x y fun z => ∃ k, z = .bl k ∧ (if k = true then c X ρ fun w => g y w P else P (.bl false))) : dChain f g a b c X ρ P := q
theorem d_nil (q : PA []) : dNil X ρ PA := q
theorem d_cons (q : a X ρ fun x => dA X ρ fun xs => PA (x :: xs)) : dCons a dA X ρ PA := q
theorem d_seq (q : s { D with nx := r D X } X ρ) : dSeq s r D X ρ := q
theorem d_asg1 (q : a X ρ fun x => D.nx (ρ.set i (.v x))) : dAsg (.nm i) a D X ρ := q
theorem d_asg {p : Pt} (q : a X ρ fun x => bindD p x ρ D.nx) : dAsg p a D X ρ := q
theorem d_asgN {n : DN} (q : n X ρ fun xs => D.nx (ρ.set i (.ol xs))) : dAsgN i n D X ρ := q
theorem d_bnm {N : Env → Prop} (q : N (ρ.set i (.v x))) : bindD (.nm i) x ρ N := q
theorem d_btp {N : Env → Prop} {ps : List Pt} (q : bindDs ps xs ρ N) : bindD (.tp ps) (.tup xs) ρ N := ⟨xs, rfl, q⟩
theorem d_bcons {N : Env → Prop} {p : Pt} {ps : List Pt} (q : bindD p x ρ fun ρ' => bindDs ps xs ρ' N) : bindDs (p :: ps) (x :: xs) ρ N := ⟨x, xs, rfl, q⟩
theorem d_bnil {N : Env → Prop} (q : N ρ) : bindDs [] [] ρ N := ⟨rfl, q⟩
theorem d_slO {l h : DO} {PN : List Dt → Prop} (hh : ρ[i]? = some (.ol xs)) (q : l X ρ fun lo => h X ρ fun hi => PN (cutD xs lo hi)) : dSlO i l h X ρ PN := ⟨xs, hh, q⟩
theorem d_lenO (hh : ρ[i]? = some (.ol xs)) (q : P (nat xs.length)) : dLenO i X ρ P := ⟨xs, hh, q⟩
theorem d_rev (q : a X ρ fun x => revA x PA) : dRev a X ρ PA := q
theorem d_exrevL (q : PA xs.reverse) : revA (.lst xs) PA := ⟨xs, .inl rfl, q⟩
theorem d_exrevT (q : PA xs.reverse) : revA (.tup xs) PA := ⟨xs, .inr rfl, q⟩
theorem d_lc {w : DA} {p : Pt} {vs : List Nat} (q : w X ρ fun xs => dComp p t e (wipeD ρ vs) X xs [] PA) : dLc w p t e vs X ρ PA := q
theorem d_rng1 (q : dA X ρ fun xs => rngA xs PA) : dRng1 dA X ρ PA := q
theorem d_rng2 (q : dA X ρ fun xs => rngB xs PA) : dRng2 dA X ρ PA := q
theorem d_frz {s' : Sl} (h : ρ[i]? = some s') (q : s D X (ρ.set i (frzS s'))) : dFrz i s D X ρ := ⟨s', h, q⟩
theorem d_lnil {p : Pt} (q : D.nx ρ) : dLoop p s D X [] ρ := q
theorem d_lcons {p : Pt} (q : bindD p x ρ fun ρ' => s { D with nx := dLoop p s D X xs, ct := dLoop p s D X xs, bk := D.nx } X ρ') : dLoop p s D X (x :: xs) ρ := q
theorem d_raise {k : Nat} (q : dA X ρ fun xs => xs.length = (fldsOf k).length ∧ X k xs) : dRaise k dA D X ρ := q
theorem d_cb {h : DL} (q : dA X ρ fun xs => h xs P) : dCB h dA X ρ P := q
theorem d_callX {d : DSp} (q : dA X ρ fun xs => d xs P X) : dCallX d dA X ρ P := q
theorem d_call0 {d : DSp} (q : dA X ρ fun xs => d xs P none_) : dCall0 d dA X ρ P := q
theorem d_ifS (q : t X ρ fun k => if k = true then s D X ρ else r D X ρ) : dIfS t s r D X ρ := q
theorem d_B (q : a X ρ fun x => ∃ k, x = .bl k ∧ PB k) : dB a X ρ PB := q
theorem d_exbl {A : Bool → Prop} {k : Bool} (q : A k) : ∃ k', Dt.bl k = .bl k' ∧ A k' := ⟨k, rfl, q⟩
theorem d_exint {A : Int → Prop} {k : Int} (q : A k) : ∃ k', Dt.int k = .int k' ∧ A k' := ⟨k, rfl, q⟩
theorem d_exsT {A : List Dt → Prop} (q : A xs) : ∃ ys, Dt.tup xs = .tup ys ∧ A ys := ⟨xs, rfl, q⟩
theorem d_exsL {A : List Dt → Prop} (q : A xs) : ∃ ys, Dt.lst xs = .lst ys ∧ A ys := ⟨xs, rfl, q⟩
theorem d_ret (q : a X ρ D.rt) : dRet a D X ρ := q
theorem d_drop (q : a X ρ fun _ => D.nx ρ) : dDrop a D X ρ := q
theorem d_next (q : D.nx ρ) : dNext D X ρ := q
theorem d_and (q : t X ρ fun k => if k = true then u X ρ PB else PB false) : dAnd t u X ρ PB := q
theorem d_or (q : t X ρ fun k => if k = true then PB true else u X ρ PB) : dOr t u X ρ PB := q
theorem d_not (q : t X ρ fun k => PB (!k)) : dNot t X ρ PB := q
theorem d_andV (q : a X ρ fun x => ∃ k, x = .bl k ∧ (if k = true then b X ρ P else P (.bl false))) : dAndV a b X ρ P := q
theorem d_orV (q : a X ρ fun x => ∃ k, x = .bl k ∧ (if k = true then P (.bl true) else b X ρ P)) : dOrV a b X ρ P := q
theorem d_notV (q : a X ρ fun x => ∃ k, x = .bl k ∧ P (.bl (!k))) : dNotV a X ρ P := q
theorem d_if (q : t X ρ fun k => if k = true then a X ρ P else b X ρ P) : dIf t a b X ρ P := q
theorem d_fz {n : DN} (q : n X ρ fun xs => P (.lst xs)) : dFz n X ρ P := q
theorem d_tup (h : ∀ xs : List Dt, True) (q : dA X ρ fun xs => xs.length ≤ 100000 ∧ P (.tup xs)) : dTup dA X ρ P := q
theorem d_tupQ (q : dA X ρ fun xs => xs.length ≤ 100000 ∧ P (.tup xs)) : dTup dA X ρ P := q
theorem d_lstQ (q : dA X ρ fun xs => xs.length ≤ 100000 ∧ PA xs) : dLst dA X ρ PA := q
theorem d_sz {A : Prop} (h : xs.length ≤ 100000) (q : A) : xs.length ≤ 100000 ∧ A := ⟨h, q⟩
theorem d_aug (h : ρ[i]? = some (.v x)) (q : a X ρ fun y => f x y fun z => D.nx (ρ.set i (.v z))) : dAug i f a D X ρ := ⟨x, h, q⟩
theorem d_slT {l h : DO} (q : a X ρ fun x => l X ρ fun lo => h X ρ fun hi => ∃ xs, x = .tup xs ∧ P (.tup (cutD xs lo hi))) : dSlT a l h X ρ P := q
theorem d_slL {l h : DO} (q : a X ρ fun x => l X ρ fun lo => h X ρ fun hi => ∃ xs, x = .lst xs ∧ PA (cutD xs lo hi)) : dSlL a l h X ρ PA := q
theorem d_nopart {PO : Option Int → Prop} (q : PO none) : dNoPart X ρ PO := q
theorem dw_part {PO : Option Int → Prop} (q : a X ρ fun x => ∃ i, x = .int i ∧ PO (some i)) : dPart a X ρ PO := q
theorem d_yes1 (q : PB true) : dYes X ρ PB := q
theorem d_itT (q : a X ρ fun x => ∃ xs, x = .tup xs ∧ PA xs) : dItT a X ρ PA := q
theorem d_itK (q : a X ρ fun x => ∃ xs, x = .ktup xs ∧ PA xs) : dItK a X ρ PA := q
theorem d_exsK {A : List Dt → Prop} (q : A xs) : ∃ ys, Dt.ktup xs = .ktup ys ∧ A ys := ⟨xs, rfl, q⟩
theorem d_itL (q : a X ρ fun x => ∃ xs, x = .lst xs ∧ PA xs) : dItL a X ρ PA := q
theorem d_for {w : DA} {p : Pt} (q : w X ρ fun xs => dLoop p s D X xs ρ) : dFor w p s D X ρ := q
theorem d_tupL (q : P (.tup xs)) : dTupOf [.lst xs] P := .inl ⟨xs, rfl, q⟩
theorem d_tupT (q : P (.tup xs)) : dTupOf [.tup xs] P := .inr ⟨xs, rfl, q⟩
theorem d_lenT (q : P (nat xs.length)) : dLen [.tup xs] P := ⟨_, _, rfl, rfl, q⟩
theorem d_lenL (q : P (nat xs.length)) : dLen [.lst xs] P := ⟨_, _, rfl, rfl, q⟩
/-! whole numbers -/
variable {m n : Nat} {k j : Int}
theorem cast_int {i j : Int} (e : i = j) (q : P (.int i)) : P (.int j) := e ▸ q
theorem d_addN (q : P (nat (m + n))) : dAdd (nat m) (nat n) P := ⟨m, n, rfl, rfl, trivial, cast_int (Int.natCast_add m n) q⟩
theorem d_subN (h : n ≤ m) (q : P (nat (m - n))) : dSub (nat m) (nat n) P := ⟨m, n, rfl, rfl, trivial, cast_int (Int.ofNat_sub h) q⟩
theorem d_subI (q : P (.int ((m : Int) - (n : Int)))) : dSub (nat m) (nat n) P := ⟨m, n, rfl, rfl, trivial, q⟩
theorem d_mulN {p q' : Nat} (h1 : m < 2 ^ p) (h2 : n < 2 ^ q') (h3 : 0 < p) (h4 : 0 < q') (h5 : p + q' ≤ 1000000) (q : P (nat (m * n))) : dMul (nat m) (nat n) P :=
  ⟨m, n, rfl, rfl, wide_mul (by simpa using h1) (by simpa using h2) h3 h4 h5, cast_int (Int.natCast_mul m n) q⟩
theorem d_mulB (h1 : m.log2 < 400000) (h2 : n.log2 < 400000) (q : P (nat (m * n))) : dMul (nat m) (nat n) P := ⟨m, n, rfl, rfl, by
  show (m : Int).natAbs.log2 + (n : Int).natAbs.log2 < 1000000
  rw [Int.natAbs_natCast, Int.natAbs_natCast]; omega, cast_int (Int.natCast_mul m n) q⟩
theorem d_mulL (h1 : m < 2 ^ 250) (h2 : n < 2 ^ 250) (q : P (nat (m * n))) : dMul (nat m) (nat n) P := d_mulN (p := 250) (q' := 250) h1 h2 (by decide) (by decide) (by decide) q
theorem d_fdN (h : 0 < n) (h2 : n < 2 ^ 250) (q : P (nat (m / n))) : dFd (nat m) (nat n) P := ⟨m, n, rfl, rfl, wide_div (b := 250) (by omega) (by simpa using h2) (by decide) (by decide), cast_int (Int.natCast_ediv m n) q⟩
theorem d_fdB (h : 0 < n) (h2 : n.log2 < 9000) (q : P (nat (m / n))) : dFd (nat m) (nat n) P := ⟨m, n, rfl, rfl, ⟨by omega, by rw [Int.natAbs_natCast]; exact h2⟩, cast_int (Int.natCast_ediv m n) q⟩
theorem d_mdN (h : 0 < n) (q : P (nat (m % n))) : dMd (nat m) (nat n) P := ⟨m, n, rfl, rfl, by show (0 : Int) < n; omega, cast_int (Int.natCast_emod m n) q⟩
theorem d_ltN (q : P (.bl (decide (m < n)))) : dLt (nat m) (nat n) P := ⟨m, n, rfl, rfl, trivial, by dsimp only; rw [show decide ((m : Int) < (n : Int)) = decide (m < n) by congr 1; exact propext Int.ofNat_lt]; exact q⟩
theorem d_leN (q : P (.bl (decide (m ≤ n)))) : dLe (nat m) (nat n) P := ⟨m, n, rfl, rfl, trivial, by dsimp only; rw [show decide ((m : Int) ≤ (n : Int)) = decide (m ≤ n) by congr 1; exact propext Int.ofNat_le]; exact q⟩
theorem d_gtN (q : P (.bl (decide (n < m)))) : dGt (nat m) (nat n) P := ⟨m, n, rfl, rfl, trivial, by dsimp only; rw [show decide ((n : Int) < (m : Int)) = decide (n < m) by congr 1; exact propext Int.ofNat_lt]; exact q⟩
theorem d_geN (q : P (.bl (decide (n ≤ m)))) : dGe (nat m) (nat n) P := ⟨m, n, rfl, rfl, trivial, by dsimp only; rw [show decide ((n : Int) ≤ (m : Int)) = decide (n ≤ m) by congr 1; exact propext Int.ofNat_le]; exact q⟩
theorem d_ltI (q : P (.bl (decide (k < j)))) : dLt (.int k) (.int j) P := ⟨k, j, rfl, rfl, trivial, q⟩
theorem d_leI (q : P (.bl (decide (k ≤ j)))) : dLe (.int k) (.int j) P := ⟨k, j, rfl, rfl, trivial, q⟩
theorem d_gtI (q : P (.bl (decide (j < k)))) : dGt (.int k) (.int j) P := ⟨k, j, rfl, rfl, trivial, q⟩
theorem d_geI (q : P (.bl (decide (j ≤ k)))) : dGe (.int k) (.int j) P := ⟨k, j, rfl, rfl, trivial, q⟩
theorem dec_natV {m n : Nat} : decide ((V.int (m : Int)) = V.int (n : Int)) = decide (m = n) := by
  congr 1
  exact propext ⟨fun h => by have := V.int.inj h; omega, fun h => by rw [h]⟩
theorem d_eqN (q : P (.bl (decide (m = n)))) : dEqS (nat m) (nat n) P := ⟨_, _, rfl, rfl, rfl, by rw [dec_natV]; exact q⟩
theorem d_neN (q : P (.bl (!decide (m = n)))) : dNeS (nat m) (nat n) P := ⟨_, _, rfl, rfl, rfl, by rw [dec_natV]; exact q⟩
theorem d_eqI (q : P (.bl (decide (k = j)))) : dEqS (.int k) (.int j) P := ⟨_, _, rfl, rfl, rfl, by
  rw [show decide (V.int k = V.int j) = decide (k = j) by congr 1; exact propext ⟨V.int.inj, fun h => by rw [h]⟩]; exact q⟩
theorem d_neI (q : P (.bl (!decide (k = j)))) : dNeS (.int k) (.int j) P := ⟨_, _, rfl, rfl, rfl, by
  rw [show decide (V.int k = V.int j) = decide (k = j) by congr 1; exact propext ⟨V.int.inj, fun h => by rw [h]⟩]; exact q⟩
theorem d_negN (q : P (.int (-(m : Int)))) : dNeg (nat m) P := ⟨m, rfl, q⟩
theorem d_bit {k : Bool} (q : P (nat (if k then 1 else 0))) : dInt1 [.bl k] P := .inr ⟨k, rfl, by cases k <;> exact q⟩
theorem rangeD_nat (n : Nat) : rangeD 0 n = (List.range n).map nat := by
  unfold rangeD
  exact List.map_congr_left fun i _ => by rw [Int.zero_add]
theorem d_exrng {n : Nat} (h : n < 2 ^ 62) (q : PA ((List.range n).map nat)) : rngA [nat n] PA := ⟨(n : Int), rfl, by omega, by omega, by rw [Int.toNat_natCast, rangeD_nat]; exact q⟩
theorem rangeD_from (a n : Nat) : rangeD a n = (List.range n).map fun i => nat (a + i) := by
  unfold rangeD
  exact List.map_congr_left fun i _ => congrArg Dt.int (Int.natCast_add a i).symm
theorem d_exrng2 {m n : Nat} (h : m < 2 ^ 62) (h2 : n < 2 ^ 62) (q : PA ((List.range (n - m)).map fun i => nat (m + i))) : rngB [nat m, nat n] PA := ⟨(m : Int), (n : Int), rfl, ⟨by omega, by omega, by omega, by omega⟩, by
  rw [show ((n : Int) - (m : Int)).toNat = n - m by omega, rangeD_from]; exact q⟩
theorem d_gcd {m n : Nat} (q : P (nat (Nat.gcd m n))) : dGcd [nat m, nat n] P := ⟨m, n, rfl, q⟩
/-! rows -/
def rowD (r : List Nat) : Dt := .tup (r.map nat)
def rowI (r : List Int) : Dt := .tup (r.map Dt.int)
theorem rowD_I (r : List Nat) : rowD r = rowI (r.map fun n : Nat => (n : Int)) := by unfold rowD rowI; rw [List.map_map]; rfl
theorem atI_nat {α : Type} {l : List α} {i : Nat} {z : α} (h : l[i]? = some z) : atI l (i : Int) = some z := by
  obtain ⟨hl, _⟩ := List.getElem?_eq_some_iff.mp h
  unfold atI
  rw [ixN_nat hl]; exact h
theorem atI_last {α : Type} {l : List α} {z : α} (h : l.getLast? = some z) : atI l (-1) = some z := by
  obtain ⟨ys, rfl⟩ := List.getLast?_eq_some_iff.mp h
  unfold atI ixN
  rw [if_neg (by decide), if_pos (by simp; omega)]
  show (ys ++ [z])[((-1 : Int) + ((ys ++ [z]).length : Nat)).toNat]? = some z
  rw [show ((-1 : Int) + ((ys ++ [z]).length : Nat)).toNat = ys.length by simp; omega]
  simp
theorem d_ixT {z : Dt} (h : xs[i]? = some z) (q : P z) : dIxT (.tup xs) (nat i) P := ⟨xs, i, z, rfl, rfl, Dx.atI_nat h, q⟩
theorem d_ixL {z : Dt} (h : xs[i]? = some z) (q : P z) : dIxL (.lst xs) (nat i) P := ⟨xs, i, z, rfl, rfl, Dx.atI_nat h, q⟩
theorem d_ixTl {z : Dt} (h : xs.getLast? = some z) (q : P z) : dIxT (.tup xs) (.int (-((1 : Nat) : Int))) P := ⟨xs, -1, z, rfl, rfl, Dx.atI_last h, q⟩
theorem d_ixO {bb : DE} (h : ρ[i]? = some (.ol xs)) (q : bb X ρ fun y => ∃ k z, y = .int k ∧ atI xs k = some z ∧ P z) : dIxO i bb X ρ P := ⟨xs, h, q⟩
theorem d_app (h : ρ[i]? = some (.ol xs)) (q : a X ρ fun x => xs.length ≤ 100000 ∧ D.nx (ρ.set i (.ol (xs ++ [x])))) : dApp i a D X ρ := ⟨xs, h, q⟩
theorem d_cat (hz : xs.length + ys.length ≤ 100000) (q : P (.tup (xs ++ ys))) : dCatT (.tup xs) (.tup ys) P := ⟨xs, ys, rfl, rfl, hz, q⟩
theorem cutD_to {n : Nat} : cutD xs none (some (n : Int)) = xs.take n := by
  unfold cutD
  rw [HT.sIx_none, HT.sIx_nat, List.drop_zero, Nat.sub_zero]
  by_cases h : n ≤ xs.length
  · rw [Nat.min_eq_left h]
  · rw [Nat.min_eq_right (by omega), List.take_length, List.take_of_length_le (by omega)]
theorem cutD_from {n : Nat} : cutD xs (some (n : Int)) none = xs.drop n := by
  unfold cutD
  rw [HT.sIx_none, HT.sIx_nat]
  by_cases h : n ≤ xs.length
  · rw [Nat.min_eq_left h, List.take_of_length_le (by rw [List.length_drop]; omega)]
  · rw [Nat.min_eq_right (by omega), List.drop_length, List.drop_of_length_le (by omega), List.take_nil]
theorem cutD_init : cutD xs none (some (-((1 : Nat) : Int))) = xs.dropLast := by
  unfold cutD
  rw [HT.sIx_none, List.drop_zero, Nat.sub_zero, List.dropLast_eq_take]
  congr 1
  unfold HT.sIx
  simp
  omega
theorem rowD_take (r : List Nat) (n : Nat) : (r.map nat).take n = (r.take n).map nat := by rw [List.map_take]
theorem rowD_drop (r : List Nat) (n : Nat) : (r.map nat).drop n = (r.drop n).map nat := by rw [List.map_drop]
/-! loops -/
theorem d_loop {p : Pt} (I : Nat → Env → Prop) (h0 : I 0 ρ) (hs : ∀ (i : Nat) (x : Dt) (ρ : Env) (N : Env → Prop), xs[i]? = some x → I i ρ → (∀ ρ', I (i + 1) ρ' → N ρ') → bindD p x ρ fun ρ' => s { D with nx := N, ct := N, bk := D.nx } X ρ')
    (hd : ∀ ρ, I xs.length ρ → D.nx ρ) : dLoop p s D X xs ρ := by
  have key : ∀ (ys : List Dt) (j : Nat) (ρ : Env), xs.drop j = ys → j ≤ xs.length → I j ρ → dLoop p s D X ys ρ := by
    intro ys
    induction ys with
    | nil =>
      intro j ρ e hj h
      have : j = xs.length := by
        have := congrArg List.length e
        rw [List.length_drop] at this
        simp at this; omega
      subst this
      exact hd ρ h
    | cons y ys ih =>
      intro j ρ e hj h
      have hy : xs[j]? = some y := by
        have := congrArg (fun l => l[0]?) e
        simp at this
        exact this
      have hd : xs.drop (j + 1) = ys := by
        rw [drop_at hy] at e
        exact (List.cons.inj e).2
      have hlt : j < xs.length := (List.getElem?_eq_some_iff.mp hy).1
      exact hs j y ρ _ hy h fun ρ' h' => ih (j + 1) ρ' hd hlt h'
  exact key xs 0 ρ (by simp) (Nat.zero_le _) h0
theorem d_while {t : DT} (I : Nat → Env → Prop) (m : Nat) (h0 : I m ρ) (hs : ∀ (m : Nat) (ρ : Env) (N : Env → Prop), I m ρ → (∀ m' ρ', m' < m → I m' ρ' → N ρ') → t X ρ fun k => if k = true then s { D with nx := N, ct := N, bk := D.nx } X ρ else D.nx ρ) : dWhile t s D X ρ := by
  have key : ∀ (n : Nat) (ρ : Env), (∃ m, m ≤ n ∧ I m ρ) → dWhileF t s D X (n + 1) ρ := by
    intro n
    induction n with
    | zero =>
      rintro ρ ⟨m, hm, h⟩
      exact hs m ρ _ h fun m' ρ' hl _ => by omega
    | succ n ih =>
      rintro ρ ⟨m, hm, h⟩
      exact hs m ρ _ h fun m' ρ' hl h' => ih ρ' ⟨m', by omega, h'⟩
  exact ⟨m + 1, key m ρ ⟨m, Nat.le_refl _, h0⟩⟩
theorem d_compF {p : Pt} {ρ0 : Env} {t : DT} (gg : Dt → Option Dt) (h : ∀ x ∈ xs, ∀ N : Option Dt → Prop, N (gg x) → bindD p x ρ0 fun ρ => t X ρ fun k => if k = true then e X ρ fun y => N (some y) else N none) {acc : List Dt} (hl : acc.length + xs.length ≤ 100000) (q : PA (acc ++ xs.filterMap gg)) :
    dComp p t e ρ0 X xs acc PA := by
  induction xs generalizing acc with
  | nil => rw [List.filterMap_nil, List.append_nil] at q; exact q
  | cons x xs ih =>
    simp only [List.length_cons] at hl
    refine h x List.mem_cons_self (fun o => match o with | some y => acc.length ≤ 100000 ∧ dComp p t e ρ0 X xs (acc ++ [y]) PA | none => dComp p t e ρ0 X xs acc PA) ?_
    have h' : ∀ y ∈ xs, ∀ N : Option Dt → Prop, N (gg y) → bindD p y ρ0 fun ρ => t X ρ fun k => if k = true then e X ρ fun y => N (some y) else N none := fun y hy => h y (List.mem_cons_of_mem _ hy)
    cases e1 : gg x with
    | none => exact ih h' (by omega) (by rw [List.filterMap_cons, e1] at q; exact q)
    | some y => exact ⟨by omega, ih h' (by simp; omega) (by rw [List.filterMap_cons, e1] at q; simpa using q)⟩
theorem d_compM {p : Pt} {ρ0 : Env} (gg : Dt → Dt) (h : ∀ x ∈ xs, ∀ N : Dt → Prop, N (gg x) → bindD p x ρ0 fun ρ => e X ρ N) {acc : List Dt} (hl : acc.length + xs.length ≤ 100000) (q : PA (acc ++ xs.map gg)) :
    dComp p dYes e ρ0 X xs acc PA := by
  induction xs generalizing acc with
  | nil => rw [List.map_nil, List.append_nil] at q; exact q
  | cons x xs ih =>
    simp only [List.length_cons] at hl
    have h1 := h x List.mem_cons_self (fun y => acc.length ≤ 100000 ∧ dComp p dYes e ρ0 X xs (acc ++ [y]) PA) ⟨by omega, ih (fun y hy => h y (List.mem_cons_of_mem _ hy)) (by simp; omega) (by simpa using q)⟩
    have e1 : (fun ρ => dYes X ρ fun k => if k = true then e X ρ fun y => acc.length ≤ 100000 ∧ dComp p dYes e ρ0 X xs (acc ++ [y]) PA else dComp p dYes e ρ0 X xs acc PA) = fun ρ => e X ρ fun y => acc.length ≤ 100000 ∧ dComp p dYes e ρ0 X xs (acc ++ [y]) PA := by
      funext ρ
      unfold dYes
      exact if_pos rfl
    show bindD p x ρ0 (fun ρ => dYes X ρ fun k => if k = true then e X ρ fun y => acc.length ≤ 100000 ∧ dComp p dYes e ρ0 X xs (acc ++ [y]) PA else dComp p dYes e ρ0 X xs acc PA)
    rw [e1]; exact h1
theorem d_comp2M {p p1 : Pt} {ρ0 : Env} {w1 : DA} {vs1 : List Nat} (gg : Dt → List Dt) (h : ∀ x ∈ xs, ∀ (acc : List Dt) (N : List Dt → Prop), acc.length + (gg x).length ≤ 100000 → N (acc ++ gg x) → bindD p x ρ0 fun ρ => w1 X ρ fun ys => dComp1 p1 t e (wipeD ρ vs1) X ys acc N)
    {acc : List Dt} (hl : acc.length + (xs.flatMap gg).length ≤ 100000) (q : PA (acc ++ xs.flatMap gg)) : dComp2 p dYes w1 p1 t e vs1 ρ0 X xs acc PA := by
  induction xs generalizing acc with
  | nil => rw [List.flatMap_nil, List.append_nil] at q; exact q
  | cons x xs ih =>
    rw [List.flatMap_cons, List.length_append] at hl
    have h1 := h x List.mem_cons_self acc (fun acc' => dComp2 p dYes w1 p1 t e vs1 ρ0 X xs acc' PA) (by omega) (ih (fun y hy => h y (List.mem_cons_of_mem _ hy)) (by rw [List.length_append]; omega) (by rw [List.flatMap_cons, ← List.append_assoc] at q; exact q))
    have e1 : (fun ρ => dYes X ρ fun k => if k = true then w1 X ρ fun ys => dComp1 p1 t e (wipeD ρ vs1) X ys acc fun acc' => dComp2 p dYes w1 p1 t e vs1 ρ0 X xs acc' PA else dComp2 p dYes w1 p1 t e vs1 ρ0 X xs acc PA) = fun ρ => w1 X ρ fun ys => dComp1 p1 t e (wipeD ρ vs1) X ys acc fun acc' => dComp2 p dYes w1 p1 t e vs1 ρ0 X xs acc' PA := by
      funext ρ
      unfold dYes
      exact if_pos rfl
    show bindD p x ρ0 (fun ρ => dYes X ρ fun k => if k = true then w1 X ρ fun ys => dComp1 p1 t e (wipeD ρ vs1) X ys acc fun acc' => dComp2 p dYes w1 p1 t e vs1 ρ0 X xs acc' PA else dComp2 p dYes w1 p1 t e vs1 ρ0 X xs acc PA)
    rw [e1]; exact h1
theorem d_lc2 {w w1 : DA} {p p1 : Pt} {t1 : DT} {vs vs1 : List Nat} (q : w X ρ fun xs => dComp2 p t w1 p1 t1 e vs1 (wipeD ρ vs) X xs [] PA) : dLc2 w p t w1 p1 t1 e vs vs1 X ρ PA := q
theorem d_c1nil {p : Pt} {ρ0 : Env} {acc : List Dt} (q : PA acc) : dComp1 p t e ρ0 X [] acc PA := q
theorem d_c1cons {p : Pt} {ρ0 : Env} {acc : List Dt} (q : bindD p x ρ0 fun ρ => t X ρ fun k => if k = true then e X ρ fun y => acc.length ≤ 100000 ∧ dComp1 p t e ρ0 X xs (acc ++ [y]) PA else dComp1 p t e ρ0 X xs acc PA) : dComp1 p t e ρ0 X (x :: xs) acc PA := q
theorem d_divmod (h : 0 < n) (h2 : n.log2 < 9000) (q : P (.tup [nat (m / n), nat (m % n)])) : dDivmod [nat m, nat n] P := ⟨m, n, rfl, ⟨by omega, PyProof.noPylong_of_log2 (by rw [Int.natAbs_natCast]; exact h2)⟩, by rw [← Int.natCast_ediv, ← Int.natCast_emod]; exact q⟩
theorem d_compR {p : Pt} {ρ0 : Env} (R : Dt → Prop) (h : ∀ x ∈ xs, ∀ N : Dt → Prop, (∀ y, R y → N y) → bindD p x ρ0 fun ρ => e X ρ N) {acc : List Dt} (hl : acc.length + xs.length ≤ 100000) (q : ∀ ys : List Dt, ys.length = xs.length → (∀ y ∈ ys, R y) → PA (acc ++ ys)) :
    dComp p dYes e ρ0 X xs acc PA := by
  induction xs generalizing acc with
  | nil => have := q [] rfl (by simp); rw [List.append_nil] at this; exact this
  | cons x xs ih =>
    simp only [List.length_cons] at hl
    have h1 := h x List.mem_cons_self (fun y => acc.length ≤ 100000 ∧ dComp p dYes e ρ0 X xs (acc ++ [y]) PA) fun y hy => ⟨by omega, ih (fun z hz => h z (List.mem_cons_of_mem _ hz)) (by simp; omega) fun ys hl2 hr => by
      have := q (y :: ys) (by simp [hl2]) (fun z hz => by
        rcases List.mem_cons.mp hz with rfl | hz
        · exact hy
        · exact hr z hz)
      rw [List.append_assoc]; exact this⟩
    have e1 : (fun ρ => dYes X ρ fun k => if k = true then e X ρ fun y => acc.length ≤ 100000 ∧ dComp p dYes e ρ0 X xs (acc ++ [y]) PA else dComp p dYes e ρ0 X xs acc PA) = fun ρ => e X ρ fun y => acc.length ≤ 100000 ∧ dComp p dYes e ρ0 X xs (acc ++ [y]) PA := by
      funext ρ
      unfold dYes
      exact if_pos rfl
    show bindD p x ρ0 (fun ρ => dYes X ρ fun k => if k = true then e X ρ fun y => acc.length ≤ 100000 ∧ dComp p dYes e ρ0 X xs (acc ++ [y]) PA else dComp p dYes e ρ0 X xs acc PA)
    rw [e1]; exact h1
theorem d_pop0 (h : ρ[i]? = some (.ol (x :: xs))) (q : D.nx (ρ.set i (.ol xs))) : dPop0 i D X ρ := ⟨xs, x, h, q⟩
theorem d_revO {PN : List Dt → Prop} (h : ρ[i]? = some (.ol xs)) (q : PN xs.reverse) : dRevO i X ρ PN := ⟨xs, h, q⟩
theorem d_revL {PN : List Dt → Prop} (q : a X ρ fun x => ∃ xs, x = .lst xs ∧ PN xs.reverse) : dRevL a X ρ PN := q
theorem nats_of : ∀ {ys : List Dt} {Q : Nat → Prop}, (∀ y ∈ ys, ∃ n : Nat, y = nat n ∧ Q n) → ∃ l : List Nat, ys = l.map nat ∧ ∀ n ∈ l, Q n
  | [], _, _ => ⟨[], rfl, by simp⟩
  | y :: ys, Q, h => by
    obtain ⟨n, rfl, hn⟩ := h y List.mem_cons_self
    obtain ⟨l, rfl, hl⟩ := nats_of (ys := ys) (Q := Q) fun z hz => h z (List.mem_cons_of_mem _ hz)
    exact ⟨n :: l, rfl, fun m hm => by
      rcases List.mem_cons.mp hm with rfl | hm
      · exact hn
      · exact hl m hm⟩
end
end Dx
end
section
/-! the laws' helpers, told over data -/
open PySem L2 RT Sx
namespace Dx
section
variable {K : PySem.W.Frag} {C : Ec} {W : Wd} {H H' : Hp} {d : Addr}
theorem Ok.dice (k : Ok K W H) (h : W.dl d) (nt : ¬ W.tb d) : Dice K H d := by
  obtain ⟨f, ⟨_, sc, ns, dl, hl, hs⟩ | ⟨t, _⟩⟩ := k.dc d h
  · refine ⟨sc, dl, ns, hl, fun H2 s => ?_⟩
    rcases hs with (z | ⟨o, z⟩) | z
    · exact .inl (.inl (s _ _ (fun e => by rw [e, f] at z; cases z) (k.sF _ _ z)))
    · exact .inl (.inr ⟨o, s _ _ (fun e => by rw [e, f] at z; cases z) (k.sF _ _ z)⟩)
    · exact .inr z
  · exact absurd t nt
theorem frm_drew (k : Ok K W H) (h : W.dl d) (nt : ¬ W.tb d) (e : Drew d H H') : Frm W H W H' ∧ Ok K W H' := by
  obtain ⟨f, ⟨_, sc, ns, dl, hl, hs⟩ | ⟨t, _⟩⟩ := k.dc d h
  · obtain ⟨i0, x0, c0, dl0, _⟩ := id dl
    obtain ⟨i, m, r, h2, l⟩ := e.2 sc dl
    have hk : ∀ p, H' p = none → H p = none := fun p hp => by
      cases z : H p with
      | none => rfl
      | some o =>
        by_cases q : p = d
        · rw [q, h2] at hp; cases hp
        · rw [e.1 p o q z] at hp; cases hp
    refine ⟨⟨Wd.Le.refl W, fun p o hp n => e.1 p o (fun z => n (by rw [z]; exact h)) hp, fun _ _ _ _ _ z => z, fun _ z => .inl z, hk⟩, ⟨fun p o z => e.1 p o (fun q => by rw [q, f] at z; cases z) (k.sF p o z), fun d' hd' => ?_, k.td, k.nt⟩⟩
    obtain ⟨f', m'⟩ := k.dc d' hd'
    refine ⟨f', ?_⟩
    by_cases z : d' = d
    · subst z
      exact .inl ⟨nt, sc, ns, ⟨i, m, r, h2, l⟩, hl, hs⟩
    · refine m'.mv rfl (Same.refl _) ?_ fun c hc => e.1 _ _ (fun q => by rw [q, dl0] at hc; cases hc) hc
      cases y : H d' with
      | none => exact absurd y m'.there
      | some o => exact e.1 _ _ z y
  · exact absurd t nt
end
def sp__law_dice : DSp := fun xs P _ => ∃ ns, (xs = [.scr ns] ∨ xs = [.scrT ns]) ∧ ns.length ≤ 63 ∧ P .dice
def sp__law_next : DSp := fun xs P _ => ∃ m : Nat, xs = [.dice, nat m] ∧ 0 < m ∧ m < 1073741824 ∧ ∀ n : Nat, n < m → P (nat n)
/-! no truth values, no dicts, so deep at most -/
mutual
def plB : Nat → Dt → Bool
  | _, .non => true
  | _, .int _ => true
  | _, .str x => PyData.canLay0 (.str x)
  | n + 1, .tup xs => decide (xs.length ≤ 100000) && plBs n xs
  | n + 1, .lst xs => decide (xs.length ≤ 100000) && plBs n xs
  | _, _ => false
def plBs : Nat → List Dt → Bool
  | _, [] => true
  | n, x :: xs => plB n x && plBs n xs
end
theorem plBs_all : ∀ {n : Nat} {xs : List Dt}, plBs n xs = true ↔ ∀ x ∈ xs, plB n x = true
  | n, [] => by simp [plBs]
  | n, x :: xs => by simp [plBs, plBs_all (xs := xs)]
theorem plB_nat {n k : Nat} : plB n (nat k) = true := by cases n <;> rfl
theorem plB_row {n : Nat} {r : List Nat} (h : r.length ≤ 100000) : plB (n + 1) (rowD r) = true := by
  unfold rowD
  simp only [plB, Bool.and_eq_true, decide_eq_true_eq, List.length_map]
  refine ⟨h, plBs_all.mpr fun x hx => ?_⟩
  obtain ⟨k, _, rfl⟩ := List.mem_map.mp hx
  exact plB_nat
def sp__law_like : DSp := fun xs P _ => ∃ x, xs = [x, x] ∧ plB 6 x = true ∧ P (.bl true)
mutual
theorem plB_lay : ∀ (n : Nat) (x : Dt), plB n x = true → (toP x).canLay0 = true ∧ plainD n (toP x)
  | n, .non, _ => ⟨rfl, by cases n <;> trivial⟩
  | n, .int _, _ => ⟨rfl, by cases n <;> trivial⟩
  | n, .str x, h => by
    have h' : PyData.canLay0 (.str x) = true := by cases n <;> simpa [plB] using h
    exact ⟨h', by cases n <;> exact h'⟩
  | n + 1, .tup xs, h => by
    simp only [plB, Bool.and_eq_true, decide_eq_true_eq] at h
    obtain ⟨h1, h2⟩ := plBs_lay n xs h.2
    exact ⟨h1, by rw [toPs_eq, List.length_map]; exact h.1, h2⟩
  | n + 1, .lst xs, h => by
    simp only [plB, Bool.and_eq_true, decide_eq_true_eq] at h
    obtain ⟨h1, h2⟩ := plBs_lay n xs h.2
    exact ⟨h1, by rw [toPs_eq, List.length_map]; exact h.1, h2⟩
  | 0, .tup _, h => by simp [plB] at h
  | 0, .lst _, h => by simp [plB] at h
  | 0, .bl _, h => by simp [plB] at h
  | _ + 1, .bl _, h => by simp [plB] at h
  | 0, .ty _, h => by simp [plB] at h
  | _ + 1, .ty _, h => by simp [plB] at h
  | 0, .dK _, h => by simp [plB] at h
  | _ + 1, .dK _, h => by simp [plB] at h
  | 0, .dT _, h => by simp [plB] at h
  | _ + 1, .dT _, h => by simp [plB] at h
  | 0, .dice, h => by simp [plB] at h
  | _ + 1, .dice, h => by simp [plB] at h
  | 0, .fn _, h => by simp [plB] at h
  | _ + 1, .fn _, h => by simp [plB] at h
  | 0, .scr _, h => by simp [plB] at h
  | _ + 1, .scr _, h => by simp [plB] at h
theorem plBs_lay : ∀ (n : Nat) (xs : List Dt), plBs n xs = true → PyData.canLayAll0 (toPs xs) = true ∧ ∀ d ∈ toPs xs, plainD n d
  | _, [], _ => ⟨rfl, by simp [toPs]⟩
  | n, x :: xs, h => by
    simp only [plBs, Bool.and_eq_true] at h
    obtain ⟨h1, h2⟩ := plB_lay n x h.1
    obtain ⟨h3, h4⟩ := plBs_lay n xs h.2
    refine ⟨by simp [toPs, PyData.canLayAll0, h1, h3], fun d hd => ?_⟩
    rcases List.mem_cons.mp hd with rfl | hd
    · exact h2
    · exact h4 d hd
end
/-! likeness by == -/
theorem toPs_nats (r : List Nat) : toPs (r.map nat) = r.map fun n : Nat => PyData.int (n : Int) := by rw [toPs_eq, List.map_map]; rfl
theorem eqvAll_nats : ∀ r s : List Nat, PyData.eqvAll (r.map fun n : Nat => PyData.int (n : Int)) (s.map fun n : Nat => PyData.int (n : Int)) = decide (r = s)
  | [], [] => rfl
  | [], _ :: _ => rfl
  | _ :: _, [] => rfl
  | a :: r, b :: s => by
    simp only [List.map_cons, PyData.eqvAll, PyData.eqv, eqvAll_nats r s]
    rw [Bool.eq_iff_iff]
    simp
    intro _
    omega
theorem eqD_row (r s : List Nat) : eqD (rowD r) (rowD s) = decide (r = s) := by
  unfold eqD rowD
  simp only [toP, toPs_nats, PyData.eqv, eqvAll_nats]
theorem canLay_nats : ∀ r : List Nat, PyData.canLayAll0 (r.map fun n : Nat => PyData.int (n : Int)) = true ∧ PyData.depthAll (r.map fun n : Nat => PyData.int (n : Int)) ≤ 1
  | [] => by simp [PyData.canLayAll0, PyData.depthAll]
  | a :: r => by
    obtain ⟨h1, h2⟩ := canLay_nats r
    refine ⟨by simp [PyData.canLayAll0, PyData.canLay0, h1], ?_⟩
    simp only [List.map_cons, PyData.depthAll, PyData.depth]; omega
theorem shD_row (r : List Nat) : shD (rowD r) = true := by
  obtain ⟨h1, h2⟩ := canLay_nats r
  unfold shD rowD
  simp only [toP, toPs_nats]
  show (PyData.canLay0 (.tuple _) && decide (PyData.depth (.tuple _) ≤ 64)) = true
  rw [Bool.and_eq_true]
  exact ⟨by simp only [PyData.canLay0]; exact h1, decide_eq_true (by simp only [PyData.depth]; omega)⟩
theorem d_eqR {r s : List Nat} {P : Dt → Prop} (q : P (.bl (decide (r = s)))) : dEq (rowD r) (rowD s) P := ⟨shD_row r, shD_row s, by rw [eqD_row]; exact q⟩
theorem d_neR {r s : List Nat} {P : Dt → Prop} (q : P (.bl (!decide (r = s)))) : dNe (rowD r) (rowD s) P := ⟨shD_row r, shD_row s, by rw [eqD_row]; exact q⟩
section
variable {K : PySem.W.Frag} {C : Ec} {vs : List V} {H : Hp} {Q : VK} {E : XK}
theorem d_draw {X : DX} {P : Dt → Prop} {m : Nat} (h0 : 0 < m := by decide) (h1 : m < 1073741824 := by decide) (q : ∀ n : Nat, n < m → P (nat n)) : sp__law_next [.dice, nat m] P X := ⟨m, rfl, h0, h1, q⟩
theorem conv__law_dice (h : liftSp K C sp__law_dice vs H Q E) : Sx.sp__law_dice K vs H Q E := by
  obtain ⟨W, xs, P, PX, o, r, ⟨ns, ex, hl, q⟩, k, el⟩ := h
  obtain ⟨a, rfl, hs⟩ : ∃ a, vs = [.ref a] ∧ SqL K W.F a (ns.map V.int) := by
    rcases ex with rfl | rfl
    · obtain ⟨v, rfl, rv⟩ := rpl1 r
      cases rv with | scr hs => exact ⟨_, rfl, hs⟩
    · obtain ⟨v, rfl, rv⟩ := rpl1 r
      cases rv with | scrT hs _ => exact ⟨_, rfl, hs⟩
  refine ⟨a, ns, rfl, same_seqL o.sF hs, hl, fun d H' n s hd => ?_⟩
  have nt : ¬ W.tb d := fun z => (o.dc d (o.td d z)).2.there n
  refine k ⟨W.F, fun x => W.dl x ∨ x = d, W.tb⟩ H' _ _ ⟨⟨Same.refl _, fun x hx => .inl hx, rfl⟩, fun p u hp _ => s p u hp, fun _ _ _ _ _ z => z, fun x hx => hx.imp (fun z => z) fun z => by rw [z]; exact n, (frm_same (W := W) s).kp⟩ ⟨Same.trans o.sF s, fun x hx => ?_, fun x hx => .inl (o.td x hx), o.nt⟩ (.dice (.inr rfl) nt) q
  rcases hx with hx | rfl
  · exact (o.same s).dc x hx
  · exact ⟨o.fr n, .inl ⟨nt, a, ns, hd, hl, hs⟩⟩
theorem conv__law_next (h : liftSp K C sp__law_next vs H Q E) : Sx.sp__law_next K vs H Q E := by
  obtain ⟨W, xs, P, PX, o, r, ⟨m, rfl, h1, h2, q⟩, k, el⟩ := h
  obtain ⟨v, w, rfl, rv, rw_⟩ := rpl2 r
  cases rv with
  | @dice a ha nt =>
    rw [rp_int rw_]
    refine ⟨a, m, rfl, o.dice ha nt, h1, h2, fun n H' hn dr => ?_⟩
    obtain ⟨f, o'⟩ := frm_drew o ha nt dr
    exact k W H' _ _ f o' (.int _) (q n hn)
theorem conv__law_like (h : liftSp K C sp__law_like vs H Q E) : Sx.sp__law_like K vs H Q E := by
  obtain ⟨W, xs, P, PX, o, r, ⟨x, rfl, h1, q⟩, k, el⟩ := h
  obtain ⟨v, w, rfl, rv, rw_⟩ := rpl2 r
  obtain ⟨h2, h3⟩ := plB_lay 6 x h1
  exact ⟨v, w, toP x, rfl, dp_of o.sF rv (.inr h2), dp_of o.sF rw_ (.inr h2), h3, k W H _ _ (Frm.refl _ _) o (.bl _) q⟩
end
end Dx
end
section
/-! the laws' common helpers over data -/
open PySem L2 RT Sx Dx
local macro_rules | `(tactic| walk_at "d") => `(tactic| first
  | ((with_reducible refine' d_var ?k1 ?_); (case k1 => rfl))
  | with_reducible refine' d_c ?_
  | with_reducible refine' d_op ?_
  | with_reducible refine' d_cons ?_
  | with_reducible refine' d_nil ?_
  | with_reducible refine' d_seq ?_
  | ((with_reducible refine' d_asg1 ?_); try dsimp -proj only [List.set_cons_zero, List.set_cons_succ])
  | with_reducible refine' d_asg ?_
  | with_reducible refine' d_cb ?_
  | ((with_reducible refine' d_asgN ?_); try dsimp -proj only [List.set_cons_zero, List.set_cons_succ])
  | ((with_reducible refine' d_bnm ?_); try dsimp -proj only [List.set_cons_zero, List.set_cons_succ])
  | with_reducible refine' d_btp ?_
  | with_reducible refine' d_bcons ?_
  | with_reducible refine' d_bnil ?_
  | ((with_reducible refine' d_slO ?k1 ?_); (case k1 => rfl))
  | ((with_reducible refine' d_lenO ?k1 ?_); (case k1 => rfl))
  | ((with_reducible refine' d_ixO ?k1 ?_); (case k1 => rfl))
  | ((with_reducible refine' d_app ?k1 ?_); (case k1 => rfl))
  | ((with_reducible refine' d_frz ?k1 ?_); (case k1 => rfl); try dsimp -proj only [List.set_cons_zero, List.set_cons_succ, frzS])
  | with_reducible refine' d_lnil ?_
  | with_reducible refine' d_lcons ?_
  | with_reducible refine' d_gcd ?_
  | ((with_reducible refine' d_revO ?k1 ?_); (case k1 => rfl))
  | with_reducible refine' d_revL ?_
  | with_reducible refine' d_rev ?_
  | with_reducible refine' d_exrevL ?_
  | with_reducible refine' d_exrevT ?_
  | with_reducible refine' d_lc ?_
  | with_reducible refine' d_rng1 ?_
  | with_reducible refine' d_rng2 ?_
  | ((with_reducible refine' d_exrng ?k1 ?_); (case k1 => omega))
  | ((with_reducible refine' d_exrng2 ?k1 ?k2 ?_); (case k1 => omega); (case k2 => omega))
  | ((with_reducible refine' d_sz ?k1 ?_); (case k1 => simp; done))
  | with_reducible refine' d_tupQ ?_
  | with_reducible refine' d_lstQ ?_
  | with_reducible refine' d_callX ?_
  | with_reducible refine' d_call0 ?_
  | with_reducible refine' d_ifS ?_
  | with_reducible refine' d_B ?_
  | with_reducible refine' d_exbl ?_
  | with_reducible refine' d_ret ?_
  | with_reducible refine' d_drop ?_
  | with_reducible refine' d_next ?_
  | with_reducible refine' d_chain ?_
  | with_reducible refine' d_and ?_
  | with_reducible refine' d_or ?_
  | with_reducible refine' d_not ?_
  | with_reducible refine' d_andV ?_
  | with_reducible refine' d_orV ?_
  | with_reducible refine' d_notV ?_
  | with_reducible refine' d_if ?_
  | with_reducible refine' d_un ?_
  | with_reducible refine' d_fz ?_
  | with_reducible refine' d_addN ?_
  | ((with_reducible refine' d_subN ?k1 ?_); (case k1 => omega))
  | ((with_reducible refine' d_mdN ?k1 ?_); (case k1 => omega))
  | ((with_reducible refine' d_fdN ?k1 ?k2 ?_); (case k1 => omega); (case k2 => omega))
  | ((with_reducible refine' d_mulL ?k1 ?k2 ?_); (case k1 => omega); (case k2 => omega))
  | with_reducible refine' d_ltN ?_
  | with_reducible refine' d_leN ?_
  | with_reducible refine' d_gtN ?_
  | with_reducible refine' d_geN ?_
  | with_reducible refine' d_eqN ?_
  | with_reducible refine' d_neN ?_
  | with_reducible refine' d_negN ?_
  | with_reducible refine' d_bit ?_
  | ((with_reducible refine' d_lenT ?_); try rw [List.length_map])
  | ((with_reducible refine' d_lenL ?_); try rw [List.length_map])
  | ((with_reducible refine' d_aug ?k1 ?_); (case k1 => rfl))
  | with_reducible refine' d_slT ?_
  | with_reducible refine' d_slL ?_
  | with_reducible refine' d_exsT ?_
  | with_reducible refine' d_exsL ?_
  | with_reducible refine' d_nopart ?_
  | with_reducible refine' dw_part ?_
  | with_reducible refine' d_exint ?_
  | with_reducible refine' d_yes1 ?_
  | with_reducible refine' d_itT ?_
  | with_reducible refine' d_itL ?_
  | with_reducible refine' d_itK ?_
  | with_reducible refine' d_exsK ?_
  | with_reducible refine' d_for ?_
  | with_reducible refine' d_tupL ?_
  | with_reducible refine' d_tupT ?_
  | with_reducible refine' i_iteT ?_
  | with_reducible refine' i_iteNT ?_
  | with_reducible refine' i_iteNF ?_
  | with_reducible refine' i_iteF ?_
  | ((with_reducible refine' i_yes ?k1 ?_); (case k1 => omega))
  | ((with_reducible refine' i_nay ?k1 ?_); (case k1 => omega))
  | ((with_reducible refine' i_yesN ?k1 ?_); (case k1 => omega))
  | ((with_reducible refine' i_nayN ?k1 ?_); (case k1 => omega)))
local macro_rules | `(tactic| walk_at "dgo") => `(tactic| (repeat walk_at "d"; try dsimp -proj only [List.set_cons_zero, List.set_cons_succ]))
namespace Dx
def sp__law_whole_of : DSp := fun xs P _ => ∃ r : List Nat, xs = [rowD r] ∧ (∀ d ∈ r, d < 60) ∧ r.length ≤ 10000 ∧ P (nat (whole r))
def sp__law_row : DSp := fun xs P _ => ∃ n : Nat, xs = [nat n] ∧ 0 < n ∧ n.log2 < 400000 ∧ P (rowD (rowOf n))
def sp__law_smooth : DSp := fun xs P _ => xs = [.dice] ∧ ∀ a b c : Nat, a ≤ 9 → b ≤ 9 → c ≤ 9 → P (nat (2 ^ a * 3 ^ b * 5 ^ c))
def sp__law_drawn : DSp := fun xs P _ => ∃ m : Nat, xs = [.dice, nat m] ∧ 2 ≤ m ∧ m ≤ 12 ∧ ∀ r : List Nat, IsRow r → r.length ≤ m → P (rowD r)
def d__law_whole_of : DS := (dSeq (dAsg (.nm 1) (dC (nat 0)))
  (dSeq (dFor (dRng1 (dCons (dCB dLen (dCons (dVar 0) dNil)) dNil)) (.nm 2)
  (dAsg (.nm 1) (dOp dAdd (dOp dMul (dVar 1) (dC (nat 60))) (dOp dIxT (dVar 0) (dVar 2)))))
  (dRet (dVar 1))))
def d__law_row : DS := (dSeq (dAsgN 1 (dLst dNil))
  (dSeq (dWhile (dB (dOp dGt (dVar 0) (dC (nat 0)))) (dSeq (dApp 1 (dOp dMd (dVar 0) (dC (nat 60))))
  (dAsg (.nm 0) (dOp dFd (dVar 0) (dC (nat 60))))))
  (dSeq (dWhile (dB (dOp dEqS (dIxO 1 (dC (nat 0))) (dC (nat 0)))) (dPop0 1))
  (dRet (dCB dTupOf (dCons (dFz (dRevO 1)) dNil))))))
def d__law_smooth : DS := (dSeq (dAsg (.nm 1) (dC (nat 1)))
  (dSeq (dFor (dItL (dFz (dLst (dCons (dC (nat 2)) (dCons (dC (nat 3)) (dCons (dC (nat 5)) dNil)))))) (.nm 2)
  (dFor (dRng1 (dCons (dOp dIxL (dFz (dLst (dCons (dCall0 sp__law_next (dCons (dVar 0) (dCons (dC (nat 4)) dNil))) (dCons (dCall0 sp__law_next (dCons (dVar 0) (dCons (dC (nat 10)) dNil))) dNil)))) (dCB dInt1 (dCons (dOp dEqS (dCall0 sp__law_next (dCons (dVar 0) (dCons (dC (nat 4)) dNil))) (dC (nat 3))) dNil))) dNil)) (.nm 3)
  (dAsg (.nm 1) (dOp dMul (dVar 1) (dVar 2)))))
  (dRet (dVar 1))))
def d__law_drawn : DS := (dSeq (dAsg (.nm 2) (dCall0 sp__law_next (dCons (dVar 0) (dCons (dC (nat 4)) dNil))))
  (dSeq (dIfS (dB (dOp dEqS (dVar 2) (dC (nat 0)))) (dRet (dCallX sp__law_row (dCons (dOp dAdd (dC (nat 1)) (dCall0 sp__law_next (dCons (dVar 0) (dCons (dC (nat 60)) dNil)))) dNil))) dNext)
  (dSeq (dIfS (dB (dOp dLt (dVar 2) (dC (nat 3)))) (dAsg (.nm 3) (dCallX sp__law_row (dCons (dOp dMul (dCallX sp__law_smooth (dCons (dVar 0) dNil)) (dOp dIxL (dFz (dLst (dCons (dC (nat 1)) (dCons (dC (nat 1)) (dCons (dC (nat 1)) (dCons (dC (nat 7)) (dCons (dC (nat 49)) (dCons (dC (nat 11)) dNil)))))))) (dCall0 sp__law_next (dCons (dVar 0) (dCons (dC (nat 6)) dNil))))) dNil))) (dSeq (dAsg (.nm 4) (dFz (dLc (dRng1 (dCons (dOp dAdd (dC (nat 1)) (dCall0 sp__law_next (dCons (dVar 0) (dCons (dVar 1) dNil)))) dNil)) (.nm 5) dYes (dCall0 sp__law_next (dCons (dVar 0) (dCons (dC (nat 60)) dNil))) [5])))
  (dAsg (.nm 3) (dOp dCatT (dOp dCatT (dTup (dCons (dOp dAdd (dC (nat 1)) (dCall0 sp__law_next (dCons (dVar 0) (dCons (dC (nat 59)) dNil)))) dNil)) (dCB dTupOf (dCons (dVar 4) dNil))) (dTup (dCons (dOp dAdd (dC (nat 1)) (dCall0 sp__law_next (dCons (dVar 0) (dCons (dC (nat 59)) dNil)))) dNil))))))
  (dRet (dIf (dB (dOp dGt (dOp dIxT (dSlT (dVar 3) dNoPart (dPart (dVar 1))) (dUn dNeg (dC (nat 1)))) (dC (nat 0)))) (dSlT (dVar 3) dNoPart (dPart (dVar 1))) (dTup (dCons (dC (nat 1)) (dCons (dC (nat 30)) dNil))))))))

section
variable {xs : List Dt} {P : Dt → Prop} {X : DX}
theorem pow60_lt (k : Nat) : 60 ^ k ≤ 2 ^ (6 * k) := by
  rw [Nat.pow_mul]
  exact Nat.pow_le_pow_left (by decide) k
theorem log2_lt {n k : Nat} (h : n < 2 ^ k) (hk : 0 < k) : n.log2 < k := by
  rcases Nat.eq_zero_or_pos n with rfl | hn
  · simpa using hk
  · exact (Nat.log2_lt (by omega)).mpr h
theorem range_get {n i : Nat} {x : Dt} (h : ((List.range n).map nat)[i]? = some x) : i < n ∧ x = nat i := by
  have hi : i < n := by
    have := (List.getElem?_eq_some_iff.mp h).1
    simpa using this
  rw [List.getElem?_map, List.getElem?_range hi] at h
  exact ⟨hi, (Option.some.inj h).symm⟩
theorem dp__law_whole_of (h : sp__law_whole_of xs P X) : d__law_whole_of (dEnds P) X (startD xs (3 - xs.length)) := by
  obtain ⟨r, rfl, h60, hl, q⟩ := h
  show d__law_whole_of (dEnds P) X [.v (.tup (r.map nat)), .un, .un]
  unfold d__law_whole_of
  walk_at "dgo"
  refine d_loop (fun i ρ => ∃ s, ρ = [.v (.tup (r.map nat)), .v (nat (whole (r.take i))), s]) ⟨.un, rfl⟩ ?_ ?_
  · rintro i x ρ N hx ⟨s, rfl⟩ hN
    obtain ⟨hi, rfl⟩ := range_get hx
    obtain ⟨d, hd⟩ : ∃ d, r[i]? = some d := ⟨_, List.getElem?_eq_getElem hi⟩
    walk_at "dgo"
    have hw : whole (r.take i) < 2 ^ (6 * 10000) := Nat.lt_of_lt_of_le (whole_lt (k := 10000) (fun d hd => h60 d (List.mem_of_mem_take hd)) (by rw [List.length_take]; omega)) (pow60_lt _)
    refine d_mulN (q' := 6) hw (by decide) (by decide) (by decide) (by decide) ?_
    walk_at "dgo"
    refine d_ixT (z := nat d) (by rw [List.getElem?_map, hd]; rfl) ?_
    walk_at "dgo"
    exact hN _ ⟨_, by rw [whole_take hd]⟩
  · rintro ρ ⟨s, rfl⟩
    rw [List.length_map, List.length_range, List.take_length]
    walk_at "dgo"
    exact q
theorem dp__law_row (h : sp__law_row xs P X) : d__law_row (dEnds P) X (startD xs (2 - xs.length)) := by
  obtain ⟨n, rfl, hn, hz, q⟩ := h
  show d__law_row (dEnds P) X [.v (nat n), .un]
  unfold d__law_row
  have hb : (figsL n).length ≤ 100000 := by
    refine figsL_len 100000 n ?_
    have h1 : n < 2 ^ 400000 := (Nat.log2_lt (by omega)).mp hz
    refine Nat.lt_of_lt_of_le h1 ?_
    rw [show (400000 : Nat) = 4 * 100000 by rfl, Nat.pow_mul]
    exact Nat.pow_le_pow_left (by decide) _
  walk_at "dgo"
  refine d_while (fun m ρ => ∃ l, figsL n = l ++ figsL m ∧ ρ = [.v (nat m), .ol (l.map nat)]) n ⟨[], rfl, rfl⟩ ?_
  rintro m ρ N ⟨l, e, rfl⟩ hN
  walk_at "dgo"
  by_cases hm : 0 < m
  · refine i_yes hm ?_
    walk_at "dgo"
    refine d_sz ?_ ?_
    · have := congrArg List.length e
      rw [List.length_append] at this
      rw [List.length_map]; omega
    walk_at "dgo"
    refine hN _ _ (Nat.div_lt_self hm (by decide)) ⟨l ++ [m % 60], figsL_step hm e, by rw [List.map_append]; rfl⟩
  · refine i_nay hm ?_
    have e0 : m = 0 := by omega
    subst e0
    rw [figsL_zero, List.append_nil] at e
    walk_at "dgo"
    have hs := dropZ_figs n hn
    have lr := strip_spec n hn
    -- the noughts at the end of the number go
    refine d_while (fun m ρ => ∃ k, m = k ∧ ρ = [.v (nat 0), .ol ((List.replicate k 0 ++ figsL (strip n)).map nat)]) ((figsL n).length - (figsL (strip n)).length) ⟨_, rfl, ?_⟩ ?_
    · have key : ∀ n, 0 < n → ∃ k, figsL n = List.replicate k 0 ++ figsL (strip n) := by
        intro n
        induction n using Nat.strongRecOn with
        | ind n ih =>
          intro hn
          by_cases z : n % 60 = 0
          · obtain ⟨k, hk⟩ := ih (n / 60) (by omega) (by omega)
            exact ⟨k + 1, by rw [figsL_pos hn, z, hk, strip_yes hn z]; rfl⟩
          · exact ⟨0, by rw [strip_no hn z]; rfl⟩
      obtain ⟨k, hk⟩ := key n hn
      rw [← e]
      have : (figsL n).length - (figsL (strip n)).length = k := by rw [hk]; simp
      rw [this, ← hk]
    · rintro m ρ N ⟨k, rfl, rfl⟩ hN
      walk_at "dgo"
      cases m with
      | zero =>
        rw [List.replicate_zero, List.nil_append, figsL_pos lr.1, List.map_cons]
        refine ⟨_, _, rfl, atI_nat (i := 0) rfl, ?_⟩
        have := lr.2.1
        walk_at "dgo"
        have e2 : (nat (strip n % 60) :: (figsL (strip n / 60)).map nat).reverse = (rowOf n).map nat := by
          unfold rowOf figs
          rw [List.map_reverse, figsL_pos lr.1, List.map_cons]
        rw [e2]
        exact q
      | succ m =>
        rw [List.replicate_succ, List.cons_append, List.map_cons]
        refine ⟨_, _, rfl, atI_nat (i := 0) rfl, ?_⟩
        walk_at "dgo"
        refine d_pop0 rfl ?_
        exact hN m _ (Nat.lt_succ_self m) ⟨m, rfl, rfl⟩
theorem dp__law_smooth (h : sp__law_smooth xs P X) : d__law_smooth (dEnds P) X (startD xs (4 - xs.length)) := by
  obtain ⟨rfl, q⟩ := h
  show d__law_smooth (dEnds P) X [.v .dice, .un, .un, .un]
  unfold d__law_smooth
  obtain ⟨F, hF⟩ : ∃ F, F = dFor (dRng1 (dCons (dOp dIxL (dFz (dLst (dCons (dCall0 sp__law_next (dCons (dVar 0) (dCons (dC (nat 4)) dNil))) (dCons (dCall0 sp__law_next (dCons (dVar 0) (dCons (dC (nat 10)) dNil))) dNil)))) (dCB dInt1 (dCons (dOp dEqS (dCall0 sp__law_next (dCons (dVar 0) (dCons (dC (nat 4)) dNil))) (dC (nat 3))) dNil))) dNil)) (.nm 3) (dAsg (.nm 1) (dOp dMul (dVar 1) (dVar 2))) := ⟨_, rfl⟩
  rw [← hF]
  have turn : ∀ (p f : Nat) (s3 : Sl) (D : DEnds), p ≤ 5 → f < 2 ^ 100 → (∀ j, j ≤ 9 → ∀ s, D.nx [.v .dice, .v (nat (f * p ^ j)), .v (nat p), s]) →
      F D X [.v .dice, .v (nat f), .v (nat p), s3] := by
    intro p f s3 D hp hf hq
    rw [hF]
    walk_at "dgo"
    refine d_draw (q := fun a ha => ?_)
    walk_at "dgo"
    refine d_draw (q := fun b hb => ?_)
    walk_at "dgo"
    refine d_draw (q := fun c hc => ?_)
    walk_at "dgo"
    obtain ⟨n, hn, e⟩ : ∃ n, n ≤ 9 ∧ [nat a, nat b][if decide (c = 3) = true then 1 else 0]? = some (nat n) := by
      by_cases h : c = 3
      · exact ⟨b, by omega, by rw [if_pos (decide_eq_true h)]; rfl⟩
      · exact ⟨a, by omega, by rw [if_neg (by simpa using h)]; rfl⟩
    refine d_ixL e ?_
    walk_at "dgo"
    refine d_loop (fun i ρ => ∃ s, ρ = [.v .dice, .v (nat (f * p ^ i)), .v (nat p), s]) ⟨s3, by rw [Nat.pow_zero, Nat.mul_one]⟩ ?_ ?_
    · rintro i x ρ N hx ⟨s, rfl⟩ hN
      obtain ⟨hi, rfl⟩ := range_get hx
      walk_at "dgo"
      have h1 : p ^ i ≤ 5 ^ 9 := by
        calc p ^ i ≤ 5 ^ i := Nat.pow_le_pow_left hp i
          _ ≤ 5 ^ 9 := Nat.pow_le_pow_right (by decide) (by omega)
      refine d_mulN (p := 130) (q' := 4) ?_ (by omega) (by decide) (by decide) (by decide) ?_
      · calc f * p ^ i ≤ f * 5 ^ 9 := Nat.mul_le_mul_left _ h1
          _ < 2 ^ 100 * 2 ^ 30 := Nat.mul_lt_mul'' hf (by decide)
          _ = 2 ^ 130 := by decide
      walk_at "dgo"
      exact hN _ ⟨_, by rw [Nat.pow_succ, Nat.mul_assoc]⟩
    · rintro ρ ⟨s, rfl⟩
      rw [List.length_map, List.length_range]
      exact hq n hn s
  have s2 : ∀ a, a ≤ 9 → 2 ^ a ≤ 2 ^ 9 := fun a h => Nat.pow_le_pow_right (by decide) h
  have s3 : ∀ a, a ≤ 9 → 3 ^ a ≤ 3 ^ 9 := fun a h => Nat.pow_le_pow_right (by decide) h
  walk_at "dgo"
  refine turn 2 1 _ _ (by decide) (by decide) fun a ha s => ?_
  walk_at "dgo"
  have := s2 a ha
  refine turn 3 _ _ _ (by decide) (by omega) fun b hb s => ?_
  walk_at "dgo"
  have := s3 b hb
  refine turn 5 _ _ _ (by decide) ?_ fun c hc s => ?_
  · calc 1 * 2 ^ a * 3 ^ b ≤ 1 * 2 ^ 9 * 3 ^ 9 := Nat.mul_le_mul (by omega) (s3 b hb)
      _ < 2 ^ 100 := by decide
  walk_at "dgo"
  rw [Nat.one_mul]
  exact q a b c ha hb hc
theorem dp__law_drawn (h : sp__law_drawn xs P X) : d__law_drawn (dEnds P) X (startD xs (6 - xs.length)) := by
  obtain ⟨m, rfl, hm, hm2, q⟩ := h
  show d__law_drawn (dEnds P) X [.v .dice, .v (nat m), .un, .un, .un, .un]
  unfold d__law_drawn
  have tail : ∀ (r : List Nat) (s2 s4 s5 : Sl), (∀ d ∈ r, d < 60) → r ≠ [] → r[0]? ≠ some 0 → (dRet (dIf (dB (dOp dGt (dOp dIxT (dSlT (dVar 3) dNoPart (dPart (dVar 1))) (dUn dNeg (dC (nat 1)))) (dC (nat 0)))) (dSlT (dVar 3) dNoPart (dPart (dVar 1))) (dTup (dCons (dC (nat 1)) (dCons (dC (nat 30)) dNil))))) (dEnds P) X
      [.v .dice, .v (nat m), s2, .v (.tup (r.map nat)), s4, s5] := by
    intro r s2 s4 s5 h1 h2 h3
    walk_at "dgo"
    rw [cutD_to, rowD_take]
    have hn : r.take m ≠ [] := getLast_take h2 (by omega)
    obtain ⟨x, hx⟩ : ∃ x, (r.take m).getLast? = some x := ⟨_, List.getLast?_eq_getLast hn⟩
    refine d_ixTl (z := nat x) (by rw [List.getLast?_map, hx]; rfl) ?_
    walk_at "dgo"
    by_cases h0 : 0 < x
    · refine i_yes h0 ?_
      walk_at "dgo"
      rw [cutD_to, rowD_take]
      have hl : (r.take m).length ≤ m := by rw [List.length_take]; omega
      refine q _ ⟨⟨List.length_pos_iff.mpr hn, by omega⟩, fun d hd => h1 d (List.mem_of_mem_take hd), ?_, ?_⟩ hl
      · rw [List.getElem?_take_of_lt (by omega)]; exact h3
      · rw [hx]; intro z; have := Option.some.inj z; omega
    · refine i_nay h0 ?_
      walk_at "dgo"
      exact q [1, 30] row_130 (by simpa using hm)
  walk_at "dgo"
  refine d_draw (q := fun k hk => ?_)
  walk_at "dgo"
  by_cases k0 : k = 0
  · refine i_yes k0 ?_
    walk_at "dgo"
    refine d_draw (q := fun n hn => ?_)
    walk_at "dgo"
    obtain ⟨i1, i2⟩ := isRow_one (n := 1 + n) (by omega) (by omega)
    exact ⟨1 + n, rfl, by omega, Nat.lt_trans (log2_lt (n := 1 + n) (k := 100) (by omega) (by decide)) (by decide), q _ i1 (by omega)⟩
  · refine i_nay k0 ?_
    walk_at "dgo"
    by_cases k3 : k < 3
    · refine i_yes k3 ?_
      walk_at "dgo"
      refine ⟨rfl, fun a b c ha hb hc => ?_⟩
      walk_at "dgo"
      refine d_draw (q := fun j hj => ?_)
      walk_at "dgo"
      obtain ⟨y, hy, hy1, hy2⟩ : ∃ y, [nat 1, nat 1, nat 1, nat 7, nat 49, nat 11][j]? = some (nat y) ∧ 0 < y ∧ y ≤ 49 := by
        rcases j with _ | _ | _ | _ | _ | _ | j
        · exact ⟨1, rfl, by decide, by decide⟩
        · exact ⟨1, rfl, by decide, by decide⟩
        · exact ⟨1, rfl, by decide, by decide⟩
        · exact ⟨7, rfl, by decide, by decide⟩
        · exact ⟨49, rfl, by decide, by decide⟩
        · exact ⟨11, rfl, by decide, by decide⟩
        · omega
      refine d_ixL hy ?_
      have sl := smooth_lt ha hb hc
      refine d_mulL (by omega) (by omega) ?_
      walk_at "dgo"
      have hpos : 0 < 2 ^ a * 3 ^ b * 5 ^ c * y := Nat.mul_pos (Nat.mul_pos (Nat.mul_pos (Nat.pos_of_ne_zero (by simp)) (Nat.pos_of_ne_zero (by simp))) (Nat.pos_of_ne_zero (by simp))) hy1
      have hlt : 2 ^ a * 3 ^ b * 5 ^ c * y < 2 ^ 100 := Nat.lt_of_lt_of_le (Nat.mul_lt_mul'' sl (show y < 2 ^ 6 by omega)) (by decide)
      refine ⟨_, rfl, hpos, Nat.lt_trans (log2_lt (k := 100) hlt (by decide)) (by decide), ?_⟩
      obtain ⟨w1, w2, w3⟩ := rowOf_spec hpos
      exact tail _ _ _ _ w1 w2 w3
    · refine i_nay k3 ?_
      walk_at "dgo"
      refine d_draw (by omega) (by omega) (q := fun n hn => ?_)
      walk_at "dgo"
      refine d_compR (fun y => ∃ n : Nat, y = nat n ∧ n < 60) ?_ (by simp; omega) fun ys hl hr => ?_
      · intro x hx N hN
        walk_at "dgo"
        exact d_draw (q := fun n hn => hN _ ⟨n, rfl, hn⟩)
      obtain ⟨l, rfl, h60⟩ := nats_of hr
      simp only [List.length_map, List.length_range] at hl
      walk_at "dgo"
      refine d_draw (q := fun k1 hk1 => ?_)
      walk_at "dgo"
      rw [List.nil_append]
      refine d_cat (by simp; omega) ?_
      walk_at "dgo"
      refine d_draw (q := fun k2 hk2 => ?_)
      walk_at "dgo"
      refine d_cat (by simp; omega) ?_
      have e : [nat (1 + k1)] ++ l.map nat ++ [nat (1 + k2)] = ((1 + k1) :: l ++ [1 + k2]).map nat := by simp
      rw [e]
      refine tail _ _ _ _ ?_ (by simp) ?_
      · intro x hx
        rcases List.mem_append.mp hx with hx | hx
        · rcases List.mem_cons.mp hx with rfl | hx
          · omega
          · exact h60 x hx
        · rw [List.mem_singleton.mp hx]; omega
      · intro e
        have : 1 + k1 = 0 := Option.some.inj e
        omega
end
end Dx
end
section
/-! what the program's rows module does, over data -/
open PySem L2 RT Sx Dx
local macro_rules | `(tactic| walk_at "d") => `(tactic| first
  | ((with_reducible refine' d_var ?k1 ?_); (case k1 => rfl))
  | with_reducible refine' d_c ?_
  | with_reducible refine' d_op ?_
  | with_reducible refine' d_cons ?_
  | with_reducible refine' d_nil ?_
  | with_reducible refine' d_seq ?_
  | ((with_reducible refine' d_asg1 ?_); try dsimp -proj only [List.set_cons_zero, List.set_cons_succ])
  | with_reducible refine' d_asg ?_
  | with_reducible refine' d_cb ?_
  | ((with_reducible refine' d_asgN ?_); try dsimp -proj only [List.set_cons_zero, List.set_cons_succ])
  | ((with_reducible refine' d_bnm ?_); try dsimp -proj only [List.set_cons_zero, List.set_cons_succ])
  | with_reducible refine' d_btp ?_
  | with_reducible refine' d_bcons ?_
  | with_reducible refine' d_bnil ?_
  | ((with_reducible refine' d_slO ?k1 ?_); (case k1 => rfl))
  | ((with_reducible refine' d_lenO ?k1 ?_); (case k1 => rfl))
  | ((with_reducible refine' d_ixO ?k1 ?_); (case k1 => rfl))
  | ((with_reducible refine' d_app ?k1 ?_); (case k1 => rfl))
  | ((with_reducible refine' d_frz ?k1 ?_); (case k1 => rfl); try dsimp -proj only [List.set_cons_zero, List.set_cons_succ, frzS])
  | with_reducible refine' d_lnil ?_
  | with_reducible refine' d_lcons ?_
  | with_reducible refine' d_gcd ?_
  | ((with_reducible refine' d_revO ?k1 ?_); (case k1 => rfl))
  | with_reducible refine' d_revL ?_
  | with_reducible refine' d_rev ?_
  | with_reducible refine' d_exrevL ?_
  | with_reducible refine' d_exrevT ?_
  | with_reducible refine' d_lc ?_
  | with_reducible refine' d_rng1 ?_
  | with_reducible refine' d_rng2 ?_
  | ((with_reducible refine' d_exrng ?k1 ?_); (case k1 => omega))
  | ((with_reducible refine' d_exrng2 ?k1 ?k2 ?_); (case k1 => omega); (case k2 => omega))
  | ((with_reducible refine' d_sz ?k1 ?_); (case k1 => simp; done))
  | with_reducible refine' d_tupQ ?_
  | with_reducible refine' d_lstQ ?_
  | with_reducible refine' d_callX ?_
  | with_reducible refine' d_call0 ?_
  | with_reducible refine' d_ifS ?_
  | with_reducible refine' d_B ?_
  | with_reducible refine' d_exbl ?_
  | with_reducible refine' d_ret ?_
  | with_reducible refine' d_drop ?_
  | with_reducible refine' d_next ?_
  | with_reducible refine' d_chain ?_
  | with_reducible refine' d_and ?_
  | with_reducible refine' d_or ?_
  | with_reducible refine' d_not ?_
  | with_reducible refine' d_andV ?_
  | with_reducible refine' d_orV ?_
  | with_reducible refine' d_notV ?_
  | with_reducible refine' d_if ?_
  | with_reducible refine' d_un ?_
  | with_reducible refine' d_fz ?_
  | with_reducible refine' d_addN ?_
  | ((with_reducible refine' d_subN ?k1 ?_); (case k1 => omega))
  | ((with_reducible refine' d_mdN ?k1 ?_); (case k1 => omega))
  | ((with_reducible refine' d_fdN ?k1 ?k2 ?_); (case k1 => omega); (case k2 => omega))
  | ((with_reducible refine' d_mulL ?k1 ?k2 ?_); (case k1 => omega); (case k2 => omega))
  | with_reducible refine' d_ltN ?_
  | with_reducible refine' d_leN ?_
  | with_reducible refine' d_gtN ?_
  | with_reducible refine' d_geN ?_
  | with_reducible refine' d_eqN ?_
  | with_reducible refine' d_neN ?_
  | with_reducible refine' d_negN ?_
  | with_reducible refine' d_bit ?_
  | ((with_reducible refine' d_lenT ?_); try rw [List.length_map])
  | ((with_reducible refine' d_lenL ?_); try rw [List.length_map])
  | ((with_reducible refine' d_aug ?k1 ?_); (case k1 => rfl))
  | with_reducible refine' d_slT ?_
  | with_reducible refine' d_slL ?_
  | with_reducible refine' d_exsT ?_
  | with_reducible refine' d_exsL ?_
  | with_reducible refine' d_nopart ?_
  | with_reducible refine' dw_part ?_
  | with_reducible refine' d_exint ?_
  | with_reducible refine' d_yes1 ?_
  | with_reducible refine' d_itT ?_
  | with_reducible refine' d_itL ?_
  | with_reducible refine' d_itK ?_
  | with_reducible refine' d_exsK ?_
  | with_reducible refine' d_for ?_
  | with_reducible refine' d_tupL ?_
  | with_reducible refine' d_tupT ?_
  | with_reducible refine' i_iteT ?_
  | with_reducible refine' i_iteNT ?_
  | with_reducible refine' i_iteNF ?_
  | with_reducible refine' i_iteF ?_
  | ((with_reducible refine' i_yes ?k1 ?_); (case k1 => omega))
  | ((with_reducible refine' i_nay ?k1 ?_); (case k1 => omega))
  | ((with_reducible refine' i_yesN ?k1 ?_); (case k1 => omega))
  | ((with_reducible refine' i_nayN ?k1 ?_); (case k1 => omega)))
local macro_rules | `(tactic| walk_at "dgo") => `(tactic| (repeat walk_at "d"; try dsimp -proj only [List.set_cons_zero, List.set_cons_succ]))
namespace Dx
/-- figures of a row of any length -/
def longB (r : List Int) : Bool := !r.isEmpty && r.all (fun d => decide (0 ≤ d) && decide (d ≤ 59)) && r[0]? != some 0 && r.getLast? != some 0
def rowB (r : List Int) : Bool := decide (r.length ≤ 12) && longB r
structure LongRow (r : List Nat) : Prop where
  ne : r ≠ []
  fig : ∀ d ∈ r, d < 60
  hd : r[0]? ≠ some 0
  last : r.getLast? ≠ some 0
theorem IsRow.long {r : List Nat} (h : IsRow r) : LongRow r := ⟨row_ne h, h.fig, h.hd, h.last⟩
theorem longB_iff {r : List Int} : longB r = true ↔ ∃ n : List Nat, LongRow n ∧ r = n.map fun k : Nat => (k : Int) := by
  constructor
  · intro h
    unfold longB at h
    simp only [Bool.and_eq_true, Bool.not_eq_true', List.isEmpty_eq_false_iff, List.all_eq_true, decide_eq_true_eq, bne_iff_ne, ne_eq] at h
    obtain ⟨⟨⟨h1, h2⟩, h3⟩, h4⟩ := h
    have e : r = (r.map Int.toNat).map fun k : Nat => (k : Int) := by
      rw [List.map_map]
      conv => lhs; rw [← List.map_id r]
      refine List.map_congr_left fun x hx => ?_
      have := h2 x hx
      simp
      omega
    refine ⟨r.map Int.toNat, ⟨by simpa using h1, fun d hd => ?_, fun z => h3 ?_, fun z => h4 ?_⟩, e⟩
    · obtain ⟨x, hx, rfl⟩ := List.mem_map.mp hd
      have := h2 x hx
      omega
    · rw [e, List.getElem?_map, z]; rfl
    · rw [e, List.getLast?_map, z]; rfl
  · rintro ⟨n, h, rfl⟩
    unfold longB
    simp only [Bool.and_eq_true, Bool.not_eq_true', List.isEmpty_eq_false_iff, List.all_eq_true, decide_eq_true_eq, bne_iff_ne, ne_eq]
    refine ⟨⟨⟨by simpa using h.ne, fun x hx => ?_⟩, fun z => h.hd ?_⟩, fun z => h.last ?_⟩
    · obtain ⟨k, hk, rfl⟩ := List.mem_map.mp hx
      have := h.fig k hk
      omega
    · rw [List.getElem?_map] at z
      cases e : n[0]? with
      | none => rw [e] at z; cases z
      | some k => rw [e] at z; have : (k : Int) = 0 := Option.some.inj z; congr 1; omega
    · rw [List.getLast?_map] at z
      cases e : n.getLast? with
      | none => rw [e] at z; cases z
      | some k => rw [e] at z; have : (k : Int) = 0 := Option.some.inj z; congr 1; omega
theorem rowB_iff {r : List Int} : rowB r = true ↔ ∃ n : List Nat, IsRow n ∧ r = n.map fun k : Nat => (k : Int) := by
  unfold rowB
  rw [Bool.and_eq_true, longB_iff, decide_eq_true_eq]
  constructor
  · rintro ⟨h, n, l, rfl⟩
    rw [List.length_map] at h
    exact ⟨n, ⟨⟨List.length_pos_iff.mpr l.ne, h⟩, l.fig, l.hd, l.last⟩, rfl⟩
  · rintro ⟨n, i, rfl⟩
    exact ⟨by rw [List.length_map]; exact i.len.2, n, IsRow.long i, rfl⟩
def sp_is_long_row : DSp := fun xs P _ => ∃ r : List Int, xs = [rowI r] ∧ P (.bl (longB r))
def sp_is_row : DSp := fun xs P _ => ∃ r : List Int, xs = [rowI r] ∧ P (.bl (rowB r))
def sp_check_row : DSp := fun xs P X => (∃ r, IsRow r ∧ xs = [rowD r] ∧ P .non) ∨ ∃ r, rowB r = false ∧ xs = [rowI r] ∧ X 1 []
def sp_number_of : DSp := fun xs P _ => ∃ r : List Nat, xs = [rowD r] ∧ (∀ d ∈ r, d < 60) ∧ r.length ≤ 10000 ∧ P (nat (whole r))
def sp_whole_of : DSp := fun xs P X => (∃ r, IsRow r ∧ xs = [rowD r] ∧ P (nat (whole r))) ∨ ∃ r, rowB r = false ∧ xs = [rowI r] ∧ X 1 []
def sp_figures_of : DSp := fun xs P _ => ∃ n, xs = [nat n] ∧ 0 < n ∧ n.log2 < 8900 ∧ P (rowD (figs n))
def sp_row_of : DSp := fun xs P _ => ∃ n, xs = [nat n] ∧ 0 < n ∧ n.log2 < 8900 ∧ P (rowD (rowOf n))
def sp_times : DSp := fun xs P X => (∃ r s, IsRow r ∧ IsRow s ∧ xs = [rowD r, rowD s] ∧ P (rowD (rowOf (whole r * whole s)))) ∨
  (∃ r y, rowB r = false ∧ xs = [rowI r, y] ∧ X 1 []) ∨ ∃ r s, IsRow r ∧ rowB s = false ∧ xs = [rowD r, rowI s] ∧ X 1 []
def sp_cast : DSp := fun xs P X => (∃ r, IsRow r ∧ xs = [rowD r] ∧ P (nat (r.sum % 59))) ∨ ∃ r, rowB r = false ∧ xs = [rowI r] ∧ X 1 []
def d_is_long_row : DS := (dSeq (dIfS (dOr (dB (dOp dEqS (dCB dLen (dCons (dVar 0) dNil)) (dC (nat 0)))) (dOr (dB (dOp dLt (dCB dMinT (dCons (dVar 0) dNil)) (dC (nat 0)))) (dB (dOp dGt (dCB dMaxT (dCons (dVar 0) dNil)) (dC (nat 59)))))) (dRet (dC (.bl false))) dNext)
  (dRet (dAndV (dOp dNeS (dOp dIxT (dVar 0) (dC (nat 0))) (dC (nat 0))) (dOp dNeS (dOp dIxT (dVar 0) (dUn dNeg (dC (nat 1)))) (dC (nat 0))))))
def d_is_row : DS := (dRet (dAndV (dOp dLe (dCB dLen (dCons (dVar 0) dNil)) (dC (nat 12))) (dCallX sp_is_long_row (dCons (dVar 0) dNil))))
def d_check_row : DS := (dIfS (dNot (dB (dCallX sp_is_row (dCons (dVar 0) dNil)))) (dRaise0 1) dNext)
def d_number_of : DS := (dSeq (dAsg (.nm 1) (dC (nat 0)))
  (dSeq (dFor (dItT (dVar 0)) (.nm 2)
  (dAsg (.nm 1) (dOp dAdd (dOp dMul (dVar 1) (dC (nat 60))) (dVar 2))))
  (dRet (dVar 1))))
def d_whole_of : DS := (dSeq (dDrop (dCallX sp_check_row (dCons (dVar 0) dNil)))
  (dRet (dCallX sp_number_of (dCons (dVar 0) dNil))))
def d_figures_of : DS := (dSeq (dAsgN 1 (dLst (dCons (dC (nat 60)) dNil)))
  (dSeq (dWhile (dB (dOp dLe (dIxO 1 (dUn dNeg (dC (nat 1)))) (dVar 0))) (dApp 1 (dOp dMul (dIxO 1 (dUn dNeg (dC (nat 1)))) (dIxO 1 (dUn dNeg (dC (nat 1)))))))
  (dSeq (dAsg (.nm 2) (dFz (dLst (dCons (dVar 0) dNil))))
  (dSeq (dFor (dRev (dFz (dSlO 1 dNoPart (dPart (dUn dNeg (dC (nat 1))))))) (.nm 3)
  (dAsg (.nm 2) (dFz (dLc2 (dItL (dVar 2)) (.nm 5) dYes (dItT (dCB dDivmod (dCons (dVar 5) (dCons (dVar 3) dNil)))) (.nm 6) dYes (dVar 6) [5, 6] [6]))))
  (dSeq (dAsg (.nm 4) (dC (nat 0)))
  (dSeq (dWhile (dB (dOp dEqS (dOp dIxL (dVar 2) (dVar 4)) (dC (nat 0)))) (dAug 4 dAdd (dC (nat 1))))
  (dRet (dCB dTupOf (dCons (dFz (dSlL (dVar 2) (dPart (dVar 4)) dNoPart)) dNil)))))))))
def d_row_of : DS := (dSeq (dAsg (.nm 1) (dCallX sp_figures_of (dCons (dVar 0) dNil)))
  (dSeq (dAsg (.nm 2) (dCB dLen (dCons (dVar 1) dNil)))
  (dSeq (dWhile (dB (dOp dEqS (dOp dIxT (dVar 1) (dOp dSub (dVar 2) (dC (nat 1)))) (dC (nat 0)))) (dAug 2 dSub (dC (nat 1))))
  (dRet (dSlT (dVar 1) dNoPart (dPart (dVar 2)))))))
def d_times : DS := (dRet (dCallX sp_row_of (dCons (dOp dMul (dCallX sp_whole_of (dCons (dVar 0) dNil)) (dCallX sp_whole_of (dCons (dVar 1) dNil))) dNil)))
def d_cast : DS := (dSeq (dDrop (dCallX sp_check_row (dCons (dVar 0) dNil)))
  (dRet (dOp dMd (dCB dSumT (dCons (dVar 0) dNil)) (dC (nat 59)))))

section
variable {xs : List Dt} {P : Dt → Prop} {X : DX}
theorem dp_is_long_row (h : sp_is_long_row xs P X) : d_is_long_row (dEnds P) X (startD xs (1 - xs.length)) := by
  obtain ⟨r, rfl, q⟩ := h
  show d_is_long_row (dEnds P) X [.v (.tup (r.map Dt.int))]
  unfold d_is_long_row
  have no : ∀ c : Bool, c = false → longB r = c → P (.bl false) := fun c e h => by rw [h, e] at q; exact q
  walk_at "dgo"
  by_cases h0 : r = []
  · subst h0
    refine i_yes rfl ?_
    walk_at "dgo"
    exact q
  · refine i_nay (by simpa using h0) ?_
    have hp : 0 < r.length := List.length_pos_iff.mpr h0
    walk_at "dgo"
    refine ⟨r, rfl, hp, fun m hm hmin => ?_⟩
    walk_at "dgo"
    refine d_ltI ?_
    walk_at "dgo"
    by_cases h1 : m < ((0 : Nat) : Int)
    · refine i_yes h1 ?_
      walk_at "dgo"
      refine no _ rfl ?_
      cases e : longB r with
      | false => rfl
      | true =>
        obtain ⟨n, ln, rfl⟩ := longB_iff.mp e
        obtain ⟨k, hk, rfl⟩ := List.mem_map.mp hm
        omega
    · refine i_nay h1 ?_
      walk_at "dgo"
      refine ⟨r, rfl, hp, fun M hM hmax => ?_⟩
      walk_at "dgo"
      refine d_gtI ?_
      walk_at "dgo"
      by_cases h2 : ((59 : Nat) : Int) < M
      · refine i_yes h2 ?_
        walk_at "dgo"
        refine no _ rfl ?_
        cases e : longB r with
        | false => rfl
        | true =>
          obtain ⟨n, ln, rfl⟩ := longB_iff.mp e
          obtain ⟨k, hk, rfl⟩ := List.mem_map.mp hM
          have := ln.fig k hk
          omega
      · refine i_nay h2 ?_
        walk_at "dgo"
        obtain ⟨d, hd⟩ : ∃ d, r[0]? = some d := ⟨_, List.getElem?_eq_getElem hp⟩
        obtain ⟨l, hl⟩ : ∃ l, r.getLast? = some l := ⟨_, List.getLast?_eq_getLast h0⟩
        refine d_ixT (z := .int d) (by rw [List.getElem?_map, hd]; rfl) ?_
        walk_at "dgo"
        refine d_neI ?_
        have el : longB r = ((!decide (d = 0)) && !decide (l = 0)) := by
          unfold longB
          have e1 : r.isEmpty = false := by cases r <;> simp_all
          have e2 : r.all (fun d => decide (0 ≤ d) && decide (d ≤ 59)) = true := by
            rw [List.all_eq_true]
            intro x hx
            have := hmin x hx
            have := hmax x hx
            simp only [Bool.and_eq_true, decide_eq_true_eq]
            omega
          rw [e1, e2, hd, hl]
          simp [bne]; rfl
        rw [el] at q
        by_cases h3 : d = ((0 : Nat) : Int)
        · refine ⟨_, rfl, i_nayN h3 ?_⟩
          rw [show decide (d = 0) = true from decide_eq_true h3] at q
          exact q
        · refine ⟨_, rfl, i_yesN h3 ?_⟩
          rw [show decide (d = 0) = false from decide_eq_false h3] at q
          walk_at "dgo"
          refine d_ixTl (z := .int l) (by rw [List.getLast?_map, hl]; rfl) ?_
          walk_at "dgo"
          exact d_neI q
theorem dp_is_row (h : sp_is_row xs P X) : d_is_row (dEnds P) X (startD xs (1 - xs.length)) := by
  obtain ⟨r, rfl, q⟩ := h
  show d_is_row (dEnds P) X [.v (.tup (r.map Dt.int))]
  unfold d_is_row
  walk_at "dgo"
  unfold rowB at q
  by_cases h : r.length ≤ 12
  · rw [decide_eq_true h] at q
    refine i_yes h ?_
    walk_at "dgo"
    exact ⟨r, rfl, q⟩
  · rw [decide_eq_false h] at q
    exact i_nay h q
theorem dp_check_row (h : sp_check_row xs P X) : d_check_row (dEnds P) X (startD xs (1 - xs.length)) := by
  unfold d_check_row
  rcases h with ⟨r, ir, rfl, q⟩ | ⟨r, hr, rfl, q⟩
  · show (dIfS _ _ _) (dEnds P) X [.v (rowD r)]
    walk_at "dgo"
    refine ⟨_, by rw [rowD_I], ?_⟩
    rw [rowB_iff.mpr ⟨r, ir, rfl⟩]
    walk_at "dgo"
    exact q
  · show (dIfS _ _ _) (dEnds P) X [.v (rowI r)]
    walk_at "dgo"
    refine ⟨_, rfl, ?_⟩
    rw [hr]
    walk_at "dgo"
    exact q
theorem dp_number_of (h : sp_number_of xs P X) : d_number_of (dEnds P) X (startD xs (3 - xs.length)) := by
  obtain ⟨r, rfl, h60, hl, q⟩ := h
  show d_number_of (dEnds P) X [.v (.tup (r.map nat)), .un, .un]
  unfold d_number_of
  walk_at "dgo"
  refine d_loop (fun i ρ => ∃ s, ρ = [.v (.tup (r.map nat)), .v (nat (whole (r.take i))), s]) ⟨.un, rfl⟩ ?_ ?_
  · rintro i x ρ N hx ⟨s, rfl⟩ hN
    rw [List.getElem?_map] at hx
    cases e : r[i]? with
    | none => rw [e] at hx; cases hx
    | some d =>
      rw [e] at hx
      obtain rfl := Option.some.inj hx
      walk_at "dgo"
      have hw : whole (r.take i) < 2 ^ (6 * 10000) := Nat.lt_of_lt_of_le (whole_lt (k := 10000) (fun d hd => h60 d (List.mem_of_mem_take hd)) (by rw [List.length_take]; omega)) (pow60_lt _)
      refine d_mulN (q' := 6) hw (by decide) (by decide) (by decide) (by decide) ?_
      walk_at "dgo"
      exact hN _ ⟨_, by rw [whole_take e]⟩
  · rintro ρ ⟨s, rfl⟩
    rw [List.length_map, List.take_length]
    walk_at "dgo"
    exact q
theorem dp_whole_of (h : sp_whole_of xs P X) : d_whole_of (dEnds P) X (startD xs (1 - xs.length)) := by
  unfold d_whole_of
  rcases h with ⟨r, ir, rfl, q⟩ | ⟨r, hr, rfl, q⟩
  · show (dSeq _ _) (dEnds P) X [.v (rowD r)]
    walk_at "dgo"
    refine .inl ⟨r, ir, rfl, ?_⟩
    walk_at "dgo"
    exact ⟨r, rfl, ir.fig, by have := ir.len.2; omega, q⟩
  · show (dSeq _ _) (dEnds P) X [.v (rowI r)]
    walk_at "dgo"
    exact .inr ⟨r, hr, rfl, q⟩
theorem dp_cast (h : sp_cast xs P X) : d_cast (dEnds P) X (startD xs (1 - xs.length)) := by
  unfold d_cast
  rcases h with ⟨r, ir, rfl, q⟩ | ⟨r, hr, rfl, q⟩
  · show (dSeq _ _) (dEnds P) X [.v (rowD r)]
    walk_at "dgo"
    refine .inl ⟨r, ir, rfl, ?_⟩
    walk_at "dgo"
    refine ⟨_, by rw [rowD_I]; rfl, ?_⟩
    rw [sum_cast]
    walk_at "dgo"
    exact q
  · show (dSeq _ _) (dEnds P) X [.v (rowI r)]
    walk_at "dgo"
    exact .inr ⟨r, hr, rfl, q⟩
/-! figures by halves of halves -/
def wholeB (B : Nat) (l : List Nat) : Nat := l.foldl (fun a d => a * B + d) 0
theorem wholeB_acc (B : Nat) : ∀ (l : List Nat) (a : Nat), l.foldl (fun a d => a * B + d) a = a * B ^ l.length + wholeB B l
  | [], a => by simp [wholeB]
  | d :: l, a => by
    unfold wholeB
    rw [List.foldl_cons, List.foldl_cons, wholeB_acc B l (a * B + d), wholeB_acc B l (0 * B + d), List.length_cons, Nat.pow_succ, Nat.zero_mul, Nat.zero_add, Nat.add_mul]
    unfold wholeB
    rw [Nat.mul_assoc, Nat.mul_comm (B ^ l.length)]
    omega
theorem wholeB_split {B : Nat} (hB : 0 < B) : ∀ l : List Nat, wholeB B (l.flatMap fun p => [p / B, p % B]) = wholeB (B * B) l := by
  intro l
  have key : ∀ (l : List Nat) (a : Nat), (l.flatMap fun p => [p / B, p % B]).foldl (fun a d => a * B + d) a = l.foldl (fun a d => a * (B * B) + d) a := by
    intro l
    induction l with
    | nil => intro a; rfl
    | cons p l ih =>
      intro a
      rw [List.flatMap_cons, List.cons_append, List.cons_append, List.nil_append, List.foldl_cons, List.foldl_cons, ih, List.foldl_cons]
      congr 1
      have := Nat.div_add_mod p B
      rw [Nat.add_mul, Nat.mul_assoc, Nat.add_assoc]
      congr 1
      rw [Nat.mul_comm (p / B)]; exact this
  exact key l 0
theorem wholeB_60 (l : List Nat) : wholeB 60 l = whole l := rfl
/-- the powers: sixty, squared and squared -/
def pw (i : Nat) : Nat := 60 ^ 2 ^ i
theorem pw_succ (i : Nat) : pw (i + 1) = pw i * pw i := by unfold pw; rw [Nat.pow_succ, Nat.pow_mul, Nat.pow_two]
theorem pw_pos (i : Nat) : 0 < pw i := Nat.pos_of_ne_zero (by unfold pw; simp)
theorem pw_lt (i : Nat) : pw i < pw (i + 1) := by
  rw [pw_succ]
  have h : 2 ≤ pw i := by
    unfold pw
    calc 2 ≤ 60 ^ 1 := by decide
      _ ≤ 60 ^ 2 ^ i := Nat.pow_le_pow_right (by decide) (Nat.pos_of_ne_zero (by simp))
  calc pw i < pw i * 2 := by have := pw_pos i; omega
    _ ≤ pw i * pw i := Nat.mul_le_mul_left _ h
theorem pw_gt (i : Nat) : i < pw i := by
  induction i with
  | zero => exact pw_pos 0
  | succ i ih => have := pw_lt i; omega
theorem getLast_range (n : Nat) : ((List.range (n + 1)).map fun i => nat (pw i)).getLast? = some (nat (pw n)) := by
  rw [List.range_succ, List.map_append]; simp
theorem dropLast_range (n : Nat) : ((List.range (n + 1)).map fun i => nat (pw i)).dropLast = (List.range n).map fun i => nat (pw i) := by
  rw [List.range_succ, List.map_append]; simp
theorem log2_le {m n : Nat} (h : m ≤ n) : m.log2 ≤ n.log2 := by
  rcases Nat.eq_zero_or_pos m with rfl | hm
  · simp
  · exact (Nat.le_log2 (by omega)).mpr (Nat.le_trans (Nat.log2_self_le (by omega)) h)
theorem log2_mul_lt {m n k : Nat} (hm : m.log2 < k) (hn : n.log2 < k) : (m * n).log2 < 2 * k := by
  have h1 : m < 2 ^ k := by
    rcases Nat.eq_zero_or_pos m with rfl | h
    · exact Nat.pos_of_ne_zero (by simp)
    · exact (Nat.log2_lt (by omega)).mp hm
  have h2 : n < 2 ^ k := by
    rcases Nat.eq_zero_or_pos n with rfl | h
    · exact Nat.pos_of_ne_zero (by simp)
    · exact (Nat.log2_lt (by omega)).mp hn
  refine log2_lt ?_ (by omega)
  rw [Nat.two_mul, Nat.pow_add]
  exact Nat.mul_lt_mul'' h1 h2
theorem whole_dropZ {l : List Nat} {j : Nat} (h : ∀ i, i < j → l[i]? = some 0) (hj : j ≤ l.length) : whole (l.drop j) = whole l := by
  have e : l.take j = List.replicate j 0 := by
    refine List.ext_getElem? fun i => ?_
    by_cases hi : i < j
    · rw [List.getElem?_take_of_lt hi, h i hi, List.getElem?_replicate, if_pos hi]
    · rw [List.getElem?_eq_none (by rw [List.length_take]; omega), List.getElem?_eq_none (by simp; omega)]
  have z : ∀ j, wholeB 60 (List.replicate j 0) = 0 := by
    intro j
    induction j with
    | zero => rfl
    | succ j ih =>
      show (List.replicate (j + 1) 0).foldl (fun a d => a * 60 + d) 0 = 0
      rw [List.replicate_succ, List.foldl_cons]; exact ih
  conv => rhs; rw [← List.take_append_drop j l]
  rw [e]
  show _ = (List.replicate j 0 ++ l.drop j).foldl (fun a d => a * 60 + d) 0
  rw [List.foldl_append, wholeB_acc]
  have := z j
  unfold wholeB at this
  rw [this]
  rw [Nat.zero_mul, Nat.zero_add]; rfl
theorem two_le_pw (i : Nat) : 2 ^ (5 * 2 ^ i) ≤ pw i := by
  unfold pw
  rw [Nat.pow_mul]
  exact Nat.pow_le_pow_left (by decide) _
theorem pw_small {n i : Nat} (h : pw i ≤ n) (hz : n.log2 < 8900) : 2 ^ i < 2000 := by
  have h1 := Nat.le_trans (two_le_pw i) h
  have h0 : n ≠ 0 := by have := pw_pos i; omega
  have h2 := (Nat.le_log2 h0).mpr h1
  omega
theorem flat_nat {B : Nat} (l : List Nat) : ((l.map nat).flatMap fun x => match x with | .int z => [nat (z.toNat / B), nat (z.toNat % B)] | _ => []) = (l.flatMap fun p => [p / B, p % B]).map nat := by
  induction l with
  | nil => rfl
  | cons a l ih =>
    rw [List.map_cons, List.flatMap_cons, List.flatMap_cons, ih, List.map_append]
    rfl
theorem flat2_len {B : Nat} (l : List Nat) : (l.flatMap fun p => [p / B, p % B]).length = l.length * 2 := by
  induction l with
  | nil => rfl
  | cons a l ih => rw [List.flatMap_cons, List.length_append, ih, List.length_cons]; simp; omega
theorem rev_range_get {k i : Nat} {x : Dt} (h : (((List.range k).map fun i => nat (pw i)).reverse)[i]? = some x) : i < k ∧ x = nat (pw (k - 1 - i)) := by
  have hi : i < k := by
    have := (List.getElem?_eq_some_iff.mp h).1
    simpa using this
  rw [List.getElem?_reverse (by simpa using hi), List.getElem?_map, List.length_map, List.length_range, List.getElem?_range (by omega)] at h
  exact ⟨hi, (Option.some.inj h).symm⟩
theorem dp_figures_of (h : sp_figures_of xs P X) : d_figures_of (dEnds P) X (startD xs (7 - xs.length)) := by
  obtain ⟨n, rfl, hn, hz, q⟩ := h
  show d_figures_of (dEnds P) X [.v (nat n), .un, .un, .un, .un, .un, .un]
  unfold d_figures_of
  walk_at "dgo"
  refine d_while (fun m ρ => ∃ k, m + k = n ∧ (k = 0 ∨ pw (k - 1) ≤ n) ∧ ρ = [.v (nat n), .ol ((List.range (k + 1)).map fun i => nat (pw i)), .un, .un, .un, .un, .un]) n ⟨0, rfl, .inl rfl, rfl⟩ ?_
  rintro m ρ N ⟨k, hm, hk, rfl⟩ hN
  have hk2 : k ≤ 100 := by
    rcases hk with rfl | h
    · decide
    · have h1 := pw_small h hz
      have h2 : k - 1 < 2 ^ (k - 1) := Nat.lt_two_pow_self
      rcases Nat.lt_or_ge (k - 1) 100 with h3 | h3
      · omega
      · have h4 : 2 ^ 100 ≤ 2 ^ (k - 1) := Nat.pow_le_pow_right (by decide) h3
        have h5 : (2000 : Nat) < 2 ^ 100 := by decide
        omega
  walk_at "dgo"
  refine ⟨_, _, rfl, atI_last (getLast_range k), ?_⟩
  walk_at "dgo"
  by_cases hc : pw k ≤ n
  · refine i_yes hc ?_
    have hp := Nat.lt_of_le_of_lt (log2_le hc) hz
    walk_at "dgo"
    refine ⟨_, _, rfl, atI_last (getLast_range k), ?_⟩
    walk_at "dgo"
    refine ⟨_, _, rfl, atI_last (getLast_range k), ?_⟩
    refine d_mulB (by omega) (by omega) ?_
    refine d_sz (by simp; omega) ?_
    have hkn : k < n := Nat.lt_of_lt_of_le (pw_gt k) hc
    refine hN (m - 1) _ (by omega) ⟨k + 1, by omega, .inr hc, ?_⟩
    rw [← pw_succ, List.range_succ (n := k + 1), List.map_append]
    rfl
  · refine i_nay hc ?_
    walk_at "dgo"
    rw [cutD_init, dropLast_range]
    have kb : 2 ^ k ≤ 4000 := by
      rcases hk with rfl | h
      · decide
      · have h1 := pw_small h hz
        rcases Nat.eq_zero_or_pos k with rfl | h0
        · decide
        · rw [show k = (k - 1) + 1 by omega, Nat.pow_succ]; omega
    refine d_loop (fun i ρ => ∃ (l : List Nat) (s3 s5 s6 : Sl), i ≤ k ∧ wholeB (pw (k - i)) l = n ∧ (∀ d ∈ l, d < pw (k - i)) ∧ l.length = 2 ^ i ∧
      ρ = [.v (nat n), .ol ((List.range (k + 1)).map fun i => nat (pw i)), .v (.lst (l.map nat)), s3, .un, s5, s6]) ⟨[n], .un, .un, .un, Nat.zero_le _, by unfold wholeB; simp, by simpa using hc, rfl, rfl⟩ ?_ ?_
    · rintro i x ρ N2 hx ⟨l, s3, s5, s6, hi, hw, hb, hl, rfl⟩ hN2
      obtain ⟨hik, rfl⟩ := rev_range_get hx
      walk_at "dgo"
      refine d_lc2 ?_
      walk_at "dgo"
      have hB := pw_pos (k - 1 - i)
      have e1 : k - i = (k - 1 - i) + 1 := by omega
      have el := flat_nat (B := pw (k - 1 - i)) l
      have hl2 : (l.flatMap fun p => [p / pw (k - 1 - i), p % pw (k - 1 - i)]).length = 2 ^ (i + 1) := by
        rw [flat2_len, Nat.pow_succ, ← hl]
      have hi4 : 2 ^ (i + 1) ≤ 4000 := Nat.le_trans (Nat.pow_le_pow_right (by decide) (by omega)) kb
      refine d_comp2M (fun x => match x with | .int z => [nat (z.toNat / pw (k - 1 - i)), nat (z.toNat % pw (k - 1 - i))] | _ => []) ?_ ?_ ?_
      · intro x hx acc N3 hacc h3
        obtain ⟨p, hp, rfl⟩ := List.mem_map.mp hx
        simp only [Int.toNat_natCast, List.length_cons, List.length_nil] at hacc h3
        walk_at "dgo"
        refine d_divmod hB ?_ ?_
        · rcases hk with rfl | h
          · omega
          · have h1 : pw (k - 1 - i) ≤ pw (k - 1) := by
              unfold pw
              exact Nat.pow_le_pow_right (by decide) (Nat.pow_le_pow_right (by decide) (by omega))
            have := log2_le (Nat.le_trans h1 h)
            omega
        walk_at "dgo"
        refine d_c1cons ?_
        walk_at "dgo"
        refine d_sz (by omega) (d_c1cons ?_)
        walk_at "dgo"
        refine d_sz (by simp; omega) (d_c1nil ?_)
        rw [List.append_assoc]
        exact h3
      · rw [el]; simp only [List.length_map, hl2, List.length_nil]; omega
      · rw [el, List.nil_append]
        refine hN2 _ ⟨l.flatMap fun p => [p / pw (k - 1 - i), p % pw (k - 1 - i)], _, s5, s6, by omega, ?_, ?_, hl2, rfl⟩
        · rw [show k - (i + 1) = k - 1 - i by omega, wholeB_split hB, ← pw_succ, ← e1]; exact hw
        · intro d hd
          obtain ⟨p, hp, hd⟩ := List.mem_flatMap.mp hd
          have := hb p hp
          rw [show k - (i + 1) = k - 1 - i by omega]
          rw [e1, pw_succ] at this
          simp only [List.mem_cons, List.not_mem_nil, or_false] at hd
          rcases hd with rfl | rfl
          · exact (Nat.div_lt_iff_lt_mul hB).mpr this
          · exact Nat.mod_lt _ hB
    · rintro ρ ⟨l, s3, s5, s6, hi, hw, hb, hl, rfl⟩
      have hlen : (((List.range k).map fun i => nat (pw i)).reverse).length = k := by simp
      rw [hlen] at hw hb hl hi
      rw [Nat.sub_self] at hw hb
      have hw' : whole l = n := hw
      have hb' : ∀ d ∈ l, d < 60 := hb
      walk_at "dgo"
      refine d_while (fun m ρ => ∃ j, m + j = l.length ∧ (∀ i, i < j → l[i]? = some 0) ∧ ρ = [.v (nat n), .ol ((List.range (k + 1)).map fun i => nat (pw i)), .v (.lst (l.map nat)), s3, .v (nat j), s5, s6]) l.length ⟨0, rfl, fun i h => by omega, rfl⟩ ?_
      rintro m' ρ N4 ⟨j, hm', hj, rfl⟩ hN4
      have hlt : j < l.length := by
        rcases Nat.lt_or_ge j l.length with h | h
        · exact h
        · exfalso
          have e : l.drop j = [] := List.drop_of_length_le h
          have := whole_dropZ hj (by omega)
          rw [e, hw'] at this
          have : whole [] = 0 := rfl
          omega
      obtain ⟨d, hd⟩ : ∃ d, l[j]? = some d := ⟨_, List.getElem?_eq_getElem hlt⟩
      walk_at "dgo"
      refine d_ixL (z := nat d) (by rw [List.getElem?_map, hd]; rfl) ?_
      walk_at "dgo"
      by_cases h0 : d = 0
      · refine i_yes h0 ?_
        walk_at "dgo"
        refine hN4 (m' - 1) _ (by omega) ⟨j + 1, by omega, fun i hi => ?_, rfl⟩
        rcases Nat.lt_or_ge i j with h | h
        · exact hj i h
        · rw [show i = j by omega, hd, h0]
      · refine i_nay h0 ?_
        walk_at "dgo"
        rw [cutD_from, rowD_drop]
        have hw2 := whole_dropZ hj (by omega)
        have e : figs n = l.drop j := by
          rw [← hw', ← hw2]
          refine figs_whole (fun d hd => hb' d (List.mem_of_mem_drop hd)) ?_
          rw [List.getElem?_drop, Nat.add_zero, hd]
          intro z
          exact h0 (Option.some.inj z)
        rw [e] at q
        exact q
theorem figs_strip {n : Nat} (hn : 0 < n) : ∃ k, figs n = rowOf n ++ List.replicate k 0 := by
  induction n using Nat.strongRecOn with
  | ind n ih =>
    by_cases e : n % 60 = 0
    · obtain ⟨k, hk⟩ := ih (n / 60) (by omega) (by omega)
      refine ⟨k + 1, ?_⟩
      have h1 : figs n = figs (n / 60) ++ [0] := by
        unfold figs
        rw [figsL_pos hn, List.reverse_cons, e]
      have h2 : rowOf n = rowOf (n / 60) := by unfold rowOf; rw [strip_yes hn e]
      rw [h1, hk, h2, List.append_assoc, List.replicate_succ']
    · refine ⟨0, ?_⟩
      unfold rowOf
      rw [strip_no hn e]; simp
theorem rowOf_long {n : Nat} (h : 0 < n) : LongRow (rowOf n) := by
  obtain ⟨h1, h2, _⟩ := strip_spec n h
  exact ⟨fun e => by have := figs_len1 h1; unfold rowOf at e; rw [e] at this; simp at this, figs_lt _, figs_head h1, figs_last h1 h2⟩
theorem dp_row_of (h : sp_row_of xs P X) : d_row_of (dEnds P) X (startD xs (3 - xs.length)) := by
  obtain ⟨n, rfl, hn, hz, q⟩ := h
  show d_row_of (dEnds P) X [.v (nat n), .un, .un]
  unfold d_row_of
  walk_at "dgo"
  refine ⟨n, rfl, hn, hz, ?_⟩
  walk_at "dgo"
  unfold rowD
  walk_at "dgo"
  obtain ⟨k, hk⟩ := figs_strip hn
  have lr := rowOf_long hn
  have hl : (figs n).length = (rowOf n).length + k := by rw [hk]; simp
  have hp : 0 < (rowOf n).length := List.length_pos_iff.mpr lr.ne
  refine d_while (fun m ρ => m ≤ k ∧ ρ = [.v (nat n), .v (.tup ((figs n).map nat)), .v (nat ((rowOf n).length + m))]) k ⟨Nat.le_refl _, by rw [hl]⟩ ?_
  rintro m ρ N ⟨hm, rfl⟩ hN
  walk_at "dgo"
  rcases Nat.eq_zero_or_pos m with rfl | h0
  · obtain ⟨l, hl2⟩ : ∃ l, (rowOf n).getLast? = some l := ⟨_, List.getLast?_eq_getLast lr.ne⟩
    have e : (figs n)[(rowOf n).length + 0 - 1]? = some l := by
      rw [hk, List.getElem?_append_left (by omega)]
      rw [List.getLast?_eq_getElem?] at hl2
      exact hl2
    refine d_ixT (z := nat l) (by rw [List.getElem?_map, e]; rfl) ?_
    walk_at "dgo"
    have hl0 : l ≠ 0 := fun z => lr.last (by rw [hl2, z])
    refine i_nay hl0 ?_
    walk_at "dgo"
    rw [cutD_to, rowD_take, Nat.add_zero]
    rw [show (figs n).take (rowOf n).length = rowOf n by rw [hk]; simp]
    exact q
  · have e : (figs n)[(rowOf n).length + m - 1]? = some 0 := by
      rw [hk, List.getElem?_append_right (by omega), List.getElem?_replicate, if_pos (by omega)]
    refine d_ixT (z := nat 0) (by rw [List.getElem?_map, e]; rfl) ?_
    walk_at "dgo"
    exact hN (m - 1) _ (by omega) ⟨by omega, by rw [show (rowOf n).length + m - 1 = (rowOf n).length + (m - 1) by omega]⟩
theorem row_log {r s : List Nat} (h : IsRow r) (h2 : IsRow s) : 0 < whole r * whole s ∧ (whole r * whole s).log2 < 200 := by
  have w1 := whole12 h
  have w2 := whole12 h2
  refine ⟨Nat.mul_pos (whole_pos (row_ne h) h.hd) (whole_pos (row_ne h2) h2.hd), log2_lt (Nat.lt_of_lt_of_le (Nat.mul_lt_mul'' w1 w2) (by decide)) (by decide)⟩
theorem dp_times (h : sp_times xs P X) : d_times (dEnds P) X (startD xs (2 - xs.length)) := by
  unfold d_times
  rcases h with ⟨r, s, ir, is', rfl, q⟩ | ⟨r, y, hr, rfl, q⟩ | ⟨r, s, ir, hs, rfl, q⟩
  · show (dRet _) (dEnds P) X [.v (rowD r), .v (rowD s)]
    walk_at "dgo"
    refine .inl ⟨r, ir, rfl, ?_⟩
    walk_at "dgo"
    refine .inl ⟨s, is', rfl, ?_⟩
    have w1 := whole12 ir
    have w2 := whole12 is'
    refine d_mulL (by omega) (by omega) ?_
    walk_at "dgo"
    obtain ⟨h1, h2⟩ := row_log ir is'
    exact ⟨_, rfl, h1, by omega, q⟩
  · show (dRet _) (dEnds P) X [.v (rowI r), .v y]
    walk_at "dgo"
    exact .inr ⟨r, hr, rfl, q⟩
  · show (dRet _) (dEnds P) X [.v (rowD r), .v (rowI s)]
    walk_at "dgo"
    refine .inl ⟨r, ir, rfl, ?_⟩
    walk_at "dgo"
    exact .inr ⟨s, hs, rfl, q⟩
end
end Dx
end
section
/-! twos, threes and fives of a number -/
namespace Sx
open PySem L2
def valF (p : Nat) : Nat → Nat → Nat
  | 0, _ => 0
  | f + 1, n => if n % p = 0 then valF p f (n / p) + 1 else 0
def remF (p : Nat) : Nat → Nat → Nat
  | 0, n => n
  | f + 1, n => if n % p = 0 then remF p f (n / p) else n
def val (p n : Nat) : Nat := valF p n n
def rem (p n : Nat) : Nat := remF p n n
def leftN (n : Nat) : Nat := rem 5 (rem 3 (rem 2 n))
section
variable {p : Nat}
theorem div_lt2 {n : Nat} (hp : 2 ≤ p) (h : 0 < n) : n / p < n := Nat.div_lt_self h hp
theorem div_pos2 {n : Nat} (hp : 2 ≤ p) (h : 0 < n) (e : n % p = 0) : 0 < n / p := Nat.div_pos (Nat.le_of_dvd h (Nat.dvd_of_mod_eq_zero e)) (by omega)
theorem valF_more (hp : 2 ≤ p) : ∀ (f g n : Nat), 0 < n → n ≤ f → n ≤ g → valF p f n = valF p g n
  | 0, _, n, h, h1, _ => by omega
  | _ + 1, 0, n, h, _, h2 => by omega
  | f + 1, g + 1, n, h, h1, h2 => by
    unfold valF
    by_cases e : n % p = 0
    · have := div_lt2 hp h
      rw [if_pos e, if_pos e, valF_more hp f g (n / p) (div_pos2 hp h e) (by omega) (by omega)]
    · rw [if_neg e, if_neg e]
theorem remF_more (hp : 2 ≤ p) : ∀ (f g n : Nat), 0 < n → n ≤ f → n ≤ g → remF p f n = remF p g n
  | 0, _, n, h, h1, _ => by omega
  | _ + 1, 0, n, h, _, h2 => by omega
  | f + 1, g + 1, n, h, h1, h2 => by
    unfold remF
    by_cases e : n % p = 0
    · have := div_lt2 hp h
      rw [if_pos e, if_pos e, remF_more hp f g (n / p) (div_pos2 hp h e) (by omega) (by omega)]
    · rw [if_neg e, if_neg e]
theorem val_yes {n : Nat} (hp : 2 ≤ p) (h : 0 < n) (e : n % p = 0) : val p n = val p (n / p) + 1 := by
  obtain ⟨m, rfl⟩ : ∃ m, n = m + 1 := ⟨n - 1, by omega⟩
  have := div_lt2 hp h
  have e1 : val p (m + 1) = valF p m ((m + 1) / p) + 1 := by
    show (if (m + 1) % p = 0 then _ else _) = _
    rw [if_pos e]
  rw [e1, valF_more hp m ((m + 1) / p) _ (div_pos2 hp h e) (by omega) (by omega)]; rfl
theorem val_no {n : Nat} (h : 0 < n) (e : n % p ≠ 0) : val p n = 0 := by
  obtain ⟨m, rfl⟩ : ∃ m, n = m + 1 := ⟨n - 1, by omega⟩
  show (if (m + 1) % p = 0 then _ else _) = _
  rw [if_neg e]
theorem rem_yes {n : Nat} (hp : 2 ≤ p) (h : 0 < n) (e : n % p = 0) : rem p n = rem p (n / p) := by
  obtain ⟨m, rfl⟩ : ∃ m, n = m + 1 := ⟨n - 1, by omega⟩
  have := div_lt2 hp h
  have e1 : rem p (m + 1) = remF p m ((m + 1) / p) := by
    show (if (m + 1) % p = 0 then _ else _) = _
    rw [if_pos e]
  rw [e1, remF_more hp m ((m + 1) / p) _ (div_pos2 hp h e) (by omega) (by omega)]; rfl
theorem rem_no {n : Nat} (h : 0 < n) (e : n % p ≠ 0) : rem p n = n := by
  obtain ⟨m, rfl⟩ : ∃ m, n = m + 1 := ⟨n - 1, by omega⟩
  show (if (m + 1) % p = 0 then _ else _) = _
  rw [if_neg e]
theorem val_spec (hp : 2 ≤ p) : ∀ (n : Nat), 0 < n → n = p ^ val p n * rem p n ∧ rem p n % p ≠ 0 ∧ 0 < rem p n := by
  intro n
  induction n using Nat.strongRecOn with
  | ind n ih =>
    intro h
    by_cases e : n % p = 0
    · obtain ⟨h1, h2, h3⟩ := ih (n / p) (div_lt2 hp h) (div_pos2 hp h e)
      rw [val_yes hp h e, rem_yes hp h e]
      refine ⟨?_, h2, h3⟩
      rw [Nat.pow_succ, Nat.mul_assoc, Nat.mul_comm p, ← Nat.mul_assoc, ← h1]
      exact (Nat.div_mul_cancel (Nat.dvd_of_mod_eq_zero e)).symm
    · rw [val_no h e, rem_no h e]
      exact ⟨by simp, e, h⟩
theorem val_uniq (hp : 2 ≤ p) : ∀ (a m : Nat), 0 < m → m % p ≠ 0 → val p (p ^ a * m) = a ∧ rem p (p ^ a * m) = m
  | 0, m, h, e => by
    rw [Nat.pow_zero, Nat.one_mul]
    exact ⟨val_no h e, rem_no h e⟩
  | a + 1, m, h, e => by
    obtain ⟨h1, h2⟩ := val_uniq hp a m h e
    have pos : 0 < p ^ (a + 1) * m := Nat.mul_pos (Nat.pos_of_ne_zero (by simp; omega)) h
    have e1 : p ^ (a + 1) * m = p * (p ^ a * m) := by rw [Nat.pow_succ, Nat.mul_comm (p ^ a), Nat.mul_assoc]
    have e2 : p ^ (a + 1) * m % p = 0 := by rw [e1]; exact Nat.mul_mod_right _ _
    have e3 : p ^ (a + 1) * m / p = p ^ a * m := by rw [e1]; exact Nat.mul_div_cancel_left _ (by omega)
    exact ⟨by rw [val_yes hp pos e2, e3, h1], by rw [rem_yes hp pos e2, e3, h2]⟩
theorem pow_mod_ne {q : Nat} (h : ∀ m, m % p ≠ 0 → (q * m) % p ≠ 0) : ∀ (a m : Nat), m % p ≠ 0 → (q ^ a * m) % p ≠ 0
  | 0, m, e => by rw [Nat.pow_zero, Nat.one_mul]; exact e
  | a + 1, m, e => by
    rw [Nat.pow_succ, Nat.mul_comm (q ^ a), Nat.mul_assoc]
    exact h _ (pow_mod_ne h a m e)
end
/-- a number by its twos, threes, fives -/
structure Fac (n a b c u : Nat) : Prop where
  eq : n = 2 ^ a * (3 ^ b * (5 ^ c * u))
  u2 : u % 2 ≠ 0
  u3 : u % 3 ≠ 0
  u5 : u % 5 ≠ 0
theorem Fac.pos {n a b c u : Nat} (f : Fac n a b c u) : 0 < u := by
  rcases Nat.eq_zero_or_pos u with h | h
  · have := f.u2; rw [h] at this; exact absurd rfl this
  · exact h
theorem Fac.all {n a b c u : Nat} (f : Fac n a b c u) : val 2 n = a ∧ val 3 (rem 2 n) = b ∧ val 5 (rem 3 (rem 2 n)) = c ∧ leftN n = u ∧ val 3 n = b ∧ val 5 n = c := by
  have p0 := f.pos
  have pc : 0 < 5 ^ c * u := Nat.mul_pos (Nat.pos_of_ne_zero (by simp)) p0
  have pb : 0 < 3 ^ b * (5 ^ c * u) := Nat.mul_pos (Nat.pos_of_ne_zero (by simp)) pc
  have m2 : (3 ^ b * (5 ^ c * u)) % 2 ≠ 0 := pow_mod_ne (fun m h => by omega) b _ (pow_mod_ne (fun m h => by omega) c _ f.u2)
  have m3 : (5 ^ c * u) % 3 ≠ 0 := pow_mod_ne (fun m h => by omega) c _ f.u3
  have m3' : (2 ^ a * (5 ^ c * u)) % 3 ≠ 0 := pow_mod_ne (fun m h => by omega) a _ m3
  have m5' : (2 ^ a * (3 ^ b * u)) % 5 ≠ 0 := pow_mod_ne (fun m h => by omega) a _ (pow_mod_ne (fun m h => by omega) b _ f.u5)
  obtain ⟨h1, h2⟩ := val_uniq (p := 2) (by decide) a _ pb m2
  obtain ⟨h3, h4⟩ := val_uniq (p := 3) (by decide) b _ pc m3
  obtain ⟨h5, h6⟩ := val_uniq (p := 5) (by decide) c _ p0 f.u5
  rw [← f.eq] at h1 h2
  have e3 : n = 3 ^ b * (2 ^ a * (5 ^ c * u)) := by rw [f.eq]; ac_rfl
  have e5 : n = 5 ^ c * (2 ^ a * (3 ^ b * u)) := by rw [f.eq]; ac_rfl
  obtain ⟨h7, _⟩ := val_uniq (p := 3) (by decide) b _ (Nat.mul_pos (Nat.pos_of_ne_zero (by simp)) pc) m3'
  obtain ⟨h8, _⟩ := val_uniq (p := 5) (by decide) c (2 ^ a * (3 ^ b * u)) (Nat.mul_pos (Nat.pos_of_ne_zero (by simp)) (Nat.mul_pos (Nat.pos_of_ne_zero (by simp)) p0)) m5'
  rw [← e3] at h7
  rw [← e5] at h8
  refine ⟨h1, by rw [h2, h3], by rw [h2, h4, h5], ?_, h7, h8⟩
  unfold leftN
  rw [h2, h4, h6]
theorem fac_of {n : Nat} (h : 0 < n) : Fac n (val 2 n) (val 3 n) (val 5 n) (leftN n) := by
  obtain ⟨h1, h2, h3⟩ := val_spec (p := 2) (by decide) n h
  obtain ⟨h4, h5, h6⟩ := val_spec (p := 3) (by decide) _ h3
  obtain ⟨h7, h8, h9⟩ := val_spec (p := 5) (by decide) _ h6
  have f : Fac n (val 2 n) (val 3 (rem 2 n)) (val 5 (rem 3 (rem 2 n))) (leftN n) := by
    have e3 : rem 2 n = 3 ^ val 3 (rem 2 n) * (5 ^ val 5 (rem 3 (rem 2 n)) * leftN n) := by
      unfold leftN; rw [← h7]; exact h4
    have d5 : rem 5 (rem 3 (rem 2 n)) ∣ rem 3 (rem 2 n) := ⟨_, h7.trans (Nat.mul_comm _ _)⟩
    have d3 : rem 3 (rem 2 n) ∣ rem 2 n := ⟨_, h4.trans (Nat.mul_comm _ _)⟩
    refine ⟨?_, fun e => h2 ?_, fun e => h5 ?_, h8⟩
    · rw [← e3]; exact h1
    · exact Nat.mod_eq_zero_of_dvd (Nat.dvd_trans (Nat.dvd_of_mod_eq_zero e) (Nat.dvd_trans d5 d3))
    · exact Nat.mod_eq_zero_of_dvd (Nat.dvd_trans (Nat.dvd_of_mod_eq_zero e) d5)
  obtain ⟨_, _, _, _, h10, h11⟩ := f.all
  rw [← h10, ← h11] at f
  exact f
theorem left_dvd {n : Nat} (h : 0 < n) : leftN n ∣ n := ⟨2 ^ val 2 n * (3 ^ val 3 n * 5 ^ val 5 n), by
  have := (fac_of h).eq
  calc n = _ := this
    _ = _ := by ac_rfl⟩
theorem left_pos {n : Nat} (h : 0 < n) : 0 < leftN n := (fac_of h).pos
theorem left_le {n : Nat} (h : 0 < n) : leftN n ≤ n := Nat.le_of_dvd h (left_dvd h)
theorem smooth_part {n : Nat} (h : 0 < n) : n / leftN n = 2 ^ val 2 n * (3 ^ val 3 n * 5 ^ val 5 n) := by
  have f := fac_of h
  have e := f.eq
  have p := f.pos
  have e2 : n = (2 ^ val 2 n * (3 ^ val 3 n * 5 ^ val 5 n)) * leftN n := by
    calc n = _ := e
      _ = _ := by ac_rfl
  conv => lhs; rw [e2]
  have e3 : leftN ((2 ^ val 2 n * (3 ^ val 3 n * 5 ^ val 5 n)) * leftN n) = leftN n := congrArg leftN e2.symm
  rw [e3]
  exact Nat.mul_div_cancel _ p
/-- sixty often enough takes in what has but twos, threes and fives -/
theorem smooth_dvd {n k : Nat} (h : 0 < n) (hk : n < 2 ^ (k + 1)) : n / leftN n ∣ 60 ^ k := by
  have f := fac_of h
  rw [smooth_part h]
  have le : ∀ {p a : Nat}, 2 ≤ p → p ^ a ∣ n → a ≤ k := fun {p a} hp hd => by
    have h1 := Nat.le_of_dvd h hd
    have h2 : 2 ^ a ≤ p ^ a := Nat.pow_le_pow_left hp a
    have h3 : 2 ^ a < 2 ^ (k + 1) := by omega
    have := (Nat.pow_lt_pow_iff_right (a := 2) (by decide)).mp h3
    omega
  have e := f.eq
  have a2 := le (p := 2) (a := val 2 n) (by decide) ⟨_, e⟩
  have a3 := le (p := 3) (a := val 3 n) (by decide) ⟨2 ^ val 2 n * (5 ^ val 5 n * leftN n), by calc n = _ := e
                                                                                                  _ = _ := by ac_rfl⟩
  have a5 := le (p := 5) (a := val 5 n) (by decide) ⟨2 ^ val 2 n * (3 ^ val 3 n * leftN n), by calc n = _ := e
                                                                                                  _ = _ := by ac_rfl⟩
  have d2 : 2 ^ val 2 n ∣ 4 ^ k := Nat.dvd_trans (Nat.pow_dvd_pow 2 a2) ⟨2 ^ k, by rw [← Nat.mul_pow]⟩
  have d3 : 3 ^ val 3 n ∣ 3 ^ k := Nat.pow_dvd_pow 3 a3
  have d5 : 5 ^ val 5 n ∣ 5 ^ k := Nat.pow_dvd_pow 5 a5
  have e60 : 60 ^ k = 4 ^ k * (3 ^ k * 5 ^ k) := by rw [← Nat.mul_pow, ← Nat.mul_pow]
  rw [e60]
  exact Nat.mul_dvd_mul d2 (Nat.mul_dvd_mul d3 d5)
end Sx
end
section
/-! turned numbers, over data -/
open PySem L2 RT Sx Dx
local macro_rules | `(tactic| walk_at "d") => `(tactic| first
  | ((with_reducible refine' d_var ?k1 ?_); (case k1 => rfl))
  | with_reducible refine' d_c ?_
  | with_reducible refine' d_op ?_
  | with_reducible refine' d_cons ?_
  | with_reducible refine' d_nil ?_
  | with_reducible refine' d_seq ?_
  | ((with_reducible refine' d_asg1 ?_); try dsimp -proj only [List.set_cons_zero, List.set_cons_succ])
  | with_reducible refine' d_asg ?_
  | with_reducible refine' d_cb ?_
  | ((with_reducible refine' d_asgN ?_); try dsimp -proj only [List.set_cons_zero, List.set_cons_succ])
  | ((with_reducible refine' d_bnm ?_); try dsimp -proj only [List.set_cons_zero, List.set_cons_succ])
  | with_reducible refine' d_btp ?_
  | with_reducible refine' d_bcons ?_
  | with_reducible refine' d_bnil ?_
  | ((with_reducible refine' d_slO ?k1 ?_); (case k1 => rfl))
  | ((with_reducible refine' d_lenO ?k1 ?_); (case k1 => rfl))
  | ((with_reducible refine' d_ixO ?k1 ?_); (case k1 => rfl))
  | ((with_reducible refine' d_app ?k1 ?_); (case k1 => rfl))
  | ((with_reducible refine' d_frz ?k1 ?_); (case k1 => rfl); try dsimp -proj only [List.set_cons_zero, List.set_cons_succ, frzS])
  | with_reducible refine' d_lnil ?_
  | with_reducible refine' d_lcons ?_
  | with_reducible refine' d_gcd ?_
  | ((with_reducible refine' d_revO ?k1 ?_); (case k1 => rfl))
  | with_reducible refine' d_revL ?_
  | with_reducible refine' d_rev ?_
  | with_reducible refine' d_exrevL ?_
  | with_reducible refine' d_exrevT ?_
  | with_reducible refine' d_lc ?_
  | with_reducible refine' d_rng1 ?_
  | with_reducible refine' d_rng2 ?_
  | ((with_reducible refine' d_exrng ?k1 ?_); (case k1 => omega))
  | ((with_reducible refine' d_exrng2 ?k1 ?k2 ?_); (case k1 => omega); (case k2 => omega))
  | ((with_reducible refine' d_sz ?k1 ?_); (case k1 => simp; done))
  | with_reducible refine' d_tupQ ?_
  | with_reducible refine' d_lstQ ?_
  | with_reducible refine' d_callX ?_
  | with_reducible refine' d_call0 ?_
  | with_reducible refine' d_ifS ?_
  | with_reducible refine' d_B ?_
  | with_reducible refine' d_exbl ?_
  | with_reducible refine' d_ret ?_
  | with_reducible refine' d_drop ?_
  | with_reducible refine' d_next ?_
  | with_reducible refine' d_chain ?_
  | with_reducible refine' d_and ?_
  | with_reducible refine' d_or ?_
  | with_reducible refine' d_not ?_
  | with_reducible refine' d_andV ?_
  | with_reducible refine' d_orV ?_
  | with_reducible refine' d_notV ?_
  | with_reducible refine' d_if ?_
  | with_reducible refine' d_un ?_
  | with_reducible refine' d_fz ?_
  | with_reducible refine' d_addN ?_
  | ((with_reducible refine' d_subN ?k1 ?_); (case k1 => omega))
  | ((with_reducible refine' d_mdN ?k1 ?_); (case k1 => omega))
  | ((with_reducible refine' d_fdN ?k1 ?k2 ?_); (case k1 => omega); (case k2 => omega))
  | ((with_reducible refine' d_mulL ?k1 ?k2 ?_); (case k1 => omega); (case k2 => omega))
  | with_reducible refine' d_ltN ?_
  | with_reducible refine' d_leN ?_
  | with_reducible refine' d_gtN ?_
  | with_reducible refine' d_geN ?_
  | with_reducible refine' d_eqN ?_
  | with_reducible refine' d_neN ?_
  | with_reducible refine' d_negN ?_
  | with_reducible refine' d_bit ?_
  | ((with_reducible refine' d_lenT ?_); try rw [List.length_map])
  | ((with_reducible refine' d_lenL ?_); try rw [List.length_map])
  | ((with_reducible refine' d_aug ?k1 ?_); (case k1 => rfl))
  | with_reducible refine' d_slT ?_
  | with_reducible refine' d_slL ?_
  | with_reducible refine' d_exsT ?_
  | with_reducible refine' d_exsL ?_
  | with_reducible refine' d_nopart ?_
  | with_reducible refine' dw_part ?_
  | with_reducible refine' d_exint ?_
  | with_reducible refine' d_yes1 ?_
  | with_reducible refine' d_itT ?_
  | with_reducible refine' d_itL ?_
  | with_reducible refine' d_itK ?_
  | with_reducible refine' d_exsK ?_
  | with_reducible refine' d_for ?_
  | with_reducible refine' d_tupL ?_
  | with_reducible refine' d_tupT ?_
  | with_reducible refine' i_iteT ?_
  | with_reducible refine' i_iteNT ?_
  | with_reducible refine' i_iteNF ?_
  | with_reducible refine' i_iteF ?_
  | ((with_reducible refine' i_yes ?k1 ?_); (case k1 => omega))
  | ((with_reducible refine' i_nay ?k1 ?_); (case k1 => omega))
  | ((with_reducible refine' i_yesN ?k1 ?_); (case k1 => omega))
  | ((with_reducible refine' i_nayN ?k1 ?_); (case k1 => omega)))
local macro_rules | `(tactic| walk_at "dgo") => `(tactic| (repeat walk_at "d"; try dsimp -proj only [List.set_cons_zero, List.set_cons_succ]))
namespace Dx
def facD (n : Nat) : Dt := .tup [.tup [nat (val 2 n), nat (val 3 n), nat (val 5 n)], nat (leftN n)]
def sp_factors_of : DSp := fun xs P _ => ∃ n : Nat, xs = [nat n] ∧ 0 < n ∧ P (facD n)
def sp_left_of : DSp := fun xs P _ => ∃ n : Nat, xs = [nat n] ∧ 0 < n ∧ P (nat (leftN n))
def sp_parted : DSp := fun xs P _ => ∃ n d : Nat, xs = [nat n, nat d] ∧ 0 < n ∧ 0 < d ∧ leftN d ∣ n ∧ n.log2 < 9000 ∧ d.log2 < 8900 ∧
  ∀ q k : Nat, k ≤ d.log2 + 1 → 0 < q → q * d = n * 60 ^ k → (∀ j, j < k → ¬ d ∣ n * 60 ^ j) → P (.tup [nat q, nat k])
def sp_factors : DSp := fun xs P X => (∃ r, IsRow r ∧ xs = [rowD r] ∧ P (facD (whole r))) ∨ ∃ r, rowB r = false ∧ xs = [rowI r] ∧ X 1 []
def sp_part : DSp := fun xs P X => (∃ r s, IsRow r ∧ IsRow s ∧ xs = [rowD r, rowD s] ∧ (whole r % leftN (whole s) = 0 → ∀ q k : Nat, 0 < q → q < 2 ^ 600 → q * whole s = whole r * 60 ^ k → P (rowD (rowOf q))) ∧
    (whole r % leftN (whole s) ≠ 0 → X 2 [nat (leftN (whole s) / Nat.gcd (leftN (whole s)) (whole r))])) ∨
  (∃ r y, rowB r = false ∧ xs = [rowI r, y] ∧ X 1 []) ∨ ∃ r s, IsRow r ∧ rowB s = false ∧ xs = [rowD r, rowI s] ∧ X 1 []
def sp_turned : DSp := fun xs P X => (∃ s, IsRow s ∧ xs = [rowD s] ∧ (leftN (whole s) = 1 → ∀ q k : Nat, 0 < q → q < 2 ^ 600 → q * whole s = 60 ^ k → P (rowD (rowOf q))) ∧
    (leftN (whole s) ≠ 1 → X 2 [nat (leftN (whole s))])) ∨ ∃ s, rowB s = false ∧ xs = [rowI s] ∧ X 1 []
def sp__law_left : DSp := fun xs P _ => ∃ n : Nat, xs = [nat n] ∧ 0 < n ∧ P (nat (leftN n))
def sp__law_many : DSp := fun xs P _ => ∃ n p : Nat, xs = [nat n, nat p] ∧ 0 < n ∧ 2 ≤ p ∧ p < 64 ∧ P (nat (val p n))
def sp__law_short : DSp := fun xs P _ => ∃ m : Nat, xs = [.dice, nat m] ∧ 2 ≤ m ∧ m ≤ 12 ∧ ∀ r : List Nat, IsRow r → r.length ≤ m → P (rowD r)
def d_factors_of : DS := (dSeq (dAsg (.nm 1) (dVar 0))
  (dSeq (dAsgN 2 (dLst dNil))
  (dSeq (dFor (dItK (dC (.ktup [(nat 2), (nat 3), (nat 5)]))) (.nm 3)
  (dSeq (dAsg (.nm 4) (dC (nat 0)))
  (dSeq (dWhile (dB (dOp dEqS (dOp dMd (dVar 1) (dVar 3)) (dC (nat 0)))) (dSeq (dAug 1 dFd (dVar 3))
  (dAug 4 dAdd (dC (nat 1)))))
  (dApp 2 (dVar 4)))))
  (dFrz 2 (dRet (dTup (dCons (dCB dTupOf (dCons (dVar 2) dNil)) (dCons (dVar 1) dNil))))))))
def d_left_of : DS := (dSeq (dAsg (.tp [(.nm 1), (.nm 2)]) (dCallX sp_factors_of (dCons (dVar 0) dNil)))
  (dRet (dVar 2)))
def d_factors : DS := (dRet (dCallX sp_factors_of (dCons (dCallX sp_whole_of (dCons (dVar 0) dNil)) dNil)))
def d_parted : DS := (dSeq (dAsg (.nm 2) (dC (nat 0)))
  (dSeq (dWhile (dB (dOp dNeS (dOp dMd (dVar 0) (dVar 1)) (dC (nat 0)))) (dSeq (dAug 0 dMul (dC (nat 60)))
  (dAug 2 dAdd (dC (nat 1)))))
  (dRet (dTup (dCons (dOp dFd (dVar 0) (dVar 1)) (dCons (dVar 2) dNil))))))
def d_part : DS := (dSeq (dAsg (.nm 2) (dCallX sp_whole_of (dCons (dVar 0) dNil)))
  (dSeq (dAsg (.nm 3) (dCallX sp_whole_of (dCons (dVar 1) dNil)))
  (dSeq (dAsg (.nm 4) (dCallX sp_left_of (dCons (dVar 3) dNil)))
  (dSeq (dIfS (dB (dOp dNeS (dOp dMd (dVar 2) (dVar 4)) (dC (nat 0)))) (dRaise 2 (dCons (dOp dFd (dVar 4) (dCB dGcd (dCons (dVar 4) (dCons (dVar 2) dNil)))) dNil)) dNext)
  (dSeq (dAsg (.tp [(.nm 5), (.nm 6)]) (dCallX sp_parted (dCons (dVar 2) (dCons (dVar 3) dNil))))
  (dRet (dCallX sp_row_of (dCons (dVar 5) dNil))))))))
def d_turned : DS := (dRet (dCallX sp_part (dCons (dTup (dCons (dC (nat 1)) dNil)) (dCons (dVar 0) dNil))))
def d__law_many : DS := (dSeq (dAsg (.nm 2) (dC (nat 0)))
  (dSeq (dWhile (dB (dOp dEqS (dOp dMd (dVar 0) (dVar 1)) (dC (nat 0)))) (dSeq (dAsg (.nm 0) (dOp dFd (dVar 0) (dVar 1)))
  (dAsg (.nm 2) (dOp dAdd (dVar 2) (dC (nat 1))))))
  (dRet (dVar 2))))
def d__law_left : DS := (dSeq (dFor (dItL (dFz (dLst (dCons (dC (nat 2)) (dCons (dC (nat 3)) (dCons (dC (nat 5)) dNil)))))) (.nm 1)
  (dWhile (dB (dOp dEqS (dOp dMd (dVar 0) (dVar 1)) (dC (nat 0)))) (dAsg (.nm 0) (dOp dFd (dVar 0) (dVar 1)))))
  (dRet (dVar 0)))
def d__law_short : DS := (dSeq (dAsg (.nm 2) (dCallX sp__law_drawn (dCons (dVar 0) (dCons (dVar 1) dNil))))
  (dRet (dIf (dB (dOp dLe (dCB dLen (dCons (dVar 2) dNil)) (dVar 1))) (dVar 2) (dSlT (dVar 2) dNoPart (dPart (dC (nat 1)))))))

section
variable {xs : List Dt} {P : Dt → Prop} {X : DX}
theorem dp_factors_of (h : sp_factors_of xs P X) : d_factors_of (dEnds P) X (startD xs (5 - xs.length)) := by
  obtain ⟨n, rfl, hn, q⟩ := h
  show d_factors_of (dEnds P) X [.v (nat n), .un, .un, .un, .un]
  unfold d_factors_of
  have turn : ∀ (m p : Nat) (c : List Dt) (D : DEnds), 0 < m → 2 ≤ p → p < 64 → D.nx [.v (nat n), .v (nat (rem p m)), .ol c, .v (nat p), .v (nat (val p m))] →
      dWhile (dB (dOp dEqS (dOp dMd (dVar 1) (dVar 3)) (dC (nat 0)))) (dSeq (dAug 1 dFd (dVar 3)) (dAug 4 dAdd (dC (nat 1)))) D X [.v (nat n), .v (nat m), .ol c, .v (nat p), .v (nat 0)] := by
    intro m p c D hm hp hp2 q
    refine d_while (fun k ρ => ∃ j, 0 < k ∧ rem p k = rem p m ∧ j + val p k = val p m ∧ ρ = [.v (nat n), .v (nat k), .ol c, .v (nat p), .v (nat j)]) m ⟨0, hm, rfl, by omega, rfl⟩ ?_
    rintro k ρ N ⟨j, hk, e, ej, rfl⟩ hN
    walk_at "dgo"
    by_cases z : k % p = 0
    · refine i_yes z ?_
      walk_at "dgo"
      exact hN _ _ (div_lt2 hp hk) ⟨j + 1, div_pos2 hp hk z, by rw [← e, rem_yes hp hk z], by rw [val_yes hp hk z] at ej; omega, rfl⟩
    · refine i_nay z ?_
      rw [rem_no hk z] at e
      rw [val_no hk z] at ej
      rw [e, show j = val p m by omega]
      exact q
  have p2 := (val_spec (p := 2) (by decide) n hn).2.2
  have p3 := (val_spec (p := 3) (by decide) _ p2).2.2
  obtain ⟨_, f3, f5, _, g3, g5⟩ := (fac_of hn).all
  walk_at "dgo"
  refine turn _ _ _ _ hn (by decide) (by decide) ?_
  walk_at "dgo"
  refine turn _ _ _ _ p2 (by decide) (by decide) ?_
  walk_at "dgo"
  refine turn _ _ _ _ p3 (by decide) (by decide) ?_
  walk_at "dgo"
  rw [f3, f5]
  exact q
theorem dp_left_of (h : sp_left_of xs P X) : d_left_of (dEnds P) X (startD xs (3 - xs.length)) := by
  obtain ⟨n, rfl, hn, q⟩ := h
  show d_left_of (dEnds P) X [.v (nat n), .un, .un]
  unfold d_left_of
  walk_at "dgo"
  refine ⟨n, rfl, hn, ?_⟩
  unfold facD
  walk_at "dgo"
  exact q
theorem dp_factors (h : sp_factors xs P X) : d_factors (dEnds P) X (startD xs (1 - xs.length)) := by
  unfold d_factors
  rcases h with ⟨r, ir, rfl, q⟩ | ⟨r, hr, rfl, q⟩
  · show (dRet _) (dEnds P) X [.v (rowD r)]
    walk_at "dgo"
    refine .inl ⟨r, ir, rfl, ?_⟩
    walk_at "dgo"
    exact ⟨_, rfl, whole_pos (row_ne ir) ir.hd, q⟩
  · show (dRet _) (dEnds P) X [.v (rowI r)]
    walk_at "dgo"
    exact .inr ⟨r, hr, rfl, q⟩
theorem smooth_mul {n d : Nat} (hd : 0 < d) (h : leftN d ∣ n) : d ∣ n * 60 ^ (d.log2 + 1) := by
  have h1 := smooth_dvd (k := d.log2 + 1) hd (by
    have := (Nat.log2_lt (n := d) (k := d.log2 + 1) (by omega)).mp (by omega)
    exact Nat.lt_trans this (Nat.pow_lt_pow_right (by decide) (by omega)))
  have e := Nat.div_mul_cancel (left_dvd hd)
  have h2 := Nat.mul_dvd_mul h h1
  rw [Nat.mul_comm (leftN d), e] at h2
  exact h2
theorem pow_log2_mul {n k : Nat} (hn : n.log2 < 9000) (hk : k ≤ 8901) : (n * 60 ^ k).log2 < 70000 := by
  have h1 : n < 2 ^ 9000 := by
    rcases Nat.eq_zero_or_pos n with rfl | h
    · exact Nat.pos_of_ne_zero (by simp)
    · exact (Nat.log2_lt (by omega)).mp hn
  have h2 : 60 ^ k ≤ 2 ^ (6 * k) := pow60_lt k
  refine log2_lt (Nat.lt_of_lt_of_le (Nat.mul_lt_mul_of_lt_of_le h1 h2 (Nat.pos_of_ne_zero (by simp))) ?_) (by decide)
  rw [← Nat.pow_add]
  exact Nat.pow_le_pow_right (by decide) (by omega)
theorem dp_parted (h : sp_parted xs P X) : d_parted (dEnds P) X (startD xs (3 - xs.length)) := by
  obtain ⟨n, d, rfl, hn, hd, hl, hz, hz2, q⟩ := h
  show d_parted (dEnds P) X [.v (nat n), .v (nat d), .un]
  unfold d_parted
  walk_at "dgo"
  refine d_while (fun m ρ => ∃ k, m + k = d.log2 + 1 ∧ (∀ j, j < k → ¬ d ∣ n * 60 ^ j) ∧ ρ = [.v (nat (n * 60 ^ k)), .v (nat d), .v (nat k)]) (d.log2 + 1) ⟨0, rfl, fun j h => by omega, by rw [Nat.pow_zero, Nat.mul_one]⟩ ?_
  rintro m ρ N ⟨k, hm, hk, rfl⟩ hN
  walk_at "dgo"
  by_cases z : n * 60 ^ k % d = 0
  · refine i_nayN z ?_
    walk_at "dgo"
    refine d_fdB hd (by omega) ?_
    walk_at "dgo"
    have hdv : d ∣ n * 60 ^ k := Nat.dvd_of_mod_eq_zero z
    have hp : 0 < n * 60 ^ k := Nat.mul_pos hn (Nat.pos_of_ne_zero (by simp))
    exact q _ _ (by omega) (Nat.div_pos (Nat.le_of_dvd hp hdv) hd) (Nat.div_mul_cancel hdv) hk
  · refine i_yesN z ?_
    have hm0 : m ≠ 0 := fun e => z (Nat.mod_eq_zero_of_dvd (by rw [show k = d.log2 + 1 by omega]; exact smooth_mul hd hl))
    walk_at "dgo"
    refine d_mulB (Nat.lt_trans (pow_log2_mul hz (by omega)) (by decide)) (by decide) ?_
    walk_at "dgo"
    refine hN (m - 1) _ (by omega) ⟨k + 1, by omega, fun j hj => ?_, by rw [Nat.pow_succ, Nat.mul_assoc]⟩
    rcases Nat.lt_or_ge j k with h | h
    · exact hk j h
    · rw [show j = k by omega]; exact fun hh => z (Nat.mod_eq_zero_of_dvd hh)
theorem dp_part (h : sp_part xs P X) : d_part (dEnds P) X (startD xs (7 - xs.length)) := by
  unfold d_part
  rcases h with ⟨r, s, ir, is', rfl, q1, q2⟩ | ⟨r, y, hr, rfl, q⟩ | ⟨r, s, ir, hs, rfl, q⟩
  · show (dSeq _ _) (dEnds P) X [.v (rowD r), .v (rowD s), .un, .un, .un, .un, .un]
    have n1 := whole_pos (row_ne ir) ir.hd
    have n2 := whole_pos (row_ne is') is'.hd
    have b1 := whole12 ir
    have b2 := whole12 is'
    have lp := left_pos n2
    have ll := left_le n2
    walk_at "dgo"
    refine .inl ⟨r, ir, rfl, ?_⟩
    walk_at "dgo"
    refine .inl ⟨s, is', rfl, ?_⟩
    walk_at "dgo"
    refine ⟨_, rfl, n2, ?_⟩
    walk_at "dgo"
    by_cases e : whole r % leftN (whole s) = 0
    · refine i_nayN e ?_
      walk_at "dgo"
      have l1 : (whole r).log2 < 72 := log2_lt (Nat.lt_trans b1 (by decide)) (by decide)
      have l2 : (whole s).log2 < 72 := log2_lt (Nat.lt_trans b2 (by decide)) (by decide)
      refine ⟨_, _, rfl, n1, n2, Nat.dvd_of_mod_eq_zero e, by omega, by omega, fun x k hk hx ex _ => ?_⟩
      walk_at "dgo"
      have hx2 : x < 2 ^ 600 := by
        have h1 : x ≤ x * whole s := Nat.le_mul_of_pos_right x n2
        have h2 : 60 ^ k ≤ 60 ^ 73 := Nat.pow_le_pow_right (by decide) (by omega)
        calc x ≤ whole r * 60 ^ k := by omega
          _ ≤ 60 ^ 12 * 60 ^ 73 := Nat.mul_le_mul (by omega) h2
          _ < 2 ^ 600 := by decide
      exact ⟨x, rfl, hx, Nat.lt_trans (log2_lt (k := 600) hx2 (by decide)) (by decide), q1 e x k hx hx2 ex⟩
    · refine i_yesN e ?_
      refine d_raise ?_
      walk_at "dgo"
      refine d_fdN (Nat.pos_of_ne_zero fun z => ?_) ?_ ?_
      · have := Nat.eq_zero_of_gcd_eq_zero_left z; omega
      · exact Nat.lt_of_le_of_lt (Nat.le_of_dvd lp (Nat.gcd_dvd_left _ _)) (by omega)
      walk_at "dgo"
      exact ⟨rfl, q2 e⟩
  · show (dSeq _ _) (dEnds P) X [.v (rowI r), .v y, .un, .un, .un, .un, .un]
    walk_at "dgo"
    exact .inr ⟨r, hr, rfl, q⟩
  · show (dSeq _ _) (dEnds P) X [.v (rowD r), .v (rowI s), .un, .un, .un, .un, .un]
    walk_at "dgo"
    refine .inl ⟨r, ir, rfl, ?_⟩
    walk_at "dgo"
    exact .inr ⟨s, hs, rfl, q⟩
theorem row_one : IsRow [1] := ⟨by decide, by decide, by decide, by decide⟩
theorem dp_turned (h : sp_turned xs P X) : d_turned (dEnds P) X (startD xs (1 - xs.length)) := by
  unfold d_turned
  rcases h with ⟨s, is', rfl, q1, q2⟩ | ⟨s, hs, rfl, q⟩
  · show (dRet _) (dEnds P) X [.v (rowD s)]
    have n2 := whole_pos (row_ne is') is'.hd
    have lp := left_pos n2
    walk_at "dgo"
    have e1 : whole [1] = 1 := rfl
    refine .inl ⟨[1], s, row_one, is', rfl, fun e x k hx hx2 ex => ?_, fun e => ?_⟩
    · rw [e1] at e
      rw [e1, Nat.one_mul] at ex
      refine q1 ?_ x k hx hx2 ex
      rcases Nat.lt_or_ge 1 (leftN (whole s)) with h | h
      · rw [Nat.mod_eq_of_lt h] at e; omega
      · omega
    · rw [e1] at e
      rw [e1, Nat.gcd_one_right, Nat.div_one]
      exact q2 fun z => by rw [z] at e; exact e rfl
  · show (dRet _) (dEnds P) X [.v (rowI s)]
    walk_at "dgo"
    exact .inr (.inr ⟨[1], s, row_one, hs, rfl, q⟩)
theorem dp__law_many (h : sp__law_many xs P X) : d__law_many (dEnds P) X (startD xs (3 - xs.length)) := by
  obtain ⟨n, p, rfl, hn, hp, hp2, q⟩ := h
  show d__law_many (dEnds P) X [.v (nat n), .v (nat p), .un]
  unfold d__law_many
  walk_at "dgo"
  refine d_while (fun m ρ => ∃ k, 0 < m ∧ k + val p m = val p n ∧ ρ = [.v (nat m), .v (nat p), .v (nat k)]) n ⟨0, hn, by omega, rfl⟩ ?_
  rintro m ρ N ⟨k, hm, hk, rfl⟩ hN
  walk_at "dgo"
  by_cases e : m % p = 0
  · refine i_yes e ?_
    walk_at "dgo"
    exact hN _ _ (div_lt2 hp hm) ⟨k + 1, div_pos2 hp hm e, by rw [val_yes hp hm e] at hk; omega, rfl⟩
  · refine i_nay e ?_
    walk_at "dgo"
    rw [val_no hm e] at hk
    rw [show k = val p n by omega]
    exact q
theorem dp__law_left (h : sp__law_left xs P X) : d__law_left (dEnds P) X (startD xs (2 - xs.length)) := by
  obtain ⟨n, rfl, hn, q⟩ := h
  show d__law_left (dEnds P) X [.v (nat n), .un]
  unfold d__law_left
  have turn : ∀ (m p : Nat) (D : DEnds), 0 < m → 2 ≤ p → p < 64 → D.nx [.v (nat (rem p m)), .v (nat p)] →
      dWhile (dB (dOp dEqS (dOp dMd (dVar 0) (dVar 1)) (dC (nat 0)))) (dAsg (.nm 0) (dOp dFd (dVar 0) (dVar 1))) D X [.v (nat m), .v (nat p)] := by
    intro m p D hm hp hp2 q
    refine d_while (fun k ρ => 0 < k ∧ rem p k = rem p m ∧ ρ = [.v (nat k), .v (nat p)]) m ⟨hm, rfl, rfl⟩ ?_
    rintro k ρ N ⟨hk, e, rfl⟩ hN
    walk_at "dgo"
    by_cases z : k % p = 0
    · refine i_yes z ?_
      walk_at "dgo"
      exact hN _ _ (div_lt2 hp hk) ⟨div_pos2 hp hk z, by rw [← e, rem_yes hp hk z], rfl⟩
    · refine i_nay z ?_
      rw [rem_no hk z] at e
      rw [e]
      exact q
  have p2 := (val_spec (p := 2) (by decide) n hn).2.2
  have p3 := (val_spec (p := 3) (by decide) _ p2).2.2
  walk_at "dgo"
  refine turn _ _ _ hn (by decide) (by decide) ?_
  walk_at "dgo"
  refine turn _ _ _ p2 (by decide) (by decide) ?_
  walk_at "dgo"
  refine turn _ _ _ p3 (by decide) (by decide) ?_
  walk_at "dgo"
  exact q
theorem dp__law_short (h : sp__law_short xs P X) : d__law_short (dEnds P) X (startD xs (3 - xs.length)) := by
  obtain ⟨m, rfl, h2, h12, q⟩ := h
  show d__law_short (dEnds P) X [.v .dice, .v (nat m), .un]
  unfold d__law_short
  walk_at "dgo"
  refine ⟨m, rfl, h2, h12, fun r ir hl => ?_⟩
  walk_at "dgo"
  unfold rowD
  walk_at "dgo"
  exact q r ir hl
end
end Dx
end
section
/-! dicts over data -/
namespace L2
open PySem PySem.Spec PyProof.Rows
/-- what is made is locked for good -/
def tFzE (t : TE) : TE := fun σ H Q => t σ H fun v H1 => ∃ d u, v = .ref d ∧ H1 d = some u ∧ Mut (some u) ∧ ∀ od, Q v (upd H1 d (.frz od u))
def tFzS (t : TS) : TS := fun D σ H => ∃ d u, H d = some u ∧ Mut (some u) ∧ ∀ od, t D σ (upd H d (.frz od u))
section
variable {X : Cx}
theorem pe_fzE {e : Expr} {t : TE} (h : PE X e t) : PE X e (tFzE t) := ⟨fun pins s σ H Q I q => thn (h.run pins s σ H _ I q) fun v s1 ⟨x, H1, I1, r, d, u, ex, hd, mu, q1⟩ => by
  obtain ⟨od, I2⟩ := I1.lock hd mu
  exact ⟨x, _, I2, r, q1 od⟩⟩
theorem ps_fzS {st : Stmt} {t : TS} (h : PS X st t) : PS X st (tFzS t) := ⟨fun pins s σ H D I ⟨d, u, hd, mu, q⟩ => by
  obtain ⟨od, I2⟩ := I.lock hd mu
  exact h.run pins s σ _ D I2 (q od)⟩
end
theorem hu1 {k : Nat} {A : Around} (hr : Room k A) : A.units + 1 < cLine := by have := hr.un; omega
end L2
namespace Dx
open PySem L2 RT Sx
section
variable {κ : Type} [DecidableEq κ]
def gK (ps : List (κ × Dt)) (k : κ) : Option Dt := (ps.find? fun p => decide (p.1 = k)).map (·.2)
def pK (ps : List (κ × Dt)) (k : κ) (x : Dt) : List (κ × Dt) := if (ps.any fun p => decide (p.1 = k)) = true then ps.map (fun p => if p.1 = k then (p.1, x) else p) else ps ++ [(k, x)]
end
section
variable {K : PySem.W.Frag} {W : Wd}
theorem RpK.get : ∀ {ks : List (Key × V)} {ps : List (Key × Dt)} {k : Key}, RpK K W ks ps → (valV ks k = none ∧ gK ps k = none) ∨ ∃ v x, valV ks k = some v ∧ gK ps k = some x ∧ Rp K W v x
  | _, _, k, .nil => .inl ⟨rfl, rfl⟩
  | _, _, k, @RpK.cons _ _ k' v x ks ps r rr => by
    by_cases e : k' = k
    · exact .inr ⟨v, x, valV_pos (p := (k', v)) e, by unfold gK; simp [List.find?_cons, e], r⟩
    · rw [valV_neg (p := (k', v)) e, show gK ((k', x) :: ps) k = gK ps k by unfold gK; simp [List.find?_cons, e]]
      exact RpK.get rr
theorem RpK.any {k : Key} : ∀ {ks : List (Key × V)} {ps : List (Key × Dt)}, RpK K W ks ps → (ks.any fun p => decide (p.1 = k)) = ps.any fun p => decide (p.1 = k)
  | _, _, .nil => rfl
  | _, _, .cons r rr => by simp only [List.any_cons]; rw [RpK.any rr]
theorem RpK.mapp {k : Key} {v : V} {x : Dt} (h : Rp K W v x) : ∀ {ks : List (Key × V)} {ps : List (Key × Dt)}, RpK K W ks ps → RpK K W (ks.map fun p => if p.1 = k then (p.1, v) else p) (ps.map fun p => if p.1 = k then (p.1, x) else p)
  | _, _, .nil => .nil
  | _, _, @RpK.cons _ _ k' v' x' ks ps r rr => by
    rw [List.map_cons, List.map_cons]
    by_cases e : k' = k
    · simp only [e, if_true]; exact .cons h (RpK.mapp h rr)
    · simp only [e, if_false]; exact .cons r (RpK.mapp h rr)
theorem RpK.snoc {k : Key} {v : V} {x : Dt} (h : Rp K W v x) : ∀ {ks : List (Key × V)} {ps : List (Key × Dt)}, RpK K W ks ps → RpK K W (ks ++ [(k, v)]) (ps ++ [(k, x)])
  | _, _, .nil => .cons h .nil
  | _, _, .cons r rr => .cons r (RpK.snoc h rr)
theorem RpK.put {k : Key} {v : V} {x : Dt} {ks : List (Key × V)} {ps : List (Key × Dt)} (h : Rp K W v x) (r : RpK K W ks ps) : RpK K W (putK ks k v) (pK ps k x) := by
  unfold putK pK
  rw [r.any]
  split
  · exact r.mapp h
  · exact r.snoc h
theorem RpK.length : ∀ {ks : List (Key × V)} {ps : List (Key × Dt)}, RpK K W ks ps → ks.length = ps.length
  | _, _, .nil => rfl
  | _, _, .cons _ h => by rw [List.length_cons, List.length_cons, h.length]
end
/-! a new dict, a dict kept -/
abbrev DD := DX → Env → (Dt → Prop) → Prop
def liftD (K : PySem.W.Frag) (C : Ec) (E : XK) (d : DD) : TE := fun σ H Q => ∃ (c : Cn) (P : Dt → Prop), c.At K C E σ H ∧ d c.PX c.ρ P ∧
  ∀ W' H' p ho x, Frm c.W H W' H' → Ok K W' H' → H p = none → W'.F p = none → ¬ W'.dl p → H' p = some ho → DictR K W' ho x → P x → Q (.ref p) H'
def dFzD (a : DD) : DE := a
def dAsgD (i : Nat) (a : DD) : DS := fun D X ρ => a X ρ fun x => D.nx (ρ.set i (.od x))
def dNewK : DD := fun _ _ P => P (.dK [])
def dNewT : DD := fun _ _ P => P (.dT [])
/-- the dict in the slot is not changed from here on -/
def dFrzD (i : Nat) (t : DS) : DS := fun D X ρ => ∃ x, ρ[i]? = some (.od x) ∧ t D X (ρ.set i (.v x))
def dPutK (i : Nat) (b a : DE) : DS := fun D X ρ => a X ρ fun x => ∃ ps, ρ[i]? = some (.od (.dK ps)) ∧ b X ρ fun y => ∃ k, y = keyD k ∧ ps.length ≤ 100000 ∧ D.nx (ρ.set i (.od (.dK (pK ps k x))))
def dGetK (a b : DE) : DE := fun X ρ P => a X ρ fun x => b X ρ fun y => ∃ ps k z, x = .dK ps ∧ y = keyD k ∧ gK ps k = some z ∧ P z
def dInK (b a : DE) : DE := fun X ρ P => b X ρ fun y => a X ρ fun x => ∃ ps k, x = .dK ps ∧ y = keyD k ∧ P (.bl (gK ps k).isSome)
def dNotInK (b a : DE) : DE := fun X ρ P => b X ρ fun y => a X ρ fun x => ∃ ps k, x = .dK ps ∧ y = keyD k ∧ P (.bl (!(gK ps k).isSome))
/-- .. of one's own dict -/
def dGetO (i : Nat) (b : DE) : DE := fun X ρ P => ∃ ps, ρ[i]? = some (.od (.dK ps)) ∧ b X ρ fun y => ∃ k z, y = keyD k ∧ gK ps k = some z ∧ P z
def dInO (b : DE) (i : Nat) : DE := fun X ρ P => b X ρ fun y => ∃ ps k, ρ[i]? = some (.od (.dK ps)) ∧ y = keyD k ∧ P (.bl (gK ps k).isSome)
def dNotInO (b : DE) (i : Nat) : DE := fun X ρ P => b X ρ fun y => ∃ ps k, ρ[i]? = some (.od (.dK ps)) ∧ y = keyD k ∧ P (.bl (!(gK ps k).isSome))
section
variable {K : PySem.W.Frag} {C : Ec} {E : XK} {σ : L2.St} {H : Hp} {Q : VK} {D : Ends} {W : Wd}
theorem rp_key {k : Key} {v : V} (r : Rp K W v (keyD k)) : v = kV k := by
  cases k with
  | inl i => exact rp_int r
  | inr s => exact rp_str r
theorem rp_dK {v : V} {ps : List (Key × Dt)} (r : Rp K W v (.dK ps)) : ∃ a o ks, v = .ref a ∧ W.F a = some (.frz o (.dK ks)) ∧ RpK K W ks ps := by
  cases r with | dK h r => exact ⟨_, _, _, rfl, h, r⟩
theorem dictR_mut {ho : HO} {x : Dt} (h : DictR K W ho x) : Mut (some ho) := by
  rcases h with ⟨_, _, rfl, _⟩ | ⟨_, _, rfl, _⟩ <;> exact True.intro
theorem dictR_nc {ho : HO} {x : Dt} {H : Hp} {p : Addr} (e : H p = some ho) (h : DictR K W ho x) : ∀ c, H p ≠ some (LamX.CodeO c lamN) := fun c z => by
  rw [e] at z
  rcases h with ⟨_, _, rfl, _⟩ | ⟨_, _, rfl, _⟩ <;> cases z
theorem dictR_frz {W' : Wd} {ho : HO} {x : Dt} {p : Addr} {od : Obj} (h : DictR K W ho x) (l : W.Le W') (e : W'.F p = some (.frz od ho)) : Rp K W' (.ref p) x := by
  rcases h with ⟨ks, ps, rfl, rfl, r⟩ | ⟨ks, ps, rfl, rfl, r⟩
  · exact .dK e (r.le l)
  · exact .dT e (r.le l)
theorem frz_frm {W1 : Wd} {H0 H1 : Hp} {p : Addr} {u o : HO} {W0 : Wd} (f : Frm W0 H0 W1 H1) (ok : Ok K W1 H1) (n : H0 p = none) (nf : W1.F p = none) (nd : ¬ W1.dl p) (hcd : ∀ c, H1 p ≠ some (LamX.CodeO c lamN)) (nt : ∀ ps, o ≠ .tbl ps := by intro _ z; cases z) : Frm W0 H0 (W1.keep p o) (upd H1 p o) ∧ Ok K (W1.keep p o) (upd H1 p o) := by
  have f2 := f.keeps (o := o) n nf
  have hk : ∀ b, upd H1 p o b = none → H0 b = none := fun b hb => by
    by_cases z : b = p
    · rw [z]; exact n
    · rw [upd_ne z] at hb; exact f.kp b hb
  refine ⟨⟨f2.le, fun b v hb hd => by rw [upd_ne (ne_new n hb)]; exact f.sH b v hb hd, f2.nF, f2.dn, hk⟩, ?_⟩
  refine ⟨fun b v e => ?_, fun d e => ?_, ok.td, fun b ps e => by
    by_cases z : b = p
    · subst z
      have e' : upd W1.F b o b = some (.tbl ps) := e
      rw [upd_same] at e'
      exact nt ps (Option.some.inj e')
    · have e' : upd W1.F p o b = some (.tbl ps) := e
      rw [upd_ne z] at e'
      exact ok.nt b ps e'⟩
  · by_cases z : b = p
    · subst z
      have e' : upd W1.F b o b = some v := e
      rw [upd_same] at e' ⊢; exact e'
    · have e' : upd W1.F p o b = some v := e
      rw [upd_ne z] at e'
      rw [upd_ne z]; exact ok.sF b v e'
  · have ne : d ≠ p := fun z => nd (by rw [← z]; exact e)
    obtain ⟨f, m⟩ := ok.dc d e
    refine ⟨?_, m.mv rfl (same_upd nf) (upd_ne ne) fun c hc => by rw [upd_ne (fun q => hcd c (by rw [← q]; exact hc))]; exact hc⟩
    show upd W1.F p o d = none
    rw [upd_ne ne]; exact f
theorem le_fzD {a : DD} (q : liftE K C E (dFzD a) σ H Q) : tFzE (liftD K C E a) σ H Q := by
  obtain ⟨c, P, at_, h, k⟩ := q
  refine ⟨c, P, at_, h, fun W1 H1 p ho x f1 o1 n nf nd e r q1 => ⟨p, ho, rfl, e, dictR_mut r, fun od => ?_⟩⟩
  obtain ⟨f2, o2⟩ := frz_frm (u := ho) (o := .frz od ho) f1 o1 n nf nd (dictR_nc e r)
  exact k _ _ _ _ f2 o2 (dictR_frz r (Wd.le_keep nf) keep_at) q1
theorem ls_asgD {i : Nat} {a : DD} (q : liftS K C E (dAsgD i a) D σ H) : tAsg (liftD K C E a) (gName i) D σ H := by
  obtain ⟨c, DD, at_, en, h⟩ := q
  refine ⟨c, _, at_, h, fun W1 H1 p ho x f o n nf nd e r q1 => ?_⟩
  have a1 := at_.frm f o
  refine en.nx W1 (c.ρ.set i (.od x)) (σ.set i (some (.ref p))) H1 ⟨a1.lk.setOwn i ⟨p, ho, rfl, ⟨nf, at_.fr.kp p n, nd⟩, e, r⟩ fun j t e1 e2 ne e3 => ?_, a1.fr, a1.el, a1.lo⟩ q1
  obtain ⟨w, h1, h2⟩ := at_.lk.sl j t e1
  rw [h1] at e3
  obtain rfl := Option.some.inj e3
  cases t with
  | un => cases e2
  | v x => cases e2
  | ol ys =>
    obtain ⟨q, us, z, _, hq, _⟩ := h2
    obtain rfl := V.ref.inj (Option.some.inj z)
    rw [n] at hq; cases hq
  | od ps =>
    obtain ⟨q, us, z, _, hq, _⟩ := h2
    obtain rfl := V.ref.inj (Option.some.inj z)
    rw [n] at hq; cases hq
  | ob ps =>
    obtain ⟨q, us, ks, z, _, hq, _⟩ := h2
    obtain rfl := V.ref.inj (Option.some.inj z)
    rw [n] at hq; cases hq
theorem le_newK (q : liftD K C E dNewK σ H Q) : tDNewK σ H Q := by
  obtain ⟨c, P, at_, h, k⟩ := q
  exact fun p n => k c.W _ p _ _ (Frm.laid n) (at_.lk.ok.laid n) n (at_.lk.ok.fr n) (at_.lk.ok.dice_ne n) upd_same (.inl ⟨[], [], rfl, rfl, .nil⟩) h
theorem le_newT (q : liftD K C E dNewT σ H Q) : tDNewT σ H Q := by
  obtain ⟨c, P, at_, h, k⟩ := q
  exact fun p n => k c.W _ p _ _ (Frm.laid n) (at_.lk.ok.laid n) n (at_.lk.ok.fr n) (at_.lk.ok.dice_ne n) upd_same (.inr ⟨[], [], rfl, rfl, .nil⟩) h
theorem Cn.At.od {c : Cn} {i : Nat} {x : Dt} (a : c.At K C E σ H) (e : c.ρ[i]? = some (.od x)) : ∃ p ho, σ[i]? = some (some (.ref p)) ∧ Mine c.Hin c.W p ∧ H p = some ho ∧ DictR K c.W ho x := by
  obtain ⟨o, h1, p, ho, rfl, m, h, r⟩ := a.lk.sl i _ e
  exact ⟨p, ho, h1, m, h, r⟩
theorem dictR_K {ho : HO} {ps : List (Key × Dt)} (h : DictR K W ho (.dK ps)) : ∃ ks, ho = .dK ks ∧ RpK K W ks ps := by
  rcases h with ⟨ks, qs, rfl, e, r⟩ | ⟨ks, qs, rfl, e, r⟩
  · obtain rfl := Dt.dK.inj e; exact ⟨ks, rfl, r⟩
  · cases e
theorem ls_frzD {i : Nat} {t : DS} (q : liftS K C E (dFrzD i t) D σ H) : tFzS (liftS K C E t) D σ H := by
  obtain ⟨c, DD, at_, en, x, e, h⟩ := q
  obtain ⟨p, ho, h1, m, hp, r⟩ := at_.od e
  refine ⟨p, ho, hp, dictR_mut r, fun od => ?_⟩
  have hset : ∀ (j : Nat) (s : Sl), j ≠ i → c.ρ[j]? = some s → own s = true → σ[j]? ≠ some (some (.ref p)) := fun j s ne ej ow ej2 => at_.lk.sep j i s (.od x) p ne ej e ow rfl ej2 h1
  obtain ⟨f2, o2⟩ := frz_frm (u := ho) (o := .frz od ho) at_.fr at_.lk.ok m.i m.f m.d (dictR_nc hp r)
  have le := Wd.le_keep (o := .frz od ho) m.f
  refine ⟨{ c with W := c.W.keep p (.frz od ho), ρ := c.ρ.set i (.v x) }, DD, ⟨⟨o2, by rw [List.length_set]; exact at_.lk.len, fun j u z => ?_, fun a b s1 t1 q ne e1 e2 o1 o2 g1 g2 => ?_⟩, f2, at_.el, at_.lo.trans le⟩, en.mv, h⟩
  · rcases set_get z with ⟨rfl, rfl⟩ | ⟨ne, zz⟩
    · exact ⟨_, h1, _, rfl, dictR_frz r le keep_at⟩
    · obtain ⟨w, h3, h4⟩ := at_.lk.sl j u zz
      refine ⟨w, h3, ?_⟩
      have oth : ∀ q, own u = true → w = some (.ref q) → q ≠ p := fun q ou ew z2 => by
        subst z2; subst ew
        exact hset j u (Ne.symm ne) zz ou h3
      have mine : ∀ q, q ≠ p → Mine c.Hin c.W q → Mine c.Hin (c.W.keep p (.frz od ho)) q := fun q nq mq => ⟨by
        show upd c.W.F p _ q = none
        rw [upd_ne nq]; exact mq.f, mq.i, mq.d⟩
      cases u with
      | un => trivial
      | v x => obtain ⟨v, e1, r⟩ := h4; exact ⟨v, e1, r.le le⟩
      | ol xs => obtain ⟨q, vs, e1, mq, hq, r⟩ := h4; exact ⟨q, vs, e1, mine q (oth q rfl e1) mq, by rw [upd_ne (oth q rfl e1)]; exact hq, r.le le⟩
      | od ps => obtain ⟨q, h0, e1, mq, hq, r⟩ := h4; exact ⟨q, h0, e1, mine q (oth q rfl e1) mq, by rw [upd_ne (oth q rfl e1)]; exact hq, r.le le⟩
      | ob ps => obtain ⟨q, h0, ks, e1, mq, hq, b, r⟩ := h4; exact ⟨q, h0, ks, e1, mine q (oth q rfl e1) mq, by rw [upd_ne (oth q rfl e1)]; exact hq, b, r.le le⟩
  · rcases set_get e1 with ⟨rfl, rfl⟩ | ⟨_, f1⟩
    · cases o1
    rcases set_get e2 with ⟨rfl, rfl⟩ | ⟨_, f2⟩
    · cases o2
    exact at_.lk.sep a b s1 t1 q ne f1 f2 o1 o2 g1 g2
theorem le_getK {a b : DE} (q : liftE K C E (dGetK a b) σ H Q) : tDGet (liftE K C E a) (liftE K C E b) σ H Q := by
  obtain ⟨c, P, at_, h, k⟩ := q
  refine ⟨c, _, at_, h, fun W1 H1 v1 x1 f1 o1 r1 q1 => ?_⟩
  refine ⟨{ c with W := W1 }, _, at_.frm f1 o1, q1, fun W2 H2 v2 x2 f2 o2 r2 ⟨ps, kk, z, e1, e2, eg, q2⟩ => ?_⟩
  subst e1; subst e2
  obtain ⟨a, o, ks, rfl, hf, rk⟩ := rp_dK (r1.le f2.le)
  rcases rk.get (k := kk) with ⟨_, n⟩ | ⟨v, x, hv, hx, rv⟩
  · rw [n] at eg; cases eg
  · rw [hx] at eg
    obtain rfl := Option.some.inj eg
    exact ⟨a, v, rfl, .inl ⟨ks, kk, .inr ⟨o, o2.sF _ _ hf⟩, rp_key r2, hv.symm⟩, k W2 H2 v x (f1.trans f2) o2 rv q2⟩
theorem isSome_eq {ks : List (Key × V)} {ps : List (Key × Dt)} (r : RpK K W ks ps) (k : Key) : (valV ks k).isSome = (gK ps k).isSome := by
  rcases r.get (k := k) with ⟨h1, h2⟩ | ⟨v, x, h1, h2, _⟩ <;> rw [h1, h2] <;> rfl
theorem le_inK {a b : DE} (q : liftE K C E (dInK b a) σ H Q) : tDIn (liftE K C E b) (liftE K C E a) σ H Q := by
  obtain ⟨c, P, at_, h, k⟩ := q
  refine ⟨c, _, at_, h, fun W1 H1 v1 x1 f1 o1 r1 q1 => ?_⟩
  refine ⟨{ c with W := W1 }, _, at_.frm f1 o1, q1, fun W2 H2 v2 x2 f2 o2 r2 ⟨ps, kk, e1, e2, q2⟩ => ?_⟩
  subst e1; subst e2
  obtain ⟨a, o, ks, rfl, hf, rk⟩ := rp_dK r2
  exact ⟨a, valV ks kk, rfl, .inl ⟨ks, kk, .inr ⟨o, o2.sF _ _ hf⟩, rp_key (r1.le f2.le), rfl⟩, by rw [isSome_eq rk]; exact k W2 H2 _ _ (f1.trans f2) o2 (.bl _) q2⟩
theorem le_notInK {a b : DE} (q : liftE K C E (dNotInK b a) σ H Q) : tDNotIn (liftE K C E b) (liftE K C E a) σ H Q := by
  obtain ⟨c, P, at_, h, k⟩ := q
  refine ⟨c, _, at_, h, fun W1 H1 v1 x1 f1 o1 r1 q1 => ?_⟩
  refine ⟨{ c with W := W1 }, _, at_.frm f1 o1, q1, fun W2 H2 v2 x2 f2 o2 r2 ⟨ps, kk, e1, e2, q2⟩ => ?_⟩
  subst e1; subst e2
  obtain ⟨a, o, ks, rfl, hf, rk⟩ := rp_dK r2
  exact ⟨a, valV ks kk, rfl, .inl ⟨ks, kk, .inr ⟨o, o2.sF _ _ hf⟩, rp_key (r1.le f2.le), rfl⟩, by rw [isSome_eq rk]; exact k W2 H2 _ _ (f1.trans f2) o2 (.bl _) q2⟩
end
/-! dict comprehensions over keys that are ints and texts -/
def dDcF (p : Pt) (t : DT) (ek ev : DE) (ρ0 : Env) (X : DX) : List Dt → List (Key × Dt) → (List (Key × Dt) → Prop) → Prop
  | [], acc, P => P acc
  | x :: xs, acc, P => bindD p x ρ0 fun ρ => t X ρ fun b => if b = true then ek X ρ fun y => ev X ρ fun z => ∃ k, y = keyD k ∧ acc.length ≤ 100000 ∧ dDcF p t ek ev ρ0 X xs (pK acc k z) P else dDcF p t ek ev ρ0 X xs acc P
def dDc (w : DA) (p : Pt) (t : DT) (ek ev : DE) (vs : List Nat) : DD := fun X ρ P => w X ρ fun xs => dDcF p t ek ev (wipeD ρ vs) X xs [] fun ps => P (.dK ps)
section
variable {K : PySem.W.Frag} {C : Ec} {E : XK} {σ : L2.St} {H : Hp}
theorem le_dc {w : DA} {p : Pt} {t : DT} {ek ev : DE} {vs : List Nat} {Q : VK} (hp : ptIn vs p = true) (q : liftD K C E (dDc w p t ek ev vs) σ H Q) : tDc (liftI K C E w) (gOf K p) (liftT K C E t) (liftE K C E ek) (liftE K C E ev) vs σ H Q := by
  obtain ⟨c, P, at_, h, k⟩ := q
  refine ⟨c, _, at_, h, fun W1 H1 J xs f1 o1 wk q1 D n => ?_⟩
  have hn0 : H D = none := f1.kp D n
  refine ⟨fun i m H' => m = xs.length - i ∧ i ≤ xs.length ∧ ∃ W' acc ks, Cn.At K C E { c with Wl := W1, W := W' } σ H' ∧ Frm c.W H W' H' ∧ W'.F D = none ∧ ¬ W'.dl D ∧ H' D = some (.dK ks) ∧ RpK K W' ks acc ∧ dDcF p t ek ev (wipeD c.ρ vs) c.PX (xs.drop i) acc fun ps => P (.dK ps),
    ⟨xs.length, by simp, Nat.zero_le _, W1, [], [], ?_, f1.trans (Frm.laid n), o1.fr n, o1.dice_ne n, upd_same, .nil, q1⟩, ?_⟩
  · have a1 := at_.frm f1 o1
    have a2 := a1.frm (Frm.laid (o := .dK []) n) (o1.laid n)
    exact ⟨a2.lk, a2.fr, a2.el, Wd.Le.refl _⟩
  · rintro i m H' ⟨rfl, hi, W', acc, ks, a, fr, nF, nd, hD, ra, q⟩
    have g : Same W1.F H' := Same.trans a.lo.sF a.lk.ok.sF
    rcases Nat.lt_or_ge i xs.length with hlt | hge
    · refine .inr ⟨wk.goes i H' hlt g, fun H2 => ∃ W' acc ks, Cn.At K C E { c with Wl := W1, W := W' } σ H2 ∧ Frm c.W H W' H2 ∧ W'.F D = none ∧ ¬ W'.dl D ∧ H2 D = some (.dK ks) ∧ RpK K W' ks acc ∧ dDcF p t ek ev (wipeD c.ρ vs) c.PX (xs.drop (i + 1)) acc fun ps => P (.dK ps),
        fun H2 h2 => ⟨xs.length - (i + 1), by omega, rfl, hlt, h2⟩, fun u H2 y => ?_⟩
      obtain ⟨W2, x, f2, o2, ex, r⟩ := yd_run (wk.yields i H' u H2 hlt g y) a.lk.ok a.lo
      rw [drop_at ex] at q
      have a2 := (a.frm f2 o2).wipe vs
      refine bind_run (c := { c with Wl := W1, W := W2, ρ := wipeD c.ρ vs }) p a2 r q fun ρ3 σ3 a3 w3 q3 _ => ⟨(w3 vs hp).trans (wipe_wipe fun _ h => h), ?_⟩
      refine ⟨{ c with Wl := W1, W := W2, ρ := ρ3 }, _, a3, q3, fun W4 H4 b f4 o4 q4 => ?_⟩
      have f24 := f2.trans f4
      cases b with
      | false =>
        rw [if_neg Bool.false_ne_true] at q4
        refine iteF ?_
        exact ⟨W4, acc, ks, a.frm f24 o4, fr.trans f24, f24.nF D _ hD nd trivial nF, f24.ndl hD nd, f24.sH D _ hD nd, ra.le f24.le, q4⟩
      | true =>
        rw [if_pos rfl] at q4
        refine iteT ?_
        refine ⟨{ c with Wl := W1, W := W4, ρ := ρ3 }, _, a3.frm f4 o4, q4, fun W5 H5 v5 y5 f5 o5 r5 q5 => ?_⟩
        refine ⟨{ c with Wl := W1, W := W5, ρ := ρ3 }, _, (a3.frm f4 o4).frm f5 o5, q5, fun W6 H6 v6 y6 f6 o6 r6 ⟨kk, ek2, hz, q6⟩ => ?_⟩
        subst ek2
        have f26 := (f24.trans f5).trans f6
        have hD6 := f26.sH D _ hD nd
        have nF6 := f26.nF D _ hD nd trivial nF
        have nd6 := f26.ndl hD nd
        have ra6 := ra.le f26.le
        have fr6 := fr.trans f26
        have up : Frm c.W H W6 (upd H6 D (.dK (putK ks kk v6))) := ⟨fr6.le, fun b o hb hd => by rw [upd_ne (ne_new hn0 hb)]; exact fr6.sH b o hb hd, fr6.nF, fr6.dn, fun b hb => by
          by_cases e : b = D
          · rw [e]; exact hn0
          · rw [upd_ne e] at hb; exact fr6.kp b hb⟩
        refine ⟨ks, kk, rp_key (r5.le f6.le), hD6, Nat.lt_of_le_of_lt (by rw [ra.length]; exact hz) (by decide), W6, pK acc kk y6, putK ks kk v6, ?_, up, nF6, nd6, upd_same, ra6.put r6, q6⟩
        have au := at_.frm up (o6.change nF6 nd6 hD6 trivial)
        exact ⟨au.lk, au.fr, at_.el, a.lo.trans f26.le⟩
    · obtain rfl : i = xs.length := by omega
      refine .inl ⟨wk.stops H' g, ?_⟩
      rw [List.drop_length] at q
      exact k W' H' D (.dK ks) (.dK acc) fr a.lk.ok hn0 nF nd hD (.inl ⟨ks, acc, rfl, rfl, ra⟩) q
end
section
variable {X : Cx} {C : Ec} {E : XK} {e : Expr} {dd : DD} {da db : DE}
theorem efzD (h : PE X e (liftD X.K C E dd)) : PE X e (liftE X.K C E (dFzD dd)) := PE.imp (pe_fzE h) fun _ _ _ => le_fzD
theorem tdict (h : PT X e (tB (liftE X.K C E da))) : PT X e (liftT X.K C E (dB da)) := PT.imp h fun _ _ _ => le_B
end
end Dx
end
section
/-! raising over data -/
namespace Dx
open PySem L2 RT Sx
def ecOf (e : Er) : Ec
  | 0 => e.base
  | 1 => e.bad
  | 2 => e.turned
  | 3 => e.side
  | 4 => e.step
  | _ => e.text
/-- an own error class without an __init__ of its own -/
structure OwnP (K : PySem.W.Frag) (mg : Str → Option Value) (cn : Str) (C : Addr) : Prop where
  gC : mg cn = some (.ref C)
  xC : PySem.W.excIn K C [.type "ValueError", .type "Exception", .type "BaseException", .type "object"] "ValueError.__new__" = true
  kC : PySem.W.keepIn K (.ref C) = true
  bC : PySem.W.subIn K (.ref C) (.type "BaseException") = some true
  tC : PySem.W.typeIn K (.ref C) = some (.type "type")
theorem pmk_p {X : Cx} {cn m : Str} {C : Addr} {j : Nat} {p p2 pos : Pos} (T : OwnP X.K X.mg cn C) (hg : Gl X cn) (hdb : (cn == ("__debug__" : Str)) = false := by decide) : PMk X (.Call (.Name cn p) [.Constant (.str m) j p2] [] pos) (fun _ H Q => Q (.ref C) none H) :=
  pmk_own PySem.F.excBase_ValueError T.xC T.gC T.kC (raises_own T.bC T.tC) hg hdb
section
variable {K : PySem.W.Frag} {C : Ec} {E : XK} {σ : L2.St} {H : Hp} {D : Ends}
theorem ls_raise0 {k : Nat} (hk : fldsOf k = []) (q : liftS K C E (dRaise0 k) D σ H) : E (.ref (C k)) none H := by
  obtain ⟨c, DD, at_, en, h⟩ := q
  exact at_.el c.W H k [] _ _ at_.fr at_.lk.ok ⟨rfl, by rw [hk]; rfl, .inl rfl⟩ h
theorem ls_raise1 {k : Nat} {f : Str} {a : DA} (hk : fldsOf k = [f]) (q : liftS K C E (dRaise k a) D σ H) : tRaiseF (C k) f (fun cls d _ H => E cls d H) (liftA K C E a) D σ H := by
  obtain ⟨c, DD, at_, en, h⟩ := q
  refine ⟨c, _, at_, h, fun W1 H1 vs xs f1 o1 r1 ⟨hl, q1⟩ => ?_⟩
  rw [hk] at hl
  match xs, vs, r1, hl, q1 with
  | [x], [v], .cons rv .nil, _, q1 =>
    refine ⟨v, rfl, fun d n => ?_⟩
    refine at_.el W1 _ k [x] _ _ (at_.fr.trans (f1.trans (Frm.laid n))) (o1.laid n) ⟨rfl, by rw [hk]; rfl, .inr ⟨d, [v], rfl, ?_, .cons rv .nil⟩⟩ q1
    rw [hk, upd_same]; rfl
end
end Dx
namespace Dx
open PySem L2 RT Sx
def sp_law : DSp := fun xs P _ => ∃ ns : List Int, xs = [.scr ns] ∧ ns.length ≤ 63 ∧ P (.bl true)
def lawSp (K : PySem.W.Frag) : Sp := fun vs H Q _ => ∃ (a : Addr) (ns : List Int), vs = [.ref a] ∧ SqL K H a (ns.map V.int) ∧ ns.length ≤ 63 ∧ ∀ H', Q (.bl true) H'
/-- the heap without its tables -/
def noTab (H : Hp) : Hp := fun a => match H a with
  | some (.tbl _) => none
  | x => x
theorem noTab_same {H : Hp} : Same (noTab H) H := fun a o h => by
  unfold noTab at h
  cases z : H a with
  | none => rw [z] at h; cases h
  | some u => rw [z] at h; cases u <;> first | exact h | cases h
theorem noTab_nt {H : Hp} {p : Addr} {ps : Array Value} : noTab H p ≠ some (.tbl ps) := fun h => by
  have h2 := noTab_same _ _ h
  unfold noTab at h
  rw [h2] at h; cases h
theorem noTab_seq {K : PySem.W.Frag} {H : Hp} {a : Addr} {xs : List V} (h : SqL K H a xs) : SqL K (noTab H) a xs := by
  rcases h with (z | ⟨o, z⟩) | z
  · exact .inl (.inl (by unfold noTab; rw [z]))
  · exact .inl (.inr ⟨o, by unfold noTab; rw [z]⟩)
  · exact .inr z
theorem conv_law {K : PySem.W.Frag} {C : Ec} {vs : List V} {H : Hp} {Q : VK} {E : XK} (h : lawSp K vs H Q E) : liftSp K C sp_law vs H Q E0 := by
  obtain ⟨a, ns, rfl, hs, hl, q⟩ := h
  refine ⟨⟨noTab H, fun _ => False, fun _ => False⟩, [.scr ns], fun x => x = .bl true, none_, ⟨noTab_same, fun _ z => z.elim, fun _ z => z.elim, fun _ _ => noTab_nt⟩, .cons (.scr (noTab_seq hs)) .nil, ⟨ns, rfl, hl, rfl⟩, fun W' H' v x f o r e => ?_, fun W' H' k fs cls d f o er px => px⟩
  subst e
  rw [rp_bl r]; exact q H'
/-- of a law that hands lambdas on: the table of their code objects is empty -/
def lawSpT (K : PySem.W.Frag) (cP : Addr) : Sp := fun vs H Q _ => ∃ (a : Addr) (ns : List Int), vs = [.ref a] ∧ SqL K H a (ns.map V.int) ∧ ns.length ≤ 63 ∧ H cP = some (.tbl #[]) ∧ ∀ H', Q (.bl true) H'
def sp_lawT : DSp := fun xs P _ => ∃ ns : List Int, xs = [.scrT ns] ∧ ns.length ≤ 63 ∧ P (.bl true)
theorem conv_lawT {K : PySem.W.Frag} {C : Ec} {c cP : Addr} {vs : List V} {H : Hp} {Q : VK} {E : XK} (hK : PySem.W.tabIn K "law" = some (c, cP)) (h : lawSpT K cP vs H Q E) : liftSp K C sp_lawT vs H Q E0 := by
  obtain ⟨a, ns, rfl, hs, hl, hP, q⟩ := h
  have hT : LamX.TabS H cP lamN := LamX.TabS.nil hP
  refine ⟨⟨noTab H, fun a => a = cP, fun a => a = cP⟩, [.scrT ns], fun x => x = .bl true, none_, ⟨noTab_same, fun d z => ?_, fun _ z => z, fun _ _ => noTab_nt⟩, .cons (.scrT (noTab_seq hs) fun c' P' e => ?_) .nil, ⟨ns, rfl, hl, rfl⟩, fun W' H' v x f o r e => ?_, fun W' H' k fs cls d f o er px => px⟩
  · subst z
    exact ⟨by show noTab H d = none; unfold noTab; rw [hP], .inr ⟨rfl, hT⟩⟩
  · rw [hK] at e; cases e; exact ⟨rfl, rfl⟩
  · subst e
    rw [rp_bl r]; exact q H'
theorem lawSp_len {K : PySem.W.Frag} {vs : List V} {H : Hp} {Q : VK} {E : XK} (h : lawSp K vs H Q E) : vs.length = 1 := by
  obtain ⟨_, _, rfl, _⟩ := h; rfl
end Dx
end
section
/-! texts over data; a list taken apart -/
namespace L2
open PySem PySem.Spec PyProof.Rows Sx
section
variable {X : Cx}
theorem iop_mulW : OpR X (inplaceOp .Mult) (rI CMulW fun i j => .int (i * j)) := opI fun _ _ _ _ _ _ _ hc q => imul_int q hc.ok
def rIsqrt : List V → Hp → VK → Prop := fun vs H Q => ∃ a : Nat, vs = [natV a] ∧ a < 2 ^ 250 ∧ Q (natV (Float64.isqrt a)) H
theorem cr_isqrt : CallR X (.builtin "math.isqrt") rIsqrt := fun pins s σ H vs us Q I r ⟨a, e, hz, q⟩ => by
  subst e
  obtain ⟨u, rfl, t, rfl⟩ := vals1 r
  have hl : a.log2 ≤ 249 := PySem.W.mg_log hz
  have hn : ((a : Nat) : Int).toNat = a := Int.toNat_natCast a
  exact PySem.call_function_meets PySem.W.MGF.kind_isqrt PySem.W.MGF.plain_isqrt PySem.W.MGF.entry_isqrt (PySem.W.MGF.args_isqrt _) (PySem.W.mg_run_isqrt (a : Int) t (by omega) (by rw [hn]; omega) (by rw [hn]; omega)).meets ⟨natV (Float64.isqrt a), H, I.tok _, ⟨_, by rw [hn]⟩, q⟩
end
end L2
namespace Dx
open PySem L2 RT Sx
/-- a, b, .. = a list of that length -/
def dAsgL (ps : List Pt) (a : DE) : DS := fun D X ρ => a X ρ fun x => ∃ xs, x = .lst xs ∧ bindDs ps xs ρ D.nx
def dJoin (o e : DE) : DE := fun X ρ P => o X ρ fun x => ∃ a, x = .str a ∧ e X ρ fun y => ∃ ys : List Str, (y = .lst (ys.map Dt.str) ∨ y = .tup (ys.map Dt.str)) ∧ (ys.map (·.length)).sum + ys.length * a.length ≤ 16777216 ∧ P (.str (Txt.join a ys))
def dSplit (o e : DE) : DN := fun X ρ P => o X ρ fun x => ∃ a, x = .str a ∧ e X ρ fun y => ∃ b, y = .str b ∧ (b.length == 0) = false ∧ a.length ≤ 99000 ∧ P ((Txt.split a b).map Dt.str)
abbrev rStrI : List V → Hp → VK → Prop := fun xs H Q => ∃ i : Int, xs = [.int i] ∧ i.natAbs.log2 < 1920 ∧ Q (.str (toString i)) H
abbrev rJoinS (K : PySem.W.Frag) : V → List V → Hp → VK → Prop := fun x xs H Q => ∃ a p, ∃ ys : List Str, x = .str a ∧ xs = [.ref p] ∧ (SqL K H p (ys.map V.str) ∨ SqT K H p (ys.map V.str)) ∧ (ys.map (·.length)).sum + ys.length * a.length ≤ 16777216 ∧ Q (.str (Txt.join a ys)) H
abbrev rSplitS : V → List V → Hp → VK → Prop := fun x xs H Q => ∃ a b, x = .str a ∧ xs = [.str b] ∧ (b.length == 0) = false ∧ a.length + 2 ≤ sizeLine ∧ rNewStrs (Txt.split a b) H Q
mutual
theorem bindD_any : ∀ (p : Pt) {x : Dt} {ρ : Env} {N : Env → Prop}, bindD p x ρ N → ∃ ρ', N ρ'
  | .nm i, _, _, _, h => ⟨_, h⟩
  | .tp ps, _, _, _, ⟨_, _, h⟩ => (bindDs_len ps h).2
theorem bindDs_len : ∀ (ps : List Pt) {xs : List Dt} {ρ : Env} {N : Env → Prop}, bindDs ps xs ρ N → ps.length = xs.length ∧ ∃ ρ', N ρ'
  | [], _, _, _, ⟨e, h⟩ => ⟨by subst e; rfl, ⟨_, h⟩⟩
  | p :: ps, _, _, _, ⟨y, ys, e, h⟩ => by
    obtain ⟨ρ', h'⟩ := bindD_any p h
    obtain ⟨e2, r⟩ := bindDs_len ps h'
    exact ⟨by rw [e, List.length_cons, List.length_cons, e2], r⟩
end
section
variable {K : PySem.W.Frag} {C : Ec} {E : XK} {σ : L2.St} {H : Hp} {Q : VK} {D : Ends} {W : Wd}
theorem o_strI : OpL K rStrI dStrI := fun W H vs xs P Q o r ⟨i, e, hz, q⟩ k => by
  subst e
  obtain ⟨v, rfl, rv⟩ := rpl1 r
  exact ⟨i, by rw [rp_int rv], hz, k W H _ _ (Frm.refl _ _) o (.str _) q⟩
theorem o_gcd : OpL K rGcd dGcd := fun W H vs xs P Q o r ⟨a, b, e, q⟩ k => by
  subst e
  obtain ⟨v, w, rfl, r1, r2⟩ := rpl2 r
  refine ⟨a, b, by rw [rp_int r1, rp_int r2], ?_⟩
  rw [Int.natAbs_natCast, Int.natAbs_natCast]
  exact k W H _ _ (Frm.refl _ _) o (.int _) q
theorem o_isqrt : OpL K rIsqrt dIsqrt := fun W H vs xs P Q o r ⟨a, e, hz, q⟩ k => by
  subst e
  obtain ⟨v, rfl, r1⟩ := rpl1 r
  exact ⟨a, by rw [rp_int r1]; rfl, hz, k W H _ _ (Frm.refl _ _) o (.int _) q⟩
theorem rpl_strs {vs : List V} : ∀ {ys : List Str}, RpL K W vs (ys.map Dt.str) → vs = ys.map V.str := by
  intro ys
  induction ys generalizing vs with
  | nil => intro r; cases r; rfl
  | cons y ys ih =>
    intro r
    cases r with
    | cons a b => rw [rp_str a, ih b]; rfl
theorem rpl_strs' : ∀ {ys : List Str}, RpL K W (ys.map V.str) (ys.map Dt.str)
  | [] => .nil
  | _ :: _ => .cons (.str _) rpl_strs'
theorem le_join {o e : DE} (q : liftE K C E (dJoin o e) σ H Q) : tM1 (rJoinS K) (liftE K C E o) (liftE K C E e) σ H Q := by
  obtain ⟨c, P, at_, h, k⟩ := q
  refine ⟨c, _, at_, h, fun W1 H1 v1 x1 f1 o1 r1 ⟨a, e1, q1⟩ => ?_⟩
  subst e1
  obtain rfl := rp_str r1
  refine ⟨⟨a, rfl⟩, ⟨{ c with W := W1 }, _, at_.frm f1 o1, q1, fun W2 H2 v2 x2 f2 o2 r2 ⟨ys, e2, hz, q2⟩ => ?_⟩⟩
  rcases e2 with e2 | e2
  · subst e2
    obtain ⟨p, vs, rfl, hs, rs⟩ := rp_lst r2
    obtain rfl := rpl_strs rs
    exact ⟨a, p, ys, rfl, rfl, .inl (sql (o2.sF _ _ hs)), hz, k _ _ _ _ (f1.trans f2) o2 (.str _) q2⟩
  · subst e2
    obtain ⟨p, vs, rfl, hs, rs⟩ := rp_tup r2
    obtain rfl := rpl_strs rs
    exact ⟨a, p, ys, rfl, rfl, .inr (sqt (o2.sF _ _ hs)), hz, k _ _ _ _ (f1.trans f2) o2 (.str _) q2⟩
theorem le_split {o e : DE} (q : liftN K C E (dSplit o e) σ H Q) : tM1 rSplitS (liftE K C E o) (liftE K C E e) σ H Q := by
  obtain ⟨c, P, at_, h, k⟩ := q
  refine ⟨c, _, at_, h, fun W1 H1 v1 x1 f1 o1 r1 ⟨a, e1, q1⟩ => ?_⟩
  subst e1
  obtain rfl := rp_str r1
  refine ⟨⟨a, rfl⟩, ⟨{ c with W := W1 }, _, at_.frm f1 o1, q1, fun W2 H2 v2 x2 f2 o2 r2 ⟨b, e2, hb, hz, q2⟩ => ?_⟩⟩
  subst e2
  obtain rfl := rp_str r2
  exact ⟨a, b, rfl, rfl, hb, szl (by omega), fun p n => newL (f1.trans f2) o2 rpl_strs' q2 k p _ n (same_new n) upd_same⟩
theorem ls_asgL {ps : List Pt} {a : DE} (q : liftS K C E (dAsgL ps a) D σ H) : tAsg (liftE K C E a) (gLst K ps.length (gsOf K ps)) D σ H := by
  obtain ⟨c, DD, at_, en, h⟩ := q
  refine ⟨c, _, at_, h, fun W1 H1 v x f o r ⟨xs, e, q1⟩ => ?_⟩
  subst e
  obtain ⟨p, vs, rfl, hs, rs⟩ := rp_lst r
  have hl : ps.length = xs.length := (bindDs_len ps q1).1
  exact ⟨p, vs, rfl, sql (o.sF _ _ hs), by rw [rs.length, ← hl], binds_run (c := { c with W := W1 }) ps (at_.frm f o) rs q1 fun ρ' σ' at' _ n _ => en.nx W1 ρ' σ' H1 at' n⟩
end
section
variable {X : Cx} {C : Ec} {E : XK} {o e : Expr} {do_ de : DE}
theorem ejoin (h : PE X e (tM1 (rJoinS X.K) (liftE X.K C E do_) (liftE X.K C E de))) : PE X e (liftE X.K C E (dJoin do_ de)) := PE.imp h fun _ _ _ => le_join
theorem pgnm {i : Nat} (h : PG X e (gName i)) : PG X e (gOf X.K (.nm i)) := by unfold gOf; exact h
theorem pgnil : PGs X [] (gsOf X.K []) := by unfold gsOf; exact pgs_nil
theorem pgcons {es : List Expr} {p : Pt} {ps : List Pt} (h1 : PG X e (gOf X.K p)) (h2 : PGs X es (gsOf X.K ps)) (hs : (assignEach (e :: es) X.env).map (·.2) = assign e X.env :: (assignEach es X.env).map (·.2) := by rfl) : PGs X (e :: es) (gsOf X.K (p :: ps)) := by
  unfold gsOf; exact pgs_cons h1 h2 hs
theorem pgtup {es : List Expr} {k : Nat} {ps : List Pt} {pos : Pos} (hc : X.calm = true) (h : PGs X es (gsOf X.K ps)) (hn : (assignEach es X.env).length = ps.length := by rfl) (hst : (assignEach es X.env).findIdx? (·.1) = none := by rfl) : PG X (.Tuple es k pos) (gOf X.K (.tp ps)) := by
  unfold gOf; exact pg_tup hc h hn hst
theorem pglst {es : List Expr} {k : Nat} {ps : List Pt} {pos : Pos} (hc : X.calm = true) (h : PGs X es (gsOf X.K ps)) (hn : (assignEach es X.env).length = ps.length := by rfl) (hst : (assignEach es X.env).findIdx? (·.1) = none := by rfl) : PG X (.Tuple es k pos) (gLst X.K ps.length (gsOf X.K ps)) := pg_lst hc h hn hst
theorem tdin {t t' : TE} (h : PT X e (tB t)) (i : ∀ σ H Q, t' σ H Q → t σ H Q) : PT X e (tB t') := PT.imp h fun σ H Q q => i σ H _ q
theorem nsplit (h : PE X e (tM1 rSplitS (liftE X.K C E do_) (liftE X.K C E de))) : PE X e (liftN X.K C E (dSplit do_ de)) := PE.imp h fun _ _ _ => le_split
end
end Dx
end
section
/-! dicts and texts, step by step -/
namespace Dx
open PySem L2 RT Sx TL
section
variable {X : DX} {ρ : Env} {P : Dt → Prop} {PA : List Dt → Prop} {PB : Bool → Prop} {D : DEnds} {a b c e : DE} {t u : DT} {s r : DS} {x y : Dt} {i : Nat} {xs ys : List Dt}
theorem d_join (q : a X ρ fun x => ∃ s, x = .str s ∧ b X ρ fun y => ∃ ys : List Str, (y = .lst (ys.map Dt.str) ∨ y = .tup (ys.map Dt.str)) ∧ (ys.map (·.length)).sum + ys.length * s.length ≤ 16777216 ∧ P (.str (Txt.join s ys))) : dJoin a b X ρ P := q
theorem d_split (q : a X ρ fun x => ∃ s, x = .str s ∧ b X ρ fun y => ∃ t, y = .str t ∧ (t.length == 0) = false ∧ s.length ≤ 99000 ∧ PA ((Txt.split s t).map Dt.str)) : dSplit a b X ρ PA := q
theorem d_exstr {s : Str} {A : Str → Prop} (q : A s) : ∃ s', Dt.str s = .str s' ∧ A s' := ⟨s, rfl, q⟩
theorem d_asgL {ps : List Pt} (q : a X ρ fun x => ∃ xs, x = .lst xs ∧ bindDs ps xs ρ D.nx) : dAsgL ps a D X ρ := q
theorem d_fzD {d : DD} (q : d X ρ P) : dFzD d X ρ P := q
theorem d_dc {w : DA} {p : Pt} {ek ev : DE} {vs : List Nat} (q : w X ρ fun xs => dDcF p t ek ev (wipeD ρ vs) X xs [] fun ps => P (.dK ps)) : dDc w p t ek ev vs X ρ P := q
theorem d_notInK (q : b X ρ fun y => a X ρ fun x => ∃ ps k, x = .dK ps ∧ y = keyD k ∧ P (.bl (!(gK ps k).isSome))) : dNotInK b a X ρ P := q
theorem d_inK (q : b X ρ fun y => a X ρ fun x => ∃ ps k, x = .dK ps ∧ y = keyD k ∧ P (.bl (gK ps k).isSome)) : dInK b a X ρ P := q
theorem d_getK (q : a X ρ fun x => b X ρ fun y => ∃ ps k z, x = .dK ps ∧ y = keyD k ∧ gK ps k = some z ∧ P z) : dGetK a b X ρ P := q
theorem d_exks {A : List (Key × Dt) → Key → Prop} {ps : List (Key × Dt)} {s : Str} (q : A ps (.inr s)) : ∃ ps' k, Dt.dK ps = .dK ps' ∧ Dt.str s = keyD k ∧ A ps' k := ⟨ps, .inr s, rfl, rfl, q⟩
theorem d_cnil {p : Pt} {ρ0 : Env} {acc : List Dt} (q : PA acc) : dComp p t e ρ0 X [] acc PA := q
theorem d_ccons {p : Pt} {ρ0 : Env} {acc : List Dt} (q : bindD p x ρ0 fun ρ => t X ρ fun k => if k = true then e X ρ fun y => acc.length ≤ 100000 ∧ dComp p t e ρ0 X xs (acc ++ [y]) PA else dComp p t e ρ0 X xs acc PA) : dComp p t e ρ0 X (x :: xs) acc PA := q
theorem d_listOf {dA : DA} (q : dA X ρ fun xs => (∃ ys, xs = [.lst ys] ∧ PA ys) ∨ ∃ ys, xs = [.tup ys] ∧ PA ys) : dListOf dA X ρ PA := q
theorem d_oflT {A B : List Dt → Prop} (q : B xs) : (∃ ys, [Dt.tup xs] = [.lst ys] ∧ A ys) ∨ ∃ ys, [Dt.tup xs] = [.tup ys] ∧ B ys := .inr ⟨xs, rfl, q⟩
theorem d_oflL {A B : List Dt → Prop} (q : A xs) : (∃ ys, [Dt.lst xs] = [.lst ys] ∧ A ys) ∨ ∃ ys, [Dt.lst xs] = [.tup ys] ∧ B ys := .inl ⟨xs, rfl, q⟩
theorem d_exsR {r : List Nat} {A : List Dt → Prop} (q : A (r.map nat)) : ∃ ys, rowD r = .tup ys ∧ A ys := ⟨_, rfl, q⟩
theorem d_lenR {r : List Nat} (q : P (nat r.length)) : dLen [rowD r] P := ⟨_, _, rfl, by rfl, by rw [List.length_map]; exact q⟩
theorem d_ixR {r : List Nat} {k : Nat} {d : Nat} (h : r[k]? = some d) (q : P (nat d)) : dIxT (rowD r) (nat k) P := ⟨_, k, nat d, rfl, rfl, Dx.atI_nat (by rw [List.getElem?_map, h]; rfl), q⟩
theorem d_raise0 {k : Nat} (q : X k []) : dRaise0 k D X ρ := q
theorem d_neStr {s t : Str} (q : P (.bl (!decide (s = t)))) : dNeS (.str s) (.str t) P := ⟨_, _, rfl, rfl, rfl, by
  rw [show decide (V.str s = V.str t) = decide (s = t) by congr 1; exact propext ⟨V.str.inj, fun h => by rw [h]⟩]; exact q⟩
theorem d_eqStr {s t : Str} (q : P (.bl (decide (s = t)))) : dEqS (.str s) (.str t) P := ⟨_, _, rfl, rfl, rfl, by
  rw [show decide (V.str s = V.str t) = decide (s = t) by congr 1; exact propext ⟨V.str.inj, fun h => by rw [h]⟩]; exact q⟩
theorem d_listOfT (q : PA xs) : dListOf (dCons (dC (.tup xs)) dNil) X ρ PA := .inr ⟨xs, rfl, q⟩
theorem pK_new {k : Key} {z : Dt} {acc : List (Key × Dt)} (h : k ∉ acc.map (·.1)) : pK acc k z = acc ++ [(k, z)] := by
  unfold pK
  rw [if_neg]
  intro e
  obtain ⟨p, hp, e2⟩ := List.any_eq_true.mp e
  exact h (List.mem_map.mpr ⟨p, hp, of_decide_eq_true e2⟩)
/-- a dict comprehension whose keys are all different -/
theorem d_dcM {p : Pt} {ek ev : DE} {ρ0 : Env} {PP : List (Key × Dt) → Prop} (gk : Dt → Key) (gv : Dt → Dt) (h : ∀ x ∈ xs, ∀ N : Dt → Dt → Prop, N (keyD (gk x)) (gv x) → bindD p x ρ0 fun ρ => ek X ρ fun y => ev X ρ fun z => N y z)
    {acc : List (Key × Dt)} (nd : (acc.map (·.1) ++ xs.map gk).Nodup) (hl : acc.length + xs.length ≤ 100000) (q : PP (acc ++ xs.map fun x => (gk x, gv x))) : dDcF p dYes ek ev ρ0 X xs acc PP := by
  induction xs generalizing acc with
  | nil => rw [List.map_nil, List.append_nil] at q; exact q
  | cons x xs ih =>
    simp only [List.length_cons] at hl
    have hn : gk x ∉ acc.map (·.1) := fun e => by
      rw [List.map_cons, List.nodup_append] at nd
      exact nd.2.2 _ e _ List.mem_cons_self rfl
    have h1 := h x List.mem_cons_self (fun y z => ∃ k, y = keyD k ∧ acc.length ≤ 100000 ∧ dDcF p dYes ek ev ρ0 X xs (pK acc k z) PP) ⟨gk x, rfl, by omega, by
      rw [pK_new hn]
      exact ih (fun y hy => h y (List.mem_cons_of_mem _ hy)) (by rw [List.map_append, List.append_assoc]; simpa using nd) (by simp; omega) (by simpa using q)⟩
    have e1 : (fun ρ => dYes X ρ fun b => if b = true then ek X ρ fun y => ev X ρ fun z => ∃ k, y = keyD k ∧ acc.length ≤ 100000 ∧ dDcF p dYes ek ev ρ0 X xs (pK acc k z) PP else dDcF p dYes ek ev ρ0 X xs acc PP) = fun ρ => ek X ρ fun y => ev X ρ fun z => ∃ k, y = keyD k ∧ acc.length ≤ 100000 ∧ dDcF p dYes ek ev ρ0 X xs (pK acc k z) PP := by
      funext ρ
      unfold dYes
      exact if_pos rfl
    show bindD p x ρ0 (fun ρ => dYes X ρ fun b => if b = true then ek X ρ fun y => ev X ρ fun z => ∃ k, y = keyD k ∧ acc.length ≤ 100000 ∧ dDcF p dYes ek ev ρ0 X xs (pK acc k z) PP else dDcF p dYes ek ev ρ0 X xs acc PP)
    rw [e1]; exact h1
theorem d_neL {r s : List Nat} (q : P (.bl (!decide (r = s)))) : dNe (.lst (r.map nat)) (.lst (s.map nat)) P := by
  obtain ⟨h1, h2⟩ := canLay_nats r
  obtain ⟨h3, h4⟩ := canLay_nats s
  have sh : ∀ r : List Nat, shD (.lst (r.map nat)) = true := fun r => by
    obtain ⟨h1, h2⟩ := canLay_nats r
    unfold shD
    simp only [toP, toPs_nats]
    show (PyData.canLay0 (.list _) && decide (PyData.depth (.list _) ≤ 64)) = true
    rw [Bool.and_eq_true]
    exact ⟨by simp only [PyData.canLay0]; exact h1, decide_eq_true (by simp only [PyData.depth]; omega)⟩
  refine ⟨sh r, sh s, ?_⟩
  rw [show eqD (.lst (r.map nat)) (.lst (s.map nat)) = decide (r = s) by
    unfold eqD
    simp only [toP, toPs_nats, PyData.eqv, eqvAll_nats]]
  exact q
theorem rows_of : ∀ {ys : List Dt} {Q : List Nat → Prop}, (∀ y ∈ ys, ∃ r : List Nat, y = rowD r ∧ Q r) → ∃ l : List (List Nat), ys = l.map rowD ∧ ∀ r ∈ l, Q r
  | [], _, _ => ⟨[], rfl, by simp⟩
  | y :: ys, Q, h => by
    obtain ⟨n, rfl, hn⟩ := h y List.mem_cons_self
    obtain ⟨l, rfl, hl⟩ := rows_of (ys := ys) (Q := Q) fun z hz => h z (List.mem_cons_of_mem _ hz)
    exact ⟨n :: l, rfl, fun m hm => by
      rcases List.mem_cons.mp hm with rfl | hm
      · exact hn
      · exact hl m hm⟩
/-! texts of figures -/
def numS (d : Nat) : Str := Str.ofString (toString ((d : Nat) : Int))
def txt (r : List Nat) : Str := Txt.join " " (r.map numS)
theorem numS_inj {a b : Nat} (h : numS a = numS b) : a = b := by
  have e := congrArg tl h
  unfold numS at e
  rw [tl_num, tl_num] at e
  exact numL_inj e
theorem numS_blank (d : Nat) : (32 : Nat) ∉ tl (numS d) := by
  unfold numS
  rw [tl_num]
  exact numL_free (.inl (by decide))
theorem txt_split {r : List Nat} (h : r ≠ []) : Txt.split (txt r) " " = r.map numS := by
  refine split_join (s := 32) (S := []) (by decide) (by decide +kernel) (by simpa using h) fun p hp => ?_
  obtain ⟨d, _, rfl⟩ := List.mem_map.mp hp
  exact numS_blank d
theorem numS_len (d : Nat) (h : d < 60) : (numS d).length ≤ 2 := by
  have : ∀ d, d < 60 → (numS d).length ≤ 2 := by decide +kernel
  exact this d h
theorem sum_le : ∀ {r : List Nat}, (∀ d ∈ r, d < 60) → ((r.map numS).map (·.length)).sum ≤ 2 * r.length
  | [], _ => by simp
  | d :: r, h => by
    have h1 := numS_len d (h d (by simp))
    have h2 := sum_le (r := r) fun x hx => h x (List.mem_cons_of_mem _ hx)
    simp only [List.map_cons, List.sum_cons, List.length_cons]
    omega
theorem join_len {r : List Nat} (h : ∀ d ∈ r, d < 60) (hl : r.length ≤ 1000) : ((r.map numS).map (·.length)).sum + (r.map numS).length * (" " : Str).length ≤ 16777216 := by
  have h1 := sum_le h
  have h2 : (" " : Str).length = 1 := by decide
  rw [h2, List.length_map]; omega
theorem txt_len {r : List Nat} (h : ∀ d ∈ r, d < 60) (hl : r.length ≤ 1000) : (txt r).length ≤ 4000 := by
  have h1 := sum_le h
  have h2 := StrLaws.join_length_le " " (r.map numS)
  have h3 : (" " : Str).length = 1 := by decide
  unfold txt
  rw [join_eq]
  rw [h3, List.length_map] at h2
  omega
/-- the text of a whole number -/
def strOf : Dt → Dt
  | .int z => .str (numS z.toNat)
  | _ => .non
theorem nums_map (r : List Nat) : (r.map nat).map strOf = (r.map numS).map Dt.str := by
  rw [List.map_map, List.map_map]
  exact List.map_congr_left fun d _ => rfl
theorem d_strN {n : Nat} (h : n < 2 ^ 64) (q : P (.str (numS n))) : dStrI [nat n] P := ⟨(n : Int), rfl, by
  rw [Int.natAbs_natCast]
  rcases Nat.eq_zero_or_pos n with rfl | h0
  · decide
  · exact (Nat.log2_lt (by omega)).mpr (Nat.lt_trans h (Nat.pow_lt_pow_right (by decide) (by decide))), q⟩
/-- a row's figures put together -/
theorem d_joinR {r : List Nat} {e : DE} {p : Pt} (h60 : ∀ d ∈ r, d < 60) (hl : r.length ≤ 1000) (h : ∀ Q : Dt → Prop, Q (.lst ((r.map numS).map Dt.str)) → e X ρ Q) (q : P (.str (txt r))) : dJoin (dC (.str " ")) e X ρ P :=
  ⟨" ", rfl, h _ ⟨r.map numS, .inl rfl, join_len h60 hl, q⟩⟩
theorem gK_num : ∀ {l : List Nat} {d : Nat}, d ∈ l → gK (l.map fun d => ((.inr (numS d) : Key), nat d)) (.inr (numS d)) = some (nat d)
  | a :: l, d, h => by
    unfold gK
    by_cases e : a = d
    · subst e; simp
    · have ne : ¬ ((.inr (numS a) : Key) = .inr (numS d)) := fun z => e (numS_inj (Sum.inr.inj z))
      rw [List.map_cons, List.find?_cons_of_neg (by simpa using ne)]
      rcases List.mem_cons.mp h with h | h
      · exact absurd h.symm e
      · exact gK_num h
theorem gK_num_no : ∀ {l : List Nat} {w : Str}, (∀ d ∈ l, w ≠ numS d) → gK (l.map fun d => ((.inr (numS d) : Key), nat d)) (.inr w) = none
  | [], _, _ => rfl
  | a :: l, w, h => by
    have ne : ¬ ((.inr (numS a) : Key) = .inr w) := fun z => h a List.mem_cons_self (Sum.inr.inj z).symm
    unfold gK
    rw [List.map_cons, List.find?_cons_of_neg (by simpa using ne)]
    exact gK_num_no (l := l) fun d hd => h d (List.mem_cons_of_mem _ hd)
end
end Dx
end
section
/-! a tuple turned round by [::-1] -/
namespace RevT
open PySem PyProof.Rows PySem.SeqAt HT
open PySem.AutoSeq1 (wpAny_loadPart')
open PySem.MeetsSeq PySem.MeetsSeq2 PySem.MeetsSeq3
variable {prog : Program} {w : World} {A : Around} {E : Value → Shared → Prop} {s : Shared}
theorem adj_back (n : Nat) : Builtin.Slice.sliceAdjust none none (-1) (n : Int) = ((n : Int) - 1, -1) := rfl
theorem pl_back (n : Nat) : Builtin.Slice.slicePlaces ((n : Int) - 1) (-1) (-1) = n := by
  unfold Builtin.Slice.slicePlaces
  have h1 : ¬ ((-1 : Int) > 0) := by decide
  simp only [h1, if_false, show (-(-1) : Int) = 1 by decide, Int.ediv_one]
  split <;> omega
theorem app_back {sl : Addr} {vl vu vs : Value} {n : Nat} {Q : Int × Int × Nat → Shared → Prop} (hs : s.heap.IsSliceOf sl vl vu vs) (pl : IsPart vl none) (pu : IsPart vu none) (ps : IsPart vs (some (-1))) (h : Q ((n : Int) - 1, -1, n) s) :
    wpAny (model prog w) A (Builtin.Slice.sliceApplied (.ref sl) (pure (n : Int))) Q E s := by
  obtain ⟨os, hos, hcs, hds⟩ := id hs
  unfold Builtin.Slice.sliceApplied Builtin.Slice.sliceFields
  refine wpAny_bind (wpAny_bind (wpAny_field hos hds (x := vl) rfl ?_))
  refine wpAny_bind (wpAny_field hos hds (x := vu) rfl ?_)
  refine wpAny_bind (wpAny_field hos hds (x := vs) rfl (wpAny_pure ?_))
  refine wpAny_bind (slicePart_ ps ?_)
  show wpAny _ _ (if ((-1 : Int) == 0) = true then _ else _) _ _ s
  rw [if_neg (by decide)]
  refine wpAny_bind (slicePart_ pl ?_)
  refine wpAny_bind (slicePart_ pu (wpAny_bind (wpAny_pure ?_)))
  show wpAny _ _ (match Builtin.Slice.sliceAdjust none none (-1) (n : Int) with | (a, b) => pure (a, (-1 : Int), Builtin.Slice.slicePlaces a b (-1))) _ _ s
  rw [adj_back n]
  show wpAny _ _ (pure ((n : Int) - 1, (-1 : Int), Builtin.Slice.slicePlaces ((n : Int) - 1) (-1) (-1))) _ _ s
  rw [pl_back]
  exact wpAny_pure h
theorem pick_back (xs : Array Value) : ((List.range xs.size).filterMap fun (k : Nat) => xs[(((xs.size : Nat) : Int) - 1 + (k : Int) * (-1)).toNat]?).toArray = xs.toList.reverse.toArray := by
  have e : (fun (k : Nat) => xs[(((xs.size : Nat) : Int) - 1 + (k : Int) * (-1)).toNat]?) = (fun i => xs[i]?) ∘ fun k => xs.size - 1 - k := by
    funext k
    have : (((xs.size : Nat) : Int) - 1 + (k : Int) * (-1)).toNat = xs.size - 1 - k := by omega
    show xs[_]? = xs[_]?
    rw [this]
  rw [e, ← List.filterMap_map, PySem.W.krv_range, List.filterMap_reverse, PySem.W.krv_all]
theorem get_back {t sl : Addr} {items : Array Value} {vl vu vs : Value} {Q : Value → Shared → Prop} (ht : IsTup s.heap t items) (hs : s.heap.IsSliceOf sl vl vu vs) (pl : IsPart vl none) (pu : IsPart vu none) (ps : IsPart vs (some (-1)))
    (h : Q (.ref s.heap.objs.size) { s with heap := s.heap.push { cls := .type "tuple", data := .seq items.toList.reverse.toArray } }) (hsz : items.size ≤ sizeLine) : wpAny (model prog w) A (getItem (.ref t) (.ref sl)) Q E s := by
  have hz : sizeOk (.seq items.toList.reverse.toArray) := by
    show items.toList.reverse.toArray.size ≤ sizeLine
    simpa using hsz
  obtain ⟨os, hos, hcs, hds⟩ := id hs
  have hTs : s.TypeIs (.ref sl) "slice" := ⟨os, hos, hcs⟩
  unfold getItem
  try with_reducible refine wpAny_holding ?_
  first | refine wpAny_bind (wpAny_pure ?_) | skip
  refine wpAny_bind (wpAny_sequenceKey ht.typeIs (by decide) ?_)
  refine wpAny_bind (wpAny_callSpecial?_slot (name := Str.ofString "__getitem__") ht.typeIs slot_tuple_getitem (wpAny_call_entry slot_tuple_getitem ht.typeIs entry_tuple_getitem ?_ (args_tuple_getitem _ _)))
  show wpAny _ _ (Builtin.Tuple.tupleItemsOf (.ref t) >>= _) _ _ s
  refine wpAny_bind (tupleItemsOf_ ht (wpAny_bind (wpAny_typeOf hTs ?_)))
  rw [if_pos (by decide)]
  refine wpAny_bind (app_back hs pl pu ps ?_)
  show wpAny _ _ (if (((items.size : Nat) : Int) - 1 == 0 && (-1 : Int) == 1 && items.size == items.size) = true then _ else _) _ _ s
  rw [if_neg (by rw [show ((-1 : Int) == 1) = false by decide, Bool.and_false, Bool.false_and]; exact Bool.false_ne_true), pick_back]
  first
    | exact wpAny_bind (m := Builtin.Tuple.tupleExact _) (wpAny_newObj_type (wpAny_pure ⟨_, rfl, wpAny_pure h⟩) hz)
    | exact wpAny_bind (m := Builtin.Tuple.tupleExact _) (wpAny_newObj_type (wpAny_bind (wpAny_pure (wpAny_pure ⟨_, rfl, wpAny_pure h⟩))) hz)
    | exact wpAny_bind (wpAny_bind (m := Builtin.Tuple.tupleExact _) (wpAny_newObj_type (wpAny_pure (wpAny_pure ⟨_, rfl, wpAny_pure h⟩)) hz))
    | exact wpAny_bind (wpAny_bind (m := Builtin.Tuple.tupleExact _) (wpAny_newObj_type (wpAny_pure ⟨_, rfl, wpAny_pure h⟩) hz))
end RevT
namespace L2
open PySem PySem.Spec PyProof.Rows
/-- xs[::-1], xs a tuple -/
def tRevT (K : PySem.W.Frag) (te : TE) : TE := fun σ H Q => te σ H fun x H1 => ∃ a xs, x = .ref a ∧ SqT K H1 a xs ∧ ∀ p, H1 p = none → Q (.ref p) (upd H1 p (.tup xs.reverse))
theorem pe_revT {X : Cx} {e : Expr} {te : TE} {k : Nat} {p1 p2 p3 pos : Pos} (he : PE X e te) : PE X (.Subscript e (.Slice none none (some (.UnaryOp .USub (.Constant (.int 1) k p1) p2)) p3) pos) (tRevT X.K te) := ⟨fun pins s σ H Q I h => by
  refine Subscript_ (thn (he.run pins s σ H _ I h) fun v s1 ⟨x, H1, I1, r1, a, xs, ex, hx, q⟩ => ?_)
  subst ex
  cases r1
  have part : PO X (some (.UnaryOp .USub (.Constant (.int 1) k p1) p2)) (tPart (tUn (rU fun i => .int (-i)) (tC (.int 1)))) := po_some (pe_un un_neg pe_int)
  have none_ : ∀ {s : Shared} {H : Hp}, Inv X pins σ H s → wpAny (model X.prog X.w) X.A _ _ X.xe s := fun {s H} I => po_none.run pins s σ H (fun o H2 => o = none ∧ H2 = H) I ⟨rfl, rfl⟩
  refine wpAny_Slice (thn (none_ I1) fun vl s2 ⟨_, _, I2, pl, el, e2⟩ => thn (none_ I2) fun vu s3 ⟨_, _, I3, pu, eu, e3⟩ => ?_)
  subst el e2 eu e3
  refine thn (part.run pins s3 σ _ (fun o H4 => o = some (-1) ∧ H4 = _) I3 ⟨1, rfl, -1, rfl, rfl, rfl⟩) fun vs s4 ⟨_, _, I4, ps, eo, e4⟩ => ?_
  subst eo e4
  have I5 : Inv X pins σ _ { s4 with heap := s4.heap.push { cls := .type "slice", data := .fields #[vl, vu, vs] } } := I4.kept (t' := s4.toks) fun b ob q => Heap.get?_push_of_some _ q
  obtain ⟨its, r, ht, hz⟩ := I5.tuple hx
  have hl := r.length
  refine tail_any (ops := [.ref a, .ref s4.heap.objs.size]) ht.typeIs slot_tuple_getitem.lookup (RevT.get_back ht (Heap.IsSliceOf.new _ vl vu vs) pl pu ps ?_ (by rw [List.size_toArray]; omega)) (by with_unfolding_all rfl)
  refine ⟨.ref _, _, I5.laid (t' := s4.toks) (o := .tup xs.reverse) (fun b ob q => Heap.get?_push_of_some _ q) (Nat.le_refl _) ?_, rfl, q _ (I5.hok.fresh (Nat.le_refl _))⟩
  exact ⟨by rw [List.length_reverse]; exact hz, _, r.reverse, IsTup.new _ _⟩⟩
end L2
namespace Dx
open PySem L2 RT Sx
def dRevT (a : DE) : DE := fun X ρ P => a X ρ fun x => ∃ xs, x = .tup xs ∧ P (.tup xs.reverse)
section
variable {K : PySem.W.Frag} {C : Ec} {E : XK} {σ : L2.St} {H : Hp} {Q : VK}
theorem le_revT {a : DE} (q : liftE K C E (dRevT a) σ H Q) : tRevT K (liftE K C E a) σ H Q := by
  obtain ⟨c, P, at_, h, k⟩ := q
  refine ⟨c, _, at_, h, fun W1 H1 v x f o r ⟨xs, e, q1⟩ => ?_⟩
  subst e
  obtain ⟨a, vs, rfl, hs, rs⟩ := rp_tup r
  exact ⟨a, vs, rfl, sqt (o.sF _ _ hs), newT o rs.rev q1 fun W' H' v x f' => k W' H' v x (f.trans f')⟩
end
end Dx
end
section
/-! a dict of the module, text by def: its keys walked, a def taken out, called -/
namespace L2
open PySem PySem.Spec PyProof.Rows
/-- a written dict: its texts in order, each with the def behind it -/
theorem fun_ne {K : PySem.W.Frag} {x y : Str} {s t : Stmt} {a b : Addr} {d e : FuncData} (F : Fun K x x s a d) (G : Fun K y y t b e) (h : x ≠ y) : a ≠ b := by
  rintro rfl
  obtain ⟨_, _, _, _, _, _, _, _, _, rfl, l1, _⟩ := F.ex
  obtain ⟨_, _, _, _, _, _, _, _, _, rfl, l2, _⟩ := G.ex
  rw [l1] at l2
  have e1 := congrArg Obj.data (Option.some.inj l2)
  injection e1 with e2
  exact h (congrArg FuncData.name e2)
structure KWr (K : PySem.W.Frag) (w : World) (d : Addr) (ks : List (Str × Addr)) : Prop where
  ex : ∃ (es : Array DictEntry) (n : Nat), K.lookup d = some ⟨.type "dict", none, .dict es n, #[]⟩ ∧ (d == sysModules) = false ∧ PySem.W.KeysLit w.params es.toList ∧ es.size = ks.length ∧
    (∀ (i : Nat) (z : Str) (a : Addr), ks[i]? = some (z, a) → ∃ (en : DictEntry) (t : Tok), es[i]? = some en ∧ en.key = .str z t) ∧ ∀ z a, (z, a) ∈ ks → PySem.W.nsIn K d z = some (some (.ref a))
def Itkw (ks : List (Str × Addr)) : It := ⟨fun i _ => i < ks.length, fun i H x H' => H' = H ∧ ∃ z a, ks[i]? = some (z, a) ∧ x = .str z, fun i _ => ks.length ≤ i⟩
section
variable {P : Program} {w : World} {K : PySem.W.Frag} {tg : Expr} {d : Addr}
theorem turn_kw {ks : List (Str × Addr)} {es : Array DictEntry} {n : Nat} (it : Addr) (hl : K.lookup d = some ⟨.type "dict", none, .dict es n, #[]⟩) (hz : es.size = ks.length) (hk : ∀ (i : Nat) (z : Str) (a : Addr), ks[i]? = some (z, a) → ∃ (en : DictEntry) (t : Tok), es[i]? = some en ∧ en.key = .str z t) :
    Turn P w K tg (Itkw ks) [it] it (fun i h => h.IsKeyIter it d i ks.length n) where
  mem := by simp
  obj := fun i h st b hb => by
    have e : b = it := by simpa using hb
    subst e
    obtain ⟨oi, e, c, dd⟩ := st
    exact ⟨oi, e, fun v z => by rw [dd] at z; cases z⟩
  keep := fun i h h' st k => st.at fun oi e => k it (by simp) oi e
  item := by
    intro X hP hw hK hc i pins s σ H E I hf st hg
    subst hP hw hK
    obtain ⟨f0, f1, f2, f3, f4, f5⟩ := hf it (by simp)
    have hgd := I.kIn _ _ hl
    obtain ⟨⟨z, a⟩, hza⟩ : ∃ p, ks[i]? = some p := ⟨ks[i], List.getElem?_eq_getElem hg⟩
    obtain ⟨en, t, hen, hkey⟩ := hk i z a hza
    refine next_key_item st hgd rfl hz hen fun h' st' sb => ?_
    have I1 : Inv X pins σ H { s with heap := h' } := I.turned (t' := s.toks) (fun b ob hb e => (sb.2 b hb).trans e) f0 f1 f3 f4 f5
    obtain ⟨oi, e, c, dd⟩ := id st'
    exact ⟨en.key, rfl, go_of (s := { s with heap := h' }) e c dd (by decide) ⟨.str z, H, I1, ⟨t, hkey⟩, ⟨rfl, z, a, hza, rfl⟩, st', fun b hb => (hf b hb).1⟩⟩
  done := by
    intro X hP hw hK hc i pins s σ H E I hf st hg
    subst hP hw hK
    obtain ⟨f0, f1, f2, f3, f4, f5⟩ := hf it (by simp)
    have hgd := I.kIn _ _ hl
    exact next_key_end (I.ok.hd hc) st hgd rfl hz hg fun h' eb => ⟨rfl, I.turned (t' := s.toks) (fun b ob hb e => eb b ob hb e) f0 f1 f3 f4 f5⟩
  self := fun A i s Q E st h => wpAny_pyIter_keyiter st h
end
section
variable {X : Cx} {tg e : Expr} {d : Addr} {ks : List (Str × Addr)}
theorem pi_kw (he : PE X e (tC (.ref d))) (D : KWr X.K X.w d ks) : PI X tg e (fun σ H R => R (Itkw ks) H) := by
  refine ⟨fun pins s σ H R I h => ?_⟩
  refine thn (he.run pins s σ H (fun v H1 => v = .ref d ∧ H1 = H) I ⟨rfl, rfl⟩) fun u s1 ⟨x, H1, I1, rx, ex, eh⟩ => ?_
  subst ex; subst eh
  obtain rfl : u = Value.ref d := rx
  obtain ⟨es, n, hl, hs, hk, hz, hkk, hn⟩ := D.ex
  have hgd := I1.kIn _ _ hl
  refine iter_keys hs hgd ⟨rfl, rfl, rfl⟩ rfl (pi_one (tk := s1.toks) I1 _ (turn_kw _ hl hz hkk) ⟨_, Heap.get?_push_size _ rfl, rfl, ?_⟩ h)
  rw [hz] <;> rfl
theorem KWr.get {z : Str} {a : Addr} {K : PySem.W.Frag} {w : World} (D : KWr K w d ks) (h : (z, a) ∈ ks) : KDct K w d z (.ref a) := by
  obtain ⟨es, n, hl, hs, hk, hz, hkk, hn⟩ := D.ex
  exact ⟨es, n, .ref a, hl, hk, hn z a h, rfl⟩
end
theorem kwr_lit {P : Params} : ∀ l : List (Str × Addr × Tok), PySem.W.KeysLit P (l.map fun p => (⟨PyData.keyHash P p.1, .str p.1 p.2.2, .ref p.2.1⟩ : DictEntry))
  | [] => trivial
  | p :: l => ⟨⟨p.1, p.2.2, rfl, rfl⟩, kwr_lit l⟩
theorem kwr_mk {K : PySem.W.Frag} {w : World} {d : Addr} {n : Nat} (l : List (Str × Addr × Tok)) (hl : K.lookup d = some ⟨.type "dict", none, .dict (l.map fun p => (⟨PyData.keyHash w.params p.1, .str p.1 p.2.2, .ref p.2.1⟩ : DictEntry)).toArray n, #[]⟩)
    (hs : (d == sysModules) = false) (hn : ∀ p ∈ l, PySem.W.nsIn K d p.1 = some (some (.ref p.2.1))) : KWr K w d (l.map fun p => (p.1, p.2.1)) := by
  refine ⟨_, n, hl, hs, by rw [List.toList_toArray]; exact kwr_lit l, by simp, fun i z a h => ?_, fun z a h => ?_⟩
  · rw [List.getElem?_map] at h
    cases e : l[i]? with
    | none => rw [e] at h; cases h
    | some p =>
      rw [e] at h
      cases h
      exact ⟨_, p.2.2, by rw [List.getElem?_toArray, List.getElem?_map, e]; rfl, rfl⟩
  · obtain ⟨p, hp, e⟩ := List.mem_map.mp h
    cases e
    exact hn p hp
end L2
namespace Dx
open PySem L2 RT Sx
/-- for x in a dict of the module -/
def dKeysW (ks : List (Str × Addr)) : DA := fun _ _ P => P (ks.map fun p => .str p.1)
/-- a dict of the module at a text -/
def dIxW (d : Addr) (ks : List (Str × Addr)) : D2 := fun x y P => x = .fn d ∧ ∃ z a, y = .str z ∧ (z, a) ∈ ks ∧ P (.fn a)
/-- the promise that goes with a def -/
def spAt (tab : List (Addr × DSp)) (a : Addr) : Option DSp := (tab.find? fun p => decide (p.1 = a)).map (·.2)
def dCallF (i : Nat) (tab : List (Addr × DSp)) (args : DA) : DE := fun X ρ P => ∃ a sp, ρ[i]? = some (.v (.fn a)) ∧ spAt tab a = some sp ∧ args X ρ fun xs => sp xs P none_
section
variable {K : PySem.W.Frag} {C : Ec} {E : XK} {σ : L2.St} {H : Hp} {W : Wd} {w : World}
theorem walk_kw {ks : List (Str × Addr)} : Walk (Itkw ks) ks.length (fun _ => True) (fun i H x H' => H' = H ∧ ∃ z a, ks[i]? = some (z, a) ∧ x = .str z) := ⟨fun i H h _ => h, fun H _ => Nat.le_refl _, fun i H x H' _ _ h => h⟩
theorem dwalk_kw {ks : List (Str × Addr)} : DWalk K W (Itkw ks) (ks.map fun p => .str p.1) := by
  unfold DWalk
  rw [List.length_map]
  exact walk_kw.mono (fun _ _ => trivial) fun i H x H' hi g ⟨e1, z, a, e2, e3⟩ => .inl ⟨e1, .str z, by rw [List.getElem?_map, e2]; rfl, by rw [e3]; exact .str z⟩
theorem li_kw {ks : List (Str × Addr)} {R : It → Hp → Prop} (q : liftI K C E (dKeysW ks) σ H R) : R (Itkw ks) H := by
  obtain ⟨c, P, at_, h, k⟩ := q
  exact k _ _ _ _ (Frm.refl _ _) at_.lk.ok dwalk_kw h
theorem rp_fn {v : V} {a : Addr} (r : Rp K W v (.fn a)) : v = .ref a := by cases r; rfl
theorem o_ixW {d : Addr} {ks : List (Str × Addr)} (D : KWr K w d ks) : Op2 K (rIxD K w) (dIxW d ks) := fun W H v1 x1 v2 x2 P Q o r1 r2 ⟨e1, z, a, e2, hm, q⟩ k => by
  subst e1; subst e2
  exact ⟨d, z, .ref a, rp_fn r1, rp_str r2, D.get hm, k W H _ _ (Frm.refl _ _) o (.fn a) q⟩
def spTab (K : PySem.W.Frag) (C : Ec) (tab : List (Addr × DSp)) (a : Addr) : Option Sp := (spAt tab a).map (liftSp K C)
def HeldT (P : Program) (w : World) (K : PySem.W.Frag) (mg : Str → Option Value) (base : Heap) (C : Ec) (k : Nat) (tab : List (Addr × DSp)) : Prop := ∀ f sp, spTab K C tab f = some sp → Held P w K mg base k f sp
theorem held_nil {P : Program} {mg : Str → Option Value} {base : Heap} {k : Nat} : HeldT P w K mg base C k [] := fun f sp h => by cases h
theorem held_cons {P : Program} {mg : Str → Option Value} {base : Heap} {k j : Nat} {a : Addr} {s : DSp} {tab : List (Addr × DSp)} {fd : FuncData} {ps : List Str} (F : FnOk P w K mg base (fun _ _ _ _ _ _ => False) j a fd ps (liftSp K C s)) (hj : j ≤ k) (hk : PySem.W.keepIn K (.ref a) = true) (hb : L2.Binds K fd ps [])
    (r : HeldT P w K mg base C k tab) : HeldT P w K mg base C k ((a, s) :: tab) := fun f sp h => by
  unfold spTab spAt at h
  by_cases e : a = f
  · subst e
    rw [List.find?_cons_of_pos (by simp)] at h
    obtain rfl : liftSp K C s = sp := Option.some.inj h
    exact ⟨fd, ps, F.mono hj, hk, hb⟩
  · rw [List.find?_cons_of_neg (by simpa using e)] at h
    exact r f sp h
theorem le_callF {i : Nat} {tab : List (Addr × DSp)} {args : DA} {Q : VK} (q : liftE K C E (dCallF i tab args) σ H Q) : tCallA i (spTab K C tab) (liftA K C E args) σ H Q := by
  obtain ⟨c, P, at_, ⟨a, sp, e, es, h⟩, k⟩ := q
  obtain ⟨v, h1, r⟩ := at_.lk.sl i _ e
  obtain ⟨u, rfl, ru⟩ := r
  obtain rfl := rp_fn ru
  refine ⟨a, liftSp K C sp, h1, by unfold spTab; rw [es]; rfl, ⟨c, _, at_, h, fun W1 H1 vs xs f1 o1 r1 q1 => ?_⟩⟩
  exact ⟨W1, xs, P, none_, o1, r1, q1, fun W' H' v x f => k W' H' v x (f1.trans f), fun W' H' kk fs cls dd f o er px => px⟩
end
end Dx
end
section
/-! rows cut and put together, step by step -/
namespace Dx
open PySem L2 RT Sx TL
def slA (x : Dt) (lo hi : Option Int) (P : Dt → Prop) : Prop := ∃ xs, x = .tup xs ∧ P (.tup (cutD xs lo hi))
section
variable {X : DX} {ρ : Env} {P : Dt → Prop} {PA : List Dt → Prop} {PB : Bool → Prop} {D : DEnds} {a b c e : DE} {t u : DT} {s r : DS} {x y : Dt} {i m n : Nat} {xs ys : List Dt} {v w : List Nat}
theorem d_slTA {l h : DO} (q : a X ρ fun x => l X ρ fun lo => h X ρ fun hi => slA x lo hi P) : dSlT a l h X ρ P := q
theorem cutD_mid {xs : List Dt} {m n : Nat} : cutD xs (some (m : Int)) (some (n : Int)) = (xs.drop m).take (n - m) := by
  unfold cutD
  rw [HT.sIx_nat, HT.sIx_nat]
  by_cases h : m ≤ xs.length
  · rw [Nat.min_eq_left h]
    by_cases h2 : n ≤ xs.length
    · rw [Nat.min_eq_left h2]
    · rw [Nat.min_eq_right (by omega), List.take_of_length_le (by rw [List.length_drop]; omega), List.take_of_length_le (by rw [List.length_drop]; omega)]
  · rw [List.drop_of_length_le (show xs.length ≤ min m xs.length by omega), List.drop_of_length_le (show xs.length ≤ m by omega), List.take_nil, List.take_nil]
theorem d_slTo (q : P (rowD (v.take n))) : slA (rowD v) none (some (n : Int)) P := ⟨_, rfl, by rw [cutD_to, rowD_take]; exact q⟩
theorem d_slFrom (q : P (rowD (v.drop n))) : slA (rowD v) (some (n : Int)) none P := ⟨_, rfl, by rw [cutD_from, rowD_drop]; exact q⟩
theorem d_slMid (q : P (rowD ((v.drop m).take (n - m)))) : slA (rowD v) (some (m : Int)) (some (n : Int)) P := ⟨_, rfl, by rw [cutD_mid, rowD_drop, rowD_take]; exact q⟩
theorem d_slT0 {lo hi : Option Int} (q : P (.tup (cutD xs lo hi))) : slA (.tup xs) lo hi P := ⟨_, rfl, q⟩
theorem d_catR (hz : v.length + w.length ≤ 100000) (q : P (rowD (v ++ w))) : dCatT (rowD v) (rowD w) P := ⟨_, _, rfl, rfl, by simpa using hz, by rw [← List.map_append]; exact q⟩
theorem d_catR1 (hz : v.length + 1 ≤ 100000) (q : P (rowD (v ++ [n]))) : dCatT (rowD v) (.tup [nat n]) P := d_catR (w := [n]) hz q
theorem d_catR2 (hz : v.length + 2 ≤ 100000) (q : P (rowD (v ++ [m, n]))) : dCatT (rowD v) (.tup [nat m, nat n]) P := d_catR (w := [m, n]) hz q
theorem sum_natI (v : List Nat) : ((v.map fun n : Nat => (n : Int)).sum) = ((v.sum : Nat) : Int) := sum_cast v
theorem d_sumR (q : P (nat v.sum)) : dSumT [rowD v] P := ⟨v.map fun n : Nat => (n : Int), by rw [List.map_map]; rfl, by rw [sum_natI]; exact q⟩
theorem d_revT (q : a X ρ fun x => ∃ xs, x = .tup xs ∧ P (.tup xs.reverse)) : dRevT a X ρ P := q
theorem d_keysW {ks : List (Str × Addr)} (q : PA (ks.map fun p => .str p.1)) : dKeysW ks X ρ PA := q
theorem d_isNN (q : P (.bl true)) : dIsN .non .non P := ⟨rfl, .inl ⟨rfl, q⟩⟩
theorem d_isNT (q : P (.bl false)) : dIsN (.tup xs) .non P := ⟨rfl, .inr ⟨(fun z => nomatch z), q⟩⟩
theorem d_notNN (q : P (.bl false)) : dNotN .non .non P := ⟨rfl, .inl ⟨rfl, q⟩⟩
theorem d_notNT (q : P (.bl true)) : dNotN (.tup xs) .non P := ⟨rfl, .inr ⟨(fun z => nomatch z), q⟩⟩
theorem d_notNR (q : P (.bl true)) : dNotN (rowD v) .non P := ⟨rfl, .inr ⟨(fun z => nomatch z), q⟩⟩
theorem d_isNR (q : P (.bl false)) : dIsN (rowD v) .non P := ⟨rfl, .inr ⟨(fun z => nomatch z), q⟩⟩
theorem i_yesS {p q : Str} {A B : Prop} (h : p = q) (r : A) : if decide (p = q) = true then A else B := by rw [decide_eq_true h, if_pos rfl]; exact r
theorem i_nayS {p q : Str} {A B : Prop} (h : p ≠ q) (r : B) : if decide (p = q) = true then A else B := by rw [decide_eq_false h, if_neg Bool.false_ne_true]; exact r
theorem i_yesSN {p q : Str} {A B : Prop} (h : p ≠ q) (r : A) : if (!decide (p = q)) = true then A else B := by rw [decide_eq_false h]; exact r
theorem i_naySN {p q : Str} {A B : Prop} (h : p = q) (r : B) : if (!decide (p = q)) = true then A else B := by rw [decide_eq_true h]; exact r
theorem shD_non : shD .non = true := by decide +kernel
theorem d_eqNR (q : P (.bl false)) : dEq .non (rowD v) P := ⟨shD_non, shD_row v, q⟩
theorem d_neNR (q : P (.bl true)) : dNe .non (rowD v) P := ⟨shD_non, shD_row v, q⟩
end
mutual
theorem plB_depth : ∀ (n : Nat) (x : Dt), plB n x = true → PyData.depth (toP x) ≤ n + 1
  | n, .non, _ => by simp [toP, PyData.depth]
  | n, .int _, _ => by simp [toP, PyData.depth]
  | n, .str _, _ => by simp [toP, PyData.depth]
  | n + 1, .tup xs, h => by
    simp only [plB, Bool.and_eq_true] at h
    have := plBs_depth n xs h.2
    simp only [toP, PyData.depth]; omega
  | n + 1, .lst xs, h => by
    simp only [plB, Bool.and_eq_true] at h
    have := plBs_depth n xs h.2
    simp only [toP, PyData.depth]; omega
  | 0, .tup _, h => by simp [plB] at h
  | 0, .lst _, h => by simp [plB] at h
  | 0, .bl _, h => by simp [plB] at h
  | _ + 1, .bl _, h => by simp [plB] at h
  | 0, .ty _, h => by simp [plB] at h
  | _ + 1, .ty _, h => by simp [plB] at h
  | 0, .dK _, h => by simp [plB] at h
  | _ + 1, .dK _, h => by simp [plB] at h
  | 0, .dT _, h => by simp [plB] at h
  | _ + 1, .dT _, h => by simp [plB] at h
  | 0, .dice, h => by simp [plB] at h
  | _ + 1, .dice, h => by simp [plB] at h
  | 0, .fn _, h => by simp [plB] at h
  | _ + 1, .fn _, h => by simp [plB] at h
  | 0, .scr _, h => by simp [plB] at h
  | _ + 1, .scr _, h => by simp [plB] at h
  | 0, .ktup _, h => by simp [plB] at h
  | _ + 1, .ktup _, h => by simp [plB] at h
theorem plBs_depth : ∀ (n : Nat) (xs : List Dt), plBs n xs = true → PyData.depthAll (toPs xs) ≤ n + 1
  | _, [], _ => by simp [toPs, PyData.depthAll]
  | n, x :: xs, h => by
    simp only [plBs, Bool.and_eq_true] at h
    have h1 := plB_depth n x h.1
    have h2 := plBs_depth n xs h.2
    simp only [toPs, PyData.depthAll]; omega
end
theorem plB_sh {n : Nat} {x : Dt} (h : plB n x = true) (hn : n ≤ 60) : shD x = true := by
  have h1 := (plB_lay n x h).1
  have h2 := plB_depth n x h
  show (PyData.canLay0 (toP x) && decide (PyData.depth (toP x) ≤ 64)) = true
  rw [Bool.and_eq_true]
  exact ⟨h1, decide_eq_true (by omega)⟩
end Dx
end
section
/-! slips, over data -/
open PySem L2 RT Sx Dx
local macro_rules | `(tactic| walk_at "d") => `(tactic| first
  | ((with_reducible refine' d_var ?k1 ?_); (case k1 => rfl))
  | with_reducible refine' d_c ?_
  | with_reducible refine' d_op ?_
  | with_reducible refine' d_cons ?_
  | with_reducible refine' d_nil ?_
  | with_reducible refine' d_seq ?_
  | ((with_reducible refine' d_asg1 ?_); try dsimp -proj only [List.set_cons_zero, List.set_cons_succ])
  | with_reducible refine' d_asg ?_
  | with_reducible refine' d_cb ?_
  | ((with_reducible refine' d_asgN ?_); try dsimp -proj only [List.set_cons_zero, List.set_cons_succ])
  | ((with_reducible refine' d_bnm ?_); try dsimp -proj only [List.set_cons_zero, List.set_cons_succ])
  | with_reducible refine' d_btp ?_
  | with_reducible refine' d_bcons ?_
  | with_reducible refine' d_bnil ?_
  | ((with_reducible refine' d_slO ?k1 ?_); (case k1 => rfl))
  | ((with_reducible refine' d_lenO ?k1 ?_); (case k1 => rfl))
  | ((with_reducible refine' d_ixO ?k1 ?_); (case k1 => rfl))
  | ((with_reducible refine' d_app ?k1 ?_); (case k1 => rfl))
  | ((with_reducible refine' d_frz ?k1 ?_); (case k1 => rfl); try dsimp -proj only [List.set_cons_zero, List.set_cons_succ, frzS])
  | with_reducible refine' d_lnil ?_
  | with_reducible refine' d_lcons ?_
  | with_reducible refine' d_gcd ?_
  | ((with_reducible refine' d_revO ?k1 ?_); (case k1 => rfl))
  | with_reducible refine' d_revL ?_
  | with_reducible refine' d_rev ?_
  | with_reducible refine' d_exrevL ?_
  | with_reducible refine' d_exrevT ?_
  | with_reducible refine' d_lc ?_
  | with_reducible refine' d_rng1 ?_
  | with_reducible refine' d_rng2 ?_
  | ((with_reducible refine' d_exrng ?k1 ?_); (case k1 => omega))
  | ((with_reducible refine' d_exrng2 ?k1 ?k2 ?_); (case k1 => omega); (case k2 => omega))
  | ((with_reducible refine' d_sz ?k1 ?_); (case k1 => simp; done))
  | with_reducible refine' d_tupQ ?_
  | with_reducible refine' d_lstQ ?_
  | with_reducible refine' d_callX ?_
  | with_reducible refine' d_call0 ?_
  | with_reducible refine' d_ifS ?_
  | with_reducible refine' d_B ?_
  | with_reducible refine' d_exbl ?_
  | with_reducible refine' d_ret ?_
  | with_reducible refine' d_drop ?_
  | with_reducible refine' d_next ?_
  | with_reducible refine' d_chain ?_
  | with_reducible refine' d_and ?_
  | with_reducible refine' d_or ?_
  | with_reducible refine' d_not ?_
  | with_reducible refine' d_andV ?_
  | with_reducible refine' d_orV ?_
  | with_reducible refine' d_notV ?_
  | with_reducible refine' d_neR ?_
  | with_reducible refine' d_eqR ?_
  | with_reducible refine' d_ccons ?_
  | ((with_reducible refine' d_cnil ?_); try dsimp -proj only [List.nil_append, List.cons_append])
  | with_reducible refine' d_listOf ?_
  | with_reducible refine' d_oflT ?_
  | with_reducible refine' d_oflL ?_
  | with_reducible refine' d_exsR ?_
  | with_reducible refine' d_lenR ?_
  | with_reducible refine' d_join ?_
  | with_reducible refine' d_split ?_
  | with_reducible refine' d_exstr ?_
  | with_reducible refine' d_asgL ?_
  | with_reducible refine' d_fzD ?_
  | with_reducible refine' d_dc ?_
  | with_reducible refine' d_notInK ?_
  | with_reducible refine' d_inK ?_
  | with_reducible refine' d_getK ?_
  | with_reducible refine' d_exks ?_
  | with_reducible refine' d_raise0 ?_
  | ((with_reducible refine' d_strN ?k1 ?_); (case k1 => omega))
  | with_reducible refine' d_if ?_
  | with_reducible refine' d_un ?_
  | with_reducible refine' d_fz ?_
  | with_reducible refine' d_addN ?_
  | ((with_reducible refine' d_subN ?k1 ?_); (case k1 => omega))
  | ((with_reducible refine' d_mdN ?k1 ?_); (case k1 => omega))
  | ((with_reducible refine' d_fdN ?k1 ?k2 ?_); (case k1 => omega); (case k2 => omega))
  | ((with_reducible refine' d_mulL ?k1 ?k2 ?_); (case k1 => omega); (case k2 => omega))
  | with_reducible refine' d_ltN ?_
  | with_reducible refine' d_leN ?_
  | with_reducible refine' d_gtN ?_
  | with_reducible refine' d_geN ?_
  | with_reducible refine' d_eqN ?_
  | with_reducible refine' d_neN ?_
  | with_reducible refine' d_negN ?_
  | with_reducible refine' d_bit ?_
  | ((with_reducible refine' d_lenT ?_); try rw [List.length_map])
  | ((with_reducible refine' d_lenL ?_); try rw [List.length_map])
  | ((with_reducible refine' d_aug ?k1 ?_); (case k1 => rfl))
  | with_reducible refine' d_slTA ?_
  | with_reducible refine' d_slTo ?_
  | with_reducible refine' d_slFrom ?_
  | with_reducible refine' d_slMid ?_
  | with_reducible refine' d_slT0 ?_
  | ((with_reducible refine' d_catR ?k1 ?_); (case k1 => simp only [List.length_take, List.length_drop, List.length_append, List.length_cons, List.length_nil]; omega))
  | ((with_reducible refine' d_catR1 ?k1 ?_); (case k1 => simp only [List.length_take, List.length_drop, List.length_append, List.length_cons, List.length_nil]; omega))
  | ((with_reducible refine' d_catR2 ?k1 ?_); (case k1 => simp only [List.length_take, List.length_drop, List.length_append, List.length_cons, List.length_nil]; omega))
  | with_reducible refine' d_sumR ?_
  | with_reducible refine' d_revT ?_
  | with_reducible refine' d_keysW ?_
  | with_reducible refine' d_isNN ?_
  | with_reducible refine' d_isNT ?_
  | with_reducible refine' d_notNN ?_
  | with_reducible refine' d_notNT ?_
  | with_reducible refine' d_notNR ?_
  | with_reducible refine' d_isNR ?_
  | with_reducible refine' d_eqNR ?_
  | with_reducible refine' d_neNR ?_
  | with_reducible refine' d_neStr ?_
  | with_reducible refine' d_eqStr ?_
  | with_reducible refine' d_slL ?_
  | with_reducible refine' d_exsT ?_
  | with_reducible refine' d_exsL ?_
  | with_reducible refine' d_nopart ?_
  | with_reducible refine' dw_part ?_
  | with_reducible refine' d_exint ?_
  | with_reducible refine' d_yes1 ?_
  | with_reducible refine' d_itT ?_
  | with_reducible refine' d_itL ?_
  | with_reducible refine' d_itK ?_
  | with_reducible refine' d_exsK ?_
  | with_reducible refine' d_for ?_
  | with_reducible refine' d_tupL ?_
  | with_reducible refine' d_tupT ?_
  | with_reducible refine' i_iteT ?_
  | with_reducible refine' i_iteNT ?_
  | with_reducible refine' i_iteNF ?_
  | with_reducible refine' i_iteF ?_
  | ((with_reducible refine' i_yes ?k1 ?_); (case k1 => omega))
  | ((with_reducible refine' i_nay ?k1 ?_); (case k1 => omega))
  | ((with_reducible refine' i_yesN ?k1 ?_); (case k1 => omega))
  | ((with_reducible refine' i_nayN ?k1 ?_); (case k1 => omega))
  | ((with_reducible refine' i_yesS ?k1 ?_); (case k1 => decide))
  | ((with_reducible refine' i_nayS ?k1 ?_); (case k1 => decide))
  | ((with_reducible refine' i_yesSN ?k1 ?_); (case k1 => decide))
  | ((with_reducible refine' i_naySN ?k1 ?_); (case k1 => decide)))
local macro_rules | `(tactic| walk_at "dgo") => `(tactic| (repeat walk_at "d"; try dsimp -proj only [List.set_cons_zero, List.set_cons_succ]))
namespace Dx
/-- the row with one slip of the sort at the place -/
def madeO (d : List Nat) (k : Str) (i : Nat) : Option (List Nat) :=
  if k = "left" then some (d.take i ++ d.drop (i + 1)) else if k = "twice" then some (d.take (i + 1) ++ d.drop i)
  else if k = "joined" then (if ((d.drop i).take 2).length < 2 ∨ 60 ≤ ((d.drop i).take 2).sum then none else some (d.take i ++ [((d.drop i).take 2).sum] ++ d.drop (i + 2)))
  else if k = "swapped" then (if ((d.drop i).take 2).length < 2 ∨ d[i]? = d[i + 1]? then none else some (d.take i ++ ((d.drop i).take 2).reverse ++ d.drop (i + 2))) else none
def otherB (d t : List Nat) (i : Nat) : Bool := decide (t.length = d.length) && (decide (t[i]? ≠ d[i]?) && (decide (t.take i = d.take i) && decide (t.drop (i + 1) = d.drop (i + 1))))
def isB (d t : List Nat) (k : Str) (i : Nat) : Bool := if k = "figure" then otherB d t i else decide (madeO d k i = some t)
def sorts : List Str := ["figure", "left", "twice", "joined", "swapped"]
def slipsOf (d t : List Nat) : List (Str × Nat) := sorts.flatMap fun k => ((List.range d.length).filter (isB d t k)).map fun i => (k, i)
def slipP (p : Str × Nat) : Dt := .tup [.str p.1, nat p.2]
def slipD (d t : List Nat) : Dt := .lst ((slipsOf d t).map slipP)
def spIs (k : Str) : DSp := fun xs P _ => ∃ d t : List Nat, ∃ i : Nat, xs = [rowD d, rowD t, nat i] ∧ i < d.length ∧ d.length ≤ 1000 ∧ t.length ≤ 1000 ∧ P (.bl (isB d t k i))
def sp_is_other_figure : DSp := spIs "figure"
def sp_is_left_out : DSp := spIs "left"
def sp_is_twice : DSp := spIs "twice"
def sp_is_joined : DSp := spIs "joined"
def sp_is_swapped : DSp := spIs "swapped"
def sp_slips_between : DSp := fun xs P _ => ∃ d t : List Nat, xs = [rowD d, rowD t] ∧ d.length ≤ 1000 ∧ t.length ≤ 1000 ∧ P (slipD d t)
def sp_slips : DSp := fun xs P X => (∃ d t : List Nat, IsRow d ∧ xs = [rowD d, rowD t] ∧ t.length ≤ 1000 ∧ P (slipD d t)) ∨ ∃ r y, rowB r = false ∧ xs = [rowI r, y] ∧ X 1 []
/-- None or a row -/
def optD : Option (List Nat) → Dt
  | none => .non
  | some r => rowD r
def sp__law_made : DSp := fun xs P _ => ∃ d : List Nat, ∃ k : Str, ∃ i : Nat, xs = [rowD d, .str k, nat i] ∧ k ∈ (["left", "twice", "joined", "swapped"] : List Str) ∧ i < d.length ∧ d.length ≤ 1000 ∧ P (optD (madeO d k i))
def sp__law_slips : DSp := fun xs P _ => ∃ d t : List Nat, xs = [rowD d, rowD t] ∧ d.length ≤ 1000 ∧ t.length ≤ 1000 ∧ P (slipD d t)
def d_is_other_figure : DS := (dSeq (dIfS (dOr (dB (dOp dNeS (dCB dLen (dCons (dVar 1) dNil)) (dCB dLen (dCons (dVar 0) dNil)))) (dB (dOp dEqS (dOp dIxT (dVar 1) (dVar 2)) (dOp dIxT (dVar 0) (dVar 2))))) (dRet (dC (.bl false))) dNext)
  (dRet (dAndV (dOp dEq (dSlT (dVar 1) dNoPart (dPart (dVar 2))) (dSlT (dVar 0) dNoPart (dPart (dVar 2)))) (dOp dEq (dSlT (dVar 1) (dPart (dOp dAdd (dVar 2) (dC (nat 1)))) dNoPart) (dSlT (dVar 0) (dPart (dOp dAdd (dVar 2) (dC (nat 1)))) dNoPart)))))
def d_is_left_out : DS := (dRet (dOp dEq (dVar 1) (dOp dCatT (dSlT (dVar 0) dNoPart (dPart (dVar 2))) (dSlT (dVar 0) (dPart (dOp dAdd (dVar 2) (dC (nat 1)))) dNoPart))))
def d_is_twice : DS := (dRet (dOp dEq (dVar 1) (dOp dCatT (dSlT (dVar 0) dNoPart (dPart (dOp dAdd (dVar 2) (dC (nat 1))))) (dSlT (dVar 0) (dPart (dVar 2)) dNoPart))))
def d_is_joined : DS := (dSeq (dAsg (.nm 3) (dSlT (dVar 0) (dPart (dVar 2)) (dPart (dOp dAdd (dVar 2) (dC (nat 2))))))
  (dSeq (dIfS (dOr (dB (dOp dLt (dCB dLen (dCons (dVar 3) dNil)) (dC (nat 2)))) (dB (dOp dGe (dCB dSumT (dCons (dVar 3) dNil)) (dC (nat 60))))) (dRet (dC (.bl false))) dNext)
  (dRet (dOp dEq (dVar 1) (dOp dCatT (dOp dCatT (dSlT (dVar 0) dNoPart (dPart (dVar 2))) (dTup (dCons (dCB dSumT (dCons (dVar 3) dNil)) dNil))) (dSlT (dVar 0) (dPart (dOp dAdd (dVar 2) (dC (nat 2)))) dNoPart))))))
def d_is_swapped : DS := (dSeq (dAsg (.nm 3) (dSlT (dVar 0) (dPart (dVar 2)) (dPart (dOp dAdd (dVar 2) (dC (nat 2))))))
  (dSeq (dIfS (dOr (dB (dOp dLt (dCB dLen (dCons (dVar 3) dNil)) (dC (nat 2)))) (dB (dOp dEqS (dOp dIxT (dVar 3) (dC (nat 0))) (dOp dIxT (dVar 3) (dC (nat 1)))))) (dRet (dC (.bl false))) dNext)
  (dRet (dOp dEq (dVar 1) (dOp dCatT (dOp dCatT (dSlT (dVar 0) dNoPart (dPart (dVar 2))) (dTup (dCons (dOp dIxT (dVar 3) (dC (nat 1))) (dCons (dOp dIxT (dVar 3) (dC (nat 0))) dNil)))) (dSlT (dVar 0) (dPart (dOp dAdd (dVar 2) (dC (nat 2)))) dNoPart))))))
def d_slips_between (aSORTS : Addr) (tSORTS : List (Str × Addr)) (sSORTS : List (Addr × DSp)) : DS := (dSeq (dAsgN 2 (dLst dNil))
  (dSeq (dFor (dKeysW tSORTS) (.nm 3)
  (dSeq (dAsg (.nm 4) (dOp (dIxW aSORTS tSORTS) (dC (.fn aSORTS)) (dVar 3)))
  (dFor (dRng1 (dCons (dCB dLen (dCons (dVar 0) dNil)) dNil)) (.nm 5)
  (dIfS (dB (dCallF 4 sSORTS (dCons (dVar 0) (dCons (dVar 1) (dCons (dVar 5) dNil))))) (dApp 2 (dTup (dCons (dVar 3) (dCons (dVar 5) dNil)))) dNext))))
  (dFrz 2 (dRet (dVar 2)))))
def d_slips : DS := (dSeq (dDrop (dCallX sp_check_row (dCons (dVar 0) dNil)))
  (dRet (dCallX sp_slips_between (dCons (dVar 0) (dCons (dVar 1) dNil)))))

section
variable {xs : List Dt} {P : Dt → Prop} {X : DX}
theorem isB_left {d t : List Nat} {i : Nat} : isB d t "left" i = decide (t = d.take i ++ d.drop (i + 1)) := by
  unfold isB madeO
  rw [if_neg (by decide), if_pos rfl]
  congr 1
  exact propext ⟨fun h => (Option.some.inj h).symm, fun h => by rw [h]⟩
theorem isB_twice {d t : List Nat} {i : Nat} : isB d t "twice" i = decide (t = d.take (i + 1) ++ d.drop i) := by
  unfold isB madeO
  rw [if_neg (by decide), if_neg (by decide), if_pos rfl]
  congr 1
  exact propext ⟨fun h => (Option.some.inj h).symm, fun h => by rw [h]⟩
theorem isB_joined {d t : List Nat} {i : Nat} : isB d t "joined" i = decide (¬ (((d.drop i).take 2).length < 2 ∨ 60 ≤ ((d.drop i).take 2).sum) ∧ t = d.take i ++ [((d.drop i).take 2).sum] ++ d.drop (i + 2)) := by
  unfold isB madeO
  rw [if_neg (by decide), if_neg (by decide), if_neg (by decide), if_pos rfl]
  congr 1
  by_cases h : ((d.drop i).take 2).length < 2 ∨ 60 ≤ ((d.drop i).take 2).sum
  · rw [if_pos h]
    exact propext ⟨fun z => (nomatch z), fun z => absurd h z.1⟩
  · rw [if_neg h]
    exact propext ⟨fun z => ⟨h, (Option.some.inj z).symm⟩, fun z => by rw [z.2]⟩
theorem isB_swapped {d t : List Nat} {i : Nat} : isB d t "swapped" i = decide (¬ (((d.drop i).take 2).length < 2 ∨ d[i]? = d[i + 1]?) ∧ t = d.take i ++ ((d.drop i).take 2).reverse ++ d.drop (i + 2)) := by
  unfold isB madeO
  rw [if_neg (by decide), if_neg (by decide), if_neg (by decide), if_neg (by decide), if_pos rfl]
  congr 1
  by_cases h : ((d.drop i).take 2).length < 2 ∨ d[i]? = d[i + 1]?
  · rw [if_pos h]
    exact propext ⟨fun z => (nomatch z), fun z => absurd h z.1⟩
  · rw [if_neg h]
    exact propext ⟨fun z => ⟨h, (Option.some.inj z).symm⟩, fun z => by rw [z.2]⟩
theorem dp_is_left_out (h : sp_is_left_out xs P X) : d_is_left_out (dEnds P) X (startD xs (3 - xs.length)) := by
  obtain ⟨d, t, i, rfl, hi, hd, ht, q⟩ := h
  show d_is_left_out (dEnds P) X [.v (rowD d), .v (rowD t), .v (nat i)]
  rw [isB_left] at q
  unfold d_is_left_out
  walk_at "dgo"
  exact q
theorem dp_is_twice (h : sp_is_twice xs P X) : d_is_twice (dEnds P) X (startD xs (3 - xs.length)) := by
  obtain ⟨d, t, i, rfl, hi, hd, ht, q⟩ := h
  show d_is_twice (dEnds P) X [.v (rowD d), .v (rowD t), .v (nat i)]
  rw [isB_twice] at q
  unfold d_is_twice
  walk_at "dgo"
  exact q
theorem dp_is_other_figure (h : sp_is_other_figure xs P X) : d_is_other_figure (dEnds P) X (startD xs (3 - xs.length)) := by
  obtain ⟨d, t, i, rfl, hi, hd, ht, q⟩ := h
  show d_is_other_figure (dEnds P) X [.v (rowD d), .v (rowD t), .v (nat i)]
  have q : P (.bl (otherB d t i)) := q
  unfold otherB at q
  unfold d_is_other_figure
  walk_at "dgo"
  by_cases h1 : t.length = d.length
  · refine i_nayN h1 ?_
    obtain ⟨x, hx⟩ : ∃ x, d[i]? = some x := ⟨_, List.getElem?_eq_getElem hi⟩
    obtain ⟨y, hy⟩ : ∃ y, t[i]? = some y := ⟨_, List.getElem?_eq_getElem (by omega)⟩
    rw [hx, hy] at q
    walk_at "dgo"
    refine d_ixR hy ?_
    walk_at "dgo"
    refine d_ixR hx ?_
    walk_at "dgo"
    by_cases h2 : y = x
    · refine i_yes h2 ?_
      walk_at "dgo"
      rw [decide_eq_true h1, h2] at q
      have q' : P (.bl false) := by simpa using q
      exact q'
    · refine i_nay h2 ?_
      walk_at "dgo"
      rw [decide_eq_true h1, decide_eq_true (show some y ≠ some x from fun z => h2 (Option.some.inj z)), Bool.true_and, Bool.true_and] at q
      by_cases h3 : t.take i = d.take i
      · refine i_yes h3 ?_
        walk_at "dgo"
        rw [decide_eq_true h3, Bool.true_and] at q
        exact q
      · refine i_nay h3 ?_
        rw [decide_eq_false h3, Bool.false_and] at q
        exact q
  · refine i_yesN h1 ?_
    walk_at "dgo"
    rw [decide_eq_false h1, Bool.false_and] at q
    exact q
theorem dp_is_joined (h : sp_is_joined xs P X) : d_is_joined (dEnds P) X (startD xs (4 - xs.length)) := by
  obtain ⟨d, t, i, rfl, hi, hd, ht, q⟩ := h
  show d_is_joined (dEnds P) X [.v (rowD d), .v (rowD t), .v (nat i), .un]
  rw [isB_joined] at q
  unfold d_is_joined
  walk_at "dgo"
  rw [Nat.add_sub_cancel_left]
  by_cases h1 : ((d.drop i).take 2).length < 2
  · refine i_yes h1 ?_
    walk_at "dgo"
    rw [decide_eq_false (fun z => z.1 (.inl h1))] at q
    exact q
  · refine i_nay h1 ?_
    walk_at "dgo"
    by_cases h2 : 60 ≤ ((d.drop i).take 2).sum
    · refine i_yes h2 ?_
      walk_at "dgo"
      rw [decide_eq_false (fun z => z.1 (.inr h2))] at q
      exact q
    · refine i_nay h2 ?_
      walk_at "dgo"
      rw [decide_eq_decide.mpr (show (¬ (((d.drop i).take 2).length < 2 ∨ 60 ≤ ((d.drop i).take 2).sum) ∧ t = d.take i ++ [((d.drop i).take 2).sum] ++ d.drop (i + 2)) ↔ (t = d.take i ++ [((d.drop i).take 2).sum] ++ d.drop (i + 2)) from ⟨fun z => z.2, fun z => ⟨fun w => w.elim h1 h2, z⟩⟩)] at q
      exact q
/-- the pair from a place -/
theorem pair_at {d : List Nat} {i : Nat} (h : ¬ ((d.drop i).take 2).length < 2) : ∃ a b, (d.drop i).take 2 = [a, b] ∧ d[i]? = some a ∧ d[i + 1]? = some b := by
  have h1 : i + 1 < d.length := by rw [List.length_take, List.length_drop] at h; omega
  refine ⟨d[i], d[i + 1], ?_, List.getElem?_eq_getElem (by omega), List.getElem?_eq_getElem h1⟩
  rw [List.drop_eq_getElem_cons (by omega), List.drop_eq_getElem_cons h1]
  rfl
theorem dp_is_swapped (h : sp_is_swapped xs P X) : d_is_swapped (dEnds P) X (startD xs (4 - xs.length)) := by
  obtain ⟨d, t, i, rfl, hi, hd, ht, q⟩ := h
  show d_is_swapped (dEnds P) X [.v (rowD d), .v (rowD t), .v (nat i), .un]
  rw [isB_swapped] at q
  unfold d_is_swapped
  walk_at "dgo"
  rw [Nat.add_sub_cancel_left]
  by_cases h1 : ((d.drop i).take 2).length < 2
  · refine i_yes h1 ?_
    walk_at "dgo"
    rw [decide_eq_false (fun z => z.1 (.inl h1))] at q
    exact q
  · obtain ⟨a, b, e, ea, eb⟩ := pair_at h1
    rw [e, ea, eb] at q
    refine i_nay h1 ?_
    rw [e]
    walk_at "dgo"
    refine d_ixR (d := a) rfl ?_
    walk_at "dgo"
    refine d_ixR (d := b) rfl ?_
    walk_at "dgo"
    by_cases h2 : a = b
    · refine i_yes h2 ?_
      walk_at "dgo"
      rw [decide_eq_false (fun z => z.1 (.inr (by rw [h2])))] at q
      exact q
    · refine i_nay h2 ?_
      walk_at "dgo"
      refine d_ixR (d := b) rfl ?_
      walk_at "dgo"
      refine d_ixR (d := a) rfl ?_
      walk_at "dgo"
      rw [decide_eq_decide.mpr (show (¬ (([a, b] : List Nat).length < 2 ∨ some a = some b) ∧ t = d.take i ++ [a, b].reverse ++ d.drop (i + 2)) ↔ (t = d.take i ++ [b, a] ++ d.drop (i + 2)) from ⟨fun z => z.2, fun z => ⟨fun w => w.elim (fun y => by simp at y) fun y => h2 (Option.some.inj y), z⟩⟩)] at q
      exact q
theorem spAt_hd {a : Addr} {s : DSp} {tab : List (Addr × DSp)} : spAt ((a, s) :: tab) a = some s := by
  unfold spAt
  rw [List.find?_cons_of_pos (by simp)]; rfl
theorem spAt_tl {a b : Addr} {s : DSp} {tab : List (Addr × DSp)} (h : b ≠ a) : spAt ((b, s) :: tab) a = spAt tab a := by
  unfold spAt
  rw [List.find?_cons_of_neg (by simpa using h)]
theorem slips_len (d t : List Nat) : (slipsOf d t).length ≤ 5 * d.length := by
  unfold slipsOf
  have : ∀ ks : List Str, (ks.flatMap fun k => ((List.range d.length).filter (isB d t k)).map fun i => (k, i)).length ≤ ks.length * d.length := by
    intro ks
    induction ks with
    | nil => simp
    | cons k ks ih =>
      rw [List.flatMap_cons, List.length_append, List.length_map, List.length_cons, Nat.add_mul, Nat.one_mul]
      have h := List.length_filter_le (isB d t k) (List.range d.length)
      rw [List.length_range] at h
      omega
  exact this sorts
theorem filter_snoc {p : Nat → Bool} {i : Nat} : (List.range (i + 1)).filter p = (List.range i).filter p ++ (if p i = true then [i] else []) := by
  rw [List.range_succ, List.filter_append]
  congr 1
  by_cases h : p i = true
  · rw [if_pos h, List.filter_cons_of_pos h]; rfl
  · rw [if_neg h, List.filter_cons_of_neg h]; rfl
theorem dp_slips_between {aS a1 a2 a3 a4 a5 : Addr} (nd : [a1, a2, a3, a4, a5].Nodup) (h : sp_slips_between xs P X) : d_slips_between aS [(("figure" : Str), a1), (("left" : Str), a2), (("twice" : Str), a3), (("joined" : Str), a4), (("swapped" : Str), a5)]
    [(a1, sp_is_other_figure), (a2, sp_is_left_out), (a3, sp_is_twice), (a4, sp_is_joined), (a5, sp_is_swapped)] (dEnds P) X (startD xs (6 - xs.length)) := by
  obtain ⟨d, t, rfl, hd, ht, q⟩ := h
  obtain ⟨tS, hT⟩ : ∃ tS : List (Str × Addr), tS = [(("figure" : Str), a1), (("left" : Str), a2), (("twice" : Str), a3), (("joined" : Str), a4), (("swapped" : Str), a5)] := ⟨_, rfl⟩
  obtain ⟨sS, hS⟩ : ∃ sS : List (Addr × DSp), sS = [(a1, sp_is_other_figure), (a2, sp_is_left_out), (a3, sp_is_twice), (a4, sp_is_joined), (a5, sp_is_swapped)] := ⟨_, rfl⟩
  rw [← hT, ← hS]
  show d_slips_between aS tS sS (dEnds P) X [.v (rowD d), .v (rowD t), .un, .un, .un, .un]
  simp only [List.nodup_cons, List.mem_cons, List.not_mem_nil, or_false, not_or, List.nodup_nil, and_true, not_false_eq_true] at nd
  obtain ⟨⟨n12, n13, n14, n15⟩, ⟨n23, n24, n25⟩, ⟨n34, n35⟩, n45⟩ := nd
  unfold d_slips_between
  -- one sort
  have turn : ∀ (k : Str) (a : Addr) (acc : List (Str × Nat)) (s3 s4 s5 : Sl) (D : DEnds), (k, a) ∈ tS → spAt sS a = some (spIs k) → acc.length ≤ 50000 →
      (∀ s4 s5, D.nx [.v (rowD d), .v (rowD t), .ol ((acc ++ ((List.range d.length).filter (isB d t k)).map fun i => (k, i)).map slipP), .v (.str k), s4, s5]) →
      (dSeq (dAsg (.nm 4) (dOp (dIxW aS tS) (dC (.fn aS)) (dVar 3))) (dFor (dRng1 (dCons (dCB dLen (dCons (dVar 0) dNil)) dNil)) (.nm 5)
        (dIfS (dB (dCallF 4 sS (dCons (dVar 0) (dCons (dVar 1) (dCons (dVar 5) dNil))))) (dApp 2 (dTup (dCons (dVar 3) (dCons (dVar 5) dNil)))) dNext))) D X
        [.v (rowD d), .v (rowD t), .ol (acc.map slipP), .v (.str k), s4, s5] := by
    intro k a acc s3 s4 s5 D hm hs hl hD
    walk_at "dgo"
    refine ⟨rfl, k, a, rfl, hm, ?_⟩
    walk_at "dgo"
    refine d_loop (fun i ρ => ∃ s5, ρ = [.v (rowD d), .v (rowD t), .ol ((acc ++ ((List.range i).filter (isB d t k)).map fun i => (k, i)).map slipP), .v (.str k), .v (.fn a), s5]) ⟨s5, by simp⟩ ?_ ?_
    · rintro i x ρ N hx ⟨s5, rfl⟩ hN
      obtain ⟨hi, rfl⟩ := range_get hx
      walk_at "dgo"
      refine ⟨a, spIs k, rfl, hs, ?_⟩
      walk_at "dgo"
      refine ⟨d, t, i, rfl, hi, hd, ht, ?_⟩
      have hfl := List.length_filter_le (isB d t k) (List.range i)
      rw [List.length_range] at hfl
      have hN' : N [.v (rowD d), .v (rowD t), .ol ((acc ++ ((List.range i).filter (isB d t k)).map (fun i => (k, i)) ++ (if isB d t k i = true then [(k, i)] else [])).map slipP), .v (.str k), .v (.fn a), .v (nat i)] := by
        refine hN _ ⟨.v (nat i), ?_⟩
        rw [filter_snoc]
        cases isB d t k i <;> simp
      cases hb : isB d t k i with
      | true =>
        rw [hb, if_pos rfl] at hN'
        walk_at "dgo"
        refine d_sz (by simp; omega) ?_
        rw [List.map_append] at hN'
        exact hN'
      | false =>
        rw [hb, if_neg Bool.false_ne_true, List.append_nil] at hN'
        walk_at "dgo"
        exact hN'
    · rintro ρ ⟨s5, rfl⟩
      simp only [List.length_map, List.length_range]
      exact hD _ _
  obtain ⟨B, hB⟩ : ∃ B, B = (dSeq (dAsg (.nm 4) (dOp (dIxW aS tS) (dC (.fn aS)) (dVar 3))) (dFor (dRng1 (dCons (dCB dLen (dCons (dVar 0) dNil)) dNil)) (.nm 5)
        (dIfS (dB (dCallF 4 sS (dCons (dVar 0) (dCons (dVar 1) (dCons (dVar 5) dNil))))) (dApp 2 (dTup (dCons (dVar 3) (dCons (dVar 5) dNil)))) dNext))) := ⟨_, rfl⟩
  rw [← hB] at turn ⊢
  walk_at "dgo"
  have fl : ∀ k, (((List.range d.length).filter (isB d t k)).map fun i => (k, i)).length ≤ d.length := fun k => by
    have h := List.length_filter_le (isB d t k) (List.range d.length)
    rw [List.length_range] at h
    rw [List.length_map]; exact h
  have e : slipsOf d t = ((((((List.range d.length).filter (isB d t "figure")).map fun i => (("figure" : Str), i)) ++ (((List.range d.length).filter (isB d t "left")).map fun i => (("left" : Str), i))) ++ (((List.range d.length).filter (isB d t "twice")).map fun i => (("twice" : Str), i))) ++ (((List.range d.length).filter (isB d t "joined")).map fun i => (("joined" : Str), i))) ++ (((List.range d.length).filter (isB d t "swapped")).map fun i => (("swapped" : Str), i)) := by
    unfold slipsOf sorts
    simp [List.append_assoc]
  have f1 := fl "figure"; have f2 := fl "left"; have f3 := fl "twice"; have f4 := fl "joined"; have f5 := fl "swapped"
  rw [show (tS.map fun p => Dt.str p.1) = [.str "figure", .str "left", .str "twice", .str "joined", .str "swapped"] by rw [hT]; rfl]
  walk_at "dgo"
  refine turn "figure" a1 [] .un _ _ _ (by rw [hT]; simp) (by rw [hS]; exact spAt_hd) (by simp) fun s4 s5 => ?_
  rw [List.nil_append]
  walk_at "dgo"
  refine turn "left" a2 _ .un _ _ _ (by rw [hT]; simp) (by rw [hS, spAt_tl n12]; exact spAt_hd) (by omega) fun s4 s5 => ?_
  walk_at "dgo"
  refine turn "twice" a3 _ .un _ _ _ (by rw [hT]; simp) (by rw [hS, spAt_tl n13, spAt_tl n23]; exact spAt_hd) (by rw [List.length_append]; omega) fun s4 s5 => ?_
  walk_at "dgo"
  refine turn "joined" a4 _ .un _ _ _ (by rw [hT]; simp) (by rw [hS, spAt_tl n14, spAt_tl n24, spAt_tl n34]; exact spAt_hd) (by rw [List.length_append, List.length_append]; omega) fun s4 s5 => ?_
  walk_at "dgo"
  refine turn "swapped" a5 _ .un _ _ _ (by rw [hT]; simp) (by rw [hS, spAt_tl n15, spAt_tl n25, spAt_tl n35, spAt_tl n45]; exact spAt_hd) (by rw [List.length_append, List.length_append, List.length_append]; omega) fun s4 s5 => ?_
  walk_at "dgo"
  rw [← e]
  exact q
theorem dp_slips (h : sp_slips xs P X) : d_slips (dEnds P) X (startD xs (2 - xs.length)) := by
  unfold d_slips
  rcases h with ⟨d, t, ir, rfl, ht, q⟩ | ⟨r, y, hr, rfl, q⟩
  · show (dSeq _ _) (dEnds P) X [.v (rowD d), .v (rowD t)]
    walk_at "dgo"
    refine .inl ⟨d, ir, rfl, ?_⟩
    walk_at "dgo"
    exact ⟨d, t, rfl, by have := ir.len.2; omega, ht, q⟩
  · show (dSeq _ _) (dEnds P) X [.v (rowI r), .v y]
    walk_at "dgo"
    exact .inr ⟨r, hr, rfl, q⟩
end
end Dx
end
section
/-! the laws' own slips, over data -/
open PySem L2 RT Sx Dx
local macro_rules | `(tactic| walk_at "d") => `(tactic| first
  | ((with_reducible refine' d_var ?k1 ?_); (case k1 => rfl))
  | with_reducible refine' d_c ?_
  | with_reducible refine' d_op ?_
  | with_reducible refine' d_cons ?_
  | with_reducible refine' d_nil ?_
  | with_reducible refine' d_seq ?_
  | ((with_reducible refine' d_asg1 ?_); try dsimp -proj only [List.set_cons_zero, List.set_cons_succ])
  | with_reducible refine' d_asg ?_
  | with_reducible refine' d_cb ?_
  | ((with_reducible refine' d_asgN ?_); try dsimp -proj only [List.set_cons_zero, List.set_cons_succ])
  | ((with_reducible refine' d_bnm ?_); try dsimp -proj only [List.set_cons_zero, List.set_cons_succ])
  | with_reducible refine' d_btp ?_
  | with_reducible refine' d_bcons ?_
  | with_reducible refine' d_bnil ?_
  | ((with_reducible refine' d_slO ?k1 ?_); (case k1 => rfl))
  | ((with_reducible refine' d_lenO ?k1 ?_); (case k1 => rfl))
  | ((with_reducible refine' d_ixO ?k1 ?_); (case k1 => rfl))
  | ((with_reducible refine' d_app ?k1 ?_); (case k1 => rfl))
  | ((with_reducible refine' d_frz ?k1 ?_); (case k1 => rfl); try dsimp -proj only [List.set_cons_zero, List.set_cons_succ, frzS])
  | with_reducible refine' d_lnil ?_
  | with_reducible refine' d_lcons ?_
  | with_reducible refine' d_gcd ?_
  | ((with_reducible refine' d_revO ?k1 ?_); (case k1 => rfl))
  | with_reducible refine' d_revL ?_
  | with_reducible refine' d_rev ?_
  | with_reducible refine' d_exrevL ?_
  | with_reducible refine' d_exrevT ?_
  | with_reducible refine' d_lc ?_
  | with_reducible refine' d_rng1 ?_
  | with_reducible refine' d_rng2 ?_
  | ((with_reducible refine' d_exrng ?k1 ?_); (case k1 => omega))
  | ((with_reducible refine' d_exrng2 ?k1 ?k2 ?_); (case k1 => omega); (case k2 => omega))
  | ((with_reducible refine' d_sz ?k1 ?_); (case k1 => simp; done))
  | with_reducible refine' d_tupQ ?_
  | with_reducible refine' d_lstQ ?_
  | with_reducible refine' d_callX ?_
  | with_reducible refine' d_call0 ?_
  | with_reducible refine' d_ifS ?_
  | with_reducible refine' d_B ?_
  | with_reducible refine' d_exbl ?_
  | with_reducible refine' d_ret ?_
  | with_reducible refine' d_drop ?_
  | with_reducible refine' d_next ?_
  | with_reducible refine' d_chain ?_
  | with_reducible refine' d_and ?_
  | with_reducible refine' d_or ?_
  | with_reducible refine' d_not ?_
  | with_reducible refine' d_andV ?_
  | with_reducible refine' d_orV ?_
  | with_reducible refine' d_notV ?_
  | with_reducible refine' d_neR ?_
  | with_reducible refine' d_eqR ?_
  | with_reducible refine' d_ccons ?_
  | ((with_reducible refine' d_cnil ?_); try dsimp -proj only [List.nil_append, List.cons_append])
  | with_reducible refine' d_listOf ?_
  | with_reducible refine' d_oflT ?_
  | with_reducible refine' d_oflL ?_
  | with_reducible refine' d_exsR ?_
  | with_reducible refine' d_lenR ?_
  | with_reducible refine' d_join ?_
  | with_reducible refine' d_split ?_
  | with_reducible refine' d_exstr ?_
  | with_reducible refine' d_asgL ?_
  | with_reducible refine' d_fzD ?_
  | with_reducible refine' d_dc ?_
  | with_reducible refine' d_notInK ?_
  | with_reducible refine' d_inK ?_
  | with_reducible refine' d_getK ?_
  | with_reducible refine' d_exks ?_
  | with_reducible refine' d_raise0 ?_
  | ((with_reducible refine' d_strN ?k1 ?_); (case k1 => omega))
  | with_reducible refine' d_if ?_
  | with_reducible refine' d_un ?_
  | with_reducible refine' d_fz ?_
  | with_reducible refine' d_addN ?_
  | ((with_reducible refine' d_subN ?k1 ?_); (case k1 => omega))
  | ((with_reducible refine' d_mdN ?k1 ?_); (case k1 => omega))
  | ((with_reducible refine' d_fdN ?k1 ?k2 ?_); (case k1 => omega); (case k2 => omega))
  | ((with_reducible refine' d_mulL ?k1 ?k2 ?_); (case k1 => omega); (case k2 => omega))
  | with_reducible refine' d_ltN ?_
  | with_reducible refine' d_leN ?_
  | with_reducible refine' d_gtN ?_
  | with_reducible refine' d_geN ?_
  | with_reducible refine' d_eqN ?_
  | with_reducible refine' d_neN ?_
  | with_reducible refine' d_negN ?_
  | with_reducible refine' d_bit ?_
  | ((with_reducible refine' d_lenT ?_); try rw [List.length_map])
  | ((with_reducible refine' d_lenL ?_); try rw [List.length_map])
  | ((with_reducible refine' d_aug ?k1 ?_); (case k1 => rfl))
  | with_reducible refine' d_slTA ?_
  | with_reducible refine' d_slTo ?_
  | with_reducible refine' d_slFrom ?_
  | with_reducible refine' d_slMid ?_
  | with_reducible refine' d_slT0 ?_
  | ((with_reducible refine' d_catR ?k1 ?_); (case k1 => simp only [List.length_take, List.length_drop, List.length_append, List.length_cons, List.length_nil]; omega))
  | ((with_reducible refine' d_catR1 ?k1 ?_); (case k1 => simp only [List.length_take, List.length_drop, List.length_append, List.length_cons, List.length_nil]; omega))
  | ((with_reducible refine' d_catR2 ?k1 ?_); (case k1 => simp only [List.length_take, List.length_drop, List.length_append, List.length_cons, List.length_nil]; omega))
  | with_reducible refine' d_sumR ?_
  | with_reducible refine' d_revT ?_
  | with_reducible refine' d_keysW ?_
  | with_reducible refine' d_isNN ?_
  | with_reducible refine' d_isNT ?_
  | with_reducible refine' d_notNN ?_
  | with_reducible refine' d_notNT ?_
  | with_reducible refine' d_notNR ?_
  | with_reducible refine' d_isNR ?_
  | with_reducible refine' d_eqNR ?_
  | with_reducible refine' d_neNR ?_
  | with_reducible refine' d_neStr ?_
  | with_reducible refine' d_eqStr ?_
  | with_reducible refine' d_slL ?_
  | with_reducible refine' d_exsT ?_
  | with_reducible refine' d_exsL ?_
  | with_reducible refine' d_nopart ?_
  | with_reducible refine' dw_part ?_
  | with_reducible refine' d_exint ?_
  | with_reducible refine' d_yes1 ?_
  | with_reducible refine' d_itT ?_
  | with_reducible refine' d_itL ?_
  | with_reducible refine' d_itK ?_
  | with_reducible refine' d_exsK ?_
  | with_reducible refine' d_for ?_
  | with_reducible refine' d_tupL ?_
  | with_reducible refine' d_tupT ?_
  | with_reducible refine' i_iteT ?_
  | with_reducible refine' i_iteNT ?_
  | with_reducible refine' i_iteNF ?_
  | with_reducible refine' i_iteF ?_
  | ((with_reducible refine' i_yes ?k1 ?_); (case k1 => omega))
  | ((with_reducible refine' i_nay ?k1 ?_); (case k1 => omega))
  | ((with_reducible refine' i_yesN ?k1 ?_); (case k1 => omega))
  | ((with_reducible refine' i_nayN ?k1 ?_); (case k1 => omega))
  | ((with_reducible refine' i_yesS ?k1 ?_); (case k1 => decide))
  | ((with_reducible refine' i_nayS ?k1 ?_); (case k1 => decide))
  | ((with_reducible refine' i_yesSN ?k1 ?_); (case k1 => decide))
  | ((with_reducible refine' i_naySN ?k1 ?_); (case k1 => decide)))
local macro_rules | `(tactic| walk_at "dgo") => `(tactic| (repeat walk_at "d"; try dsimp -proj only [List.set_cons_zero, List.set_cons_succ]))
namespace Dx
/-- a row that may have been spoilt -/
def Fig (r : List Nat) : Prop := (∀ d ∈ r, d < 60) ∧ r ≠ [] ∧ r.length ≤ 100
def sp__law_spoilt : DSp := fun xs P _ => ∃ r : List Nat, xs = [.dice, rowD r] ∧ (∀ d ∈ r, d < 60) ∧ r ≠ [] ∧ r.length ≤ 50 ∧ ∀ s : List Nat, (∀ d ∈ s, d < 60) → s ≠ [] → s.length ≤ r.length + 2 → P (rowD s)
def d__law_made : DS := (dSeq (dIfS (dB (dOp dEqS (dVar 1) (dC (.str "left")))) (dRet (dOp dCatT (dSlT (dVar 0) dNoPart (dPart (dVar 2))) (dSlT (dVar 0) (dPart (dOp dAdd (dVar 2) (dC (nat 1)))) dNoPart))) dNext)
  (dSeq (dIfS (dB (dOp dEqS (dVar 1) (dC (.str "twice")))) (dRet (dOp dCatT (dOp dCatT (dSlT (dVar 0) dNoPart (dPart (dVar 2))) (dTup (dCons (dOp dIxT (dVar 0) (dVar 2)) (dCons (dOp dIxT (dVar 0) (dVar 2)) dNil)))) (dSlT (dVar 0) (dPart (dOp dAdd (dVar 2) (dC (nat 1)))) dNoPart))) dNext)
  (dSeq (dAsg (.nm 3) (dSlT (dVar 0) (dPart (dVar 2)) (dPart (dOp dAdd (dVar 2) (dC (nat 2))))))
  (dSeq (dIfS (dOr (dB (dOp dLt (dCB dLen (dCons (dVar 3) dNil)) (dC (nat 2)))) (dOr (dAnd (dB (dOp dEqS (dVar 1) (dC (.str "joined")))) (dB (dOp dGt (dCB dSumT (dCons (dVar 3) dNil)) (dC (nat 59))))) (dAnd (dB (dOp dEqS (dVar 1) (dC (.str "swapped")))) (dB (dOp dEqS (dOp dIxT (dVar 3) (dC (nat 0))) (dOp dIxT (dVar 3) (dC (nat 1)))))))) (dRet (dC .non)) dNext)
  (dSeq (dIfS (dB (dOp dEqS (dVar 1) (dC (.str "joined")))) (dRet (dOp dCatT (dOp dCatT (dSlT (dVar 0) dNoPart (dPart (dVar 2))) (dTup (dCons (dCB dSumT (dCons (dVar 3) dNil)) dNil))) (dSlT (dVar 0) (dPart (dOp dAdd (dVar 2) (dC (nat 2)))) dNoPart))) dNext)
  (dRet (dOp dCatT (dOp dCatT (dSlT (dVar 0) dNoPart (dPart (dVar 2))) (dRevT (dVar 3))) (dSlT (dVar 0) (dPart (dOp dAdd (dVar 2) (dC (nat 2)))) dNoPart))))))))
def d__law_slips : DS := (dSeq (dAsgN 2 (dLst dNil))
  (dSeq (dFor (dRng1 (dCons (dCB dLen (dCons (dVar 0) dNil)) dNil)) (.nm 3)
  (dIfS (dAnd (dB (dOp dEqS (dCB dLen (dCons (dVar 1) dNil)) (dCB dLen (dCons (dVar 0) dNil)))) (dB (dOp dNeS (dOp dIxT (dVar 1) (dVar 3)) (dOp dIxT (dVar 0) (dVar 3))))) (dSeq (dAsg (.nm 4) (dOp dCatT (dSlT (dVar 0) dNoPart (dPart (dVar 3))) (dSlT (dVar 0) (dPart (dOp dAdd (dVar 3) (dC (nat 1)))) dNoPart)))
  (dIfS (dB (dOp dEq (dOp dCatT (dSlT (dVar 1) dNoPart (dPart (dVar 3))) (dSlT (dVar 1) (dPart (dOp dAdd (dVar 3) (dC (nat 1)))) dNoPart)) (dVar 4))) (dApp 2 (dTup (dCons (dC (.str "figure")) (dCons (dVar 3) dNil)))) dNext)) dNext))
  (dSeq (dFor (dItL (dFz (dLst (dCons (dC (.str "left")) (dCons (dC (.str "twice")) (dCons (dC (.str "joined")) (dCons (dC (.str "swapped")) dNil))))))) (.nm 5)
  (dFor (dRng1 (dCons (dCB dLen (dCons (dVar 0) dNil)) dNil)) (.nm 3)
  (dIfS (dAnd (dB (dOp dNe (dVar 1) (dVar 0))) (dB (dOp dEq (dCallX sp__law_made (dCons (dVar 0) (dCons (dVar 5) (dCons (dVar 3) dNil)))) (dVar 1)))) (dApp 2 (dTup (dCons (dVar 5) (dCons (dVar 3) dNil)))) dNext)))
  (dFrz 2 (dRet (dVar 2))))))

section
variable {xs : List Dt} {P : Dt → Prop} {X : DX}
theorem twice_eq {d : List Nat} {i x : Nat} (h : d[i]? = some x) : d.take i ++ [x, x] ++ d.drop (i + 1) = d.take (i + 1) ++ d.drop i := by
  obtain ⟨hi, e⟩ := List.getElem?_eq_some_iff.mp h
  rw [take_more h, List.drop_eq_getElem_cons hi, e]
  simp
theorem dp__law_made (h : sp__law_made xs P X) : d__law_made (dEnds P) X (startD xs (4 - xs.length)) := by
  obtain ⟨d, k, i, rfl, hk, hi, hd, q⟩ := h
  show d__law_made (dEnds P) X [.v (rowD d), .v (.str k), .v (nat i), .un]
  unfold d__law_made
  simp only [List.mem_cons, List.not_mem_nil, or_false] at hk
  rcases hk with rfl | rfl | rfl | rfl
  · walk_at "dgo"
    exact q
  · obtain ⟨x, hx⟩ : ∃ x, d[i]? = some x := ⟨_, List.getElem?_eq_getElem hi⟩
    walk_at "dgo"
    refine d_ixR hx ?_
    walk_at "dgo"
    refine d_ixR hx ?_
    walk_at "dgo"
    rw [twice_eq hx]
    exact q
  · unfold madeO at q
    rw [if_neg (by decide), if_neg (by decide), if_pos rfl] at q
    walk_at "dgo"
    rw [Nat.add_sub_cancel_left]
    by_cases h1 : ((d.drop i).take 2).length < 2
    · rw [if_pos (.inl h1)] at q
      refine i_yes h1 ?_
      walk_at "dgo"
      exact q
    · refine i_nay h1 ?_
      walk_at "dgo"
      by_cases h2 : 59 < ((d.drop i).take 2).sum
      · rw [if_pos (.inr h2)] at q
        refine i_yes h2 ?_
        walk_at "dgo"
        exact q
      · rw [if_neg (fun z => z.elim h1 fun w => h2 (by omega))] at q
        refine i_nay h2 ?_
        walk_at "dgo"
        exact q
  · unfold madeO at q
    rw [if_neg (by decide), if_neg (by decide), if_neg (by decide), if_pos rfl] at q
    walk_at "dgo"
    rw [Nat.add_sub_cancel_left]
    by_cases h1 : ((d.drop i).take 2).length < 2
    · rw [if_pos (.inl h1)] at q
      refine i_yes h1 ?_
      walk_at "dgo"
      exact q
    · obtain ⟨a, b, e, ea, eb⟩ := pair_at h1
      refine i_nay h1 ?_
      rw [e]
      rw [e, ea, eb] at q
      walk_at "dgo"
      refine d_ixR (d := a) rfl ?_
      walk_at "dgo"
      refine d_ixR (d := b) rfl ?_
      walk_at "dgo"
      by_cases h2 : a = b
      · rw [if_pos (.inr (by rw [h2]))] at q
        refine i_yes h2 ?_
        walk_at "dgo"
        exact q
      · rw [if_neg (fun z => z.elim (fun y => by simp at y) fun w => h2 (Option.some.inj w))] at q
        refine i_nay h2 ?_
        walk_at "dgo"
        refine d_catR2 (m := b) (n := a) (by rw [List.length_take]; omega) ?_
        walk_at "dgo"
        exact q
theorem app_eq {a b c d : List Nat} (h : a.length = c.length) : a ++ b = c ++ d ↔ a = c ∧ b = d := ⟨fun e => List.append_inj e h, fun ⟨e1, e2⟩ => by rw [e1, e2]⟩
theorem isB_self {d t : List Nat} {k : Str} {i : Nat} (hk : k ∈ (["left", "twice", "joined", "swapped"] : List Str)) (hi : i < d.length) (h : isB d t k i = true) : t ≠ d := by
  simp only [List.mem_cons, List.not_mem_nil, or_false] at hk
  rcases hk with rfl | rfl | rfl | rfl
  · rw [isB_left] at h
    have h := of_decide_eq_true h
    intro e
    rw [e] at h
    have := congrArg List.length h
    rw [List.length_append, List.length_take, List.length_drop] at this
    omega
  · rw [isB_twice] at h
    have h := of_decide_eq_true h
    intro e
    rw [e] at h
    have := congrArg List.length h
    rw [List.length_append, List.length_take, List.length_drop] at this
    omega
  · rw [isB_joined] at h
    obtain ⟨h1, h2⟩ := of_decide_eq_true h
    have h3 : ¬ ((d.drop i).take 2).length < 2 := fun z => h1 (.inl z)
    rw [List.length_take, List.length_drop] at h3
    intro e
    rw [e] at h2
    have := congrArg List.length h2
    rw [List.length_append, List.length_append, List.length_take, List.length_drop, List.length_singleton] at this
    omega
  · rw [isB_swapped] at h
    obtain ⟨h1, h2⟩ := of_decide_eq_true h
    obtain ⟨a, b, e, ea, eb⟩ := pair_at fun z => h1 (.inl z)
    intro z
    rw [z, e] at h2
    have hl : i < d.length := hi
    have e2 : d[i]? = some b := by
      rw [h2, List.append_assoc, List.getElem?_append_right (by rw [List.length_take]; omega), List.length_take, show i - min i d.length = 0 by omega]
      rfl
    rw [ea] at e2
    exact h1 (.inr (by rw [ea, eb, Option.some.inj e2]))
theorem dp__law_slips (h : sp__law_slips xs P X) : d__law_slips (dEnds P) X (startD xs (6 - xs.length)) := by
  obtain ⟨d, t, rfl, hd, ht, q⟩ := h
  show d__law_slips (dEnds P) X [.v (rowD d), .v (rowD t), .un, .un, .un, .un]
  unfold d__law_slips
  -- one sort
  have turn : ∀ (k : Str) (acc : List (Str × Nat)) (s3 s4 : Sl) (D : DEnds), k ∈ (["left", "twice", "joined", "swapped"] : List Str) → acc.length ≤ 50000 →
      (∀ s3, D.nx [.v (rowD d), .v (rowD t), .ol ((acc ++ ((List.range d.length).filter (isB d t k)).map fun i => (k, i)).map slipP), s3, s4, .v (.str k)]) →
      (dFor (dRng1 (dCons (dCB dLen (dCons (dVar 0) dNil)) dNil)) (.nm 3)
        (dIfS (dAnd (dB (dOp dNe (dVar 1) (dVar 0))) (dB (dOp dEq (dCallX sp__law_made (dCons (dVar 0) (dCons (dVar 5) (dCons (dVar 3) dNil)))) (dVar 1)))) (dApp 2 (dTup (dCons (dVar 5) (dCons (dVar 3) dNil)))) dNext)) D X
        [.v (rowD d), .v (rowD t), .ol (acc.map slipP), s3, s4, .v (.str k)] := by
    intro k acc s3 s4 D hk hl hD
    walk_at "dgo"
    refine d_loop (fun i ρ => ∃ s3, ρ = [.v (rowD d), .v (rowD t), .ol ((acc ++ ((List.range i).filter (isB d t k)).map fun i => (k, i)).map slipP), s3, s4, .v (.str k)]) ⟨s3, by simp⟩ ?_ ?_
    · rintro i x ρ N hx ⟨s3, rfl⟩ hN
      obtain ⟨hi, rfl⟩ := range_get hx
      have hfl := List.length_filter_le (isB d t k) (List.range i)
      rw [List.length_range] at hfl
      have hN' : N [.v (rowD d), .v (rowD t), .ol ((acc ++ ((List.range i).filter (isB d t k)).map (fun i => (k, i)) ++ (if isB d t k i = true then [(k, i)] else [])).map slipP), .v (nat i), s4, .v (.str k)] := by
        refine hN _ ⟨.v (nat i), ?_⟩
        rw [filter_snoc]
        cases isB d t k i <;> simp
      have hkf : k ≠ "figure" := by
        simp only [List.mem_cons, List.not_mem_nil, or_false] at hk
        rcases hk with rfl | rfl | rfl | rfl <;> decide
      have eb : isB d t k i = decide (madeO d k i = some t) := by unfold isB; rw [if_neg hkf]
      walk_at "dgo"
      by_cases ht0 : t = d
      · refine i_nayN ht0 ?_
        have hb : isB d t k i = false := by
          cases e : isB d t k i with
          | false => rfl
          | true => exact absurd ht0 (isB_self hk hi e)
        rw [hb, if_neg Bool.false_ne_true, List.append_nil] at hN'
        walk_at "dgo"
        exact hN'
      · refine i_yesN ht0 ?_
        walk_at "dgo"
        refine ⟨d, k, i, rfl, hk, hi, hd, ?_⟩
        cases hm : madeO d k i with
        | none =>
          have hb : isB d t k i = false := by rw [eb, hm]; simp
          rw [hb, if_neg Bool.false_ne_true, List.append_nil] at hN'
          unfold optD
          walk_at "dgo"
          exact hN'
        | some m =>
          have eb2 : isB d t k i = decide (m = t) := by rw [eb, hm]; exact decide_eq_decide.mpr ⟨fun z => Option.some.inj z, fun z => by rw [z]⟩
          unfold optD
          walk_at "dgo"
          by_cases hmt : m = t
          · rw [eb2, decide_eq_true hmt, if_pos rfl, List.map_append] at hN'
            refine i_yes hmt ?_
            walk_at "dgo"
            refine d_sz (by simp; omega) ?_
            exact hN'
          · rw [eb2, decide_eq_false hmt, if_neg Bool.false_ne_true, List.append_nil] at hN'
            refine i_nay hmt ?_
            walk_at "dgo"
            exact hN'
    · rintro ρ ⟨s3, rfl⟩
      simp only [List.length_map, List.length_range]
      exact hD _
  obtain ⟨B, hB⟩ : ∃ B, B = (dFor (dRng1 (dCons (dCB dLen (dCons (dVar 0) dNil)) dNil)) (.nm 3)
        (dIfS (dAnd (dB (dOp dNe (dVar 1) (dVar 0))) (dB (dOp dEq (dCallX sp__law_made (dCons (dVar 0) (dCons (dVar 5) (dCons (dVar 3) dNil)))) (dVar 1)))) (dApp 2 (dTup (dCons (dVar 5) (dCons (dVar 3) dNil)))) dNext)) := ⟨_, rfl⟩
  rw [← hB] at turn ⊢
  walk_at "dgo"
  have fl : ∀ k, (((List.range d.length).filter (isB d t k)).map fun i => (k, i)).length ≤ d.length := fun k => by
    have h := List.length_filter_le (isB d t k) (List.range d.length)
    rw [List.length_range] at h
    rw [List.length_map]; exact h
  have f1 := fl "figure"; have f2 := fl "left"; have f3 := fl "twice"; have f4 := fl "joined"; have f5 := fl "swapped"
  have e : slipsOf d t = ((((((List.range d.length).filter (isB d t "figure")).map fun i => (("figure" : Str), i)) ++ (((List.range d.length).filter (isB d t "left")).map fun i => (("left" : Str), i))) ++ (((List.range d.length).filter (isB d t "twice")).map fun i => (("twice" : Str), i))) ++ (((List.range d.length).filter (isB d t "joined")).map fun i => (("joined" : Str), i))) ++ (((List.range d.length).filter (isB d t "swapped")).map fun i => (("swapped" : Str), i)) := by
    unfold slipsOf sorts
    simp [List.append_assoc]
  refine d_loop (fun i ρ => ∃ s3 s4, ρ = [.v (rowD d), .v (rowD t), .ol ((((List.range i).filter (isB d t "figure")).map fun i => (("figure" : Str), i)).map slipP), s3, s4, .un]) ⟨.un, .un, by simp⟩ ?_ ?_
  · rintro i x ρ N hx ⟨s3, s4, rfl⟩ hN
    obtain ⟨hi, rfl⟩ := range_get hx
    have hfl := List.length_filter_le (isB d t "figure") (List.range i)
    rw [List.length_range] at hfl
    have hN' : ∀ s4, N [.v (rowD d), .v (rowD t), .ol ((((List.range i).filter (isB d t "figure")).map (fun i => (("figure" : Str), i)) ++ (if isB d t "figure" i = true then [(("figure" : Str), i)] else [])).map slipP), .v (nat i), s4, .un] := by
      intro s4
      refine hN _ ⟨.v (nat i), s4, ?_⟩
      rw [filter_snoc]
      cases isB d t "figure" i <;> simp
    have eb : isB d t "figure" i = otherB d t i := by unfold isB; rw [if_pos rfl]
    have no : isB d t "figure" i = false → ∀ s4, N [.v (rowD d), .v (rowD t), .ol ((((List.range i).filter (isB d t "figure")).map (fun i => (("figure" : Str), i))).map slipP), .v (nat i), s4, .un] := fun hb s4 => by
      have := hN' s4
      rw [hb, if_neg Bool.false_ne_true, List.append_nil] at this
      exact this
    walk_at "dgo"
    by_cases h1 : t.length = d.length
    · refine i_yes h1 ?_
      obtain ⟨x, hx⟩ : ∃ x, d[i]? = some x := ⟨_, List.getElem?_eq_getElem hi⟩
      obtain ⟨y, hy⟩ : ∃ y, t[i]? = some y := ⟨_, List.getElem?_eq_getElem (by omega)⟩
      walk_at "dgo"
      refine d_ixR hy ?_
      walk_at "dgo"
      refine d_ixR hx ?_
      walk_at "dgo"
      by_cases h2 : y = x
      · refine i_nayN h2 ?_
        walk_at "dgo"
        exact no (by rw [eb]; unfold otherB; rw [hx, hy, h2]; simp) _
      · refine i_yesN h2 ?_
        walk_at "dgo"
        have eo : otherB d t i = decide (t.take i ++ t.drop (i + 1) = d.take i ++ d.drop (i + 1)) := by
          unfold otherB
          rw [hx, hy, decide_eq_true h1, decide_eq_true (show some y ≠ some x from fun z => h2 (Option.some.inj z)), Bool.true_and, Bool.true_and, decide_eq_decide.mpr (app_eq (a := t.take i) (by rw [List.length_take, List.length_take, h1]))]
          exact (Bool.decide_and _ _).symm
        by_cases h3 : t.take i ++ t.drop (i + 1) = d.take i ++ d.drop (i + 1)
        · refine i_yes h3 ?_
          have := hN' (.v (rowD (d.take i ++ d.drop (i + 1))))
          rw [eb, eo, decide_eq_true h3, if_pos rfl, List.map_append] at this
          walk_at "dgo"
          refine d_sz (by simp; omega) ?_
          exact this
        · refine i_nay h3 ?_
          walk_at "dgo"
          exact no (by rw [eb, eo, decide_eq_false h3]) _
    · refine i_nay h1 ?_
      walk_at "dgo"
      exact no (by rw [eb]; unfold otherB; rw [decide_eq_false h1, Bool.false_and]) _
  · rintro ρ ⟨s3, s4, rfl⟩
    simp only [List.length_map, List.length_range]
    walk_at "dgo"
    refine turn "left" _ _ _ _ (by simp) (by omega) fun s3 => ?_
    walk_at "dgo"
    refine turn "twice" _ _ _ _ (by simp) (by rw [List.length_append]; omega) fun s3 => ?_
    walk_at "dgo"
    refine turn "joined" _ _ _ _ (by simp) (by rw [List.length_append, List.length_append]; omega) fun s3 => ?_
    walk_at "dgo"
    refine turn "swapped" _ _ _ _ (by simp) (by rw [List.length_append, List.length_append, List.length_append]; omega) fun s3 => ?_
    walk_at "dgo"
    rw [← e]
    exact q
end
end Dx
end
section
/-! products without a point: arithmetic -/
namespace Sx
open PySem L2
theorem nat60 (k : Nat) : 0 < 60 ^ k := Nat.pos_of_ne_zero (by simp)
theorem strip_mul {n : Nat} (h : 0 < n) : ∀ k : Nat, strip (n * 60 ^ k) = strip n
  | 0 => by rw [Nat.pow_zero, Nat.mul_one]
  | k + 1 => by
    have e : n * 60 ^ (k + 1) = n * 60 ^ k * 60 := by rw [Nat.pow_succ, Nat.mul_assoc]
    have p : 0 < n * 60 ^ k := Nat.mul_pos h (nat60 k)
    rw [e, strip_yes (by omega) (by omega), Nat.mul_div_cancel _ (by decide), strip_mul h k]
theorem rowOf_eq {x a k j : Nat} (hx : 0 < x) (ha : 0 < a) (e : x * 60 ^ k = a * 60 ^ j) : rowOf x = rowOf a := by
  unfold rowOf
  rw [← strip_mul hx k, e, strip_mul ha j]
theorem whole_rowOf {n : Nat} : whole (rowOf n) = strip n := whole_figs _
theorem cop60 {u : Nat} (h2 : u % 2 ≠ 0) (h3 : u % 3 ≠ 0) (h5 : u % 5 ≠ 0) (k : Nat) : Nat.Coprime u (60 ^ k) := by
  have c2 : Nat.Coprime u 2 := by
    unfold Nat.Coprime
    rw [Nat.gcd_comm, Nat.gcd_rec, show u % 2 = 1 by omega]; decide
  have c3 : Nat.Coprime u 3 := by
    unfold Nat.Coprime
    rw [Nat.gcd_comm, Nat.gcd_rec]
    rcases (show u % 3 = 1 ∨ u % 3 = 2 by omega) with e | e <;> rw [e] <;> decide
  have c5 : Nat.Coprime u 5 := by
    unfold Nat.Coprime
    rw [Nat.gcd_comm, Nat.gcd_rec]
    rcases (show u % 5 = 1 ∨ u % 5 = 2 ∨ u % 5 = 3 ∨ u % 5 = 4 by omega) with e | e | e | e <;> rw [e] <;> decide
  exact Nat.Coprime.pow_right k (show Nat.Coprime u (2 * 2 * (3 * 5)) from (c2.mul_right c2).mul_right (c3.mul_right c5))
theorem left_strip {n m : Nat} (hm : 0 < m) (hn : 0 < n) (d : leftN m ∣ n) : strip n % leftN m = 0 := by
  obtain ⟨_, _, k, e⟩ := strip_spec n hn
  have f := fac_of hm
  rw [e] at d
  exact Nat.mod_eq_zero_of_dvd ((cop60 f.u2 f.u3 f.u5 k).dvd_of_dvd_mul_right d)
theorem perm3 {o : List Nat} (h : o.Perm (List.range 3)) : ∃ i j k, o = [i, j, k] ∧ i < 3 ∧ j < 3 ∧ k < 3 ∧ i ≠ j ∧ i ≠ k ∧ j ≠ k := by
  have hl : o.length = 3 := by rw [h.length_eq]; rfl
  have hn : o.Nodup := h.nodup_iff.mpr List.nodup_range
  have hm : ∀ x ∈ o, x < 3 := fun x hx => List.mem_range.mp (h.mem_iff.mp hx)
  match o, hl, hn, hm with
  | [i, j, k], _, hn, hm =>
    simp only [List.nodup_cons, List.mem_cons, List.not_mem_nil, or_false, not_or, List.nodup_nil, and_true, not_false_eq_true] at hn
    exact ⟨i, j, k, rfl, hm i (by simp), hm j (by simp), hm k (by simp), hn.1.1, hn.1.2, hn.2⟩
theorem strip_eq {n : Nat} (h : 0 < n) : ∃ k, strip n * 60 ^ k = n := by
  obtain ⟨_, _, k, e⟩ := strip_spec n h
  exact ⟨k, e.symm⟩
theorem rowOf_strip {n m : Nat} (h : 0 < n) (hm : 0 < m) : rowOf (strip n * m) = rowOf (n * m) := by
  obtain ⟨h1, _, k, e⟩ := strip_spec n h
  refine rowOf_eq (k := k) (j := 0) (Nat.mul_pos h1 hm) (Nat.mul_pos h hm) ?_
  rw [Nat.pow_zero, Nat.mul_one]
  conv => rhs; rw [e]
  ac_rfl
theorem part_eq {w1 w2 x j : Nat} (p1 : 0 < w1) (p2 : 0 < w2) (hx : 0 < x) (e : x * w2 = strip (w1 * w2) * 60 ^ j) : rowOf x = rowOf w1 := by
  obtain ⟨h1, _, k, ek⟩ := strip_spec (w1 * w2) (Nat.mul_pos p1 p2)
  refine rowOf_eq (k := k) (j := j) hx p1 (Nat.eq_of_mul_eq_mul_right p2 ?_)
  calc x * 60 ^ k * w2 = x * w2 * 60 ^ k := by ac_rfl
    _ = strip (w1 * w2) * 60 ^ j * 60 ^ k := by rw [e]
    _ = strip (w1 * w2) * 60 ^ k * 60 ^ j := by ac_rfl
    _ = w1 * w2 * 60 ^ j := by rw [← ek]
    _ = w1 * 60 ^ j * w2 := by ac_rfl
theorem cast_eq {r1 r2 : List Nat} (p1 : 0 < whole r1) (p2 : 0 < whole r2) : (rowOf (whole r1 * whole r2)).sum % 59 = (r1.sum % 59) * (r2.sum % 59) % 59 := by
  rw [cast_rowOf (Nat.mul_pos p1 p2), Nat.mul_mod, ← whole_mod, ← whole_mod]
end Sx
end
section
/-! one's own dict by truth values -/
namespace Dx
open PySem L2 RT Sx
def dNewB (i : Nat) : DS := fun D _ ρ => D.nx (ρ.set i (.ob []))
def dPutB (i : Nat) (b a : DE) : DS := fun D X ρ => a X ρ fun x => ∃ ps, ρ[i]? = some (.ob ps) ∧ b X ρ fun y => ∃ k, y = .bl k ∧ ps.length ≤ 900 ∧ D.nx (ρ.set i (.ob (pK ps k x)))
def dGetB (i : Nat) (b : DE) : DE := fun X ρ P => ∃ ps, ρ[i]? = some (.ob ps) ∧ b X ρ fun y => ∃ k z, y = .bl k ∧ gK ps k = some z ∧ P z
section
variable {K : PySem.W.Frag} {W : Wd}
theorem RpB.get : ∀ {ks : List (Bool × V)} {ps : List (Bool × Dt)} {k : Bool}, RpB K W ks ps → (valV ks k = none ∧ gK ps k = none) ∨ ∃ v x, valV ks k = some v ∧ gK ps k = some x ∧ Rp K W v x
  | _, _, k, .nil => .inl ⟨rfl, rfl⟩
  | _, _, k, @RpB.cons _ _ k' v x ks ps r rr => by
    by_cases e : k' = k
    · exact .inr ⟨v, x, valV_pos (p := (k', v)) e, by unfold gK; simp [List.find?_cons, e], r⟩
    · rw [valV_neg (p := (k', v)) e, show gK ((k', x) :: ps) k = gK ps k by unfold gK; simp [List.find?_cons, e]]
      exact RpB.get rr
theorem RpB.any {k : Bool} : ∀ {ks : List (Bool × V)} {ps : List (Bool × Dt)}, RpB K W ks ps → (ks.any fun p => decide (p.1 = k)) = ps.any fun p => decide (p.1 = k)
  | _, _, .nil => rfl
  | _, _, .cons r rr => by simp only [List.any_cons]; rw [RpB.any rr]
theorem RpB.mapp {k : Bool} {v : V} {x : Dt} (h : Rp K W v x) : ∀ {ks : List (Bool × V)} {ps : List (Bool × Dt)}, RpB K W ks ps → RpB K W (ks.map fun p => if p.1 = k then (p.1, v) else p) (ps.map fun p => if p.1 = k then (p.1, x) else p)
  | _, _, .nil => .nil
  | _, _, @RpB.cons _ _ k' v' x' ks ps r rr => by
    rw [List.map_cons, List.map_cons]
    by_cases e : k' = k
    · simp only [e, if_true]; exact .cons h (RpB.mapp h rr)
    · simp only [e, if_false]; exact .cons r (RpB.mapp h rr)
theorem RpB.snoc {k : Bool} {v : V} {x : Dt} (h : Rp K W v x) : ∀ {ks : List (Bool × V)} {ps : List (Bool × Dt)}, RpB K W ks ps → RpB K W (ks ++ [(k, v)]) (ps ++ [(k, x)])
  | _, _, .nil => .cons h .nil
  | _, _, .cons r rr => .cons r (RpB.snoc h rr)
theorem RpB.put {k : Bool} {v : V} {x : Dt} {ks : List (Bool × V)} {ps : List (Bool × Dt)} (h : Rp K W v x) (r : RpB K W ks ps) : RpB K W (putK ks k v) (pK ps k x) := by
  unfold putK pK
  rw [r.any]
  split
  · exact r.mapp h
  · exact r.snoc h
theorem RpB.length : ∀ {ks : List (Bool × V)} {ps : List (Bool × Dt)}, RpB K W ks ps → ks.length = ps.length
  | _, _, .nil => rfl
  | _, _, .cons _ h => by rw [List.length_cons, List.length_cons, h.length]
end
section
variable {K : PySem.W.Frag} {C : Ec} {E : XK} {σ : L2.St} {H : Hp} {Q : VK} {D : Ends} {W : Wd}
theorem ls_newB {i : Nat} (q : liftS K C E (dNewB i) D σ H) : tAsg tDNewK (gName i) D σ H := by
  obtain ⟨c, DD, at_, en, h⟩ := q
  refine fun p n => ?_
  have a1 := at_.frm (Frm.laid (o := .dK []) n) (at_.lk.ok.laid n)
  refine en.nx c.W (c.ρ.set i (.ob [])) (σ.set i (some (.ref p))) _ ⟨a1.lk.setOwn i ⟨p, .dK [], [], rfl, ⟨at_.lk.ok.fr n, at_.fr.kp p n, at_.lk.ok.dice_ne n⟩, upd_same, .inl ⟨rfl, rfl⟩, .nil⟩ fun j t e1 e2 ne e3 => ?_, a1.fr, a1.el, a1.lo⟩ h
  obtain ⟨w, h1, h2⟩ := at_.lk.sl j t e1
  rw [h1] at e3
  obtain rfl := Option.some.inj e3
  cases t with
  | un => cases e2
  | v x => cases e2
  | ol ys =>
    obtain ⟨q, us, z, _, hq, _⟩ := h2
    obtain rfl := V.ref.inj (Option.some.inj z)
    rw [n] at hq; cases hq
  | od ps =>
    obtain ⟨q, us, z, _, hq, _⟩ := h2
    obtain rfl := V.ref.inj (Option.some.inj z)
    rw [n] at hq; cases hq
  | ob ps =>
    obtain ⟨q, us, ks, z, _, hq, _⟩ := h2
    obtain rfl := V.ref.inj (Option.some.inj z)
    rw [n] at hq; cases hq
theorem Cn.At.ob {c : Cn} {i : Nat} {ps : List (Bool × Dt)} (a : c.At K C E σ H) (e : c.ρ[i]? = some (.ob ps)) : ∃ p ho ks, σ[i]? = some (some (.ref p)) ∧ Mine c.Hin c.W p ∧ H p = some ho ∧ BoolO p ho ks ∧ RpB K c.W ks ps := by
  obtain ⟨o, h1, p, ho, ks, rfl, m, h, b, r⟩ := a.lk.sl i _ e
  exact ⟨p, ho, ks, h1, m, h, b, r⟩
theorem ls_putB {i : Nat} {b a : DE} (q : liftS K C E (dPutB i b a) D σ H) : tPutB (tVar i) (liftE K C E b) (liftE K C E a) D σ H := by
  obtain ⟨c, DD, at_, en, h⟩ := q
  refine ⟨c, _, at_, h, fun W1 H1 v1 x1 f1 o1 r1 ⟨ps, e, q1⟩ => ?_⟩
  have a1 := at_.frm f1 o1
  obtain ⟨p, ho, ks, h1, m, hp, bo, rb⟩ := at_.ob e
  refine ⟨_, h1, { c with W := W1 }, _, a1, q1, fun W2 H2 v2 x2 f2 o2 r2 ⟨k, e2, hz, q2⟩ => ?_⟩
  subst e2
  have f12 := f1.trans f2
  have a2 := at_.frm f12 o2
  have hp2 := f12.sH p _ hp m.d
  have m2 := m.frm f12 hp bo.ownish
  refine ⟨p, k, ks, rfl, rp_bl r2, ?_, by rw [rb.length]; omega, ?_⟩
  · rcases bo with ⟨rfl, rfl⟩ | rfl
    · exact .inl ⟨hp2, rfl⟩
    · exact .inr hp2
  · exact en.nx W2 _ σ _ (a2.put (t := .ob (pK ps k x1)) e rfl h1 m2 ⟨p, _, putK ks k v1, rfl, m2, upd_same, .inr rfl, (rb.le f12.le).put (r1.le f2.le)⟩) q2
theorem le_getB {i : Nat} {b : DE} (q : liftE K C E (dGetB i b) σ H Q) : tGetB (tVar i) (liftE K C E b) σ H Q := by
  obtain ⟨c, P, at_, ⟨ps, e, h⟩, k⟩ := q
  obtain ⟨p, ho, ks, h1, m, hp, bo, rb⟩ := at_.ob e
  refine ⟨_, h1, c, _, at_, h, fun W1 H1 v1 x1 f1 o1 r1 ⟨kk, z, e1, eg, q1⟩ => ?_⟩
  subst e1
  rcases (rb.le f1.le).get (k := kk) with ⟨_, n⟩ | ⟨v, x, hv, hx, rv⟩
  · rw [n] at eg; cases eg
  · rw [hx] at eg
    obtain rfl := Option.some.inj eg
    refine ⟨p, kk, ks, v, rfl, rp_bl r1, ?_, hv, k W1 H1 v x f1 o1 rv q1⟩
    rcases bo with ⟨rfl, rfl⟩ | rfl
    · cases hv
    · exact f1.sH p _ hp m.d
end
/-- a tuple so many times -/
def dRepT : D2 := fun x y P => ∃ xs k, x = .tup xs ∧ y = .int k ∧ xs ≠ [] ∧ 2 ≤ k ∧ k ≤ 1000 ∧ xs.length ≤ 1000 ∧ P (.tup (List.replicate k.toNat xs).flatten)
theorem rpl_rep {K : PySem.W.Frag} {W : Wd} {vs : List V} {xs : List Dt} (r : RpL K W vs xs) : ∀ n : Nat, RpL K W (List.replicate n vs).flatten (List.replicate n xs).flatten
  | 0 => .nil
  | n + 1 => by
    rw [List.replicate_succ, List.replicate_succ, List.flatten_cons, List.flatten_cons]
    exact r.append (rpl_rep r n)
theorem o_repT {K : PySem.W.Frag} : Op2 K (rRepT K) dRepT := fun W H v1 x1 v2 x2 P Q o r1 r2 ⟨xs, k, e1, e2, hn, h2, h3, hz, q⟩ kk => by
  subst e1; subst e2
  obtain ⟨a, vs, rfl, hs, rs⟩ := rp_tup r1
  refine ⟨a, k, vs, rfl, rp_int r2, sqt (o.sF _ _ hs), fun e => ?_, h2, h3, by rw [rs.length]; exact hz, newT o (rpl_rep rs _) q kk⟩
  subst e; cases rs; exact hn rfl
theorem d_repT {n : Nat} {xs : List Dt} {P : Dt → Prop} (hn : xs ≠ []) (h2 : 2 ≤ n) (h3 : n ≤ 1000) (hz : xs.length ≤ 1000) (q : P (.tup (List.replicate n xs).flatten)) : dRepT (.tup xs) (nat n) P := ⟨xs, n, rfl, rfl, hn, by omega, by omega, hz, q⟩
theorem d_newB {X : DX} {ρ : Env} {D : DEnds} {i : Nat} (q : D.nx (ρ.set i (.ob []))) : dNewB i D X ρ := q
theorem d_putB {X : DX} {ρ : Env} {D : DEnds} {i : Nat} {b a : DE} (q : a X ρ fun x => ∃ ps, ρ[i]? = some (.ob ps) ∧ b X ρ fun y => ∃ k, y = .bl k ∧ ps.length ≤ 900 ∧ D.nx (ρ.set i (.ob (pK ps k x)))) : dPutB i b a D X ρ := q
theorem d_getB {X : DX} {ρ : Env} {P : Dt → Prop} {i : Nat} {b : DE} {ps : List (Bool × Dt)} (h : ρ[i]? = some (.ob ps)) (q : b X ρ fun y => ∃ k z, y = .bl k ∧ gK ps k = some z ∧ P z) : dGetB i b X ρ P := ⟨ps, h, q⟩
end Dx
end
section
/-! a lambda handed to what tells a refusal's word -/
namespace Dx
open PySem L2 RT Sx
def wordX (P : Dt → Prop) : DX := fun k xs => (k = 3 ∧ ∃ z, xs = [z] ∧ P (.tup [.str "side", z])) ∨ (k = 2 ∧ ∃ z, xs = [z] ∧ P (.tup [.str "turned", z]))
/-- own things are not seen from within -/
def disown : Sl → Sl
  | .v x => .v x
  | _ => .un
def dLamW (e : DE) : DE := fun _ ρ P => ∃ ns, ρ[0]? = some (.v (.scrT ns)) ∧ e (wordX P) (ρ.map disown) P
section
variable {K : PySem.W.Frag} {C : Ec} {E : XK} {σ : L2.St} {H : Hp} {Q : VK}
theorem frm_ext {W : Wd} {H H1 : Hp} (o : Ok K W H) (ht : ∀ b ps, H b = some (.tbl ps) → W.dl b) (x : LamX.ExtN H H1) (kp : ∀ b, H1 b = none → H b = none) : Frm W H W H1 := ⟨Wd.Le.refl W, fun p u hp nd => x p u hp fun ps z => nd (ht p ps (by rw [hp, z])), fun _ _ _ _ _ h => h, fun _ h => .inl h, kp⟩
end
end Dx
end
section
/-! more steps: pairs to two names, lambdas, dicts by truth values, types -/
namespace Dx
open PySem L2 RT Sx TL
section
variable {X : DX} {ρ : Env} {P : Dt → Prop} {PA : List Dt → Prop} {PB : Bool → Prop} {D : DEnds} {a b c e : DE} {t u : DT} {s r : DS} {x y : Dt} {i j l m n : Nat} {xs ys : List Dt} {v w : List Nat} {dA : DA}
theorem d_par (q : dA X ρ fun xs => ∃ x y, xs = [x, y] ∧ D.nx ((ρ.set i (.v x)).set j (.v y))) : dPar i j dA D X ρ := q
theorem d_par3 (q : dA X ρ fun xs => ∃ x y z, xs = [x, y, z] ∧ D.nx (((ρ.set i (.v x)).set j (.v y)).set l (.v z))) : dPar3 i j l dA D X ρ := q
theorem d_ex2 {A : Dt → Dt → Prop} (q : A x y) : ∃ x' y', [x, y] = [x', y'] ∧ A x' y' := ⟨x, y, rfl, q⟩
theorem d_ex3 {z : Dt} {A : Dt → Dt → Dt → Prop} (q : A x y z) : ∃ x' y' z', [x, y, z] = [x', y', z'] ∧ A x' y' z' := ⟨x, y, z, rfl, q⟩
theorem d_lamW {ns : List Int} (h : ρ[0]? = some (.v (.scrT ns))) (q : e (wordX P) (ρ.map disown) P) : dLamW e X ρ P := ⟨ns, h, q⟩
theorem wordX_side {z : Dt} (q : P (.tup [.str "side", z])) : wordX P 3 [z] := .inl ⟨rfl, z, rfl, q⟩
theorem wordX_turned {z : Dt} (q : P (.tup [.str "turned", z])) : wordX P 2 [z] := .inr ⟨rfl, z, rfl, q⟩
/-- what an expression tells, and what follows from just that -/
theorem d_cut (R : Dt → Prop) (h : ∀ M : Dt → Prop, (∀ x, R x → M x) → e X ρ M) (k : ∀ x, R x → P x) : e X ρ P := h P k
/-- a statement done, and what follows where nothing changed -/
theorem s_cut (h : ∀ N : Env → Prop, N ρ → s { D with nx := N } X ρ) (k : r D X ρ) : dSeq s r D X ρ := h _ k
/-- .. where just that much is known of what changed -/
theorem s_cutR (R : Env → Prop) (h : ∀ N : Env → Prop, (∀ ρ', R ρ' → N ρ') → s { D with nx := N } X ρ) (k : ∀ ρ', R ρ' → r D X ρ') : dSeq s r D X ρ := h _ k
theorem d_eqB {k l : Bool} (q : P (.bl (decide (k = l)))) : dEqS (.bl k) (.bl l) P := ⟨_, _, rfl, rfl, rfl, by
  rw [show decide (V.bl k = V.bl l) = decide (k = l) by congr 1; exact propext ⟨V.bl.inj, fun h => by rw [h]⟩]; exact q⟩
theorem d_isiI (q : P (.bl false)) : dIsi [nat n, .ty "str"] P := ⟨nat n, "int", "str", false, rfl, rfl, by decide +kernel, q⟩
theorem d_isiS {z : Str} (q : P (.bl true)) : dIsi [.str z, .ty "str"] P := ⟨.str z, "str", "str", true, rfl, rfl, by decide +kernel, q⟩
theorem d_exbl2 {A : Bool → Prop} {k : Bool} (q : A k) : ∃ k', Dt.bl k = .bl k' ∧ A k' := ⟨k, rfl, q⟩
theorem i_ifC {k : Bool} {F : Dt → Prop} (q : F (nat (if k then m else n))) : if k = true then dC (nat m) X ρ F else dC (nat n) X ρ F := by
  cases k <;> exact q
/-- a test and its value, both ways -/
theorem i_both {p : Prop} [Decidable p] {A B : Prop} (h : p → A) (h' : ¬ p → B) : if decide p = true then A else B := by
  by_cases e : p
  · rw [decide_eq_true e, if_pos rfl]; exact h e
  · rw [decide_eq_false e, if_neg Bool.false_ne_true]; exact h' e
end
section
variable {κ : Type} [DecidableEq κ] {ps : List (κ × Dt)} {k j : κ} {x : Dt}
theorem gK_mapp : gK (ps.map fun p => if p.1 = k then (p.1, x) else p) j = (gK ps j).map fun y => if j = k then x else y := by
  induction ps with
  | nil => rfl
  | cons p ps ih =>
    unfold gK at ih ⊢
    rw [List.map_cons, List.find?_cons, List.find?_cons]
    by_cases e : p.1 = j
    · subst e
      by_cases e2 : p.1 = k
      · simp [e2]
      · simp [e2]
    · have e3 : (if p.1 = k then (p.1, x) else p).1 = p.1 := by split <;> rfl
      rw [e3, decide_eq_false e]
      exact ih
theorem gK_any : (ps.any fun p => decide (p.1 = k)) = (gK ps k).isSome := by
  induction ps with
  | nil => rfl
  | cons p ps ih =>
    unfold gK at ih ⊢
    rw [List.any_cons, List.find?_cons]
    by_cases e : p.1 = k
    · simp [e]
    · rw [decide_eq_false e, Bool.false_or]; exact ih
theorem gK_snoc (h : gK ps k = none) : gK (ps ++ [(k, x)]) j = if j = k then some x else gK ps j := by
  induction ps with
  | nil =>
    unfold gK
    by_cases e : j = k
    · subst e; simp
    · simp [e, show ¬ k = j from fun z => e z.symm]
  | cons p ps ih =>
    unfold gK at ih h ⊢
    rw [List.cons_append, List.find?_cons, List.find?_cons]
    rw [List.find?_cons] at h
    by_cases e : p.1 = j
    · subst e
      by_cases e2 : p.1 = k
      · subst e2; simp at h
      · simp [e2]
    · rw [decide_eq_false e]
      refine ih ?_
      by_cases e2 : p.1 = k
      · simp [e2] at h
      · rw [decide_eq_false e2] at h; exact h
theorem gK_put : gK (pK ps k x) j = if j = k then some x else gK ps j := by
  unfold pK
  rw [gK_any]
  cases h : gK ps k with
  | none =>
    rw [if_neg (by simp)]
    exact gK_snoc h
  | some y =>
    rw [if_pos (by rfl), gK_mapp]
    by_cases e : j = k
    · subst e; rw [h, if_pos rfl]; simp
    · rw [if_neg e]
      cases gK ps j <;> simp [e]
theorem gK_put_self : gK (pK ps k x) k = some x := by rw [gK_put, if_pos rfl]
theorem gK_put_ne (h : j ≠ k) : gK (pK ps k x) j = gK ps j := by rw [gK_put, if_neg h]
theorem pK_len : (pK ps k x).length ≤ ps.length + 1 := by
  unfold pK
  split
  · rw [List.length_map]; omega
  · simp
end
theorem shD_rows {l : List (List Nat)} : shD (.tup (l.map rowD)) = true := by
  have h : ∀ l : List (List Nat), PyData.canLayAll0 (toPs (l.map rowD)) = true ∧ PyData.depthAll (toPs (l.map rowD)) ≤ 3 := by
    intro l
    induction l with
    | nil => simp [toPs, PyData.canLayAll0, PyData.depthAll]
    | cons r l ih =>
      obtain ⟨h1, h2⟩ := canLay_nats r
      have hs := shD_row r
      simp only [List.map_cons, toPs, PyData.canLayAll0, PyData.depthAll]
      unfold rowD at *
      simp only [toP, toPs_nats, PyData.canLay0, PyData.depth] at *
      refine ⟨by rw [h1, ih.1]; rfl, by omega⟩
  obtain ⟨h1, h2⟩ := h l
  show (PyData.canLay0 (.tuple _) && decide (PyData.depth (.tuple _) ≤ 64)) = true
  rw [Bool.and_eq_true]
  exact ⟨by simp only [PyData.canLay0]; exact h1, decide_eq_true (by simp only [PyData.depth]; omega)⟩
theorem any_row {l : List (List Nat)} {r : List Nat} : ((l.map rowD).any fun z => eqD z (rowD r)) = decide (r ∈ l) := by
  induction l with
  | nil => simp
  | cons a l ih =>
    rw [List.map_cons, List.any_cons, ih, eqD_row]
    by_cases h : a = r
    · rw [decide_eq_true h, Bool.true_or, decide_eq_true (by rw [h]; exact List.mem_cons_self)]
    · rw [decide_eq_false h, Bool.false_or]
      congr 1
      exact propext ⟨List.mem_cons_of_mem _, fun z => (List.mem_cons.mp z).elim (fun y => absurd y.symm h) id⟩
theorem d_inTR {l : List (List Nat)} {r : List Nat} {P : Dt → Prop} (q : P (.bl (decide (r ∈ l)))) : dInT (rowD r) (.tup (l.map rowD)) P := ⟨_, rfl, shD_row r, shD_rows, by rw [any_row]; exact q⟩
end Dx
end
section
/-! zip of a tuple and a list; enumerate(zip(list, list)): the inner pair stays with the outer one -/
namespace IterX
open PySem PySem.Spec PySem.W PySem.Calls PyProof.Rows
/-- a zip by its first two fields -/
abbrev ZF (h : Heap) (z TI TO : Addr) (x : Value) (f : Bool) : Prop := h.get? z = some { cls := .type "zip", dict := none, data := .fields #[x, .bool f, .bool false, .ref TI, .ref TO], slots := #[] }
section
variable {prog : Program} {w : World} {A : Around} {E : Value → Shared → Prop} {s : Shared} {z TI TO i1 i2 l1 l2 : Addr} {x : Value} {f : Bool} {k : Nat} {xs ys : Array Value}
theorem alive_any {a : Addr} {Q : Option Obj → Shared → Prop} (h : Q (s.heap.get? a) s) : wpAny (model prog w) A (loadIfAlive a) Q E s := fun _ _ _ => h
theorem free_any {Q : Bool → Shared → Prop} (hz : ZF s.heap z TI TO x f) (hx : x = .none ∨ ∃ T : Addr, x = rawInt T) (h1 : Q true s) (h2 : ∀ h', ZF h' z TI TO x true → Heap.SameBut z s.heap h' → Q false { s with heap := h' }) :
    wpAny (model prog w) A (Builtin.SmallTypes.ownedTupleIsFree (.ref z)) Q E s := by
  rcases hx with rfl | ⟨T, rfl⟩
  · unfold Builtin.SmallTypes.ownedTupleIsFree
    exact wpAny_bind (wpAny_field hz rfl (x := .none) rfl (wpAny_pure h1))
  · cases hT : s.heap.get? T with
    | some oT => exact wpAny_tupleHeld_zip hz hT h2
    | none =>
      unfold Builtin.SmallTypes.ownedTupleIsFree
      refine wpAny_bind (wpAny_field hz rfl (x := rawInt T) rfl ?_)
      show wpAny _ _ (loadIfAlive ((T : Int).toNat) >>= _) _ _ _
      rw [Int.toNat_natCast]
      refine wpAny_bind (alive_any ?_)
      rw [hT]
      simp only [Option.isNone_none, reduceIte]
      exact wpAny_pure h1
/-- its next pair, told to whoever asked -/
theorem zipF_item {u v a b : Value} {Q : Value → Shared → Prop} (D : ZipApart z TI TO i1 i2 l1 l2) (hz : ZF s.heap z TI TO x f) (hx : x = .none ∨ ∃ T : Addr, x = rawInt T) (hTI : IsPair s.heap TI (.ref i1) (.ref i2)) (hTO : IsPair s.heap TO a b)
    (c1 : s.heap.IsListIter i1 l1 k) (c2 : s.heap.IsListIter i2 l2 k) (o1 : s.heap.IsList l1 xs) (o2 : s.heap.IsList l2 ys) (gu : xs[k]? = some u) (gv : ys[k]? = some v)
    (q : ∀ h' x' f' a' b', ZF h' z TI TO x' f' → (x' = .none ∨ ∃ T : Addr, x' = rawInt T) → IsPair h' TO a' b' → h'.IsListIter i1 l1 (k + 1) → h'.IsListIter i2 l2 (k + 1) → IsPair h' s.heap.objs.size u v → h'.objs.size = s.heap.objs.size + 1 →
      (∀ c o, c ≠ z → c ≠ TO → c ≠ i1 → c ≠ i2 → s.heap.get? c = some o → h'.get? c = some o) → Q (.ref s.heap.objs.size) { s with heap := h' }) :
    wpAny (model prog w) A (Builtin.«zip.__next__» ⟨[.ref z], []⟩) (fun fin s' => ∃ v, fin = .done (.ret v) ∧ Q v s') E s := by
  show wpAny _ _ (field (.ref z) 2 >>= _) _ _ _
  refine wpAny_bind (wpAny_field hz rfl (x := .bool false) rfl (show wpAny _ _ (field (.ref z) 3 >>= _) _ _ _ from wpAny_bind (wpAny_field hz rfl (x := .ref TI) rfl (wpAny_bind (wpAny_seqItems hTI rfl ?_)))))
  show wpAny _ _ (Builtin.SmallTypes.ownedTupleIsFree (.ref z) >>= _) _ _ _
  refine wpAny_bind (free_any hz hx ?_ fun g1 z1 s1 => ?_)
  · simp only [reduceIte]
    refine wpAny_bind (wpAny_rule (wpAny_bind (wpAny_field hz rfl (x := .ref TO) rfl (wpAny_bind (wpAny_setField_rec hz (by simp) fun g1 z1 s1 => ?_)))))
    replace z1 : ZF g1 z TI TO .ellipsis f := z1
    refine wpAny_bind ?_
    simp only [List.zipIdx_cons, List.zipIdx_nil, List.forIn_cons, List.forIn_nil]
    refine wpAny_bind (wpAny_bind (wpAny_onRaise (show wpAny _ _ (Builtin.SmallTypes.nextOf (.ref i1) >>= _) _ _ _ from wpAny_bind (wpAny_nextOf_list_item (c1.extBut s1.extBut D.i1z) (o1.extBut s1.extBut D.l1z) gu fun g2 c2' s2 => wpAny_pure ?_))))
    have t2 : IsPair g2 TO a b := s2.extBut _ _ D.TOi1 (s1.extBut _ _ D.TOz hTO)
    refine wpAny_bind (wpAny_seqItems t2 rfl (wpAny_bind (wpAny_updateSeq_pair t2 fun g3 t3 s3 => wpAny_bind (wpAny_letGo (wpAny_pure ?_)))))
    replace t3 : IsPair g3 TO u b := t3
    refine wpAny_bind (wpAny_bind (wpAny_onRaise (show wpAny _ _ (Builtin.SmallTypes.nextOf (.ref i2) >>= _) _ _ _ from wpAny_bind (wpAny_nextOf_list_item (((c2.extBut s1.extBut D.i2z).extBut s2.extBut D.i12.symm).extBut s3.extBut D.TOi2.symm)
      (((o2.extBut s1.extBut D.l2z).extBut s2.extBut D.l2i1).extBut s3.extBut D.l2TO) gv fun g4 c4 s4 => wpAny_pure ?_))))
    have t4 : IsPair g4 TO u b := s4.extBut _ _ D.TOi2 t3
    refine wpAny_bind (wpAny_seqItems t4 rfl (wpAny_bind (wpAny_updateSeq_pair t4 fun g5 t5 s5 => wpAny_bind (wpAny_letGo (wpAny_pure (wpAny_pure ?_))))))
    replace t5 : IsPair g5 TO u v := t5
    refine wpAny_bind (wpAny_seqItems t5 rfl (wpAny_bind (wpAny_newTuple ?_)))
    have sz : g5.objs.size = s.heap.objs.size := by rw [s5.1, s4.1, s3.1, s2.1, s1.1]
    have z5 : ZF g5 z TI TO .ellipsis f := s5.extBut _ _ D.TOz.symm (s4.extBut _ _ D.i2z.symm (s3.extBut _ _ D.TOz.symm (s2.extBut _ _ D.i1z.symm z1)))
    have k5 : ∀ c o, c ≠ z → c ≠ TO → c ≠ i1 → c ≠ i2 → s.heap.get? c = some o → g5.get? c = some o := fun c o n1 n2 n3 n4 e => s5.extBut _ _ n2 (s4.extBut _ _ n4 (s3.extBut _ _ n2 (s2.extBut _ _ n3 (s1.extBut _ _ n1 e))))
    have d1 : g5.IsListIter i1 l1 (k + 1) := ((c2'.extBut s3.extBut D.TOi1.symm).extBut s4.extBut D.i12).extBut s5.extBut D.TOi1.symm
    have d2 : g5.IsListIter i2 l2 (k + 1) := c4.extBut s5.extBut D.TOi2.symm
    have lz : z < g5.objs.size := Heap.lt_size z5
    show wpAny _ _ (Builtin.SmallTypes.ownedTupleHandOut (.ref z) (.ref g5.objs.size) >>= _) _ _ _
    refine wpAny_bind ?_
    unfold Builtin.SmallTypes.ownedTupleHandOut
    refine wpAny_bind (wpAny_setField_rec (show ZF (g5.push { cls := .type "tuple", data := .seq #[u, v] }) z TI TO .ellipsis f from Heap.get?_push_of_some _ z5) (by simp) fun g7 z7 s7 => ?_)
    replace z7 : ZF g7 z TI TO (rawInt g5.objs.size) f := z7
    refine wpAny_setField_rec z7 (by simp) fun g8 z8 s8 => ?_
    replace z8 : ZF g8 z TI TO (rawInt g5.objs.size) false := z8
    have up : ∀ c o, c ≠ z → g5.get? c = some o → g8.get? c = some o := fun c o n e => s8.extBut _ _ n (s7.extBut _ _ n (Heap.get?_push_of_some _ e))
    have p8 : IsPair g8 g5.objs.size u v := s8.extBut _ _ (Nat.ne_of_gt lz) (s7.extBut _ _ (Nat.ne_of_gt lz) (Heap.get?_push_size _ rfl))
    have w8 : g8.objs.size = g5.objs.size + 1 := by rw [s8.1, s7.1, Heap.size_push]
    rw [sz] at z8 p8 w8
    refine wpAny_pure ⟨_, rfl, ?_⟩
    show Q (.ref g5.objs.size) _
    rw [sz]
    exact q g8 _ _ u v z8 (.inr ⟨_, rfl⟩) (up _ _ D.TOz t5) (d1.at fun o e => up _ o D.i1z e) (d2.at fun o e => up _ o D.i2z e) p8 w8 fun c o n1 n2 n3 n4 e => up c o n1 (k5 c o n1 n2 n3 n4 e)
  · simp only [Bool.false_eq_true, reduceIte]
    refine wpAny_bind ?_
    rw [← Array.forIn_toList]
    simp only [List.forIn_cons, List.forIn_nil]
    refine wpAny_bind (wpAny_bind (wpAny_holding (show wpAny _ _ (Builtin.SmallTypes.nextOf (.ref i1) >>= _) _ _ _ from wpAny_bind (wpAny_nextOf_list_item (s := { s with heap := g1 }) (c1.extBut s1.extBut D.i1z) (o1.extBut s1.extBut D.l1z) gu fun g2 c2' s2 => wpAny_pure (wpAny_pure ?_)))))
    refine wpAny_bind (wpAny_bind (wpAny_holding (show wpAny _ _ (Builtin.SmallTypes.nextOf (.ref i2) >>= _) _ _ _ from wpAny_bind (wpAny_nextOf_list_item (s := { s with heap := g2 }) ((c2.extBut s1.extBut D.i2z).extBut s2.extBut D.i12.symm) ((o2.extBut s1.extBut D.l2z).extBut s2.extBut D.l2i1) gv fun g3 c3 s3 => wpAny_pure (wpAny_pure (wpAny_pure ?_))))))
    show wpAny _ _ (newTuple [u, v] >>= _) _ _ _
    refine wpAny_bind (wpAny_newTuple (wpAny_pure ⟨_, rfl, ?_⟩))
    have sz : g3.objs.size = s.heap.objs.size := by rw [s3.1, s2.1, s1.1]
    have z3 : ZF g3 z TI TO x true := s3.extBut _ _ D.i2z.symm (s2.extBut _ _ D.i1z.symm z1)
    have k3 : ∀ c o, c ≠ z → c ≠ i1 → c ≠ i2 → s.heap.get? c = some o → g3.get? c = some o := fun c o n1 n2 n3 e => s3.extBut _ _ n3 (s2.extBut _ _ n2 (s1.extBut _ _ n1 e))
    have d1 : g3.IsListIter i1 l1 (k + 1) := c2'.extBut s3.extBut D.i12
    show Q (.ref g3.objs.size) _
    have hp : IsPair (g3.push { cls := .type "tuple", data := .seq #[u, v] }) g3.objs.size u v := Heap.get?_push_size _ rfl
    have w4 : (g3.push { cls := .type "tuple", data := .seq #[u, v] }).objs.size = g3.objs.size + 1 := Heap.size_push ..
    rw [sz] at hp w4 ⊢
    exact q _ x true a b (Heap.get?_push_of_some _ z3) hx (Heap.get?_push_of_some _ (k3 _ _ D.TOz D.TOi1 D.TOi2 hTO)) (d1.at fun o e => Heap.get?_push_of_some _ e) (c3.at fun o e => Heap.get?_push_of_some _ e) hp w4 fun c o n1 _ n3 n4 e => Heap.get?_push_of_some _ (k3 c o n1 n3 n4 e)
theorem nextOf_zipF_item {u v a b : Value} {Q : Value → Shared → Prop} (D : ZipApart z TI TO i1 i2 l1 l2) (hz : ZF s.heap z TI TO x f) (hx : x = .none ∨ ∃ T : Addr, x = rawInt T) (hTI : IsPair s.heap TI (.ref i1) (.ref i2)) (hTO : IsPair s.heap TO a b)
    (c1 : s.heap.IsListIter i1 l1 k) (c2 : s.heap.IsListIter i2 l2 k) (o1 : s.heap.IsList l1 xs) (o2 : s.heap.IsList l2 ys) (gu : xs[k]? = some u) (gv : ys[k]? = some v)
    (q : ∀ h' x' f' a' b', ZF h' z TI TO x' f' → (x' = .none ∨ ∃ T : Addr, x' = rawInt T) → IsPair h' TO a' b' → h'.IsListIter i1 l1 (k + 1) → h'.IsListIter i2 l2 (k + 1) → IsPair h' s.heap.objs.size u v → h'.objs.size = s.heap.objs.size + 1 →
      (∀ c o, c ≠ z → c ≠ TO → c ≠ i1 → c ≠ i2 → s.heap.get? c = some o → h'.get? c = some o) → Q (.ref s.heap.objs.size) { s with heap := h' }) :
    wpAny (model prog w) A (Builtin.SmallTypes.nextOf (.ref z)) Q E s := by
  have ty : s.TypeIs (.ref z) "zip" := ⟨_, hz, rfl⟩
  unfold Builtin.SmallTypes.nextOf
  exact wpAny_bind (wpAny_callSpecial?_slot (name := Str.ofString "__next__") ty F.slot_zip_next (wpAny_call_entry F.slot_zip_next ty F.entry_zip_next
    (zipF_item D hz hx hTI hTO c1 c2 o1 o2 gu gv fun h' x' f' a' b' r1 r2 r3 r4 r5 r6 r7 r8 => wpAny_pure (q h' x' f' a' b' r1 r2 r3 r4 r5 r6 r7 r8)) (F.args_zip_next_1 _)))
end
end IterX
end
section
/-! enumerate over a zip of two lists; zip of a tuple and a list -/
namespace IterX
open PySem PySem.Spec PySem.W PySem.Calls PyProof.Rows
section
variable {prog : Program} {w : World} {A : Around} {E : Value → Shared → Prop} {s : Shared} {z TI TO i1 i2 l1 l2 : Addr} {x : Value} {f : Bool} {k : Nat} {xs ys : Array Value}
theorem zipF_end {a b : Value} {Q : Fin → Shared → Prop} (hh : A.handled = none) (D : ZipApart z TI TO i1 i2 l1 l2) (hz : ZF s.heap z TI TO x f) (hx : x = .none ∨ ∃ T : Addr, x = rawInt T) (hTI : IsPair s.heap TI (.ref i1) (.ref i2)) (hTO : IsPair s.heap TO a b)
    (c1 : s.heap.IsListIter i1 l1 k) (c2 : s.heap.IsListIter i2 l2 k) (o1 : s.heap.IsList l1 xs) (o2 : s.heap.IsList l2 ys) (he : xs[k]? = none ∨ ys[k]? = none)
    (q : ∀ h' e, (∀ c o, c ≠ z → c ≠ TO → c ≠ i1 → c ≠ i2 → s.heap.get? c = some o → h'.get? c = some o) → (∃ o, h'.get? e = some o ∧ o.cls = .type "StopIteration") → E (.ref e) { s with heap := h' }) :
    wpAny (model prog w) A (Builtin.«zip.__next__» ⟨[.ref z], []⟩) Q E s := by
  show wpAny _ _ (field (.ref z) 2 >>= _) _ _ _
  refine wpAny_bind (wpAny_field hz rfl (x := .bool false) rfl (show wpAny _ _ (field (.ref z) 3 >>= _) _ _ _ from wpAny_bind (wpAny_field hz rfl (x := .ref TI) rfl (wpAny_bind (wpAny_seqItems hTI rfl ?_)))))
  show wpAny _ _ (Builtin.SmallTypes.ownedTupleIsFree (.ref z) >>= _) _ _ _
  refine wpAny_bind (free_any hz hx ?_ fun g1 z1 s1 => ?_)
  · simp only [reduceIte]
    refine wpAny_bind (wpAny_rule (wpAny_bind (wpAny_field hz rfl (x := .ref TO) rfl (wpAny_bind (wpAny_setField_rec hz (by simp) fun g1 z1 s1 => ?_)))))
    replace z1 : ZF g1 z TI TO .ellipsis f := z1
    refine wpAny_bind ?_
    simp only [List.zipIdx_cons, List.zipIdx_nil, List.forIn_cons, List.forIn_nil]
    refine wpAny_bind (wpAny_bind (wpAny_onRaise ?_))
    show wpAny _ _ (Builtin.SmallTypes.nextOf (.ref i1) >>= _) _ _ _
    cases hu : xs[k]? with
    | none =>
      refine wpAny_bind (wpAny_nextOf_list_end hh (c1.extBut s1.extBut D.i1z) (o1.extBut s1.extBut D.l1z) hu fun g2 e s2 hs => ?_)
      obtain ⟨oe, hoe, hce⟩ := hs
      have z2 : ZF g2 z TI TO .ellipsis f := s2 _ _ D.i1z.symm z1
      have ez : e ≠ z := fun y => by subst y; rw [z2] at hoe; cases hoe; simp at hce
      exact wpAny_setField_rec z2 (by simp) fun g3 _ s3 => q g3 e (fun c o n1 _ n3 _ y => s3.extBut _ _ n1 (s2 _ _ n3 (s1.extBut _ _ n1 y))) ⟨oe, s3.extBut _ _ ez hoe, hce⟩
    | some u =>
      have hy : ys[k]? = none := by rcases he with h | h; rw [hu] at h; cases h; exact h
      refine wpAny_bind (wpAny_nextOf_list_item (c1.extBut s1.extBut D.i1z) (o1.extBut s1.extBut D.l1z) hu fun g2 c1' s2 => wpAny_pure ?_)
      have t2 : IsPair g2 TO a b := s2.extBut _ _ D.TOi1 (s1.extBut _ _ D.TOz hTO)
      refine wpAny_bind (wpAny_seqItems t2 rfl (wpAny_bind (wpAny_updateSeq_pair t2 fun g3 t3 s3 => wpAny_bind (wpAny_letGo (wpAny_pure ?_)))))
      refine wpAny_bind (wpAny_bind (wpAny_onRaise ?_))
      show wpAny _ _ (Builtin.SmallTypes.nextOf (.ref i2) >>= _) _ _ _
      refine wpAny_bind (wpAny_nextOf_list_end hh (((c2.extBut s1.extBut D.i2z).extBut s2.extBut D.i12.symm).extBut s3.extBut D.TOi2.symm)
        (((o2.extBut s1.extBut D.l2z).extBut s2.extBut D.l2i1).extBut s3.extBut D.l2TO) hy fun g4 e s4 hs => ?_)
      obtain ⟨oe, hoe, hce⟩ := hs
      have z4 : ZF g4 z TI TO .ellipsis f := s4 _ _ D.i2z.symm (s3.extBut _ _ D.TOz.symm (s2.extBut _ _ D.i1z.symm z1))
      have ez : e ≠ z := fun y => by subst y; rw [z4] at hoe; cases hoe; simp at hce
      exact wpAny_setField_rec z4 (by simp) fun g5 _ s5 => q g5 e (fun c o n1 n2 n3 n4 y => s5.extBut _ _ n1 (s4 _ _ n4 (s3.extBut _ _ n2 (s2.extBut _ _ n3 (s1.extBut _ _ n1 y))))) ⟨oe, s5.extBut _ _ ez hoe, hce⟩
  · simp only [Bool.false_eq_true, reduceIte]
    refine wpAny_bind ?_
    rw [← Array.forIn_toList]
    simp only [List.forIn_cons, List.forIn_nil]
    refine wpAny_bind (wpAny_bind (wpAny_holding ?_))
    show wpAny _ _ (Builtin.SmallTypes.nextOf (.ref i1) >>= _) _ _ _
    cases hu : xs[k]? with
    | none =>
      refine wpAny_bind (wpAny_nextOf_list_end (s := { s with heap := g1 }) hh (c1.extBut s1.extBut D.i1z) (o1.extBut s1.extBut D.l1z) hu fun g2 e s2 hs => ?_)
      exact q g2 e (fun c o n1 _ n3 _ y => s2 _ _ n3 (s1.extBut _ _ n1 y)) hs
    | some u =>
      have hy : ys[k]? = none := by rcases he with h | h; rw [hu] at h; cases h; exact h
      refine wpAny_bind (wpAny_nextOf_list_item (s := { s with heap := g1 }) (c1.extBut s1.extBut D.i1z) (o1.extBut s1.extBut D.l1z) hu fun g2 c1' s2 => wpAny_pure ?_)
      refine wpAny_pure ?_
      refine wpAny_bind (wpAny_bind (wpAny_holding ?_))
      show wpAny _ _ (Builtin.SmallTypes.nextOf (.ref i2) >>= _) _ _ _
      refine wpAny_bind (wpAny_nextOf_list_end (s := { s with heap := g2 }) hh ((c2.extBut s1.extBut D.i2z).extBut s2.extBut D.i12.symm) ((o2.extBut s1.extBut D.l2z).extBut s2.extBut D.l2i1) hy fun g3 e s3 hs => ?_)
      exact q g3 e (fun c o n1 _ n3 n4 y => s3 _ _ n4 (s2.extBut _ _ n3 (s1.extBut _ _ n1 y))) hs
theorem nextOf_zipF_end {a b : Value} {Q : Value → Shared → Prop} (hh : A.handled = none) (D : ZipApart z TI TO i1 i2 l1 l2) (hz : ZF s.heap z TI TO x f) (hx : x = .none ∨ ∃ T : Addr, x = rawInt T) (hTI : IsPair s.heap TI (.ref i1) (.ref i2)) (hTO : IsPair s.heap TO a b)
    (c1 : s.heap.IsListIter i1 l1 k) (c2 : s.heap.IsListIter i2 l2 k) (o1 : s.heap.IsList l1 xs) (o2 : s.heap.IsList l2 ys) (he : xs[k]? = none ∨ ys[k]? = none)
    (q : ∀ h' e, (∀ c o, c ≠ z → c ≠ TO → c ≠ i1 → c ≠ i2 → s.heap.get? c = some o → h'.get? c = some o) → (∃ o, h'.get? e = some o ∧ o.cls = .type "StopIteration") → E (.ref e) { s with heap := h' }) :
    wpAny (model prog w) A (Builtin.SmallTypes.nextOf (.ref z)) Q E s := by
  have ty : s.TypeIs (.ref z) "zip" := ⟨_, hz, rfl⟩
  unfold Builtin.SmallTypes.nextOf
  exact wpAny_bind (wpAny_callSpecial?_slot (name := Str.ofString "__next__") ty F.slot_zip_next (wpAny_call_entry F.slot_zip_next ty F.entry_zip_next
    (zipF_end hh D hz hx hTI hTO c1 c2 o1 o2 he q) (F.args_zip_next_1 _)))
/-- all that an enumerate over a zip stands on, but the lists -/
structure EZ (h : Heap) (e z TI TO i1 i2 l1 l2 : Addr) (k : Nat) : Prop where
  en : ∃ old, IsEnum h e z (k : Nat) old
  zp : ∃ x f, ZF h z TI TO x f ∧ (x = .none ∨ ∃ T : Addr, x = rawInt T)
  ti : IsPair h TI (.ref i1) (.ref i2)
  to : ∃ a b, IsPair h TO a b
  c1 : h.IsListIter i1 l1 k
  c2 : h.IsListIter i2 l2 k
theorem EZ.at {h h' : Heap} {e : Addr} (S : EZ h e z TI TO i1 i2 l1 l2 k) (q : ∀ b ∈ [e, z, TI, TO, i1, i2], ∀ o, h.get? b = some o → h'.get? b = some o) : EZ h' e z TI TO i1 i2 l1 l2 k := by
  obtain ⟨⟨o, a⟩, ⟨x, f, b, hx⟩, c, ⟨u, v, d⟩, g, j⟩ := S
  exact ⟨⟨o, q _ (by simp) _ a⟩, ⟨x, f, q _ (by simp) _ b, hx⟩, q _ (by simp) _ c, ⟨u, v, q _ (by simp) _ d⟩, g.at fun o y => q _ (by simp) o y, j.at fun o y => q _ (by simp) o y⟩
/-- e lies apart from the zip's own things -/
structure EApart (e z TI TO i1 i2 l1 l2 : Addr) : Prop where
  z : e ≠ z
  TI : e ≠ TI
  TO : e ≠ TO
  i1 : e ≠ i1
  i2 : e ≠ i2
theorem enumZ_item {e : Addr} {u v : Value} {Q : Option Value → Shared → Prop} (D : ZipApart z TI TO i1 i2 l1 l2) (N : EApart e z TI TO i1 i2 l1 l2) (S : EZ s.heap e z TI TO i1 i2 l1 l2 k)
    (o1 : s.heap.IsList l1 xs) (o2 : s.heap.IsList l2 ys) (gu : xs[k]? = some u) (gv : ys[k]? = some v)
    (q : ∀ h1 h' tk, IsPair h1 s.heap.objs.size u v → h1.objs.size = s.heap.objs.size + 1 → (∀ c o, c ≠ z → c ≠ TO → c ≠ i1 → c ≠ i2 → s.heap.get? c = some o → h1.get? c = some o) →
      IsEnumOut h' e z ((k : Int) + 1) (.ref s.heap.objs.size) (s.heap.objs.size + 1) → (∀ h2, (∀ c o, c ≠ e → h'.get? c = some o → h2.get? c = some o) → (∃ old, IsEnum h2 e z ((k : Int) + 1) old) → EZ h2 e z TI TO i1 i2 l1 l2 (k + 1)) →
      IsPair h' (s.heap.objs.size + 1) (.int (k : Nat) tk) (.ref s.heap.objs.size) → h'.objs.size = s.heap.objs.size + 2 →
      (∀ c o, c ≠ e → h1.get? c = some o → h'.get? c = some o) → Q (some (.ref (s.heap.objs.size + 1))) { s with heap := h', toks := tk + 1 }) :
    wpAny (model prog w) A (pyNext (.ref e)) Q E s := by
  obtain ⟨⟨old, he⟩, ⟨x, f, hz, hx⟩, hTI, ⟨a, b, hTO⟩, c1, c2⟩ := S
  have hT : s.TypeIs (.ref e) "enumerate" := ⟨_, he, rfl⟩
  unfold pyNext
  refine wpAny_bind (wpAny_attempt (wpAny_callSpecial?_slot (name := Str.ofString "__next__") hT F.slot_enumerate_next
    (wpAny_call_entry F.slot_enumerate_next hT F.entry_enumerate_next ?_ (F.args_enumerate_next_1 _))))
  obtain ⟨hp, g, d, tk₀, os⟩ := s
  show wpAny _ _ (field (.ref e) 2 >>= _) _ _ _
  refine wpAny_bind (wpAny_field he rfl (x := .ref z) rfl ?_)
  refine wpAny_bind (nextOf_zipF_item D hz hx hTI hTO c1 c2 o1 o2 gu gv fun h₁ x1 f1 a1 b1 z1 hx1 t1 c11 c21 p1 w1 k1 => ?_)
  have he₁ : IsEnum h₁ e z k old := k1 _ _ N.z N.TO N.i1 N.i2 he
  have hTI₁ : IsPair h₁ TI (.ref i1) (.ref i2) := k1 _ _ D.TIz D.TITO D.TIi1 D.TIi2 hTI
  show wpAny _ _ (field (.ref e) 3 >>= _) _ _ ⟨h₁, g, d, tk₀, os⟩
  refine wpAny_bind (wpAny_field he₁ rfl (x := rawInt k) rfl ?_)
  show wpAny _ _ (field (.ref e) 4 >>= _) _ _ ⟨h₁, g, d, tk₀, os⟩
  refine wpAny_bind (wpAny_field he₁ rfl (x := .none) rfl ?_)
  show wpAny _ _ (mkInt k >>= _) _ _ ⟨h₁, g, d, tk₀, os⟩
  refine wpAny_bind (wpAny_mkInt ?_)
  show wpAny _ _ (setField (.ref e) 3 (rawInt ((k : Int) + 1)) >>= _) _ _ ⟨h₁, g, d, tk₀ + 1, os⟩
  refine wpAny_bind (wpAny_setField_rec he₁ (by simp) fun h₂ he₂ hs₂ => ?_)
  replace hs₂ : Heap.SameBut e h₁ h₂ := hs₂
  replace he₂ : IsEnum h₂ e z ((k : Int) + 1) old := he₂
  show wpAny _ _ (setField (.ref e) 4 .none >>= _) _ _ ⟨h₂, g, d, tk₀ + 1, os⟩
  refine wpAny_bind (wpAny_setField_rec he₂ (by simp) fun h₃ he₃ hs₃ => ?_)
  replace hs₃ : Heap.SameBut e h₂ h₃ := hs₃
  replace he₃ : IsEnum h₃ e z ((k : Int) + 1) old := he₃
  show wpAny _ _ (newTuple [.int k tk₀, .ref hp.objs.size] >>= _) _ _ ⟨h₃, g, d, tk₀ + 1, os⟩
  refine wpAny_bind (wpAny_newTuple ?_)
  have he₄ : IsEnum (h₃.push { cls := .type "tuple", data := .seq #[.int k tk₀, .ref hp.objs.size] }) e z ((k : Int) + 1) old := Heap.get?_push_of_some _ he₃
  generalize hh₄ : h₃.push { cls := .type "tuple", data := .seq #[.int k tk₀, .ref hp.objs.size] } = h₄ at he₄
  replace w1 : h₁.objs.size = hp.objs.size + 1 := w1
  have hsz : h₃.objs.size = hp.objs.size + 1 := by rw [hs₃.1, hs₂.1, w1]
  have hel : e < hp.objs.size := Heap.lt_size he
  have hel' : e ≠ hp.objs.size + 1 := Nat.ne_of_lt (Nat.lt_succ_of_lt hel)
  have ht₄ : h₄.get? (hp.objs.size + 1) = some { cls := .type "tuple", data := .seq #[.int k tk₀, .ref hp.objs.size] } := by rw [← hh₄, ← hsz]; exact Heap.get?_push_size _ rfl
  have hz₄ : h₄.objs.size = hp.objs.size + 2 := by rw [← hh₄, Heap.size_push, hsz]
  have hk₄ : ∀ b o, b ≠ e → h₁.get? b = some o → h₄.get? b = some o := fun b o hbe hb => by
    rw [← hh₄]; exact Heap.get?_push_of_some _ (hs₃.extBut b o hbe (hs₂.extBut b o hbe hb))
  show wpAny _ _ (Builtin.SmallTypes.ownedTupleIsFree (.ref e) >>= _) _ _ ⟨h₄, g, d, tk₀ + 1, os⟩
  rw [hsz]
  clear hh₄ he₃ hs₃ he₂ hs₂ he₁ hsz h₃ h₂
  refine wpAny_bind ?_
  · unfold Builtin.SmallTypes.ownedTupleIsFree
    refine wpAny_bind (wpAny_field he₄ rfl (x := .none) rfl (wpAny_pure ?_))
    simp only [if_true]
    refine wpAny_bind (wpAny_rule ?_)
    refine wpAny_bind (wpAny_field he₄ rfl (x := old) rfl ?_)
    refine wpAny_bind (wpAny_setField_rec he₄ (by simp) fun h₅ he₅ hs₅ => ?_)
    replace hs₅ : Heap.SameBut e h₄ h₅ := hs₅
    replace he₅ : IsEnum h₅ e z ((k : Int) + 1) (.ref hp.objs.size) := he₅
    show wpAny _ _ (Builtin.SmallTypes.ownedTupleHandOut (.ref e) (.ref (hp.objs.size + 1)) >>= _) _ _ ⟨h₅, g, d, tk₀ + 1, os⟩
    refine wpAny_bind ?_
    · unfold Builtin.SmallTypes.ownedTupleHandOut
      refine wpAny_bind (wpAny_setField_rec he₅ (by simp) fun h₆ he₆ hs₆ => ?_)
      replace hs₆ : Heap.SameBut e h₅ h₆ := hs₆
      replace he₆ : IsEnumOut h₆ e z ((k : Int) + 1) (.ref hp.objs.size) (hp.objs.size + 1) := he₆
      refine wpAny_setField_rec he₆ (by simp) fun h₇ he₇ hs₇ => ?_
      replace hs₇ : Heap.SameBut e h₆ h₇ := hs₇
      replace he₇ : IsEnumOut h₇ e z ((k : Int) + 1) (.ref hp.objs.size) (hp.objs.size + 1) := he₇
      have k7 : ∀ c o, c ≠ e → h₁.get? c = some o → h₇.get? c = some o := fun c o n y => hs₇.extBut _ _ n (hs₆.extBut _ _ n (hs₅.extBut _ _ n (hk₄ _ _ n y)))
      refine wpAny_bind (wpAny_letGo (wpAny_pure ⟨_, rfl, wpAny_pure (q h₁ h₇ tk₀ p1 w1 k1 he₇ (fun h2 y en => ?_) ?_ ?_ k7)⟩))
      · have ky : ∀ c o, c ≠ e → h₁.get? c = some o → h2.get? c = some o := fun c o n r => y c o n (k7 c o n r)
        exact ⟨en, ⟨x1, f1, ky _ _ N.z.symm z1, hx1⟩, ky _ _ N.TI.symm hTI₁, ⟨a1, b1, ky _ _ N.TO.symm t1⟩, c11.at fun o r => ky _ o N.i1.symm r, c21.at fun o r => ky _ o N.i2.symm r⟩
      · exact hs₇.extBut _ _ (Ne.symm hel') (hs₆.extBut _ _ (Ne.symm hel') (hs₅.extBut _ _ (Ne.symm hel') ht₄))
      · rw [hs₇.1, hs₆.1, hs₅.1, hz₄]
theorem enumZ_end {e : Addr} {Q : Option Value → Shared → Prop} (hh : A.handled = none) (D : ZipApart z TI TO i1 i2 l1 l2) (S : EZ s.heap e z TI TO i1 i2 l1 l2 k)
    (o1 : s.heap.IsList l1 xs) (o2 : s.heap.IsList l2 ys) (he : xs[k]? = none ∨ ys[k]? = none)
    (q : ∀ h', (∀ c o, c ≠ z → c ≠ TO → c ≠ i1 → c ≠ i2 → s.heap.get? c = some o → h'.get? c = some o) → Q none { s with heap := h' }) :
    wpAny (model prog w) A (pyNext (.ref e)) Q E s := by
  obtain ⟨⟨old, hen⟩, ⟨x, f, hz, hx⟩, hTI, ⟨a, b, hTO⟩, c1, c2⟩ := S
  have hT : s.TypeIs (.ref e) "enumerate" := ⟨_, hen, rfl⟩
  unfold pyNext
  refine wpAny_bind (wpAny_attempt (wpAny_callSpecial?_slot (name := Str.ofString "__next__") hT F.slot_enumerate_next
    (wpAny_call_entry F.slot_enumerate_next hT F.entry_enumerate_next ?_ (F.args_enumerate_next_1 _))))
  show wpAny _ _ (field (.ref e) 2 >>= _) _ _ _
  refine wpAny_bind (wpAny_field hen rfl (x := .ref z) rfl ?_)
  refine wpAny_bind (nextOf_zipF_end hh D hz hx hTI hTO c1 c2 o1 o2 he fun h' y hk hs => ?_)
  obtain ⟨o, ho, hc⟩ := hs
  refine wpAny_bind (wpAny_isInstance (T := "StopIteration") (b := true) ⟨o, ho, hc⟩ isSubtype_stop ?_)
  exact wpAny_pure (q _ hk)
end
set_option maxHeartbeats 1000000 in
theorem meets_enumerate_newZ (z TI TO : Addr) (x : Value) (f : Bool) :
    Meets (Builtin.«enumerate.__new__» ⟨[.type "enumerate", .ref z], []⟩) (fun _ R s => ZF s.heap z TI TO x f ∧
      R (.ok (.ret (.ref s.heap.objs.size))) { s with heap := s.heap.push { cls := .type "enumerate", data := .fields #[.none, .bool false, .ref z, rawInt 0, .none, .none] } }) :=
  .of_wp fun prog w A R s h => by
    obtain ⟨hp, g, d, tk, os⟩ := s; obtain ⟨h1, h⟩ := h
    have hsub := sub_enumerate
    have q1 : ∀ {A' : Around} {E : Value → Shared → Prop} {Q : Value → Shared → Prop}, Q (.ref z) ⟨hp, g, d, tk, os⟩ → wpAny (model prog w) A' (pyIter (.ref z)) Q E ⟨hp, g, d, tk, os⟩ := fun q => by
      have ty : Shared.TypeIs ⟨hp, g, d, tk, os⟩ (.ref z) "zip" := ⟨_, h1, rfl⟩
      refine wpAny_pyIter_slot ty F.slot_zip_iter (wpAny_call_entry F.slot_zip_iter ty F.entry_zip_iter ?_ (F.args_zip_iter_1 _))
      show wpAny _ _ (ret (.ref z)) _ _ _
      exact wpAny_pure ⟨_, rfl, "zip", _, ty, F.slot_zip_next.lookup, q⟩
    wp_walk using wpAny_loadPart' h1, q1
    refine wpAny_stack_any fun st => wpAny_pure ?_
    split
    · rename_i c _ _ _ _ _
      cases (c == Value.type "enumerate")
      · wp_walk using wpAny_loadPart' h1, q1
        exact ⟨_, rfl, h⟩
      · wp_walk using wpAny_loadPart' h1, q1
        exact ⟨_, rfl, h⟩
    · wp_walk using wpAny_loadPart' h1, q1
      exact ⟨_, rfl, h⟩
section
variable {prog : Program} {w : World} {A : Around} {E : Value → Shared → Prop} {s : Shared}
theorem enumZ_begins {z TI TO : Addr} {x : Value} {f : Bool} {Q : Value → Shared → Prop} (hz : ZF s.heap z TI TO x f)
    (h : ∀ h', IsEnum h' s.heap.objs.size z 0 .none → h'.objs.size = s.heap.objs.size + 1 → (∀ b o, s.heap.get? b = some o → h'.get? b = some o) → Q (.ref s.heap.objs.size) { s with heap := h' }) :
    wpAny (model prog w) A (call (.type "enumerate") [.ref z]) Q E s := by
  refine callType_new F.called_enumerate (by decide) (F.typeCall_enumerate_1 _) (F.newCall_enumerate_1 _) (fun obj => F.args_object_init_2 obj _) F.entry_enumerate_new
    (meets_enumerate_newZ z TI TO x f) ⟨hz, ?_⟩
  have he : IsEnum (s.heap.push { cls := .type "enumerate", data := .fields #[.none, .bool false, .ref z, rawInt 0, .none, .none] }) s.heap.objs.size z 0 .none := Heap.get?_push_size _ rfl
  exact ⟨⟨_, he, rfl⟩, h _ he (Heap.size_push ..) fun b o y => Heap.get?_push_of_some _ y⟩
end
end IterX
end
section
/-! for number, (due, told) in enumerate(zip(xs, ys)); for multiple, told in zip(TUPLE, xs) -/
namespace L2
open PySem PySem.Spec PySem.W PySem.Calls PyProof.Rows IterX
/-- the lists at a and b as they stand at each turn, the items in new pairs, each in a new pair with its number -/
def ItEz (K : PySem.W.Frag) (a b : Addr) : It :=
  ⟨fun i H => ∃ (xs ys : List V) (x y : V), SqL K H a xs ∧ SqL K H b ys ∧ xs[i]? = some x ∧ ys[i]? = some y,
    fun i H v H' => ∃ T1 T2 x y, v = .ref T2 ∧ H T1 = none ∧ upd H T1 (.tup [x, y]) T2 = none ∧ H' = upd (upd H T1 (.tup [x, y])) T2 (.tup [.int (i : Nat), .ref T1]) ∧ (∀ xs, SqL K H a xs → xs[i]? = some x) ∧ ∀ ys, SqL K H b ys → ys[i]? = some y,
    fun i H => ∃ xs ys : List V, SqL K H a xs ∧ SqL K H b ys ∧ (xs.length ≤ i ∨ ys.length ≤ i)⟩
theorem turn_enumZ {P : Program} {w : World} {K : PySem.W.Frag} {elts : List Expr} {kk : Nat} {tpos : Pos} {a b e z TI TO i1 i2 : Addr} (D : ZipApart z TI TO i1 i2 a b) (N : EApart e z TI TO i1 i2 a b) :
    Turn P w K (.Tuple elts kk tpos) (ItEz K a b) [e, z, TI, TO, i1, i2] e (fun i h => EZ h e z TI TO i1 i2 a b i) where
  mem := by simp
  obj := fun i h st c hc => by
    obtain ⟨⟨o, ha⟩, ⟨x, f, hz, hx⟩, hTI, ⟨u, v, hTO⟩, ⟨o1, e1, _, d1⟩, ⟨o2, e2, _, d2⟩⟩ := st
    have e' : c = e ∨ c = z ∨ c = TI ∨ c = TO ∨ c = i1 ∨ c = i2 := by simpa using hc
    rcases e' with q | q | q | q | q | q
    · rw [q]; exact ⟨_, ha, fun v q => nomatch q⟩
    · rw [q]; exact ⟨_, hz, fun v q => nomatch q⟩
    · rw [q]; exact ⟨_, hTI, fun v q => nomatch q⟩
    · rw [q]; exact ⟨_, hTO, fun v q => nomatch q⟩
    · rw [q]; exact ⟨o1, e1, fun v q => by rw [d1] at q; cases q⟩
    · rw [q]; exact ⟨o2, e2, fun v q => by rw [d2] at q; cases q⟩
  keep := fun i h h' st k => st.at k
  item := by
    intro X hP hw hK hc i pins s σ H E I hf st hg
    subst hP hw hK
    obtain ⟨xs, ys, x, y, hqx, hqy, hx, hy⟩ := hg
    obtain ⟨its, rv, p, _⟩ := I.list hqx
    obtain ⟨its2, rv2, p2, _⟩ := I.list hqy
    obtain ⟨u, hu, ru⟩ := rv.get hx
    obtain ⟨u2, hu2, ru2⟩ := rv2.get hy
    have hel : e < s.heap.objs.size := by obtain ⟨_, q⟩ := st.en; exact Heap.lt_size q
    have hlt : ∀ c ∈ [e, z, TI, TO, i1, i2], c < s.heap.objs.size := fun c hcm => by
      obtain ⟨⟨o, ha⟩, ⟨x, f, hz, hx⟩, hTI, ⟨u, v, hTO⟩, ⟨o1, e1, _, d1⟩, ⟨o2, e2, _, d2⟩⟩ := id st
      have e' : c = e ∨ c = z ∨ c = TI ∨ c = TO ∨ c = i1 ∨ c = i2 := by simpa using hcm
      rcases e' with q | q | q | q | q | q
      · rw [q]; exact hel
      · rw [q]; exact Heap.lt_size hz
      · rw [q]; exact Heap.lt_size hTI
      · rw [q]; exact Heap.lt_size hTO
      · rw [q]; exact Heap.lt_size e1
      · rw [q]; exact Heap.lt_size e2
    refine enumZ_item D N st p.isList p2.isList (u := u) (v := u2) (by simpa using hu) (by simpa using hu2) fun h1 h' tk t1 w1 k1 eo st' t2 w2 k2 => ?_
    refine ⟨_, rfl, wpAny_letOwnedTupleGo_enum (s := { s with heap := h', toks := tk + 1 }) eo fun h'' he' sb => ?_⟩
    have new1 : ObjOk X.prog X.w (upd H s.heap.objs.size (.tup [x, y])) h1 s.heap.objs.size (.tup [x, y]) :=
      ⟨by show 2 ≤ sizeLine; decide, [u, u2], .cons ru (.cons ru2 .nil), ⟨_, t1, rfl, _, rfl⟩⟩
    have I1 : Inv X pins σ (upd H s.heap.objs.size (.tup [x, y])) { s with heap := h1 } :=
      I.turnedNew (t' := s.toks) (ch := [e, z, TI, TO, i1, i2]) (fun c o hb q => k1 c o (fun q' => hb (by simp [q'])) (fun q' => hb (by simp [q'])) (fun q' => hb (by simp [q'])) (fun q' => hb (by simp [q'])) q) hf (Nat.le_refl _) new1
    have hn1 : upd H s.heap.objs.size (.tup [x, y]) (s.heap.objs.size + 1) = none := by
      rw [upd_ne (Nat.succ_ne_self _)]
      exact I.hok.fresh (Nat.le_succ _)
    have kk : ∀ c o, c ≠ e → h1.get? c = some o → h''.get? c = some o := fun c o n q => (sb.2 c n).trans (k2 c o n q)
    have t3 : h''.get? (s.heap.objs.size + 1) = some { cls := .type "tuple", data := .seq #[.int (i : Nat) tk, .ref s.heap.objs.size] } := (sb.2 _ (Nat.ne_of_gt (Nat.lt_succ_of_lt hel))).trans t2
    have new2 : ObjOk X.prog X.w (upd (upd H s.heap.objs.size (.tup [x, y])) (s.heap.objs.size + 1) (.tup [.int (i : Nat), .ref s.heap.objs.size])) h'' (s.heap.objs.size + 1) (.tup [.int (i : Nat), .ref s.heap.objs.size]) :=
      ⟨by show 2 ≤ sizeLine; decide, [.int (i : Nat) tk, .ref s.heap.objs.size], .cons ⟨_, rfl⟩ (.cons rfl .nil), ⟨_, t3, rfl, _, rfl⟩⟩
    have hf1 : ∀ c ∈ [e], FpOk X pins (upd H s.heap.objs.size (.tup [x, y])) c := fun c hc => by
      have q : c = e := by simpa using hc
      subst q
      obtain ⟨f0, f1⟩ := hf c (by simp)
      exact ⟨by rw [upd_ne (Nat.ne_of_lt hel)]; exact f0, f1⟩
    have I2 : Inv X pins σ (upd (upd H s.heap.objs.size (.tup [x, y])) (s.heap.objs.size + 1) (.tup [.int (i : Nat), .ref s.heap.objs.size])) { s with heap := h'', toks := tk + 1 } :=
      I1.turnedNew (t' := tk + 1) (ch := [e]) (fun c o hb q => kk c o (fun q' => hb (by simp [q'])) q) hf1 (show h1.objs.size ≤ s.heap.objs.size + 1 from Nat.le_of_eq w1) new2
    refine ⟨.ref (s.heap.objs.size + 1), _, I2, rfl, ⟨_, _, x, y, rfl, I.hok.fresh (Nat.le_refl _), hn1, rfl, fun l hl => by rw [I.list_inj hl hqx]; exact hx, fun l hl => by rw [I.list_inj hl hqy]; exact hy⟩, st' h'' (fun c o n q => (sb.2 c n).trans q) ⟨_, he'⟩, fun c hcm => ?_⟩
    have q := hlt c hcm
    rw [upd_ne (Nat.ne_of_lt (Nat.lt_succ_of_lt q)), upd_ne (Nat.ne_of_lt q)]
    exact (hf c hcm).1
  done := by
    intro X hP hw hK hc i pins s σ H E I hf st hg
    subst hP hw hK
    obtain ⟨xs, ys, hqx, hqy, hend⟩ := hg
    obtain ⟨its, rv, p, _⟩ := I.list hqx
    obtain ⟨its2, rv2, p2, _⟩ := I.list hqy
    have l1 := rv.length
    have l2 := rv2.length
    have he : its.toArray[i]? = none ∨ its2.toArray[i]? = none := by
      rcases hend with q | q
      · exact .inl (by simp; omega)
      · exact .inr (by simp; omega)
    exact enumZ_end (I.ok.hd hc) D st p.isList p2.isList he fun h' hk => ⟨rfl, I.turnedL (t' := s.toks) (ch := [e, z, TI, TO, i1, i2]) (fun c o hb q =>
      hk c o (fun q' => hb (by simp [q'])) (fun q' => hb (by simp [q'])) (fun q' => hb (by simp [q'])) (fun q' => hb (by simp [q'])) q) hf⟩
  self := fun A i s Q E st h => let ⟨_, he⟩ := st.en; wpAny_pyIter_enum he h
def iEnumZ (K : PySem.W.Frag) (ta : TA) : TI := fun σ H R => ta σ H fun vs H1 => ∃ a b xs ys, vs = [.ref a, .ref b] ∧ SqL K H1 a xs ∧ SqL K H1 b ys ∧ R (ItEz K a b) H1
theorem pi_enumZ {X : Cx} {e e2 : Expr} {ta : TA} {p p2 pos pos2 tpos : Pos} {elts : List Expr} {kk : Nat} (hg : Gl X "enumerate") (hm : X.mg "enumerate" = none) (hg2 : Gl X "zip") (hm2 : X.mg "zip" = none) (ha : PA X [e, e2] ta)
    (hs : starEach [e, e2] X.env = (false, eval e X.env) :: starEach [e2] X.env := by rfl) (hpl : (backTo pos2 (starEach [e2] X.env)).any (·.1) = false := by rfl)
    (hs2 : starEach [.Call (.Name "zip" p2) [e, e2] [] pos2] X.env = [(false, eval (.Call (.Name "zip" p2) [e, e2] [] pos2) X.env)] := by rfl) :
    PI X (.Tuple elts kk tpos) (.Call (.Name "enumerate" p) [.Call (.Name "zip" p2) [e, e2] [] pos2] [] pos) (iEnumZ X.K ta) := by
  refine ⟨fun pins s σ H R I h => ?_⟩
  refine Call_ (ld_blt I hg hm boot_enumerate (PyProof.Rows.callWith_type1 ?_ hs2 rfl))
  rw [hs2]
  refine Calls.spliced_cons (thn (Q := fun (v : Value) (s1 : Shared) => ∃ (z a b : Addr) (H1 : Hp) (N : Nat), v = .ref z ∧ Inv X pins σ H1 s1 ∧ R (ItEz X.K a b) H1 ∧ a < N ∧ b < N ∧ z = N + 4 ∧ s1.heap.objs.size = N + 5 ∧
    IsZip s1.heap z (N + 2) (N + 3) .none ∧ IsPair s1.heap (N + 2) (.ref N) (.ref (N + 1)) ∧ IsPair s1.heap (N + 3) .none .none ∧ s1.heap.IsListIter N a 0 ∧ s1.heap.IsListIter (N + 1) b 0 ∧ ∀ c, N ≤ c → FpOk X pins H1 c) ?_ ?_)
  · refine Call_ (ld_blt I hg2 hm2 PyProof.Rows.boot_zip (PyProof.Rows.callWith_type1 (thn (ha.run pos2 pins s σ H _ I h) fun us s1 ⟨vs, H1, I1, r1, q1⟩ => ?_) hs hpl))
    obtain ⟨a, b, xs, ys, ex, hqx, hqy, q⟩ := q1
    subst ex
    cases r1 with
    | cons r rr =>
      cases rr with
      | cons r' rr =>
        cases rr
        cases r
        cases r'
        obtain ⟨its, rv, p1, _⟩ := I1.list hqx
        obtain ⟨its2, rv2, p2, _⟩ := I1.list hqy
        refine call_zip_2 p1.isList p2.isList fun h' hz hTI hTO h1 h2 hsz hk => ?_
        exact ⟨_, a, b, H1, s1.heap.objs.size, rfl, I1.kept (t' := s1.toks) hk, q, p1.lt, p2.lt, rfl, hsz, hz, hTI, hTO, h1, h2, fun c hc => I1.fpOk hc (I1.hok.fresh hc)⟩
  · rintro v s1 ⟨z, a, b, H1, N, rfl, I1, q, la, lb, rfl, sz, hz, hTI, hTO, h1, h2, fo⟩
    refine Calls.spliced_nil ?_
    refine enumZ_begins hz fun h' he hsz hk => wpAny_pyIter_enum he ?_
    have I2 : Inv X pins σ H1 { s1 with heap := h' } := I1.kept (t' := s1.toks) hk
    rw [sz] at he hsz ⊢
    refine ⟨N + 5, [N + 5, N + 4, N + 2, N + 3, N, N + 1], _, _, H1, rfl, I2, turn_enumZ (PySem.W.ktu_apart N a b la lb) ⟨show (N + 5 : Nat) ≠ N + 4 by omega, show (N + 5 : Nat) ≠ N + 2 by omega, show (N + 5 : Nat) ≠ N + 3 by omega, show (N + 5 : Nat) ≠ N by omega, show (N + 5 : Nat) ≠ N + 1 by omega⟩,
      ⟨⟨_, he⟩, ⟨_, _, hk _ _ hz, .inl rfl⟩, hk _ _ hTI, ⟨_, _, hk _ _ hTO⟩, h1.at fun o q => hk _ o q, h2.at fun o q => hk _ o q⟩, fun c hcm => fo c ?_, q⟩
    have e' : c = N + 5 ∨ c = N + 4 ∨ c = N + 2 ∨ c = N + 3 ∨ c = N ∨ c = N + 1 := by simpa using hcm
    rcases e' with z | z | z | z | z | z
    · rw [z]; exact Nat.le_add_right _ _
    · rw [z]; exact Nat.le_add_right _ _
    · rw [z]; exact Nat.le_add_right _ _
    · rw [z]; exact Nat.le_add_right _ _
    · rw [z]; exact Nat.le_refl _
    · rw [z]; exact Nat.le_add_right _ _
/-! zip of a tuple and a list -/
def ItzX (K : PySem.W.Frag) (a b : Addr) : It :=
  ⟨fun i H => ∃ (xs ys : List V) (x y : V), SqT K H a xs ∧ SqL K H b ys ∧ xs[i]? = some x ∧ ys[i]? = some y,
    fun i H v H' => ∃ T x y, v = .ref T ∧ H T = none ∧ H' = upd H T (.tup [x, y]) ∧ (∀ xs, SqT K H a xs → xs[i]? = some x) ∧ ∀ ys, SqL K H b ys → ys[i]? = some y,
    fun i H => ∃ xs ys : List V, SqT K H a xs ∧ SqL K H b ys ∧ i = min xs.length ys.length⟩
theorem turn_zipX {P : Program} {w : World} {K : PySem.W.Frag} {elts : List Expr} {kk : Nat} {tpos : Pos} {a b z TI TO i1 i2 : Addr} (D : ZipSep2 z TI TO i1 i2 [i1, a] [i2, b]) (ne1 : a ≠ i1) (ne2 : b ≠ i2) :
    Turn P w K (.Tuple elts kk tpos) (ItzX K a b) [z, TI, TO, i1, i2] z (fun i h => IsZip h z TI TO .none ∧ IsPair h TI (.ref i1) (.ref i2) ∧ (∃ x y, IsPair h TO x y) ∧ h.IsTupleIter i1 a i ∧ h.IsListIter i2 b i) where
  mem := by simp
  obj := fun i h st c hc => by
    obtain ⟨hz, hTI, ⟨x, y, hTO⟩, ⟨o1, e1, _, d1⟩, ⟨o2, e2, _, d2⟩⟩ := st
    have e' : c = z ∨ c = TI ∨ c = TO ∨ c = i1 ∨ c = i2 := by simpa using hc
    rcases e' with q | q | q | q | q
    · rw [q]; exact ⟨_, hz, fun v q => nomatch q⟩
    · rw [q]; exact ⟨_, hTI, fun v q => nomatch q⟩
    · rw [q]; exact ⟨_, hTO, fun v q => nomatch q⟩
    · rw [q]; exact ⟨o1, e1, fun v q => by rw [d1] at q; cases q⟩
    · rw [q]; exact ⟨o2, e2, fun v q => by rw [d2] at q; cases q⟩
  keep := fun i h h' st k => by
    obtain ⟨hz, hTI, ⟨x, y, hTO⟩, h1, h2⟩ := st
    exact ⟨k z (by simp) _ hz, k TI (by simp) _ hTI, ⟨x, y, k TO (by simp) _ hTO⟩, h1.at fun o q => k i1 (by simp) o q, h2.at fun o q => k i2 (by simp) o q⟩
  item := by
    intro X hP hw hK hc i pins s σ H E I hf st hg
    subst hP hw hK
    obtain ⟨hz, hTI, ⟨x0, y0, hTO⟩, h1, h2⟩ := st
    obtain ⟨xs, ys, x, y, hqx, hqy, hx, hy⟩ := hg
    obtain ⟨its, rv, p, _⟩ := I.tuple hqx
    obtain ⟨its2, rv2, p2, _⟩ := I.list hqy
    obtain ⟨u, hu, ru⟩ := rv.get hx
    obtain ⟨u2, hu2, ru2⟩ := rv2.get hy
    have hzl : z < s.heap.objs.size := Heap.lt_size hz
    have hu' : its.toArray[i]? = some u := by simpa using hu
    have hu2' : its2.toArray[i]? = some u2 := by simpa using hu2
    have lt1 : i < its.toArray.size := (Array.getElem?_eq_some_iff.mp hu').1
    have lt2 : i < its2.toArray.size := (Array.getElem?_eq_some_iff.mp hu2').1
    have hh : X.A.in1.handled = none := I.ok.hd hc
    refine wpAny_pyNext_zipD2_item D (Draws.tuple hh i1 a ne1 its.toArray) (Draws.list hh i2 b ne2 its2.toArray) hz hTI hTO ⟨h1, show s.heap.IsTuple a its.toArray from p⟩ ⟨h2, p2.isList⟩ lt1 lt2 fun x1 x2 h' tk g1 g2 z' TO' st1 st2 hT hsz hk => ?_
    rw [hu'] at g1
    rw [hu2'] at g2
    obtain rfl := Option.some.inj g1
    obtain rfl := Option.some.inj g2
    refine ⟨_, rfl, wpAny_letOwnedTupleGo_zip (s := { s with heap := h', toks := tk }) z' fun h'' z'' sb => ?_⟩
    have hT2 : h''.get? s.heap.objs.size = some { cls := .type "tuple", data := .seq #[u, u2] } := (sb.2 _ (Nat.ne_of_gt hzl)).trans hT
    have new : ObjOk X.prog X.w (upd H s.heap.objs.size (.tup [x, y])) h'' s.heap.objs.size (.tup [x, y]) :=
      ⟨by show 2 ≤ sizeLine; decide, [u, u2], .cons ru (.cons ru2 .nil), ⟨_, hT2, rfl, _, rfl⟩⟩
    have I1 : Inv X pins σ (upd H s.heap.objs.size (.tup [x, y])) { s with heap := h'', toks := tk } :=
      I.turnedNew (t' := tk) (ch := [z, TI, TO, i1, i2]) (fun c o hb q => (sb.2 c (fun q' => hb (by simp [q']))).trans (hk c o (fun q' => hb (by simp [q'])) (fun q' => hb (by simp [q'])) (fun q' => hb (by simp [q'])) (fun q' => hb (by simp [q'])) q)) hf (Nat.le_refl _) new
    refine ⟨.ref s.heap.objs.size, _, I1, rfl, ⟨_, x, y, rfl, I.hok.fresh (Nat.le_refl _), rfl, fun l hl => by rw [I.tuple_inj hl hqx]; exact hx, fun l hl => by rw [I.list_inj hl hqy]; exact hy⟩, ⟨z'', ?_, ⟨u, u2, ?_⟩, ?_, ?_⟩, fun c hcm => ?_⟩
    · exact (sb.2 _ D.TIz).trans (hk _ _ D.TIz D.TITO D.TIi1 D.TIi2 hTI)
    · exact (sb.2 _ D.TOz).trans TO'
    · exact st1.1.at fun o q => (sb.2 _ D.zi1.symm).trans q
    · exact st2.1.at fun o q => (sb.2 _ D.zi2.symm).trans q
    · have hlt : c < s.heap.objs.size := by
        have e' : c = z ∨ c = TI ∨ c = TO ∨ c = i1 ∨ c = i2 := by simpa using hcm
        rcases e' with q | q | q | q | q
        · rw [q]; exact hzl
        · rw [q]; exact Heap.lt_size hTI
        · rw [q]; exact Heap.lt_size hTO
        · rw [q]; obtain ⟨_, e1, _⟩ := h1; exact Heap.lt_size e1
        · rw [q]; obtain ⟨_, e2, _⟩ := h2; exact Heap.lt_size e2
      rw [upd_ne (Nat.ne_of_lt hlt)]
      exact (hf c hcm).1
  done := by
    intro X hP hw hK hc i pins s σ H E I hf st hg
    subst hP hw hK
    obtain ⟨hz, hTI, ⟨x0, y0, hTO⟩, h1, h2⟩ := st
    obtain ⟨xs, ys, hqx, hqy, hend⟩ := hg
    obtain ⟨its, rv, p, _⟩ := I.tuple hqx
    obtain ⟨its2, rv2, p2, _⟩ := I.list hqy
    have l1 := rv.length
    have l2 := rv2.length
    have s1 : its.toArray.size = its.length := by simp
    have s2 : its2.toArray.size = its2.length := by simp
    have hh : X.A.in1.handled = none := I.ok.hd hc
    exact wpAny_pyNext_zipD2_end D (Draws.tuple hh i1 a ne1 its.toArray) (Draws.list hh i2 b ne2 its2.toArray) hz hTI hTO ⟨h1, show s.heap.IsTuple a its.toArray from p⟩ ⟨h2, p2.isList⟩ (by omega) (by omega) (by omega) fun h' tk hk => ⟨rfl, I.turnedL (t' := tk) (ch := [z, TI, TO, i1, i2]) (fun c o hb q =>
      hk c o (fun q' => hb (by simp [q'])) (fun q' => hb (by simp [q'])) (fun q' => hb (by simp [q'])) (fun q' => hb (by simp [q'])) q) hf⟩
  self := fun A i s Q E st h => wpAny_pyIter_zip st.1 h
def iZipX (K : PySem.W.Frag) (ta : TA) : TI := fun σ H R => ta σ H fun vs H1 => ∃ a b xs ys, vs = [.ref a, .ref b] ∧ SqT K H1 a xs ∧ SqL K H1 b ys ∧ R (ItzX K a b) H1
theorem pi_zipX {X : Cx} {e e2 : Expr} {ta : TA} {p pos tpos : Pos} {elts : List Expr} {kk : Nat} (hg : Gl X "zip") (hm : X.mg "zip" = none) (ha : PA X [e, e2] ta)
    (hs : starEach [e, e2] X.env = (false, eval e X.env) :: starEach [e2] X.env := by rfl) (hpl : (backTo pos (starEach [e2] X.env)).any (·.1) = false := by rfl) :
    PI X (.Tuple elts kk tpos) (.Call (.Name "zip" p) [e, e2] [] pos) (iZipX X.K ta) := by
  refine ⟨fun pins s σ H R I h => ?_⟩
  refine Call_ (ld_blt I hg hm PyProof.Rows.boot_zip (PyProof.Rows.callWith_type1 (thn (ha.run pos pins s σ H _ I h) fun us s1 ⟨vs, H1, I1, r1, q1⟩ => ?_) hs hpl))
  obtain ⟨a, b, xs, ys, ex, hqx, hqy, q⟩ := q1
  subst ex
  cases r1 with
  | cons r rr =>
    cases rr with
    | cons r' rr =>
      cases rr
      cases r
      cases r'
      obtain ⟨its, rv, p1, _⟩ := I1.tuple hqx
      obtain ⟨its2, rv2, p2, _⟩ := I1.list hqy
      obtain ⟨o1, ho1, _⟩ := id p1
      have la : a < s1.heap.objs.size := Heap.lt_size ho1
      have lb : b < s1.heap.objs.size := p2.lt
      refine zip_begins2 (begins_tuple a its.toArray) (begins_list b its2.toArray) (show s1.heap.IsTuple a its.toArray from p1) p2.isList fun h' hz hTI hTO h1 h2 hsz hk => wpAny_pyIter_zip hz ?_
      have I2 : Inv X pins σ H1 { s1 with heap := h' } := I1.kept (t' := s1.toks) hk
      refine ⟨s1.heap.objs.size + 4, [s1.heap.objs.size + 4, s1.heap.objs.size + 2, s1.heap.objs.size + 3, s1.heap.objs.size, s1.heap.objs.size + 1], _, _, H1, rfl, I2,
        turn_zipX (zip_sep2 (fp1 := [a]) (fp2 := [b]) (fun c hc => by rw [List.mem_singleton.mp hc]; exact la) (fun c hc => by rw [List.mem_singleton.mp hc]; exact lb)) (Nat.ne_of_lt la) (Nat.ne_of_lt (Nat.lt_succ_of_lt lb)), ⟨hz, hTI, ⟨_, _, hTO⟩, ⟨_, h1, rfl, rfl⟩, ⟨_, h2, rfl, rfl⟩⟩, fun c hcm => ?_, q⟩
      have e' : c = s1.heap.objs.size + 4 ∨ c = s1.heap.objs.size + 2 ∨ c = s1.heap.objs.size + 3 ∨ c = s1.heap.objs.size ∨ c = s1.heap.objs.size + 1 := by simpa using hcm
      have hle : s1.heap.objs.size ≤ c := by
        rcases e' with z | z | z | z | z
        · rw [z]; exact Nat.le_add_right _ _
        · rw [z]; exact Nat.le_add_right _ _
        · rw [z]; exact Nat.le_add_right _ _
        · rw [z]; exact Nat.le_refl _
        · rw [z]; exact Nat.le_add_right _ _
      exact I1.fpOk hle (I1.hok.fresh hle)
end L2
end
section
/-! over data: enumerate(zip(xs, ys)), zip(TUPLE, xs) -/
namespace Dx
open PySem L2 RT Sx
def dEnumZ (a : DA) : DA := fun X ρ P => a X ρ fun xs => ∃ ys zs, xs = [.lst ys, .lst zs] ∧ P ((List.range (min ys.length zs.length)).zipWith (fun i y => .tup [nat i, y]) (ys.zipWith (fun y z => .tup [y, z]) zs))
def dZipX (a : DA) : DA := fun X ρ P => a X ρ fun xs => ∃ ys zs, xs = [.ktup ys, .lst zs] ∧ P (ys.zipWith (fun y z => .tup [y, z]) zs)
section
variable {K : PySem.W.Frag} {C : Ec} {E : XK} {σ : L2.St} {H : Hp} {W : Wd} {R : It → Hp → Prop}
theorem dwalk_enumZ {a b : Addr} {vs ws : List V} {xs ys : List Dt} (h : W.F a = some (.lst vs)) (r : RpL K W vs xs) (h2 : W.F b = some (.lst ws)) (r2 : RpL K W ws ys) :
    DWalk K W (ItEz K a b) ((List.range (min xs.length ys.length)).zipWith (fun i y => .tup [nat i, y]) (xs.zipWith (fun y z => .tup [y, z]) ys)) := by
  unfold DWalk
  have l1 := r.length
  have l2 := r2.length
  have hl : ((List.range (min xs.length ys.length)).zipWith (fun i y => Dt.tup [nat i, y]) (xs.zipWith (fun y z => .tup [y, z]) ys)).length = min vs.length ws.length := by
    rw [List.length_zipWith, List.length_range, List.length_zipWith, Nat.min_self, l1, l2]
  rw [hl]
  refine ⟨fun i H hi s => ?_, fun H s => ⟨vs, ws, sql (s _ _ h), sql (s _ _ h2), by omega⟩, fun i H u H' hi s y => ?_⟩
  · have h1 : i < vs.length := by omega
    have h2' : i < ws.length := by omega
    exact ⟨vs, ws, vs[i], ws[i], sql (s _ _ h), sql (s _ _ h2), by simp [h1], by simp [h2']⟩
  · obtain ⟨T1, T2, va, vb, e1, n1, n2, e2, e3, e4⟩ := y
    obtain ⟨z, hz, rz⟩ := r.getV (e3 vs (sql (s _ _ h)))
    obtain ⟨z2, hz2, rz2⟩ := r2.getV (e4 ws (sql (s _ _ h2)))
    refine .inr (.inr ⟨T1, T2, (i : Nat), z, z2, va, vb, e1, n1, n2, e2, ?_, rz, rz2⟩)
    rw [List.getElem?_zipWith, List.getElem?_range (by rw [← l1, ← l2]; exact hi), List.getElem?_zipWith, hz, hz2]
theorem dwalk_zipX {a b : Addr} {vs ws : List V} {xs ys : List Dt} (h : ∀ H, Same W.F H → SqT K H a vs) (r : RpL K W vs xs) (h2 : W.F b = some (.lst ws)) (r2 : RpL K W ws ys) :
    DWalk K W (ItzX K a b) (xs.zipWith (fun y z => .tup [y, z]) ys) := by
  unfold DWalk
  have l1 := r.length
  have l2 := r2.length
  have hl : (xs.zipWith (fun y z => Dt.tup [y, z]) ys).length = min vs.length ws.length := by
    rw [List.length_zipWith, l1, l2]
  rw [hl]
  refine ⟨fun i H hi s => ?_, fun H s => ⟨vs, ws, h H s, sql (s _ _ h2), rfl⟩, fun i H u H' hi s y => ?_⟩
  · have h1 : i < vs.length := by omega
    have h2' : i < ws.length := by omega
    exact ⟨vs, ws, vs[i], ws[i], h H s, sql (s _ _ h2), by simp [h1], by simp [h2']⟩
  · obtain ⟨T, va, vb, e1, n, e2, e3, e4⟩ := y
    obtain ⟨z, hz, rz⟩ := r.getV (e3 vs (h H s))
    obtain ⟨z2, hz2, rz2⟩ := r2.getV (e4 ws (sql (s _ _ h2)))
    refine .inr (.inl ⟨T, z, z2, va, vb, e1, n, e2, ?_, rz, rz2⟩)
    rw [List.getElem?_zipWith, hz, hz2]
theorem li_enumZ {a : DA} (q : liftI K C E (dEnumZ a) σ H R) : iEnumZ K (liftA K C E a) σ H R := by
  obtain ⟨c, P, at_, h, k⟩ := q
  refine ⟨c, _, at_, h, fun W1 H1 v1 x1 f1 o1 r1 ⟨ys, zs, e, q1⟩ => ?_⟩
  subst e
  obtain ⟨v, w, rfl, rv, rw_⟩ := rpl2 r1
  obtain ⟨a, vs, rfl, hs, rs⟩ := rp_lst rv
  obtain ⟨b, ws, rfl, ht, rt⟩ := rp_lst rw_
  exact ⟨a, b, vs, ws, rfl, sql (o1.sF _ _ hs), sql (o1.sF _ _ ht), k _ _ _ _ f1 o1 (dwalk_enumZ hs rs ht rt) q1⟩
theorem li_zipX {a : DA} (q : liftI K C E (dZipX a) σ H R) : iZipX K (liftA K C E a) σ H R := by
  obtain ⟨c, P, at_, h, k⟩ := q
  refine ⟨c, _, at_, h, fun W1 H1 v1 x1 f1 o1 r1 ⟨ys, zs, e, q1⟩ => ?_⟩
  subst e
  obtain ⟨v, w, rfl, rv, rw_⟩ := rpl2 r1
  obtain ⟨b, ws, rfl, ht, rt⟩ := rp_lst rw_
  cases rv with
  | ktup hs rs => exact ⟨_, b, _, ws, rfl, hs _, sql (o1.sF _ _ ht), k _ _ _ _ f1 o1 (dwalk_zipX (fun H s => hs H) rs ht rt) q1⟩
end
end Dx
end
section
/-! one's own dict by rows; the list of its keys; one's own dict by ints and texts, asked -/
namespace L2
open PySem PySem.Spec PyProof.Rows
def rListDT : List V → Hp → VK → Prop := fun xs H Q => ∃ d kvs, xs = [V.ref d] ∧ Rd H d (.dT kvs) ∧ ∀ p bs, H p = none → IsKeys H kvs bs → Q (.ref p) (upd H p (.lst (bs.map V.ref)))
theorem call_listDT {X : Cx} (hc : X.calm = true := by rfl) : CallR X (.type "list") rListDT := call_list_dT hc
end L2
namespace Dx
open PySem L2 RT Sx
def dPutT (i : Nat) (b a : DE) : DS := fun D X ρ => a X ρ fun x => ∃ ps, ρ[i]? = some (.od (.dT ps)) ∧ b X ρ fun y => ∃ k, y = .tup (k.map keyD) ∧ ps.length ≤ 100000 ∧ D.nx (ρ.set i (.od (.dT (pK ps k x))))
def dListD (a : DA) : DN := fun X ρ P => a X ρ fun xs => ∃ ps, xs = [.dT ps] ∧ P (ps.map fun p => .tup (p.1.map keyD))
section
variable {K : PySem.W.Frag} {W : Wd}
theorem RpT.any {k : List Key} : ∀ {ks : List (List Key × V)} {ps : List (List Key × Dt)}, RpT K W ks ps → (ks.any fun p => decide (p.1 = k)) = ps.any fun p => decide (p.1 = k)
  | _, _, .nil => rfl
  | _, _, .cons r rr => by simp only [List.any_cons]; rw [RpT.any rr]
theorem RpT.mapp {k : List Key} {v : V} {x : Dt} (h : Rp K W v x) : ∀ {ks : List (List Key × V)} {ps : List (List Key × Dt)}, RpT K W ks ps → RpT K W (ks.map fun p => if p.1 = k then (p.1, v) else p) (ps.map fun p => if p.1 = k then (p.1, x) else p)
  | _, _, .nil => .nil
  | _, _, @RpT.cons _ _ k' v' x' ks ps r rr => by
    rw [List.map_cons, List.map_cons]
    by_cases e : k' = k
    · simp only [e, if_true]; exact .cons h (RpT.mapp h rr)
    · simp only [e, if_false]; exact .cons r (RpT.mapp h rr)
theorem RpT.snoc {k : List Key} {v : V} {x : Dt} (h : Rp K W v x) : ∀ {ks : List (List Key × V)} {ps : List (List Key × Dt)}, RpT K W ks ps → RpT K W (ks ++ [(k, v)]) (ps ++ [(k, x)])
  | _, _, .nil => .cons h .nil
  | _, _, .cons r rr => .cons r (RpT.snoc h rr)
theorem RpT.put {k : List Key} {v : V} {x : Dt} {ks : List (List Key × V)} {ps : List (List Key × Dt)} (h : Rp K W v x) (r : RpT K W ks ps) : RpT K W (putK ks k v) (pK ps k x) := by
  unfold putK pK
  rw [r.any]
  split
  · exact r.mapp h
  · exact r.snoc h
theorem RpT.length : ∀ {ks : List (List Key × V)} {ps : List (List Key × Dt)}, RpT K W ks ps → ks.length = ps.length
  | _, _, .nil => rfl
  | _, _, .cons _ h => by rw [List.length_cons, List.length_cons, h.length]
theorem dictR_T {ho : HO} {ps : List (List Key × Dt)} (h : DictR K W ho (.dT ps)) : ∃ ks, ho = .dT ks ∧ RpT K W ks ps := by
  rcases h with ⟨ks, qs, rfl, e, r⟩ | ⟨ks, qs, rfl, e, r⟩
  · cases e
  · obtain rfl := Dt.dT.inj e; exact ⟨ks, rfl, r⟩
theorem rp_dT {v : V} {ps : List (List Key × Dt)} (r : Rp K W v (.dT ps)) : ∃ a o ks, v = .ref a ∧ W.F a = some (.frz o (.dT ks)) ∧ RpT K W ks ps := by
  cases r with | dT h r => exact ⟨_, _, _, rfl, h, r⟩
theorem rpl_keys : ∀ {k : List Key} {vs : List V}, RpL K W vs (k.map keyD) → vs = k.map kV
  | [], _, .nil => rfl
  | a :: r, _, .cons h t => by rw [List.map_cons, rp_key h, rpl_keys t]
theorem rpl_keysV : ∀ {k : List Key}, RpL K W (k.map kV) (k.map keyD)
  | [] => .nil
  | .inl i :: r => .cons (.int i) rpl_keysV
  | .inr s :: r => .cons (.str s) rpl_keysV
/-- the keys' tuples are kept -/
theorem keepKeys {ks : List (List Key × V)} {bs : List Addr} {H : Hp} (r : IsKeys H ks bs) : ∀ {W : Wd} {ps : List (List Key × Dt)}, Ok K W H → RpT K W ks ps → ∃ W', Frm W H W' H ∧ Ok K W' H ∧ RpL K W' (bs.map V.ref) (ps.map fun p => .tup (p.1.map keyD)) := by
  unfold IsKeys at r
  induction r with
  | nil => exact fun o rt => by cases rt; exact ⟨_, Frm.refl _ _, o, .nil⟩
  | cons h t ih =>
    intro W ps o rt
    cases rt with
    | cons rv rr =>
      obtain ⟨W1, f1, o1, e1⟩ := keepT o (Same.refl _) h
      obtain ⟨W2, f2, o2, r2⟩ := ih o1 (rr.le f1.le)
      exact ⟨W2, f1.trans f2, o2, .cons (.tup (f2.le.sF _ _ e1) rpl_keysV) r2⟩
end
section
variable {K : PySem.W.Frag} {C : Ec} {E : XK} {σ : L2.St} {H : Hp} {Q : VK} {D : Ends} {W : Wd}
theorem ls_putT {i : Nat} {b a : DE} (q : liftS K C E (dPutT i b a) D σ H) : sDPut (tVar i) (liftE K C E b) (liftE K C E a) D σ H := by
  obtain ⟨c, DD, at_, en, h⟩ := q
  refine ⟨c, _, at_, h, fun W1 H1 v1 x1 f1 o1 r1 ⟨ps, e, q1⟩ => ?_⟩
  have a1 := at_.frm f1 o1
  obtain ⟨p, ho, h1, m, hp, dr⟩ := at_.od e
  obtain ⟨ks, rfl, rk⟩ := dictR_T dr
  refine ⟨_, h1, { c with W := W1 }, _, a1, q1, fun W2 H2 v2 x2 f2 o2 r2 ⟨k, e2, hz, q2⟩ => ?_⟩
  subst e2
  have f12 := f1.trans f2
  have hp2 := f12.sH p _ hp m.d
  have m2 := m.frm f12 hp trivial
  have a2 := at_.frm f12 o2
  obtain ⟨ta, vs, rfl, hs, rs⟩ := rp_tup r2
  obtain rfl := rpl_keys rs
  refine ⟨p, _, rfl, DPut.t (k := k) hp2 (o2.sF _ _ hs) (by rw [rk.length]; exact Nat.lt_of_le_of_lt hz (by decide)), ?_⟩
  exact en.nx W2 _ σ _ (a2.put (t := .od (.dT (pK ps k x1))) e rfl h1 m2 ⟨p, _, rfl, m2, upd_same, .inr ⟨_, _, rfl, rfl, (rk.le f12.le).put (r1.le f2.le)⟩⟩) q2
theorem ls_putK {i : Nat} {b a : DE} (q : liftS K C E (dPutK i b a) D σ H) : sDPut (tVar i) (liftE K C E b) (liftE K C E a) D σ H := by
  obtain ⟨c, DD, at_, en, h⟩ := q
  refine ⟨c, _, at_, h, fun W1 H1 v1 x1 f1 o1 r1 ⟨ps, e, q1⟩ => ?_⟩
  have a1 := at_.frm f1 o1
  obtain ⟨p, ho, h1, m, hp, dr⟩ := at_.od e
  obtain ⟨ks, rfl, rk⟩ := dictR_K dr
  refine ⟨_, h1, { c with W := W1 }, _, a1, q1, fun W2 H2 v2 x2 f2 o2 r2 ⟨k, e2, hz, q2⟩ => ?_⟩
  subst e2
  have f12 := f1.trans f2
  have hp2 := f12.sH p _ hp m.d
  have m2 := m.frm f12 hp trivial
  have a2 := at_.frm f12 o2
  obtain rfl := rp_key r2
  refine ⟨p, _, rfl, DPut.k (k := k) hp2 (by rw [rk.length]; exact Nat.lt_of_le_of_lt hz (by decide)), ?_⟩
  exact en.nx W2 _ σ _ (a2.put (t := .od (.dK (pK ps k x1))) e rfl h1 m2 ⟨p, _, rfl, m2, upd_same, .inl ⟨_, _, rfl, rfl, (rk.le f12.le).put (r1.le f2.le)⟩⟩) q2
theorem le_getOK {i : Nat} {b : DE} (q : liftE K C E (dGetO i b) σ H Q) : tDGet (tVar i) (liftE K C E b) σ H Q := by
  obtain ⟨c, P, at_, ⟨ps, e, h⟩, k⟩ := q
  obtain ⟨p, ho, h1, m, hp, dr⟩ := at_.od e
  obtain ⟨ks, rfl, rk⟩ := dictR_K dr
  refine ⟨_, h1, c, _, at_, h, fun W1 H1 v1 x1 f1 o1 r1 ⟨kk, z, e1, eg, q1⟩ => ?_⟩
  subst e1
  rcases (rk.le f1.le).get (k := kk) with ⟨_, n⟩ | ⟨v, x, hv, hx, rv⟩
  · rw [n] at eg; cases eg
  · rw [hx] at eg
    obtain rfl := Option.some.inj eg
    exact ⟨p, v, rfl, .inl ⟨ks, kk, .inl (f1.sH p _ hp m.d), rp_key r1, hv.symm⟩, k W1 H1 v x f1 o1 rv q1⟩
theorem le_inO {i : Nat} {b : DE} (q : liftE K C E (dInO b i) σ H Q) : tDIn (liftE K C E b) (tVar i) σ H Q := by
  obtain ⟨c, P, at_, h, k⟩ := q
  refine ⟨c, _, at_, h, fun W1 H1 v1 x1 f1 o1 r1 ⟨ps, kk, e, e1, q1⟩ => ?_⟩
  subst e1
  have a1 := at_.frm f1 o1
  obtain ⟨p, ho, h1, m, hp, dr⟩ := a1.od e
  obtain ⟨ks, rfl, rk⟩ := dictR_K dr
  exact ⟨_, h1, p, valV ks kk, rfl, .inl ⟨ks, kk, .inl hp, rp_key r1, rfl⟩, by rw [isSome_eq rk]; exact k W1 H1 _ _ f1 o1 (.bl _) q1⟩
theorem le_notInO {i : Nat} {b : DE} (q : liftE K C E (dNotInO b i) σ H Q) : tDNotIn (liftE K C E b) (tVar i) σ H Q := by
  obtain ⟨c, P, at_, h, k⟩ := q
  refine ⟨c, _, at_, h, fun W1 H1 v1 x1 f1 o1 r1 ⟨ps, kk, e, e1, q1⟩ => ?_⟩
  subst e1
  have a1 := at_.frm f1 o1
  obtain ⟨p, ho, h1, m, hp, dr⟩ := a1.od e
  obtain ⟨ks, rfl, rk⟩ := dictR_K dr
  exact ⟨_, h1, p, valV ks kk, rfl, .inl ⟨ks, kk, .inl hp, rp_key r1, rfl⟩, by rw [isSome_eq rk]; exact k W1 H1 _ _ f1 o1 (.bl _) q1⟩
theorem le_listD {a : DA} (q : liftN K C E (dListD a) σ H Q) : tCB rListDT (liftA K C E a) σ H Q := by
  obtain ⟨c, P, at_, h, k⟩ := q
  refine ⟨c, _, at_, h, fun W1 H1 v1 x1 f1 o1 r1 ⟨ps, e, q1⟩ => ?_⟩
  subst e
  obtain ⟨v, rfl, rv⟩ := rpl1 r1
  obtain ⟨d, od, ks, rfl, hf, rk⟩ := rp_dT rv
  refine ⟨d, ks, rfl, .inr ⟨od, o1.sF _ _ hf⟩, fun p bs n hk => ?_⟩
  obtain ⟨W2, f2, o2, r2⟩ := keepKeys hk o1 rk
  have fr := f1.trans f2
  exact k W2 _ p _ _ (fr.trans (Frm.laid n)) (o2.laid n) (fr.kp p n) (o2.fr n) (o2.dice_ne n) upd_same r2 q1
end
/-- list(range(a, b)) -/
def tLr2N (ta tb : TE) : TE := fun σ H Q => ta σ H fun x H1 => tb σ H1 fun y H2 => ∃ i j : Int, x = .int i ∧ y = .int j ∧ RgOk i j ∧ ∀ q H3, H2 q = none → Same H2 H3 → H3 q = some (.lst (rgV i j)) → Q (.ref q) H3
theorem pe_lr2N {X : Cx} {a b : Expr} {ta tb : TE} {p p2 pos pos2 : Pos} (hc : X.calm = true) (hg : Gl X "list") (hm : X.mg "list" = none) (hg2 : Gl X "range") (hm2 : X.mg "range" = none) (ha : PE X a ta) (hb : PE X b tb) (na : starEach [a, b] X.env = (false, eval a X.env) :: starEach [b] X.env := by rfl)
    (nb : starEach [b] X.env = (false, eval b X.env) :: starEach [] X.env := by rfl) (hp : (backTo pos2 (starEach [b] X.env)).any (·.1) = false := by rfl)
    (nc : starEach [.Call (.Name "range" p2) [a, b] [] pos2] X.env = (false, eval (.Call (.Name "range" p2) [a, b] [] pos2) X.env) :: starEach [] X.env := by rfl) : PE X (.Call (.Name "list" p) [.Call (.Name "range" p2) [a, b] [] pos2] [] pos) (tLr2N ta tb) :=
  PE.imp (pe_listRg hc hg hm (prg_2 hg2 hm2 (PE.weak ha) (PE.weak hb) na nb hp) nc) fun σ H Q q => ⟨_, q, fun v H1 q1 => ⟨_, q1, fun w H2 ⟨i, j, e1, e2, ok, k⟩ => ⟨i, j, e1, e2, ok, fun q hq => k q _ hq (same_new hq) upd_same⟩⟩⟩
def dLr2 (a b : DE) : DN := fun X ρ P => a X ρ fun x => b X ρ fun y => ∃ i j : Int, x = .int i ∧ y = .int j ∧ RgOk i j ∧ P (rangeD i (j - i).toNat)
theorem rpl_rg {K : PySem.W.Frag} {W : Wd} (i j : Int) : RpL K W (rgV i j) (rangeD i (j - i).toNat) := by
  have e : rangeD i (j - i).toNat = ((List.range (j - i).toNat).map fun k : Nat => i + (k : Int)).map Dt.int := by unfold rangeD; rw [List.map_map]; rfl
  have e2 : rgV i j = ((List.range (j - i).toNat).map fun k : Nat => i + (k : Int)).map V.int := by unfold rgV; rw [List.map_map]; rfl
  rw [e, e2]
  exact RpL.ints
theorem le_lr2 {K : PySem.W.Frag} {C : Ec} {E : XK} {σ : L2.St} {H : Hp} {Q : VK} {a b : DE} (q : liftN K C E (dLr2 a b) σ H Q) : tLr2N (liftE K C E a) (liftE K C E b) σ H Q := by
  obtain ⟨c, P, at_, h, k⟩ := q
  refine ⟨c, _, at_, h, fun W1 H1 v1 x1 f1 o1 r1 q1 => ?_⟩
  refine ⟨{ c with W := W1 }, _, at_.frm f1 o1, q1, fun W2 H2 v2 x2 f2 o2 r2 ⟨i, j, e1, e2, ok, q2⟩ => ?_⟩
  subst e1; subst e2
  exact ⟨i, j, rp_int r1, rp_int r2, ok, newL (f1.trans f2) o2 (rpl_rg i j) q2 k⟩
theorem nlr2 {X : Cx} {C : Ec} {E : XK} {e : Expr} {da db : DE} (h : PE X e (tLr2N (liftE X.K C E da) (liftE X.K C E db))) : PE X e (liftN X.K C E (dLr2 da db)) := PE.imp h fun _ _ _ => le_lr2
theorem d_lr2 {X : DX} {ρ : Env} {P : List Dt → Prop} {a b : DE} (q : a X ρ fun x => b X ρ fun y => ∃ i j : Int, x = .int i ∧ y = .int j ∧ RgOk i j ∧ P (rangeD i (j - i).toNat)) : dLr2 a b X ρ P := q
theorem nlistD {X : Cx} {C : Ec} {E : XK} {e : Expr} {dA : DA} (h : PE X e (tCB rListDT (liftA X.K C E dA))) : PE X e (liftN X.K C E (dListD dA)) := PE.imp h fun _ _ _ => le_listD
theorem d_putT {X : DX} {ρ : Env} {D : DEnds} {i : Nat} {b a : DE} (q : a X ρ fun x => ∃ ps, ρ[i]? = some (.od (.dT ps)) ∧ b X ρ fun y => ∃ k, y = .tup (k.map keyD) ∧ ps.length ≤ 100000 ∧ D.nx (ρ.set i (.od (.dT (pK ps k x))))) : dPutT i b a D X ρ := q
theorem d_newT {X : DX} {ρ : Env} {D : DEnds} {i : Nat} (q : D.nx (ρ.set i (.od (.dT [])))) : dAsgD i dNewT D X ρ := q
theorem d_newK {X : DX} {ρ : Env} {D : DEnds} {i : Nat} (q : D.nx (ρ.set i (.od (.dK [])))) : dAsgD i dNewK D X ρ := q
theorem d_listD {X : DX} {ρ : Env} {P : List Dt → Prop} {a : DA} (q : a X ρ fun xs => ∃ ps, xs = [.dT ps] ∧ P (ps.map fun p => .tup (p.1.map keyD))) : dListD a X ρ P := q
end Dx
end
section
/-! min of a list of pairs: a number and a row -/
namespace MinX
open PySem PySem.Spec PySem.W
section
variable {prog : Program} {w : World} {A : Around} {E : Value → Shared → Prop} {s : Shared}
theorem min_list_at {l : Addr} {vs : Array Value} {x : PyData} {xs : List PyData} {as : List Addr} {Q : Value → Shared → Prop} (hh : A.handled = none) (hl : s.heap.IsList l vs) (hr : ReadsAll s.heap vs.toList (x :: xs) as) (ha : AlikeAll (x :: xs)) (hu : A.units + 1 + PyData.depthAll (x :: xs) < cLine)
    (h : ∀ (i : Nat) v h' tk, vs[i]? = some v → (x :: xs).getD i .none = minD x xs → (∀ b o, s.heap.get? b = some o → h'.get? b = some o) → Q v { s with heap := h', toks := tk }) :
    wpAny (model prog w) A (call (.builtin "min") [.ref l]) Q E s := by
  have hn : vs.size = xs.length + 1 := readsAll_len hr
  refine call_min_walkH (iter_listW (A := A.in1) hh hl fun s₂ e W st hfp hw hk => ?_)
  refine ⟨_, _, _, _, _, _, _, s.heap, _, rfl, W, st, hfp, by omega, hw, hk, cmpIn_lt (A := A.in1) hr ha (by show A.units + 1 + _ < _; exact hu), fun v s' hP m => ?_⟩
  obtain ⟨h', tk, rfl, hk'⟩ := moved_old e rfl m
  have e1 : vs.size - 1 = xs.length := by omega
  have e2 := (argBest_fold dataLt PyData.none x xs xs.length (Nat.le_refl _)).2
  rw [List.take_length] at e2
  rw [e1] at hP
  exact h _ v h' tk hP e2 hk'
end
theorem minD_strict {y : PyData} : ∀ (xs : List PyData) (x : PyData), (∀ z ∈ x :: xs, z = y ∨ dataLt y z = true ∧ dataLt z y = false) → y ∈ x :: xs → minD x xs = y
  | [], x, _, m => (List.mem_singleton.mp m).symm
  | v :: vs, x, h, m => by
    show minD (if dataLt v x = true then v else x) vs = y
    have hv := h v (by simp)
    have hx := h x (by simp)
    by_cases e : x = y
    · subst e
      have : dataLt v x = false := by
        rcases hv with rfl | hv
        · exact dataLt_self _
        · exact hv.2
      rw [this]
      refine minD_strict vs x (fun z hz => h z ?_) List.mem_cons_self
      rcases List.mem_cons.mp hz with q | q
      · rw [q]; exact List.mem_cons_self
      · exact List.mem_cons_of_mem _ (List.mem_cons_of_mem _ q)
    · by_cases e2 : v = y
      · subst e2
        have : dataLt v x = true := (hx.resolve_left e).1
        rw [if_pos this]
        exact minD_strict vs v (fun z hz => h z (List.mem_cons_of_mem _ hz)) (by simp)
      · have hm : y ∈ vs := by
          rcases List.mem_cons.mp m with q | q
          · exact absurd q.symm e
          · rcases List.mem_cons.mp q with q | q
            · exact absurd q.symm e2
            · exact q
        refine minD_strict vs _ (fun z hz => ?_) (List.mem_cons_of_mem _ hm)
        rcases List.mem_cons.mp hz with q | q
        · rw [q]; split
          · exact hv
          · exact hx
        · exact h z (List.mem_cons_of_mem _ (List.mem_cons_of_mem _ q))
end MinX
namespace L2
open PySem PySem.Spec PyProof.Rows
open PySem.W (AlikeAll minD)
def rMinP (K : PySem.W.Frag) : List V → Hp → VK → Prop := fun vs H Q => ∃ (a : Addr) (xs : List V) (d : PyData) (ds : List PyData), vs = [.ref a] ∧ SqL K H a xs ∧ DpAll K H xs (d :: ds) ∧ AlikeAll (d :: ds) ∧ PyData.depthAll (d :: ds) ≤ 60 ∧
  ∀ (i : Nat) (x : V), xs[i]? = some x → (d :: ds).getD i .none = minD d ds → Q x H
theorem call_minP {X : Cx} (hu : X.A.units + 64 < cLine) (hc : X.calm = true := by rfl) : CallR X (.builtin "min") (rMinP X.K) := by
  intro pins s σ H vs us Q I r h
  obtain ⟨a, xs, d, ds, rfl, hs, hd, ha, hz, q⟩ := h
  obtain ⟨its, rv, hl, _⟩ := I.list hs
  rw [Vals.ref1 r]
  obtain ⟨as, hr⟩ := Dp.readsAll I _ _ _ hd rv
  refine MinX.min_list_at (I.ok.hd hc) hl.isList (as := as) (vs := its.toArray) (show ReadsAll s.heap its (d :: ds) as from hr) ha (by omega) fun i v h' tk hv e hk => ?_
  have hl2 := rv.length
  have hi : i < its.length := by
    have := (Array.getElem?_eq_some_iff.mp hv).1
    simpa using this
  obtain ⟨x, hx⟩ : ∃ x, xs[i]? = some x := ⟨_, List.getElem?_eq_getElem (by omega)⟩
  obtain ⟨u, hu', ru⟩ := rv.get hx
  have : v = u := by
    have e2 : its.toArray[i]? = its[i]? := by simp
    rw [e2, hu'] at hv
    exact (Option.some.inj hv).symm
  subst this
  exact ⟨x, H, I.kept (t' := tk) hk, ru, q i x hx e⟩
end L2
namespace Dx
open PySem L2 RT Sx
open PySem.W (alike alikeAll dataLt minD dataLt_pair dataLt_int dataLt_self)
def pairD (p : Nat × List Nat) : Dt := .tup [nat p.1, .tup (p.2.map nat)]
/-- min of such a list, where one has the least number by itself -/
def dMinP : DL := fun xs P => ∃ (ys : List (Nat × List Nat)) (y : Nat × List Nat), xs = [.lst (ys.map pairD)] ∧ y ∈ ys ∧ (∀ p ∈ ys, p = y ∨ y.1 < p.1) ∧ P (pairD y)
theorem toP_pair (p : Nat × List Nat) : toP (pairD p) = .tuple [.int (p.1 : Int), .tuple (p.2.map fun k : Nat => PyData.int (k : Int))] := by
  show PyData.tuple (toPs [nat p.1, .tup (p.2.map nat)]) = _
  rw [toPs_eq]
  show PyData.tuple [.int (p.1 : Int), .tuple (toPs (p.2.map nat))] = _
  rw [toPs_eq, List.map_map]
  rfl
theorem alike_ints : ∀ xs ys : List Nat, alikeAll (xs.map fun k : Nat => PyData.int (k : Int)) (ys.map fun k : Nat => PyData.int (k : Int)) = true
  | [], _ => rfl
  | _ :: _, [] => rfl
  | x :: xs, y :: ys => by
    show (alike (.int x) (.int y) && alikeAll (xs.map fun k : Nat => PyData.int (k : Int)) (ys.map fun k : Nat => PyData.int (k : Int))) = true
    rw [alike_ints xs ys]; rfl
theorem pair_alike (p q : Nat × List Nat) : alike (toP (pairD p)) (toP (pairD q)) = true := by
  rw [toP_pair, toP_pair]
  show (alike (.int p.1) (.int q.1) && (alikeAll (p.2.map fun k : Nat => PyData.int (k : Int)) (q.2.map fun k : Nat => PyData.int (k : Int)) && alikeAll [] [])) = true
  rw [alike_ints]; rfl
theorem pair_lt {p q : Nat × List Nat} (h : p.1 ≠ q.1) : dataLt (toP (pairD p)) (toP (pairD q)) = decide (p.1 < q.1) := by
  rw [toP_pair, toP_pair, dataLt_pair (by rfl) (by show alikeAll _ _ = true; exact alike_ints _ _), dataLt_int]
  have e : PyData.eqv (.int (p.1 : Int)) (.int (q.1 : Int)) = false := by
    show (((p.1 : Int)) == ((q.1 : Int))) = false
    rw [beq_eq_false_iff_ne]
    omega
  rw [e, if_neg Bool.false_ne_true]
  by_cases z : p.1 < q.1
  · rw [decide_eq_true z, decide_eq_true (by omega)]
  · rw [decide_eq_false z, decide_eq_false (by omega)]
theorem depth_ints : ∀ xs : List Nat, PyData.depthAll (xs.map fun k : Nat => PyData.int (k : Int)) ≤ 1
  | [] => by show PyData.depthAll [] ≤ 1; decide
  | x :: xs => by
    show max (PyData.depth (.int x)) (PyData.depthAll (xs.map fun k : Nat => PyData.int (k : Int))) ≤ 1
    have := depth_ints xs
    have h2 : PyData.depth (.int (x : Int)) ≤ 1 := by show (_ : Nat) ≤ 1; first | decide | exact Nat.le_refl _ | simp [PyData.depth]
    omega
theorem pair_depth (p : Nat × List Nat) : (toP (pairD p)).depth ≤ 10 := by
  rw [toP_pair]
  have := depth_ints p.2
  simp only [PyData.depth, PyData.depthAll]
  omega
theorem depth_all : ∀ ys : List (Nat × List Nat), PyData.depthAll (toPs (ys.map pairD)) ≤ 10
  | [] => by show PyData.depthAll [] ≤ 10; decide
  | y :: ys => by
    show max (toP (pairD y)).depth (PyData.depthAll (toPs (ys.map pairD))) ≤ 10
    have := depth_all ys
    have := pair_depth y
    omega
theorem pair_lay (p : Nat × List Nat) : (toP (pairD p)).canLay0 = true := by
  rw [toP_pair]
  have h : ∀ xs : List Nat, PyData.canLayAll0 (xs.map fun k : Nat => PyData.int (k : Int)) = true := by
    intro xs
    induction xs with
    | nil => rfl
    | cons x xs ih => show (PyData.canLay0 (.int x) && _) = true; rw [ih]; rfl
  show (PyData.canLay0 (.int (p.1 : Int)) && (PyData.canLayAll0 (p.2.map fun k : Nat => PyData.int (k : Int)) && PyData.canLayAll0 [])) = true
  rw [h]; rfl
theorem o_minP {K : PySem.W.Frag} : OpL K (rMinP K) dMinP := fun W H vs xs P Q o r ⟨ys, y, e, hm, hl, q⟩ k => by
  subst e
  obtain ⟨v, rfl, r1⟩ := rpl1 r
  obtain ⟨a, us, rfl, hs, rs⟩ := rp_lst r1
  cases ys with
  | nil => cases hm
  | cons z zs =>
    have lay : PyData.canLayAll0 (toPs ((z :: zs).map pairD)) = true := by
      have : ∀ l : List (Nat × List Nat), PyData.canLayAll0 (toPs (l.map pairD)) = true := by
        intro l
        induction l with
        | nil => rfl
        | cons p l ih => show (PyData.canLay0 (toP (pairD p)) && _) = true; rw [pair_lay]; exact ih
      exact this _
    have dp := dps_of o.sF rs lay
    have em : toPs ((z :: zs).map pairD) = toP (pairD z) :: zs.map fun p => toP (pairD p) := by
      rw [toPs_eq, List.map_map]; rfl
    refine ⟨a, us, toP (pairD z), zs.map fun p => toP (pairD p), rfl, sql (o.sF _ _ hs), by rw [← em]; exact dp, ⟨fun x hx w hw => ?_, fun x hx => ?_⟩, by rw [← em]; exact Nat.le_trans (depth_all _) (by decide), fun i x hx e => ?_⟩
    · rw [← em, toPs_eq, List.map_map] at hx hw
      obtain ⟨p, _, rfl⟩ := List.mem_map.mp hx
      obtain ⟨p', _, rfl⟩ := List.mem_map.mp hw
      exact pair_alike p p'
    · rw [← em, toPs_eq, List.map_map] at hx
      obtain ⟨p, _, rfl⟩ := List.mem_map.mp hx
      show toP (pairD p) ≠ .none
      rw [toP_pair]; exact fun z => nomatch z
    · have me : minD (toP (pairD z)) (zs.map fun p => toP (pairD p)) = toP (pairD y) := by
        refine MinX.minD_strict _ _ (fun w hw => ?_) ?_
        · rw [← em, toPs_eq, List.map_map] at hw
          obtain ⟨p, hp, rfl⟩ := List.mem_map.mp hw
          rcases hl p hp with rfl | lt
          · exact .inl rfl
          · refine .inr ⟨?_, ?_⟩
            · show dataLt (toP (pairD y)) (toP (pairD p)) = true
              rw [pair_lt (Nat.ne_of_lt lt), decide_eq_true lt]
            · show dataLt (toP (pairD p)) (toP (pairD y)) = false
              rw [pair_lt (Nat.ne_of_gt lt), decide_eq_false (by omega)]
        · rw [← em, toPs_eq, List.map_map]
          exact List.mem_map.mpr ⟨y, hm, rfl⟩
      rw [me] at e
      obtain ⟨p, hp, rp⟩ := rs.getV hx
      obtain ⟨p', hp', rfl⟩ := List.mem_map.mp (List.mem_of_getElem? hp)
      have e3 : toP (pairD p') = toP (pairD y) := by
        rw [← e, ← em, toPs_eq, List.getD_eq_getElem?_getD, List.getElem?_map, hp]; rfl
      have : p' = y := by
        rcases hl p' hp' with h | h
        · exact h
        · have := pair_lt (p := y) (q := p') (Nat.ne_of_lt h)
          rw [e3, dataLt_self, decide_eq_true h] at this
          cases this
      subst this
      exact k W H _ _ (Frm.refl _ _) o rp q
theorem d_minP {ys : List (Nat × List Nat)} {y : Nat × List Nat} {P : Dt → Prop} (hm : y ∈ ys) (h : ∀ p ∈ ys, p = y ∨ y.1 < p.1) (q : P (pairD y)) : dMinP [.lst (ys.map pairD)] P := ⟨ys, y, rfl, hm, h, q⟩
end Dx
end
section
/-! x, y = new list, new list; x in one's own list -/
namespace Dx
open PySem L2 RT Sx
def dParN (i j : Nat) (a b : DN) : DS := fun D X ρ => a X ρ fun xs => b X ρ fun ys => D.nx ((ρ.set i (.ol xs)).set j (.ol ys))
section
variable {K : PySem.W.Frag} {C : Ec} {E : XK} {σ : L2.St} {H : Hp} {Q : VK} {D : Ends} {W : Wd}
theorem Cn.At.newOwn {c : Cn} {p : Addr} (a : c.At K C E σ H) (n : ∀ (j : Nat) (t : Sl), c.ρ[j]? = some t → own t = true → σ[j]? ≠ some (some (.ref p))) (i : Nat) {vs : List V} {xs : List Dt} (m : Mine c.Hin c.W p) (h : H p = some (.lst vs)) (r : RpL K c.W vs xs) :
    Cn.At K C E { c with ρ := c.ρ.set i (.ol xs) } (σ.set i (some (.ref p))) H :=
  ⟨a.lk.setOwn i ⟨p, vs, rfl, m, h, r⟩ fun j t e1 e2 ne => n j t e1 e2, a.fr, a.el, a.lo⟩
theorem own_ne {c : Cn} {p : Addr} (a : c.At K C E σ H) (n : ∀ o, H p = some o → False) (j : Nat) (t : Sl) (e1 : c.ρ[j]? = some t) (e2 : own t = true) : σ[j]? ≠ some (some (.ref p)) := fun e3 => by
  obtain ⟨w, h1, h2⟩ := a.lk.sl j t e1
  rw [h1] at e3
  obtain rfl := Option.some.inj e3
  cases t with
  | un => cases e2
  | v x => cases e2
  | ol ys =>
    obtain ⟨q, us, z, _, hq, _⟩ := h2
    obtain rfl := V.ref.inj (Option.some.inj z)
    exact n _ hq
  | od ps =>
    obtain ⟨q, us, z, _, hq, _⟩ := h2
    obtain rfl := V.ref.inj (Option.some.inj z)
    exact n _ hq
  | ob ps =>
    obtain ⟨q, us, ks, z, _, hq, _⟩ := h2
    obtain rfl := V.ref.inj (Option.some.inj z)
    exact n _ hq
theorem ls_parN {i j : Nat} {a b : DN} (q : liftS K C E (dParN i j a b) D σ H) : tPar i j (tCons (liftN K C E a) (tCons (liftN K C E b) tNil)) D σ H := by
  obtain ⟨c, DD, at_, en, h⟩ := q
  refine ⟨c, _, at_, h, fun W1 H1 p vs xs f o n nf nd e r q1 => ?_⟩
  have a1 := at_.frm f o
  refine ⟨{ c with W := W1 }, _, a1, q1, fun W2 H2 p2 vs2 xs2 f2 o2 n2 nf2 nd2 e2 r2 q2 => ⟨_, _, rfl, ?_⟩⟩
  have a2 := at_.frm (f.trans f2) o2
  have ne : p ≠ p2 := ne_new n2 e
  have m1 : Mine c.Hin W2 p := ⟨f2.nF p _ e nd trivial nf, at_.fr.kp p n, f2.ndl e nd⟩
  have m2 : Mine c.Hin W2 p2 := ⟨nf2, at_.fr.kp p2 (f.kp p2 n2), nd2⟩
  have hp : H2 p = some (.lst vs) := f2.sH p _ e nd
  -- none of the slots holds either of the two
  have o1 : ∀ (j : Nat) (t : Sl), c.ρ[j]? = some t → own t = true → σ[j]? ≠ some (some (.ref p)) := own_ne at_ fun o z => by rw [n] at z; cases z
  have o2' : ∀ (j : Nat) (t : Sl), c.ρ[j]? = some t → own t = true → σ[j]? ≠ some (some (.ref p2)) := own_ne at_ fun o z => by rw [f.kp p2 n2] at z; cases z
  have a3 := a2.newOwn (c := { c with W := W2 }) o1 i m1 hp (r.le f2.le)
  have a4 := a3.newOwn (c := { c with W := W2, ρ := c.ρ.set i (.ol xs) }) (fun k t e1 e3 z => by
    rcases set_get e1 with ⟨rfl, rfl⟩ | ⟨nk, e1⟩
    · have hl : i < σ.length := by
        rcases Nat.lt_or_ge i σ.length with y | y
        · exact y
        · rw [List.set_eq_of_length_le y, List.getElem?_eq_none y] at z; cases z
      rw [List.getElem?_set_self hl] at z
      exact ne (V.ref.inj (Option.some.inj (Option.some.inj z)))
    · rw [List.getElem?_set_ne nk] at z
      exact o2' k t e1 e3 z) j m2 e2 r2
  exact en.nx W2 _ _ H2 ⟨a4.lk, a4.fr, a4.el, a4.lo⟩ q2
theorem ls_parNT {i j : Nat} {a b : DN} (q : liftS K C E (dParN i j a b) D σ H) : tAsg (tTup (tCons (liftN K C E a) (tCons (liftN K C E b) tNil))) (gOf K (.tp [.nm i, .nm j])) D σ H := by
  obtain ⟨c, DD, at_, en, h⟩ := q
  unfold gOf gsOf gsOf gsOf gOf
  refine ⟨c, _, at_, h, fun W1 H1 p vs xs f o n nf nd e r q1 => ?_⟩
  have a1 := at_.frm f o
  refine ⟨{ c with W := W1 }, _, a1, q1, fun W2 H2 p2 vs2 xs2 f2 o2 n2 nf2 nd2 e2 r2 q2 => ⟨by show 2 ≤ sizeLine; decide, fun T nT => ?_⟩⟩
  have ne : p ≠ p2 := ne_new n2 e
  have hT : upd H2 T (.tup [.ref p, .ref p2]) T = some (.tup [.ref p, .ref p2]) := upd_same
  refine ⟨T, [.ref p, .ref p2], rfl, sqt hT, rfl, ?_⟩
  have f3 : Frm W2 H2 W2 (upd H2 T (.tup [.ref p, .ref p2])) := Frm.laid nT
  have o3 : Ok K W2 (upd H2 T (.tup [.ref p, .ref p2])) := o2.laid nT
  have a2 := at_.frm ((f.trans f2).trans f3) o3
  have m1 : Mine c.Hin W2 p := ⟨f2.nF p _ e nd trivial nf, at_.fr.kp p n, f2.ndl e nd⟩
  have m2 : Mine c.Hin W2 p2 := ⟨nf2, at_.fr.kp p2 (f.kp p2 n2), nd2⟩
  have hp : upd H2 T (.tup [.ref p, .ref p2]) p = some (.lst vs) := f3.sH p _ (f2.sH p _ e nd) (f2.ndl e nd)
  have hp2 : upd H2 T (.tup [.ref p, .ref p2]) p2 = some (.lst vs2) := f3.sH p2 _ e2 nd2
  have o1 : ∀ (j : Nat) (t : Sl), c.ρ[j]? = some t → own t = true → σ[j]? ≠ some (some (.ref p)) := own_ne at_ fun o z => by rw [n] at z; cases z
  have o2' : ∀ (j : Nat) (t : Sl), c.ρ[j]? = some t → own t = true → σ[j]? ≠ some (some (.ref p2)) := own_ne at_ fun o z => by rw [f.kp p2 n2] at z; cases z
  have a3 := a2.newOwn (c := { c with W := W2 }) o1 i m1 hp (r.le f2.le)
  have a4 := a3.newOwn (c := { c with W := W2, ρ := c.ρ.set i (.ol xs) }) (fun k t e1 e3 z => by
    rcases set_get e1 with ⟨rfl, rfl⟩ | ⟨nk, e1⟩
    · have hl : i < σ.length := by
        rcases Nat.lt_or_ge i σ.length with y | y
        · exact y
        · rw [List.set_eq_of_length_le y, List.getElem?_eq_none y] at z; cases z
      rw [List.getElem?_set_self hl] at z
      exact ne (V.ref.inj (Option.some.inj (Option.some.inj z)))
    · rw [List.getElem?_set_ne nk] at z
      exact o2' k t e1 e3 z) j m2 hp2 r2
  refine ⟨_, _, rfl, ⟨_, _, rfl, ⟨rfl, ?_⟩⟩⟩
  exact en.nx W2 _ _ _ ⟨a4.lk, a4.fr, a4.el, a4.lo⟩ q2
end
/-- x in one's own list -/
def dInLO (ng : Bool) (a : DE) (i : Nat) : DE := fun X ρ P => a X ρ fun x => ∃ ys, ρ[i]? = some (.ol ys) ∧ shD x = true ∧ shD (.lst ys) = true ∧ P (.bl (ng != ys.any fun z => eqD z x))
section
variable {K : PySem.W.Frag} {C : Ec} {E : XK} {σ : L2.St} {H : Hp} {Q : VK} {D : Ends} {W : Wd} {X : Cx}
theorem le_notinO {a : DE} {i : Nat} (q : liftE K C E (dInLO true a i) σ H Q) : tOp (rNotInD K) (liftE K C E a) (tVar i) σ H Q := by
  obtain ⟨c, P, at_, h, k⟩ := q
  refine ⟨c, _, at_, h, fun W1 H1 v1 x1 f1 o1 r1 ⟨ys, e, h1, h2, q1⟩ => ?_⟩
  have a1 := at_.frm f1 o1
  obtain ⟨p, vs, e1, m, hp, r⟩ := a1.ol e
  have h2' : SeqAt.shaped (.list (toPs ys)) = true := h2
  refine ⟨_, e1, toP x1, toPs ys, dp_of o1.sF r1 (.inl h1), .lst (sql hp) (dps_of o1.sF r (Bool.and_eq_true _ _ ▸ h2' : _ ∧ _).1), h1, h2', by
    rw [any_toPs]
    have := k W1 H1 _ _ f1 o1 (.bl _) q1
    rw [Bool.true_bne] at this
    exact this⟩
theorem le_inLO {a : DE} {i : Nat} (q : liftE K C E (dInLO false a i) σ H Q) : tOp (rInD K) (liftE K C E a) (tVar i) σ H Q := by
  obtain ⟨c, P, at_, h, k⟩ := q
  refine ⟨c, _, at_, h, fun W1 H1 v1 x1 f1 o1 r1 ⟨ys, e, h1, h2, q1⟩ => ?_⟩
  have a1 := at_.frm f1 o1
  obtain ⟨p, vs, e1, m, hp, r⟩ := a1.ol e
  have h2' : SeqAt.shaped (.list (toPs ys)) = true := h2
  refine ⟨_, e1, toP x1, toPs ys, dp_of o1.sF r1 (.inl h1), .lst (sql hp) (dps_of o1.sF r (Bool.and_eq_true _ _ ▸ h2' : _ ∧ _).1), h1, h2', by
    rw [any_toPs]
    have := k W1 H1 _ _ f1 o1 (.bl _) q1
    rw [Bool.false_bne] at this
    exact this⟩
theorem tinO {e : Expr} {p : Pos} {i : Nat} {b : Expr} {da : DE} (hb : OpR X (compareOp .In) (rInD X.K)) (ha : PE X e (liftE X.K C E da)) (hv : PE X b (tVar i)) (hm : behindInMarks .In b = false) : PT X (.Compare e [.In] [b] p) (liftT X.K C E (dB (dInLO false da i))) :=
  PT.imp (pt_cmpR hb ha hv hm) fun _ _ _ q => le_inLO (le_B q)
theorem tnotinO {e : Expr} {p : Pos} {i : Nat} {b : Expr} {da : DE} (hb : OpR X (compareOp .NotIn) (rNotInD X.K)) (ha : PE X e (liftE X.K C E da)) (hv : PE X b (tVar i)) (hm : behindInMarks .NotIn b = false) : PT X (.Compare e [.NotIn] [b] p) (liftT X.K C E (dB (dInLO true da i))) :=
  PT.imp (pt_cmpR hb ha hv hm) fun _ _ _ q => le_notinO (le_B q)
end
theorem d_inLO {X : DX} {ρ : Env} {P : Dt → Prop} {ng : Bool} {a : DE} {i : Nat} (q : a X ρ fun x => ∃ ys, ρ[i]? = some (.ol ys) ∧ shD x = true ∧ shD (.lst ys) = true ∧ P (.bl (ng != ys.any fun z => eqD z x))) : dInLO ng a i X ρ P := q
/-- sorted ints -/
def dSortI (a : DA) : DN := fun X ρ P => a X ρ fun xs => ∃ ns : List Int, xs = [.lst (ns.map Dt.int)] ∧ ∀ ms : List Int, ms.Perm ns → ms.Pairwise (· ≤ ·) → P (ms.map Dt.int)
theorem le_sortI {K : PySem.W.Frag} {C : Ec} {E : XK} {σ : L2.St} {H : Hp} {Q : VK} {a : DA} (q : liftN K C E (dSortI a) σ H Q) : tCB (rSortedI K) (liftA K C E a) σ H Q := by
  obtain ⟨c, P, at_, h, k⟩ := q
  refine ⟨c, _, at_, h, fun W1 H1 v1 x1 f1 o1 r1 ⟨ns, e, q1⟩ => ?_⟩
  subst e
  obtain ⟨v, rfl, rv⟩ := rpl1 r1
  obtain ⟨a, vs, rfl, hs, rs⟩ := rp_lst rv
  obtain rfl := RpL.of_ints rs
  refine ⟨a, ns, rfl, sql (o1.sF _ _ hs), fun ms p h1 h2 n => ?_⟩
  exact k W1 _ p _ _ (f1.trans (Frm.laid n)) (o1.laid n) (f1.kp p n) (o1.fr n) (o1.dice_ne n) upd_same RpL.ints (q1 ms h1 h2)
theorem nsortI {X : Cx} {C : Ec} {E : XK} {e : Expr} {dA : DA} (h : PE X e (tCB (rSortedI X.K) (liftA X.K C E dA))) : PE X e (liftN X.K C E (dSortI dA)) := PE.imp h fun _ _ _ => le_sortI
theorem d_sortI {X : DX} {ρ : Env} {P : List Dt → Prop} {a : DA} (q : a X ρ fun xs => ∃ ns : List Int, xs = [.lst (ns.map Dt.int)] ∧ ∀ ms : List Int, ms.Perm ns → ms.Pairwise (· ≤ ·) → P (ms.map Dt.int)) : dSortI a X ρ P := q
theorem d_parN {X : DX} {ρ : Env} {D : DEnds} {i j : Nat} {a b : DN} (q : a X ρ fun xs => b X ρ fun ys => D.nx ((ρ.set i (.ol xs)).set j (.ol ys))) : dParN i j a b D X ρ := q
end Dx
end
section
/-! steps: two walked side by side, own dicts by rows, comprehensions over what comes of a list -/
namespace Dx
open PySem L2 RT Sx
section
variable {X : DX} {ρ : Env} {D : DEnds} {PA : List Dt → Prop} {e : DE} {t : DT} {p : Pt} {ρ0 : Env}
theorem d_enumZ {a : DA} (q : a X ρ fun xs => ∃ ys zs, xs = [.lst ys, .lst zs] ∧ PA ((List.range (min ys.length zs.length)).zipWith (fun i y => .tup [nat i, y]) (ys.zipWith (fun y z => .tup [y, z]) zs))) : dEnumZ a X ρ PA := q
theorem d_zipX {a : DA} (q : a X ρ fun xs => ∃ ys zs, xs = [.ktup ys, .lst zs] ∧ PA (ys.zipWith (fun y z => .tup [y, z]) zs)) : dZipX a X ρ PA := q
theorem enumZ_get {ys zs : List Dt} {i : Nat} {x : Dt} (h : ((List.range (min ys.length zs.length)).zipWith (fun i y => Dt.tup [nat i, y]) (ys.zipWith (fun y z => .tup [y, z]) zs))[i]? = some x) : ∃ y z, ys[i]? = some y ∧ zs[i]? = some z ∧ x = .tup [nat i, .tup [y, z]] := by
  rw [List.getElem?_zipWith, List.getElem?_zipWith] at h
  cases hy : ys[i]? with
  | none => rw [hy] at h; split at h <;> simp_all
  | some y =>
    cases hz : zs[i]? with
    | none => rw [hy, hz] at h; split at h <;> simp_all
    | some z =>
      rw [hy, hz] at h
      have h1 := (List.getElem?_eq_some_iff.mp hy).1
      have h2 := (List.getElem?_eq_some_iff.mp hz).1
      rw [List.getElem?_range (by omega)] at h
      exact ⟨y, z, rfl, rfl, (Option.some.inj h).symm⟩
theorem enumZ_len {ys zs : List Dt} : ((List.range (min ys.length zs.length)).zipWith (fun i y => Dt.tup [nat i, y]) (ys.zipWith (fun y z => .tup [y, z]) zs)).length = min ys.length zs.length := by
  rw [List.length_zipWith, List.length_range, List.length_zipWith, Nat.min_self]
theorem zip_get {ys zs : List Dt} {i : Nat} {x : Dt} (h : (ys.zipWith (fun y z => Dt.tup [y, z]) zs)[i]? = some x) : ∃ y z, ys[i]? = some y ∧ zs[i]? = some z ∧ x = .tup [y, z] := by
  rw [List.getElem?_zipWith] at h
  cases hy : ys[i]? with
  | none => rw [hy] at h; simp_all
  | some y =>
    cases hz : zs[i]? with
    | none => rw [hy, hz] at h; simp_all
    | some z =>
      rw [hy, hz] at h
      exact ⟨y, z, rfl, rfl, (Option.some.inj h).symm⟩
theorem map_get {α : Type} {l : List α} {f : α → Dt} {i : Nat} {x : Dt} (h : (l.map f)[i]? = some x) : ∃ a, l[i]? = some a ∧ x = f a := by
  rw [List.getElem?_map] at h
  cases e : l[i]? with
  | none => rw [e] at h; cases h
  | some a => rw [e] at h; exact ⟨a, rfl, (Option.some.inj h).symm⟩
theorem d_compA {α : Type} (l : List α) (f g : α → Dt) (h : ∀ a ∈ l, ∀ N : Dt → Prop, N (g a) → bindD p (f a) ρ0 fun ρ => e X ρ N) {acc : List Dt} (hl : acc.length + l.length ≤ 100000) (q : PA (acc ++ l.map g)) :
    dComp p dYes e ρ0 X (l.map f) acc PA := by
  induction l generalizing acc with
  | nil => rw [List.map_nil, List.append_nil] at q; exact q
  | cons x xs ih =>
    simp only [List.length_cons] at hl
    have h1 := h x List.mem_cons_self (fun y => acc.length ≤ 100000 ∧ dComp p dYes e ρ0 X (xs.map f) (acc ++ [y]) PA) ⟨by omega, ih (fun y hy => h y (List.mem_cons_of_mem _ hy)) (by simp; omega) (by simpa using q)⟩
    have e1 : (fun ρ => dYes X ρ fun k => if k = true then e X ρ fun y => acc.length ≤ 100000 ∧ dComp p dYes e ρ0 X (xs.map f) (acc ++ [y]) PA else dComp p dYes e ρ0 X (xs.map f) acc PA) = fun ρ => e X ρ fun y => acc.length ≤ 100000 ∧ dComp p dYes e ρ0 X (xs.map f) (acc ++ [y]) PA := by
      funext ρ
      unfold dYes
      exact if_pos rfl
    show bindD p (f x) ρ0 (fun ρ => dYes X ρ fun k => if k = true then e X ρ fun y => acc.length ≤ 100000 ∧ dComp p dYes e ρ0 X (xs.map f) (acc ++ [y]) PA else dComp p dYes e ρ0 X (xs.map f) acc PA)
    rw [e1]; exact h1
theorem d_compB {α : Type} (l : List α) (f : α → Dt) (b : α → Bool) (g : α → Dt) (h : ∀ a ∈ l, ∀ N : Option Dt → Prop, N (if b a = true then some (g a) else none) → bindD p (f a) ρ0 fun ρ => t X ρ fun k => if k = true then e X ρ fun y => N (some y) else N none) {acc : List Dt} (hl : acc.length + l.length ≤ 100000) (q : PA (acc ++ (l.filter b).map g)) :
    dComp p t e ρ0 X (l.map f) acc PA := by
  induction l generalizing acc with
  | nil => rw [List.filter_nil, List.map_nil, List.append_nil] at q; exact q
  | cons x xs ih =>
    simp only [List.length_cons] at hl
    refine h x List.mem_cons_self (fun o => match o with | some y => acc.length ≤ 100000 ∧ dComp p t e ρ0 X (xs.map f) (acc ++ [y]) PA | none => dComp p t e ρ0 X (xs.map f) acc PA) ?_
    have h' : ∀ y ∈ xs, ∀ N : Option Dt → Prop, N (if b y = true then some (g y) else none) → bindD p (f y) ρ0 fun ρ => t X ρ fun k => if k = true then e X ρ fun y => N (some y) else N none := fun y hy => h y (List.mem_cons_of_mem _ hy)
    rw [List.filter_cons] at q
    by_cases e1 : b x = true
    · rw [if_pos e1] at q ⊢
      exact ⟨by omega, ih h' (by simp; omega) (by simpa using q)⟩
    · rw [if_neg e1] at q ⊢
      exact ih h' (by omega) q
theorem d_truO {i : Nat} {l : List Dt} {QB : Bool → Prop} (h : ρ[i]? = some (.v (.lst l))) (q : QB (!l.isEmpty)) : dTru (dVar i) X ρ QB := ⟨_, h, .inl ⟨l, rfl, q⟩⟩
theorem d_catLL {a b : DE} (q : a X ρ fun x => b X ρ fun y => ∃ xs ys, x = .lst xs ∧ y = .lst ys ∧ xs.length + ys.length ≤ 100000 ∧ PA (xs ++ ys)) : dCatL a b X ρ PA := q
theorem d_putO {i : Nat} {bb aa : DE} {xs : List Dt} (h : ρ[i]? = some (.ol xs)) (q : aa X ρ fun x => bb X ρ fun y => ∃ k j, y = .int k ∧ ixN xs.length k = some j ∧ D.nx (ρ.set i (.ol (xs.set j x)))) : dPutO i bb aa D X ρ := ⟨xs, h, q⟩
theorem d_frzD {i : Nat} {x : Dt} {t : DS} (h : ρ[i]? = some (.od x)) (q : t D X (ρ.set i (.v x))) : dFrzD i t D X ρ := ⟨x, h, q⟩
end
/-- a row as a key -/
def keyR (g : List Nat) : List Key := g.map fun k : Nat => Sum.inl (k : Int)
theorem keyR_D (g : List Nat) : (keyR g).map keyD = g.map nat := by unfold keyR; rw [List.map_map]; rfl
theorem keyR_inj : ∀ {g h : List Nat}, keyR g = keyR h → g = h
  | [], [], _ => rfl
  | [], _ :: _, e => by cases e
  | _ :: _, [], e => by cases e
  | a :: g, b :: h, e => by
    have e1 := (List.cons.inj e).1
    have e2 : (a : Int) = b := Sum.inl.inj e1
    rw [show a = b by omega, keyR_inj (List.cons.inj e).2]
def headE (g : List Nat) : List Key × Dt := (keyR g, .bl true)
theorem pK_heads {ks : List (List Nat)} {g : List Nat} : pK (ks.map headE) (keyR g) (.bl true) = (if g ∈ ks then ks else ks ++ [g]).map headE := by
  have ha : ((ks.map headE).any fun p => decide (p.1 = keyR g)) = decide (g ∈ ks) := by
    rw [Bool.eq_iff_iff, List.any_eq_true, decide_eq_true_iff]
    constructor
    · rintro ⟨p, hp, e⟩
      obtain ⟨h, hh, rfl⟩ := List.mem_map.mp hp
      rw [← keyR_inj (of_decide_eq_true e)]; exact hh
    · intro h
      exact ⟨_, List.mem_map.mpr ⟨g, h, rfl⟩, decide_eq_true rfl⟩
  unfold pK
  rw [ha]
  by_cases h : g ∈ ks
  · rw [if_pos (decide_eq_true h), if_pos h, List.map_map]
    refine List.map_congr_left fun k _ => ?_
    show (if (headE k).1 = keyR g then ((headE k).1, Dt.bl true) else headE k) = headE k
    split <;> rfl
  · rw [if_neg (by rw [decide_eq_true_iff]; exact h), if_neg h, List.map_append]
    rfl
theorem plB_two {n : Nat} {a b : Dt} (h1 : plB n a = true) (h2 : plB n b = true) : plB (n + 1) (.tup [a, b]) = true := by
  show (decide ([a, b].length ≤ 100000) && (plB n a && (plB n b && true))) = true
  rw [h1, h2]; rfl
theorem plB_nil {n : Nat} : plB (n + 1) (.lst []) = true := rfl
theorem eqD_self {n : Nat} {x : Dt} (h : plB n x = true) : eqD x x = true := PySem.SeqAt.eqv_refl _ (plB_lay n x h).1
theorem d_eqSame {n : Nat} {x : Dt} {P : Dt → Prop} (h : plB n x = true) (hn : n ≤ 60) (q : P (.bl true)) : dEq x x P := ⟨plB_sh h hn, plB_sh h hn, by rw [eqD_self h]; exact q⟩
theorem d_neSame {n : Nat} {x : Dt} {P : Dt → Prop} (h : plB n x = true) (hn : n ≤ 60) (q : P (.bl false)) : dNe x x P := ⟨plB_sh h hn, plB_sh h hn, by rw [eqD_self h]; exact q⟩
end Dx
end
section
/-! tables, faults, heads, over data -/
open PySem L2 RT Sx Dx
local macro_rules | `(tactic| walk_at "d") => `(tactic| first
  | ((with_reducible refine' d_var ?k1 ?_); (case k1 => rfl))
  | with_reducible refine' d_c ?_
  | with_reducible refine' d_op ?_
  | with_reducible refine' d_cons ?_
  | with_reducible refine' d_nil ?_
  | with_reducible refine' d_seq ?_
  | ((with_reducible refine' d_asg1 ?_); try dsimp -proj only [List.set_cons_zero, List.set_cons_succ])
  | with_reducible refine' d_asg ?_
  | with_reducible refine' d_cb ?_
  | ((with_reducible refine' d_asgN ?_); try dsimp -proj only [List.set_cons_zero, List.set_cons_succ])
  | ((with_reducible refine' d_bnm ?_); try dsimp -proj only [List.set_cons_zero, List.set_cons_succ])
  | with_reducible refine' d_btp ?_
  | with_reducible refine' d_bcons ?_
  | with_reducible refine' d_bnil ?_
  | ((with_reducible refine' d_slO ?k1 ?_); (case k1 => rfl))
  | ((with_reducible refine' d_lenO ?k1 ?_); (case k1 => rfl))
  | ((with_reducible refine' d_ixO ?k1 ?_); (case k1 => rfl))
  | ((with_reducible refine' d_app ?k1 ?_); (case k1 => rfl))
  | ((with_reducible refine' d_frz ?k1 ?_); (case k1 => rfl); try dsimp -proj only [List.set_cons_zero, List.set_cons_succ, frzS])
  | with_reducible refine' d_newT ?_
  | ((with_reducible refine' d_newK ?_); try dsimp -proj only [List.set_cons_zero, List.set_cons_succ])
  | with_reducible refine' d_putT ?_
  | with_reducible refine' d_listD ?_
  | with_reducible refine' d_lr2 ?_
  | with_reducible refine' d_enumZ ?_
  | ((with_reducible refine' d_putO ?k1 ?_); (case k1 => rfl))
  | with_reducible refine' d_catLL ?_
  | with_reducible refine' d_zipX ?_
  | ((with_reducible refine' d_frzD ?k1 ?_); (case k1 => rfl); try dsimp -proj only [List.set_cons_zero, List.set_cons_succ])
  | ((with_reducible refine' d_newB ?_); try dsimp -proj only [List.set_cons_zero, List.set_cons_succ])
  | with_reducible refine' d_putB ?_
  | ((with_reducible refine' d_getB ?k1 ?_); (case k1 => rfl))
  | ((with_reducible refine' d_par ?_); try dsimp -proj only [List.set_cons_zero, List.set_cons_succ])
  | ((with_reducible refine' d_par3 ?_); try dsimp -proj only [List.set_cons_zero, List.set_cons_succ])
  | ((with_reducible refine' d_ex2 ?_); try dsimp -proj only [List.set_cons_zero, List.set_cons_succ])
  | ((with_reducible refine' d_ex3 ?_); try dsimp -proj only [List.set_cons_zero, List.set_cons_succ])
  | with_reducible refine' d_isiI ?_
  | with_reducible refine' d_isiS ?_
  | with_reducible refine' d_lnil ?_
  | with_reducible refine' d_lcons ?_
  | with_reducible refine' d_gcd ?_
  | ((with_reducible refine' d_revO ?k1 ?_); (case k1 => rfl))
  | with_reducible refine' d_revL ?_
  | with_reducible refine' d_rev ?_
  | with_reducible refine' d_exrevL ?_
  | with_reducible refine' d_exrevT ?_
  | with_reducible refine' d_lc ?_
  | with_reducible refine' d_rng1 ?_
  | with_reducible refine' d_rng2 ?_
  | ((with_reducible refine' d_exrng ?k1 ?_); (case k1 => omega))
  | ((with_reducible refine' d_exrng2 ?k1 ?k2 ?_); (case k1 => omega); (case k2 => omega))
  | ((with_reducible refine' d_sz ?k1 ?_); (case k1 => simp; done))
  | with_reducible refine' d_tupQ ?_
  | with_reducible refine' d_lstQ ?_
  | with_reducible refine' d_callX ?_
  | with_reducible refine' d_call0 ?_
  | with_reducible refine' d_ifS ?_
  | with_reducible refine' d_B ?_
  | with_reducible refine' d_exbl ?_
  | with_reducible refine' d_ret ?_
  | with_reducible refine' d_drop ?_
  | with_reducible refine' d_next ?_
  | with_reducible refine' d_chain ?_
  | with_reducible refine' d_and ?_
  | with_reducible refine' d_or ?_
  | with_reducible refine' d_not ?_
  | with_reducible refine' d_andV ?_
  | with_reducible refine' d_orV ?_
  | with_reducible refine' d_notV ?_
  | with_reducible refine' d_neR ?_
  | with_reducible refine' d_eqR ?_
  | with_reducible refine' d_ccons ?_
  | ((with_reducible refine' d_cnil ?_); try dsimp -proj only [List.nil_append, List.cons_append])
  | with_reducible refine' d_listOf ?_
  | with_reducible refine' d_oflT ?_
  | with_reducible refine' d_oflL ?_
  | with_reducible refine' d_exsR ?_
  | with_reducible refine' d_lenR ?_
  | ((with_reducible refine' d_retO ?k1 ?_); (case k1 => rfl))
  | with_reducible refine' d_retW ?_
  | with_reducible refine' d_callXN ?_
  | with_reducible refine' d_call0N ?_
  | ((with_reducible refine' d_likeO ?k1 ?_); (case k1 => rfl))
  | with_reducible refine' d_join ?_
  | with_reducible refine' d_split ?_
  | with_reducible refine' d_exstr ?_
  | with_reducible refine' d_asgL ?_
  | with_reducible refine' d_fzD ?_
  | with_reducible refine' d_dc ?_
  | with_reducible refine' d_notInK ?_
  | with_reducible refine' d_inK ?_
  | with_reducible refine' d_getK ?_
  | with_reducible refine' d_exks ?_
  | with_reducible refine' d_raise0 ?_
  | ((with_reducible refine' d_strN ?k1 ?_); (case k1 => omega))
  | with_reducible refine' d_if ?_
  | with_reducible refine' d_un ?_
  | with_reducible refine' d_fz ?_
  | with_reducible refine' d_addN ?_
  | ((with_reducible refine' d_subN ?k1 ?_); (case k1 => omega))
  | ((with_reducible refine' d_mdN ?k1 ?_); (case k1 => omega))
  | ((with_reducible refine' d_fdN ?k1 ?k2 ?_); (case k1 => omega); (case k2 => omega))
  | ((with_reducible refine' d_mulL ?k1 ?k2 ?_); (case k1 => omega); (case k2 => omega))
  | with_reducible refine' d_ltN ?_
  | with_reducible refine' d_leN ?_
  | with_reducible refine' d_gtN ?_
  | with_reducible refine' d_geN ?_
  | with_reducible refine' d_eqN ?_
  | with_reducible refine' d_neN ?_
  | with_reducible refine' d_negN ?_
  | with_reducible refine' d_bit ?_
  | ((with_reducible refine' d_lenT ?_); try rw [List.length_map])
  | ((with_reducible refine' d_lenL ?_); try rw [List.length_map])
  | ((with_reducible refine' d_aug ?k1 ?_); (case k1 => rfl))
  | with_reducible refine' d_slTA ?_
  | with_reducible refine' d_slTo ?_
  | with_reducible refine' d_slFrom ?_
  | with_reducible refine' d_slMid ?_
  | with_reducible refine' d_slT0 ?_
  | ((with_reducible refine' d_catR ?k1 ?_); (case k1 => simp only [List.length_take, List.length_drop, List.length_append, List.length_cons, List.length_nil]; omega))
  | ((with_reducible refine' d_catR1 ?k1 ?_); (case k1 => simp only [List.length_take, List.length_drop, List.length_append, List.length_cons, List.length_nil]; omega))
  | ((with_reducible refine' d_catR2 ?k1 ?_); (case k1 => simp only [List.length_take, List.length_drop, List.length_append, List.length_cons, List.length_nil]; omega))
  | with_reducible refine' d_sumR ?_
  | with_reducible refine' d_revT ?_
  | with_reducible refine' d_keysW ?_
  | with_reducible refine' d_isNN ?_
  | with_reducible refine' d_isNT ?_
  | with_reducible refine' d_notNN ?_
  | with_reducible refine' d_notNT ?_
  | with_reducible refine' d_notNR ?_
  | with_reducible refine' d_isNR ?_
  | with_reducible refine' d_eqNR ?_
  | with_reducible refine' d_neNR ?_
  | with_reducible refine' d_neStr ?_
  | with_reducible refine' d_eqStr ?_
  | with_reducible refine' d_slL ?_
  | with_reducible refine' d_exsT ?_
  | with_reducible refine' d_exsL ?_
  | with_reducible refine' d_nopart ?_
  | with_reducible refine' dw_part ?_
  | with_reducible refine' d_exint ?_
  | with_reducible refine' d_yes1 ?_
  | with_reducible refine' d_itT ?_
  | with_reducible refine' d_itL ?_
  | with_reducible refine' d_itK ?_
  | with_reducible refine' d_exsK ?_
  | with_reducible refine' d_for ?_
  | with_reducible refine' d_tupL ?_
  | with_reducible refine' d_tupT ?_
  | with_reducible refine' i_iteT ?_
  | with_reducible refine' i_iteNT ?_
  | with_reducible refine' i_iteNF ?_
  | with_reducible refine' i_iteF ?_
  | ((with_reducible refine' i_yes ?k1 ?_); (case k1 => omega))
  | ((with_reducible refine' i_nay ?k1 ?_); (case k1 => omega))
  | ((with_reducible refine' i_yesN ?k1 ?_); (case k1 => omega))
  | ((with_reducible refine' i_nayN ?k1 ?_); (case k1 => omega))
  | ((with_reducible refine' i_yesS ?k1 ?_); (case k1 => decide))
  | ((with_reducible refine' i_nayS ?k1 ?_); (case k1 => decide))
  | ((with_reducible refine' i_yesSN ?k1 ?_); (case k1 => decide))
  | ((with_reducible refine' i_naySN ?k1 ?_); (case k1 => decide)))
local macro_rules | `(tactic| walk_at "dgo") => `(tactic| (repeat walk_at "d"; try dsimp -proj only [List.set_cons_zero, List.set_cons_succ]))
local macro_rules | `(tactic| walk_at "b") => `(tactic| (try dsimp -proj only [List.set_cons_zero, List.set_cons_succ]))
namespace Dx
def MULTS : List Nat := [1, 2, 3, 4, 5, 6, 7, 8, 9, 10, 11, 12, 13, 14, 15, 16, 17, 18, 19, 20, 30, 40, 50]
def tableN (h : List Nat) : List (List Nat) := MULTS.map fun m => rowOf (whole h * m)
def rowsD (rs : List (List Nat)) : Dt := .lst (rs.map rowD)
def faultP (p : Nat × List (Str × Nat)) : Dt := .tup [nat p.1, .lst (p.2.map slipP)]
/-- the numbers of the rows that are not the due ones -/
def wrongN (due rows : List (List Nat)) (n : Nat) : List Nat := (List.range n).filter fun i => decide (rows[i]? ≠ due[i]?)
def faultsN (due rows : List (List Nat)) (n : Nat) : List (Nat × List (Str × Nat)) := (wrongN due rows n).map fun i => (i, slipsOf (due.getD i []) (rows.getD i []))
def sp_table : DSp := fun xs P X => (∃ h, IsRow h ∧ xs = [rowD h] ∧ P (rowsD (tableN h))) ∨ ∃ r, rowB r = false ∧ xs = [rowI r] ∧ X 1 []
def sp_faults : DSp := fun xs P X => (∃ h rows, IsRow h ∧ xs = [rowD h, rowsD rows] ∧ rows.length = 23 ∧ (∀ r ∈ rows, r.length ≤ 1000) ∧ P (.lst ((faultsN (tableN h) rows 23).map faultP))) ∨ ∃ r y, rowB r = false ∧ xs = [rowI r, y] ∧ X 1 []
def sp_heads_behind : DSp := fun xs P _ => ∃ rows : List (List Nat), xs = [rowsD rows] ∧ rows.length = 23 ∧ (∀ r ∈ rows, r.length ≤ 100) ∧
  ∀ hs : List (List Nat), hs.length ≤ 23 → (∀ g ∈ hs, IsRow g) → (∀ (g : List Nat) (i : Nat) (r : List Nat), IsRow g → rows[i]? = some r → (tableN g)[i]? = some r → g ∈ hs) → P (rowsD hs)
def sp_head_of : DSp := fun xs P _ => ∃ (rows : List (List Nat)) (h : List Nat), xs = [rowsD rows] ∧ rows.length = 23 ∧ (∀ r ∈ rows, r.length ≤ 100) ∧ IsRow h ∧ (∃ (i : Nat) (r : List Nat), rows[i]? = some r ∧ (tableN h)[i]? = some r) ∧
  (∀ g, IsRow g → g ≠ h → (wrongN (tableN h) rows 23).length < (wrongN (tableN g) rows 23).length) ∧ P (.tup [rowD h, .lst ((faultsN (tableN h) rows 23).map faultP)])
def d_table : DS := (dSeq (dAsg (.nm 1) (dCallX sp_whole_of (dCons (dVar 0) dNil)))
  (dRet (dFz (dLc (dItK (dC (.ktup [(nat 1), (nat 2), (nat 3), (nat 4), (nat 5), (nat 6), (nat 7), (nat 8), (nat 9), (nat 10), (nat 11), (nat 12), (nat 13), (nat 14), (nat 15), (nat 16), (nat 17), (nat 18), (nat 19), (nat 20), (nat 30), (nat 40), (nat 50)]))) (.nm 2) dYes (dCall0 sp_row_of (dCons (dOp dMul (dVar 1) (dVar 2)) dNil)) [2]))))
def d_faults : DS := (dSeq (dAsgN 2 (dLst dNil))
  (dSeq (dFor (dEnumZ (dCons (dCallX sp_table (dCons (dVar 0) dNil)) (dCons (dVar 1) dNil))) (.tp [(.nm 3), (.tp [(.nm 4), (.nm 5)])])
  (dIfS (dB (dOp dNe (dVar 5) (dVar 4))) (dApp 2 (dTup (dCons (dVar 3) (dCons (dCallX sp_slips_between (dCons (dVar 4) (dCons (dVar 5) dNil))) dNil)))) dNext))
  (dFrz 2 (dRet (dVar 2)))))
def d_heads_behind : DS := (dSeq (dAsgD 1 dNewT)
  (dSeq (dFor (dZipX (dCons (dC (.ktup [(nat 1), (nat 2), (nat 3), (nat 4), (nat 5), (nat 6), (nat 7), (nat 8), (nat 9), (nat 10), (nat 11), (nat 12), (nat 13), (nat 14), (nat 15), (nat 16), (nat 17), (nat 18), (nat 19), (nat 20), (nat 30), (nat 40), (nat 50)])) (dCons (dVar 0) dNil))) (.tp [(.nm 2), (.nm 3)])
  (dIfS (dAnd (dB (dCallX sp_is_long_row (dCons (dVar 3) dNil))) (dB (dOp dEqS (dOp dMd (dCallX sp_number_of (dCons (dVar 3) dNil)) (dCallX sp_left_of (dCons (dVar 2) dNil))) (dC (nat 0))))) (dSeq (dAsg (.tp [(.nm 4), (.nm 5)]) (dCallX sp_parted (dCons (dCallX sp_number_of (dCons (dVar 3) dNil)) (dCons (dVar 2) dNil))))
  (dSeq (dAsg (.nm 6) (dCallX sp_row_of (dCons (dVar 4) dNil)))
  (dIfS (dB (dCallX sp_is_row (dCons (dVar 6) dNil))) (dPutT 1 (dVar 6) (dC (.bl true))) dNext))) dNext))
  (dFrzD 1 (dRet (dFz (dListD (dCons (dVar 1) dNil)))))))
def d_head_of : DS := (dSeq (dAsg (.nm 1) (dCallX sp_heads_behind (dCons (dVar 0) dNil)))
  (dSeq (dIfS (dNot (dTru (dVar 1))) (dRaise0 1) dNext)
  (dSeq (dAsg (.nm 2) (dFz (dLc (dItL (dVar 1)) (.nm 5) dYes (dTup (dCons (dCB dLen (dCons (dCall0 sp_faults (dCons (dVar 5) (dCons (dVar 0) dNil))) dNil)) (dCons (dVar 5) dNil))) [5])))
  (dSeq (dAsg (.tp [(.nm 3), (.nm 4)]) (dCB dMinP (dCons (dVar 2) dNil)))
  (dRet (dTup (dCons (dVar 4) (dCons (dCallX sp_faults (dCons (dVar 4) (dCons (dVar 0) dNil))) dNil))))))))

theorem mults_lit : ([nat 1, nat 2, nat 3, nat 4, nat 5, nat 6, nat 7, nat 8, nat 9, nat 10, nat 11, nat 12, nat 13, nat 14, nat 15, nat 16, nat 17, nat 18, nat 19, nat 20, nat 30, nat 40, nat 50] : List Dt) = MULTS.map nat := rfl
section
variable {xs : List Dt} {P : Dt → Prop} {X : DX}
theorem mults_pos {m : Nat} (h : m ∈ MULTS) : 0 < m ∧ m ≤ 50 := by
  unfold MULTS at h
  simp only [List.mem_cons, List.not_mem_nil, or_false] at h
  omega
theorem tab_len (h : List Nat) : (tableN h).length = 23 := by unfold tableN; rw [List.length_map]; rfl
theorem tab_at {h r : List Nat} {i : Nat} (e : (tableN h)[i]? = some r) : ∃ m, MULTS[i]? = some m ∧ m ∈ MULTS ∧ r = rowOf (whole h * m) := by
  unfold tableN at e
  rw [List.getElem?_map] at e
  cases z : MULTS[i]? with
  | none => rw [z] at e; cases e
  | some m => rw [z] at e; exact ⟨m, rfl, List.mem_of_getElem? z, (Option.some.inj e).symm⟩
theorem w_small {h : List Nat} (i : IsRow h) {m : Nat} (hm : m ≤ 50) : whole h * m < 60 ^ 13 := by
  have := whole12 i
  rw [show (60 : Nat) ^ 13 = 60 ^ 12 * 60 by decide]
  exact Nat.lt_of_le_of_lt (Nat.mul_le_mul_left _ (show m ≤ 59 by omega)) (by omega)
theorem tab_small {h r : List Nat} (ih : IsRow h) {i : Nat} (e : (tableN h)[i]? = some r) : r.length ≤ 13 ∧ LongRow r := by
  obtain ⟨m, _, hm, rfl⟩ := tab_at e
  obtain ⟨p, hl⟩ := mults_pos hm
  have wp := whole_pos (row_ne ih) ih.hd
  have hn : 0 < whole h * m := Nat.mul_pos wp p
  obtain ⟨k, hk⟩ := figs_strip hn
  have := figs_len (w_small ih hl)
  rw [hk, List.length_append] at this
  exact ⟨by omega, rowOf_long hn⟩
theorem log13 {n : Nat} (h : n < 60 ^ 13) : n.log2 < 100 := log2_lt (Nat.lt_of_lt_of_le h (by decide)) (by omega)
theorem dp_table (h : sp_table xs P X) : d_table (dEnds P) X (startD xs (3 - xs.length)) := by
  rcases h with ⟨h, ih, rfl, q⟩ | ⟨r, hr, rfl, q⟩
  · show d_table (dEnds P) X [.v (rowD h), .un, .un]
    unfold d_table
    rw [mults_lit]
    walk_at "dgo"
    refine .inl ⟨h, ih, rfl, ?_⟩
    walk_at "dgo"
    refine d_compA MULTS nat (fun m => rowD (rowOf (whole h * m))) (fun m hm N q => ?_) (acc := []) (by decide) ?_
    · obtain ⟨p, hl⟩ := mults_pos hm
      walk_at "dgo"
      refine d_mulL (Nat.lt_of_lt_of_le (whole12 ih) (by decide)) (by omega) ?_
      walk_at "dgo"
      exact ⟨_, rfl, Nat.mul_pos (whole_pos (row_ne ih) ih.hd) p, by have := log13 (w_small ih hl); omega, q⟩
    · walk_at "dgo"
      rw [List.nil_append, show MULTS.map (fun m => rowD (rowOf (whole h * m))) = (tableN h).map rowD by unfold tableN; rw [List.map_map]; rfl]
      exact q
  · show d_table (dEnds P) X [.v (rowI r), .un, .un]
    unfold d_table
    rw [mults_lit]
    walk_at "dgo"
    exact .inr ⟨r, hr, rfl, q⟩
theorem wrong_snoc {due rows : List (List Nat)} {n : Nat} : wrongN due rows (n + 1) = wrongN due rows n ++ if rows[n]? ≠ due[n]? then [n] else [] := by
  unfold wrongN
  rw [List.range_succ, List.filter_append]
  congr 1
  by_cases h : rows[n]? = due[n]? <;> simp [h]
theorem dp_faults (h : sp_faults xs P X) : d_faults (dEnds P) X (startD xs (6 - xs.length)) := by
  rcases h with ⟨h, rows, ih, rfl, hl, hz, q⟩ | ⟨r, y, hr, rfl, q⟩
  · show d_faults (dEnds P) X [.v (rowD h), .v (rowsD rows), .un, .un, .un, .un]
    unfold d_faults
    walk_at "dgo"
    refine .inl ⟨h, ih, rfl, ?_⟩
    walk_at "dgo"
    refine ⟨_, _, rfl, ?_⟩
    refine d_loop (fun i ρ => ∃ s3 s4 s5, ρ = [.v (rowD h), .v (rowsD rows), .ol ((faultsN (tableN h) rows i).map faultP), s3, s4, s5]) ⟨_, _, _, rfl⟩ ?_ ?_
    · rintro i x ρ N hx ⟨s3, s4, s5, rfl⟩ hN
      obtain ⟨y, z, hy, hz2, rfl⟩ := enumZ_get hx
      obtain ⟨due, hd, rfl⟩ := map_get hy
      obtain ⟨told, ht, rfl⟩ := map_get hz2
      have hi : i < 23 := by rw [← hl]; exact (List.getElem?_eq_some_iff.mp ht).1
      have hN' : ∀ s3 s4 s5, N [.v (rowD h), .v (rowsD rows), .ol ((faultsN (tableN h) rows i).map faultP ++ if told ≠ due then [faultP (i, slipsOf due told)] else []), s3, s4, s5] := fun s3 s4 s5 => by
        refine hN _ ⟨s3, s4, s5, ?_⟩
        unfold faultsN
        rw [wrong_snoc, ht, hd]
        by_cases e : told = due
        · rw [if_neg (not_not_intro e), if_neg (not_not_intro (by rw [e])), List.append_nil, List.append_nil]
        · rw [if_pos e, if_pos (fun z => e (Option.some.inj z)), List.map_append, List.map_append]
          have g1 : (tableN h).getD i [] = due := by rw [List.getD_eq_getElem?_getD, hd]; rfl
          have g2 : rows.getD i [] = told := by rw [List.getD_eq_getElem?_getD, ht]; rfl
          simp only [List.map_cons, List.map_nil, g1, g2]
      have l1 := (tab_small ih hd).1
      have l2 := hz told (List.mem_of_getElem? ht)
      walk_at "dgo"
      by_cases e : told = due
      · refine i_nayN e ?_
        walk_at "dgo"
        have := hN' (.v (nat i)) (.v (rowD due)) (.v (rowD told))
        rw [if_neg (not_not_intro e), List.append_nil] at this
        exact this
      · refine i_yesN e ?_
        walk_at "dgo"
        refine ⟨due, told, rfl, by omega, l2, ?_⟩
        walk_at "dgo"
        have := hN' (.v (nat i)) (.v (rowD due)) (.v (rowD told))
        rw [if_pos e] at this
        refine ⟨?_, this⟩
        have hf := List.length_filter_le (fun i => decide (rows[i]? ≠ (tableN h)[i]?)) (List.range i)
        unfold faultsN wrongN
        rw [List.length_map, List.length_map]
        rw [List.length_range] at hf
        omega
    · rintro ρ ⟨s3, s4, s5, rfl⟩
      rw [enumZ_len, List.length_map, List.length_map, tab_len, hl]
      walk_at "dgo"
      exact q
  · show d_faults (dEnds P) X [.v (rowI r), .v y, .un, .un, .un, .un]
    unfold d_faults
    walk_at "dgo"
    exact .inr ⟨r, hr, rfl, q⟩
theorem cast_inj : ∀ {a b : List Nat}, (a.map fun n : Nat => (n : Int)) = (b.map fun n : Nat => (n : Int)) → a = b
  | [], [], _ => rfl
  | [], _ :: _, e => by cases e
  | _ :: _, [], e => by cases e
  | x :: a, y :: b, e => by
    have e1 : (x : Int) = y := (List.cons.inj e).1
    rw [show x = y by omega, cast_inj (List.cons.inj e).2]
theorem dp_heads_behind (h : sp_heads_behind xs P X) : d_heads_behind (dEnds P) X (startD xs (7 - xs.length)) := by
  obtain ⟨rows, rfl, hl, hz, q⟩ := h
  show d_heads_behind (dEnds P) X [.v (rowsD rows), .un, .un, .un, .un, .un, .un]
  unfold d_heads_behind
  rw [mults_lit]
  walk_at "dgo"
  refine ⟨_, _, rfl, ?_⟩
  refine d_loop (fun i ρ => ∃ (ks : List (List Nat)) (s2 s3 s4 s5 s6 : Sl), ρ = [.v (rowsD rows), .od (.dT (ks.map headE)), s2, s3, s4, s5, s6] ∧ ks.length ≤ i ∧ (∀ g ∈ ks, IsRow g) ∧
    (∀ (g : List Nat) (j : Nat) (r : List Nat), j < i → IsRow g → rows[j]? = some r → (tableN g)[j]? = some r → g ∈ ks)) ⟨[], _, _, _, _, _, rfl, Nat.le_refl _, (fun g hg => nomatch hg), fun g j r hj => absurd hj (Nat.not_lt_zero _)⟩ ?_ ?_
  · rintro i x ρ N hx ⟨ks, s2, s3, s4, s5, s6, rfl, hk, hr, hc⟩ hN
    obtain ⟨y, z, hy, hz2, rfl⟩ := zip_get hx
    obtain ⟨m, hm, rfl⟩ := map_get hy
    obtain ⟨told, ht, rfl⟩ := map_get hz2
    obtain ⟨mp, ml⟩ := mults_pos (List.mem_of_getElem? hm)
    have htl := hz told (List.mem_of_getElem? ht)
    -- nothing is added
    have no : (∀ g, IsRow g → (tableN g)[i]? = some told → g ∈ ks) → ∀ s2 s3 s4 s5 s6, N [.v (rowsD rows), .od (.dT (ks.map headE)), s2, s3, s4, s5, s6] := fun h s2 s3 s4 s5 s6 => by
      refine hN _ ⟨ks, s2, s3, s4, s5, s6, rfl, by omega, hr, fun g j r hj ig h1 h2 => ?_⟩
      rcases Nat.lt_or_ge j i with l | l
      · exact hc g j r l ig h1 h2
      · obtain rfl : j = i := by omega
        rw [ht] at h1
        obtain rfl := Option.some.inj h1
        exact h g ig h2
    have tabm : ∀ g, IsRow g → (tableN g)[i]? = some told → told = rowOf (whole g * m) := fun g _ e => by
      obtain ⟨m', e1, _, e2⟩ := tab_at e
      rw [hm] at e1
      obtain rfl := Option.some.inj e1
      exact e2
    walk_at "dgo"
    refine ⟨_, by rw [rowD_I], ?_⟩
    cases hb : longB (told.map fun n : Nat => (n : Int)) with
    | false =>
      walk_at "dgo"
      refine no (fun g ig e => ?_) _ _ _ _ _
      have lr : LongRow told := by rw [tabm g ig e]; exact rowOf_long (Nat.mul_pos (whole_pos (row_ne ig) ig.hd) mp)
      have := longB_iff.mpr ⟨told, lr, rfl⟩
      rw [hb] at this; cases this
    | true =>
      obtain ⟨t', lr, e⟩ := longB_iff.mp hb
      have : told = t' := cast_inj e
      subst this
      have wp : 0 < whole told := whole_pos lr.ne lr.hd
      have wl : whole told < 60 ^ 100 := whole_lt lr.fig htl
      have wg : (whole told).log2 < 600 := log2_lt (Nat.lt_of_lt_of_le wl (by decide +kernel)) (by omega)
      walk_at "dgo"
      have lp := left_pos mp
      have m6 : m.log2 < 6 := log2_lt (by omega) (by omega)
      -- what comes of a row's table here
      have here : ∀ g, IsRow g → (tableN g)[i]? = some told → whole told % leftN m = 0 ∧ ∀ q k : Nat, 0 < q → q * m = whole told * 60 ^ k → rowOf q = g := fun g ig e => by
        have et := tabm g ig e
        have gp := whole_pos (row_ne ig) ig.hd
        refine ⟨?_, fun q k hq he => ?_⟩
        · rw [et, whole_rowOf]
          exact left_strip mp (Nat.mul_pos gp mp) (Nat.dvd_trans (left_dvd mp) (Nat.dvd_mul_left _ _))
        · rw [et, whole_rowOf] at he
          rw [part_eq gp mp hq he, rowOf_whole ig]
      refine ⟨told, rfl, lr.fig, by omega, ?_⟩
      walk_at "dgo"
      refine ⟨m, rfl, mp, ?_⟩
      walk_at "dgo"
      by_cases hd : whole told % leftN m = 0
      · refine i_yes hd ?_
        walk_at "dgo"
        refine ⟨told, rfl, lr.fig, by omega, ?_⟩
        walk_at "dgo"
        refine ⟨whole told, m, rfl, wp, mp, Nat.dvd_of_mod_eq_zero hd, by omega, by omega, fun qq k hk2 hq he _ => ?_⟩
        have qs : qq < 60 ^ 107 := by
          have e1 : qq ≤ qq * m := Nat.le_mul_of_pos_right _ mp
          have e2 : whole told * 60 ^ k ≤ whole told * 60 ^ 7 := Nat.mul_le_mul_left _ (Nat.pow_le_pow_right (by decide) (by omega))
          have e3 : whole told * 60 ^ 7 < 60 ^ 100 * 60 ^ 7 := Nat.mul_lt_mul_of_pos_right wl (by decide)
          rw [← Nat.pow_add] at e3
          omega
        have ql : qq.log2 < 700 := log2_lt (Nat.lt_of_lt_of_le qs (by decide +kernel)) (by omega)
        walk_at "dgo"
        refine ⟨qq, rfl, hq, by omega, ?_⟩
        walk_at "dgo"
        refine ⟨_, by rw [rowD_I], ?_⟩
        cases hb2 : rowB ((rowOf qq).map fun n : Nat => (n : Int)) with
        | true =>
          obtain ⟨r', ir, e2⟩ := rowB_iff.mp hb2
          obtain rfl := cast_inj e2
          walk_at "dgo"
          refine ⟨_, rfl, ?_⟩
          walk_at "dgo"
          refine ⟨keyR (rowOf qq), by rw [keyR_D]; rfl, by rw [List.length_map]; have := (List.getElem?_eq_some_iff.mp ht).1; omega, ?_⟩
          rw [pK_heads]
          refine hN _ ⟨_, _, _, _, _, _, rfl, ?_, fun g hg => ?_, fun g j r hj ig h1 h2 => ?_⟩
          · split
            · omega
            · rw [List.length_append]; simp; omega
          · split at hg
            · exact hr g hg
            · rcases List.mem_append.mp hg with h | h
              · exact hr g h
              · rw [List.mem_singleton.mp h]; exact ir
          · have hm2 : g ∈ ks ∨ g = rowOf qq := by
              rcases Nat.lt_or_ge j i with l | l
              · exact .inl (hc g j r l ig h1 h2)
              · obtain rfl : j = i := by omega
                rw [ht] at h1
                obtain rfl := Option.some.inj h1
                exact .inr ((here g ig h2).2 qq k hq he).symm
            split
            · rcases hm2 with h | h
              · exact h
              · rw [h]; assumption
            · rcases hm2 with h | h
              · exact List.mem_append_left _ h
              · rw [h]; exact List.mem_append_right _ List.mem_cons_self
        | false =>
          walk_at "dgo"
          refine no (fun g ig e => ?_) _ _ _ _ _
          have := (here g ig e).2 qq k hq he
          rw [this] at hb2
          rw [rowB_iff.mpr ⟨g, ig, rfl⟩] at hb2
          cases hb2
      · refine i_nay hd ?_
        walk_at "dgo"
        exact no (fun g ig e => absurd (here g ig e).1 hd) _ _ _ _ _
  · rintro ρ ⟨ks, s2, s3, s4, s5, s6, rfl, hk, hr, hc⟩
    have hlen : ((MULTS.map nat).zipWith (fun y z => Dt.tup [y, z]) (rows.map rowD)).length = 23 := by
      rw [List.length_zipWith, List.length_map, List.length_map, hl]; rfl
    rw [hlen] at hk hc
    walk_at "dgo"
    refine ⟨_, rfl, ?_⟩
    walk_at "dgo"
    rw [List.map_map, show ks.map ((fun p => Dt.tup (List.map keyD p.1)) ∘ headE) = ks.map rowD from List.map_congr_left fun g _ => by show Dt.tup ((keyR g).map keyD) = rowD g; rw [keyR_D]; rfl]
    exact q ks hk hr fun g j r ig h1 h2 => hc g j r (by rw [← hl]; exact (List.getElem?_eq_some_iff.mp h1).1) ig h1 h2
theorem dp_head_of (h : sp_head_of xs P X) : d_head_of (dEnds P) X (startD xs (6 - xs.length)) := by
  obtain ⟨rows, h, rfl, hl, hz, ih, ⟨i, r, hi, hi2⟩, hm, q⟩ := h
  show d_head_of (dEnds P) X [.v (rowsD rows), .un, .un, .un, .un, .un]
  unfold d_head_of
  walk_at "dgo"
  refine ⟨rows, rfl, hl, hz, fun hs hk hr hc => ?_⟩
  have hh : h ∈ hs := hc h i r ih hi hi2
  walk_at "dgo"
  refine d_truO (l := hs.map rowD) rfl ?_
  have hne : (hs.map rowD).isEmpty = false := by cases hs with | nil => cases hh | cons a b => rfl
  rw [hne]
  refine i_iteF ?_
  walk_at "dgo"
  refine ⟨_, rfl, ?_⟩
  refine d_compA hs rowD (fun g => pairD ((wrongN (tableN g) rows 23).length, g)) (fun g hg N q => ?_) (acc := []) (by show 0 + _ ≤ _; omega) ?_
  · walk_at "dgo"
    refine .inl ⟨g, rows, hr g hg, rfl, hl, fun r hr => Nat.le_trans (hz r hr) (by decide), ?_⟩
    walk_at "dgo"
    unfold faultsN
    rw [List.length_map]
    exact q
  · rw [List.nil_append]
    walk_at "dgo"
    rw [show hs.map (fun g => pairD ((wrongN (tableN g) rows 23).length, g)) = (hs.map fun g => ((wrongN (tableN g) rows 23).length, g)).map pairD by rw [List.map_map]; rfl]
    refine d_minP (y := ((wrongN (tableN h) rows 23).length, h)) (List.mem_map.mpr ⟨h, hh, rfl⟩) (fun p hp => ?_) ?_
    · obtain ⟨g, hg, rfl⟩ := List.mem_map.mp hp
      by_cases e : g = h
      · subst e; exact .inl rfl
      · exact .inr (hm g (hr g hg) e)
    · walk_at "dgo"
      rw [show pairD ((wrongN (tableN h) rows 23).length, h) = .tup [nat (wrongN (tableN h) rows 23).length, rowD h] from rfl]
      walk_at "dgo"
      refine .inl ⟨h, rows, ih, rfl, hl, fun r hr => Nat.le_trans (hz r hr) (by decide), ?_⟩
      walk_at "dgo"
      exact q
end
end Dx
end
section
/-! the laws' own spoiling, over data -/
open PySem L2 RT Sx Dx
local macro_rules | `(tactic| walk_at "d") => `(tactic| first
  | ((with_reducible refine' d_var ?k1 ?_); (case k1 => rfl))
  | with_reducible refine' d_c ?_
  | with_reducible refine' d_op ?_
  | with_reducible refine' d_cons ?_
  | with_reducible refine' d_nil ?_
  | with_reducible refine' d_seq ?_
  | ((with_reducible refine' d_asg1 ?_); try dsimp -proj only [List.set_cons_zero, List.set_cons_succ])
  | with_reducible refine' d_asg ?_
  | with_reducible refine' d_cb ?_
  | ((with_reducible refine' d_asgN ?_); try dsimp -proj only [List.set_cons_zero, List.set_cons_succ])
  | ((with_reducible refine' d_bnm ?_); try dsimp -proj only [List.set_cons_zero, List.set_cons_succ])
  | with_reducible refine' d_btp ?_
  | with_reducible refine' d_bcons ?_
  | with_reducible refine' d_bnil ?_
  | ((with_reducible refine' d_slO ?k1 ?_); (case k1 => rfl))
  | ((with_reducible refine' d_lenO ?k1 ?_); (case k1 => rfl))
  | ((with_reducible refine' d_ixO ?k1 ?_); (case k1 => rfl))
  | ((with_reducible refine' d_app ?k1 ?_); (case k1 => rfl))
  | ((with_reducible refine' d_frz ?k1 ?_); (case k1 => rfl); try dsimp -proj only [List.set_cons_zero, List.set_cons_succ, frzS])
  | with_reducible refine' d_lnil ?_
  | with_reducible refine' d_lcons ?_
  | with_reducible refine' d_gcd ?_
  | ((with_reducible refine' d_revO ?k1 ?_); (case k1 => rfl))
  | with_reducible refine' d_revL ?_
  | with_reducible refine' d_rev ?_
  | with_reducible refine' d_exrevL ?_
  | with_reducible refine' d_exrevT ?_
  | with_reducible refine' d_lc ?_
  | with_reducible refine' d_rng1 ?_
  | with_reducible refine' d_rng2 ?_
  | ((with_reducible refine' d_exrng ?k1 ?_); (case k1 => omega))
  | ((with_reducible refine' d_exrng2 ?k1 ?k2 ?_); (case k1 => omega); (case k2 => omega))
  | ((with_reducible refine' d_sz ?k1 ?_); (case k1 => simp; done))
  | with_reducible refine' d_tupQ ?_
  | with_reducible refine' d_lstQ ?_
  | with_reducible refine' d_callX ?_
  | with_reducible refine' d_call0 ?_
  | with_reducible refine' d_ifS ?_
  | with_reducible refine' d_B ?_
  | with_reducible refine' d_exbl ?_
  | with_reducible refine' d_ret ?_
  | with_reducible refine' d_drop ?_
  | with_reducible refine' d_next ?_
  | with_reducible refine' d_chain ?_
  | with_reducible refine' d_and ?_
  | with_reducible refine' d_or ?_
  | with_reducible refine' d_not ?_
  | with_reducible refine' d_andV ?_
  | with_reducible refine' d_orV ?_
  | with_reducible refine' d_notV ?_
  | with_reducible refine' d_neR ?_
  | with_reducible refine' d_eqR ?_
  | with_reducible refine' d_ccons ?_
  | ((with_reducible refine' d_cnil ?_); try dsimp -proj only [List.nil_append, List.cons_append])
  | with_reducible refine' d_listOf ?_
  | with_reducible refine' d_oflT ?_
  | with_reducible refine' d_oflL ?_
  | with_reducible refine' d_exsR ?_
  | with_reducible refine' d_lenR ?_
  | with_reducible refine' d_join ?_
  | with_reducible refine' d_split ?_
  | with_reducible refine' d_exstr ?_
  | with_reducible refine' d_asgL ?_
  | with_reducible refine' d_fzD ?_
  | with_reducible refine' d_dc ?_
  | with_reducible refine' d_notInK ?_
  | with_reducible refine' d_inK ?_
  | with_reducible refine' d_getK ?_
  | with_reducible refine' d_exks ?_
  | with_reducible refine' d_raise0 ?_
  | ((with_reducible refine' d_strN ?k1 ?_); (case k1 => omega))
  | with_reducible refine' d_if ?_
  | with_reducible refine' d_un ?_
  | with_reducible refine' d_fz ?_
  | with_reducible refine' d_addN ?_
  | ((with_reducible refine' d_subN ?k1 ?_); (case k1 => omega))
  | ((with_reducible refine' d_mdN ?k1 ?_); (case k1 => omega))
  | ((with_reducible refine' d_fdN ?k1 ?k2 ?_); (case k1 => omega); (case k2 => omega))
  | ((with_reducible refine' d_mulL ?k1 ?k2 ?_); (case k1 => omega); (case k2 => omega))
  | with_reducible refine' d_ltN ?_
  | with_reducible refine' d_leN ?_
  | with_reducible refine' d_gtN ?_
  | with_reducible refine' d_geN ?_
  | with_reducible refine' d_eqN ?_
  | with_reducible refine' d_neN ?_
  | with_reducible refine' d_negN ?_
  | with_reducible refine' d_bit ?_
  | ((with_reducible refine' d_lenT ?_); try rw [List.length_map])
  | ((with_reducible refine' d_lenL ?_); try rw [List.length_map])
  | ((with_reducible refine' d_aug ?k1 ?_); (case k1 => rfl))
  | with_reducible refine' d_slTA ?_
  | with_reducible refine' d_slTo ?_
  | with_reducible refine' d_slFrom ?_
  | with_reducible refine' d_slMid ?_
  | with_reducible refine' d_slT0 ?_
  | ((with_reducible refine' d_catR ?k1 ?_); (case k1 => simp only [List.length_take, List.length_drop, List.length_append, List.length_cons, List.length_nil]; omega))
  | ((with_reducible refine' d_catR1 ?k1 ?_); (case k1 => simp only [List.length_take, List.length_drop, List.length_append, List.length_cons, List.length_nil]; omega))
  | ((with_reducible refine' d_catR2 ?k1 ?_); (case k1 => simp only [List.length_take, List.length_drop, List.length_append, List.length_cons, List.length_nil]; omega))
  | with_reducible refine' d_sumR ?_
  | with_reducible refine' d_revT ?_
  | with_reducible refine' d_keysW ?_
  | with_reducible refine' d_isNN ?_
  | with_reducible refine' d_isNT ?_
  | with_reducible refine' d_notNN ?_
  | with_reducible refine' d_notNT ?_
  | with_reducible refine' d_notNR ?_
  | with_reducible refine' d_isNR ?_
  | with_reducible refine' d_eqNR ?_
  | with_reducible refine' d_neNR ?_
  | with_reducible refine' d_neStr ?_
  | with_reducible refine' d_eqStr ?_
  | with_reducible refine' d_slL ?_
  | with_reducible refine' d_exsT ?_
  | with_reducible refine' d_exsL ?_
  | with_reducible refine' d_nopart ?_
  | with_reducible refine' dw_part ?_
  | with_reducible refine' d_exint ?_
  | with_reducible refine' d_yes1 ?_
  | with_reducible refine' d_itT ?_
  | with_reducible refine' d_itL ?_
  | with_reducible refine' d_itK ?_
  | with_reducible refine' d_exsK ?_
  | with_reducible refine' d_for ?_
  | with_reducible refine' d_tupL ?_
  | with_reducible refine' d_tupT ?_
  | with_reducible refine' i_iteT ?_
  | with_reducible refine' i_iteNT ?_
  | with_reducible refine' i_iteNF ?_
  | with_reducible refine' i_iteF ?_
  | ((with_reducible refine' i_yes ?k1 ?_); (case k1 => omega))
  | ((with_reducible refine' i_nay ?k1 ?_); (case k1 => omega))
  | ((with_reducible refine' i_yesN ?k1 ?_); (case k1 => omega))
  | ((with_reducible refine' i_nayN ?k1 ?_); (case k1 => omega))
  | ((with_reducible refine' i_yesS ?k1 ?_); (case k1 => decide))
  | ((with_reducible refine' i_nayS ?k1 ?_); (case k1 => decide))
  | ((with_reducible refine' i_yesSN ?k1 ?_); (case k1 => decide))
  | ((with_reducible refine' i_naySN ?k1 ?_); (case k1 => decide)))
local macro_rules | `(tactic| walk_at "dgo") => `(tactic| (repeat walk_at "d"; try dsimp -proj only [List.set_cons_zero, List.set_cons_succ]))
namespace Dx
def d__law_spoilt : DS := (dSeq (dFor (dRng1 (dCons (dOp dAdd (dC (nat 1)) (dCB dInt1 (dCons (dOp dEqS (dCall0 sp__law_next (dCons (dVar 0) (dCons (dC (nat 5)) dNil))) (dC (nat 4))) dNil))) dNil)) (.nm 2)
  (dSeq (dAsg (.nm 3) (dCall0 sp__law_next (dCons (dVar 0) (dCons (dCB dLen (dCons (dVar 1) dNil)) dNil))))
  (dSeq (dAsg (.nm 4) (dOp dIxL (dFz (dLst (dCons (dC (.str "figure")) (dCons (dC (.str "left")) (dCons (dC (.str "twice")) (dCons (dC (.str "joined")) (dCons (dC (.str "swapped")) dNil))))))) (dCall0 sp__law_next (dCons (dVar 0) (dCons (dC (nat 5)) dNil)))))
  (dIfS (dB (dOp dEqS (dVar 4) (dC (.str "figure")))) (dAsg (.nm 1) (dOp dCatT (dOp dCatT (dSlT (dVar 1) dNoPart (dPart (dVar 3))) (dTup (dCons (dCall0 sp__law_next (dCons (dVar 0) (dCons (dC (nat 60)) dNil))) dNil))) (dSlT (dVar 1) (dPart (dOp dAdd (dVar 3) (dC (nat 1)))) dNoPart))) (dIfS (dAnd (dB (dOp dGt (dCB dLen (dCons (dVar 1) dNil)) (dC (nat 1)))) (dB (dOp dNotN (dCallX sp__law_made (dCons (dVar 1) (dCons (dVar 4) (dCons (dVar 3) dNil)))) (dC .non)))) (dAsg (.nm 1) (dCallX sp__law_made (dCons (dVar 1) (dCons (dVar 4) (dCons (dVar 3) dNil))))) dNext)))))
  (dRet (dVar 1)))

section
variable {xs : List Dt} {P : Dt → Prop} {X : DX}
theorem take_fig {r : List Nat} {n : Nat} (h : ∀ d ∈ r, d < 60) : ∀ d ∈ r.take n, d < 60 := fun d hd => h d (List.mem_of_mem_take hd)
theorem drop_fig {r : List Nat} {n : Nat} (h : ∀ d ∈ r, d < 60) : ∀ d ∈ r.drop n, d < 60 := fun d hd => h d (List.mem_of_mem_drop hd)
theorem app_fig {r s : List Nat} (h : ∀ d ∈ r, d < 60) (h2 : ∀ d ∈ s, d < 60) : ∀ d ∈ r ++ s, d < 60 := fun d hd => (List.mem_append.mp hd).elim (h d) (h2 d)
theorem made_fig {r s : List Nat} {k : Str} {i : Nat} (h : ∀ d ∈ r, d < 60) (hi : i < r.length) (h1 : 1 < r.length) (e : madeO r k i = some s) : (∀ d ∈ s, d < 60) ∧ s ≠ [] ∧ s.length ≤ r.length + 1 := by
  unfold madeO at e
  split at e
  · cases e
    refine ⟨app_fig (take_fig h) (drop_fig h), fun z => ?_, by rw [List.length_append, List.length_take, List.length_drop]; omega⟩
    have := congrArg List.length z
    rw [List.length_append, List.length_take, List.length_drop, List.length_nil] at this
    omega
  split at e
  · cases e
    refine ⟨app_fig (take_fig h) (drop_fig h), fun z => ?_, by rw [List.length_append, List.length_take, List.length_drop]; omega⟩
    have := congrArg List.length z
    rw [List.length_append, List.length_take, List.length_drop, List.length_nil] at this
    omega
  split at e
  · split at e
    · cases e
    · rename_i hn
      cases e
      refine ⟨app_fig (app_fig (take_fig h) fun d hd => ?_) (drop_fig h), by simp, by simp only [List.length_append, List.length_take, List.length_drop, List.length_singleton]; omega⟩
      rw [List.mem_singleton.mp hd]
      have : ¬ 60 ≤ ((r.drop i).take 2).sum := fun z => hn (.inr z)
      omega
  split at e
  · split at e
    · cases e
    · rename_i hn
      cases e
      refine ⟨app_fig (app_fig (take_fig h) fun d hd => take_fig (drop_fig h) d (List.mem_reverse.mp hd)) (drop_fig h), fun z => ?_, by simp only [List.length_append, List.length_reverse, List.length_take, List.length_drop]; omega⟩
      have := congrArg List.length z
      simp only [List.length_append, List.length_reverse, List.length_take, List.length_drop, List.length_nil] at this
      omega
  · cases e
theorem dp__law_spoilt (h : sp__law_spoilt xs P X) : d__law_spoilt (dEnds P) X (startD xs (5 - xs.length)) := by
  obtain ⟨r, rfl, h60, hne, hl, q⟩ := h
  show d__law_spoilt (dEnds P) X [.v .dice, .v (rowD r), .un, .un, .un]
  unfold d__law_spoilt
  walk_at "dgo"
  refine d_draw (q := fun c hc => ?_)
  walk_at "dgo"
  have hn : (1 + if decide (c = 4) = true then 1 else 0) ≤ 2 := by split <;> omega
  generalize (1 + if decide (c = 4) = true then 1 else 0) = n at hn ⊢
  walk_at "dgo"
  refine d_loop (fun i ρ => ∃ (s : List Nat) (s2 s3 s4 : Sl), (∀ d ∈ s, d < 60) ∧ s ≠ [] ∧ s.length ≤ r.length + i ∧ ρ = [.v .dice, .v (rowD s), s2, s3, s4]) ⟨r, .un, .un, .un, h60, hne, by omega, rfl⟩ ?_ ?_
  · rintro i x ρ N hx ⟨s, s2, s3, s4, hs, hsn, hsl, rfl⟩ hN
    obtain ⟨hi, rfl⟩ := range_get hx
    have hpos : 0 < s.length := List.length_pos_iff.mpr hsn
    walk_at "dgo"
    refine d_draw (by omega) (by omega) (q := fun at_ hat => ?_)
    walk_at "dgo"
    refine d_draw (q := fun kk hkk => ?_)
    obtain ⟨k, hk, ek⟩ : ∃ k : Str, k ∈ sorts ∧ [Dt.str "figure", .str "left", .str "twice", .str "joined", .str "swapped"][kk]? = some (.str k) := by
      rcases kk with _ | _ | _ | _ | _ | kk
      · exact ⟨"figure", by unfold sorts; simp, rfl⟩
      · exact ⟨"left", by unfold sorts; simp, rfl⟩
      · exact ⟨"twice", by unfold sorts; simp, rfl⟩
      · exact ⟨"joined", by unfold sorts; simp, rfl⟩
      · exact ⟨"swapped", by unfold sorts; simp, rfl⟩
      · omega
    walk_at "dgo"
    refine d_ixL ek ?_
    walk_at "dgo"
    by_cases hf : k = "figure"
    · subst hf
      walk_at "dgo"
      refine d_draw (q := fun f hf => ?_)
      walk_at "dgo"
      refine hN _ ⟨_, _, _, _, app_fig (app_fig (take_fig hs) fun d hd => by rw [List.mem_singleton.mp hd]; exact hf) (drop_fig hs), by simp, ?_, rfl⟩
      simp only [List.length_append, List.length_take, List.length_drop, List.length_singleton]; omega
    · have hk4 : k ∈ (["left", "twice", "joined", "swapped"] : List Str) := by
        unfold sorts at hk
        simp only [List.mem_cons, List.not_mem_nil, or_false] at hk ⊢
        exact hk.resolve_left hf
      refine i_nayS hf ?_
      walk_at "dgo"
      by_cases h1 : 1 < s.length
      · refine i_yes h1 ?_
        walk_at "dgo"
        refine ⟨s, k, at_, rfl, hk4, hat, by omega, ?_⟩
        cases hm : madeO s k at_ with
        | none =>
          unfold optD
          walk_at "dgo"
          exact hN _ ⟨s, _, _, _, hs, hsn, by omega, rfl⟩
        | some t =>
          obtain ⟨t1, t2, t3⟩ := made_fig hs hat h1 hm
          unfold optD
          walk_at "dgo"
          refine ⟨s, k, at_, rfl, hk4, hat, by omega, ?_⟩
          rw [hm]
          unfold optD
          walk_at "dgo"
          exact hN _ ⟨t, _, _, _, t1, t2, by omega, rfl⟩
      · refine i_nay h1 ?_
        walk_at "dgo"
        exact hN _ ⟨s, _, _, _, hs, hsn, by omega, rfl⟩
  · rintro ρ ⟨s, s2, s3, s4, hs, hsn, hsl, rfl⟩
    simp only [List.length_map, List.length_range] at hsl
    walk_at "dgo"
    exact q s hs hsn (by omega)
end
end Dx
end
section
/-! the laws' own tables, over data -/
open PySem L2 RT Sx Dx
local macro_rules | `(tactic| walk_at "d") => `(tactic| first
  | ((with_reducible refine' d_var ?k1 ?_); (case k1 => rfl))
  | with_reducible refine' d_c ?_
  | with_reducible refine' d_op ?_
  | with_reducible refine' d_cons ?_
  | with_reducible refine' d_nil ?_
  | with_reducible refine' d_seq ?_
  | ((with_reducible refine' d_asg1 ?_); try dsimp -proj only [List.set_cons_zero, List.set_cons_succ])
  | with_reducible refine' d_asg ?_
  | with_reducible refine' d_cb ?_
  | ((with_reducible refine' d_asgN ?_); try dsimp -proj only [List.set_cons_zero, List.set_cons_succ])
  | ((with_reducible refine' d_bnm ?_); try dsimp -proj only [List.set_cons_zero, List.set_cons_succ])
  | with_reducible refine' d_btp ?_
  | with_reducible refine' d_bcons ?_
  | with_reducible refine' d_bnil ?_
  | ((with_reducible refine' d_slO ?k1 ?_); (case k1 => rfl))
  | ((with_reducible refine' d_lenO ?k1 ?_); (case k1 => rfl))
  | ((with_reducible refine' d_ixO ?k1 ?_); (case k1 => rfl))
  | ((with_reducible refine' d_app ?k1 ?_); (case k1 => rfl))
  | ((with_reducible refine' d_frz ?k1 ?_); (case k1 => rfl); try dsimp -proj only [List.set_cons_zero, List.set_cons_succ, frzS])
  | with_reducible refine' d_newT ?_
  | ((with_reducible refine' d_newK ?_); try dsimp -proj only [List.set_cons_zero, List.set_cons_succ])
  | with_reducible refine' d_putT ?_
  | with_reducible refine' d_listD ?_
  | with_reducible refine' d_lr2 ?_
  | with_reducible refine' d_enumZ ?_
  | ((with_reducible refine' d_parN ?_); try dsimp -proj only [List.set_cons_zero, List.set_cons_succ])
  | with_reducible refine' d_sortI ?_
  | with_reducible refine' d_inLO ?_
  | ((with_reducible refine' d_putO ?k1 ?_); (case k1 => rfl))
  | with_reducible refine' d_catLL ?_
  | with_reducible refine' d_zipX ?_
  | ((with_reducible refine' d_frzD ?k1 ?_); (case k1 => rfl); try dsimp -proj only [List.set_cons_zero, List.set_cons_succ])
  | ((with_reducible refine' d_newB ?_); try dsimp -proj only [List.set_cons_zero, List.set_cons_succ])
  | with_reducible refine' d_putB ?_
  | ((with_reducible refine' d_getB ?k1 ?_); (case k1 => rfl))
  | ((with_reducible refine' d_par ?_); try dsimp -proj only [List.set_cons_zero, List.set_cons_succ])
  | ((with_reducible refine' d_par3 ?_); try dsimp -proj only [List.set_cons_zero, List.set_cons_succ])
  | ((with_reducible refine' d_ex2 ?_); try dsimp -proj only [List.set_cons_zero, List.set_cons_succ])
  | ((with_reducible refine' d_ex3 ?_); try dsimp -proj only [List.set_cons_zero, List.set_cons_succ])
  | with_reducible refine' d_isiI ?_
  | with_reducible refine' d_isiS ?_
  | with_reducible refine' d_lnil ?_
  | with_reducible refine' d_lcons ?_
  | with_reducible refine' d_gcd ?_
  | ((with_reducible refine' d_revO ?k1 ?_); (case k1 => rfl))
  | with_reducible refine' d_revL ?_
  | with_reducible refine' d_rev ?_
  | with_reducible refine' d_exrevL ?_
  | with_reducible refine' d_exrevT ?_
  | with_reducible refine' d_lc ?_
  | with_reducible refine' d_rng1 ?_
  | with_reducible refine' d_rng2 ?_
  | ((with_reducible refine' d_exrng ?k1 ?_); (case k1 => omega))
  | ((with_reducible refine' d_exrng2 ?k1 ?k2 ?_); (case k1 => omega); (case k2 => omega))
  | ((with_reducible refine' d_sz ?k1 ?_); (case k1 => simp; done))
  | with_reducible refine' d_tupQ ?_
  | with_reducible refine' d_lstQ ?_
  | with_reducible refine' d_callX ?_
  | with_reducible refine' d_call0 ?_
  | with_reducible refine' d_ifS ?_
  | with_reducible refine' d_B ?_
  | with_reducible refine' d_exbl ?_
  | with_reducible refine' d_ret ?_
  | with_reducible refine' d_drop ?_
  | with_reducible refine' d_next ?_
  | with_reducible refine' d_chain ?_
  | with_reducible refine' d_and ?_
  | with_reducible refine' d_or ?_
  | with_reducible refine' d_not ?_
  | with_reducible refine' d_andV ?_
  | with_reducible refine' d_orV ?_
  | with_reducible refine' d_notV ?_
  | with_reducible refine' d_neR ?_
  | with_reducible refine' d_eqR ?_
  | with_reducible refine' d_ccons ?_
  | ((with_reducible refine' d_cnil ?_); try dsimp -proj only [List.nil_append, List.cons_append])
  | with_reducible refine' d_listOf ?_
  | with_reducible refine' d_oflT ?_
  | with_reducible refine' d_oflL ?_
  | with_reducible refine' d_exsR ?_
  | with_reducible refine' d_lenR ?_
  | ((with_reducible refine' d_retO ?k1 ?_); (case k1 => rfl))
  | with_reducible refine' d_retW ?_
  | with_reducible refine' d_callXN ?_
  | with_reducible refine' d_call0N ?_
  | ((with_reducible refine' d_likeO ?k1 ?_); (case k1 => rfl))
  | with_reducible refine' d_join ?_
  | with_reducible refine' d_split ?_
  | with_reducible refine' d_exstr ?_
  | with_reducible refine' d_asgL ?_
  | with_reducible refine' d_fzD ?_
  | with_reducible refine' d_dc ?_
  | with_reducible refine' d_notInK ?_
  | with_reducible refine' d_inK ?_
  | with_reducible refine' d_getK ?_
  | with_reducible refine' d_exks ?_
  | with_reducible refine' d_raise0 ?_
  | ((with_reducible refine' d_strN ?k1 ?_); (case k1 => omega))
  | with_reducible refine' d_if ?_
  | with_reducible refine' d_un ?_
  | with_reducible refine' d_fz ?_
  | with_reducible refine' d_addN ?_
  | ((with_reducible refine' d_subN ?k1 ?_); (case k1 => omega))
  | ((with_reducible refine' d_mdN ?k1 ?_); (case k1 => omega))
  | ((with_reducible refine' d_fdN ?k1 ?k2 ?_); (case k1 => omega); (case k2 => omega))
  | ((with_reducible refine' d_mulL ?k1 ?k2 ?_); (case k1 => omega); (case k2 => omega))
  | with_reducible refine' d_ltN ?_
  | with_reducible refine' d_leN ?_
  | with_reducible refine' d_gtN ?_
  | with_reducible refine' d_geN ?_
  | with_reducible refine' d_eqN ?_
  | with_reducible refine' d_neN ?_
  | with_reducible refine' d_negN ?_
  | with_reducible refine' d_bit ?_
  | ((with_reducible refine' d_lenT ?_); try rw [List.length_map])
  | ((with_reducible refine' d_lenL ?_); try rw [List.length_map])
  | ((with_reducible refine' d_aug ?k1 ?_); (case k1 => rfl))
  | with_reducible refine' d_slTA ?_
  | with_reducible refine' d_slTo ?_
  | with_reducible refine' d_slFrom ?_
  | with_reducible refine' d_slMid ?_
  | with_reducible refine' d_slT0 ?_
  | ((with_reducible refine' d_catR ?k1 ?_); (case k1 => simp only [List.length_take, List.length_drop, List.length_append, List.length_cons, List.length_nil]; omega))
  | ((with_reducible refine' d_catR1 ?k1 ?_); (case k1 => simp only [List.length_take, List.length_drop, List.length_append, List.length_cons, List.length_nil]; omega))
  | ((with_reducible refine' d_catR2 ?k1 ?_); (case k1 => simp only [List.length_take, List.length_drop, List.length_append, List.length_cons, List.length_nil]; omega))
  | with_reducible refine' d_sumR ?_
  | with_reducible refine' d_revT ?_
  | with_reducible refine' d_keysW ?_
  | with_reducible refine' d_isNN ?_
  | with_reducible refine' d_isNT ?_
  | with_reducible refine' d_notNN ?_
  | with_reducible refine' d_notNT ?_
  | with_reducible refine' d_notNR ?_
  | with_reducible refine' d_isNR ?_
  | with_reducible refine' d_eqNR ?_
  | with_reducible refine' d_neNR ?_
  | with_reducible refine' d_neStr ?_
  | with_reducible refine' d_eqStr ?_
  | with_reducible refine' d_slL ?_
  | with_reducible refine' d_exsT ?_
  | with_reducible refine' d_exsL ?_
  | with_reducible refine' d_nopart ?_
  | with_reducible refine' dw_part ?_
  | with_reducible refine' d_exint ?_
  | with_reducible refine' d_yes1 ?_
  | with_reducible refine' d_itT ?_
  | with_reducible refine' d_itL ?_
  | with_reducible refine' d_itK ?_
  | with_reducible refine' d_exsK ?_
  | with_reducible refine' d_for ?_
  | with_reducible refine' d_tupL ?_
  | with_reducible refine' d_tupT ?_
  | with_reducible refine' i_iteT ?_
  | with_reducible refine' i_iteNT ?_
  | with_reducible refine' i_iteNF ?_
  | with_reducible refine' i_iteF ?_
  | ((with_reducible refine' i_yes ?k1 ?_); (case k1 => omega))
  | ((with_reducible refine' i_nay ?k1 ?_); (case k1 => omega))
  | ((with_reducible refine' i_yesN ?k1 ?_); (case k1 => omega))
  | ((with_reducible refine' i_nayN ?k1 ?_); (case k1 => omega))
  | ((with_reducible refine' i_yesS ?k1 ?_); (case k1 => decide))
  | ((with_reducible refine' i_nayS ?k1 ?_); (case k1 => decide))
  | ((with_reducible refine' i_yesSN ?k1 ?_); (case k1 => decide))
  | ((with_reducible refine' i_naySN ?k1 ?_); (case k1 => decide)))
local macro_rules | `(tactic| walk_at "dgo") => `(tactic| (repeat walk_at "d"; try dsimp -proj only [List.set_cons_zero, List.set_cons_succ]))
local macro_rules | `(tactic| walk_at "b") => `(tactic| (try dsimp -proj only [List.set_cons_zero, List.set_cons_succ]))
namespace Dx
def sp__law_numbers : DSp := fun xs P _ => xs = [] ∧ P (.lst (MULTS.map nat))
def sp__law_table : DSp := fun xs P _ => ∃ h, IsRow h ∧ xs = [rowD h] ∧ P (rowsD (tableN h))
def sp__law_faults : DSp := fun xs P _ => ∃ h rows, IsRow h ∧ xs = [rowD h, rowsD rows] ∧ rows.length = 23 ∧ (∀ r ∈ rows, r.length ≤ 1000) ∧ P (.lst ((faultsN (tableN h) rows 23).map faultP))
/-- figures only -/
def FigR (n : Nat) (r : List Nat) : Prop := (∀ d ∈ r, d < 60) ∧ r ≠ [] ∧ r.length ≤ n
def sp__law_wrong : DSp := fun xs P _ => ∃ (rows : List (List Nat)) (m : Nat), xs = [.dice, rowsD rows, nat m] ∧ rows.length = 23 ∧ (∀ r ∈ rows, FigR 13 r) ∧ m ≤ 12 ∧
  ∀ out : List (List Nat), out.length = 23 → (∀ r ∈ out, FigR (13 + 2 * m) r) → (wrongN rows out 23).length ≤ m → P (rowsD out)
def d__law_numbers : DS := (dRet (dFz (dCatL (dFz (dLr2 (dC (nat 1)) (dC (nat 21)))) (dFz (dLst (dCons (dC (nat 30)) (dCons (dC (nat 40)) (dCons (dC (nat 50)) dNil))))))))
def d__law_table : DS := (dRet (dFz (dLc (dItL (dCall0 sp__law_numbers dNil)) (.nm 1) dYes (dCall0 sp__law_row (dCons (dOp dMul (dCall0 sp__law_whole_of (dCons (dVar 0) dNil)) (dVar 1)) dNil)) [1])))
def d__law_faults : DS := (dSeq (dAsg (.nm 2) (dCallX sp__law_table (dCons (dVar 0) dNil)))
  (dRet (dFz (dLc (dRng1 (dCons (dC (nat 23)) dNil)) (.nm 3) (dB (dOp dNe (dOp dIxL (dVar 1) (dVar 3)) (dOp dIxL (dVar 2) (dVar 3)))) (dTup (dCons (dVar 3) (dCons (dCall0 sp__law_slips (dCons (dOp dIxL (dVar 2) (dVar 3)) (dCons (dOp dIxL (dVar 1) (dVar 3)) dNil))) dNil))) [3]))))
def d__law_wrong : DS := (dSeq (dAsgN 3 (dListOf (dCons (dVar 1) dNil)))
  (dSeq (dFor (dRng1 (dCons (dCall0 sp__law_next (dCons (dVar 0) (dCons (dOp dAdd (dVar 2) (dC (nat 1))) dNil))) dNil)) (.nm 4)
  (dSeq (dAsg (.nm 5) (dCall0 sp__law_next (dCons (dVar 0) (dCons (dC (nat 23)) dNil))))
  (dPutO 3 (dVar 5) (dCallX sp__law_spoilt (dCons (dVar 0) (dCons (dIxO 3 (dVar 5)) dNil))))))
  (dFrz 3 (dRet (dVar 3)))))

section
variable {xs : List Dt} {P : Dt → Prop} {X : DX}
theorem rg_lit : rangeD 1 ((21 : Int) - 1).toNat ++ [nat 30, nat 40, nat 50] = MULTS.map nat := rfl
theorem wrong_self {rows : List (List Nat)} {n : Nat} : wrongN rows rows n = [] := by
  unfold wrongN
  rw [List.filter_eq_nil_iff]
  intro i _
  simp
theorem wrong_set {rows out : List (List Nat)} {j : Nat} {s : List Nat} : ∀ n, (wrongN rows (out.set j s) n).length ≤ (wrongN rows out n).length + if j < n then 1 else 0
  | 0 => Nat.zero_le _
  | n + 1 => by
    rw [wrong_snoc, wrong_snoc, List.length_append, List.length_append]
    have ih := wrong_set (rows := rows) (out := out) (j := j) (s := s) n
    by_cases e : j = n
    · subst e
      rw [if_neg (Nat.lt_irrefl _)] at ih
      rw [if_pos (Nat.lt_succ_self _)]
      have : ∀ (c : Prop) [Decidable c], (if c then [j] else []).length ≤ 1 := fun c _ => by split <;> simp
      have := this ((out.set j s)[j]? ≠ rows[j]?)
      omega
    · rw [List.getElem?_set_ne e]
      have : (if j < n + 1 then 1 else 0) = if j < n then 1 else 0 := by
        by_cases h : j < n
        · rw [if_pos h, if_pos (by omega)]
        · rw [if_neg h, if_neg (by omega)]
      omega
theorem rows_get {l : List (List Nat)} {i : Nat} {r : List Nat} (h : l[i]? = some r) : (l.map rowD)[i]? = some (rowD r) := by rw [List.getElem?_map, h]; rfl
theorem dp__law_numbers (h : sp__law_numbers xs P X) : d__law_numbers (dEnds P) X (startD xs (0 - xs.length)) := by
  obtain ⟨rfl, q⟩ := h
  show d__law_numbers (dEnds P) X []
  unfold d__law_numbers
  walk_at "dgo"
  refine ⟨1, 21, rfl, rfl, RgOk.of_le (by decide) (by decide) (by decide) (by decide), ?_⟩
  walk_at "dgo"
  refine ⟨_, _, rfl, rfl, by decide, ?_⟩
  rw [rg_lit]
  exact q
theorem dp__law_table (h : sp__law_table xs P X) : d__law_table (dEnds P) X (startD xs (2 - xs.length)) := by
  obtain ⟨h, ih, rfl, q⟩ := h
  show d__law_table (dEnds P) X [.v (rowD h), .un]
  unfold d__law_table
  walk_at "dgo"
  refine ⟨rfl, ?_⟩
  walk_at "dgo"
  refine d_compA MULTS nat (fun m => rowD (rowOf (whole h * m))) (fun m hm N q => ?_) (acc := []) (by decide) ?_
  · obtain ⟨p, hl⟩ := mults_pos hm
    walk_at "dgo"
    refine ⟨h, rfl, ih.fig, Nat.le_trans ih.len.2 (by decide), ?_⟩
    walk_at "dgo"
    refine d_mulL (Nat.lt_of_lt_of_le (whole12 ih) (by decide)) (by omega) ?_
    walk_at "dgo"
    exact ⟨_, rfl, Nat.mul_pos (whole_pos (row_ne ih) ih.hd) p, by have := log13 (w_small ih hl); omega, q⟩
  · walk_at "dgo"
    rw [List.nil_append, show MULTS.map (fun m => rowD (rowOf (whole h * m))) = (tableN h).map rowD by unfold tableN; rw [List.map_map]; rfl]
    exact q
theorem dp__law_faults (h : sp__law_faults xs P X) : d__law_faults (dEnds P) X (startD xs (4 - xs.length)) := by
  obtain ⟨h, rows, ih, rfl, hl, hz, q⟩ := h
  show d__law_faults (dEnds P) X [.v (rowD h), .v (rowsD rows), .un, .un]
  unfold d__law_faults
  walk_at "dgo"
  refine ⟨h, ih, rfl, ?_⟩
  walk_at "dgo"
  refine d_compB (List.range 23) nat (fun i => decide (rows[i]? ≠ (tableN h)[i]?)) (fun i => faultP (i, slipsOf ((tableN h).getD i []) (rows.getD i []))) (fun i hi N q => ?_) (acc := []) (by simp) ?_
  · have hi := List.mem_range.mp hi
    obtain ⟨due, hd⟩ : ∃ r, (tableN h)[i]? = some r := ⟨_, List.getElem?_eq_getElem (by rw [tab_len]; exact hi)⟩
    obtain ⟨told, ht⟩ : ∃ r, rows[i]? = some r := ⟨_, List.getElem?_eq_getElem (by rw [hl]; exact hi)⟩
    rw [hd, ht, show (tableN h).getD i [] = due by rw [List.getD_eq_getElem?_getD, hd]; rfl, show rows.getD i [] = told by rw [List.getD_eq_getElem?_getD, ht]; rfl] at q
    have l1 := (tab_small ih hd).1
    have l2 := hz told (List.mem_of_getElem? ht)
    walk_at "dgo"
    refine d_ixL (z := rowD told) (rows_get ht) ?_
    walk_at "dgo"
    refine d_ixL (z := rowD due) (rows_get hd) ?_
    walk_at "dgo"
    by_cases e : told = due
    · refine i_nayN e ?_
      rw [e, if_neg (by simp)] at q
      exact q
    · refine i_yesN e ?_
      walk_at "dgo"
      refine d_ixL (z := rowD due) (rows_get hd) ?_
      walk_at "dgo"
      refine d_ixL (z := rowD told) (rows_get ht) ?_
      walk_at "dgo"
      refine ⟨due, told, rfl, by omega, l2, ?_⟩
      walk_at "dgo"
      rw [if_pos (by simpa using e)] at q
      exact q
  · walk_at "dgo"
    rw [List.nil_append]
    unfold faultsN wrongN at q
    rw [List.map_map] at q
    exact q
theorem dp__law_wrong (h : sp__law_wrong xs P X) : d__law_wrong (dEnds P) X (startD xs (6 - xs.length)) := by
  obtain ⟨rows, m, rfl, hl, hf, hm, q⟩ := h
  show d__law_wrong (dEnds P) X [.v .dice, .v (rowsD rows), .v (nat m), .un, .un, .un]
  unfold d__law_wrong
  walk_at "dgo"
  refine .inl ⟨_, rfl, ?_⟩
  walk_at "dgo"
  refine ⟨m + 1, rfl, by omega, by omega, fun k hk => ?_⟩
  walk_at "dgo"
  refine d_loop (fun i ρ => ∃ (out : List (List Nat)) (s4 s5 : Sl), ρ = [.v .dice, .v (rowsD rows), .v (nat m), .ol (out.map rowD), s4, s5] ∧ out.length = 23 ∧ (∀ r ∈ out, FigR (13 + 2 * i) r) ∧ (wrongN rows out 23).length ≤ i) ⟨rows, _, _, rfl, hl, hf, by rw [wrong_self]; exact Nat.le_refl _⟩ ?_ ?_
  · rintro i x ρ N hx ⟨out, s4, s5, rfl, ho, hr, hw⟩ hN
    obtain ⟨hi, rfl⟩ := range_get hx
    walk_at "dgo"
    refine ⟨23, rfl, by decide, by decide, fun j hj => ?_⟩
    walk_at "dgo"
    obtain ⟨r, hjr⟩ : ∃ r, out[j]? = some r := ⟨_, List.getElem?_eq_getElem (by omega)⟩
    have fr := hr r (List.mem_of_getElem? hjr)
    walk_at "dgo"
    refine ⟨j, rowD r, rfl, atI_nat (rows_get hjr), ?_⟩
    walk_at "dgo"
    refine ⟨r, rfl, fr.1, fr.2.1, by have := fr.2.2; omega, fun s s1 s2 s3 => ?_⟩
    walk_at "dgo"
    refine ⟨j, j, rfl, ixN_nat (by rw [List.length_map]; omega), ?_⟩
    refine hN _ ⟨out.set j s, _, _, by rw [List.map_set], by rw [List.length_set]; exact ho, fun r' hr' => ?_, ?_⟩
    · rcases List.mem_or_eq_of_mem_set hr' with h | h
      · obtain ⟨a, b, c⟩ := hr r' h
        exact ⟨a, b, by omega⟩
      · rw [h]; exact ⟨s1, s2, by have := fr.2.2; omega⟩
    · have := wrong_set (rows := rows) (out := out) (j := j) (s := s) 23
      split at this <;> omega
  · rintro ρ ⟨out, s4, s5, rfl, ho, hr, hw⟩
    have hlen : (rangeD 0 k).length = k := by unfold rangeD; simp
    walk_at "dgo"
    rw [List.length_map, List.length_range] at hr hw
    exact q out ho (fun r h => by obtain ⟨a, b, c⟩ := hr r h; exact ⟨a, b, by omega⟩) (by omega)
theorem sorts_layT : ∀ k ∈ sorts, PyData.canLay0 (.str k) = true := by
  unfold sorts
  simp only [List.mem_cons, List.not_mem_nil, or_false]
  rintro k (rfl | rfl | rfl | rfl | rfl) <;> decide +kernel
theorem plB_slipT {k : Str} {i n : Nat} (hk : k ∈ sorts) : plB (n + 1) (slipP (k, i)) = true := by
  have h := sorts_layT k hk
  unfold slipP
  simp only [plB, plBs, Bool.and_eq_true, decide_eq_true_eq]
  refine ⟨by simp, ?_, by first | trivial | exact ⟨trivial, trivial⟩ | exact ⟨plB_nat, trivial⟩⟩
  cases n <;> simpa [plB] using h
theorem tab_row {h : List Nat} {i : Nat} (hi : i < 23) : ∃ r, (tableN h)[i]? = some r := ⟨_, List.getElem?_eq_getElem (by rw [tab_len]; exact hi)⟩
theorem tab_unlike {g h r : List Nat} {i : Nat} (ig : IsRow g) (ih : IsRow h) (e1 : (tableN g)[i]? = some r) (e2 : (tableN h)[i]? = some r) : g = h := by
  obtain ⟨m, a1, am, rfl⟩ := tab_at e1
  obtain ⟨m', b1, bm, e3⟩ := tab_at e2
  rw [a1] at b1
  obtain rfl := Option.some.inj b1
  obtain ⟨mp, _⟩ := mults_pos am
  have gp := whole_pos (row_ne ig) ig.hd
  have hp := whole_pos (row_ne ih) ih.hd
  obtain ⟨k, hk⟩ := strip_eq (Nat.mul_pos gp mp)
  have es : strip (whole g * m) = strip (whole h * m) := by rw [← whole_rowOf, ← whole_rowOf, e3]
  have := part_eq hp mp gp (x := whole g) (j := k) (by rw [← es, hk])
  rw [rowOf_whole ig, rowOf_whole ih] at this
  exact this
theorem wrong_iff {due rows : List (List Nat)} {n i : Nat} : i ∈ wrongN due rows n ↔ i < n ∧ rows[i]? ≠ due[i]? := by
  unfold wrongN
  rw [List.mem_filter, List.mem_range, decide_eq_true_iff]
/-- each place is wrong for one of two heads -/
theorem wrong_two {a b rows : List (List Nat)} : ∀ n, (∀ i, i < n → rows[i]? = a[i]? → rows[i]? ≠ b[i]?) → n ≤ (wrongN a rows n).length + (wrongN b rows n).length
  | 0, _ => Nat.zero_le _
  | n + 1, h => by
    have ih := wrong_two n fun i hi => h i (by omega)
    rw [wrong_snoc, wrong_snoc, List.length_append, List.length_append]
    by_cases e : rows[n]? = a[n]?
    · rw [if_neg (not_not_intro e), if_pos (h n (by omega) e)]
      simp only [List.length_cons, List.length_nil]
      omega
    · rw [if_pos e]
      simp only [List.length_cons, List.length_nil]
      omega
theorem less_wrong {g h : List Nat} {rows : List (List Nat)} (ig : IsRow g) (ih : IsRow h) (ne : g ≠ h) (hw : (wrongN (tableN h) rows 23).length ≤ 11) : (wrongN (tableN h) rows 23).length < (wrongN (tableN g) rows 23).length := by
  have := wrong_two (a := tableN h) (b := tableN g) (rows := rows) 23 fun i hi e1 e2 => by
    obtain ⟨r, hr⟩ := tab_row (h := h) hi
    exact ne (tab_unlike ig ih (by rw [← e2, e1, hr]) hr)
  omega
theorem some_right {h : List Nat} {rows : List (List Nat)} (hw : (wrongN (tableN h) rows 23).length ≤ 11) : ∃ (i : Nat) (r : List Nat), rows[i]? = some r ∧ (tableN h)[i]? = some r := by
  by_cases hc : ∃ i, i < 23 ∧ rows[i]? = (tableN h)[i]?
  · obtain ⟨i, hi, e⟩ := hc
    obtain ⟨r, hr⟩ := tab_row (h := h) hi
    exact ⟨i, r, by rw [e, hr], hr⟩
  · have : ∀ n, n ≤ 23 → (wrongN (tableN h) rows n).length = n := by
      intro n
      induction n with
      | zero => intro _; rfl
      | succ n ih =>
        intro hn
        rw [wrong_snoc, if_pos (fun e => hc ⟨n, by omega, e⟩), List.length_append, ih (by omega)]; rfl
    have := this 23 (Nat.le_refl _)
    omega
theorem slips_count {d t : List Nat} (hd : d.length ≤ 1000) : (slipsOf d t).length ≤ 100000 := by
  unfold slipsOf sorts
  simp only [List.flatMap_cons, List.flatMap_nil, List.length_append, List.length_map, List.length_nil]
  have := fun k => List.length_filter_le (isB d t k) (List.range d.length)
  simp only [List.length_range] at this
  have a := this "figure"
  have b := this "left"
  have c := this "twice"
  have e := this "joined"
  have f := this "swapped"
  omega
theorem plB_faults {n : Nat} {h : List Nat} {rows : List (List Nat)} (ih : IsRow h) : plB (n + 5) (.lst ((faultsN (tableN h) rows 23).map faultP)) = true := by
  simp only [plB, Bool.and_eq_true, decide_eq_true_eq, List.length_map]
  refine ⟨?_, plBs_all.mpr fun x hx => ?_⟩
  · unfold faultsN wrongN
    have := List.length_filter_le (fun i => decide (rows[i]? ≠ (tableN h)[i]?)) (List.range 23)
    rw [List.length_map]
    rw [List.length_range] at this
    omega
  · obtain ⟨p, hp, rfl⟩ := List.mem_map.mp hx
    unfold faultsN at hp
    obtain ⟨i, hi, rfl⟩ := List.mem_map.mp hp
    obtain ⟨hi, _⟩ := wrong_iff.mp hi
    obtain ⟨r, hr⟩ := tab_row (h := h) hi
    have hl := (tab_small ih hr).1
    have hg : (tableN h).getD i [] = r := by rw [List.getD_eq_getElem?_getD, hr]; rfl
    show plB (n + 4) (.tup [nat i, .lst ((slipsOf ((tableN h).getD i []) (rows.getD i [])).map slipP)]) = true
    rw [hg]
    simp only [plB, plBs, Bool.and_eq_true, decide_eq_true_eq, List.length_map]
    refine ⟨by simp, by first | exact plB_nat | trivial, ⟨slips_count (by omega), plBs_all.mpr fun x hx => ?_⟩, trivial⟩
    obtain ⟨⟨k, j⟩, hk, rfl⟩ := List.mem_map.mp hx
    unfold slipsOf at hk
    obtain ⟨k', hk', hm⟩ := List.mem_flatMap.mp hk
    obtain ⟨j', _, e⟩ := List.mem_map.mp hm
    obtain ⟨rfl, rfl⟩ := Prod.mk.inj e
    exact plB_slipT hk'
theorem faults_self {h : List Nat} : faultsN (tableN h) (tableN h) 23 = [] := by unfold faultsN; rw [wrong_self]; rfl
end
end Dx
end
section
/-! a def that tells a new list, handed over to whoever called it -/
namespace Dx
open PySem L2 RT Sx
abbrev DSpN := List Dt → (List Dt → Prop) → DX → Prop
def liftSpN (K : PySem.W.Frag) (C : Ec) (d : DSpN) : Sp := fun vs H Q E => ∃ W xs P PX, Ok K W H ∧ RpL K W vs xs ∧ d xs P PX ∧
  (∀ W' H' p vs xs, Frm W H W' H' → Ok K W' H' → H p = none → W'.F p = none → ¬ W'.dl p → H' p = some (.lst vs) → RpL K W' vs xs → P xs → Q (.ref p) H') ∧ EL K C H W E PX
/-- told of a slot's own list -/
def dRetO (i : Nat) : DS := fun D _ ρ => ∃ xs, ρ[i]? = some (.ol xs) ∧ D.rn xs
/-- told of a new list -/
def dRetW (a : DN) : DS := fun D X ρ => a X ρ D.rn
def dCallXN (d : DSpN) (a : DA) : DN := fun X ρ P => a X ρ fun xs => d xs P X
def dCall0N (d : DSpN) (a : DA) : DN := fun X ρ P => a X ρ fun xs => d xs P none_
def dEndsN (P : List Dt → Prop) : DEnds := { nx := fun _ => False, rt := fun _ => False, rn := P }
section
variable {K : PySem.W.Frag} {C : Ec} {E : XK} {σ : L2.St} {H : Hp} {Q : VK} {D : Ends}
theorem ls_retO {i : Nat} (q : liftS K C E (dRetO i) D σ H) : tRet (tVar i) D σ H := by
  obtain ⟨c, DD, at_, en, xs, e, h⟩ := q
  obtain ⟨p, vs, h1, m, hp, r⟩ := at_.ol e
  exact ⟨.ref p, h1, en.rn _ _ p vs xs at_.fr at_.lk.ok m.i m.f m.d hp r h⟩
theorem ls_retW {a : DN} (q : liftS K C E (dRetW a) D σ H) : tRet (liftN K C E a) D σ H := by
  obtain ⟨c, DD, at_, en, h⟩ := q
  exact ⟨c, _, at_, h, fun W1 H1 p vs xs f o n nf nd e r q1 => en.rn W1 H1 p vs xs (at_.fr.trans f) o (at_.fr.kp p n) nf nd e r q1⟩
theorem le_callXN {d : DSpN} {a : DA} (q : liftN K C E (dCallXN d a) σ H Q) : tCallS (liftSpN K C d) (WE fun cls dd _ H => E cls dd H) (liftA K C E a) σ H Q := by
  obtain ⟨c, P, at_, h, k⟩ := q
  refine ⟨c, _, at_, h, fun W1 H1 vs xs f1 o1 r1 q1 => ?_⟩
  exact ⟨W1, xs, P, c.PX, o1, r1, q1, fun W' H' p vs xs f o n => k W' H' p vs xs (f1.trans f) o (f1.kp p n), fun W' H' kk fs cls dd f o er px => at_.el W' H' kk fs cls dd ((at_.fr.trans f1).trans f) o er px⟩
theorem le_call0N {d : DSpN} {a : DA} (q : liftN K C E (dCall0N d a) σ H Q) : tCall (liftSpN K C d) [] E0 (liftA K C E a) σ H Q := by
  obtain ⟨c, P, at_, h, k⟩ := q
  refine ⟨c, _, at_, h, fun W1 H1 vs xs f1 o1 r1 q1 => ?_⟩
  exact ⟨W1, xs, P, none_, o1, by rw [List.append_nil]; exact r1, q1, fun W' H' p vs xs f o n => k W' H' p vs xs (f1.trans f) o (f1.kp p n), fun W' H' kk fs cls dd f o er px => px⟩
theorem liftSpN_len {d : DSpN} {n : Nat} {vs : List V} (hl : ∀ xs P PX, d xs P PX → xs.length = n) (h : liftSpN K C d vs H Q E) : vs.length = n := by
  obtain ⟨W, xs, P, PX, _, r, q, _⟩ := h
  rw [r.length]; exact hl xs P PX q
theorem run_liftN {d : DSpN} {b : DS} {N : List Str} {vs : List V} (hb : ∀ xs P PX, d xs P PX → b (dEndsN P) PX (startD xs (N.length - xs.length))) (h : liftSpN K C d vs H Q E) : liftS K C E b { nx := fun _ H' => Q .non H', rt := Q } (L2.start N vs) H := by
  obtain ⟨W, xs, P, PX, o, r, q, k, el⟩ := h
  refine ⟨⟨H, W, W, W, startD xs (N.length - vs.length), PX⟩, dEndsN P, ⟨start_lk o r, Frm.refl _ _, el, Wd.Le.refl _⟩, ⟨fun _ _ _ _ _ p => p.elim, fun _ _ _ _ _ p => p.elim, fun _ _ _ _ _ p => p.elim, fun _ _ _ _ _ _ _ p => p.elim, fun W' H' p vs xs f o n nf nd e r q => k W' H' p vs xs f o n nf nd e r q⟩, ?_⟩
  rw [r.length]
  exact hb xs P PX q
/-- the list is kept as it is -/
theorem keepN {d : DSpN} {s : DSp} {vs : List V} (hs : ∀ xs P PX, s xs P PX → d xs (fun l => P (.lst l)) PX) (h : liftSp K C s vs H Q E) : liftSpN K C d vs H Q E := by
  obtain ⟨W, xs, P, PX, o, r, q, k, el⟩ := h
  refine ⟨W, xs, _, PX, o, r, hs _ _ _ q, fun W' H' p vs xs f o n nf nd e r q => ?_, el⟩
  exact k (W'.keep p (.lst vs)) H' _ _ (f.keeps n nf) (o.keep nf e nd) (.lst keep_at (r.le (Wd.le_keep nf))) q
theorem d_retO {X : DX} {ρ : Env} {D : DEnds} {i : Nat} {xs : List Dt} (h : ρ[i]? = some (.ol xs)) (q : D.rn xs) : dRetO i D X ρ := ⟨xs, h, q⟩
theorem d_retW {X : DX} {ρ : Env} {D : DEnds} {a : DN} (q : a X ρ D.rn) : dRetW a D X ρ := q
theorem d_callXN {X : DX} {ρ : Env} {P : List Dt → Prop} {a : DA} {d : DSpN} (q : a X ρ fun xs => d xs P X) : dCallXN d a X ρ P := q
theorem d_call0N {X : DX} {ρ : Env} {P : List Dt → Prop} {a : DA} {d : DSpN} (q : a X ρ fun xs => d xs P none_) : dCall0N d a X ρ P := q
end
end Dx
end
section
/-! one's own list, found like another -/
namespace Dx
open PySem L2 RT Sx
def dLikeO (i : Nat) (b : DE) : DE := fun X ρ P => ∃ xs, ρ[i]? = some (.ol xs) ∧ b X ρ fun y => y = .lst xs ∧ plB 6 (.lst xs) = true ∧ P (.bl true)
section
variable {K : PySem.W.Frag} {C : Ec} {E : XK} {σ : L2.St} {H : Hp} {Q : VK}
theorem le_likeO {i : Nat} {b : DE} (q : liftE K C E (dLikeO i b) σ H Q) : tCall (Sx.sp__law_like K) [] E0 (tCons (tVar i) (tCons (liftE K C E b) tNil)) σ H Q := by
  obtain ⟨c, P, at_, ⟨xs, e, h⟩, k⟩ := q
  obtain ⟨p, vs, h1, m, hp, r⟩ := at_.ol e
  refine ⟨.ref p, h1, ⟨c, _, at_, h, fun W1 H1 v1 y1 f1 o1 r1 ⟨ey, hpl, q1⟩ => ?_⟩⟩
  subst ey
  obtain ⟨h2, h3⟩ := plB_lay 6 _ hpl
  refine ⟨.ref p, v1, toP (.lst xs), rfl, ?_, dp_of o1.sF r1 (.inr h2), h3, k W1 H1 _ _ f1 o1 (.bl _) q1⟩
  exact .lst (sql (f1.sH p _ hp m.d)) (dps_of o1.sF (r.le f1.le) h2)
theorem d_likeO {X : DX} {ρ : Env} {P : Dt → Prop} {i : Nat} {xs : List Dt} {b : DE} (h : ρ[i]? = some (.ol xs)) (q : b X ρ fun y => y = .lst xs ∧ plB 6 (.lst xs) = true ∧ P (.bl true)) : dLikeO i b X ρ P := ⟨xs, h, q⟩
end
end Dx
end
section
/-! table and faults, the told lists handed over -/
open PySem L2 RT Sx Dx
local macro_rules | `(tactic| walk_at "d") => `(tactic| first
  | ((with_reducible refine' d_var ?k1 ?_); (case k1 => rfl))
  | with_reducible refine' d_c ?_
  | with_reducible refine' d_op ?_
  | with_reducible refine' d_cons ?_
  | with_reducible refine' d_nil ?_
  | with_reducible refine' d_seq ?_
  | ((with_reducible refine' d_asg1 ?_); try dsimp -proj only [List.set_cons_zero, List.set_cons_succ])
  | with_reducible refine' d_asg ?_
  | with_reducible refine' d_cb ?_
  | ((with_reducible refine' d_asgN ?_); try dsimp -proj only [List.set_cons_zero, List.set_cons_succ])
  | ((with_reducible refine' d_bnm ?_); try dsimp -proj only [List.set_cons_zero, List.set_cons_succ])
  | with_reducible refine' d_btp ?_
  | with_reducible refine' d_bcons ?_
  | with_reducible refine' d_bnil ?_
  | ((with_reducible refine' d_slO ?k1 ?_); (case k1 => rfl))
  | ((with_reducible refine' d_lenO ?k1 ?_); (case k1 => rfl))
  | ((with_reducible refine' d_ixO ?k1 ?_); (case k1 => rfl))
  | ((with_reducible refine' d_app ?k1 ?_); (case k1 => rfl))
  | ((with_reducible refine' d_frz ?k1 ?_); (case k1 => rfl); try dsimp -proj only [List.set_cons_zero, List.set_cons_succ, frzS])
  | with_reducible refine' d_newT ?_
  | ((with_reducible refine' d_newK ?_); try dsimp -proj only [List.set_cons_zero, List.set_cons_succ])
  | with_reducible refine' d_putT ?_
  | with_reducible refine' d_listD ?_
  | with_reducible refine' d_lr2 ?_
  | with_reducible refine' d_enumZ ?_
  | ((with_reducible refine' d_parN ?_); try dsimp -proj only [List.set_cons_zero, List.set_cons_succ])
  | with_reducible refine' d_sortI ?_
  | with_reducible refine' d_inLO ?_
  | ((with_reducible refine' d_putO ?k1 ?_); (case k1 => rfl))
  | with_reducible refine' d_catLL ?_
  | with_reducible refine' d_zipX ?_
  | ((with_reducible refine' d_frzD ?k1 ?_); (case k1 => rfl); try dsimp -proj only [List.set_cons_zero, List.set_cons_succ])
  | ((with_reducible refine' d_newB ?_); try dsimp -proj only [List.set_cons_zero, List.set_cons_succ])
  | with_reducible refine' d_putB ?_
  | ((with_reducible refine' d_getB ?k1 ?_); (case k1 => rfl))
  | ((with_reducible refine' d_par ?_); try dsimp -proj only [List.set_cons_zero, List.set_cons_succ])
  | ((with_reducible refine' d_par3 ?_); try dsimp -proj only [List.set_cons_zero, List.set_cons_succ])
  | ((with_reducible refine' d_ex2 ?_); try dsimp -proj only [List.set_cons_zero, List.set_cons_succ])
  | ((with_reducible refine' d_ex3 ?_); try dsimp -proj only [List.set_cons_zero, List.set_cons_succ])
  | with_reducible refine' d_isiI ?_
  | with_reducible refine' d_isiS ?_
  | with_reducible refine' d_lnil ?_
  | with_reducible refine' d_lcons ?_
  | with_reducible refine' d_gcd ?_
  | ((with_reducible refine' d_revO ?k1 ?_); (case k1 => rfl))
  | with_reducible refine' d_revL ?_
  | with_reducible refine' d_rev ?_
  | with_reducible refine' d_exrevL ?_
  | with_reducible refine' d_exrevT ?_
  | with_reducible refine' d_lc ?_
  | with_reducible refine' d_rng1 ?_
  | with_reducible refine' d_rng2 ?_
  | ((with_reducible refine' d_exrng ?k1 ?_); (case k1 => omega))
  | ((with_reducible refine' d_exrng2 ?k1 ?k2 ?_); (case k1 => omega); (case k2 => omega))
  | ((with_reducible refine' d_sz ?k1 ?_); (case k1 => simp; done))
  | with_reducible refine' d_tupQ ?_
  | with_reducible refine' d_lstQ ?_
  | with_reducible refine' d_callX ?_
  | with_reducible refine' d_call0 ?_
  | with_reducible refine' d_ifS ?_
  | with_reducible refine' d_B ?_
  | with_reducible refine' d_exbl ?_
  | with_reducible refine' d_ret ?_
  | with_reducible refine' d_drop ?_
  | with_reducible refine' d_next ?_
  | with_reducible refine' d_chain ?_
  | with_reducible refine' d_and ?_
  | with_reducible refine' d_or ?_
  | with_reducible refine' d_not ?_
  | with_reducible refine' d_andV ?_
  | with_reducible refine' d_orV ?_
  | with_reducible refine' d_notV ?_
  | with_reducible refine' d_neR ?_
  | with_reducible refine' d_eqR ?_
  | with_reducible refine' d_ccons ?_
  | ((with_reducible refine' d_cnil ?_); try dsimp -proj only [List.nil_append, List.cons_append])
  | with_reducible refine' d_listOf ?_
  | with_reducible refine' d_oflT ?_
  | with_reducible refine' d_oflL ?_
  | with_reducible refine' d_exsR ?_
  | with_reducible refine' d_lenR ?_
  | ((with_reducible refine' d_retO ?k1 ?_); (case k1 => rfl))
  | with_reducible refine' d_retW ?_
  | with_reducible refine' d_callXN ?_
  | with_reducible refine' d_call0N ?_
  | ((with_reducible refine' d_likeO ?k1 ?_); (case k1 => rfl))
  | with_reducible refine' d_join ?_
  | with_reducible refine' d_split ?_
  | with_reducible refine' d_exstr ?_
  | with_reducible refine' d_asgL ?_
  | with_reducible refine' d_fzD ?_
  | with_reducible refine' d_dc ?_
  | with_reducible refine' d_notInK ?_
  | with_reducible refine' d_inK ?_
  | with_reducible refine' d_getK ?_
  | with_reducible refine' d_exks ?_
  | with_reducible refine' d_raise0 ?_
  | ((with_reducible refine' d_strN ?k1 ?_); (case k1 => omega))
  | with_reducible refine' d_if ?_
  | with_reducible refine' d_un ?_
  | with_reducible refine' d_fz ?_
  | with_reducible refine' d_addN ?_
  | ((with_reducible refine' d_subN ?k1 ?_); (case k1 => omega))
  | ((with_reducible refine' d_mdN ?k1 ?_); (case k1 => omega))
  | ((with_reducible refine' d_fdN ?k1 ?k2 ?_); (case k1 => omega); (case k2 => omega))
  | ((with_reducible refine' d_mulL ?k1 ?k2 ?_); (case k1 => omega); (case k2 => omega))
  | with_reducible refine' d_ltN ?_
  | with_reducible refine' d_leN ?_
  | with_reducible refine' d_gtN ?_
  | with_reducible refine' d_geN ?_
  | with_reducible refine' d_eqN ?_
  | with_reducible refine' d_neN ?_
  | with_reducible refine' d_negN ?_
  | with_reducible refine' d_bit ?_
  | ((with_reducible refine' d_lenT ?_); try rw [List.length_map])
  | ((with_reducible refine' d_lenL ?_); try rw [List.length_map])
  | ((with_reducible refine' d_aug ?k1 ?_); (case k1 => rfl))
  | with_reducible refine' d_slTA ?_
  | with_reducible refine' d_slTo ?_
  | with_reducible refine' d_slFrom ?_
  | with_reducible refine' d_slMid ?_
  | with_reducible refine' d_slT0 ?_
  | ((with_reducible refine' d_catR ?k1 ?_); (case k1 => simp only [List.length_take, List.length_drop, List.length_append, List.length_cons, List.length_nil]; omega))
  | ((with_reducible refine' d_catR1 ?k1 ?_); (case k1 => simp only [List.length_take, List.length_drop, List.length_append, List.length_cons, List.length_nil]; omega))
  | ((with_reducible refine' d_catR2 ?k1 ?_); (case k1 => simp only [List.length_take, List.length_drop, List.length_append, List.length_cons, List.length_nil]; omega))
  | with_reducible refine' d_sumR ?_
  | with_reducible refine' d_revT ?_
  | with_reducible refine' d_keysW ?_
  | with_reducible refine' d_isNN ?_
  | with_reducible refine' d_isNT ?_
  | with_reducible refine' d_notNN ?_
  | with_reducible refine' d_notNT ?_
  | with_reducible refine' d_notNR ?_
  | with_reducible refine' d_isNR ?_
  | with_reducible refine' d_eqNR ?_
  | with_reducible refine' d_neNR ?_
  | with_reducible refine' d_neStr ?_
  | with_reducible refine' d_eqStr ?_
  | with_reducible refine' d_slL ?_
  | with_reducible refine' d_exsT ?_
  | with_reducible refine' d_exsL ?_
  | with_reducible refine' d_nopart ?_
  | with_reducible refine' dw_part ?_
  | with_reducible refine' d_exint ?_
  | with_reducible refine' d_yes1 ?_
  | with_reducible refine' d_itT ?_
  | with_reducible refine' d_itL ?_
  | with_reducible refine' d_itK ?_
  | with_reducible refine' d_exsK ?_
  | with_reducible refine' d_for ?_
  | with_reducible refine' d_tupL ?_
  | with_reducible refine' d_tupT ?_
  | with_reducible refine' i_iteT ?_
  | with_reducible refine' i_iteNT ?_
  | with_reducible refine' i_iteNF ?_
  | with_reducible refine' i_iteF ?_
  | ((with_reducible refine' i_yes ?k1 ?_); (case k1 => omega))
  | ((with_reducible refine' i_nay ?k1 ?_); (case k1 => omega))
  | ((with_reducible refine' i_yesN ?k1 ?_); (case k1 => omega))
  | ((with_reducible refine' i_nayN ?k1 ?_); (case k1 => omega))
  | ((with_reducible refine' i_yesS ?k1 ?_); (case k1 => decide))
  | ((with_reducible refine' i_nayS ?k1 ?_); (case k1 => decide))
  | ((with_reducible refine' i_yesSN ?k1 ?_); (case k1 => decide))
  | ((with_reducible refine' i_naySN ?k1 ?_); (case k1 => decide)))
local macro_rules | `(tactic| walk_at "dgo") => `(tactic| (repeat walk_at "d"; try dsimp -proj only [List.set_cons_zero, List.set_cons_succ]))
local macro_rules | `(tactic| walk_at "b") => `(tactic| (try dsimp -proj only [List.set_cons_zero, List.set_cons_succ]))
namespace Dx
def spN_table : DSpN := fun xs P X => (∃ h, IsRow h ∧ xs = [rowD h] ∧ P ((tableN h).map rowD)) ∨ ∃ r, rowB r = false ∧ xs = [rowI r] ∧ X 1 []
def spN_faults : DSpN := fun xs P X => (∃ h rows, IsRow h ∧ xs = [rowD h, rowsD rows] ∧ rows.length = 23 ∧ (∀ r ∈ rows, r.length ≤ 1000) ∧ P ((faultsN (tableN h) rows 23).map faultP)) ∨ ∃ r y, rowB r = false ∧ xs = [rowI r, y] ∧ X 1 []
def dN_table : DS := (dSeq (dAsg (.nm 1) (dCallX sp_whole_of (dCons (dVar 0) dNil)))
  (dRetW (dLc (dItK (dC (.ktup [(nat 1), (nat 2), (nat 3), (nat 4), (nat 5), (nat 6), (nat 7), (nat 8), (nat 9), (nat 10), (nat 11), (nat 12), (nat 13), (nat 14), (nat 15), (nat 16), (nat 17), (nat 18), (nat 19), (nat 20), (nat 30), (nat 40), (nat 50)]))) (.nm 2) dYes (dCall0 sp_row_of (dCons (dOp dMul (dVar 1) (dVar 2)) dNil)) [2])))
def dN_faults : DS := (dSeq (dAsgN 2 (dLst dNil))
  (dSeq (dFor (dEnumZ (dCons (dFz (dCallXN spN_table (dCons (dVar 0) dNil))) (dCons (dVar 1) dNil))) (.tp [(.nm 3), (.tp [(.nm 4), (.nm 5)])])
  (dIfS (dB (dOp dNe (dVar 5) (dVar 4))) (dApp 2 (dTup (dCons (dVar 3) (dCons (dCallX sp_slips_between (dCons (dVar 4) (dCons (dVar 5) dNil))) dNil)))) dNext))
  (dRetO 2)))

section
variable {xs : List Dt} {P : List Dt → Prop} {X : DX}
theorem dpN_table (h : spN_table xs P X) : dN_table (dEndsN P) X (startD xs (3 - xs.length)) := by
  rcases h with ⟨h, ih, rfl, q⟩ | ⟨r, hr, rfl, q⟩
  · show dN_table (dEndsN P) X [.v (rowD h), .un, .un]
    unfold dN_table
    rw [mults_lit]
    walk_at "dgo"
    refine .inl ⟨h, ih, rfl, ?_⟩
    walk_at "dgo"
    refine d_compA MULTS nat (fun m => rowD (rowOf (whole h * m))) (fun m hm N q => ?_) (acc := []) (by decide) ?_
    · obtain ⟨p, hl⟩ := mults_pos hm
      walk_at "dgo"
      refine d_mulL (Nat.lt_of_lt_of_le (whole12 ih) (by decide)) (by omega) ?_
      walk_at "dgo"
      exact ⟨_, rfl, Nat.mul_pos (whole_pos (row_ne ih) ih.hd) p, by have := log13 (w_small ih hl); omega, q⟩
    · walk_at "dgo"
      rw [List.nil_append, show MULTS.map (fun m => rowD (rowOf (whole h * m))) = (tableN h).map rowD by unfold tableN; rw [List.map_map]; rfl]
      exact q
  · show dN_table (dEndsN P) X [.v (rowI r), .un, .un]
    unfold dN_table
    rw [mults_lit]
    walk_at "dgo"
    exact .inr ⟨r, hr, rfl, q⟩
theorem dpN_faults (h : spN_faults xs P X) : dN_faults (dEndsN P) X (startD xs (6 - xs.length)) := by
  rcases h with ⟨h, rows, ih, rfl, hl, hz, q⟩ | ⟨r, y, hr, rfl, q⟩
  · show dN_faults (dEndsN P) X [.v (rowD h), .v (rowsD rows), .un, .un, .un, .un]
    unfold dN_faults
    walk_at "dgo"
    refine .inl ⟨h, ih, rfl, ?_⟩
    walk_at "dgo"
    refine ⟨_, _, rfl, ?_⟩
    refine d_loop (fun i ρ => ∃ s3 s4 s5, ρ = [.v (rowD h), .v (rowsD rows), .ol ((faultsN (tableN h) rows i).map faultP), s3, s4, s5]) ⟨_, _, _, rfl⟩ ?_ ?_
    · rintro i x ρ N hx ⟨s3, s4, s5, rfl⟩ hN
      obtain ⟨y, z, hy, hz2, rfl⟩ := enumZ_get hx
      obtain ⟨due, hd, rfl⟩ := map_get hy
      obtain ⟨told, ht, rfl⟩ := map_get hz2
      have hi : i < 23 := by rw [← hl]; exact (List.getElem?_eq_some_iff.mp ht).1
      have hN' : ∀ s3 s4 s5, N [.v (rowD h), .v (rowsD rows), .ol ((faultsN (tableN h) rows i).map faultP ++ if told ≠ due then [faultP (i, slipsOf due told)] else []), s3, s4, s5] := fun s3 s4 s5 => by
        refine hN _ ⟨s3, s4, s5, ?_⟩
        unfold faultsN
        rw [wrong_snoc, ht, hd]
        by_cases e : told = due
        · rw [if_neg (not_not_intro e), if_neg (not_not_intro (by rw [e])), List.append_nil, List.append_nil]
        · rw [if_pos e, if_pos (fun z => e (Option.some.inj z)), List.map_append, List.map_append]
          have g1 : (tableN h).getD i [] = due := by rw [List.getD_eq_getElem?_getD, hd]; rfl
          have g2 : rows.getD i [] = told := by rw [List.getD_eq_getElem?_getD, ht]; rfl
          simp only [List.map_cons, List.map_nil, g1, g2]
      have l1 := (tab_small ih hd).1
      have l2 := hz told (List.mem_of_getElem? ht)
      walk_at "dgo"
      by_cases e : told = due
      · refine i_nayN e ?_
        walk_at "dgo"
        have := hN' (.v (nat i)) (.v (rowD due)) (.v (rowD told))
        rw [if_neg (not_not_intro e), List.append_nil] at this
        exact this
      · refine i_yesN e ?_
        walk_at "dgo"
        refine ⟨due, told, rfl, by omega, l2, ?_⟩
        walk_at "dgo"
        have := hN' (.v (nat i)) (.v (rowD due)) (.v (rowD told))
        rw [if_pos e] at this
        refine ⟨?_, this⟩
        have hf := List.length_filter_le (fun i => decide (rows[i]? ≠ (tableN h)[i]?)) (List.range i)
        unfold faultsN wrongN
        rw [List.length_map, List.length_map]
        rw [List.length_range] at hf
        omega
    · rintro ρ ⟨s3, s4, s5, rfl⟩
      rw [enumZ_len, List.length_map, List.length_map, tab_len, hl]
      walk_at "dgo"
      exact q
  · show dN_faults (dEndsN P) X [.v (rowI r), .v y, .un, .un, .un, .un]
    unfold dN_faults
    walk_at "dgo"
    exact .inr ⟨r, hr, rfl, q⟩
end
end Dx
end
section
/-! faults told, looked at, and all its inner lists changed: what is told is new -/
namespace Dx
open PySem L2 RT Sx
/-- a world that knows just these -/
def Wd.cut (W : Wd) (S : List Addr) : Wd := ⟨fun p => if p ∈ S then W.F p else none, W.tb, W.tb⟩
section
variable {K : PySem.W.Frag} {W W' : Wd} {H H' : Hp} {S : List Addr}
theorem cut_sF : Same (W.cut S).F W.F := fun b o e => by
  have e' : (if b ∈ S then W.F b else none) = some o := e
  split at e'
  · exact e'
  · cases e'
theorem cut_in {p : Addr} {o : HO} (h : p ∈ S) (e : W.F p = some o) : (W.cut S).F p = some o := by
  show (if p ∈ S then W.F p else none) = some o
  rw [if_pos h]; exact e
theorem Ok.cut (o : Ok K W H) : Ok K (W.cut S) H := by
  refine ⟨Same.trans cut_sF o.sF, fun d e => ?_, fun d e => e, fun p ps e => o.nt p ps (cut_sF _ _ e)⟩
  have e' : W.tb d := e
  obtain ⟨f, m⟩ := o.dc d (o.td d e')
  refine ⟨?_, ?_⟩
  · show (if d ∈ S then W.F d else none) = none
    split
    · exact f
    · rfl
  · rcases m with ⟨n, _⟩ | m
    · exact absurd e' n
    · exact .inr m
theorem tb_code {d : Addr} (o : Ok K W H) (e : W.tb d) : ∃ ps, H d = some (.tbl ps) := by
  obtain ⟨f, m⟩ := o.dc d (o.td d e)
  rcases m with ⟨n, _⟩ | ⟨_, ps, h, _⟩
  · exact absurd e n
  · exact ⟨ps, h⟩
/-- back from there: what was hidden from it has not changed -/
theorem cut_back (o : Ok K W H) (f : Frm (W.cut S) H W' H') (o' : Ok K W' H') : Frm W H W H' ∧ Ok K W H' := by
  have sH : ∀ p o, H p = some o → ¬ W.tb p → H' p = some o := fun p u h n => f.sH p u h n
  have htb : W'.tb = W.tb := f.le.tt
  refine ⟨⟨Wd.Le.refl _, fun p u h n => sH p u h fun z => n (o.td p z), fun _ _ _ _ _ z => z, fun _ z => .inl z, f.kp⟩, ?_⟩
  refine ⟨fun b u e => sH b u (o.sF _ _ e) fun z => ?_, fun d e => ?_, o.td, o.nt⟩
  · obtain ⟨f0, _⟩ := o.dc b (o.td b z)
    rw [f0] at e; cases e
  · obtain ⟨f0, m⟩ := o.dc d e
    refine ⟨f0, ?_⟩
    by_cases z : W.tb d
    · obtain ⟨_, m'⟩ := o'.dc d (f.le.dd d z)
      rcases m' with ⟨n, _⟩ | ⟨_, m'⟩
      · rw [htb] at n; exact absurd z n
      · exact .inr ⟨z, m'⟩
    · refine m.mv rfl (Same.refl _) ?_ fun c hc => ?_
      · cases y : H d with
        | none => exact absurd y m.there
        | some u => exact sH d u y z
      · refine sH c _ hc fun z2 => ?_
        obtain ⟨ps, e2⟩ := tb_code o z2
        rw [e2] at hc
        cases hc
/-- a list kept behind such a call is new, or was known to it -/
theorem cut_new {l : Addr} {vs : List V} (o : Ok K W H) (f : Frm (W.cut S) H W' H') (o' : Ok K W' H') (e : W'.F l = some (.lst vs)) : H l = none ∨ (l ∈ S ∧ W.F l = some (.lst vs)) := by
  cases h : H l with
  | none => exact .inl rfl
  | some u =>
    refine .inr ?_
    have nt : ¬ W.tb l := fun z => by
      obtain ⟨f0, _⟩ := o'.dc l (f.le.dd l z)
      rw [f0] at e; cases e
    have e1 := f.sH l u h nt
    have e2 := o'.sF _ _ e
    rw [e1] at e2
    obtain rfl := Option.some.inj e2
    cases z : (W.cut S).F l with
    | none =>
      have := f.nF l _ h nt trivial z
      rw [this] at e; cases e
    | some u' =>
      have e3 := f.le.sF _ _ z
      rw [e] at e3
      obtain rfl := Option.some.inj e3
      refine ⟨?_, cut_sF _ _ z⟩
      have z' : (if l ∈ S then W.F l else none) = some (.lst vs) := z
      split at z'
      · assumption
      · cases z'
def addrs (vs : List V) : List Addr := vs.filterMap fun v => match v with | .ref a => some a | _ => none
theorem mem_addrs {vs : List V} {a : Addr} (h : V.ref a ∈ vs) : a ∈ addrs vs := List.mem_filterMap.mpr ⟨_, h, rfl⟩
theorem cut_ints {r : List Nat} : ∀ {vs : List V}, RpL K W vs (r.map nat) → RpL K (W.cut S) vs (r.map nat) := fun {vs} h => by
  have : vs = rowV r := by
    have h' : RpL K W vs ((r.map fun n : Nat => (n : Int)).map Dt.int) := by rw [List.map_map]; exact h
    rw [RpL.of_ints h', List.map_map]; rfl
  subst this
  exact rpl_nats
theorem cut_row {v : V} {r : List Nat} (h : Rp K W v (rowD r)) (hm : ∀ a, v = .ref a → a ∈ S) : Rp K (W.cut S) v (rowD r) := by
  obtain ⟨a, vs, rfl, hs, rs⟩ := rp_tup h
  exact .tup (cut_in (hm a rfl) hs) (cut_ints rs)
theorem cut_rows : ∀ {vs : List V} {rows : List (List Nat)}, RpL K W vs (rows.map rowD) → (∀ a, V.ref a ∈ vs → a ∈ S) → RpL K (W.cut S) vs (rows.map rowD)
  | _, [], .nil, _ => .nil
  | _, r :: rows, .cons h t, hm => .cons (cut_row h fun a e => hm a (by rw [e]; exact List.mem_cons_self)) (cut_rows t fun a ha => hm a (List.mem_cons_of_mem _ ha))
/-- a row is no slip -/
theorem row_no_slip {v : V} {r : List Nat} {s : Str × Nat} (h1 : Rp K W v (rowD r)) (h2 : Rp K W v (slipP s)) : False := by
  obtain ⟨a, vs, rfl, e1, r1⟩ := rp_tup h1
  obtain ⟨b, us, e, e2, r2⟩ := rp_tup h2
  obtain rfl := V.ref.inj e
  rw [e1] at e2
  obtain rfl := HO.tup.inj (Option.some.inj e2)
  cases r2 with
  | cons k1 k2 =>
    cases r with
    | nil => cases r1
    | cons d r =>
      cases r1 with
      | cons j1 j2 =>
        rw [rp_int j1] at k1
        cases k1
end
/-- the slots that are asked -/
def askD (n ih ir iq : Nat) (h : List Nat) (rows : List (List Nat)) : Env := (((List.replicate n Sl.un).set ih (.v (rowD h))).set ir (.v (rowsD rows))).set iq (.v (rowsD rows))
def dBlk (n ih ir iq i a b : Nat) (d : DSpN) (args : DA) (T : DT) : DS := fun D _ ρ => ∃ (h : List Nat) (rows : List (List Nat)) (FA : List (Nat × List (Str × Nat))), ρ.length = n ∧ ρ[ih]? = some (.v (rowD h)) ∧ ρ[ir]? = some (.v (rowsD rows)) ∧ ρ[iq]? = some (.v (rowsD rows)) ∧
  rows ≠ [] ∧ FA.length ≤ 1000 ∧ (∀ f ∈ FA, f.2.length ≤ 100000) ∧ (a ≠ i ∧ b ≠ i ∧ a ≠ b ∧ i < n ∧ b < n) ∧
  args none_ (askD n ih ir iq h rows) fun xs => d xs (fun ys => ys = FA.map faultP ∧ T none_ ((askD n ih ir iq h rows).set i (.v (.lst ys))) fun k => k = false ∧ D.nx (((ρ.set i .un).set a .un).set b .un)) none_
section
variable {K : PySem.W.Frag} {C : Ec} {E : XK} {σ : L2.St} {H : Hp} {D : Ends} {W : Wd}
theorem Lk.unset {Hin : Hp} {ρ : Env} (l : Lk K Hin W ρ σ H) (j : Nat) : Lk K Hin W (ρ.set j .un) σ H := by
  refine ⟨l.ok, by rw [List.length_set]; exact l.len, fun k s e => ?_, fun a b s t p ne e1 e2 o1 o2 g1 g2 => ?_⟩
  · rcases set_get e with ⟨rfl, rfl⟩ | ⟨_, e⟩
    · have hl : j < ρ.length := by
        rcases Nat.lt_or_ge j ρ.length with z | z
        · exact z
        · rw [List.set_eq_of_length_le z, List.getElem?_eq_none z] at e; cases e
      exact ⟨_, List.getElem?_eq_getElem (by rw [← l.len]; exact hl), trivial⟩
    · exact l.sl k s e
  · rcases set_get e1 with ⟨rfl, rfl⟩ | ⟨_, e1⟩
    · cases o1
    rcases set_get e2 with ⟨rfl, rfl⟩ | ⟨_, e2⟩
    · cases o2
    exact l.sep a b s t p ne e1 e2 o1 o2 g1 g2
theorem ask_lk {c : Cn} {n ih ir iq : Nat} {h : List Nat} {rows : List (List Nat)} {R : Wd} {vh vr vq : V} (at_ : c.At K C E σ H) (hl : c.ρ.length = n) (oR : Ok K R H) (g1 : σ[ih]? = some (some vh)) (r1 : Rp K R vh (rowD h)) (g2 : σ[ir]? = some (some vr)) (r2 : Rp K R vr (rowsD rows)) (g3 : σ[iq]? = some (some vq)) (r3 : Rp K R vq (rowsD rows)) :
    Lk K H R (askD n ih ir iq h rows) σ H := by
  unfold askD
  have own_no : ∀ (j : Nat) (s : Sl), ((((List.replicate n Sl.un).set ih (.v (rowD h))).set ir (.v (rowsD rows))).set iq (.v (rowsD rows)))[j]? = some s → (j = iq ∧ s = .v (rowsD rows)) ∨ (j = ir ∧ s = .v (rowsD rows)) ∨ (j = ih ∧ s = .v (rowD h)) ∨ (s = .un ∧ j < n) := fun j s e => by
    rcases set_get e with ⟨rfl, rfl⟩ | ⟨_, e⟩
    · exact .inl ⟨rfl, rfl⟩
    rcases set_get e with ⟨rfl, rfl⟩ | ⟨_, e⟩
    · exact .inr (.inl ⟨rfl, rfl⟩)
    rcases set_get e with ⟨rfl, rfl⟩ | ⟨_, e⟩
    · exact .inr (.inr (.inl ⟨rfl, rfl⟩))
    rw [List.getElem?_replicate] at e
    split at e
    · exact .inr (.inr (.inr ⟨(Option.some.inj e).symm, by assumption⟩))
    · cases e
  refine ⟨oR, by rw [List.length_set, List.length_set, List.length_set, List.length_replicate, ← hl]; exact at_.lk.len, fun j s e => ?_, fun a b s t p ne e1 e2 o1 o2 g1 g2 => ?_⟩
  · rcases own_no j s e with ⟨rfl, rfl⟩ | ⟨rfl, rfl⟩ | ⟨rfl, rfl⟩ | ⟨rfl, hj⟩
    · exact ⟨_, g3, _, rfl, r3⟩
    · exact ⟨_, g2, _, rfl, r2⟩
    · exact ⟨_, g1, _, rfl, r1⟩
    · exact ⟨_, List.getElem?_eq_getElem (by rw [← at_.lk.len, hl]; exact hj), trivial⟩
  · rcases own_no a s e1 with ⟨rfl, rfl⟩ | ⟨rfl, rfl⟩ | ⟨rfl, rfl⟩ | ⟨rfl, hj⟩ <;> cases o1
theorem ls_blk {n ih ir iq i a b : Nat} {d : DSpN} {args : DA} {T : DT} {R : TS} (q : liftS K C E (dBlk n ih ir iq i a b d args T) D σ H) :
    tSeq (tAsg (tCall (liftSpN K C d) [] E0 (liftA K C E args)) (gName i)) (tSeq (tIfS (liftT K C E T) R tNext)
      (tSeq (tFor (iList K (tVar i)) (gOf K (.tp [.nm a, .nm b])) (tDrop (tBM K "list" rAppend (tVar b) (tCons (tC (.int 0)) tNil)))) (tDrop (tBM K "list" rAppend (tVar i) (tCons (tC (.int 0)) tNil))))) D σ H := by
  obtain ⟨c, DD, at_, en, h, rows, FA, hl, e1, e2, e3, hne, hFA, hFs, ⟨nai, nbi, nab, hin, hbn⟩, q⟩ := q
  obtain ⟨oh, g1, vh, rfl, r1⟩ := at_.lk.sl ih _ e1
  obtain ⟨or_, g2, vr, rfl, r2⟩ := at_.lk.sl ir _ e2
  obtain ⟨oq, g3, vq, rfl, r3⟩ := at_.lk.sl iq _ e3
  obtain ⟨ah, wh, rfl, fh, lh⟩ := rp_tup r1
  obtain ⟨ar, wr, rfl, fr, lr⟩ := rp_lst r2
  obtain ⟨aq, wq, rfl, fq, lq⟩ := rp_lst r3
  have oW := at_.lk.ok
  have rne : ∀ {W' : Wd} {ws : List V} {sl : List (Str × Nat)}, RpL K W' ws (rows.map rowD) → RpL K W' ws (sl.map slipP) → False := fun {W' ws sl} z1 z2 => by
    cases rows with
    | nil => exact hne rfl
    | cons r rows =>
      cases z1 with
      | cons k1 k2 =>
        cases sl with
        | nil => cases z2
        | cons t sl =>
          cases z2 with
          | cons j1 j2 => exact row_no_slip k1 j1
  generalize hS : ah :: ar :: aq :: (addrs wr ++ addrs wq) = S
  have oR : Ok K (c.W.cut S) H := oW.cut
  have rh : Rp K (c.W.cut S) (.ref ah) (rowD h) := cut_row r1 fun a e => by cases e; rw [← hS]; simp
  have lr' : RpL K (c.W.cut S) wr (rows.map rowD) := cut_rows lr fun a ha => by have := mem_addrs ha; rw [← hS]; simp [this]
  have lq' : RpL K (c.W.cut S) wq (rows.map rowD) := cut_rows lq fun a ha => by have := mem_addrs ha; rw [← hS]; simp [this]
  have rr : Rp K (c.W.cut S) (.ref ar) (rowsD rows) := .lst (cut_in (by rw [← hS]; simp) fr) lr'
  have rq : Rp K (c.W.cut S) (.ref aq) (rowsD rows) := .lst (cut_in (by rw [← hS]; simp) fq) lq'
  have lk0 := ask_lk at_ hl oR g1 rh g2 rr g3 rq
  have at0 : Cn.At K C E ⟨H, c.W.cut S, c.W.cut S, c.W.cut S, askD n ih ir iq h rows, none_⟩ σ H := ⟨lk0, Frm.refl _ _, fun _ _ _ _ _ _ _ _ _ p => p.elim, Wd.Le.refl _⟩
  refine ⟨_, _, at0, q, fun W1 H1 vs xs f1 o1 rv q1 => ?_⟩
  refine ⟨W1, xs, _, none_, o1, by rw [List.append_nil]; exact rv, q1, fun W2 H2 p us ys f2 o2 n2 nf2 nd2 hp ru ⟨ey, qT⟩ => ?_, fun _ _ _ _ _ _ _ _ _ p => p.elim⟩
  subst ey
  have f3 := f2.keeps (o := .lst us) n2 nf2
  have o3 := o2.keep nf2 hp nd2
  have at3 := (at0.frm (f1.trans f3) o3).st i (.lst keep_at (ru.le (Wd.le_keep nf2)))
  refine ⟨_, _, at3, qT, fun W4 H4 k f4 o4 ⟨hk, qn⟩ => ?_⟩
  subst hk
  rw [if_neg Bool.false_ne_true]
  have fR : Frm (c.W.cut S) H W4 H4 := (f1.trans f3).trans f4
  obtain ⟨fb, ob⟩ := cut_back oW fR o4
  have l24 : W2.Le W4 := (Wd.le_keep nf2).trans f4.le
  have hp4 : H4 p = some (.lst us) := o4.sF _ _ (f4.le.sF _ _ keep_at)
  have np : H p = none := f1.kp p n2
  have ul : us.length ≤ 1000 := by rw [ru.length, List.length_map]; exact hFA
  -- the told pairs and their lists
  have item : ∀ (k : Nat) (v : V), us[k]? = some v → ∃ (T l : Addr) (vi : V) (ws : List V), v = .ref T ∧ H4 T = some (.tup [vi, .ref l]) ∧ H4 l = some (.lst ws) ∧ ws.length ≤ 100000 ∧ H l = none ∧ l ≠ p := fun k v hv => by
    obtain ⟨z, hz, rz⟩ := ru.getV hv
    obtain ⟨fa, hfa, rfl⟩ := map_get hz
    obtain ⟨T, ts, rfl, eT, rT⟩ := rp_tup rz
    obtain ⟨vi, vl, rfl, _, rl⟩ := rpl2 rT
    obtain ⟨l, ws, rfl, el, rw_⟩ := rp_lst rl
    refine ⟨T, l, vi, ws, rfl, o4.sF _ _ (l24.sF _ _ eT), o4.sF _ _ (l24.sF _ _ el), by rw [rw_.length, List.length_map]; exact hFs fa (List.mem_of_getElem? hfa), ?_, fun z => by rw [z, nf2] at el; cases el⟩
    rcases cut_new oW fR o4 (l24.sF _ _ el) with h0 | ⟨hm, e0⟩
    · exact h0
    · exfalso
      rw [← hS] at hm
      have tupno : ∀ {x : List V}, c.W.F l = some (.tup x) → False := fun {x} z => by rw [z] at e0; cases e0
      rcases List.mem_cons.mp hm with z | hm
      · exact tupno (by rw [z]; exact fh)
      rcases List.mem_cons.mp hm with z | hm
      · rw [z, fr] at e0
        obtain rfl := HO.lst.inj (Option.some.inj e0)
        exact rne (lr'.le fR.le) (rw_.le l24)
      rcases List.mem_cons.mp hm with z | hm
      · rw [z, fq] at e0
        obtain rfl := HO.lst.inj (Option.some.inj e0)
        exact rne (lq'.le fR.le) (rw_.le l24)
      have rowno : ∀ {ws' : List V}, RpL K c.W ws' (rows.map rowD) → l ∈ addrs ws' → False := fun {ws'} z1 z2 => by
        unfold addrs at z2
        obtain ⟨v, hv, e⟩ := List.mem_filterMap.mp z2
        obtain ⟨j, hj⟩ := List.mem_iff_getElem?.mp hv
        obtain ⟨z, hz, rz⟩ := z1.getV hj
        obtain ⟨r, _, rfl⟩ := map_get hz
        obtain ⟨a, x, rfl, ea, _⟩ := rp_tup rz
        obtain rfl := Option.some.inj e
        exact tupno ea
      rcases List.mem_append.mp hm with z | z
      · exact rowno lr z
      · exact rowno lq z
  have hσ : σ.length = n := by rw [← at_.lk.len, hl]
  refine ⟨.ref p, List.getElem?_set_self (by rw [hσ]; exact hin), p, rfl, ⟨us, sql hp4⟩, ?_⟩
  refine for_it (walk_list (xs := us)) (fun k σ' H' => (σ' = σ.set i (some (.ref p)) ∨ ∃ x y, σ' = ((σ.set i (some (.ref p))).set a (some x)).set b (some y)) ∧ Frm c.W H c.W H' ∧ Ok K c.W H' ∧ H' p = some (.lst us) ∧
    ∀ (j : Nat) (v : V), us[j]? = some v → ∃ (T l : Addr) (vi : V) (ws : List V), v = .ref T ∧ H' T = some (.tup [vi, .ref l]) ∧ H' l = some (.lst ws) ∧ ws.length ≤ 100000 + k ∧ H l = none ∧ l ≠ p) ⟨.inl rfl, fb, ob, hp4, item⟩ (fun k σ' H' _ z => sql z.2.2.2.1) ?_ ?_
  · rintro k x σ' H' _ hk ⟨hs, f', o', hp', it⟩ ⟨rfl, hx⟩
    obtain ⟨T, l, vi, ws, rfl, hT, hl', hz, nl, nlp⟩ := it k x hx
    unfold gOf gsOf gsOf gsOf gOf
    refine ⟨T, [vi, .ref l], rfl, sqt hT, rfl, ⟨_, _, rfl, ⟨_, _, rfl, ⟨rfl, ?_⟩⟩⟩⟩
    have hbl : b < (σ'.set a (some vi)).length := by
      rw [List.length_set]
      rcases hs with rfl | ⟨x, y, rfl⟩
      · rw [List.length_set, hσ]; exact hbn
      · rw [List.length_set, List.length_set, List.length_set, hσ]; exact hbn
    refine ⟨.ref l, List.getElem?_set_self hbl, .inl ⟨rfl, ws, sql hl'⟩, l, ws, .int 0, rfl, rfl, hl', Nat.lt_of_le_of_lt hz (Nat.lt_of_lt_of_le (show 100000 + k < 200000 by omega) (by decide)), ?_⟩
    refine ⟨.inr ⟨vi, .ref l, ?_⟩, ⟨Wd.Le.refl _, fun q u hq nd => by rw [upd_ne (ne_new nl hq)]; exact f'.sH q u hq nd, fun _ _ _ _ _ z => z, fun _ z => .inl z, fun q hq => ?_⟩, o'.change (oW.fr nl) (oW.dice_ne nl) hl' trivial, by rw [upd_ne (Ne.symm nlp)]; exact hp', fun j v hv => ?_⟩
    · rcases hs with rfl | ⟨x, y, rfl⟩
      · rfl
      · rw [List.set_comm (some y) (some vi) (Ne.symm nab), List.set_set, List.set_set]
    · by_cases e : q = l
      · rw [e]; exact nl
      · rw [upd_ne e] at hq; exact f'.kp q hq
    · obtain ⟨T', l', vi', ws', rfl, h1, h2, h3, h4, h5⟩ := it j v hv
      have nT : T' ≠ l := fun e => by rw [e, hl'] at h1; cases h1
      by_cases e : l' = l
      · subst e
        exact ⟨T', l', vi', _, rfl, by rw [upd_ne nT]; exact h1, upd_same, by rw [List.length_append]; simp; omega, h4, h5⟩
      · exact ⟨T', l', vi', ws', rfl, by rw [upd_ne nT]; exact h1, by rw [upd_ne e]; exact h2, by omega, h4, h5⟩
  · rintro σ' H' ⟨hs, f', o', hp', it⟩
    have hi' : σ'[i]? = some (some (.ref p)) := by
      rcases hs with rfl | ⟨x, y, rfl⟩
      · exact List.getElem?_set_self (by rw [hσ]; exact hin)
      · rw [List.getElem?_set_ne nbi, List.getElem?_set_ne nai]; exact List.getElem?_set_self (by rw [hσ]; exact hin)
    refine ⟨.ref p, hi', .inl ⟨rfl, us, sql hp'⟩, p, us, .int 0, rfl, rfl, hp', Nat.lt_of_le_of_lt ul (by decide), ?_⟩
    have f2 : Frm c.W H c.W (upd H' p (.lst (us ++ [.int 0]))) := ⟨Wd.Le.refl _, fun q u hq nd => by rw [upd_ne (ne_new np hq)]; exact f'.sH q u hq nd, fun _ _ _ _ _ z => z, fun _ z => .inl z, fun q hq => by
      by_cases e : q = p
      · rw [e]; exact np
      · rw [upd_ne e] at hq; exact f'.kp q hq⟩
    have o2 := o'.change (o := .lst (us ++ [.int 0])) (oW.fr np) (oW.dice_ne np) hp' trivial
    have a2 := at_.frm f2 o2
    refine en.nx c.W (((c.ρ.set i .un).set a .un).set b .un) σ' _ ⟨?_, a2.fr, a2.el, a2.lo⟩ qn
    have l0 := a2.lk.set (s := .un) (o := some (.ref p)) i trivial rfl
    rcases hs with rfl | ⟨x, y, rfl⟩
    · exact (l0.unset a).unset b
    · exact (l0.set (s := .un) a trivial rfl).set (s := .un) b trivial rfl
end
end Dx
end
section
open PySem L2 RT Sx Dx
local macro_rules | `(tactic| walk_at "d") => `(tactic| first
  | ((with_reducible refine' d_var ?k1 ?_); (case k1 => rfl))
  | with_reducible refine' d_c ?_
  | with_reducible refine' d_op ?_
  | with_reducible refine' d_cons ?_
  | with_reducible refine' d_nil ?_
  | with_reducible refine' d_seq ?_
  | ((with_reducible refine' d_asg1 ?_); try dsimp -proj only [List.set_cons_zero, List.set_cons_succ])
  | with_reducible refine' d_asg ?_
  | with_reducible refine' d_cb ?_
  | ((with_reducible refine' d_asgN ?_); try dsimp -proj only [List.set_cons_zero, List.set_cons_succ])
  | ((with_reducible refine' d_bnm ?_); try dsimp -proj only [List.set_cons_zero, List.set_cons_succ])
  | with_reducible refine' d_btp ?_
  | with_reducible refine' d_bcons ?_
  | with_reducible refine' d_bnil ?_
  | ((with_reducible refine' d_slO ?k1 ?_); (case k1 => rfl))
  | ((with_reducible refine' d_lenO ?k1 ?_); (case k1 => rfl))
  | ((with_reducible refine' d_ixO ?k1 ?_); (case k1 => rfl))
  | ((with_reducible refine' d_app ?k1 ?_); (case k1 => rfl))
  | ((with_reducible refine' d_frz ?k1 ?_); (case k1 => rfl); try dsimp -proj only [List.set_cons_zero, List.set_cons_succ, frzS])
  | with_reducible refine' d_newT ?_
  | ((with_reducible refine' d_newK ?_); try dsimp -proj only [List.set_cons_zero, List.set_cons_succ])
  | with_reducible refine' d_putT ?_
  | with_reducible refine' d_listD ?_
  | with_reducible refine' d_lr2 ?_
  | with_reducible refine' d_enumZ ?_
  | ((with_reducible refine' d_parN ?_); try dsimp -proj only [List.set_cons_zero, List.set_cons_succ])
  | with_reducible refine' d_sortI ?_
  | with_reducible refine' d_inLO ?_
  | ((with_reducible refine' d_putO ?k1 ?_); (case k1 => rfl))
  | with_reducible refine' d_catLL ?_
  | with_reducible refine' d_zipX ?_
  | ((with_reducible refine' d_frzD ?k1 ?_); (case k1 => rfl); try dsimp -proj only [List.set_cons_zero, List.set_cons_succ])
  | ((with_reducible refine' d_newB ?_); try dsimp -proj only [List.set_cons_zero, List.set_cons_succ])
  | with_reducible refine' d_putB ?_
  | ((with_reducible refine' d_getB ?k1 ?_); (case k1 => rfl))
  | ((with_reducible refine' d_par ?_); try dsimp -proj only [List.set_cons_zero, List.set_cons_succ])
  | ((with_reducible refine' d_par3 ?_); try dsimp -proj only [List.set_cons_zero, List.set_cons_succ])
  | ((with_reducible refine' d_ex2 ?_); try dsimp -proj only [List.set_cons_zero, List.set_cons_succ])
  | ((with_reducible refine' d_ex3 ?_); try dsimp -proj only [List.set_cons_zero, List.set_cons_succ])
  | with_reducible refine' d_isiI ?_
  | with_reducible refine' d_isiS ?_
  | with_reducible refine' d_lnil ?_
  | with_reducible refine' d_lcons ?_
  | with_reducible refine' d_gcd ?_
  | ((with_reducible refine' d_revO ?k1 ?_); (case k1 => rfl))
  | with_reducible refine' d_revL ?_
  | with_reducible refine' d_rev ?_
  | with_reducible refine' d_exrevL ?_
  | with_reducible refine' d_exrevT ?_
  | with_reducible refine' d_lc ?_
  | with_reducible refine' d_rng1 ?_
  | with_reducible refine' d_rng2 ?_
  | ((with_reducible refine' d_exrng ?k1 ?_); (case k1 => omega))
  | ((with_reducible refine' d_exrng2 ?k1 ?k2 ?_); (case k1 => omega); (case k2 => omega))
  | ((with_reducible refine' d_sz ?k1 ?_); (case k1 => simp; done))
  | with_reducible refine' d_tupQ ?_
  | with_reducible refine' d_lstQ ?_
  | with_reducible refine' d_callX ?_
  | with_reducible refine' d_call0 ?_
  | with_reducible refine' d_ifS ?_
  | with_reducible refine' d_B ?_
  | with_reducible refine' d_exbl ?_
  | with_reducible refine' d_ret ?_
  | with_reducible refine' d_drop ?_
  | with_reducible refine' d_next ?_
  | with_reducible refine' d_chain ?_
  | with_reducible refine' d_and ?_
  | with_reducible refine' d_or ?_
  | with_reducible refine' d_not ?_
  | with_reducible refine' d_andV ?_
  | with_reducible refine' d_orV ?_
  | with_reducible refine' d_notV ?_
  | with_reducible refine' d_neR ?_
  | with_reducible refine' d_eqR ?_
  | with_reducible refine' d_ccons ?_
  | ((with_reducible refine' d_cnil ?_); try dsimp -proj only [List.nil_append, List.cons_append])
  | with_reducible refine' d_listOf ?_
  | with_reducible refine' d_oflT ?_
  | with_reducible refine' d_oflL ?_
  | with_reducible refine' d_exsR ?_
  | with_reducible refine' d_lenR ?_
  | ((with_reducible refine' d_retO ?k1 ?_); (case k1 => rfl))
  | with_reducible refine' d_retW ?_
  | with_reducible refine' d_callXN ?_
  | with_reducible refine' d_call0N ?_
  | ((with_reducible refine' d_likeO ?k1 ?_); (case k1 => rfl))
  | with_reducible refine' d_join ?_
  | with_reducible refine' d_split ?_
  | with_reducible refine' d_exstr ?_
  | with_reducible refine' d_asgL ?_
  | with_reducible refine' d_fzD ?_
  | with_reducible refine' d_dc ?_
  | with_reducible refine' d_notInK ?_
  | with_reducible refine' d_inK ?_
  | with_reducible refine' d_getK ?_
  | with_reducible refine' d_exks ?_
  | with_reducible refine' d_raise0 ?_
  | ((with_reducible refine' d_strN ?k1 ?_); (case k1 => omega))
  | with_reducible refine' d_if ?_
  | with_reducible refine' d_un ?_
  | with_reducible refine' d_fz ?_
  | with_reducible refine' d_addN ?_
  | ((with_reducible refine' d_subN ?k1 ?_); (case k1 => omega))
  | ((with_reducible refine' d_mdN ?k1 ?_); (case k1 => omega))
  | ((with_reducible refine' d_fdN ?k1 ?k2 ?_); (case k1 => omega); (case k2 => omega))
  | ((with_reducible refine' d_mulL ?k1 ?k2 ?_); (case k1 => omega); (case k2 => omega))
  | with_reducible refine' d_ltN ?_
  | with_reducible refine' d_leN ?_
  | with_reducible refine' d_gtN ?_
  | with_reducible refine' d_geN ?_
  | with_reducible refine' d_eqN ?_
  | with_reducible refine' d_neN ?_
  | with_reducible refine' d_negN ?_
  | with_reducible refine' d_bit ?_
  | ((with_reducible refine' d_lenT ?_); try rw [List.length_map])
  | ((with_reducible refine' d_lenL ?_); try rw [List.length_map])
  | ((with_reducible refine' d_aug ?k1 ?_); (case k1 => rfl))
  | with_reducible refine' d_slTA ?_
  | with_reducible refine' d_slTo ?_
  | with_reducible refine' d_slFrom ?_
  | with_reducible refine' d_slMid ?_
  | with_reducible refine' d_slT0 ?_
  | ((with_reducible refine' d_catR ?k1 ?_); (case k1 => simp only [List.length_take, List.length_drop, List.length_append, List.length_cons, List.length_nil]; omega))
  | ((with_reducible refine' d_catR1 ?k1 ?_); (case k1 => simp only [List.length_take, List.length_drop, List.length_append, List.length_cons, List.length_nil]; omega))
  | ((with_reducible refine' d_catR2 ?k1 ?_); (case k1 => simp only [List.length_take, List.length_drop, List.length_append, List.length_cons, List.length_nil]; omega))
  | with_reducible refine' d_sumR ?_
  | with_reducible refine' d_revT ?_
  | with_reducible refine' d_keysW ?_
  | with_reducible refine' d_isNN ?_
  | with_reducible refine' d_isNT ?_
  | with_reducible refine' d_notNN ?_
  | with_reducible refine' d_notNT ?_
  | with_reducible refine' d_notNR ?_
  | with_reducible refine' d_isNR ?_
  | with_reducible refine' d_eqNR ?_
  | with_reducible refine' d_neNR ?_
  | with_reducible refine' d_neStr ?_
  | with_reducible refine' d_eqStr ?_
  | with_reducible refine' d_slL ?_
  | with_reducible refine' d_exsT ?_
  | with_reducible refine' d_exsL ?_
  | with_reducible refine' d_nopart ?_
  | with_reducible refine' dw_part ?_
  | with_reducible refine' d_exint ?_
  | with_reducible refine' d_yes1 ?_
  | with_reducible refine' d_itT ?_
  | with_reducible refine' d_itL ?_
  | with_reducible refine' d_itK ?_
  | with_reducible refine' d_exsK ?_
  | with_reducible refine' d_for ?_
  | with_reducible refine' d_tupL ?_
  | with_reducible refine' d_tupT ?_
  | with_reducible refine' i_iteT ?_
  | with_reducible refine' i_iteNT ?_
  | with_reducible refine' i_iteNF ?_
  | with_reducible refine' i_iteF ?_
  | ((with_reducible refine' i_yes ?k1 ?_); (case k1 => omega))
  | ((with_reducible refine' i_nay ?k1 ?_); (case k1 => omega))
  | ((with_reducible refine' i_yesN ?k1 ?_); (case k1 => omega))
  | ((with_reducible refine' i_nayN ?k1 ?_); (case k1 => omega))
  | ((with_reducible refine' i_yesS ?k1 ?_); (case k1 => decide))
  | ((with_reducible refine' i_nayS ?k1 ?_); (case k1 => decide))
  | ((with_reducible refine' i_yesSN ?k1 ?_); (case k1 => decide))
  | ((with_reducible refine' i_naySN ?k1 ?_); (case k1 => decide)))
local macro_rules | `(tactic| walk_at "dgo") => `(tactic| (repeat walk_at "d"; try dsimp -proj only [List.set_cons_zero, List.set_cons_succ]))
local macro_rules | `(tactic| walk_at "b") => `(tactic| (try dsimp -proj only [List.set_cons_zero, List.set_cons_succ]))
namespace Dx
def d_law : DS := (dSeq (dAsg (.nm 1) (dCall0 sp__law_dice (dCons (dVar 0) dNil)))
  (dSeq (dAsg (.nm 2) (dCall0 sp__law_drawn (dCons (dVar 1) (dCons (dC (nat 12)) dNil))))
  (dSeq (dAsg (.nm 3) (dCall0 sp__law_table (dCons (dVar 2) dNil)))
  (dSeq (dFor (dRng1 (dCons (dC (nat 2)) dNil)) (.nm 4)
  (dSeq (dAsgN 5 (dCall0N spN_table (dCons (dVar 2) dNil)))
  (dSeq (dIfS (dNot (dB (dLikeO 5 (dVar 3)))) (dRet (dC (.bl false))) dNext)
  (dApp 5 (dTup dNil)))))
  (dSeq (dAsg (.nm 6) (dCall0 sp__law_wrong (dCons (dVar 1) (dCons (dVar 3) (dCons (dC (nat 12)) dNil)))))
  (dSeq (dIfS (dB (dOp dEqS (dCall0 sp__law_next (dCons (dVar 1) (dCons (dC (nat 4)) dNil))) (dC (nat 3)))) (dAsg (.nm 6) (dCall0 sp__law_table (dCons (dCall0 sp__law_drawn (dCons (dVar 1) (dCons (dC (nat 12)) dNil))) dNil))) dNext)
  (dSeq (dAsg (.nm 7) (dFz (dListOf (dCons (dVar 6) dNil))))
  (dSeq (dFor (dRng1 (dCons (dC (nat 2)) dNil)) (.nm 4)
  (dBlk 10 2 6 7 5 8 9 spN_faults (dCons (dVar 2) (dCons (dVar 7) dNil)) (dOr (dNot (dB (dCall0 sp__law_like (dCons (dVar 5) (dCons (dCall0 sp__law_faults (dCons (dVar 2) (dCons (dVar 6) dNil))) dNil))))) (dB (dOp dNe (dVar 7) (dVar 6))))))
  (dRet (dOp dEq (dFz (dCall0N spN_faults (dCons (dVar 2) (dCons (dVar 3) dNil)))) (dFz (dLst dNil))))))))))))

section
variable {xs : List Dt} {P : Dt → Prop} {X : DX}
theorem plB_rows {rows : List (List Nat)} {n : Nat} (h : rows.length ≤ 100000) (hr : ∀ r ∈ rows, r.length ≤ 100000) : plB (n + 2) (rowsD rows) = true := by
  unfold rowsD
  simp only [plB, Bool.and_eq_true, decide_eq_true_eq, List.length_map]
  refine ⟨h, plBs_all.mpr fun x hx => ?_⟩
  obtain ⟨r, hr', rfl⟩ := List.mem_map.mp hx
  exact plB_row (hr r hr')
/-- one figure of a row changed -/
def chg (r : List Nat) (i f : Nat) : List Nat := r.take i ++ [f] ++ r.drop (i + 1)
/-- one turn: what is told is asked, then changed -/
theorem blk_turn {h : List Nat} {rows : List (List Nat)} {D : DEnds} {s0 s1 s3 s4 s5 s8 s9 : Sl} (ih : IsRow h) (hl : rows.length = 23) (hr : ∀ r ∈ rows, r.length ≤ 1000)
    (q : D.nx [s0, s1, .v (rowD h), s3, s4, .un, .v (rowsD rows), .v (rowsD rows), .un, .un]) :
    dBlk 10 2 6 7 5 8 9 spN_faults (dCons (dVar 2) (dCons (dVar 7) dNil)) (dOr (dNot (dB (dCall0 sp__law_like (dCons (dVar 5) (dCons (dCall0 sp__law_faults (dCons (dVar 2) (dCons (dVar 6) dNil))) dNil))))) (dB (dOp dNe (dVar 7) (dVar 6)))) D X
      [s0, s1, .v (rowD h), s3, s4, s5, .v (rowsD rows), .v (rowsD rows), s8, s9] := by
  refine ⟨h, rows, faultsN (tableN h) rows 23, rfl, rfl, rfl, rfl, (fun z => by rw [z] at hl; cases hl), ?_, (fun f hf => ?_), by decide, ?_⟩
  · unfold faultsN wrongN
    have := List.length_filter_le (fun i => decide (rows[i]? ≠ (tableN h)[i]?)) (List.range 23)
    rw [List.length_map]
    rw [List.length_range] at this
    omega
  · unfold faultsN at hf
    obtain ⟨i, hi, rfl⟩ := List.mem_map.mp hf
    obtain ⟨hi, _⟩ := wrong_iff.mp hi
    obtain ⟨r, hr⟩ := tab_row (h := h) hi
    have hg : (tableN h).getD i [] = r := by rw [List.getD_eq_getElem?_getD, hr]; rfl
    show (slipsOf ((tableN h).getD i []) (rows.getD i [])).length ≤ 100000
    rw [hg]
    exact slips_count (by have := (tab_small ih hr).1; omega)
  · show (dCons (dVar 2) (dCons (dVar 7) dNil)) none_ [.un, .un, .v (rowD h), .un, .un, .un, .v (rowsD rows), .v (rowsD rows), .un, .un] _
    walk_at "dgo"
    refine .inl ⟨h, rows, ih, rfl, hl, hr, rfl, ?_⟩
    show dOr _ _ none_ [.un, .un, .v (rowD h), .un, .un, .v (.lst ((faultsN (tableN h) rows 23).map faultP)), .v (rowsD rows), .v (rowsD rows), .un, .un] _
    walk_at "dgo"
    refine ⟨h, rows, ih, rfl, hl, hr, ?_⟩
    walk_at "dgo"
    refine ⟨_, rfl, plB_faults ih, ?_⟩
    walk_at "dgo"
    refine d_neSame (n := 2) (plB_rows (by omega) fun r h => by have := hr r h; omega) (by decide) ?_
    walk_at "dgo"
    exact ⟨rfl, q⟩
theorem dp_law (h : sp_law xs P X) : d_law (dEnds P) X (startD xs (10 - xs.length)) := by
  obtain ⟨ns, rfl, hl, q⟩ := h
  show d_law (dEnds P) X [.v (.scr ns), .un, .un, .un, .un, .un, .un, .un, .un, .un]
  unfold d_law
  walk_at "dgo"
  refine ⟨ns, .inl rfl, hl, ?_⟩
  walk_at "dgo"
  refine ⟨12, rfl, by decide, by decide, fun h ih _ => ?_⟩
  walk_at "dgo"
  refine ⟨h, ih, rfl, ?_⟩
  walk_at "dgo"
  -- the table, asked twice
  refine d_loop (fun i ρ => ∃ s4 s5 : Sl, ρ = [.v (.scr ns), .v .dice, .v (rowD h), .v (rowsD (tableN h)), s4, s5, .un, .un, .un, .un]) ⟨_, _, rfl⟩ ?_ ?_
  · rintro i x ρ N hx ⟨s4, s5, rfl⟩ hN
    obtain ⟨hi, rfl⟩ := range_get hx
    walk_at "dgo"
    refine .inl ⟨h, ih, rfl, ?_⟩
    walk_at "dgo"
    refine ⟨rfl, plB_rows (n := 4) (by rw [tab_len]; decide) fun r hr => ?_, ?_⟩
    · obtain ⟨i, hi⟩ := List.mem_iff_getElem?.mp hr
      have := (tab_small ih hi).1
      omega
    walk_at "dgo"
    refine ⟨by rw [List.length_map, tab_len]; decide, ?_⟩
    exact hN _ ⟨_, _, rfl⟩
  rintro ρ ⟨s4, s5, rfl⟩
  walk_at "dgo"
  refine ⟨tableN h, 12, rfl, tab_len h, fun r hr => ?_, by decide, fun out hol hof _ => ?_⟩
  · obtain ⟨i, hi⟩ := List.mem_iff_getElem?.mp hr
    obtain ⟨a, b⟩ := tab_small ih hi
    exact ⟨b.fig, b.ne, a⟩
  walk_at "dgo"
  refine ⟨4, rfl, by decide, by decide, fun k4 _ => ?_⟩
  walk_at "dgo"
  -- the rows that are handed in, whichever
  have t1000 : ∀ r ∈ tableN h, r.length ≤ 1000 := fun r hr => by
    obtain ⟨i, hi⟩ := List.mem_iff_getElem?.mp hr
    have := (tab_small ih hi).1
    omega
  have rest : ∀ rows : List (List Nat), rows.length = 23 → (∀ r ∈ rows, r.length ≤ 1000) →
      (dSeq (dAsg (.nm 7) (dFz (dListOf (dCons (dVar 6) dNil))))
        (dSeq (dFor (dRng1 (dCons (dC (nat 2)) dNil)) (.nm 4)
        (dBlk 10 2 6 7 5 8 9 spN_faults (dCons (dVar 2) (dCons (dVar 7) dNil)) (dOr (dNot (dB (dCall0 sp__law_like (dCons (dVar 5) (dCons (dCall0 sp__law_faults (dCons (dVar 2) (dCons (dVar 6) dNil))) dNil))))) (dB (dOp dNe (dVar 7) (dVar 6))))))
        (dRet (dOp dEq (dFz (dCall0N spN_faults (dCons (dVar 2) (dCons (dVar 3) dNil)))) (dFz (dLst dNil)))))) (dEnds P) X
      [.v (.scr ns), .v .dice, .v (rowD h), .v (rowsD (tableN h)), s4, s5, .v (rowsD rows), .un, .un, .un] := by
    intro rows hl hr
    walk_at "dgo"
    refine .inl ⟨_, rfl, ?_⟩
    walk_at "dgo"
    refine d_loop (fun i ρ => ∃ s4 s5 s8 s9 : Sl, ρ = [.v (.scr ns), .v .dice, .v (rowD h), .v (rowsD (tableN h)), s4, s5, .v (rowsD rows), .v (rowsD rows), s8, s9]) ⟨_, _, _, _, rfl⟩ ?_ ?_
    · rintro i x ρ N hx ⟨s4, s5, s8, s9, rfl⟩ hN
      obtain ⟨hi, rfl⟩ := range_get hx
      walk_at "dgo"
      exact blk_turn ih hl hr (hN _ ⟨_, _, _, _, rfl⟩)
    · rintro ρ ⟨s4, s5, s8, s9, rfl⟩
      walk_at "dgo"
      refine .inl ⟨h, tableN h, ih, rfl, tab_len h, t1000, ?_⟩
      walk_at "dgo"
      rw [faults_self]
      refine d_eqSame (n := 1) plB_nil (by decide) ?_
      walk_at "dgo"
      exact q
  have o1000 : ∀ r ∈ out, r.length ≤ 1000 := fun r hr => by have := (hof r hr).2.2; omega
  by_cases e : k4 = 3
  · refine i_yes e ?_
    walk_at "dgo"
    refine ⟨12, rfl, by decide, by decide, fun g ig _ => ?_⟩
    walk_at "dgo"
    refine ⟨g, ig, rfl, ?_⟩
    exact rest (tableN g) (tab_len g) fun r hr => by
      obtain ⟨i, hi⟩ := List.mem_iff_getElem?.mp hr
      have := (tab_small ig hi).1
      omega
  · refine i_nay e ?_
    exact rest out hol o1000
end
end Dx
namespace Dx
open PySem L2 RT Sx
def top (i : Nat) : Stmt := PySem.Challenge.pw_sixtyfold_k09_tables_and_faults.main.body.getD i (.Pass ⟨0, 0, 0, 0⟩)
abbrev s__law_dice : Stmt := top 25
theorem sc__law_dice : FnScope ["_law_script", "_law_mixed", "_law_cell"] ["_law_script"] (defScope s__law_dice) := ⟨rfl, rfl, rfl, by decide +kernel, rfl, by decide +kernel, by decide +kernel⟩
abbrev s__law_next : Stmt := top 26
theorem sc__law_next : FnScope ["_law_dice_here", "_law_many", "_law_found", "_law_cell"] ["_law_dice_here", "_law_many"] (defScope s__law_next) := ⟨rfl, rfl, rfl, by decide +kernel, rfl, by decide +kernel, by decide +kernel⟩
abbrev s__law_row : Stmt := top 29
theorem sc__law_row : FnScope ["_law_number", "_law_figures"] ["_law_number"] (defScope s__law_row) := ⟨rfl, rfl, rfl, by decide +kernel, rfl, by decide +kernel, by decide +kernel⟩
abbrev s__law_smooth : Stmt := top 30
theorem sc__law_smooth : FnScope ["_law_d", "_law_found", "_law_prime", "_law_k"] ["_law_d"] (defScope s__law_smooth) := ⟨rfl, rfl, rfl, by decide +kernel, rfl, by decide +kernel, by decide +kernel⟩
abbrev s__law_drawn : Stmt := top 31
theorem sc__law_drawn : FnScope ["_law_d", "_law_most", "_law_kind", "_law_found", "_law_figures", "_law_k"] ["_law_d", "_law_most"] (defScope s__law_drawn) := ⟨rfl, rfl, rfl, by decide +kernel, rfl, by decide +kernel, by decide +kernel⟩
abbrev s__law_made : Stmt := top 32
theorem sc__law_made : FnScope ["_law_row_here", "_law_kind", "_law_at", "_law_pair"] ["_law_row_here", "_law_kind", "_law_at"] (defScope s__law_made) := ⟨rfl, rfl, rfl, by decide +kernel, rfl, by decide +kernel, by decide +kernel⟩
abbrev s__law_slips : Stmt := top 33
theorem sc__law_slips : FnScope ["_law_row_here", "_law_told", "_law_found", "_law_at", "_law_rest", "_law_kind"] ["_law_row_here", "_law_told"] (defScope s__law_slips) := ⟨rfl, rfl, rfl, by decide +kernel, rfl, by decide +kernel, by decide +kernel⟩
abbrev s__law_numbers : Stmt := top 35
theorem sc__law_numbers : FnScope [] [] (defScope s__law_numbers) := ⟨rfl, rfl, rfl, by decide +kernel, rfl, by decide +kernel, by decide +kernel⟩
abbrev s__law_whole_of : Stmt := top 28
theorem sc__law_whole_of : FnScope ["_law_row_here", "_law_found", "_law_k"] ["_law_row_here"] (defScope s__law_whole_of) := ⟨rfl, rfl, rfl, by decide +kernel, rfl, by decide +kernel, by decide +kernel⟩
abbrev s__law_table : Stmt := top 36
theorem sc__law_table : FnScope ["_law_head", "_law_number"] ["_law_head"] (defScope s__law_table) := ⟨rfl, rfl, rfl, by decide +kernel, rfl, by decide +kernel, by decide +kernel⟩
abbrev s__law_faults : Stmt := top 37
theorem sc__law_faults : FnScope ["_law_head", "_law_rows", "_law_due", "_law_at"] ["_law_head", "_law_rows"] (defScope s__law_faults) := ⟨rfl, rfl, rfl, by decide +kernel, rfl, by decide +kernel, by decide +kernel⟩
abbrev s__law_like : Stmt := top 27
theorem sc__law_like : FnScope ["_law_found", "_law_due", "_law_k"] ["_law_found", "_law_due"] (defScope s__law_like) := ⟨rfl, rfl, rfl, by decide +kernel, rfl, by decide +kernel, by decide +kernel⟩
abbrev s__law_spoilt : Stmt := top 34
theorem sc__law_spoilt : FnScope ["_law_d", "_law_row_here", "_law_turn", "_law_at", "_law_kind"] ["_law_d", "_law_row_here"] (defScope s__law_spoilt) := ⟨rfl, rfl, rfl, by decide +kernel, rfl, by decide +kernel, by decide +kernel⟩
abbrev s__law_wrong : Stmt := top 38
theorem sc__law_wrong : FnScope ["_law_d", "_law_rows", "_law_most", "_law_found", "_law_k", "_law_at"] ["_law_d", "_law_rows", "_law_most"] (defScope s__law_wrong) := ⟨rfl, rfl, rfl, by decide +kernel, rfl, by decide +kernel, by decide +kernel⟩
abbrev s_is_joined : Stmt := top 16
theorem sc_is_joined : FnScope ["due", "told", "at", "pair"] ["due", "told", "at"] (defScope s_is_joined) := ⟨rfl, rfl, rfl, by decide +kernel, rfl, by decide +kernel, by decide +kernel⟩
abbrev s_is_left_out : Stmt := top 14
theorem sc_is_left_out : FnScope ["due", "told", "at"] ["due", "told", "at"] (defScope s_is_left_out) := ⟨rfl, rfl, rfl, by decide +kernel, rfl, by decide +kernel, by decide +kernel⟩
abbrev s_is_other_figure : Stmt := top 13
theorem sc_is_other_figure : FnScope ["due", "told", "at"] ["due", "told", "at"] (defScope s_is_other_figure) := ⟨rfl, rfl, rfl, by decide +kernel, rfl, by decide +kernel, by decide +kernel⟩
abbrev s_is_swapped : Stmt := top 17
theorem sc_is_swapped : FnScope ["due", "told", "at", "pair"] ["due", "told", "at"] (defScope s_is_swapped) := ⟨rfl, rfl, rfl, by decide +kernel, rfl, by decide +kernel, by decide +kernel⟩
abbrev s_is_twice : Stmt := top 15
theorem sc_is_twice : FnScope ["due", "told", "at"] ["due", "told", "at"] (defScope s_is_twice) := ⟨rfl, rfl, rfl, by decide +kernel, rfl, by decide +kernel, by decide +kernel⟩
abbrev s_slips_between : Stmt := top 19
theorem sc_slips_between : FnScope ["due", "told", "found", "sort", "is_slip", "at"] ["due", "told"] (defScope s_slips_between) := ⟨rfl, rfl, rfl, by decide +kernel, rfl, by decide +kernel, by decide +kernel⟩
abbrev s_figures_of : Stmt := top 10
theorem sc_figures_of : FnScope ["number", "powers", "pieces", "power", "ahead", "piece", "half"] ["number"] (defScope s_figures_of) := ⟨rfl, rfl, rfl, by decide +kernel, rfl, by decide +kernel, by decide +kernel⟩
abbrev s_row_of : Stmt := top 11
theorem sc_row_of : FnScope ["number", "figures", "last"] ["number"] (defScope s_row_of) := ⟨rfl, rfl, rfl, by decide +kernel, rfl, by decide +kernel, by decide +kernel⟩
abbrev s_is_long_row : Stmt := top 7
theorem sc_is_long_row : FnScope ["figures"] ["figures"] (defScope s_is_long_row) := ⟨rfl, rfl, rfl, by decide +kernel, rfl, by decide +kernel, by decide +kernel⟩
abbrev s_is_row : Stmt := top 6
theorem sc_is_row : FnScope ["figures"] ["figures"] (defScope s_is_row) := ⟨rfl, rfl, rfl, by decide +kernel, rfl, by decide +kernel, by decide +kernel⟩
abbrev s_check_row : Stmt := top 5
theorem sc_check_row : FnScope ["row"] ["row"] (defScope s_check_row) := ⟨rfl, rfl, rfl, by decide +kernel, rfl, by decide +kernel, by decide +kernel⟩
abbrev s_number_of : Stmt := top 9
theorem sc_number_of : FnScope ["figures", "number", "figure"] ["figures"] (defScope s_number_of) := ⟨rfl, rfl, rfl, by decide +kernel, rfl, by decide +kernel, by decide +kernel⟩
abbrev s_whole_of : Stmt := top 8
theorem sc_whole_of : FnScope ["row"] ["row"] (defScope s_whole_of) := ⟨rfl, rfl, rfl, by decide +kernel, rfl, by decide +kernel, by decide +kernel⟩
abbrev s_table : Stmt := top 22
theorem sc_table : FnScope ["head", "whole", "multiple"] ["head"] (defScope s_table) := ⟨rfl, rfl, rfl, by decide +kernel, rfl, by decide +kernel, by decide +kernel⟩
abbrev s_faults : Stmt := top 23
theorem sc_faults : FnScope ["head", "rows", "found", "number", "due", "told"] ["head", "rows"] (defScope s_faults) := ⟨rfl, rfl, rfl, by decide +kernel, rfl, by decide +kernel, by decide +kernel⟩
abbrev s_law : Stmt := top 39
theorem sc_law : FnScope ["_law_script", "_law_d", "_law_head", "_law_due", "_law_turn", "_law_found", "_law_rows", "_law_handed", "_law_at", "_law_row_here"] ["_law_script"] (defScope s_law) := ⟨rfl, rfl, rfl, by decide +kernel, rfl, by decide +kernel, by decide +kernel⟩
structure Tx (P : Program) (w : World) (K : PySem.W.Frag) (mg : Str → Option Value) where
  e : Er
  e_BadRow : OwnP K mg "BadRow" (ecOf e 1)
  a__law_dice : Addr
  d__law_dice : FuncData
  F__law_dice : Fun K "_law_dice" "_law_dice" s__law_dice a__law_dice d__law_dice
  g__law_dice : mg "_law_dice" = some (.ref a__law_dice)
  b__law_dice : Binds K d__law_dice ["_law_script"] []
  a__law_next : Addr
  d__law_next : FuncData
  F__law_next : Fun K "_law_next" "_law_next" s__law_next a__law_next d__law_next
  g__law_next : mg "_law_next" = some (.ref a__law_next)
  b__law_next : Binds K d__law_next ["_law_dice_here", "_law_many"] []
  a__law_row : Addr
  d__law_row : FuncData
  F__law_row : Fun K "_law_row" "_law_row" s__law_row a__law_row d__law_row
  g__law_row : mg "_law_row" = some (.ref a__law_row)
  b__law_row : Binds K d__law_row ["_law_number"] []
  a__law_smooth : Addr
  d__law_smooth : FuncData
  F__law_smooth : Fun K "_law_smooth" "_law_smooth" s__law_smooth a__law_smooth d__law_smooth
  g__law_smooth : mg "_law_smooth" = some (.ref a__law_smooth)
  b__law_smooth : Binds K d__law_smooth ["_law_d"] []
  a__law_drawn : Addr
  d__law_drawn : FuncData
  F__law_drawn : Fun K "_law_drawn" "_law_drawn" s__law_drawn a__law_drawn d__law_drawn
  g__law_drawn : mg "_law_drawn" = some (.ref a__law_drawn)
  b__law_drawn : Binds K d__law_drawn ["_law_d", "_law_most"] []
  a__law_made : Addr
  d__law_made : FuncData
  F__law_made : Fun K "_law_made" "_law_made" s__law_made a__law_made d__law_made
  g__law_made : mg "_law_made" = some (.ref a__law_made)
  b__law_made : Binds K d__law_made ["_law_row_here", "_law_kind", "_law_at"] []
  a__law_slips : Addr
  d__law_slips : FuncData
  F__law_slips : Fun K "_law_slips" "_law_slips" s__law_slips a__law_slips d__law_slips
  g__law_slips : mg "_law_slips" = some (.ref a__law_slips)
  b__law_slips : Binds K d__law_slips ["_law_row_here", "_law_told"] []
  a__law_numbers : Addr
  d__law_numbers : FuncData
  F__law_numbers : Fun K "_law_numbers" "_law_numbers" s__law_numbers a__law_numbers d__law_numbers
  g__law_numbers : mg "_law_numbers" = some (.ref a__law_numbers)
  b__law_numbers : Binds K d__law_numbers [] []
  a__law_whole_of : Addr
  d__law_whole_of : FuncData
  F__law_whole_of : Fun K "_law_whole_of" "_law_whole_of" s__law_whole_of a__law_whole_of d__law_whole_of
  g__law_whole_of : mg "_law_whole_of" = some (.ref a__law_whole_of)
  b__law_whole_of : Binds K d__law_whole_of ["_law_row_here"] []
  a__law_table : Addr
  d__law_table : FuncData
  F__law_table : Fun K "_law_table" "_law_table" s__law_table a__law_table d__law_table
  g__law_table : mg "_law_table" = some (.ref a__law_table)
  b__law_table : Binds K d__law_table ["_law_head"] []
  a__law_faults : Addr
  d__law_faults : FuncData
  F__law_faults : Fun K "_law_faults" "_law_faults" s__law_faults a__law_faults d__law_faults
  g__law_faults : mg "_law_faults" = some (.ref a__law_faults)
  b__law_faults : Binds K d__law_faults ["_law_head", "_law_rows"] []
  a__law_like : Addr
  d__law_like : FuncData
  F__law_like : Fun K "_law_like" "_law_like" s__law_like a__law_like d__law_like
  g__law_like : mg "_law_like" = some (.ref a__law_like)
  b__law_like : Binds K d__law_like ["_law_found", "_law_due"] []
  a__law_spoilt : Addr
  d__law_spoilt : FuncData
  F__law_spoilt : Fun K "_law_spoilt" "_law_spoilt" s__law_spoilt a__law_spoilt d__law_spoilt
  g__law_spoilt : mg "_law_spoilt" = some (.ref a__law_spoilt)
  b__law_spoilt : Binds K d__law_spoilt ["_law_d", "_law_row_here"] []
  a__law_wrong : Addr
  d__law_wrong : FuncData
  F__law_wrong : Fun K "_law_wrong" "_law_wrong" s__law_wrong a__law_wrong d__law_wrong
  g__law_wrong : mg "_law_wrong" = some (.ref a__law_wrong)
  b__law_wrong : Binds K d__law_wrong ["_law_d", "_law_rows", "_law_most"] []
  a_is_joined : Addr
  d_is_joined : FuncData
  F_is_joined : Fun K "is_joined" "is_joined" s_is_joined a_is_joined d_is_joined
  g_is_joined : mg "is_joined" = some (.ref a_is_joined)
  b_is_joined : Binds K d_is_joined ["due", "told", "at"] []
  a_is_left_out : Addr
  d_is_left_out : FuncData
  F_is_left_out : Fun K "is_left_out" "is_left_out" s_is_left_out a_is_left_out d_is_left_out
  g_is_left_out : mg "is_left_out" = some (.ref a_is_left_out)
  b_is_left_out : Binds K d_is_left_out ["due", "told", "at"] []
  a_is_other_figure : Addr
  d_is_other_figure : FuncData
  F_is_other_figure : Fun K "is_other_figure" "is_other_figure" s_is_other_figure a_is_other_figure d_is_other_figure
  g_is_other_figure : mg "is_other_figure" = some (.ref a_is_other_figure)
  b_is_other_figure : Binds K d_is_other_figure ["due", "told", "at"] []
  a_is_swapped : Addr
  d_is_swapped : FuncData
  F_is_swapped : Fun K "is_swapped" "is_swapped" s_is_swapped a_is_swapped d_is_swapped
  g_is_swapped : mg "is_swapped" = some (.ref a_is_swapped)
  b_is_swapped : Binds K d_is_swapped ["due", "told", "at"] []
  a_is_twice : Addr
  d_is_twice : FuncData
  F_is_twice : Fun K "is_twice" "is_twice" s_is_twice a_is_twice d_is_twice
  g_is_twice : mg "is_twice" = some (.ref a_is_twice)
  b_is_twice : Binds K d_is_twice ["due", "told", "at"] []
  a_slips_between : Addr
  d_slips_between : FuncData
  F_slips_between : Fun K "slips_between" "slips_between" s_slips_between a_slips_between d_slips_between
  g_slips_between : mg "slips_between" = some (.ref a_slips_between)
  b_slips_between : Binds K d_slips_between ["due", "told"] []
  a_figures_of : Addr
  d_figures_of : FuncData
  F_figures_of : Fun K "figures_of" "figures_of" s_figures_of a_figures_of d_figures_of
  g_figures_of : mg "figures_of" = some (.ref a_figures_of)
  b_figures_of : Binds K d_figures_of ["number"] []
  a_row_of : Addr
  d_row_of : FuncData
  F_row_of : Fun K "row_of" "row_of" s_row_of a_row_of d_row_of
  g_row_of : mg "row_of" = some (.ref a_row_of)
  b_row_of : Binds K d_row_of ["number"] []
  a_is_long_row : Addr
  d_is_long_row : FuncData
  F_is_long_row : Fun K "is_long_row" "is_long_row" s_is_long_row a_is_long_row d_is_long_row
  g_is_long_row : mg "is_long_row" = some (.ref a_is_long_row)
  b_is_long_row : Binds K d_is_long_row ["figures"] []
  a_is_row : Addr
  d_is_row : FuncData
  F_is_row : Fun K "is_row" "is_row" s_is_row a_is_row d_is_row
  g_is_row : mg "is_row" = some (.ref a_is_row)
  b_is_row : Binds K d_is_row ["figures"] []
  a_check_row : Addr
  d_check_row : FuncData
  F_check_row : Fun K "check_row" "check_row" s_check_row a_check_row d_check_row
  g_check_row : mg "check_row" = some (.ref a_check_row)
  b_check_row : Binds K d_check_row ["row"] []
  a_number_of : Addr
  d_number_of : FuncData
  F_number_of : Fun K "number_of" "number_of" s_number_of a_number_of d_number_of
  g_number_of : mg "number_of" = some (.ref a_number_of)
  b_number_of : Binds K d_number_of ["figures"] []
  a_whole_of : Addr
  d_whole_of : FuncData
  F_whole_of : Fun K "whole_of" "whole_of" s_whole_of a_whole_of d_whole_of
  g_whole_of : mg "whole_of" = some (.ref a_whole_of)
  b_whole_of : Binds K d_whole_of ["row"] []
  a_table : Addr
  d_table : FuncData
  F_table : Fun K "table" "table" s_table a_table d_table
  g_table : mg "table" = some (.ref a_table)
  b_table : Binds K d_table ["head"] []
  a_faults : Addr
  d_faults : FuncData
  F_faults : Fun K "faults" "faults" s_faults a_faults d_faults
  g_faults : mg "faults" = some (.ref a_faults)
  b_faults : Binds K d_faults ["head", "rows"] []
  a_law : Addr
  d_law : FuncData
  F_law : Fun K "law" "law" s_law a_law d_law
  g_law : mg "law" = some (.ref a_law)
  b_law : Binds K d_law ["_law_script"] []
  z_bool : mg "bool" = none
  z_divmod : mg "divmod" = none
  z_enumerate : mg "enumerate" = none
  z_int : mg "int" = none
  z_isinstance : mg "isinstance" = none
  z_len : mg "len" = none
  z_list : mg "list" = none
  z_max : mg "max" = none
  z_min : mg "min" = none
  z_range : mg "range" = none
  z_reversed : mg "reversed" = none
  z_str : mg "str" = none
  z_sum : mg "sum" = none
  z_tuple : mg "tuple" = none
  z_zip : mg "zip" = none
  c_SORTS : ∃ a, mg "SORTS" = some (.ref a) ∧ L2.KWr K w a [(("figure" : Str), a_is_other_figure), (("left" : Str), a_is_left_out), (("twice" : Str), a_is_twice), (("joined" : Str), a_is_joined), (("swapped" : Str), a_is_swapped)]
  c_MOST_FIGURES : ∃ t, mg "MOST_FIGURES" = some (.int 12 t)
  c_MULTIPLES : ∃ a, mg "MULTIPLES" = some (.ref a) ∧ ∀ W, Rp K W (.ref a) (.ktup [(nat 1), (nat 2), (nat 3), (nat 4), (nat 5), (nat 6), (nat 7), (nat 8), (nat 9), (nat 10), (nat 11), (nat 12), (nat 13), (nat 14), (nat 15), (nat 16), (nat 17), (nat 18), (nat 19), (nat 20), (nat 30), (nat 40), (nat 50)])
section
variable {P : Program} {w : World} {K : PySem.W.Frag} {mg : Str → Option Value} {base : Heap}
theorem len__law_dice {vs : List V} {H : Hp} {Q : VK} {E : XK} (h : Sx.sp__law_dice K vs H Q E) : vs.length = 1 := by
  unfold Sx.sp__law_dice at h; first | (obtain ⟨_, rfl, _⟩ := h; rfl) | (obtain ⟨_, _, rfl, _⟩ := h; rfl) | (obtain ⟨_, _, _, rfl, _⟩ := h; rfl) | (obtain ⟨_, _, _, _, rfl, _⟩ := h; rfl)
theorem old__law_dice (T : Tx P w K mg) : FnOk P w K mg base CX0 1 T.a__law_dice T.d__law_dice ["_law_script"] (Sx.sp__law_dice K) := by
  refine T.F__law_dice.ok sc__law_dice (fun vs H Q E h => len__law_dice h) (fun cdv A outer s H vs Q E hr h => ⟨Sx.t__law_dice K, ?_, Sx.pure__law_dice h⟩)
  exact (pss_cons (ps_set (i := 1) sc__law_dice.nd rfl (Or.inl rfl) pe_int)
  (pss_cons (ps_for PassesOwn.never rfl (pi_list (pv 0)) (pg_name (i := 2) sc__law_dice.nd rfl (Or.inl rfl))
  (pss_one (ps_set (i := 1) sc__law_dice.nd rfl (Or.inl rfl) (pe_op op_mod (pe_op op_add (pe_op op_add (pe_op op_mul (pv 1) pe_int) (pe_op op_mul (pe_op op_mod (pv 2) pe_int) pe_int)) pe_int) pe_int))))
  (pss_one (ps_ret (pe_lstN (pa_cons (pv 0) (pa_cons pe_int (pa_cons (pe_op op_mulW (pv 1) (pe_callTy call_int1 rfl T.z_int (by decide +kernel) (pa_cons (pe_cmpR op_gt (pe_callB call_len_seq rfl T.z_len (by decide +kernel) (pa_cons (pv 0) pa_nil)) pe_int (nomark _)) pa_nil))) (pa_cons pe_int pa_nil)))))))))
theorem ok__law_dice (T : Tx P w K mg) : FnOk P w K mg base CX0 1 T.a__law_dice T.d__law_dice ["_law_script"] (liftSp K (ecOf T.e) sp__law_dice) := (old__law_dice T).imp fun _ _ _ _ => conv__law_dice
theorem len__law_next {vs : List V} {H : Hp} {Q : VK} {E : XK} (h : Sx.sp__law_next K vs H Q E) : vs.length = 2 := by
  unfold Sx.sp__law_next at h; first | (obtain ⟨_, rfl, _⟩ := h; rfl) | (obtain ⟨_, _, rfl, _⟩ := h; rfl) | (obtain ⟨_, _, _, rfl, _⟩ := h; rfl) | (obtain ⟨_, _, _, _, rfl, _⟩ := h; rfl)
theorem old__law_next (T : Tx P w K mg) : FnOk P w K mg base CX0 1 T.a__law_next T.d__law_next ["_law_dice_here", "_law_many"] (Sx.sp__law_next K) := by
  refine T.F__law_next.ok sc__law_next (fun vs H Q E h => len__law_next h) (fun cdv A outer s H vs Q E hr h => ⟨Sx.t__law_next K, ?_, Sx.pure__law_next h⟩)
  exact (pss_cons (ps_if (pt_cmpR op_gt (pe_ix ix_list (pv 0) pe_int (fun _ _ => rfl)) pe_int (nomark _)) (pss_cons (ps_set (i := 2) sc__law_next.nd rfl (Or.inl rfl) (pe_op op_mod (pe_ix ix_list (pv 0) pe_int (fun _ _ => rfl)) (pv 1)))
  (pss_cons (ps_asg (pe_op op_fdiv (pe_ix ix_list (pv 0) pe_int (fun _ _ => rfl)) (pv 1)) (pg_sub (pv 0) pe_int set_list))
  (pss_one (ps_ret (pv 2))))) pss_nil)
  (pss_cons (ps_asg (pe_op op_add (pe_ix ix_list (pv 0) pe_int (fun _ _ => rfl)) pe_int) (pg_sub (pv 0) pe_int set_list))
  (pss_cons (ps_if (pt_cmpR op_le (pe_ix ix_list (pv 0) pe_int (fun _ _ => rfl)) (pe_callB call_len_seq rfl T.z_len (by decide +kernel) (pa_cons (pe_ix ix_list (pv 0) pe_int (fun _ _ => rfl)) pa_nil)) (nomark _)) (pss_cons (ps_set (i := 3) sc__law_next.nd rfl (Or.inl rfl) (pe_ix ix_list (pe_ix ix_list (pv 0) pe_int (fun _ _ => rfl)) (pe_op op_sub (pe_ix ix_list (pv 0) pe_int (fun _ _ => rfl)) pe_int) (fun _ _ => rfl)))
  (pss_cons (ps_asg (pe_ifExp (pt_cmpR op_ge (pv 3) (pe_op op_pow pe_int pe_int) (nomark _)) (pe_op op_fdiv (pv 3) (pv 1)) pe_int) (pg_sub (pv 0) pe_int set_list))
  (pss_one (ps_ret (pe_op op_mod (pv 3) (pv 1)))))) pss_nil)
  (pss_cons (ps_asg (pe_op op_mod (pe_op op_mul (pe_ix ix_list (pv 0) pe_int (fun _ _ => rfl)) pe_int) pe_int) (pg_sub (pv 0) pe_int set_list))
  (pss_one (ps_ret (pe_op op_mod (pe_op op_fdiv (pe_ix ix_list (pv 0) pe_int (fun _ _ => rfl)) pe_int) (pv 1))))))))
theorem ok__law_next (T : Tx P w K mg) : FnOk P w K mg base CX0 1 T.a__law_next T.d__law_next ["_law_dice_here", "_law_many"] (liftSp K (ecOf T.e) sp__law_next) := (old__law_next T).imp fun _ _ _ _ => conv__law_next
theorem ln__law_row {xs : List Dt} {P : Dt → Prop} {X : DX} (h : sp__law_row xs P X) : xs.length = 1 := by unfold sp__law_row at h; first | grind | (unfold spIs at h; grind)
theorem ok__law_row (T : Tx P w K mg) : FnOk P w K mg base (L2.CX P w) 1 T.a__law_row T.d__law_row ["_law_number"] (liftSp K (ecOf T.e) sp__law_row) := by
  refine T.F__law_row.okX sc__law_row (fun vs H Q E h => liftSp_len (fun _ _ _ => ln__law_row) h) (fun cdv A outer s H vs Q E hr h => ⟨liftS K (ecOf T.e) E d__law_row, ?_, run_lift (fun _ _ _ => dp__law_row) h⟩)
  unfold d__law_row
  exact (zss (pss_cons (PS.imp (ps_set (i := 1) sc__law_row.nd rfl (Or.inl rfl) (nlst anil)) fun _ _ _ => ls_asgN)
  (zss (pss_cons (PS.imp (ps_while (passes_of rfl) (tcmp op_gt o_gt (ev (pv 0)) ec_int (nomark _)) (zss (pss_cons (PS.imp (ps_expr (pe_bm PySem.F.plainAttrs_list PySem.F.slot_list_append PySem.F.type_list_append mt_append (pv 1) (pa_cons (eop op_mod o_md (ev (pv 0)) ec_int) pa_nil))) fun _ _ _ => ls_app)
  (pss_one (PS.imp (ps_set (i := 0) sc__law_row.nd rfl (Or.inl rfl) (eop op_fdivW o_fd (ev (pv 0)) ec_int)) fun _ _ _ => ls_asg1))) fun _ _ _ => ls_seq)) fun _ _ _ => ls_while)
  (zss (pss_cons (PS.imp (ps_while (passes_of rfl) (tcmp op_eq o_eqS (PE.imp (pe_ix ix_list (pv 1) ec_int (fun _ _ => rfl)) fun _ _ _ => le_ixO) ec_int (nomark _)) (pss_one (PS.imp (ps_expr (pe_bm PySem.F.plainAttrs_list PySem.F.slot_list_pop PySem.F.type_list_pop mt_popAt (pv 1) (by exact (pa_cons pe_int pa_nil)))) fun _ _ _ => (ls_pop0 fun _ _ _ h => h)))) fun _ _ _ => ls_while)
  (pss_one (PS.imp (ps_ret (ecb o_tupOf (pe_callTy call_tuple_of rfl T.z_tuple (by decide +kernel) (acons (efz (PE.imp (pe_revLN (pv 1)) fun _ _ _ => le_revO)) anil)))) fun _ _ _ => ls_ret))) fun _ _ _ => ls_seq)) fun _ _ _ => ls_seq)) fun _ _ _ => ls_seq)
theorem ln__law_smooth {xs : List Dt} {P : Dt → Prop} {X : DX} (h : sp__law_smooth xs P X) : xs.length = 1 := by unfold sp__law_smooth at h; first | grind | (unfold spIs at h; grind)
theorem ok__law_smooth (T : Tx P w K mg) : FnOk P w K mg base (L2.CX P w) 2 T.a__law_smooth T.d__law_smooth ["_law_d"] (liftSp K (ecOf T.e) sp__law_smooth) := by
  have G__law_next : FnOk P w K mg base CX0 1 T.a__law_next T.d__law_next ["_law_dice_here", "_law_many"] (liftSp K (ecOf T.e) sp__law_next) := ok__law_next T
  refine T.F__law_smooth.okX sc__law_smooth (fun vs H Q E h => liftSp_len (fun _ _ _ => ln__law_smooth) h) (fun cdv A outer s H vs Q E hr h => ⟨liftS K (ecOf T.e) E d__law_smooth, ?_, run_lift (fun _ _ _ => dp__law_smooth) h⟩)
  unfold d__law_smooth
  exact (zss (pss_cons (PS.imp (ps_set (i := 1) sc__law_smooth.nd rfl (Or.inl rfl) ec_int) fun _ _ _ => ls_asg1)
  (zss (pss_cons (PS.imp (ps_for (passes_of rfl) rfl (PI.imp (pi_list (efz (nlst (acons ec_int (acons ec_int (acons ec_int anil)))))) fun _ _ _ => li_list) (pg_name (i := 2) sc__law_smooth.nd rfl (Or.inl rfl))
  (pss_one (PS.imp (ps_for (passes_of rfl) rfl (PI.imp (pi_range1 rfl T.z_range (acons (eix o_ixL (pe_ix ix_list (efz (nlst (acons (PE.imp (pe_call G__law_next (hr.mono (by decide)) rfl T.g__law_next T.F__law_next.kp T.b__law_next .nil pass0 (acons (ev (pv 0)) (acons ec_int anil))) fun _ _ _ => le_call0) (acons (PE.imp (pe_call G__law_next (hr.mono (by decide)) rfl T.g__law_next T.F__law_next.kp T.b__law_next .nil pass0 (acons (ev (pv 0)) (acons ec_int anil))) fun _ _ _ => le_call0) anil)))) (ecb o_int1 (pe_callTy call_int1 rfl T.z_int (by decide +kernel) (acons (ecmp op_eq o_eqS (PE.imp (pe_call G__law_next (hr.mono (by decide)) rfl T.g__law_next T.F__law_next.kp T.b__law_next .nil pass0 (acons (ev (pv 0)) (acons ec_int anil))) fun _ _ _ => le_call0) ec_int (nomark _)) anil))) (fun _ _ => rfl))) anil)) fun _ _ _ => li_rng1) (pg_name (i := 3) sc__law_smooth.nd rfl (Or.inl rfl))
  (pss_one (PS.imp (ps_set (i := 1) sc__law_smooth.nd rfl (Or.inl rfl) (eop op_mulW o_mul (ev (pv 1)) (ev (pv 2)))) fun _ _ _ => ls_asg1))) fun _ _ _ => ls_for))) fun _ _ _ => ls_for)
  (pss_one (PS.imp (ps_ret (ev (pv 1))) fun _ _ _ => ls_ret))) fun _ _ _ => ls_seq)) fun _ _ _ => ls_seq)
theorem ln__law_drawn {xs : List Dt} {P : Dt → Prop} {X : DX} (h : sp__law_drawn xs P X) : xs.length = 2 := by unfold sp__law_drawn at h; first | grind | (unfold spIs at h; grind)
theorem ok__law_drawn (T : Tx P w K mg) : FnOk P w K mg base (L2.CX P w) 3 T.a__law_drawn T.d__law_drawn ["_law_d", "_law_most"] (liftSp K (ecOf T.e) sp__law_drawn) := by
  have G__law_next : FnOk P w K mg base CX0 1 T.a__law_next T.d__law_next ["_law_dice_here", "_law_many"] (liftSp K (ecOf T.e) sp__law_next) := ok__law_next T
  have G__law_row : FnOk P w K mg base (L2.CX P w) 1 T.a__law_row T.d__law_row ["_law_number"] (liftSp K (ecOf T.e) sp__law_row) := ok__law_row T
  have G__law_smooth : FnOk P w K mg base (L2.CX P w) 2 T.a__law_smooth T.d__law_smooth ["_law_d"] (liftSp K (ecOf T.e) sp__law_smooth) := ok__law_smooth T
  refine T.F__law_drawn.okX sc__law_drawn (fun vs H Q E h => liftSp_len (fun _ _ _ => ln__law_drawn) h) (fun cdv A outer s H vs Q E hr h => ⟨liftS K (ecOf T.e) E d__law_drawn, ?_, run_lift (fun _ _ _ => dp__law_drawn) h⟩)
  unfold d__law_drawn
  exact (zss (pss_cons (PS.imp (ps_set (i := 2) sc__law_drawn.nd rfl (Or.inl rfl) (PE.imp (pe_call G__law_next (hr.mono (by decide)) rfl T.g__law_next T.F__law_next.kp T.b__law_next .nil pass0 (acons (ev (pv 0)) (acons ec_int anil))) fun _ _ _ => le_call0)) fun _ _ _ => ls_asg1)
  (zss (pss_cons (PS.imp (ps_if (tcmp op_eq o_eqS (ev (pv 2)) ec_int (nomark _)) (pss_one (PS.imp (ps_ret (PE.imp (pe_callS (E := WE fun cls d _ H => E cls d H) G__law_row (hr.mono (by decide)) rfl T.g__law_row T.F__law_row.kp T.b__law_row (fun σ => passAt (takes_of rfl rfl rfl rfl) σ) (by exact (acons (eop op_add o_add ec_int (PE.imp (pe_call G__law_next (hr.mono (by decide)) rfl T.g__law_next T.F__law_next.kp T.b__law_next .nil pass0 (acons (ev (pv 0)) (acons ec_int anil))) fun _ _ _ => le_call0)) anil))) fun _ _ _ => le_callX (E := E))) fun _ _ _ => ls_ret)) (zss pss_nil fun _ _ _ => ls_next)) fun _ _ _ => ls_if)
  (zss (pss_cons (PS.imp (ps_if (tcmp op_lt o_lt (ev (pv 2)) ec_int (nomark _)) (pss_one (PS.imp (ps_set (i := 3) sc__law_drawn.nd rfl (Or.inl rfl) (PE.imp (pe_callS (E := WE fun cls d _ H => E cls d H) G__law_row (hr.mono (by decide)) rfl T.g__law_row T.F__law_row.kp T.b__law_row (fun σ => passAt (takes_of rfl rfl rfl rfl) σ) (by exact (acons (eop op_mulW o_mul (PE.imp (pe_callS (E := WE fun cls d _ H => E cls d H) G__law_smooth (hr.mono (by decide)) rfl T.g__law_smooth T.F__law_smooth.kp T.b__law_smooth (fun σ => passAt (takes_of rfl rfl rfl rfl) σ) (by exact (acons (ev (pv 0)) anil))) fun _ _ _ => le_callX (E := E)) (eix o_ixL (pe_ix ix_list (efz (nlst (acons ec_int (acons ec_int (acons ec_int (acons ec_int (acons ec_int (acons ec_int anil)))))))) (PE.imp (pe_call G__law_next (hr.mono (by decide)) rfl T.g__law_next T.F__law_next.kp T.b__law_next .nil pass0 (acons (ev (pv 0)) (acons ec_int anil))) fun _ _ _ => le_call0) (fun _ _ => rfl)))) anil))) fun _ _ _ => le_callX (E := E))) fun _ _ _ => ls_asg1)) (zss (pss_cons (PS.imp (ps_setLc (i := 4) (own := [("_law_k", 5)]) (g := gOf _ (.nm 5)) rfl sc__law_drawn.nd rfl rfl (sw_true rfl rfl rfl (by decide +kernel)) (PI.imp (pi_range1 rfl T.z_range (acons (eop op_add o_add ec_int (PE.imp (pe_call G__law_next (hr.mono (by decide)) rfl T.g__law_next T.F__law_next.kp T.b__law_next .nil pass0 (acons (ev (pv 0)) (acons (ev (pv 1)) anil))) fun _ _ _ => le_call0)) anil)) fun _ _ _ => li_rng1) (blkOk_by (own := [("_law_k", 5)]) (N := ["_law_d", "_law_most", "_law_kind", "_law_found", "_law_figures", "_law_k"]) (sc := defScope s__law_drawn) (by decide +kernel)) (fun _ _ _ _ _ => (pg_name (i := 5) sc__law_drawn.nd rfl (Or.inl rfl))) (fun _ _ _ _ _ => (PTs.imp pts_nil fun _ _ _ => le_yes)) (fun _ _ _ _ _ => (PE.imp (pe_call G__law_next (hr.mono (by decide)) rfl T.g__law_next T.F__law_next.kp T.b__law_next .nil pass0 (acons (ev (pv 0)) (acons ec_int anil))) fun _ _ _ => le_call0))) fun _ _ _ => ls_lc (by decide))
  (pss_one (PS.imp (ps_set (i := 3) sc__law_drawn.nd rfl (Or.inl rfl) (eop op_catA o_catT (eop op_catA o_catT (etup (acons (eop op_add o_add ec_int (PE.imp (pe_call G__law_next (hr.mono (by decide)) rfl T.g__law_next T.F__law_next.kp T.b__law_next .nil pass0 (acons (ev (pv 0)) (acons ec_int anil))) fun _ _ _ => le_call0)) anil)) (ecb o_tupOf (pe_callTy call_tuple_of rfl T.z_tuple (by decide +kernel) (acons (ev (pv 4)) anil)))) (etup (acons (eop op_add o_add ec_int (PE.imp (pe_call G__law_next (hr.mono (by decide)) rfl T.g__law_next T.F__law_next.kp T.b__law_next .nil pass0 (acons (ev (pv 0)) (acons ec_int anil))) fun _ _ _ => le_call0)) anil)))) fun _ _ _ => ls_asg1))) fun _ _ _ => ls_seq)) fun _ _ _ => ls_if)
  (pss_one (PS.imp (ps_ret (eif (tcmp op_gt o_gt (eix o_ixT (pe_ix ix_tup (PE.imp (pe_slice sl_tupA (ev (pv 3)) onone (osome (ev (pv 1)))) fun _ _ _ => le_slT) (eun un_neg o_neg ec_int) (fun _ _ => rfl))) ec_int (nomark _)) (PE.imp (pe_slice sl_tupA (ev (pv 3)) onone (osome (ev (pv 1)))) fun _ _ _ => le_slT) (etup (acons ec_int (acons ec_int anil))))) fun _ _ _ => ls_ret))) fun _ _ _ => ls_seq)) fun _ _ _ => ls_seq)) fun _ _ _ => ls_seq)
theorem ln__law_made {xs : List Dt} {P : Dt → Prop} {X : DX} (h : sp__law_made xs P X) : xs.length = 3 := by unfold sp__law_made at h; first | grind | (unfold spIs at h; grind)
theorem ok__law_made (T : Tx P w K mg) : FnOk P w K mg base (L2.CX P w) 1 T.a__law_made T.d__law_made ["_law_row_here", "_law_kind", "_law_at"] (liftSp K (ecOf T.e) sp__law_made) := by
  refine T.F__law_made.okX sc__law_made (fun vs H Q E h => liftSp_len (fun _ _ _ => ln__law_made) h) (fun cdv A outer s H vs Q E hr h => ⟨liftS K (ecOf T.e) E d__law_made, ?_, run_lift (fun _ _ _ => dp__law_made) h⟩)
  unfold d__law_made
  exact (zss (pss_cons (PS.imp (ps_if (tcmp op_eq o_eqS (ev (pv 1)) ec_str (nomark _)) (pss_one (PS.imp (ps_ret (eop op_catA o_catT (PE.imp (pe_slice sl_tupA (ev (pv 0)) onone (osome (ev (pv 2)))) fun _ _ _ => le_slT) (PE.imp (pe_slice sl_tupA (ev (pv 0)) (osome (eop op_add o_add (ev (pv 2)) ec_int)) onone) fun _ _ _ => le_slT))) fun _ _ _ => ls_ret)) (zss pss_nil fun _ _ _ => ls_next)) fun _ _ _ => ls_if)
  (zss (pss_cons (PS.imp (ps_if (tcmp op_eq o_eqS (ev (pv 1)) ec_str (nomark _)) (pss_one (PS.imp (ps_ret (eop op_catA o_catT (eop op_catA o_catT (PE.imp (pe_slice sl_tupA (ev (pv 0)) onone (osome (ev (pv 2)))) fun _ _ _ => le_slT) (etup (acons (eix o_ixT (pe_ix ix_tup (ev (pv 0)) (ev (pv 2)) (fun _ _ => rfl))) (acons (eix o_ixT (pe_ix ix_tup (ev (pv 0)) (ev (pv 2)) (fun _ _ => rfl))) anil)))) (PE.imp (pe_slice sl_tupA (ev (pv 0)) (osome (eop op_add o_add (ev (pv 2)) ec_int)) onone) fun _ _ _ => le_slT))) fun _ _ _ => ls_ret)) (zss pss_nil fun _ _ _ => ls_next)) fun _ _ _ => ls_if)
  (zss (pss_cons (PS.imp (ps_set (i := 3) sc__law_made.nd rfl (Or.inl rfl) (PE.imp (pe_slice sl_tupA (ev (pv 0)) (osome (ev (pv 2))) (osome (eop op_add o_add (ev (pv 2)) ec_int))) fun _ _ _ => le_slT)) fun _ _ _ => ls_asg1)
  (zss (pss_cons (PS.imp (ps_if (PW.pt (wor (tcmp op_lt o_lt (ecb o_len (pe_callB call_len_seq rfl T.z_len (by decide +kernel) (acons (ev (pv 3)) anil))) ec_int (nomark _)) (wor (PW.pt (wand (tcmp op_eq o_eqS (ev (pv 1)) ec_str (nomark _)) (pw_and1 (tcmp op_gt o_gt (ecb o_sumT (pe_callB (cr_sumT rfl) rfl T.z_sum (by decide +kernel) (acons (ev (pv 3)) anil))) ec_int (nomark _))))) (pw_or1 (PW.pt (wand (tcmp op_eq o_eqS (ev (pv 1)) ec_str (nomark _)) (pw_and1 (tcmp op_eq o_eqS (eix o_ixT (pe_ix ix_tup (ev (pv 3)) ec_int (fun _ _ => rfl))) (eix o_ixT (pe_ix ix_tup (ev (pv 3)) ec_int (fun _ _ => rfl))) (nomark _))))))))) (pss_one (PS.imp (ps_ret ec_non) fun _ _ _ => ls_ret)) (zss pss_nil fun _ _ _ => ls_next)) fun _ _ _ => ls_if)
  (zss (pss_cons (PS.imp (ps_if (tcmp op_eq o_eqS (ev (pv 1)) ec_str (nomark _)) (pss_one (PS.imp (ps_ret (eop op_catA o_catT (eop op_catA o_catT (PE.imp (pe_slice sl_tupA (ev (pv 0)) onone (osome (ev (pv 2)))) fun _ _ _ => le_slT) (etup (acons (ecb o_sumT (pe_callB (cr_sumT rfl) rfl T.z_sum (by decide +kernel) (acons (ev (pv 3)) anil))) anil))) (PE.imp (pe_slice sl_tupA (ev (pv 0)) (osome (eop op_add o_add (ev (pv 2)) ec_int)) onone) fun _ _ _ => le_slT))) fun _ _ _ => ls_ret)) (zss pss_nil fun _ _ _ => ls_next)) fun _ _ _ => ls_if)
  (pss_one (PS.imp (ps_ret (eop op_catA o_catT (eop op_catA o_catT (PE.imp (pe_slice sl_tupA (ev (pv 0)) onone (osome (ev (pv 2)))) fun _ _ _ => le_slT) (PE.imp (pe_revT (ev (pv 3))) fun _ _ _ => le_revT)) (PE.imp (pe_slice sl_tupA (ev (pv 0)) (osome (eop op_add o_add (ev (pv 2)) ec_int)) onone) fun _ _ _ => le_slT))) fun _ _ _ => ls_ret))) fun _ _ _ => ls_seq)) fun _ _ _ => ls_seq)) fun _ _ _ => ls_seq)) fun _ _ _ => ls_seq)) fun _ _ _ => ls_seq)
theorem ln__law_slips {xs : List Dt} {P : Dt → Prop} {X : DX} (h : sp__law_slips xs P X) : xs.length = 2 := by unfold sp__law_slips at h; first | grind | (unfold spIs at h; grind)
theorem ok__law_slips (T : Tx P w K mg) : FnOk P w K mg base (L2.CX P w) 2 T.a__law_slips T.d__law_slips ["_law_row_here", "_law_told"] (liftSp K (ecOf T.e) sp__law_slips) := by
  have G__law_made : FnOk P w K mg base (L2.CX P w) 1 T.a__law_made T.d__law_made ["_law_row_here", "_law_kind", "_law_at"] (liftSp K (ecOf T.e) sp__law_made) := ok__law_made T
  refine T.F__law_slips.okX sc__law_slips (fun vs H Q E h => liftSp_len (fun _ _ _ => ln__law_slips) h) (fun cdv A outer s H vs Q E hr h => ⟨liftS K (ecOf T.e) E d__law_slips, ?_, run_lift (fun _ _ _ => dp__law_slips) h⟩)
  unfold d__law_slips
  exact (zss (pss_cons (PS.imp (ps_set (i := 2) sc__law_slips.nd rfl (Or.inl rfl) (nlst anil)) fun _ _ _ => ls_asgN)
  (zss (pss_cons (PS.imp (ps_for (passes_of rfl) rfl (PI.imp (pi_range1 rfl T.z_range (acons (ecb o_len (pe_callB call_len_seq rfl T.z_len (by decide +kernel) (acons (ev (pv 0)) anil))) anil)) fun _ _ _ => li_rng1) (pg_name (i := 3) sc__law_slips.nd rfl (Or.inl rfl))
  (pss_one (PS.imp (ps_if (PW.pt (wand (tcmp op_eq o_eqS (ecb o_len (pe_callB call_len_seq rfl T.z_len (by decide +kernel) (acons (ev (pv 1)) anil))) (ecb o_len (pe_callB call_len_seq rfl T.z_len (by decide +kernel) (acons (ev (pv 0)) anil))) (nomark _)) (pw_and1 (tcmp op_ne o_neS (eix o_ixT (pe_ix ix_tup (ev (pv 1)) (ev (pv 3)) (fun _ _ => rfl))) (eix o_ixT (pe_ix ix_tup (ev (pv 0)) (ev (pv 3)) (fun _ _ => rfl))) (nomark _))))) (zss (pss_cons (PS.imp (ps_set (i := 4) sc__law_slips.nd rfl (Or.inl rfl) (eop op_catA o_catT (PE.imp (pe_slice sl_tupA (ev (pv 0)) onone (osome (ev (pv 3)))) fun _ _ _ => le_slT) (PE.imp (pe_slice sl_tupA (ev (pv 0)) (osome (eop op_add o_add (ev (pv 3)) ec_int)) onone) fun _ _ _ => le_slT))) fun _ _ _ => ls_asg1)
  (pss_one (PS.imp (ps_if (tcmp (op_eqD (hu64 hr)) o_eq (eop op_catA o_catT (PE.imp (pe_slice sl_tupA (ev (pv 1)) onone (osome (ev (pv 3)))) fun _ _ _ => le_slT) (PE.imp (pe_slice sl_tupA (ev (pv 1)) (osome (eop op_add o_add (ev (pv 3)) ec_int)) onone) fun _ _ _ => le_slT)) (ev (pv 4)) (nomark _)) (pss_one (PS.imp (ps_expr (pe_bm PySem.F.plainAttrs_list PySem.F.slot_list_append PySem.F.type_list_append mt_append (pv 2) (pa_cons (etup (acons ec_str (acons (ev (pv 3)) anil))) pa_nil))) fun _ _ _ => ls_app)) (zss pss_nil fun _ _ _ => ls_next)) fun _ _ _ => ls_if))) fun _ _ _ => ls_seq) (zss pss_nil fun _ _ _ => ls_next)) fun _ _ _ => ls_if))) fun _ _ _ => ls_for)
  (zss (pss_cons (PS.imp (ps_for (passes_of rfl) rfl (PI.imp (pi_list (efz (nlst (acons ec_str (acons ec_str (acons ec_str (acons ec_str anil))))))) fun _ _ _ => li_list) (pg_name (i := 5) sc__law_slips.nd rfl (Or.inl rfl))
  (pss_one (PS.imp (ps_for (passes_of rfl) rfl (PI.imp (pi_range1 rfl T.z_range (acons (ecb o_len (pe_callB call_len_seq rfl T.z_len (by decide +kernel) (acons (ev (pv 0)) anil))) anil)) fun _ _ _ => li_rng1) (pg_name (i := 3) sc__law_slips.nd rfl (Or.inl rfl))
  (pss_one (PS.imp (ps_if (PW.pt (wand (tcmp (op_neD (hu64 hr)) o_ne (ev (pv 1)) (ev (pv 0)) (nomark _)) (pw_and1 (tcmp (op_eqD (hu64 hr)) o_eq (PE.imp (pe_callS (E := WE fun cls d _ H => E cls d H) G__law_made (hr.mono (by decide)) rfl T.g__law_made T.F__law_made.kp T.b__law_made (fun σ => passAt (takes_of rfl rfl rfl rfl) σ) (by exact (acons (ev (pv 0)) (acons (ev (pv 5)) (acons (ev (pv 3)) anil))))) fun _ _ _ => le_callX (E := E)) (ev (pv 1)) (nomark _))))) (pss_one (PS.imp (ps_expr (pe_bm PySem.F.plainAttrs_list PySem.F.slot_list_append PySem.F.type_list_append mt_append (pv 2) (pa_cons (etup (acons (ev (pv 5)) (acons (ev (pv 3)) anil))) pa_nil))) fun _ _ _ => ls_app)) (zss pss_nil fun _ _ _ => ls_next)) fun _ _ _ => ls_if))) fun _ _ _ => ls_for))) fun _ _ _ => ls_for)
  (pss_one (PS.imp (PS.imp (ps_ret (ev (pv 2))) fun _ _ _ => ls_ret) fun _ _ _ => ls_frz))) fun _ _ _ => ls_seq)) fun _ _ _ => ls_seq)) fun _ _ _ => ls_seq)
theorem ln__law_numbers {xs : List Dt} {P : Dt → Prop} {X : DX} (h : sp__law_numbers xs P X) : xs.length = 0 := by unfold sp__law_numbers at h; first | grind | (unfold spIs at h; grind)
theorem ok__law_numbers (T : Tx P w K mg) : FnOk P w K mg base CX0 1 T.a__law_numbers T.d__law_numbers [] (liftSp K (ecOf T.e) sp__law_numbers) := by
  refine T.F__law_numbers.ok sc__law_numbers (fun vs H Q E h => liftSp_len (fun _ _ _ => ln__law_numbers) h) (fun cdv A outer s H vs Q E hr h => ⟨liftS K (ecOf T.e) E d__law_numbers, ?_, run_lift (fun _ _ _ => dp__law_numbers) h⟩)
  unfold d__law_numbers
  exact (pss_one (PS.imp (ps_ret (efz (ncatL (efz (nlr2 (pe_lr2N rfl rfl T.z_list rfl T.z_range ec_int ec_int))) (efz (nlst (acons ec_int (acons ec_int (acons ec_int anil)))))))) fun _ _ _ => ls_ret))
theorem ln__law_whole_of {xs : List Dt} {P : Dt → Prop} {X : DX} (h : sp__law_whole_of xs P X) : xs.length = 1 := by unfold sp__law_whole_of at h; first | grind | (unfold spIs at h; grind)
theorem ok__law_whole_of (T : Tx P w K mg) : FnOk P w K mg base (L2.CX P w) 1 T.a__law_whole_of T.d__law_whole_of ["_law_row_here"] (liftSp K (ecOf T.e) sp__law_whole_of) := by
  refine T.F__law_whole_of.okX sc__law_whole_of (fun vs H Q E h => liftSp_len (fun _ _ _ => ln__law_whole_of) h) (fun cdv A outer s H vs Q E hr h => ⟨liftS K (ecOf T.e) E d__law_whole_of, ?_, run_lift (fun _ _ _ => dp__law_whole_of) h⟩)
  unfold d__law_whole_of
  exact (zss (pss_cons (PS.imp (ps_set (i := 1) sc__law_whole_of.nd rfl (Or.inl rfl) ec_int) fun _ _ _ => ls_asg1)
  (zss (pss_cons (PS.imp (ps_for (passes_of rfl) rfl (PI.imp (pi_range1 rfl T.z_range (acons (ecb o_len (pe_callB call_len_seq rfl T.z_len (by decide +kernel) (acons (ev (pv 0)) anil))) anil)) fun _ _ _ => li_rng1) (pg_name (i := 2) sc__law_whole_of.nd rfl (Or.inl rfl))
  (pss_one (PS.imp (ps_set (i := 1) sc__law_whole_of.nd rfl (Or.inl rfl) (eop op_add o_add (eop op_mulW o_mul (ev (pv 1)) ec_int) (eix o_ixT (pe_ix ix_tup (ev (pv 0)) (ev (pv 2)) (fun _ _ => rfl))))) fun _ _ _ => ls_asg1))) fun _ _ _ => ls_for)
  (pss_one (PS.imp (ps_ret (ev (pv 1))) fun _ _ _ => ls_ret))) fun _ _ _ => ls_seq)) fun _ _ _ => ls_seq)
theorem ln__law_table {xs : List Dt} {P : Dt → Prop} {X : DX} (h : sp__law_table xs P X) : xs.length = 1 := by unfold sp__law_table at h; first | grind | (unfold spIs at h; grind)
theorem ok__law_table (T : Tx P w K mg) : FnOk P w K mg base (L2.CX P w) 2 T.a__law_table T.d__law_table ["_law_head"] (liftSp K (ecOf T.e) sp__law_table) := by
  have G__law_numbers : FnOk P w K mg base CX0 1 T.a__law_numbers T.d__law_numbers [] (liftSp K (ecOf T.e) sp__law_numbers) := ok__law_numbers T
  have G__law_row : FnOk P w K mg base (L2.CX P w) 1 T.a__law_row T.d__law_row ["_law_number"] (liftSp K (ecOf T.e) sp__law_row) := ok__law_row T
  have G__law_whole_of : FnOk P w K mg base (L2.CX P w) 1 T.a__law_whole_of T.d__law_whole_of ["_law_row_here"] (liftSp K (ecOf T.e) sp__law_whole_of) := ok__law_whole_of T
  refine T.F__law_table.okX sc__law_table (fun vs H Q E h => liftSp_len (fun _ _ _ => ln__law_table) h) (fun cdv A outer s H vs Q E hr h => ⟨liftS K (ecOf T.e) E d__law_table, ?_, run_lift (fun _ _ _ => dp__law_table) h⟩)
  unfold d__law_table
  exact (pss_one (PS.imp (ps_ret (efz (PE.imp (pe_lc (own := [("_law_number", 1)]) (g := gOf _ (.nm 1)) rfl sc__law_table.nd (PI.imp (pi_list (PE.imp (pe_call0 G__law_numbers (hr.mono (by decide)) rfl T.g__law_numbers T.F__law_numbers.kp T.b__law_numbers .nil pass0) fun _ _ _ => le_call00)) fun _ _ _ => li_list) (blkOk_by (own := [("_law_number", 1)]) (N := ["_law_head", "_law_number"]) (sc := defScope s__law_table) (by decide +kernel)) (fun _ _ _ _ _ => (pg_name (i := 1) sc__law_table.nd rfl (Or.inl rfl))) (fun _ _ _ _ _ => (PTs.imp pts_nil fun _ _ _ => le_yes)) (fun _ _ _ _ _ => (PE.imp (pe_call G__law_row (hr.mono (by decide)) rfl T.g__law_row T.F__law_row.kp T.b__law_row .nil passE (acons (eop op_mulW o_mul (PE.imp (pe_call G__law_whole_of (hr.mono (by decide)) rfl T.g__law_whole_of T.F__law_whole_of.kp T.b__law_whole_of .nil passE (acons (ev (pv 0)) anil)) fun _ _ _ => le_call0) (ev (pv 1))) anil)) fun _ _ _ => le_call0))) fun _ _ _ => le_lc (by decide)))) fun _ _ _ => ls_ret))
theorem ln__law_faults {xs : List Dt} {P : Dt → Prop} {X : DX} (h : sp__law_faults xs P X) : xs.length = 2 := by unfold sp__law_faults at h; first | grind | (unfold spIs at h; grind)
theorem ok__law_faults (T : Tx P w K mg) : FnOk P w K mg base (L2.CX P w) 3 T.a__law_faults T.d__law_faults ["_law_head", "_law_rows"] (liftSp K (ecOf T.e) sp__law_faults) := by
  have G__law_slips : FnOk P w K mg base (L2.CX P w) 2 T.a__law_slips T.d__law_slips ["_law_row_here", "_law_told"] (liftSp K (ecOf T.e) sp__law_slips) := ok__law_slips T
  have G__law_table : FnOk P w K mg base (L2.CX P w) 2 T.a__law_table T.d__law_table ["_law_head"] (liftSp K (ecOf T.e) sp__law_table) := ok__law_table T
  refine T.F__law_faults.okX sc__law_faults (fun vs H Q E h => liftSp_len (fun _ _ _ => ln__law_faults) h) (fun cdv A outer s H vs Q E hr h => ⟨liftS K (ecOf T.e) E d__law_faults, ?_, run_lift (fun _ _ _ => dp__law_faults) h⟩)
  unfold d__law_faults
  exact (zss (pss_cons (PS.imp (ps_set (i := 2) sc__law_faults.nd rfl (Or.inr rfl) (PE.imp (pe_callS (E := WE fun cls d _ H => E cls d H) G__law_table (hr.mono (by decide)) rfl T.g__law_table T.F__law_table.kp T.b__law_table (fun σ => passAt (takes_of rfl rfl rfl rfl) σ) (by exact (acons (ev (pv 0)) anil))) fun _ _ _ => le_callX (E := E))) fun _ _ _ => ls_asg1)
  (pss_one (PS.imp (ps_ret (efz (PE.imp (pe_lc (own := [("_law_at", 3)]) (g := gOf _ (.nm 3)) rfl sc__law_faults.nd (PI.imp (pi_range1 rfl T.z_range (acons ec_int anil)) fun _ _ _ => li_rng1) (blkOk_by (own := [("_law_at", 3)]) (N := ["_law_head", "_law_rows", "_law_due", "_law_at"]) (sc := defScope s__law_faults) (by decide +kernel)) (fun _ _ _ _ _ => (pg_name (i := 3) sc__law_faults.nd rfl (Or.inl rfl))) (fun _ _ _ _ _ => (pts_one (tcmp (op_neD (hu64 hr)) o_ne (eix o_ixL (pe_ix ix_list (ev (pv 1)) (ev (pv 3)) (fun _ _ => rfl))) (eix o_ixL (pe_ix ix_list (ev (pv 2)) (ev (pv 3)) (fun _ _ => rfl))) (nomark _)))) (fun _ _ _ _ _ => (etup (acons (ev (pv 3)) (acons (PE.imp (pe_call G__law_slips (hr.mono (by decide)) rfl T.g__law_slips T.F__law_slips.kp T.b__law_slips .nil passE (acons (eix o_ixL (pe_ix ix_list (ev (pv 2)) (ev (pv 3)) (fun _ _ => rfl))) (acons (eix o_ixL (pe_ix ix_list (ev (pv 1)) (ev (pv 3)) (fun _ _ => rfl))) anil))) fun _ _ _ => le_call0) anil))))) fun _ _ _ => le_lc (by decide)))) fun _ _ _ => ls_ret))) fun _ _ _ => ls_seq)
theorem old__law_like_n (T : Tx P w K mg) : ∀ n : Nat, FnOk P w K mg base CX0 (n + 1) T.a__law_like T.d__law_like ["_law_found", "_law_due"] (Sx.spLike K n)
  | 0 => ⟨fun _ _ _ _ h => h.elim, fun _ _ _ _ _ _ _ _ _ _ _ _ _ h => h.elim⟩
  | n + 1 => by
    have G__law_like : FnOk P w K mg base CX0 (n + 1) T.a__law_like T.d__law_like ["_law_found", "_law_due"] (Sx.spLike K n) := old__law_like_n T n
    refine T.F__law_like.ok sc__law_like (fun vs H Q E h => by obtain ⟨_, _, _, rfl, _⟩ := h; rfl) (fun cdv A outer s H vs Q E hr h => ⟨Sx.t__law_like K (Sx.spLike K n), ?_, Sx.pure__law_like h⟩)
    exact (pss_cons (ps_if (pt_val (pe_callB call_isi rfl T.z_isinstance (by decide +kernel) (pa_cons (pv 1) (pa_cons (pe_bltn (v := .ty "str") rfl T.z_str (by decide +kernel) rfl) pa_nil)))) (pss_one (ps_ret (pe_and (pe_callB call_isi rfl T.z_isinstance (by decide +kernel) (pa_cons (pv 0) (pa_cons (pe_bltn (v := .ty "str") rfl T.z_str (by decide +kernel) rfl) pa_nil))) (pe_one (pe_cmpR (op_eqD (hu64 hr)) (pv 0) (pv 1) (nomark _)))))) pss_nil)
  (pss_cons (ps_if (pt_val (pe_callB call_isi rfl T.z_isinstance (by decide +kernel) (pa_cons (pv 1) (pa_cons (pe_bltn (v := .ty "int") rfl T.z_int (by decide +kernel) rfl) pa_nil)))) (pss_one (ps_ret (pe_and (pe_callB call_isi rfl T.z_isinstance (by decide +kernel) (pa_cons (pv 0) (pa_cons (pe_bltn (v := .ty "int") rfl T.z_int (by decide +kernel) rfl) pa_nil))) (pe_and (pe_not (pe_callB call_isi rfl T.z_isinstance (by decide +kernel) (pa_cons (pv 0) (pa_cons (pe_bltn (v := .ty "bool") rfl T.z_bool (by decide +kernel) rfl) pa_nil)))) (pe_one (pe_cmpR (op_eqD (hu64 hr)) (pv 0) (pv 1) (nomark _))))))) pss_nil)
  (pss_cons (ps_if (pt_cmpR op_isN1 (pv 1) pe_non (nomark _)) (pss_one (ps_ret (pe_cmpR op_isN1 (pv 0) pe_non (nomark _)))) pss_nil)
  (pss_cons (ps_if (PW.pt (pw_or (pt_cmpR op_ne (pe_callB call_isi rfl T.z_isinstance (by decide +kernel) (pa_cons (pv 1) (pa_cons (pe_bltn (v := .ty "tuple") rfl T.z_tuple (by decide +kernel) rfl) pa_nil))) (pe_callB call_isi rfl T.z_isinstance (by decide +kernel) (pa_cons (pv 0) (pa_cons (pe_bltn (v := .ty "tuple") rfl T.z_tuple (by decide +kernel) rfl) pa_nil))) (nomark _)) (pw_or1 (pt_cmpR op_ne (pe_callB call_isi rfl T.z_isinstance (by decide +kernel) (pa_cons (pv 1) (pa_cons (pe_bltn (v := .ty "list") rfl T.z_list (by decide +kernel) rfl) pa_nil))) (pe_callB call_isi rfl T.z_isinstance (by decide +kernel) (pa_cons (pv 0) (pa_cons (pe_bltn (v := .ty "list") rfl T.z_list (by decide +kernel) rfl) pa_nil))) (nomark _))))) (pss_one (ps_ret pe_bl)) pss_nil)
  (pss_cons (ps_if (pt_cmpR op_ne (pe_callB call_len_seq rfl T.z_len (by decide +kernel) (pa_cons (pv 0) pa_nil)) (pe_callB call_len_seq rfl T.z_len (by decide +kernel) (pa_cons (pv 1) pa_nil)) (nomark _)) (pss_one (ps_ret pe_bl)) pss_nil)
  (pss_cons (ps_for PassesOwn.never rfl (pi_range1 rfl T.z_range (pa_cons (pe_callB call_len_seq rfl T.z_len (by decide +kernel) (pa_cons (pv 1) pa_nil)) pa_nil)) (pg_name (i := 2) sc__law_like.nd rfl (Or.inl rfl))
  (pss_one (ps_if (pt_not (pt_val (pe_call G__law_like hr rfl T.g__law_like T.F__law_like.kp T.b__law_like .nil pass0 (pa_cons (pe_ix ix_seq (pv 0) (pv 2) (fun _ _ => rfl)) (pa_cons (pe_ix ix_seq (pv 1) (pv 2) (fun _ _ => rfl)) pa_nil))))) (pss_one (ps_ret pe_bl)) pss_nil)))
  (pss_one (ps_ret pe_bl))))))))
theorem old__law_like (T : Tx P w K mg) : FnOk P w K mg base CX0 8 T.a__law_like T.d__law_like ["_law_found", "_law_due"] (Sx.sp__law_like K) := old__law_like_n T 7
theorem ok__law_like (T : Tx P w K mg) : FnOk P w K mg base CX0 8 T.a__law_like T.d__law_like ["_law_found", "_law_due"] (liftSp K (ecOf T.e) sp__law_like) := (old__law_like T).imp fun _ _ _ _ => conv__law_like
theorem ln__law_spoilt {xs : List Dt} {P : Dt → Prop} {X : DX} (h : sp__law_spoilt xs P X) : xs.length = 2 := by unfold sp__law_spoilt at h; first | grind | (unfold spIs at h; grind)
theorem ok__law_spoilt (T : Tx P w K mg) : FnOk P w K mg base (L2.CX P w) 2 T.a__law_spoilt T.d__law_spoilt ["_law_d", "_law_row_here"] (liftSp K (ecOf T.e) sp__law_spoilt) := by
  have G__law_made : FnOk P w K mg base (L2.CX P w) 1 T.a__law_made T.d__law_made ["_law_row_here", "_law_kind", "_law_at"] (liftSp K (ecOf T.e) sp__law_made) := ok__law_made T
  have G__law_next : FnOk P w K mg base CX0 1 T.a__law_next T.d__law_next ["_law_dice_here", "_law_many"] (liftSp K (ecOf T.e) sp__law_next) := ok__law_next T
  refine T.F__law_spoilt.okX sc__law_spoilt (fun vs H Q E h => liftSp_len (fun _ _ _ => ln__law_spoilt) h) (fun cdv A outer s H vs Q E hr h => ⟨liftS K (ecOf T.e) E d__law_spoilt, ?_, run_lift (fun _ _ _ => dp__law_spoilt) h⟩)
  unfold d__law_spoilt
  exact (zss (pss_cons (PS.imp (ps_for (passes_of rfl) rfl (PI.imp (pi_range1 rfl T.z_range (acons (eop op_add o_add ec_int (ecb o_int1 (pe_callTy call_int1 rfl T.z_int (by decide +kernel) (acons (ecmp op_eq o_eqS (PE.imp (pe_call G__law_next (hr.mono (by decide)) rfl T.g__law_next T.F__law_next.kp T.b__law_next .nil pass0 (acons (ev (pv 0)) (acons ec_int anil))) fun _ _ _ => le_call0) ec_int (nomark _)) anil)))) anil)) fun _ _ _ => li_rng1) (pg_name (i := 2) sc__law_spoilt.nd rfl (Or.inl rfl))
  (zss (pss_cons (PS.imp (ps_set (i := 3) sc__law_spoilt.nd rfl (Or.inl rfl) (PE.imp (pe_call G__law_next (hr.mono (by decide)) rfl T.g__law_next T.F__law_next.kp T.b__law_next .nil pass0 (acons (ev (pv 0)) (acons (ecb o_len (pe_callB call_len_seq rfl T.z_len (by decide +kernel) (acons (ev (pv 1)) anil))) anil))) fun _ _ _ => le_call0)) fun _ _ _ => ls_asg1)
  (zss (pss_cons (PS.imp (ps_set (i := 4) sc__law_spoilt.nd rfl (Or.inl rfl) (eix o_ixL (pe_ix ix_list (efz (nlst (acons ec_str (acons ec_str (acons ec_str (acons ec_str (acons ec_str anil))))))) (PE.imp (pe_call G__law_next (hr.mono (by decide)) rfl T.g__law_next T.F__law_next.kp T.b__law_next .nil pass0 (acons (ev (pv 0)) (acons ec_int anil))) fun _ _ _ => le_call0) (fun _ _ => rfl)))) fun _ _ _ => ls_asg1)
  (pss_one (PS.imp (ps_if (tcmp op_eq o_eqS (ev (pv 4)) ec_str (nomark _)) (pss_one (PS.imp (ps_set (i := 1) sc__law_spoilt.nd rfl (Or.inl rfl) (eop op_catA o_catT (eop op_catA o_catT (PE.imp (pe_slice sl_tupA (ev (pv 1)) onone (osome (ev (pv 3)))) fun _ _ _ => le_slT) (etup (acons (PE.imp (pe_call G__law_next (hr.mono (by decide)) rfl T.g__law_next T.F__law_next.kp T.b__law_next .nil pass0 (acons (ev (pv 0)) (acons ec_int anil))) fun _ _ _ => le_call0) anil))) (PE.imp (pe_slice sl_tupA (ev (pv 1)) (osome (eop op_add o_add (ev (pv 3)) ec_int)) onone) fun _ _ _ => le_slT))) fun _ _ _ => ls_asg1)) (pss_one (PS.imp (ps_if (PW.pt (wand (tcmp op_gt o_gt (ecb o_len (pe_callB call_len_seq rfl T.z_len (by decide +kernel) (acons (ev (pv 1)) anil))) ec_int (nomark _)) (pw_and1 (tcmp op_notN1 o_notN (PE.imp (pe_callS (E := WE fun cls d _ H => E cls d H) G__law_made (hr.mono (by decide)) rfl T.g__law_made T.F__law_made.kp T.b__law_made (fun σ => passAt (takes_of rfl rfl rfl rfl) σ) (by exact (acons (ev (pv 1)) (acons (ev (pv 4)) (acons (ev (pv 3)) anil))))) fun _ _ _ => le_callX (E := E)) ec_non (nomark _))))) (pss_one (PS.imp (ps_set (i := 1) sc__law_spoilt.nd rfl (Or.inl rfl) (PE.imp (pe_callS (E := WE fun cls d _ H => E cls d H) G__law_made (hr.mono (by decide)) rfl T.g__law_made T.F__law_made.kp T.b__law_made (fun σ => passAt (takes_of rfl rfl rfl rfl) σ) (by exact (acons (ev (pv 1)) (acons (ev (pv 4)) (acons (ev (pv 3)) anil))))) fun _ _ _ => le_callX (E := E))) fun _ _ _ => ls_asg1)) (zss pss_nil fun _ _ _ => ls_next)) fun _ _ _ => ls_if))) fun _ _ _ => ls_if))) fun _ _ _ => ls_seq)) fun _ _ _ => ls_seq)) fun _ _ _ => ls_for)
  (pss_one (PS.imp (ps_ret (ev (pv 1))) fun _ _ _ => ls_ret))) fun _ _ _ => ls_seq)
theorem ln__law_wrong {xs : List Dt} {P : Dt → Prop} {X : DX} (h : sp__law_wrong xs P X) : xs.length = 3 := by unfold sp__law_wrong at h; first | grind | (unfold spIs at h; grind)
theorem ok__law_wrong (T : Tx P w K mg) : FnOk P w K mg base (L2.CX P w) 3 T.a__law_wrong T.d__law_wrong ["_law_d", "_law_rows", "_law_most"] (liftSp K (ecOf T.e) sp__law_wrong) := by
  have G__law_next : FnOk P w K mg base CX0 1 T.a__law_next T.d__law_next ["_law_dice_here", "_law_many"] (liftSp K (ecOf T.e) sp__law_next) := ok__law_next T
  have G__law_spoilt : FnOk P w K mg base (L2.CX P w) 2 T.a__law_spoilt T.d__law_spoilt ["_law_d", "_law_row_here"] (liftSp K (ecOf T.e) sp__law_spoilt) := ok__law_spoilt T
  refine T.F__law_wrong.okX sc__law_wrong (fun vs H Q E h => liftSp_len (fun _ _ _ => ln__law_wrong) h) (fun cdv A outer s H vs Q E hr h => ⟨liftS K (ecOf T.e) E d__law_wrong, ?_, run_lift (fun _ _ _ => dp__law_wrong) h⟩)
  unfold d__law_wrong
  exact (zss (pss_cons (PS.imp (ps_set (i := 3) sc__law_wrong.nd rfl (Or.inl rfl) (nlistof (pe_callTy call_listN rfl T.z_list (by decide +kernel) (acons (ev (pv 1)) anil)))) fun _ _ _ => ls_asgN)
  (zss (pss_cons (PS.imp (ps_for (passes_of rfl) rfl (PI.imp (pi_range1 rfl T.z_range (acons (PE.imp (pe_call G__law_next (hr.mono (by decide)) rfl T.g__law_next T.F__law_next.kp T.b__law_next .nil pass0 (acons (ev (pv 0)) (acons (eop op_add o_add (ev (pv 2)) ec_int) anil))) fun _ _ _ => le_call0) anil)) fun _ _ _ => li_rng1) (pg_name (i := 4) sc__law_wrong.nd rfl (Or.inl rfl))
  (zss (pss_cons (PS.imp (ps_set (i := 5) sc__law_wrong.nd rfl (Or.inl rfl) (PE.imp (pe_call G__law_next (hr.mono (by decide)) rfl T.g__law_next T.F__law_next.kp T.b__law_next .nil pass0 (acons (ev (pv 0)) (acons ec_int anil))) fun _ _ _ => le_call0)) fun _ _ _ => ls_asg1)
  (pss_one (PS.imp (ps_asg (PE.imp (pe_callS (E := WE fun cls d _ H => E cls d H) G__law_spoilt (hr.mono (by decide)) rfl T.g__law_spoilt T.F__law_spoilt.kp T.b__law_spoilt (fun σ => passAt (takes_of rfl rfl rfl rfl) σ) (by exact (acons (ev (pv 0)) (acons (PE.imp (pe_ix ix_list (pv 3) (ev (pv 5)) (fun _ _ => rfl)) fun _ _ _ => le_ixO) anil)))) fun _ _ _ => le_callX (E := E)) (pg_sub (pv 3) (ev (pv 5)) set_list)) fun _ _ _ => ls_putO))) fun _ _ _ => ls_seq)) fun _ _ _ => ls_for)
  (pss_one (PS.imp (PS.imp (ps_ret (ev (pv 3))) fun _ _ _ => ls_ret) fun _ _ _ => ls_frz))) fun _ _ _ => ls_seq)) fun _ _ _ => ls_seq)
theorem ln_is_joined {xs : List Dt} {P : Dt → Prop} {X : DX} (h : sp_is_joined xs P X) : xs.length = 3 := by unfold sp_is_joined at h; first | grind | (unfold spIs at h; grind)
theorem ok_is_joined (T : Tx P w K mg) : FnOk P w K mg base CX0 1 T.a_is_joined T.d_is_joined ["due", "told", "at"] (liftSp K (ecOf T.e) sp_is_joined) := by
  refine T.F_is_joined.ok sc_is_joined (fun vs H Q E h => liftSp_len (fun _ _ _ => ln_is_joined) h) (fun cdv A outer s H vs Q E hr h => ⟨liftS K (ecOf T.e) E d_is_joined, ?_, run_lift (fun _ _ _ => dp_is_joined) h⟩)
  unfold d_is_joined
  exact (zss (pss_cons (PS.imp (ps_set (i := 3) sc_is_joined.nd rfl (Or.inl rfl) (PE.imp (pe_slice sl_tupA (ev (pv 0)) (osome (ev (pv 2))) (osome (eop op_add o_add (ev (pv 2)) ec_int))) fun _ _ _ => le_slT)) fun _ _ _ => ls_asg1)
  (zss (pss_cons (PS.imp (ps_if (PW.pt (wor (tcmp op_lt o_lt (ecb o_len (pe_callB call_len_seq rfl T.z_len (by decide +kernel) (acons (ev (pv 3)) anil))) ec_int (nomark _)) (pw_or1 (tcmp op_ge o_ge (ecb o_sumT (pe_callB (cr_sumT rfl) rfl T.z_sum (by decide +kernel) (acons (ev (pv 3)) anil))) ec_int (nomark _))))) (pss_one (PS.imp (ps_ret ec_bl) fun _ _ _ => ls_ret)) (zss pss_nil fun _ _ _ => ls_next)) fun _ _ _ => ls_if)
  (pss_one (PS.imp (ps_ret (ecmp (op_eqD (hu64 hr)) o_eq (ev (pv 1)) (eop op_catA o_catT (eop op_catA o_catT (PE.imp (pe_slice sl_tupA (ev (pv 0)) onone (osome (ev (pv 2)))) fun _ _ _ => le_slT) (etup (acons (ecb o_sumT (pe_callB (cr_sumT rfl) rfl T.z_sum (by decide +kernel) (acons (ev (pv 3)) anil))) anil))) (PE.imp (pe_slice sl_tupA (ev (pv 0)) (osome (eop op_add o_add (ev (pv 2)) ec_int)) onone) fun _ _ _ => le_slT)) (nomark _))) fun _ _ _ => ls_ret))) fun _ _ _ => ls_seq)) fun _ _ _ => ls_seq)
theorem ln_is_left_out {xs : List Dt} {P : Dt → Prop} {X : DX} (h : sp_is_left_out xs P X) : xs.length = 3 := by unfold sp_is_left_out at h; first | grind | (unfold spIs at h; grind)
theorem ok_is_left_out (T : Tx P w K mg) : FnOk P w K mg base CX0 1 T.a_is_left_out T.d_is_left_out ["due", "told", "at"] (liftSp K (ecOf T.e) sp_is_left_out) := by
  refine T.F_is_left_out.ok sc_is_left_out (fun vs H Q E h => liftSp_len (fun _ _ _ => ln_is_left_out) h) (fun cdv A outer s H vs Q E hr h => ⟨liftS K (ecOf T.e) E d_is_left_out, ?_, run_lift (fun _ _ _ => dp_is_left_out) h⟩)
  unfold d_is_left_out
  exact (pss_one (PS.imp (ps_ret (ecmp (op_eqD (hu64 hr)) o_eq (ev (pv 1)) (eop op_catA o_catT (PE.imp (pe_slice sl_tupA (ev (pv 0)) onone (osome (ev (pv 2)))) fun _ _ _ => le_slT) (PE.imp (pe_slice sl_tupA (ev (pv 0)) (osome (eop op_add o_add (ev (pv 2)) ec_int)) onone) fun _ _ _ => le_slT)) (nomark _))) fun _ _ _ => ls_ret))
theorem ln_is_other_figure {xs : List Dt} {P : Dt → Prop} {X : DX} (h : sp_is_other_figure xs P X) : xs.length = 3 := by unfold sp_is_other_figure at h; first | grind | (unfold spIs at h; grind)
theorem ok_is_other_figure (T : Tx P w K mg) : FnOk P w K mg base CX0 1 T.a_is_other_figure T.d_is_other_figure ["due", "told", "at"] (liftSp K (ecOf T.e) sp_is_other_figure) := by
  refine T.F_is_other_figure.ok sc_is_other_figure (fun vs H Q E h => liftSp_len (fun _ _ _ => ln_is_other_figure) h) (fun cdv A outer s H vs Q E hr h => ⟨liftS K (ecOf T.e) E d_is_other_figure, ?_, run_lift (fun _ _ _ => dp_is_other_figure) h⟩)
  unfold d_is_other_figure
  exact (zss (pss_cons (PS.imp (ps_if (PW.pt (wor (tcmp op_ne o_neS (ecb o_len (pe_callB call_len_seq rfl T.z_len (by decide +kernel) (acons (ev (pv 1)) anil))) (ecb o_len (pe_callB call_len_seq rfl T.z_len (by decide +kernel) (acons (ev (pv 0)) anil))) (nomark _)) (pw_or1 (tcmp op_eq o_eqS (eix o_ixT (pe_ix ix_tup (ev (pv 1)) (ev (pv 2)) (fun _ _ => rfl))) (eix o_ixT (pe_ix ix_tup (ev (pv 0)) (ev (pv 2)) (fun _ _ => rfl))) (nomark _))))) (pss_one (PS.imp (ps_ret ec_bl) fun _ _ _ => ls_ret)) (zss pss_nil fun _ _ _ => ls_next)) fun _ _ _ => ls_if)
  (pss_one (PS.imp (ps_ret (eand (ecmp (op_eqD (hu64 hr)) o_eq (PE.imp (pe_slice sl_tupA (ev (pv 1)) onone (osome (ev (pv 2)))) fun _ _ _ => le_slT) (PE.imp (pe_slice sl_tupA (ev (pv 0)) onone (osome (ev (pv 2)))) fun _ _ _ => le_slT) (nomark _)) (pe_one (ecmp (op_eqD (hu64 hr)) o_eq (PE.imp (pe_slice sl_tupA (ev (pv 1)) (osome (eop op_add o_add (ev (pv 2)) ec_int)) onone) fun _ _ _ => le_slT) (PE.imp (pe_slice sl_tupA (ev (pv 0)) (osome (eop op_add o_add (ev (pv 2)) ec_int)) onone) fun _ _ _ => le_slT) (nomark _))))) fun _ _ _ => ls_ret))) fun _ _ _ => ls_seq)
theorem ln_is_swapped {xs : List Dt} {P : Dt → Prop} {X : DX} (h : sp_is_swapped xs P X) : xs.length = 3 := by unfold sp_is_swapped at h; first | grind | (unfold spIs at h; grind)
theorem ok_is_swapped (T : Tx P w K mg) : FnOk P w K mg base CX0 1 T.a_is_swapped T.d_is_swapped ["due", "told", "at"] (liftSp K (ecOf T.e) sp_is_swapped) := by
  refine T.F_is_swapped.ok sc_is_swapped (fun vs H Q E h => liftSp_len (fun _ _ _ => ln_is_swapped) h) (fun cdv A outer s H vs Q E hr h => ⟨liftS K (ecOf T.e) E d_is_swapped, ?_, run_lift (fun _ _ _ => dp_is_swapped) h⟩)
  unfold d_is_swapped
  exact (zss (pss_cons (PS.imp (ps_set (i := 3) sc_is_swapped.nd rfl (Or.inl rfl) (PE.imp (pe_slice sl_tupA (ev (pv 0)) (osome (ev (pv 2))) (osome (eop op_add o_add (ev (pv 2)) ec_int))) fun _ _ _ => le_slT)) fun _ _ _ => ls_asg1)
  (zss (pss_cons (PS.imp (ps_if (PW.pt (wor (tcmp op_lt o_lt (ecb o_len (pe_callB call_len_seq rfl T.z_len (by decide +kernel) (acons (ev (pv 3)) anil))) ec_int (nomark _)) (pw_or1 (tcmp op_eq o_eqS (eix o_ixT (pe_ix ix_tup (ev (pv 3)) ec_int (fun _ _ => rfl))) (eix o_ixT (pe_ix ix_tup (ev (pv 3)) ec_int (fun _ _ => rfl))) (nomark _))))) (pss_one (PS.imp (ps_ret ec_bl) fun _ _ _ => ls_ret)) (zss pss_nil fun _ _ _ => ls_next)) fun _ _ _ => ls_if)
  (pss_one (PS.imp (ps_ret (ecmp (op_eqD (hu64 hr)) o_eq (ev (pv 1)) (eop op_catA o_catT (eop op_catA o_catT (PE.imp (pe_slice sl_tupA (ev (pv 0)) onone (osome (ev (pv 2)))) fun _ _ _ => le_slT) (etup (acons (eix o_ixT (pe_ix ix_tup (ev (pv 3)) ec_int (fun _ _ => rfl))) (acons (eix o_ixT (pe_ix ix_tup (ev (pv 3)) ec_int (fun _ _ => rfl))) anil)))) (PE.imp (pe_slice sl_tupA (ev (pv 0)) (osome (eop op_add o_add (ev (pv 2)) ec_int)) onone) fun _ _ _ => le_slT)) (nomark _))) fun _ _ _ => ls_ret))) fun _ _ _ => ls_seq)) fun _ _ _ => ls_seq)
theorem ln_is_twice {xs : List Dt} {P : Dt → Prop} {X : DX} (h : sp_is_twice xs P X) : xs.length = 3 := by unfold sp_is_twice at h; first | grind | (unfold spIs at h; grind)
theorem ok_is_twice (T : Tx P w K mg) : FnOk P w K mg base CX0 1 T.a_is_twice T.d_is_twice ["due", "told", "at"] (liftSp K (ecOf T.e) sp_is_twice) := by
  refine T.F_is_twice.ok sc_is_twice (fun vs H Q E h => liftSp_len (fun _ _ _ => ln_is_twice) h) (fun cdv A outer s H vs Q E hr h => ⟨liftS K (ecOf T.e) E d_is_twice, ?_, run_lift (fun _ _ _ => dp_is_twice) h⟩)
  unfold d_is_twice
  exact (pss_one (PS.imp (ps_ret (ecmp (op_eqD (hu64 hr)) o_eq (ev (pv 1)) (eop op_catA o_catT (PE.imp (pe_slice sl_tupA (ev (pv 0)) onone (osome (eop op_add o_add (ev (pv 2)) ec_int))) fun _ _ _ => le_slT) (PE.imp (pe_slice sl_tupA (ev (pv 0)) (osome (ev (pv 2))) onone) fun _ _ _ => le_slT)) (nomark _))) fun _ _ _ => ls_ret))
theorem ln_slips_between {xs : List Dt} {P : Dt → Prop} {X : DX} (h : sp_slips_between xs P X) : xs.length = 2 := by unfold sp_slips_between at h; first | grind | (unfold spIs at h; grind)
theorem ok_slips_between (T : Tx P w K mg) : FnOk P w K mg base (L2.CX P w) 2 T.a_slips_between T.d_slips_between ["due", "told"] (liftSp K (ecOf T.e) sp_slips_between) := by
  have nd_SORTS : [T.a_is_other_figure, T.a_is_left_out, T.a_is_twice, T.a_is_joined, T.a_is_swapped].Nodup := by
    have ne : ∀ {x y : Str} {s t : Stmt} {a b : Addr} {d e : FuncData}, Fun K x x s a d → Fun K y y t b e → x ≠ y → a ≠ b := fun F G h => fun_ne F G h
    simp only [List.nodup_cons, List.mem_cons, List.not_mem_nil, or_false, not_or, List.nodup_nil, and_true, not_false_eq_true]
    exact ⟨⟨ne T.F_is_other_figure T.F_is_left_out (by decide), ne T.F_is_other_figure T.F_is_twice (by decide), ne T.F_is_other_figure T.F_is_joined (by decide), ne T.F_is_other_figure T.F_is_swapped (by decide)⟩, ⟨⟨ne T.F_is_left_out T.F_is_twice (by decide), ne T.F_is_left_out T.F_is_joined (by decide), ne T.F_is_left_out T.F_is_swapped (by decide)⟩, ⟨⟨ne T.F_is_twice T.F_is_joined (by decide), ne T.F_is_twice T.F_is_swapped (by decide)⟩, ne T.F_is_joined T.F_is_swapped (by decide)⟩⟩⟩
  have G_is_joined : FnOk P w K mg base CX0 1 T.a_is_joined T.d_is_joined ["due", "told", "at"] (liftSp K (ecOf T.e) sp_is_joined) := ok_is_joined T
  have G_is_left_out : FnOk P w K mg base CX0 1 T.a_is_left_out T.d_is_left_out ["due", "told", "at"] (liftSp K (ecOf T.e) sp_is_left_out) := ok_is_left_out T
  have G_is_other_figure : FnOk P w K mg base CX0 1 T.a_is_other_figure T.d_is_other_figure ["due", "told", "at"] (liftSp K (ecOf T.e) sp_is_other_figure) := ok_is_other_figure T
  have G_is_swapped : FnOk P w K mg base CX0 1 T.a_is_swapped T.d_is_swapped ["due", "told", "at"] (liftSp K (ecOf T.e) sp_is_swapped) := ok_is_swapped T
  have G_is_twice : FnOk P w K mg base CX0 1 T.a_is_twice T.d_is_twice ["due", "told", "at"] (liftSp K (ecOf T.e) sp_is_twice) := ok_is_twice T
  refine T.F_slips_between.okX sc_slips_between (fun vs H Q E h => liftSp_len (fun _ _ _ => ln_slips_between) h) (fun cdv A outer s H vs Q E hr h => ⟨liftS K (ecOf T.e) E (d_slips_between T.c_SORTS.choose [(("figure" : Str), T.a_is_other_figure), (("left" : Str), T.a_is_left_out), (("twice" : Str), T.a_is_twice), (("joined" : Str), T.a_is_joined), (("swapped" : Str), T.a_is_swapped)] [(T.a_is_other_figure, sp_is_other_figure), (T.a_is_left_out, sp_is_left_out), (T.a_is_twice, sp_is_twice), (T.a_is_joined, sp_is_joined), (T.a_is_swapped, sp_is_swapped)]), ?_, run_lift (fun _ _ _ => dp_slips_between nd_SORTS) h⟩)
  unfold d_slips_between
  exact (zss (pss_cons (PS.imp (ps_set (i := 2) sc_slips_between.nd rfl (Or.inl rfl) (nlst anil)) fun _ _ _ => ls_asgN)
  (zss (pss_cons (PS.imp (ps_for (passes_of rfl) rfl (PI.imp (pi_kw (pe_glob (v := V.ref T.c_SORTS.choose) rfl T.c_SORTS.choose_spec.1 rfl) T.c_SORTS.choose_spec.2) fun _ _ _ => li_kw) (pg_name (i := 3) sc_slips_between.nd rfl (Or.inl rfl))
  (zss (pss_cons (PS.imp (ps_set (i := 4) sc_slips_between.nd rfl (Or.inl rfl) (eix (o_ixW T.c_SORTS.choose_spec.2) (pe_ix ix_kdict (ec (v := V.ref T.c_SORTS.choose) (x := .fn T.c_SORTS.choose) (pe_glob rfl T.c_SORTS.choose_spec.1 rfl) fun _ => .fn _) (ev (pv 3)) (fun _ _ => rfl)))) fun _ _ _ => ls_asg1)
  (pss_one (PS.imp (ps_for (passes_of rfl) rfl (PI.imp (pi_range1 rfl T.z_range (acons (ecb o_len (pe_callB call_len_seq rfl T.z_len (by decide +kernel) (acons (ev (pv 0)) anil))) anil)) fun _ _ _ => li_rng1) (pg_name (i := 5) sc_slips_between.nd rfl (Or.inl rfl))
  (pss_one (PS.imp (ps_if (tB' (pt_val (PE.imp (pe_callA (i := 4) (k := 1) (S := spTab K (ecOf T.e) [(T.a_is_other_figure, sp_is_other_figure), (T.a_is_left_out, sp_is_left_out), (T.a_is_twice, sp_is_twice), (T.a_is_joined, sp_is_joined), (T.a_is_swapped, sp_is_swapped)]) (by exact (held_cons G_is_other_figure (by decide) T.F_is_other_figure.kp T.b_is_other_figure (held_cons G_is_left_out (by decide) T.F_is_left_out.kp T.b_is_left_out (held_cons G_is_twice (by decide) T.F_is_twice.kp T.b_is_twice (held_cons G_is_joined (by decide) T.F_is_joined.kp T.b_is_joined (held_cons G_is_swapped (by decide) T.F_is_swapped.kp T.b_is_swapped held_nil)))))) (hr.mono (by decide)) rfl (Or.inl rfl) (acons (ev (pv 0)) (acons (ev (pv 1)) (acons (ev (pv 5)) anil)))) fun _ _ _ => le_callF))) (pss_one (PS.imp (ps_expr (pe_bm PySem.F.plainAttrs_list PySem.F.slot_list_append PySem.F.type_list_append mt_append (pv 2) (pa_cons (etup (acons (ev (pv 3)) (acons (ev (pv 5)) anil))) pa_nil))) fun _ _ _ => ls_app)) (zss pss_nil fun _ _ _ => ls_next)) fun _ _ _ => ls_if))) fun _ _ _ => ls_for))) fun _ _ _ => ls_seq)) fun _ _ _ => ls_for)
  (pss_one (PS.imp (PS.imp (ps_ret (ev (pv 2))) fun _ _ _ => ls_ret) fun _ _ _ => ls_frz))) fun _ _ _ => ls_seq)) fun _ _ _ => ls_seq)
theorem ln_figures_of {xs : List Dt} {P : Dt → Prop} {X : DX} (h : sp_figures_of xs P X) : xs.length = 1 := by unfold sp_figures_of at h; first | grind | (unfold spIs at h; grind)
theorem ok_figures_of (T : Tx P w K mg) : FnOk P w K mg base (L2.CX P w) 1 T.a_figures_of T.d_figures_of ["number"] (liftSp K (ecOf T.e) sp_figures_of) := by
  refine T.F_figures_of.okX sc_figures_of (fun vs H Q E h => liftSp_len (fun _ _ _ => ln_figures_of) h) (fun cdv A outer s H vs Q E hr h => ⟨liftS K (ecOf T.e) E d_figures_of, ?_, run_lift (fun _ _ _ => dp_figures_of) h⟩)
  unfold d_figures_of
  exact (zss (pss_cons (PS.imp (ps_set (i := 1) sc_figures_of.nd rfl (Or.inl rfl) (nlst (acons ec_int anil))) fun _ _ _ => ls_asgN)
  (zss (pss_cons (PS.imp (ps_while (passes_of rfl) (tcmp op_le o_le (PE.imp (pe_ix ix_list (pv 1) (eun un_neg o_neg ec_int) (fun _ _ => rfl)) fun _ _ _ => le_ixO) (ev (pv 0)) (nomark _)) (pss_one (PS.imp (ps_expr (pe_bm PySem.F.plainAttrs_list PySem.F.slot_list_append PySem.F.type_list_append mt_append (pv 1) (pa_cons (eop op_mulW o_mul (PE.imp (pe_ix ix_list (pv 1) (eun un_neg o_neg ec_int) (fun _ _ => rfl)) fun _ _ _ => le_ixO) (PE.imp (pe_ix ix_list (pv 1) (eun un_neg o_neg ec_int) (fun _ _ => rfl)) fun _ _ _ => le_ixO)) pa_nil))) fun _ _ _ => ls_app))) fun _ _ _ => ls_while)
  (zss (pss_cons (PS.imp (ps_set (i := 2) sc_figures_of.nd rfl (Or.inl rfl) (efz (nlst (acons (ev (pv 0)) anil)))) fun _ _ _ => ls_asg1)
  (zss (pss_cons (PS.imp (ps_for (passes_of rfl) rfl (PI.imp (pi_revA rfl T.z_reversed (efz (PE.imp (pe_slice sl_listN (pv 1) onone (osome (eun un_neg o_neg ec_int))) fun _ _ _ => le_slO))) fun _ _ _ => li_rev) (pg_name (i := 3) sc_figures_of.nd rfl (Or.inr rfl))
  (pss_one (PS.imp (ps_setLc2 (i := 2) (own := [("piece", 5), ("half", 6)]) (vs1 := [6]) (g := gOf _ (.nm 5)) (g1 := gOf _ (.nm 6)) rfl sc_figures_of.nd rfl rfl (sw_true rfl rfl rfl (by decide +kernel)) (PI.imp (pi_list (ev (pv 2))) fun _ _ _ => li_list) (blkOk_by (own := [("piece", 5), ("half", 6)]) (N := ["number", "powers", "pieces", "power", "ahead", "piece", "half"]) (sc := defScope s_figures_of) (by decide +kernel)) (by decide) (fun _ _ _ _ _ => (pg_name (i := 5) sc_figures_of.nd rfl (Or.inl rfl))) (fun _ _ _ _ _ => (PTs.imp pts_nil fun _ _ _ => le_yes)) (fun _ _ _ _ _ => (PI.imp (pi_tup (ecb o_divmod (pe_callB call_divmodW rfl T.z_divmod (by decide +kernel) (acons (ev (pv 5)) (acons (ev (pv 3)) anil))))) fun _ _ _ => li_tup)) (fun _ _ _ _ _ => (pg_name (i := 6) sc_figures_of.nd rfl (Or.inl rfl))) (fun _ _ _ _ _ => (PTs.imp pts_nil fun _ _ _ => le_yes)) (fun _ _ _ _ _ => (ev (pv 6)))) fun _ _ _ => ls_lc2 (by decide) (by decide) (by decide)))) fun _ _ _ => ls_for)
  (zss (pss_cons (PS.imp (ps_set (i := 4) sc_figures_of.nd rfl (Or.inl rfl) ec_int) fun _ _ _ => ls_asg1)
  (zss (pss_cons (PS.imp (ps_while (passes_of rfl) (tcmp op_eq o_eqS (eix o_ixL (pe_ix ix_list (ev (pv 2)) (ev (pv 4)) (fun _ _ => rfl))) ec_int (nomark _)) (pss_one (PS.imp (ps_aug (i := 4) sc_figures_of.nd rfl (Or.inl rfl) ec_int ip_add) fun _ _ _ => (ls_aug o_ipadd)))) fun _ _ _ => ls_while)
  (pss_one (PS.imp (ps_ret (ecb o_tupOf (pe_callTy call_tuple_of rfl T.z_tuple (by decide +kernel) (acons (efz (PE.imp (pe_slice sl_listN (ev (pv 2)) (osome (ev (pv 4))) onone) fun _ _ _ => le_slL)) anil)))) fun _ _ _ => ls_ret))) fun _ _ _ => ls_seq)) fun _ _ _ => ls_seq)) fun _ _ _ => ls_seq)) fun _ _ _ => ls_seq)) fun _ _ _ => ls_seq)) fun _ _ _ => ls_seq)
theorem ln_row_of {xs : List Dt} {P : Dt → Prop} {X : DX} (h : sp_row_of xs P X) : xs.length = 1 := by unfold sp_row_of at h; first | grind | (unfold spIs at h; grind)
theorem ok_row_of (T : Tx P w K mg) : FnOk P w K mg base (L2.CX P w) 2 T.a_row_of T.d_row_of ["number"] (liftSp K (ecOf T.e) sp_row_of) := by
  have G_figures_of : FnOk P w K mg base (L2.CX P w) 1 T.a_figures_of T.d_figures_of ["number"] (liftSp K (ecOf T.e) sp_figures_of) := ok_figures_of T
  refine T.F_row_of.okX sc_row_of (fun vs H Q E h => liftSp_len (fun _ _ _ => ln_row_of) h) (fun cdv A outer s H vs Q E hr h => ⟨liftS K (ecOf T.e) E d_row_of, ?_, run_lift (fun _ _ _ => dp_row_of) h⟩)
  unfold d_row_of
  exact (zss (pss_cons (PS.imp (ps_set (i := 1) sc_row_of.nd rfl (Or.inl rfl) (PE.imp (pe_callS (E := WE fun cls d _ H => E cls d H) G_figures_of (hr.mono (by decide)) rfl T.g_figures_of T.F_figures_of.kp T.b_figures_of (fun σ => passAt (takes_of rfl rfl rfl rfl) σ) (by exact (acons (ev (pv 0)) anil))) fun _ _ _ => le_callX (E := E))) fun _ _ _ => ls_asg1)
  (zss (pss_cons (PS.imp (ps_set (i := 2) sc_row_of.nd rfl (Or.inl rfl) (ecb o_len (pe_callB call_len_seq rfl T.z_len (by decide +kernel) (acons (ev (pv 1)) anil)))) fun _ _ _ => ls_asg1)
  (zss (pss_cons (PS.imp (ps_while (passes_of rfl) (tcmp op_eq o_eqS (eix o_ixT (pe_ix ix_tup (ev (pv 1)) (eop op_sub o_sub (ev (pv 2)) ec_int) (fun _ _ => rfl))) ec_int (nomark _)) (pss_one (PS.imp (ps_aug (i := 2) sc_row_of.nd rfl (Or.inl rfl) ec_int ip_sub) fun _ _ _ => (ls_aug o_ipsub)))) fun _ _ _ => ls_while)
  (pss_one (PS.imp (ps_ret (PE.imp (pe_slice sl_tupA (ev (pv 1)) onone (osome (ev (pv 2)))) fun _ _ _ => le_slT)) fun _ _ _ => ls_ret))) fun _ _ _ => ls_seq)) fun _ _ _ => ls_seq)) fun _ _ _ => ls_seq)
theorem ln_is_long_row {xs : List Dt} {P : Dt → Prop} {X : DX} (h : sp_is_long_row xs P X) : xs.length = 1 := by unfold sp_is_long_row at h; first | grind | (unfold spIs at h; grind)
theorem ok_is_long_row (T : Tx P w K mg) : FnOk P w K mg base (L2.CX P w) 1 T.a_is_long_row T.d_is_long_row ["figures"] (liftSp K (ecOf T.e) sp_is_long_row) := by
  refine T.F_is_long_row.okX sc_is_long_row (fun vs H Q E h => liftSp_len (fun _ _ _ => ln_is_long_row) h) (fun cdv A outer s H vs Q E hr h => ⟨liftS K (ecOf T.e) E d_is_long_row, ?_, run_lift (fun _ _ _ => dp_is_long_row) h⟩)
  unfold d_is_long_row
  exact (zss (pss_cons (PS.imp (ps_if (PW.pt (wor (tcmp op_eq o_eqS (ecb o_len (pe_callB call_len_seq rfl T.z_len (by decide +kernel) (acons (ev (pv 0)) anil))) ec_int (nomark _)) (wor (tcmp op_lt o_lt (ecb o_minT (pe_callB (cr_minT rfl) rfl T.z_min (by decide +kernel) (acons (ev (pv 0)) anil))) ec_int (nomark _)) (pw_or1 (tcmp op_gt o_gt (ecb o_maxT (pe_callB (cr_maxT rfl) rfl T.z_max (by decide +kernel) (acons (ev (pv 0)) anil))) ec_int (nomark _)))))) (pss_one (PS.imp (ps_ret ec_bl) fun _ _ _ => ls_ret)) (zss pss_nil fun _ _ _ => ls_next)) fun _ _ _ => ls_if)
  (pss_one (PS.imp (ps_ret (eand (ecmp op_ne o_neS (eix o_ixT (pe_ix ix_tup (ev (pv 0)) ec_int (fun _ _ => rfl))) ec_int (nomark _)) (pe_one (ecmp op_ne o_neS (eix o_ixT (pe_ix ix_tup (ev (pv 0)) (eun un_neg o_neg ec_int) (fun _ _ => rfl))) ec_int (nomark _))))) fun _ _ _ => ls_ret))) fun _ _ _ => ls_seq)
theorem ln_is_row {xs : List Dt} {P : Dt → Prop} {X : DX} (h : sp_is_row xs P X) : xs.length = 1 := by unfold sp_is_row at h; first | grind | (unfold spIs at h; grind)
theorem ok_is_row (T : Tx P w K mg) : FnOk P w K mg base (L2.CX P w) 2 T.a_is_row T.d_is_row ["figures"] (liftSp K (ecOf T.e) sp_is_row) := by
  have G_is_long_row : FnOk P w K mg base (L2.CX P w) 1 T.a_is_long_row T.d_is_long_row ["figures"] (liftSp K (ecOf T.e) sp_is_long_row) := ok_is_long_row T
  refine T.F_is_row.okX sc_is_row (fun vs H Q E h => liftSp_len (fun _ _ _ => ln_is_row) h) (fun cdv A outer s H vs Q E hr h => ⟨liftS K (ecOf T.e) E d_is_row, ?_, run_lift (fun _ _ _ => dp_is_row) h⟩)
  unfold d_is_row
  exact (pss_one (PS.imp (ps_ret (eand (ecmp op_le o_le (ecb o_len (pe_callB call_len_seq rfl T.z_len (by decide +kernel) (acons (ev (pv 0)) anil))) (ec (pe_glob (v := .int 12) rfl (T.c_MOST_FIGURES).choose_spec ⟨_, rfl⟩) fun _ => .int _) (nomark _)) (pe_one (PE.imp (pe_callS (E := WE fun cls d _ H => E cls d H) G_is_long_row (hr.mono (by decide)) rfl T.g_is_long_row T.F_is_long_row.kp T.b_is_long_row (fun σ => passAt (takes_of rfl rfl rfl rfl) σ) (by exact (acons (ev (pv 0)) anil))) fun _ _ _ => le_callX (E := E))))) fun _ _ _ => ls_ret))
theorem ln_check_row {xs : List Dt} {P : Dt → Prop} {X : DX} (h : sp_check_row xs P X) : xs.length = 1 := by unfold sp_check_row at h; first | grind | (unfold spIs at h; grind)
theorem ok_check_row (T : Tx P w K mg) : FnOk P w K mg base (L2.CX P w) 3 T.a_check_row T.d_check_row ["row"] (liftSp K (ecOf T.e) sp_check_row) := by
  have G_is_row : FnOk P w K mg base (L2.CX P w) 2 T.a_is_row T.d_is_row ["figures"] (liftSp K (ecOf T.e) sp_is_row) := ok_is_row T
  refine T.F_check_row.okX sc_check_row (fun vs H Q E h => liftSp_len (fun _ _ _ => ln_check_row) h) (fun cdv A outer s H vs Q E hr h => ⟨liftS K (ecOf T.e) E d_check_row, ?_, run_lift (fun _ _ _ => dp_check_row) h⟩)
  unfold d_check_row
  exact (pss_one (PS.imp (ps_if (tnot (tB' (pt_val (PE.imp (pe_callS (E := WE fun cls d _ H => E cls d H) G_is_row (hr.mono (by decide)) rfl T.g_is_row T.F_is_row.kp T.b_is_row (fun σ => passAt (takes_of rfl rfl rfl rfl) σ) (by exact (acons (ev (pv 0)) anil))) fun _ _ _ => le_callX (E := E))))) (pss_one (PS.imp (ps_raise (W := fun cls d _ H => E cls d H) rfl (takes_of rfl rfl rfl rfl) (pmk_p T.e_BadRow (by exact rfl))) fun _ _ _ => (ls_raise0 (E := E) rfl))) (zss pss_nil fun _ _ _ => ls_next)) fun _ _ _ => ls_if))
theorem ln_number_of {xs : List Dt} {P : Dt → Prop} {X : DX} (h : sp_number_of xs P X) : xs.length = 1 := by unfold sp_number_of at h; first | grind | (unfold spIs at h; grind)
theorem ok_number_of (T : Tx P w K mg) : FnOk P w K mg base (L2.CX P w) 1 T.a_number_of T.d_number_of ["figures"] (liftSp K (ecOf T.e) sp_number_of) := by
  refine T.F_number_of.okX sc_number_of (fun vs H Q E h => liftSp_len (fun _ _ _ => ln_number_of) h) (fun cdv A outer s H vs Q E hr h => ⟨liftS K (ecOf T.e) E d_number_of, ?_, run_lift (fun _ _ _ => dp_number_of) h⟩)
  unfold d_number_of
  exact (zss (pss_cons (PS.imp (ps_set (i := 1) sc_number_of.nd rfl (Or.inl rfl) ec_int) fun _ _ _ => ls_asg1)
  (zss (pss_cons (PS.imp (ps_for (passes_of rfl) rfl (PI.imp (pi_tup (ev (pv 0))) fun _ _ _ => li_tup) (pg_name (i := 2) sc_number_of.nd rfl (Or.inl rfl))
  (pss_one (PS.imp (ps_set (i := 1) sc_number_of.nd rfl (Or.inl rfl) (eop op_add o_add (eop op_mulW o_mul (ev (pv 1)) ec_int) (ev (pv 2)))) fun _ _ _ => ls_asg1))) fun _ _ _ => ls_for)
  (pss_one (PS.imp (ps_ret (ev (pv 1))) fun _ _ _ => ls_ret))) fun _ _ _ => ls_seq)) fun _ _ _ => ls_seq)
theorem ln_whole_of {xs : List Dt} {P : Dt → Prop} {X : DX} (h : sp_whole_of xs P X) : xs.length = 1 := by unfold sp_whole_of at h; first | grind | (unfold spIs at h; grind)
theorem ok_whole_of (T : Tx P w K mg) : FnOk P w K mg base (L2.CX P w) 4 T.a_whole_of T.d_whole_of ["row"] (liftSp K (ecOf T.e) sp_whole_of) := by
  have G_check_row : FnOk P w K mg base (L2.CX P w) 3 T.a_check_row T.d_check_row ["row"] (liftSp K (ecOf T.e) sp_check_row) := ok_check_row T
  have G_number_of : FnOk P w K mg base (L2.CX P w) 1 T.a_number_of T.d_number_of ["figures"] (liftSp K (ecOf T.e) sp_number_of) := ok_number_of T
  refine T.F_whole_of.okX sc_whole_of (fun vs H Q E h => liftSp_len (fun _ _ _ => ln_whole_of) h) (fun cdv A outer s H vs Q E hr h => ⟨liftS K (ecOf T.e) E d_whole_of, ?_, run_lift (fun _ _ _ => dp_whole_of) h⟩)
  unfold d_whole_of
  exact (zss (pss_cons (PS.imp (ps_expr (PE.imp (pe_callS (E := WE fun cls d _ H => E cls d H) G_check_row (hr.mono (by decide)) rfl T.g_check_row T.F_check_row.kp T.b_check_row (fun σ => passAt (takes_of rfl rfl rfl rfl) σ) (by exact (acons (ev (pv 0)) anil))) fun _ _ _ => le_callX (E := E))) fun _ _ _ => ls_drop)
  (pss_one (PS.imp (ps_ret (PE.imp (pe_callS (E := WE fun cls d _ H => E cls d H) G_number_of (hr.mono (by decide)) rfl T.g_number_of T.F_number_of.kp T.b_number_of (fun σ => passAt (takes_of rfl rfl rfl rfl) σ) (by exact (acons (ev (pv 0)) anil))) fun _ _ _ => le_callX (E := E))) fun _ _ _ => ls_ret))) fun _ _ _ => ls_seq)
theorem ln_table {xs : List Dt} {P : List Dt → Prop} {X : DX} (h : spN_table xs P X) : xs.length = 1 := by unfold spN_table at h; first | grind | (unfold spIs at h; grind)
theorem ok_table (T : Tx P w K mg) : FnOk P w K mg base (L2.CX P w) 5 T.a_table T.d_table ["head"] (liftSpN K (ecOf T.e) spN_table) := by
  have G_row_of : FnOk P w K mg base (L2.CX P w) 2 T.a_row_of T.d_row_of ["number"] (liftSp K (ecOf T.e) sp_row_of) := ok_row_of T
  have G_whole_of : FnOk P w K mg base (L2.CX P w) 4 T.a_whole_of T.d_whole_of ["row"] (liftSp K (ecOf T.e) sp_whole_of) := ok_whole_of T
  refine T.F_table.okX sc_table (fun vs H Q E h => liftSpN_len (fun _ _ _ => ln_table) h) (fun cdv A outer s H vs Q E hr h => ⟨liftS K (ecOf T.e) E dN_table, ?_, run_liftN (fun _ _ _ => dpN_table) h⟩)
  unfold dN_table
  exact (zss (pss_cons (PS.imp (ps_set (i := 1) sc_table.nd rfl (Or.inr rfl) (PE.imp (pe_callS (E := WE fun cls d _ H => E cls d H) G_whole_of (hr.mono (by decide)) rfl T.g_whole_of T.F_whole_of.kp T.b_whole_of (fun σ => passAt (takes_of rfl rfl rfl rfl) σ) (by exact (acons (ev (pv 0)) anil))) fun _ _ _ => le_callX (E := E))) fun _ _ _ => ls_asg1)
  (pss_one (PS.imp (ps_ret (PE.imp (pe_lc (own := [("multiple", 2)]) (g := gOf _ (.nm 2)) rfl sc_table.nd (PI.imp (pi_tup (ec (v := V.ref T.c_MULTIPLES.choose) (pe_glob rfl T.c_MULTIPLES.choose_spec.1 rfl) T.c_MULTIPLES.choose_spec.2)) fun _ _ _ => li_ktup) (blkOk_by (own := [("multiple", 2)]) (N := ["head", "whole", "multiple"]) (sc := defScope s_table) (by decide +kernel)) (fun _ _ _ _ _ => (pg_name (i := 2) sc_table.nd rfl (Or.inl rfl))) (fun _ _ _ _ _ => (PTs.imp pts_nil fun _ _ _ => le_yes)) (fun _ _ _ _ _ => (PE.imp (pe_call G_row_of (hr.mono (by decide)) rfl T.g_row_of T.F_row_of.kp T.b_row_of .nil passE (acons (eop op_mulW o_mul (ev (pv 1)) (ev (pv 2))) anil)) fun _ _ _ => le_call0))) fun _ _ _ => le_lc (by decide))) fun _ _ _ => ls_retW))) fun _ _ _ => ls_seq)
theorem ln_faults {xs : List Dt} {P : List Dt → Prop} {X : DX} (h : spN_faults xs P X) : xs.length = 2 := by unfold spN_faults at h; first | grind | (unfold spIs at h; grind)
theorem ok_faults (T : Tx P w K mg) : FnOk P w K mg base (L2.CX P w) 6 T.a_faults T.d_faults ["head", "rows"] (liftSpN K (ecOf T.e) spN_faults) := by
  have G_slips_between : FnOk P w K mg base (L2.CX P w) 2 T.a_slips_between T.d_slips_between ["due", "told"] (liftSp K (ecOf T.e) sp_slips_between) := ok_slips_between T
  have G_table : FnOk P w K mg base (L2.CX P w) 5 T.a_table T.d_table ["head"] (liftSpN K (ecOf T.e) spN_table) := ok_table T
  refine T.F_faults.okX sc_faults (fun vs H Q E h => liftSpN_len (fun _ _ _ => ln_faults) h) (fun cdv A outer s H vs Q E hr h => ⟨liftS K (ecOf T.e) E dN_faults, ?_, run_liftN (fun _ _ _ => dpN_faults) h⟩)
  unfold dN_faults
  exact (zss (pss_cons (PS.imp (ps_set (i := 2) sc_faults.nd rfl (Or.inl rfl) (nlst anil)) fun _ _ _ => ls_asgN)
  (zss (pss_cons (PS.imp (ps_for (passes_of rfl) rfl (PI.imp (pi_enumZ rfl T.z_enumerate rfl T.z_zip (acons (efz (PE.imp (pe_callS (E := WE fun cls d _ H => E cls d H) G_table (hr.mono (by decide)) rfl T.g_table T.F_table.kp T.b_table (fun σ => passAt (takes_of rfl rfl rfl rfl) σ) (by exact (acons (ev (pv 0)) anil))) fun _ _ _ => le_callXN)) (acons (ev (pv 1)) anil))) fun _ _ _ => li_enumZ) (pgtup rfl (pgcons (pgnm (pg_name (i := 3) sc_faults.nd rfl (Or.inl rfl))) (pgcons (pgtup rfl (pgcons (pgnm (pg_name (i := 4) sc_faults.nd rfl (Or.inl rfl))) (pgcons (pgnm (pg_name (i := 5) sc_faults.nd rfl (Or.inl rfl))) pgnil))) pgnil)))
  (pss_one (PS.imp (ps_if (tcmp (op_neD (hu64 hr)) o_ne (ev (pv 5)) (ev (pv 4)) (nomark _)) (pss_one (PS.imp (ps_expr (pe_bm PySem.F.plainAttrs_list PySem.F.slot_list_append PySem.F.type_list_append mt_append (pv 2) (pa_cons (etup (acons (ev (pv 3)) (acons (PE.imp (pe_callS (E := WE fun cls d _ H => E cls d H) G_slips_between (hr.mono (by decide)) rfl T.g_slips_between T.F_slips_between.kp T.b_slips_between (fun σ => passAt (takes_of rfl rfl rfl rfl) σ) (by exact (acons (ev (pv 4)) (acons (ev (pv 5)) anil)))) fun _ _ _ => le_callX (E := E)) anil))) pa_nil))) fun _ _ _ => ls_app)) (zss pss_nil fun _ _ _ => ls_next)) fun _ _ _ => ls_if))) fun _ _ _ => ls_for)
  (pss_one (PS.imp (ps_ret (pv 2)) fun _ _ _ => ls_retO))) fun _ _ _ => ls_seq)) fun _ _ _ => ls_seq)
theorem ok_law (T : Tx P w K mg) : FnOk P w K mg base CX0 9 T.a_law T.d_law ["_law_script"] (lawSp K) := by
  have G__law_dice : FnOk P w K mg base CX0 1 T.a__law_dice T.d__law_dice ["_law_script"] (liftSp K (ecOf T.e) sp__law_dice) := ok__law_dice T
  have G__law_drawn : FnOk P w K mg base (L2.CX P w) 3 T.a__law_drawn T.d__law_drawn ["_law_d", "_law_most"] (liftSp K (ecOf T.e) sp__law_drawn) := ok__law_drawn T
  have G__law_faults : FnOk P w K mg base (L2.CX P w) 3 T.a__law_faults T.d__law_faults ["_law_head", "_law_rows"] (liftSp K (ecOf T.e) sp__law_faults) := ok__law_faults T
  have G__law_like : FnOk P w K mg base CX0 8 T.a__law_like T.d__law_like ["_law_found", "_law_due"] (liftSp K (ecOf T.e) sp__law_like) := ok__law_like T
  have G__law_next : FnOk P w K mg base CX0 1 T.a__law_next T.d__law_next ["_law_dice_here", "_law_many"] (liftSp K (ecOf T.e) sp__law_next) := ok__law_next T
  have G__law_table : FnOk P w K mg base (L2.CX P w) 2 T.a__law_table T.d__law_table ["_law_head"] (liftSp K (ecOf T.e) sp__law_table) := ok__law_table T
  have G__law_wrong : FnOk P w K mg base (L2.CX P w) 3 T.a__law_wrong T.d__law_wrong ["_law_d", "_law_rows", "_law_most"] (liftSp K (ecOf T.e) sp__law_wrong) := ok__law_wrong T
  have G_faults : FnOk P w K mg base (L2.CX P w) 6 T.a_faults T.d_faults ["head", "rows"] (liftSpN K (ecOf T.e) spN_faults) := ok_faults T
  have G_table : FnOk P w K mg base (L2.CX P w) 5 T.a_table T.d_table ["head"] (liftSpN K (ecOf T.e) spN_table) := ok_table T
  refine T.F_law.ok sc_law (fun vs H Q E h => lawSp_len h) (fun cdv A outer s H vs Q E hr h => ⟨liftS K (ecOf T.e) E0 d_law, ?_, run_lift (fun _ _ _ => dp_law) (conv_law h)⟩)
  unfold d_law
  exact (zss (pss_cons (PS.imp (ps_set (i := 1) sc_law.nd rfl (Or.inl rfl) (PE.imp (pe_call G__law_dice (hr.mono (by decide)) rfl T.g__law_dice T.F__law_dice.kp T.b__law_dice .nil pass0 (acons (ev (pv 0)) anil)) fun _ _ _ => le_call0)) fun _ _ _ => ls_asg1)
  (zss (pss_cons (PS.imp (ps_set (i := 2) sc_law.nd rfl (Or.inl rfl) (PE.imp (pe_call G__law_drawn (hr.mono (by decide)) rfl T.g__law_drawn T.F__law_drawn.kp T.b__law_drawn .nil passE (acons (ev (pv 1)) (acons ec_int anil))) fun _ _ _ => le_call0)) fun _ _ _ => ls_asg1)
  (zss (pss_cons (PS.imp (ps_set (i := 3) sc_law.nd rfl (Or.inl rfl) (PE.imp (pe_call G__law_table (hr.mono (by decide)) rfl T.g__law_table T.F__law_table.kp T.b__law_table .nil passE (acons (ev (pv 2)) anil)) fun _ _ _ => le_call0)) fun _ _ _ => ls_asg1)
  (zss (pss_cons (PS.imp (ps_for PassesOwn.never rfl (PI.imp (pi_range1 rfl T.z_range (acons ec_int anil)) fun _ _ _ => li_rng1) (pg_name (i := 4) sc_law.nd rfl (Or.inl rfl))
  (zss (pss_cons (PS.imp (ps_set (i := 5) sc_law.nd rfl (Or.inl rfl) (PE.imp (pe_call G_table (hr.mono (by decide)) rfl T.g_table T.F_table.kp T.b_table .nil passE (acons (ev (pv 2)) anil)) fun _ _ _ => le_call0N)) fun _ _ _ => ls_asgN)
  (zss (pss_cons (PS.imp (ps_if (tnot (tB' (pt_val (PE.imp (pe_call (old__law_like T) (hr.mono (by decide)) rfl T.g__law_like T.F__law_like.kp T.b__law_like .nil pass0 (pa_cons (pv 5) (pa_cons (ev (pv 3)) pa_nil))) fun _ _ _ => le_likeO)))) (pss_one (PS.imp (ps_ret ec_bl) fun _ _ _ => ls_ret)) (zss pss_nil fun _ _ _ => ls_next)) fun _ _ _ => ls_if)
  (pss_one (PS.imp (ps_expr (pe_bm PySem.F.plainAttrs_list PySem.F.slot_list_append PySem.F.type_list_append mt_append (pv 5) (pa_cons (etup anil) pa_nil))) fun _ _ _ => ls_app))) fun _ _ _ => ls_seq)) fun _ _ _ => ls_seq)) fun _ _ _ => ls_for)
  (zss (pss_cons (PS.imp (ps_set (i := 6) sc_law.nd rfl (Or.inl rfl) (PE.imp (pe_call G__law_wrong (hr.mono (by decide)) rfl T.g__law_wrong T.F__law_wrong.kp T.b__law_wrong .nil passE (acons (ev (pv 1)) (acons (ev (pv 3)) (acons ec_int anil)))) fun _ _ _ => le_call0)) fun _ _ _ => ls_asg1)
  (zss (pss_cons (PS.imp (ps_if (tcmp op_eq o_eqS (PE.imp (pe_call G__law_next (hr.mono (by decide)) rfl T.g__law_next T.F__law_next.kp T.b__law_next .nil pass0 (acons (ev (pv 1)) (acons ec_int anil))) fun _ _ _ => le_call0) ec_int (nomark _)) (pss_one (PS.imp (ps_set (i := 6) sc_law.nd rfl (Or.inl rfl) (PE.imp (pe_call G__law_table (hr.mono (by decide)) rfl T.g__law_table T.F__law_table.kp T.b__law_table .nil passE (acons (PE.imp (pe_call G__law_drawn (hr.mono (by decide)) rfl T.g__law_drawn T.F__law_drawn.kp T.b__law_drawn .nil passE (acons (ev (pv 1)) (acons ec_int anil))) fun _ _ _ => le_call0) anil)) fun _ _ _ => le_call0)) fun _ _ _ => ls_asg1)) (zss pss_nil fun _ _ _ => ls_next)) fun _ _ _ => ls_if)
  (zss (pss_cons (PS.imp (ps_set (i := 7) sc_law.nd rfl (Or.inl rfl) (efz (nlistof (pe_callTy call_listN rfl T.z_list (by decide +kernel) (acons (ev (pv 6)) anil))))) fun _ _ _ => ls_asg1)
  (zss (pss_cons (PS.imp (ps_for PassesOwn.never rfl (PI.imp (pi_range1 rfl T.z_range (acons ec_int anil)) fun _ _ _ => li_rng1) (pg_name (i := 4) sc_law.nd rfl (Or.inl rfl))
  (zss (pss_cons (ps_set (i := 5) sc_law.nd rfl (Or.inl rfl) (pe_call G_faults (hr.mono (by decide)) rfl T.g_faults T.F_faults.kp T.b_faults .nil passE (acons (ev (pv 2)) (acons (ev (pv 7)) anil)))) (pss_cons (ps_if (PW.pt (wor (tnot (tB' (pt_val (PE.imp (pe_call G__law_like (hr.mono (by decide)) rfl T.g__law_like T.F__law_like.kp T.b__law_like .nil pass0 (acons (ev (pv 5)) (acons (PE.imp (pe_call G__law_faults (hr.mono (by decide)) rfl T.g__law_faults T.F__law_faults.kp T.b__law_faults .nil passE (acons (ev (pv 2)) (acons (ev (pv 6)) anil))) fun _ _ _ => le_call0) anil))) fun _ _ _ => le_call0)))) (pw_or1 (tcmp (op_neD (hu64 hr)) o_ne (ev (pv 7)) (ev (pv 6)) (nomark _))))) (pss_one (ps_ret pe_bl)) pss_nil) (pss_cons (ps_for PassesOwn.never rfl (pi_list (pv 5)) (pgtup rfl (pgcons (pgnm (pg_name (i := 8) sc_law.nd rfl (Or.inl rfl))) (pgcons (pgnm (pg_name (i := 9) sc_law.nd rfl (Or.inl rfl))) pgnil))) (pss_one (ps_expr (pe_bm PySem.F.plainAttrs_list PySem.F.slot_list_append PySem.F.type_list_append mt_append (pv 9) (by exact (pa_cons pe_int pa_nil)))))) (pss_one (ps_expr (pe_bm PySem.F.plainAttrs_list PySem.F.slot_list_append PySem.F.type_list_append mt_append (pv 5) (by exact (pa_cons pe_int pa_nil)))))))) fun _ _ _ => ls_blk)) fun _ _ _ => ls_for)
  (pss_one (PS.imp (ps_ret (ecmp (op_eqD (hu64 hr)) o_eq (efz (PE.imp (pe_call G_faults (hr.mono (by decide)) rfl T.g_faults T.F_faults.kp T.b_faults .nil passE (acons (ev (pv 2)) (acons (ev (pv 3)) anil))) fun _ _ _ => le_call0N)) (efz (nlst anil)) (nomark _))) fun _ _ _ => ls_ret))) fun _ _ _ => ls_seq)) fun _ _ _ => ls_seq)) fun _ _ _ => ls_seq)) fun _ _ _ => ls_seq)) fun _ _ _ => ls_seq)) fun _ _ _ => ls_seq)) fun _ _ _ => ls_seq)) fun _ _ _ => ls_seq)
end
theorem all_mk {l : PySem.W.OpenLaw} {w : World} {K : PySem.W.Frag} {h : Heap} {mg : Str → Option Value} {fa : Addr} (X : K.In h) (G : h.Ns mainGlobals mg) (hfa : mg "law" = some (.ref fa))
    {od0 an0 : Option Addr} {sl0 : Array (Option Value)} {oc0 kV0 dc0 pm0 cd0 ct0 : Value} {f0 : Addr} {od1 an1 : Option Addr} {sl1 : Array (Option Value)} {oc1 kV1 dc1 pm1 cd1 ct1 : Value} {f1 : Addr} {od2 an2 : Option Addr} {sl2 : Array (Option Value)} {oc2 kV2 dc2 pm2 cd2 ct2 : Value} {f2 : Addr} {od3 an3 : Option Addr} {sl3 : Array (Option Value)} {oc3 kV3 dc3 pm3 cd3 ct3 : Value} {f3 : Addr} {od4 an4 : Option Addr} {sl4 : Array (Option Value)} {oc4 kV4 dc4 pm4 cd4 ct4 : Value} {f4 : Addr} {od5 an5 : Option Addr} {sl5 : Array (Option Value)} {oc5 kV5 dc5 pm5 cd5 ct5 : Value} {f5 : Addr} {od6 an6 : Option Addr} {sl6 : Array (Option Value)} {oc6 kV6 dc6 pm6 cd6 ct6 : Value} {f6 : Addr} {od7 an7 : Option Addr} {sl7 : Array (Option Value)} {oc7 kV7 dc7 pm7 cd7 ct7 : Value} {f7 : Addr} {od8 an8 : Option Addr} {sl8 : Array (Option Value)} {oc8 kV8 dc8 pm8 cd8 ct8 : Value} {f8 : Addr} {od9 an9 : Option Addr} {sl9 : Array (Option Value)} {oc9 kV9 dc9 pm9 cd9 ct9 : Value} {f9 : Addr} {od10 an10 : Option Addr} {sl10 : Array (Option Value)} {oc10 kV10 dc10 pm10 cd10 ct10 : Value} {f10 : Addr} {od11 an11 : Option Addr} {sl11 : Array (Option Value)} {oc11 kV11 dc11 pm11 cd11 ct11 : Value} {f11 : Addr} {od12 an12 : Option Addr} {sl12 : Array (Option Value)} {oc12 kV12 dc12 pm12 cd12 ct12 : Value} {f12 : Addr} {od13 an13 : Option Addr} {sl13 : Array (Option Value)} {oc13 kV13 dc13 pm13 cd13 ct13 : Value} {f13 : Addr} {od14 an14 : Option Addr} {sl14 : Array (Option Value)} {oc14 kV14 dc14 pm14 cd14 ct14 : Value} {f14 : Addr} {od15 an15 : Option Addr} {sl15 : Array (Option Value)} {oc15 kV15 dc15 pm15 cd15 ct15 : Value} {f15 : Addr} {od16 an16 : Option Addr} {sl16 : Array (Option Value)} {oc16 kV16 dc16 pm16 cd16 ct16 : Value} {f16 : Addr} {od17 an17 : Option Addr} {sl17 : Array (Option Value)} {oc17 kV17 dc17 pm17 cd17 ct17 : Value} {f17 : Addr} {od18 an18 : Option Addr} {sl18 : Array (Option Value)} {oc18 kV18 dc18 pm18 cd18 ct18 : Value} {f18 : Addr} {od19 an19 : Option Addr} {sl19 : Array (Option Value)} {oc19 kV19 dc19 pm19 cd19 ct19 : Value} {f19 : Addr} {od20 an20 : Option Addr} {sl20 : Array (Option Value)} {oc20 kV20 dc20 pm20 cd20 ct20 : Value} {f20 : Addr} {od21 an21 : Option Addr} {sl21 : Array (Option Value)} {oc21 kV21 dc21 pm21 cd21 ct21 : Value} {f21 : Addr} {od22 an22 : Option Addr} {sl22 : Array (Option Value)} {oc22 kV22 dc22 pm22 cd22 ct22 : Value} {f22 : Addr} {od23 an23 : Option Addr} {sl23 : Array (Option Value)} {oc23 kV23 dc23 pm23 cd23 ct23 : Value} {f23 : Addr} {od24 an24 : Option Addr} {sl24 : Array (Option Value)} {oc24 kV24 dc24 pm24 cd24 ct24 : Value} {f24 : Addr} {od25 an25 : Option Addr} {sl25 : Array (Option Value)} {oc25 kV25 dc25 pm25 cd25 ct25 : Value} {f25 : Addr} {od26 an26 : Option Addr} {sl26 : Array (Option Value)} {oc26 kV26 dc26 pm26 cd26 ct26 : Value} {f26 : Addr} {od27 an27 : Option Addr} {sl27 : Array (Option Value)} {oc27 kV27 dc27 pm27 cd27 ct27 : Value} {f27 : Addr} {od28 an28 : Option Addr} {sl28 : Array (Option Value)} {oc28 kV28 dc28 pm28 cd28 ct28 : Value} {f28 : Addr} {od29 an29 : Option Addr} {sl29 : Array (Option Value)} {oc29 kV29 dc29 pm29 cd29 ct29 : Value} {f29 : Addr} {a_SORTS : Addr} {n_SORTS : Nat} {t_SORTS_0 t_SORTS_1 t_SORTS_2 t_SORTS_3 t_SORTS_4 : Tok} {t_MOST_FIGURES : Tok} {a_MULTIPLES : Addr} {o_MULTIPLES : Option Addr} {n_MULTIPLES : Nat} {s_MULTIPLES : Array (Option Value)} {t_MULTIPLES_0 t_MULTIPLES_1 t_MULTIPLES_2 t_MULTIPLES_3 t_MULTIPLES_4 t_MULTIPLES_5 t_MULTIPLES_6 t_MULTIPLES_7 t_MULTIPLES_8 t_MULTIPLES_9 t_MULTIPLES_10 t_MULTIPLES_11 t_MULTIPLES_12 t_MULTIPLES_13 t_MULTIPLES_14 t_MULTIPLES_15 t_MULTIPLES_16 t_MULTIPLES_17 t_MULTIPLES_18 t_MULTIPLES_19 t_MULTIPLES_20 t_MULTIPLES_21 t_MULTIPLES_22 : Tok} {C_BadRow : Addr}
    (a0 : PySem.W.nsIn K mainGlobals "_law_dice" = some (some (.ref f0))) (l0 : K.lookup f0 = some ⟨oc0, od0, .func (PySem.W.fnOf "_law_dice" "_law_dice" (defArgs s__law_dice) (defBody s__law_dice) (defScope s__law_dice) .none kV0 dc0 pm0 an0 cd0 ct0), sl0⟩) (c0 : PySem.W.codeIn K cd0 "_law_dice" = true) (k0 : PySem.W.keepIn K (.ref f0) = true)
    (a1 : PySem.W.nsIn K mainGlobals "_law_next" = some (some (.ref f1))) (l1 : K.lookup f1 = some ⟨oc1, od1, .func (PySem.W.fnOf "_law_next" "_law_next" (defArgs s__law_next) (defBody s__law_next) (defScope s__law_next) .none kV1 dc1 pm1 an1 cd1 ct1), sl1⟩) (c1 : PySem.W.codeIn K cd1 "_law_next" = true) (k1 : PySem.W.keepIn K (.ref f1) = true)
    (a2 : PySem.W.nsIn K mainGlobals "_law_row" = some (some (.ref f2))) (l2 : K.lookup f2 = some ⟨oc2, od2, .func (PySem.W.fnOf "_law_row" "_law_row" (defArgs s__law_row) (defBody s__law_row) (defScope s__law_row) .none kV2 dc2 pm2 an2 cd2 ct2), sl2⟩) (c2 : PySem.W.codeIn K cd2 "_law_row" = true) (k2 : PySem.W.keepIn K (.ref f2) = true)
    (a3 : PySem.W.nsIn K mainGlobals "_law_smooth" = some (some (.ref f3))) (l3 : K.lookup f3 = some ⟨oc3, od3, .func (PySem.W.fnOf "_law_smooth" "_law_smooth" (defArgs s__law_smooth) (defBody s__law_smooth) (defScope s__law_smooth) .none kV3 dc3 pm3 an3 cd3 ct3), sl3⟩) (c3 : PySem.W.codeIn K cd3 "_law_smooth" = true) (k3 : PySem.W.keepIn K (.ref f3) = true)
    (a4 : PySem.W.nsIn K mainGlobals "_law_drawn" = some (some (.ref f4))) (l4 : K.lookup f4 = some ⟨oc4, od4, .func (PySem.W.fnOf "_law_drawn" "_law_drawn" (defArgs s__law_drawn) (defBody s__law_drawn) (defScope s__law_drawn) .none kV4 dc4 pm4 an4 cd4 ct4), sl4⟩) (c4 : PySem.W.codeIn K cd4 "_law_drawn" = true) (k4 : PySem.W.keepIn K (.ref f4) = true)
    (a5 : PySem.W.nsIn K mainGlobals "_law_made" = some (some (.ref f5))) (l5 : K.lookup f5 = some ⟨oc5, od5, .func (PySem.W.fnOf "_law_made" "_law_made" (defArgs s__law_made) (defBody s__law_made) (defScope s__law_made) .none kV5 dc5 pm5 an5 cd5 ct5), sl5⟩) (c5 : PySem.W.codeIn K cd5 "_law_made" = true) (k5 : PySem.W.keepIn K (.ref f5) = true)
    (a6 : PySem.W.nsIn K mainGlobals "_law_slips" = some (some (.ref f6))) (l6 : K.lookup f6 = some ⟨oc6, od6, .func (PySem.W.fnOf "_law_slips" "_law_slips" (defArgs s__law_slips) (defBody s__law_slips) (defScope s__law_slips) .none kV6 dc6 pm6 an6 cd6 ct6), sl6⟩) (c6 : PySem.W.codeIn K cd6 "_law_slips" = true) (k6 : PySem.W.keepIn K (.ref f6) = true)
    (a7 : PySem.W.nsIn K mainGlobals "_law_numbers" = some (some (.ref f7))) (l7 : K.lookup f7 = some ⟨oc7, od7, .func (PySem.W.fnOf "_law_numbers" "_law_numbers" (defArgs s__law_numbers) (defBody s__law_numbers) (defScope s__law_numbers) .none kV7 dc7 pm7 an7 cd7 ct7), sl7⟩) (c7 : PySem.W.codeIn K cd7 "_law_numbers" = true) (k7 : PySem.W.keepIn K (.ref f7) = true)
    (a8 : PySem.W.nsIn K mainGlobals "_law_whole_of" = some (some (.ref f8))) (l8 : K.lookup f8 = some ⟨oc8, od8, .func (PySem.W.fnOf "_law_whole_of" "_law_whole_of" (defArgs s__law_whole_of) (defBody s__law_whole_of) (defScope s__law_whole_of) .none kV8 dc8 pm8 an8 cd8 ct8), sl8⟩) (c8 : PySem.W.codeIn K cd8 "_law_whole_of" = true) (k8 : PySem.W.keepIn K (.ref f8) = true)
    (a9 : PySem.W.nsIn K mainGlobals "_law_table" = some (some (.ref f9))) (l9 : K.lookup f9 = some ⟨oc9, od9, .func (PySem.W.fnOf "_law_table" "_law_table" (defArgs s__law_table) (defBody s__law_table) (defScope s__law_table) .none kV9 dc9 pm9 an9 cd9 ct9), sl9⟩) (c9 : PySem.W.codeIn K cd9 "_law_table" = true) (k9 : PySem.W.keepIn K (.ref f9) = true)
    (a10 : PySem.W.nsIn K mainGlobals "_law_faults" = some (some (.ref f10))) (l10 : K.lookup f10 = some ⟨oc10, od10, .func (PySem.W.fnOf "_law_faults" "_law_faults" (defArgs s__law_faults) (defBody s__law_faults) (defScope s__law_faults) .none kV10 dc10 pm10 an10 cd10 ct10), sl10⟩) (c10 : PySem.W.codeIn K cd10 "_law_faults" = true) (k10 : PySem.W.keepIn K (.ref f10) = true)
    (a11 : PySem.W.nsIn K mainGlobals "_law_like" = some (some (.ref f11))) (l11 : K.lookup f11 = some ⟨oc11, od11, .func (PySem.W.fnOf "_law_like" "_law_like" (defArgs s__law_like) (defBody s__law_like) (defScope s__law_like) .none kV11 dc11 pm11 an11 cd11 ct11), sl11⟩) (c11 : PySem.W.codeIn K cd11 "_law_like" = true) (k11 : PySem.W.keepIn K (.ref f11) = true)
    (a12 : PySem.W.nsIn K mainGlobals "_law_spoilt" = some (some (.ref f12))) (l12 : K.lookup f12 = some ⟨oc12, od12, .func (PySem.W.fnOf "_law_spoilt" "_law_spoilt" (defArgs s__law_spoilt) (defBody s__law_spoilt) (defScope s__law_spoilt) .none kV12 dc12 pm12 an12 cd12 ct12), sl12⟩) (c12 : PySem.W.codeIn K cd12 "_law_spoilt" = true) (k12 : PySem.W.keepIn K (.ref f12) = true)
    (a13 : PySem.W.nsIn K mainGlobals "_law_wrong" = some (some (.ref f13))) (l13 : K.lookup f13 = some ⟨oc13, od13, .func (PySem.W.fnOf "_law_wrong" "_law_wrong" (defArgs s__law_wrong) (defBody s__law_wrong) (defScope s__law_wrong) .none kV13 dc13 pm13 an13 cd13 ct13), sl13⟩) (c13 : PySem.W.codeIn K cd13 "_law_wrong" = true) (k13 : PySem.W.keepIn K (.ref f13) = true)
    (a14 : PySem.W.nsIn K mainGlobals "is_joined" = some (some (.ref f14))) (l14 : K.lookup f14 = some ⟨oc14, od14, .func (PySem.W.fnOf "is_joined" "is_joined" (defArgs s_is_joined) (defBody s_is_joined) (defScope s_is_joined) .none kV14 dc14 pm14 an14 cd14 ct14), sl14⟩) (c14 : PySem.W.codeIn K cd14 "is_joined" = true) (k14 : PySem.W.keepIn K (.ref f14) = true)
    (a15 : PySem.W.nsIn K mainGlobals "is_left_out" = some (some (.ref f15))) (l15 : K.lookup f15 = some ⟨oc15, od15, .func (PySem.W.fnOf "is_left_out" "is_left_out" (defArgs s_is_left_out) (defBody s_is_left_out) (defScope s_is_left_out) .none kV15 dc15 pm15 an15 cd15 ct15), sl15⟩) (c15 : PySem.W.codeIn K cd15 "is_left_out" = true) (k15 : PySem.W.keepIn K (.ref f15) = true)
    (a16 : PySem.W.nsIn K mainGlobals "is_other_figure" = some (some (.ref f16))) (l16 : K.lookup f16 = some ⟨oc16, od16, .func (PySem.W.fnOf "is_other_figure" "is_other_figure" (defArgs s_is_other_figure) (defBody s_is_other_figure) (defScope s_is_other_figure) .none kV16 dc16 pm16 an16 cd16 ct16), sl16⟩) (c16 : PySem.W.codeIn K cd16 "is_other_figure" = true) (k16 : PySem.W.keepIn K (.ref f16) = true)
    (a17 : PySem.W.nsIn K mainGlobals "is_swapped" = some (some (.ref f17))) (l17 : K.lookup f17 = some ⟨oc17, od17, .func (PySem.W.fnOf "is_swapped" "is_swapped" (defArgs s_is_swapped) (defBody s_is_swapped) (defScope s_is_swapped) .none kV17 dc17 pm17 an17 cd17 ct17), sl17⟩) (c17 : PySem.W.codeIn K cd17 "is_swapped" = true) (k17 : PySem.W.keepIn K (.ref f17) = true)
    (a18 : PySem.W.nsIn K mainGlobals "is_twice" = some (some (.ref f18))) (l18 : K.lookup f18 = some ⟨oc18, od18, .func (PySem.W.fnOf "is_twice" "is_twice" (defArgs s_is_twice) (defBody s_is_twice) (defScope s_is_twice) .none kV18 dc18 pm18 an18 cd18 ct18), sl18⟩) (c18 : PySem.W.codeIn K cd18 "is_twice" = true) (k18 : PySem.W.keepIn K (.ref f18) = true)
    (a19 : PySem.W.nsIn K mainGlobals "slips_between" = some (some (.ref f19))) (l19 : K.lookup f19 = some ⟨oc19, od19, .func (PySem.W.fnOf "slips_between" "slips_between" (defArgs s_slips_between) (defBody s_slips_between) (defScope s_slips_between) .none kV19 dc19 pm19 an19 cd19 ct19), sl19⟩) (c19 : PySem.W.codeIn K cd19 "slips_between" = true) (k19 : PySem.W.keepIn K (.ref f19) = true)
    (a20 : PySem.W.nsIn K mainGlobals "figures_of" = some (some (.ref f20))) (l20 : K.lookup f20 = some ⟨oc20, od20, .func (PySem.W.fnOf "figures_of" "figures_of" (defArgs s_figures_of) (defBody s_figures_of) (defScope s_figures_of) .none kV20 dc20 pm20 an20 cd20 ct20), sl20⟩) (c20 : PySem.W.codeIn K cd20 "figures_of" = true) (k20 : PySem.W.keepIn K (.ref f20) = true)
    (a21 : PySem.W.nsIn K mainGlobals "row_of" = some (some (.ref f21))) (l21 : K.lookup f21 = some ⟨oc21, od21, .func (PySem.W.fnOf "row_of" "row_of" (defArgs s_row_of) (defBody s_row_of) (defScope s_row_of) .none kV21 dc21 pm21 an21 cd21 ct21), sl21⟩) (c21 : PySem.W.codeIn K cd21 "row_of" = true) (k21 : PySem.W.keepIn K (.ref f21) = true)
    (a22 : PySem.W.nsIn K mainGlobals "is_long_row" = some (some (.ref f22))) (l22 : K.lookup f22 = some ⟨oc22, od22, .func (PySem.W.fnOf "is_long_row" "is_long_row" (defArgs s_is_long_row) (defBody s_is_long_row) (defScope s_is_long_row) .none kV22 dc22 pm22 an22 cd22 ct22), sl22⟩) (c22 : PySem.W.codeIn K cd22 "is_long_row" = true) (k22 : PySem.W.keepIn K (.ref f22) = true)
    (a23 : PySem.W.nsIn K mainGlobals "is_row" = some (some (.ref f23))) (l23 : K.lookup f23 = some ⟨oc23, od23, .func (PySem.W.fnOf "is_row" "is_row" (defArgs s_is_row) (defBody s_is_row) (defScope s_is_row) .none kV23 dc23 pm23 an23 cd23 ct23), sl23⟩) (c23 : PySem.W.codeIn K cd23 "is_row" = true) (k23 : PySem.W.keepIn K (.ref f23) = true)
    (a24 : PySem.W.nsIn K mainGlobals "check_row" = some (some (.ref f24))) (l24 : K.lookup f24 = some ⟨oc24, od24, .func (PySem.W.fnOf "check_row" "check_row" (defArgs s_check_row) (defBody s_check_row) (defScope s_check_row) .none kV24 dc24 pm24 an24 cd24 ct24), sl24⟩) (c24 : PySem.W.codeIn K cd24 "check_row" = true) (k24 : PySem.W.keepIn K (.ref f24) = true)
    (a25 : PySem.W.nsIn K mainGlobals "number_of" = some (some (.ref f25))) (l25 : K.lookup f25 = some ⟨oc25, od25, .func (PySem.W.fnOf "number_of" "number_of" (defArgs s_number_of) (defBody s_number_of) (defScope s_number_of) .none kV25 dc25 pm25 an25 cd25 ct25), sl25⟩) (c25 : PySem.W.codeIn K cd25 "number_of" = true) (k25 : PySem.W.keepIn K (.ref f25) = true)
    (a26 : PySem.W.nsIn K mainGlobals "whole_of" = some (some (.ref f26))) (l26 : K.lookup f26 = some ⟨oc26, od26, .func (PySem.W.fnOf "whole_of" "whole_of" (defArgs s_whole_of) (defBody s_whole_of) (defScope s_whole_of) .none kV26 dc26 pm26 an26 cd26 ct26), sl26⟩) (c26 : PySem.W.codeIn K cd26 "whole_of" = true) (k26 : PySem.W.keepIn K (.ref f26) = true)
    (a27 : PySem.W.nsIn K mainGlobals "table" = some (some (.ref f27))) (l27 : K.lookup f27 = some ⟨oc27, od27, .func (PySem.W.fnOf "table" "table" (defArgs s_table) (defBody s_table) (defScope s_table) .none kV27 dc27 pm27 an27 cd27 ct27), sl27⟩) (c27 : PySem.W.codeIn K cd27 "table" = true) (k27 : PySem.W.keepIn K (.ref f27) = true)
    (a28 : PySem.W.nsIn K mainGlobals "faults" = some (some (.ref f28))) (l28 : K.lookup f28 = some ⟨oc28, od28, .func (PySem.W.fnOf "faults" "faults" (defArgs s_faults) (defBody s_faults) (defScope s_faults) .none kV28 dc28 pm28 an28 cd28 ct28), sl28⟩) (c28 : PySem.W.codeIn K cd28 "faults" = true) (k28 : PySem.W.keepIn K (.ref f28) = true)
    (a29 : PySem.W.nsIn K mainGlobals "law" = some (some (.ref f29))) (l29 : K.lookup f29 = some ⟨oc29, od29, .func (PySem.W.fnOf "law" "law" (defArgs s_law) (defBody s_law) (defScope s_law) .none kV29 dc29 pm29 an29 cd29 ct29), sl29⟩) (c29 : PySem.W.codeIn K cd29 "law" = true) (k29 : PySem.W.keepIn K (.ref f29) = true)
    (z_bool : PySem.W.nsIn K mainGlobals "bool" = some none)
    (z_divmod : PySem.W.nsIn K mainGlobals "divmod" = some none)
    (z_enumerate : PySem.W.nsIn K mainGlobals "enumerate" = some none)
    (z_int : PySem.W.nsIn K mainGlobals "int" = some none)
    (z_isinstance : PySem.W.nsIn K mainGlobals "isinstance" = some none)
    (z_len : PySem.W.nsIn K mainGlobals "len" = some none)
    (z_list : PySem.W.nsIn K mainGlobals "list" = some none)
    (z_max : PySem.W.nsIn K mainGlobals "max" = some none)
    (z_min : PySem.W.nsIn K mainGlobals "min" = some none)
    (z_range : PySem.W.nsIn K mainGlobals "range" = some none)
    (z_reversed : PySem.W.nsIn K mainGlobals "reversed" = some none)
    (z_str : PySem.W.nsIn K mainGlobals "str" = some none)
    (z_sum : PySem.W.nsIn K mainGlobals "sum" = some none)
    (z_tuple : PySem.W.nsIn K mainGlobals "tuple" = some none)
    (z_zip : PySem.W.nsIn K mainGlobals "zip" = some none)
    (c_SORTS : PySem.W.nsIn K mainGlobals "SORTS" = some (some (.ref a_SORTS))) (l_SORTS : (a_SORTS == sysModules) = false) (k_SORTS : K.lookup a_SORTS = some ⟨.type "dict", none, .dict #[⟨PyData.keyHash w.params "figure", .str "figure" t_SORTS_0, .ref f16⟩, ⟨PyData.keyHash w.params "left", .str "left" t_SORTS_1, .ref f15⟩, ⟨PyData.keyHash w.params "twice", .str "twice" t_SORTS_2, .ref f18⟩, ⟨PyData.keyHash w.params "joined", .str "joined" t_SORTS_3, .ref f14⟩, ⟨PyData.keyHash w.params "swapped", .str "swapped" t_SORTS_4, .ref f17⟩] n_SORTS, #[]⟩) (n_SORTS_0 : PySem.W.nsIn K a_SORTS "figure" = some (some (.ref f16))) (n_SORTS_1 : PySem.W.nsIn K a_SORTS "left" = some (some (.ref f15))) (n_SORTS_2 : PySem.W.nsIn K a_SORTS "twice" = some (some (.ref f18))) (n_SORTS_3 : PySem.W.nsIn K a_SORTS "joined" = some (some (.ref f14))) (n_SORTS_4 : PySem.W.nsIn K a_SORTS "swapped" = some (some (.ref f17)))
    (c_MOST_FIGURES : PySem.W.nsIn K mainGlobals "MOST_FIGURES" = some (some (.int 12 t_MOST_FIGURES)))
    (c_MULTIPLES : PySem.W.nsIn K mainGlobals "MULTIPLES" = some (some (.ref a_MULTIPLES))) (k_MULTIPLES : K.lookup a_MULTIPLES = some ⟨.type "tuple", o_MULTIPLES, .seq #[.int 1 t_MULTIPLES_0, .int 2 t_MULTIPLES_1, .int 3 t_MULTIPLES_2, .int 4 t_MULTIPLES_3, .int 5 t_MULTIPLES_4, .int 6 t_MULTIPLES_5, .int 7 t_MULTIPLES_6, .int 8 t_MULTIPLES_7, .int 9 t_MULTIPLES_8, .int 10 t_MULTIPLES_9, .int 11 t_MULTIPLES_10, .int 12 t_MULTIPLES_11, .int 13 t_MULTIPLES_12, .int 14 t_MULTIPLES_13, .int 15 t_MULTIPLES_14, .int 16 t_MULTIPLES_15, .int 17 t_MULTIPLES_16, .int 18 t_MULTIPLES_17, .int 19 t_MULTIPLES_18, .int 20 t_MULTIPLES_19, .int 30 t_MULTIPLES_20, .int 40 t_MULTIPLES_21, .int 50 t_MULTIPLES_22] n_MULTIPLES, s_MULTIPLES⟩)
    (ea_BadRow : PySem.W.nsIn K mainGlobals "BadRow" = some (some (.ref C_BadRow))) (ep_BadRow : PySem.W.excIn K C_BadRow [.type "ValueError", .type "Exception", .type "BaseException", .type "object"] "ValueError.__new__" = true) (ek_BadRow : PySem.W.keepIn K (.ref C_BadRow) = true) (eb_BadRow : PySem.W.subIn K (.ref C_BadRow) (.type "BaseException") = some true) (ety_BadRow : PySem.W.typeIn K (.ref C_BadRow) = some (.type "type")) :
    ∃ fd : FuncData, (∀ (s : Shared) (v : Value), BindsTo s fd ⟨[v], []⟩ [("_law_script", v)]) ∧ ∀ base : Heap, K.In base → base.Ns mainGlobals mg → FnOk l.prog w K mg base CX0 9 fa fd ["_law_script"] (lawSp K) := by
  have e := hfa.symm.trans (PySem.W.mg_of X G a29)
  cases e
  have F0 := fun_mk (st := s__law_dice) l0 c0 k0
  have F1 := fun_mk (st := s__law_next) l1 c1 k1
  have F2 := fun_mk (st := s__law_row) l2 c2 k2
  have F3 := fun_mk (st := s__law_smooth) l3 c3 k3
  have F4 := fun_mk (st := s__law_drawn) l4 c4 k4
  have F5 := fun_mk (st := s__law_made) l5 c5 k5
  have F6 := fun_mk (st := s__law_slips) l6 c6 k6
  have F7 := fun_mk (st := s__law_numbers) l7 c7 k7
  have F8 := fun_mk (st := s__law_whole_of) l8 c8 k8
  have F9 := fun_mk (st := s__law_table) l9 c9 k9
  have F10 := fun_mk (st := s__law_faults) l10 c10 k10
  have F11 := fun_mk (st := s__law_like) l11 c11 k11
  have F12 := fun_mk (st := s__law_spoilt) l12 c12 k12
  have F13 := fun_mk (st := s__law_wrong) l13 c13 k13
  have F14 := fun_mk (st := s_is_joined) l14 c14 k14
  have F15 := fun_mk (st := s_is_left_out) l15 c15 k15
  have F16 := fun_mk (st := s_is_other_figure) l16 c16 k16
  have F17 := fun_mk (st := s_is_swapped) l17 c17 k17
  have F18 := fun_mk (st := s_is_twice) l18 c18 k18
  have F19 := fun_mk (st := s_slips_between) l19 c19 k19
  have F20 := fun_mk (st := s_figures_of) l20 c20 k20
  have F21 := fun_mk (st := s_row_of) l21 c21 k21
  have F22 := fun_mk (st := s_is_long_row) l22 c22 k22
  have F23 := fun_mk (st := s_is_row) l23 c23 k23
  have F24 := fun_mk (st := s_check_row) l24 c24 k24
  have F25 := fun_mk (st := s_number_of) l25 c25 k25
  have F26 := fun_mk (st := s_whole_of) l26 c26 k26
  have F27 := fun_mk (st := s_table) l27 c27 k27
  have F28 := fun_mk (st := s_faults) l28 c28 k28
  have F29 := fun_mk (st := s_law) l29 c29 k29
  let T : Tx l.prog w K mg := {
    a__law_dice := f0,
    d__law_dice := _,
    F__law_dice := F0,
    g__law_dice := PySem.W.mg_of X G a0,
    b__law_dice := F0.binds (ps := ["_law_script"]) (fun _ _ _ _ _ _ us hl => match us, hl with | [_], _ => rfl),
    a__law_next := f1,
    d__law_next := _,
    F__law_next := F1,
    g__law_next := PySem.W.mg_of X G a1,
    b__law_next := F1.binds (ps := ["_law_dice_here", "_law_many"]) (fun _ _ _ _ _ _ us hl => match us, hl with | [_, _], _ => rfl),
    a__law_row := f2,
    d__law_row := _,
    F__law_row := F2,
    g__law_row := PySem.W.mg_of X G a2,
    b__law_row := F2.binds (ps := ["_law_number"]) (fun _ _ _ _ _ _ us hl => match us, hl with | [_], _ => rfl),
    a__law_smooth := f3,
    d__law_smooth := _,
    F__law_smooth := F3,
    g__law_smooth := PySem.W.mg_of X G a3,
    b__law_smooth := F3.binds (ps := ["_law_d"]) (fun _ _ _ _ _ _ us hl => match us, hl with | [_], _ => rfl),
    a__law_drawn := f4,
    d__law_drawn := _,
    F__law_drawn := F4,
    g__law_drawn := PySem.W.mg_of X G a4,
    b__law_drawn := F4.binds (ps := ["_law_d", "_law_most"]) (fun _ _ _ _ _ _ us hl => match us, hl with | [_, _], _ => rfl),
    a__law_made := f5,
    d__law_made := _,
    F__law_made := F5,
    g__law_made := PySem.W.mg_of X G a5,
    b__law_made := F5.binds (ps := ["_law_row_here", "_law_kind", "_law_at"]) (fun _ _ _ _ _ _ us hl => match us, hl with | [_, _, _], _ => rfl),
    a__law_slips := f6,
    d__law_slips := _,
    F__law_slips := F6,
    g__law_slips := PySem.W.mg_of X G a6,
    b__law_slips := F6.binds (ps := ["_law_row_here", "_law_told"]) (fun _ _ _ _ _ _ us hl => match us, hl with | [_, _], _ => rfl),
    a__law_numbers := f7,
    d__law_numbers := _,
    F__law_numbers := F7,
    g__law_numbers := PySem.W.mg_of X G a7,
    b__law_numbers := F7.binds (ps := []) (fun _ _ _ _ _ _ us hl => match us, hl with | [], _ => rfl),
    a__law_whole_of := f8,
    d__law_whole_of := _,
    F__law_whole_of := F8,
    g__law_whole_of := PySem.W.mg_of X G a8,
    b__law_whole_of := F8.binds (ps := ["_law_row_here"]) (fun _ _ _ _ _ _ us hl => match us, hl with | [_], _ => rfl),
    a__law_table := f9,
    d__law_table := _,
    F__law_table := F9,
    g__law_table := PySem.W.mg_of X G a9,
    b__law_table := F9.binds (ps := ["_law_head"]) (fun _ _ _ _ _ _ us hl => match us, hl with | [_], _ => rfl),
    a__law_faults := f10,
    d__law_faults := _,
    F__law_faults := F10,
    g__law_faults := PySem.W.mg_of X G a10,
    b__law_faults := F10.binds (ps := ["_law_head", "_law_rows"]) (fun _ _ _ _ _ _ us hl => match us, hl with | [_, _], _ => rfl),
    a__law_like := f11,
    d__law_like := _,
    F__law_like := F11,
    g__law_like := PySem.W.mg_of X G a11,
    b__law_like := F11.binds (ps := ["_law_found", "_law_due"]) (fun _ _ _ _ _ _ us hl => match us, hl with | [_, _], _ => rfl),
    a__law_spoilt := f12,
    d__law_spoilt := _,
    F__law_spoilt := F12,
    g__law_spoilt := PySem.W.mg_of X G a12,
    b__law_spoilt := F12.binds (ps := ["_law_d", "_law_row_here"]) (fun _ _ _ _ _ _ us hl => match us, hl with | [_, _], _ => rfl),
    a__law_wrong := f13,
    d__law_wrong := _,
    F__law_wrong := F13,
    g__law_wrong := PySem.W.mg_of X G a13,
    b__law_wrong := F13.binds (ps := ["_law_d", "_law_rows", "_law_most"]) (fun _ _ _ _ _ _ us hl => match us, hl with | [_, _, _], _ => rfl),
    a_is_joined := f14,
    d_is_joined := _,
    F_is_joined := F14,
    g_is_joined := PySem.W.mg_of X G a14,
    b_is_joined := F14.binds (ps := ["due", "told", "at"]) (fun _ _ _ _ _ _ us hl => match us, hl with | [_, _, _], _ => rfl),
    a_is_left_out := f15,
    d_is_left_out := _,
    F_is_left_out := F15,
    g_is_left_out := PySem.W.mg_of X G a15,
    b_is_left_out := F15.binds (ps := ["due", "told", "at"]) (fun _ _ _ _ _ _ us hl => match us, hl with | [_, _, _], _ => rfl),
    a_is_other_figure := f16,
    d_is_other_figure := _,
    F_is_other_figure := F16,
    g_is_other_figure := PySem.W.mg_of X G a16,
    b_is_other_figure := F16.binds (ps := ["due", "told", "at"]) (fun _ _ _ _ _ _ us hl => match us, hl with | [_, _, _], _ => rfl),
    a_is_swapped := f17,
    d_is_swapped := _,
    F_is_swapped := F17,
    g_is_swapped := PySem.W.mg_of X G a17,
    b_is_swapped := F17.binds (ps := ["due", "told", "at"]) (fun _ _ _ _ _ _ us hl => match us, hl with | [_, _, _], _ => rfl),
    a_is_twice := f18,
    d_is_twice := _,
    F_is_twice := F18,
    g_is_twice := PySem.W.mg_of X G a18,
    b_is_twice := F18.binds (ps := ["due", "told", "at"]) (fun _ _ _ _ _ _ us hl => match us, hl with | [_, _, _], _ => rfl),
    a_slips_between := f19,
    d_slips_between := _,
    F_slips_between := F19,
    g_slips_between := PySem.W.mg_of X G a19,
    b_slips_between := F19.binds (ps := ["due", "told"]) (fun _ _ _ _ _ _ us hl => match us, hl with | [_, _], _ => rfl),
    a_figures_of := f20,
    d_figures_of := _,
    F_figures_of := F20,
    g_figures_of := PySem.W.mg_of X G a20,
    b_figures_of := F20.binds (ps := ["number"]) (fun _ _ _ _ _ _ us hl => match us, hl with | [_], _ => rfl),
    a_row_of := f21,
    d_row_of := _,
    F_row_of := F21,
    g_row_of := PySem.W.mg_of X G a21,
    b_row_of := F21.binds (ps := ["number"]) (fun _ _ _ _ _ _ us hl => match us, hl with | [_], _ => rfl),
    a_is_long_row := f22,
    d_is_long_row := _,
    F_is_long_row := F22,
    g_is_long_row := PySem.W.mg_of X G a22,
    b_is_long_row := F22.binds (ps := ["figures"]) (fun _ _ _ _ _ _ us hl => match us, hl with | [_], _ => rfl),
    a_is_row := f23,
    d_is_row := _,
    F_is_row := F23,
    g_is_row := PySem.W.mg_of X G a23,
    b_is_row := F23.binds (ps := ["figures"]) (fun _ _ _ _ _ _ us hl => match us, hl with | [_], _ => rfl),
    a_check_row := f24,
    d_check_row := _,
    F_check_row := F24,
    g_check_row := PySem.W.mg_of X G a24,
    b_check_row := F24.binds (ps := ["row"]) (fun _ _ _ _ _ _ us hl => match us, hl with | [_], _ => rfl),
    a_number_of := f25,
    d_number_of := _,
    F_number_of := F25,
    g_number_of := PySem.W.mg_of X G a25,
    b_number_of := F25.binds (ps := ["figures"]) (fun _ _ _ _ _ _ us hl => match us, hl with | [_], _ => rfl),
    a_whole_of := f26,
    d_whole_of := _,
    F_whole_of := F26,
    g_whole_of := PySem.W.mg_of X G a26,
    b_whole_of := F26.binds (ps := ["row"]) (fun _ _ _ _ _ _ us hl => match us, hl with | [_], _ => rfl),
    a_table := f27,
    d_table := _,
    F_table := F27,
    g_table := PySem.W.mg_of X G a27,
    b_table := F27.binds (ps := ["head"]) (fun _ _ _ _ _ _ us hl => match us, hl with | [_], _ => rfl),
    a_faults := f28,
    d_faults := _,
    F_faults := F28,
    g_faults := PySem.W.mg_of X G a28,
    b_faults := F28.binds (ps := ["head", "rows"]) (fun _ _ _ _ _ _ us hl => match us, hl with | [_, _], _ => rfl),
    a_law := fa,
    d_law := _,
    F_law := F29,
    g_law := PySem.W.mg_of X G a29,
    b_law := F29.binds (ps := ["_law_script"]) (fun _ _ _ _ _ _ us hl => match us, hl with | [_], _ => rfl),
    z_bool := PySem.W.mg_none_of X G z_bool,
    z_divmod := PySem.W.mg_none_of X G z_divmod,
    z_enumerate := PySem.W.mg_none_of X G z_enumerate,
    z_int := PySem.W.mg_none_of X G z_int,
    z_isinstance := PySem.W.mg_none_of X G z_isinstance,
    z_len := PySem.W.mg_none_of X G z_len,
    z_list := PySem.W.mg_none_of X G z_list,
    z_max := PySem.W.mg_none_of X G z_max,
    z_min := PySem.W.mg_none_of X G z_min,
    z_range := PySem.W.mg_none_of X G z_range,
    z_reversed := PySem.W.mg_none_of X G z_reversed,
    z_str := PySem.W.mg_none_of X G z_str,
    z_sum := PySem.W.mg_none_of X G z_sum,
    z_tuple := PySem.W.mg_none_of X G z_tuple,
    z_zip := PySem.W.mg_none_of X G z_zip,
    c_SORTS := ⟨_, PySem.W.mg_of X G c_SORTS, L2.kwr_mk [("figure", f16, t_SORTS_0), ("left", f15, t_SORTS_1), ("twice", f18, t_SORTS_2), ("joined", f14, t_SORTS_3), ("swapped", f17, t_SORTS_4)] k_SORTS l_SORTS (by intro p hp; simp only [List.mem_cons, List.not_mem_nil, or_false] at hp; rcases hp with rfl | rfl | rfl | rfl | rfl <;> assumption)⟩,
    c_MOST_FIGURES := ⟨_, PySem.W.mg_of X G c_MOST_FIGURES⟩,
    c_MULTIPLES := ⟨_, PySem.W.mg_of X G c_MULTIPLES, fun W => .ktup (vs := [.int 1, .int 2, .int 3, .int 4, .int 5, .int 6, .int 7, .int 8, .int 9, .int 10, .int 11, .int 12, .int 13, .int 14, .int 15, .int 16, .int 17, .int 18, .int 19, .int 20, .int 30, .int 40, .int 50]) (fun _ => .inr ⟨_, _, _, k_MULTIPLES, rfl, rfl, (by show 23 ≤ sizeLine; decide), .cons ⟨_, rfl⟩ (.cons ⟨_, rfl⟩ (.cons ⟨_, rfl⟩ (.cons ⟨_, rfl⟩ (.cons ⟨_, rfl⟩ (.cons ⟨_, rfl⟩ (.cons ⟨_, rfl⟩ (.cons ⟨_, rfl⟩ (.cons ⟨_, rfl⟩ (.cons ⟨_, rfl⟩ (.cons ⟨_, rfl⟩ (.cons ⟨_, rfl⟩ (.cons ⟨_, rfl⟩ (.cons ⟨_, rfl⟩ (.cons ⟨_, rfl⟩ (.cons ⟨_, rfl⟩ (.cons ⟨_, rfl⟩ (.cons ⟨_, rfl⟩ (.cons ⟨_, rfl⟩ (.cons ⟨_, rfl⟩ (.cons ⟨_, rfl⟩ (.cons ⟨_, rfl⟩ (.cons ⟨_, rfl⟩ (.nil)))))))))))))))))))))))⟩) (.cons (.int _) (.cons (.int _) (.cons (.int _) (.cons (.int _) (.cons (.int _) (.cons (.int _) (.cons (.int _) (.cons (.int _) (.cons (.int _) (.cons (.int _) (.cons (.int _) (.cons (.int _) (.cons (.int _) (.cons (.int _) (.cons (.int _) (.cons (.int _) (.cons (.int _) (.cons (.int _) (.cons (.int _) (.cons (.int _) (.cons (.int _) (.cons (.int _) (.cons (.int _) (.nil))))))))))))))))))))))))⟩,
    e := ⟨0, C_BadRow, 0, 0, 0, 0⟩,
    e_BadRow := ⟨PySem.W.mg_of X G ea_BadRow, ep_BadRow, ek_BadRow, eb_BadRow, ety_BadRow⟩ }
  exact ⟨PySem.W.fnOf "law" "law" (defArgs s_law) (defBody s_law) (defScope s_law) .none kV29 dc29 pm29 an29 cd29 ct29, fun s v => .of_eq rfl, fun base _ _ => ok_law T⟩
end Dx
open PySem PySem.W PyProof.Rows
set_option maxRecDepth 100000 in
set_option maxHeartbeats 0 in
theorem PySem.Challenge.cw_sixtyfold_k09_tables_and_faults_holds : PySem.Challenge.rw_sixtyfold_k09_tables_and_faults.Holds := by
  w_on; o_law; k_head; (case hw => w_witness2)
  k_fill
  refine L2.walk_of (l := PySem.Challenge.rw_sixtyfold_k09_tables_and_faults) (n := 63) (k := 9) (x := "_law_script") (CX := fun _ => L2.CX0) (sp := fun w => Dx.lawSp _) rfl (by decide) rfl ⟨rfl, by decide, by decide⟩ (fun w h Y => PySem.W.kIn_of Y) ?F (fun _ _ a ns hl _ hS => ⟨a, ns, rfl, hS, hl, fun _ => rfl⟩) (fun _ _ _ _ _ h => h)
  case F =>
    intro w mg fa h KX G hmg
    refine' Dx.all_mk KX G hmg ?a0 ?l0 ?c0 ?k0 ?a1 ?l1 ?c1 ?k1 ?a2 ?l2 ?c2 ?k2 ?a3 ?l3 ?c3 ?k3 ?a4 ?l4 ?c4 ?k4 ?a5 ?l5 ?c5 ?k5 ?a6 ?l6 ?c6 ?k6 ?a7 ?l7 ?c7 ?k7 ?a8 ?l8 ?c8 ?k8 ?a9 ?l9 ?c9 ?k9 ?a10 ?l10 ?c10 ?k10 ?a11 ?l11 ?c11 ?k11 ?a12 ?l12 ?c12 ?k12 ?a13 ?l13 ?c13 ?k13 ?a14 ?l14 ?c14 ?k14 ?a15 ?l15 ?c15 ?k15 ?a16 ?l16 ?c16 ?k16 ?a17 ?l17 ?c17 ?k17 ?a18 ?l18 ?c18 ?k18 ?a19 ?l19 ?c19 ?k19 ?a20 ?l20 ?c20 ?k20 ?a21 ?l21 ?c21 ?k21 ?a22 ?l22 ?c22 ?k22 ?a23 ?l23 ?c23 ?k23 ?a24 ?l24 ?c24 ?k24 ?a25 ?l25 ?c25 ?k25 ?a26 ?l26 ?c26 ?k26 ?a27 ?l27 ?c27 ?k27 ?a28 ?l28 ?c28 ?k28 ?a29 ?l29 ?c29 ?k29 ?z_bool ?z_divmod ?z_enumerate ?z_int ?z_isinstance ?z_len ?z_list ?z_max ?z_min ?z_range ?z_reversed ?z_str ?z_sum ?z_tuple ?z_zip ?c_SORTS ?l_SORTS ?k_SORTS ?n_SORTS_0 ?n_SORTS_1 ?n_SORTS_2 ?n_SORTS_3 ?n_SORTS_4 ?c_MOST_FIGURES ?c_MULTIPLES ?k_MULTIPLES ?ea_BadRow ?ep_BadRow ?ek_BadRow ?eb_BadRow ?ety_BadRow
    (case a0 => k_is)
    (case l0 => k_is)
    (case c0 => k_is)
    (case k0 => k_is)
    (case a1 => k_is)
    (case l1 => k_is)
    (case c1 => k_is)
    (case k1 => k_is)
    (case a2 => k_is)
    (case l2 => k_is)
    (case c2 => k_is)
    (case k2 => k_is)
    (case a3 => k_is)
    (case l3 => k_is)
    (case c3 => k_is)
    (case k3 => k_is)
    (case a4 => k_is)
    (case l4 => k_is)
    (case c4 => k_is)
    (case k4 => k_is)
    (case a5 => k_is)
    (case l5 => k_is)
    (case c5 => k_is)
    (case k5 => k_is)
    (case a6 => k_is)
    (case l6 => k_is)
    (case c6 => k_is)
    (case k6 => k_is)
    (case a7 => k_is)
    (case l7 => k_is)
    (case c7 => k_is)
    (case k7 => k_is)
    (case a8 => k_is)
    (case l8 => k_is)
    (case c8 => k_is)
    (case k8 => k_is)
    (case a9 => k_is)
    (case l9 => k_is)
    (case c9 => k_is)
    (case k9 => k_is)
    (case a10 => k_is)
    (case l10 => k_is)
    (case c10 => k_is)
    (case k10 => k_is)
    (case a11 => k_is)
    (case l11 => k_is)
    (case c11 => k_is)
    (case k11 => k_is)
    (case a12 => k_is)
    (case l12 => k_is)
    (case c12 => k_is)
    (case k12 => k_is)
    (case a13 => k_is)
    (case l13 => k_is)
    (case c13 => k_is)
    (case k13 => k_is)
    (case a14 => k_is)
    (case l14 => k_is)
    (case c14 => k_is)
    (case k14 => k_is)
    (case a15 => k_is)
    (case l15 => k_is)
    (case c15 => k_is)
    (case k15 => k_is)
    (case a16 => k_is)
    (case l16 => k_is)
    (case c16 => k_is)
    (case k16 => k_is)
    (case a17 => k_is)
    (case l17 => k_is)
    (case c17 => k_is)
    (case k17 => k_is)
    (case a18 => k_is)
    (case l18 => k_is)
    (case c18 => k_is)
    (case k18 => k_is)
    (case a19 => k_is)
    (case l19 => k_is)
    (case c19 => k_is)
    (case k19 => k_is)
    (case a20 => k_is)
    (case l20 => k_is)
    (case c20 => k_is)
    (case k20 => k_is)
    (case a21 => k_is)
    (case l21 => k_is)
    (case c21 => k_is)
    (case k21 => k_is)
    (case a22 => k_is)
    (case l22 => k_is)
    (case c22 => k_is)
    (case k22 => k_is)
    (case a23 => k_is)
    (case l23 => k_is)
    (case c23 => k_is)
    (case k23 => k_is)
    (case a24 => k_is)
    (case l24 => k_is)
    (case c24 => k_is)
    (case k24 => k_is)
    (case a25 => k_is)
    (case l25 => k_is)
    (case c25 => k_is)
    (case k25 => k_is)
    (case a26 => k_is)
    (case l26 => k_is)
    (case c26 => k_is)
    (case k26 => k_is)
    (case a27 => k_is)
    (case l27 => k_is)
    (case c27 => k_is)
    (case k27 => k_is)
    (case a28 => k_is)
    (case l28 => k_is)
    (case c28 => k_is)
    (case k28 => k_is)
    (case a29 => k_is)
    (case l29 => k_is)
    (case c29 => k_is)
    (case k29 => k_is)
    (case z_bool => k_is)
    (case z_divmod => k_is)
    (case z_enumerate => k_is)
    (case z_int => k_is)
    (case z_isinstance => k_is)
    (case z_len => k_is)
    (case z_list => k_is)
    (case z_max => k_is)
    (case z_min => k_is)
    (case z_range => k_is)
    (case z_reversed => k_is)
    (case z_str => k_is)
    (case z_sum => k_is)
    (case z_tuple => k_is)
    (case z_zip => k_is)
    (case c_SORTS => k_is)
    (case l_SORTS => first | rfl | decide +kernel)
    (case k_SORTS => k_is)
    (case n_SORTS_0 => k_is)
    (case n_SORTS_1 => k_is)
    (case n_SORTS_2 => k_is)
    (case n_SORTS_3 => k_is)
    (case n_SORTS_4 => k_is)
    (case c_MOST_FIGURES => k_is)
    (case c_MULTIPLES => k_is)
    (case k_MULTIPLES => k_is)
    (case ea_BadRow => k_is)
    (case ep_BadRow => k_exc)
    (case ek_BadRow => k_is)
    (case eb_BadRow => k_is)
    (case ety_BadRow => k_is)

end
