import PyProof.Rows.All
import Wide.All
import OpenK.AllK
import Wide.FinOn
import HandS.ForMost
import HandS.Evl
import HandS.Star
import HandS.IsInst
import HandS.Codes
import HandS.Style
import KE.KDictKeyed
import KE.KDictLaw
import KE.KDictDisplayH
import KE.KDictCopyH
import KE.KDictSum
import KE.SortData
import PyProof.DictRoadsH
import PyProof.Rows.SeqRoads
import HandS.Sort
import KE.KDictWalk
import PyProof.DictMoreH
import HandS.Strs
import KE.KMinBuiltin
import PyProof.Rows.CallKwBuiltin
import HandS.ForExc
import HandS.ExcIs
import HandS.Zip
import HandS.Deep
import PyProof.ListStr
import PyProof.CollectStr
import PySem.Challenge.RW_fieldoffers_k03_whole_records
set_option Elab.async false
set_option linter.all false
set_option maxRecDepth 100000
set_option maxHeartbeats 8000000
/-! Dicts whose keys are nested tuples, over the hand layer. -/
namespace DR
open PySem PySem.Spec PyProof.Rows L2
/-- the value v is, in the heap H, the key k -/
inductive NK (K : PySem.W.Frag) (H : Hp) : V → NestedKey → Prop
  | num (i : Int) : NK K H (.int i) (.num i)
  | text (x : Str) : NK K H (.str x) (.text x)
  | tup {a : Addr} {xs : List V} {ks : List NestedKey} : SqT K H a xs → Paired (NK K H) xs ks → NK K H (.ref a) (.tup ks)
/-- an entry: its key, the key's place, its value -/
abbrev Ent := NestedKey × Addr × V
def EntR (x : Ent) (y : NestedKey × Addr × Value) : Prop := x.1 = y.1 ∧ x.2.1 = y.2.1 ∧ RelV x.2.2 y.2.2
/-- a dict's own object: its entries -/
structure DT0 (P : Program) (w : World) (h : Heap) (d : Addr) (xs : List Ent) : Prop where
  low : (d == sysModules) = false
  ex : ∃ ys, Paired EntR xs ys ∧ ∃ o es ep, h.get? d = some o ∧ o.ExactDict ∧ o.data = .dict es ep ∧ es.toList = ys.map (entryOfKey (nestedKind P w))
  nd : (xs.map (·.1)).Nodup
  sz : xs.length ≤ 1000000
def DO (P : Program) (w : World) (d : Addr) (xs : List Ent) : HO := .ext fun h => DT0 P w h d xs
theorem entR_keys : ∀ {xs : List Ent} {ys : List (NestedKey × Addr × Value)}, Paired EntR xs ys → ys.map (·.1) = xs.map (·.1)
  | _, _, .nil => rfl
  | _, _, .cons h t => by rw [List.map_cons, List.map_cons, entR_keys t, h.1]
theorem entR_mem : ∀ {xs : List Ent} {ys : List (NestedKey × Addr × Value)}, Paired EntR xs ys → ∀ y ∈ ys, ∃ x ∈ xs, EntR x y
  | _, _, .nil, y, h => by cases h
  | _, _, .cons h t, y, hy => by
    rcases List.mem_cons.mp hy with rfl | hy
    · exact ⟨_, List.mem_cons_self .., h⟩
    · obtain ⟨x, hx, r⟩ := entR_mem t y hy
      exact ⟨x, List.mem_cons_of_mem _ hx, r⟩
theorem entR_mem2 : ∀ {xs : List Ent} {ys : List (NestedKey × Addr × Value)}, Paired EntR xs ys → ∀ x ∈ xs, ∃ y ∈ ys, EntR x y
  | _, _, .nil, y, h => by cases h
  | _, _, .cons h t, y, hy => by
    rcases List.mem_cons.mp hy with rfl | hy
    · exact ⟨_, List.mem_cons_self .., h⟩
    · obtain ⟨x, hx, r⟩ := entR_mem2 t y hy
      exact ⟨x, List.mem_cons_of_mem _ hx, r⟩
theorem entR_app : ∀ {xs xs' : List Ent} {ys ys' : List (NestedKey × Addr × Value)}, Paired EntR xs ys → Paired EntR xs' ys' → Paired EntR (xs ++ xs') (ys ++ ys')
  | _, _, _, _, .nil, s => s
  | _, _, _, _, .cons h t, s => .cons h (entR_app t s)
theorem entR_len : ∀ {xs : List Ent} {ys : List (NestedKey × Addr × Value)}, Paired EntR xs ys → ys.length = xs.length
  | _, _, .nil => rfl
  | _, _, .cons h t => congrArg (· + 1) (entR_len t)
/-- the entries behind d[k] = c, the key at a -/
def stE (xs : List Ent) (k : NestedKey) (a : Addr) (c : V) : List Ent := if k ∈ xs.map (·.1) then xs.map fun x => if x.1 = k then (x.1, x.2.1, c) else x else xs ++ [(k, a, c)]
theorem atKey_no {ys : List (NestedKey × Addr × Value)} {k : NestedKey} (h : k ∉ ys.map (·.1)) : atKey ys k = none := by
  unfold atKey
  rw [Option.map_eq_none_iff, List.find?_eq_none]
  intro x hx e
  exact h (List.mem_map.mpr ⟨x, hx, of_decide_eq_true e⟩)
theorem atKey_yes {ys : List (NestedKey × Addr × Value)} {k : NestedKey} (h : k ∈ ys.map (·.1)) : (atKey ys k).isSome = true := by
  unfold atKey
  rw [Option.isSome_map, List.find?_isSome]
  obtain ⟨x, hx, rfl⟩ := List.mem_map.mp h
  exact ⟨x, hx, decide_eq_true rfl⟩
theorem atKey_mem : ∀ {ys : List (NestedKey × Addr × Value)} {k : NestedKey} {p : Addr × Value}, (ys.map (·.1)).Nodup → (k, p) ∈ ys → atKey ys k = some p
  | [], k, p, _, h => by cases h
  | y :: ys, k, p, nd, h => by
    rw [List.map_cons, List.nodup_cons] at nd
    unfold atKey
    rcases List.mem_cons.mp h with rfl | h
    · rw [List.find?_cons_of_pos (by exact decide_eq_true rfl)]
      rfl
    · rw [List.find?_cons_of_neg (by
        intro e
        exact nd.1 (List.mem_map.mpr ⟨_, h, (of_decide_eq_true e).symm⟩))]
      exact atKey_mem nd.2 h
theorem entR_put {k : NestedKey} {c : V} {u : Value} (r : RelV c u) : ∀ {xs : List Ent} {ys : List (NestedKey × Addr × Value)}, Paired EntR xs ys → Paired EntR (xs.map fun x => if x.1 = k then (x.1, x.2.1, c) else x) (ys.map (putAt k u))
  | _, _, .nil => .nil
  | x :: xs, y :: ys, .cons h t => by
    rw [List.map_cons, List.map_cons]
    refine .cons ?_ (entR_put r t)
    unfold putAt
    by_cases e : x.1 = k
    · rw [if_pos e, if_pos (h.1 ▸ e)]
      exact ⟨h.1, h.2.1, r⟩
    · rw [if_neg e, if_neg (h.1 ▸ e)]
      exact h
theorem entR_st {xs : List Ent} {ys : List (NestedKey × Addr × Value)} {k : NestedKey} {a : Addr} {c : V} {u : Value} (h : Paired EntR xs ys) (r : RelV c u) : Paired EntR (stE xs k a c) (storedH ys k a u) := by
  unfold stE storedH
  by_cases e : k ∈ xs.map (·.1)
  · rw [if_pos e, if_pos (atKey_yes (by rw [entR_keys h]; exact e))]
    exact entR_put r h
  · rw [if_neg e, if_neg (by rw [atKey_no (by rw [entR_keys h]; exact e)]; exact Bool.false_ne_true)]
    exact entR_app h (.cons ⟨rfl, rfl, r⟩ .nil)
theorem stE_keys {xs : List Ent} {k : NestedKey} {a : Addr} {c : V} : (stE xs k a c).map (·.1) = if k ∈ xs.map (·.1) then xs.map (·.1) else xs.map (·.1) ++ [k] := by
  unfold stE
  split
  · rw [List.map_map]
    refine List.map_congr_left fun x _ => ?_
    show (if x.1 = k then (x.1, x.2.1, c) else x).1 = x.1
    split <;> rfl
  · rw [List.map_append]; rfl
theorem stE_len {xs : List Ent} {k : NestedKey} {a : Addr} {c : V} : (stE xs k a c).length ≤ xs.length + 1 := by
  unfold stE
  split
  · rw [List.length_map]; omega
  · rw [List.length_append]; exact Nat.le_refl _
section
variable {X : Cx} {pins : List (Addr × Obj)} {σ : L2.St} {H : Hp} {s : Shared}
theorem nk_is (I : L2.Inv X pins σ H s) : ∀ (k : NestedKey) (v : V) (u : Value), NK X.K H v k → RelV v u → NestedIs s.heap k u := by
  intro k
  induction k using NestedKey.rec (motive_2 := fun ks => ∀ (vs : List V) (us : List Value), Paired (NK X.K H) vs ks → Vals vs us → NestedAll s.heap ks us) with
  | none => intro v u h; cases h
  | num i =>
    intro v u h r
    cases h
    obtain ⟨t, rfl⟩ := r
    exact .int _ _
  | text x =>
    intro v u h r
    cases h
    obtain ⟨t, rfl⟩ := r
    exact .text _ _
  | tup ks ih =>
    intro v u h r
    cases h with
    | tup hs hk =>
      cases r
      obtain ⟨its, rv, ⟨o, ho, hc, n, hd⟩, _⟩ := I.tuple hs
      exact .tup ho hc hd (by have := ih _ _ hk rv; simpa using this)
  | nil =>
    rename_i vs us h r
    cases h
    cases r
    exact .nil
  | cons k ks ih1 ih2 =>
    rename_i vs us h r
    cases h with
    | cons h1 h2 =>
      cases r with
      | cons r1 r2 => exact .cons (ih1 _ _ h1 r1) (ih2 _ _ h2 r2)
/-- the keys of the dict stand -/
def KeysOk (K : PySem.W.Frag) (H : Hp) (xs : List Ent) : Prop := ∀ e ∈ xs, NK K H (.ref e.2.1) e.1 ∧ e.1.depth ≤ 8
theorem do_of {d : Addr} {xs : List Ent} (I : L2.Inv X pins σ H s) (hd : H d = some (DO X.prog X.w d xs)) (hk : KeysOk X.K H xs) : DT0 X.prog X.w s.heap d xs ∧ ∃ ys, Paired EntR xs ys ∧ s.heap.DictOfH (nestedKind X.prog X.w) d ys := by
  have h0 := I.hok d _ hd
  unfold DO ObjOk at h0
  obtain ⟨h1, _⟩ := h0
  refine ⟨h1, ?_⟩
  obtain ⟨low, ⟨ys, pr, o, es, ep, g, hx, hdat, hes⟩, nd, sz⟩ := h1
  refine ⟨ys, pr, o, es, ep, g, hx, hdat, hes, fun y hy => ?_, by rw [entR_keys pr]; exact nd⟩
  obtain ⟨x, hx', r⟩ := entR_mem pr y hy
  obtain ⟨h1, h2⟩ := hk x hx'
  rw [← r.1, ← r.2.1]
  exact ⟨nk_is I _ _ _ h1 rfl, h2⟩
theorem do_ok {P : Program} {w : World} {G : Hp} {h : Heap} {d : Addr} {xs : List Ent} {ys : List (NestedKey × Addr × Value)} (low : (d == sysModules) = false) (pr : Paired EntR xs ys) (hm : h.DictOfH (nestedKind P w) d ys) (sz : xs.length ≤ 1000000) : ObjOk P w G h d (DO P w d xs) := by
  obtain ⟨o, es, ep, g, hx, hdat, hes, _, nd⟩ := hm
  unfold DO ObjOk
  refine ⟨⟨low, ⟨ys, pr, o, es, ep, g, hx, hdat, hes⟩, by rw [entR_keys pr] at nd; exact nd, sz⟩, ⟨o, g⟩, fun h1 h2 p st => ?_⟩
  obtain ⟨low, ⟨ys, pr, o, es, ep, g, hx, hdat, hes⟩, nd, sz⟩ := p
  exact ⟨low, ⟨ys, pr, o, es, ep, st o g, hx, hdat, hes⟩, nd, sz⟩
def rInD (K : PySem.W.Frag) (P : Program) (w : World) (neg : Bool) : R2 := fun x y H Q => ∃ a d xs k, x = .ref a ∧ y = .ref d ∧ H d = some (DO P w d xs) ∧ KeysOk K H xs ∧ NK K H (.ref a) k ∧ k.depth ≤ 8 ∧ Q (.bl (if neg then !(xs.map (·.1)).contains k else (xs.map (·.1)).contains k)) H
theorem at_b {ys : List (NestedKey × Addr × Value)} {k : NestedKey} : (atKey ys k).isSome = (ys.map (·.1)).contains k := by
  rw [Bool.eq_iff_iff, List.contains_iff_mem]
  constructor
  · intro h
    by_cases z : k ∈ ys.map (·.1)
    · exact z
    · rw [atKey_no z] at h; cases h
  · exact atKey_yes
theorem op_inD (hu : X.A.units + 64 < cLine) : OpR X (compareOp .In) (rInD X.K X.prog X.w false) := by
  intro pins s σ H x y v u Q I rx ry ⟨a, d, xs, k, hx, hy, hd, hks, hk, hdep, q⟩
  subst hx hy
  cases rx
  cases ry
  obtain ⟨d0, ys, pr, hm⟩ := do_of I hd hks
  refine wpAny_in_heap (knd := nestedKind X.prog X.w) (by show X.A.units + 1 + 8 < cLine; omega) ⟨nk_is I _ _ _ hk rfl, hdep⟩ d0.low hm ⟨.bl _, H, I.kept fun b u h => h, rfl, ?_⟩
  rw [at_b, entR_keys pr]
  exact q
theorem op_notInD (hu : X.A.units + 64 < cLine) : OpR X (compareOp .NotIn) (rInD X.K X.prog X.w true) := by
  intro pins s σ H x y v u Q I rx ry ⟨a, d, xs, k, hx, hy, hd, hks, hk, hdep, q⟩
  subst hx hy
  cases rx
  cases ry
  obtain ⟨d0, ys, pr, hm⟩ := do_of I hd hks
  refine notIn_keyed (knd := nestedKind X.prog X.w) (by show X.A.units + 1 + 8 < cLine; omega) ⟨nk_is I _ _ _ hk rfl, hdep⟩ d0.low ⟨ys, hm, rfl⟩ ⟨.bl _, H, I.kept fun b u h => h, rfl, ?_⟩
  rw [valueAt_pairsH, Option.isSome_map, at_b, entR_keys pr]
  exact q
def rIxD (K : PySem.W.Frag) (P : Program) (w : World) : R2 := fun x y H Q => ∃ a d xs k b c, x = .ref d ∧ y = .ref a ∧ H d = some (DO P w d xs) ∧ KeysOk K H xs ∧ NK K H (.ref a) k ∧ k.depth ≤ 8 ∧ (k, b, c) ∈ xs ∧ Q c H
theorem ix_D (hu : X.A.units + 64 < cLine) : IxR X (rIxD X.K X.prog X.w) := by
  intro value slice pins s σ H x y v u Q I rx ry ⟨a, d, xs, k, b, c, hx, hy, hd, hks, hk, hdep, hm, q⟩ he
  subst hx hy
  cases rx
  cases ry
  obtain ⟨d0, ys, pr, hkd⟩ := do_of I hd hks
  obtain ⟨y, hy, ye⟩ := entR_mem2 pr _ hm
  obtain ⟨k', b', u⟩ := y
  obtain ⟨e1, e2, ru⟩ := ye
  simp only at e1 e2 ru
  subst e1 e2
  have hv : atKey ys k = some (b, u) := atKey_mem (by rw [entR_keys pr]; exact d0.nd) hy
  exact subscriptTail_builtinR (T := "dict") (id := "dict.__getitem__") (x := u) hkd.typeIs rfl (wpAny_getItem_heap (knd := nestedKind X.prog X.w) (by show X.A.units + 1 + 8 < cLine; omega) ⟨nk_is I _ _ _ hk rfl, hdep⟩ hkd hv ⟨rfl, c, H, I.kept fun b u h => h, ru, q⟩) he
def rLenD (K : PySem.W.Frag) (P : Program) (w : World) : List V → Hp → VK → Prop := fun vs H Q => ∃ d xs, vs = [.ref d] ∧ H d = some (DO P w d xs) ∧ KeysOk K H xs ∧ Q (.int (xs.length : Int)) H
theorem call_lenD : CallR X (.builtin "len") (rLenD X.K X.prog X.w) := by
  intro pins s σ H vs us Q I r ⟨d, xs, hv, hd, hks, q⟩
  subst hv
  rw [Vals.ref1 r]
  obtain ⟨d0, ys, pr, hm⟩ := do_of I hd hks
  have hl := entR_len pr
  have hsz := d0.sz
  refine PyProof.Rows.call_len_slot (n := xs.length) hm.typeIs F.slot_dict_len (fun Q' hq => len_keyed d0.low ⟨ys, hm, rfl⟩ (by rw [pairsH_length, hl]; exact hq)) (by omega) (by omega) ⟨.int (xs.length : Int), H, I.kept fun b u h => h, ⟨_, rfl⟩, q⟩
def rSetD (K : PySem.W.Frag) (P : Program) (w : World) : L2.TSet := fun o i v H Q => ∃ a d xs k, o = .ref d ∧ i = .ref a ∧ H d = some (DO P w d xs) ∧ KeysOk K H xs ∧ NK K H (.ref a) k ∧ k.depth ≤ 8 ∧ xs.length < 1000000 ∧ Q (upd H d (DO P w d (stE xs k a v)))
theorem set_D (hu : X.A.units + 64 < cLine) : PSet X (rSetD X.K X.prog X.w) := by
  intro pins s σ H o i v ov iv u Q I ro ri rv ⟨a, d, xs, k, ho, hi, hd, hks, hk, hdep, hsz, q⟩
  subst ho hi
  cases ro
  cases ri
  obtain ⟨d0, ys, pr, hm⟩ := do_of I hd hks
  refine wpAny_setItem_heap (knd := nestedKind X.prog X.w) (by show X.A.units + 1 + 8 < cLine; omega) ⟨nk_is I _ _ _ hk rfl, hdep⟩ hm (fun h' hm' hs => ?_) (by rw [entR_len pr, sizeLine_eq]; omega)
  obtain ⟨o2, es2, ep2, g2, _⟩ := id hm'
  exact ⟨_, I.write (e := d) (by rw [hd]; exact trivial) (.inl rfl) (fun b u hb hg => by rw [hs.2 b hb]; exact hg) ⟨_, g2⟩ (do_ok d0.low (entR_st pr rv) hm' (Nat.le_trans stE_len hsz)), q⟩
def tDisp1 (K : PySem.W.Frag) (P : Program) (w : World) (tk tv : TE) : TE := fun σ H Q => ∀ p, H p = none → L2.tPairs [(tk, tv)] σ (upd H p (DO P w p [])) fun ps H2 => ∃ a c k, ps = [(.ref a, c)] ∧ H2 p = some (DO P w p []) ∧ NK K H2 (.ref a) k ∧ k.depth ≤ 8 ∧ Q (.ref p) (upd H2 p (DO P w p [(k, a, c)]))
theorem pe_disp1 {k v : Expr} {tk tv : TE} {pos : Pos} (hu : X.A.units + 64 < cLine) (hk : PE X k tk) (hv : PE X v tv) : PE X (.Dict [some k] [v] pos) (tDisp1 X.K X.prog X.w tk tv) := ⟨fun pins s σ H Q I h => by
  refine wpAny_Dict_any rfl rfl (by simp) (by simp) ?_
  have low : (s.heap.objs.size == sysModules) = false := by
    have hb := I.big
    rw [beq_eq_false_iff_ne]
    intro z
    rw [z] at hb
    exact Nat.lt_irrefl _ hb
  have I1 := I.laid (t' := s.toks) (a := s.heap.objs.size) (o := DO X.prog X.w s.heap.objs.size []) (h' := s.heap.push { cls := Value.type "dict", data := Data.dict #[] }) (fun b u hb => Heap.get?_push_of_some _ hb) (Nat.le_refl _) (do_ok low .nil (Heap.DictOfH.new s.heap) (by simp))
  have hp : H s.heap.objs.size = none := I.hok.fresh (Nat.le_refl _)
  refine wpAny_mono ((pps_cons hk hv pps_nil).run pins _ σ _ _ I1 (h _ hp)) (fun vs s1 hx => ?_) fun _ _ z => z
  obtain ⟨ps, H2, I2, vv, a, c, ky, rfl, hd, hn, hdep, q⟩ := hx
  obtain ⟨d0, ys, pr, hm⟩ := do_of I2 hd (fun e he => by cases he)
  cases pr
  obtain ⟨u, ev, ru⟩ : ∃ u, vs = [(Value.ref a, u)] ∧ RelV c u := by
    cases vv with
    | cons r rr =>
      cases rr
      exact ⟨_, congrArg (· :: []) (Prod.ext r.1 rfl), r.2⟩
  subst ev
  refine wpAny_storeAllH (knd := nestedKind X.prog X.w) (by show X.A.units + 8 < cLine; omega) [(Value.ref a, u)] [(ky, a, u)] [] s1 _ ?car hm (by show 0 + 1 ≤ _; rw [sizeLine_eq]; omega) (fun h' tk hm' hs => ?_)
  case car =>
    have := nk_is I2 _ _ _ hn rfl
    unfold CarriesH
    exact ⟨rfl, rfl, ⟨this, hdep⟩, by unfold CarriesH; trivial⟩
  obtain ⟨o2, es2, ep2, g2, _⟩ := id hm'
  exact ⟨.ref _, _, I2.write (e := s.heap.objs.size) (by rw [hd]; exact trivial) (.inl rfl) (fun b u hb hg => by rw [hs.2 b hb]; exact hg) ⟨_, g2⟩ (do_ok low (.cons ⟨rfl, rfl, ru⟩ .nil) hm' (by show 1 ≤ _; omega)), rfl, q⟩⟩
end
end DR
/-! Dicts with nested keys, further: {}, d.setdefault(k, x), list(d.values()). -/
namespace DR
open PySem PySem.Spec PyProof.Rows L2
open PySem.W (KdlSrc)
theorem paired_of {α β : Type} {F : α → β → Prop} : ∀ {xs : List α} {ys : List β}, xs.length = ys.length → (∀ (i : Nat) a b, xs[i]? = some a → ys[i]? = some b → F a b) → Paired F xs ys
  | [], [], _, _ => .nil
  | [], _ :: _, h, _ => by cases h
  | _ :: _, [], h, _ => by cases h
  | x :: xs, y :: ys, h, g => .cons (g 0 x y rfl rfl) (paired_of (by simpa using h) fun i a b ha hb => g (i + 1) a b (by simpa using ha) (by simpa using hb))
section
variable {X : Cx} {pins : List (Addr × Obj)} {σ : L2.St} {H : Hp} {s : Shared}
/-- {} -/
def tDisp0 (P : Program) (w : World) : TE := fun _ H Q => ∀ p, H p = none → Q (.ref p) (upd H p (DO P w p []))
theorem pe_disp0 {pos : Pos} : PE X (.Dict [] [] pos) (tDisp0 X.prog X.w) := ⟨fun pins s σ H Q I h => by
  have low : (s.heap.objs.size == sysModules) = false := by
    have hb := I.big
    rw [beq_eq_false_iff_ne]
    intro z
    rw [z] at hb
    exact Nat.lt_irrefl _ hb
  exact wpAny_Dict_empty ⟨.ref s.heap.objs.size, _, I.laid (a := s.heap.objs.size) (o := DO X.prog X.w s.heap.objs.size []) (t' := s.toks) (fun _ _ q => Heap.get?_push_of_some _ q) (Nat.le_refl _) (do_ok low .nil (Heap.DictOfH.new s.heap) (by simp)), rfl, h _ (I.hok.fresh (Nat.le_refl _))⟩⟩
theorem do_is {d : Addr} {xs : List Ent} (I : L2.Inv X pins σ H s) (hd : H d = some (DO X.prog X.w d xs)) : s.TypeIs (.ref d) "dict" ∧ (∀ b, Value.ref d = .ref b → ∃ ob, s.heap.get? b = some ob ∧ ob.dict = none) := by
  have h0 := I.hok d _ hd
  unfold DO ObjOk at h0
  obtain ⟨h1, _⟩ := h0
  obtain ⟨low, ⟨ys, pr, o, es, ep, g, hx, hdat, hes⟩, nd, sz⟩ := h1
  exact ⟨⟨o, g, hx.1⟩, fun b q => by cases q; exact ⟨o, g, hx.2.1⟩⟩
/-- d.setdefault(k, x) -/
def tSetD (K : PySem.W.Frag) (P : Program) (w : World) (td tk tx : TE) : TE := fun σ H Q => td σ H fun x H1 => ∃ d xs0, x = .ref d ∧ H1 d = some (DO P w d xs0) ∧ tk σ H1 fun y H2 => tx σ H2 fun z H3 => ∃ a xs k, y = .ref a ∧ H3 d = some (DO P w d xs) ∧ KeysOk K H3 xs ∧ NK K H3 (.ref a) k ∧ k.depth ≤ 8 ∧ xs.length < 1000000 ∧
  (∀ b c, (k, b, c) ∈ xs → Q c H3) ∧ (k ∉ xs.map (·.1) → Q z (upd H3 d (DO P w d (xs ++ [(k, a, z)]))))
theorem pe_setD {o e f : Expr} {td tk tx : TE} {apos cpos : Pos} (hu : X.A.units + 64 < cLine) (ho : PE X o td) (he : PE X e tk) (hf : PE X f tx) (m : M2 X o "setdefault" apos e f cpos) : PE X (.Call (.Attribute o "setdefault" apos) [e, f] [] cpos) (tSetD X.K X.prog X.w td tk tx) := by
  refine ⟨fun pins s σ H Q I h => ?_⟩
  refine wpAny_Call_method m.base m.few m.line PySem.F.plainAttrs_dict PySem.F.slot_dict_setdefault PySem.F.type_dict_setdefault (thn (ho.run pins s σ H _ I h) fun u s1 ⟨x, H1, I1, rx, d, xs0, ex, hd1, q1⟩ => ?_)
  subst ex
  obtain rfl : u = Value.ref d := rx
  obtain ⟨t1, t2⟩ := do_is I1 hd1
  refine ⟨t1, t2, ?_⟩
  rw [m.trees]
  refine Calls.callWith_builtin rfl (Calls.evalArgs_plain (Calls.spliced_cons (thn (he.run pins s1 σ H1 _ I1 q1) fun iv s2 ⟨y, H2, I2, ry, q2⟩ =>
    Calls.spliced_cons (thn (hf.run pins s2 σ H2 _ I2 q2) fun fv s3 ⟨z, H3, I3, rz, a, xs, k, ey, hd3, hks, hk, hdep, hsz, q3, q4⟩ => Calls.spliced_nil ?_))))
  subst ey
  obtain rfl : iv = Value.ref a := ry
  obtain ⟨d0, ys, pr, hm⟩ := do_of I3 hd3 hks
  refine call_setdefault_heap (knd := nestedKind X.prog X.w) (by show X.A.units + 1 + 8 < cLine; omega) ⟨nk_is I3 _ _ _ hk rfl, hdep⟩ d0.low hm (fun p hp => ?_) (fun hn h' hm' hs => ?_) (by rw [entR_len pr, sizeLine_eq]; omega)
  · obtain ⟨b, u⟩ := p
    have hmem : (k, b, u) ∈ ys := by
      unfold atKey at hp
      obtain ⟨y, hy, e⟩ := Option.map_eq_some_iff.mp hp
      have h1 := List.mem_of_find?_eq_some hy
      have h2 : y.1 = k := by
        have z := List.find?_some hy
        exact of_decide_eq_true z
      obtain ⟨k', b', u'⟩ := y
      simp only at h2 e
      subst h2
      cases e
      exact h1
    obtain ⟨x, hx, r1, r2, r3⟩ := entR_mem pr _ hmem
    obtain ⟨k2, b2, c⟩ := x
    simp only at r1 r2 r3
    subst r1 r2
    exact ⟨c, H3, I3.tok _, r3, q3 _ _ hx⟩
  · have hno : k ∉ xs.map (·.1) := fun z => by
      have := atKey_yes (ys := ys) (k := k) (by rw [entR_keys pr]; exact z)
      rw [hn] at this
      cases this
    obtain ⟨o2, es2, ep2, g2, _⟩ := id hm'
    have e1 : stE xs k a z = xs ++ [(k, a, z)] := by unfold stE; rw [if_neg hno]
    refine ⟨z, _, I3.write (e := d) (by rw [hd3]; exact trivial) (.inl rfl) (fun b u hb hg => by rw [hs.2 b hb]; exact hg) ⟨_, g2⟩ (do_ok d0.low (entR_st pr rz) hm' (Nat.le_trans stE_len hsz)), rz, ?_⟩
    rw [e1]
    exact q4 hno
/-- d.values(): a view of the dict at d -/
def ValsO (v d : Addr) : HO := .ext fun h => h.IsValuesView v d
theorem valsO_new {P : Program} {w : World} {H : Hp} {h : Heap} {v d : Addr} (x : h.IsValuesView v d) : ObjOk P w H h v (ValsO v d) := by
  have ⟨o, ho, _⟩ := x
  exact ⟨x, ⟨o, ho⟩, fun h1 h2 ⟨o, ho, r⟩ k => ⟨o, k o ho, r⟩⟩
theorem valsO_at {v d : Addr} (I : L2.Inv X pins σ H s) (hv : H v = some (ValsO v d)) : s.heap.IsValuesView v d := (I.hok v _ hv).1
def tVals (P : Program) (w : World) (td : TE) : TE := fun σ H Q => td σ H fun x H1 => ∃ d xs, x = .ref d ∧ H1 d = some (DO P w d xs) ∧ ∀ v, H1 v = none → Q (.ref v) (upd H1 v (ValsO v d))
theorem pe_vals {o : Expr} {td : TE} {pos apos : Pos} (hd : PE X o td) (hbase : attributeBase o "values" X.env (eval o X.env) = eval o X.env := by rfl) (hline : (apos.endLine == pos.line) = true := by rfl) :
    PE X (.Call (.Attribute o "values" apos) [] [] pos) (tVals X.prog X.w td) := by
  refine ⟨fun pins s σ H Q I h => ?_⟩
  refine wpAny_Call_method0_late hbase hline (thn (hd.run pins s σ H _ I h) fun v s1 ⟨x, H1, I1, r1, d, xs, ex, ha, q⟩ => ?_)
  subst ex
  obtain rfl : v = Value.ref d := r1
  have h0 := I1.hok d _ ha
  unfold DO ObjOk at h0
  obtain ⟨h1, _⟩ := h0
  obtain ⟨low, ⟨ys, pr, o, es, ep, g, hx, hdat, hes⟩, nd, sz⟩ := h1
  refine ⟨"dict", "dict.values", F.plainAttrs_dict, F.slot_dict_values, F.type_dict_values, ⟨o, g, hx.1⟩, fun b e => ?_, Calls.callWith_builtin rfl (PySem.evalArgs_none ?_)⟩
  · cases e
    exact ⟨o, g, hx.2.1⟩
  refine call_meetsIn F.slot_dict_values ⟨o, g, hx.1⟩ F.entry_dict_values (F.args_dict_values_1 _) (meets_dict_values_raw d low) ⟨⟨es, ep, o, g, hx, hdat⟩, ?_⟩
  exact ⟨.ref s1.heap.objs.size, _, I1.laid (t' := s1.toks) (fun b u e => Heap.get?_push_of_some _ e) (Nat.le_refl _) (valsO_new ⟨_, Heap.get?_push_size _ rfl, rfl, rfl⟩), rfl, q _ (I1.hok.fresh (Nat.le_refl _))⟩
/-- list(d.values()) -/
def rListVals (K : PySem.W.Frag) (P : Program) (w : World) : List V → Hp → VK → Prop := fun vs H Q => ∃ v d xs, vs = [.ref v] ∧ H v = some (ValsO v d) ∧ H d = some (DO P w d xs) ∧ KeysOk K H xs ∧ ∀ p, H p = none → Q (.ref p) (upd H p (.lst (xs.map fun x => x.2.2)))
theorem ent_at : ∀ {xs : List Ent} {ys : List (NestedKey × Addr × Value)}, Paired EntR xs ys → ∀ (j : Nat) (y), ys[j]? = some y → ∃ x, xs[j]? = some x ∧ EntR x y
  | _, _, .nil, j, y, h => by simp at h
  | _, _, .cons h t, 0, y, hy => by simp at hy; subst hy; exact ⟨_, rfl, h⟩
  | _, _, .cons h t, j + 1, y, hy => by simpa using ent_at t j y (by simpa using hy)
theorem call_listVals (hc : X.calm = true) : CallR X (.type "list") (rListVals X.K X.prog X.w) := by
  intro pins s σ H vs us Q I r ⟨v, d, xs, hv, hvv, hd, hks, q⟩
  subst hv
  rw [Vals.ref1 r]
  obtain ⟨d0, ys, pr, hm⟩ := do_of I hd hks
  obtain ⟨es, ep, hraw, hsz, hent⟩ := hm.raw
  have hxl : xs.length = ys.length := (entR_len pr).symm
  have h16 : es.size ≤ sizeLine := by rw [hsz, ← hxl, sizeLine_eq]; have := d0.sz; omega
  refine PySem.W.kdl_call (KdlSrc.rawValues (r := v) (d := d) (es := es) (ep := ep)) (I.ok.hd hc) ⟨valsO_at I hvv, hraw⟩ h16 fun h' tk acc c' hkp e hacc => ?_
  have hal0 : acc.toList.length = es.size := by rw [Array.length_toList, hacc.1]
  have vv : Vals (xs.map fun x => x.2.2) acc.toList := by
    refine paired_of (by rw [List.length_map, hal0, hxl, hsz]) fun i a b ha hb => ?_
    rw [List.getElem?_map] at ha
    obtain ⟨x, hx, rfl⟩ := Option.map_eq_some_iff.mp ha
    have hi : i < es.size := by rw [← hal0]; exact (List.getElem?_eq_some_iff.mp hb).1
    obtain ⟨y, hy, hkey, hval, _⟩ := hent i hi
    obtain ⟨x', hx', rr⟩ := ent_at pr i y hy
    rw [hx] at hx'
    cases hx'
    obtain ⟨hj', e1⟩ := hacc.2 i b (by rw [← Array.getElem?_toList]; exact hb)
    rw [e1, hval]
    exact rr.2.2
  refine ⟨.ref s.heap.objs.size, _, I.laid (t' := tk) hkp (Nat.le_refl _) (show ObjOk X.prog X.w _ h' _ (.lst (xs.map fun x => x.2.2)) from ⟨by rw [List.length_map, hxl, ← hsz]; exact h16, acc.toList, c', vv, by rw [e]⟩), rfl, q _ (I.hok.fresh (Nat.le_refl _))⟩
end
end DR
/-! A data layer over the hand layer: expressions and statements told by the data that they hand on. -/
namespace DL
open PySem L2
open Evl (Ex)

abbrev D := PyData
mutual
/-- the value v stands for the data d in the heap H; lists exactly, tuples as they may be read -/
inductive R (K : PySem.W.Frag) (H : Hp) : V → D → Prop
  | non : R K H .non .none
  | bl (b : Bool) : R K H (.bl b) (.bool b)
  | int (i : Int) : R K H (.int i) (.int i)
  | str (x : Str) : R K H (.str x) (.str x)
  | lst {a : Addr} {xs : List V} {ds : List D} : H a = some (.lst xs) → RA K H xs ds → R K H (.ref a) (.list ds)
  | tup {a : Addr} {xs : List V} {ds : List D} : SqT K H a xs → RA K H xs ds → R K H (.ref a) (.tuple ds)
inductive RA (K : PySem.W.Frag) (H : Hp) : List V → List D → Prop
  | nil : RA K H [] []
  | cons {v : V} {vs : List V} {d : D} {ds : List D} : R K H v d → RA K H vs ds → RA K H (v :: vs) (d :: ds)
end
section
variable {K : PySem.W.Frag} {G H : Hp}
mutual
theorem R.mono (e : Ex G H) : ∀ (d : D) (v : V), R K G v d → R K H v d
  | .none, _, h => by cases h; exact .non
  | .bool b, _, h => by cases h; exact .bl b
  | .int i, _, h => by cases h; exact .int i
  | .str x, _, h => by cases h; exact .str x
  | .list ds, _, h => by
    cases h with
    | lst h1 h2 => exact .lst (e _ _ h1) (RA.mono e ds _ h2)
  | .tuple ds, _, h => by
    cases h with
    | tup h1 h2 => exact .tup (Evl.ex_t e h1) (RA.mono e ds _ h2)
  | .dict _, _, h => by cases h
theorem RA.mono (e : Ex G H) : ∀ (ds : List D) (vs : List V), RA K G vs ds → RA K H vs ds
  | [], _, h => by cases h; exact .nil
  | d :: ds, _, h => by
    cases h with
    | cons h1 h2 => exact .cons (R.mono e d _ h1) (RA.mono e ds _ h2)
end
mutual
theorem R.dp : ∀ (d : D) (v : V), R K G v d → Dp K G v d
  | .none, _, h => by cases h; exact .non
  | .bool b, _, h => by cases h; exact .bl b
  | .int i, _, h => by cases h; exact .int i
  | .str x, _, h => by cases h; exact .str x
  | .list ds, _, h => by
    cases h with
    | lst h1 h2 => exact .lst (.inl (.inl h1)) (RA.dp ds _ h2)
  | .tuple ds, _, h => by
    cases h with
    | tup h1 h2 => exact .tup h1 (RA.dp ds _ h2)
  | .dict _, _, h => by cases h
theorem RA.dp : ∀ (ds : List D) (vs : List V), RA K G vs ds → DpAll K G vs ds
  | [], _, h => by cases h; exact .nil
  | d :: ds, _, h => by
    cases h with
    | cons h1 h2 => exact .cons (R.dp d _ h1) (RA.dp ds _ h2)
end
theorem RA.len : ∀ {vs : List V} {ds : List D}, RA K G vs ds → vs.length = ds.length
  | _, _, .nil => rfl
  | _, _, .cons _ h => congrArg (· + 1) (RA.len h)
theorem RA.get : ∀ {vs : List V} {ds : List D}, RA K G vs ds → ∀ (i : Nat) (v : V), vs[i]? = some v → ∃ d, ds[i]? = some d ∧ R K G v d
  | _, _, .nil, i, v, h => by simp at h
  | _, _, .cons r _, 0, v, h => by simp at h; subst h; exact ⟨_, rfl, r⟩
  | _, _, .cons _ t, i + 1, v, h => by
    obtain ⟨d, e, r⟩ := RA.get t i v (by simpa using h)
    exact ⟨d, by simpa using e, r⟩
theorem RA.getd : ∀ {vs : List V} {ds : List D}, RA K G vs ds → ∀ (i : Nat) (d : D), ds[i]? = some d → ∃ v, vs[i]? = some v ∧ R K G v d
  | _, _, .nil, i, v, h => by simp at h
  | _, _, .cons r _, 0, v, h => by simp at h; subst h; exact ⟨_, rfl, r⟩
  | _, _, .cons _ t, i + 1, v, h => by
    obtain ⟨d, e, r⟩ := RA.getd t i v (by simpa using h)
    exact ⟨d, by simpa using e, r⟩
theorem RA.app : ∀ {vs ws : List V} {ds es : List D}, RA K G vs ds → RA K G ws es → RA K G (vs ++ ws) (ds ++ es)
  | _, _, _, _, .nil, s => s
  | _, _, _, _, .cons r t, s => .cons r (RA.app t s)
theorem RA.take : ∀ {vs : List V} {ds : List D} (n : Nat), RA K G vs ds → RA K G (vs.take n) (ds.take n)
  | _, _, 0, _ => .nil
  | _, _, _ + 1, .nil => .nil
  | _, _, n + 1, .cons r t => .cons r (RA.take n t)
theorem RA.drop : ∀ {vs : List V} {ds : List D} (n : Nat), RA K G vs ds → RA K G (vs.drop n) (ds.drop n)
  | _, _, 0, r => r
  | _, _, _ + 1, .nil => .nil
  | _, _, n + 1, .cons _ t => RA.drop n t
theorem RA.strs : ∀ {vs : List V} {ss : List Str}, RA K G vs (ss.map PyData.str) → vs = ss.map V.str
  | _, [], .nil => rfl
  | _, s :: ss, .cons (.str _) t => congrArg (V.str s :: ·) (RA.strs t)
theorem RA.ints : ∀ {vs : List V} {ss : List Int}, RA K G vs (ss.map PyData.int) → vs = ss.map V.int
  | _, [], .nil => rfl
  | _, s :: ss, .cons (.int _) t => congrArg (V.int s :: ·) (RA.ints t)
theorem RA.bools : ∀ {vs : List V} {ss : List Bool}, RA K G vs (ss.map PyData.bool) → vs = ss.map V.bl
  | _, [], .nil => rfl
  | _, s :: ss, .cons (.bl _) t => congrArg (V.bl s :: ·) (RA.bools t)
theorem RA.ofStrs : ∀ (ss : List Str), RA K G (ss.map V.str) (ss.map PyData.str)
  | [] => .nil
  | s :: ss => .cons (.str s) (RA.ofStrs ss)
end

mutual
/-- the key that data are -/
def toK : D → NestedKey
  | .int i => .num i
  | .str x => .text x
  | .tuple ds => .tup (toKs ds)
  | .none => .none
  | .bool b => .num (if b then 1 else 0)
  | .list _ => .none
  | .dict _ => .none
def toKs : List D → List NestedKey
  | [] => []
  | d :: ds => toK d :: toKs ds
end
/-- data that may be a key, nested so deep -/
inductive KD : Nat → D → Prop
  | int (n : Nat) (i : Int) : KD n (.int i)
  | str (n : Nat) (x : Str) : KD n (.str x)
  | tup (n : Nat) (ds : List D) (h : ∀ d ∈ ds, KD n d) : KD (n + 1) (.tuple ds)
/-- a tuple that may be a key -/
def KT (d : D) : Prop := KD 8 d ∧ ∃ ds, d = .tuple ds
/-- an entry stands for a pair of data -/
structure DE (K : PySem.W.Frag) (G : Hp) (x : DR.Ent) (kv : D × D) : Prop where
  k : toK kv.1 = x.1
  r : R K G (.ref x.2.1) kv.1
  kt : KT kv.1
  v : R K G x.2.2 kv.2
/-- a caught exception of the class cls -/
def CaughtO (cls : Value) (a : Addr) : HO := .ext fun h => ∃ (oe : Obj) (vs : Array Value), h.get? a = some oe ∧ oe.cls = cls ∧ oe.dict = none ∧ oe.data = .fields vs
/-- what a slot is known to hold -/
inductive SV where
  | any | val (d : D) | own (ds : List D) | drw
  | dct (P : Program) (w : World) (kvs : List (D × D))
  | exc (c : Addr)
  /-- just this value, of which nothing else is told -/
  | raw (v : V)
def SV.ow : SV → Bool
  | .own _ => true
  | .dct _ _ _ => true
  | _ => false
/-- no slot owns what stands at p -/
abbrev NoOw (τ : List SV) (σ : L2.St) (p : Addr) : Prop := ∀ (i : Nat) (y : SV), y.ow = true → τ[i]? = some y → σ[i]? ≠ some (some (.ref p))
/-- an object that changes: where it stands, what holds of it -/
structure Ob where
  fp : List Addr
  ok : Hp → Hp → Prop
  mono : ∀ G G' H, Ex G G' → ok G H → ok G' H
  loc : ∀ G H H', (∀ a ∈ fp, H' a = H a) → ok G H → ok G H'
/-- the draws: where they stand, the numbers, the counter; the objects that change -/
structure Dr where
  p : Addr
  q : Addr
  ns : List Int
  c : Int
  ob : List Ob := []
/-- the entry: what is protected, as it stood; what was known -/
structure En where
  N : Addr → Prop
  H0 : Hp
  G0 : Hp
def ObOk (e : En) (G H : Hp) (os : List Ob) : Prop := ∀ o ∈ os, o.ok G H ∧ ∀ a ∈ o.fp, G a = none ∧ ¬ e.N a ∧ H a ≠ none
def ObDj (δ : Dr) : Prop := (∀ o ∈ δ.ob, δ.p ∉ o.fp ∧ δ.q ∉ o.fp) ∧ (δ.ob.flatMap (·.fp)).Nodup
def DrOk (e : En) (G H : Hp) : Option Dr → Prop
  | none => True
  | some δ => G δ.p = none ∧ G δ.q = none ∧ δ.p ≠ δ.q ∧ ¬ e.N δ.p ∧ ¬ e.N δ.q ∧ H δ.p = some (.lst [.ref δ.q, .int δ.c]) ∧ H δ.q = some (.lst (δ.ns.map V.int)) ∧ ObOk e G H δ.ob ∧ ObDj δ
def DrNot : Option Dr → Addr → Prop
  | none, _ => True
  | some δ, a => a ≠ δ.p ∧ a ≠ δ.q ∧ ∀ o ∈ δ.ob, a ∉ o.fp
theorem ObOk.chg {e : En} {G G' H H' : Hp} {os : List Ob} (h : ObOk e G H os) (x : Ex G G') (fr : ∀ o ∈ os, ∀ a ∈ o.fp, G a = none → H a ≠ none → G' a = none ∧ H' a = H a) : ObOk e G' H' os := fun o ho => by
  obtain ⟨h1, h2⟩ := h o ho
  refine ⟨o.mono _ _ _ x (o.loc _ _ _ (fun a ha => (fr o ho a ha (h2 a ha).1 (h2 a ha).2.2).2) h1), fun a ha => ?_⟩
  obtain ⟨k1, k2, k3⟩ := h2 a ha
  obtain ⟨f1, f2⟩ := fr o ho a ha k1 k3
  exact ⟨f1, k2, by rw [f2]; exact k3⟩
theorem ObOk.nil {e : En} {G H : Hp} : ObOk e G H [] := fun o ho => by cases ho
theorem ObDj.nil {p q : Addr} {ns : List Int} {c : Int} : ObDj ⟨p, q, ns, c, []⟩ := ⟨fun o ho => (by cases ho), List.nodup_nil⟩
inductive Sl (K : PySem.W.Frag) (e : En) (G H : Hp) (δ : Option Dr) : Option V → SV → Prop
  | any (o : Option V) : Sl K e G H δ o .any
  | val {v : V} {d : D} : R K G v d → Sl K e G H δ (some v) (.val d)
  | own {p : Addr} {vs : List V} {ds : List D} : ¬ e.N p → G p = none → H p = some (.lst vs) → RA K G vs ds → DrNot δ p → Sl K e G H δ (some (.ref p)) (.own ds)
  | drw {d : Dr} : δ = some d → Sl K e G H δ (some (.ref d.p)) .drw
  | dct {P : Program} {w : World} {p : Addr} {xs : List DR.Ent} {kvs : List (D × D)} : ¬ e.N p → G p = none → H p = some (DR.DO P w p xs) → Paired (DE K G) xs kvs → DrNot δ p → Sl K e G H δ (some (.ref p)) (.dct P w kvs)
  | exc {a c : Addr} : G a = some (CaughtO (.ref c) a) → Sl K e G H δ (some (.ref a)) (.exc c)
  | raw (v : V) : Sl K e G H δ (some v) (.raw v)
structure Stt (K : PySem.W.Frag) (e : En) (G H : Hp) (σ : L2.St) (τ : List SV) (δ : Option Dr) : Prop where
  ex : Ex G H
  gx : Ex e.G0 G
  nn : ∀ a, e.N a → e.H0 a ≠ none
  fr : ∀ a, e.N a → G a = none ∧ H a = e.H0 a
  len : σ.length = τ.length
  sl : ∀ (i : Nat) (x : SV), τ[i]? = some x → ∃ o, σ[i]? = some o ∧ Sl K e G H δ o x
  dj : ∀ (i j : Nat) (y z : SV) (p : Addr), y.ow = true → z.ow = true → τ[i]? = some y → τ[j]? = some z → σ[i]? = some (some (.ref p)) → σ[j]? = some (some (.ref p)) → i = j
  dr : DrOk e G H δ

def Ev (K : PySem.W.Frag) (te : TE) (τ : List SV) (δ : Option Dr) (d : D) (δ' : Option Dr) : Prop :=
  ∀ e G H σ, Stt K e G H σ τ δ → ∀ Q : VK, (∀ v G' H', Ex G G' → Stt K e G' H' σ τ δ' → R K G' v d → Q v H') → te σ H Q
def EvT (K : PySem.W.Frag) (tt : TT) (τ : List SV) (δ : Option Dr) (b : Bool) (δ' : Option Dr) : Prop :=
  ∀ e G H σ, Stt K e G H σ τ δ → ∀ Q : Bool → Hp → Prop, (∀ G' H', Ex G G' → Stt K e G' H' σ τ δ' → Q b H') → tt σ H Q
def EvA (K : PySem.W.Frag) (ta : TA) (τ : List SV) (δ : Option Dr) (ds : List D) (δ' : Option Dr) : Prop :=
  ∀ e G H σ, Stt K e G H σ τ δ → ∀ Q : List V → Hp → Prop, (∀ vs G' H', Ex G G' → Stt K e G' H' σ τ δ' → RA K G' vs ds → Q vs H') → ta σ H Q
/-- a new list, not yet shared -/
def EvF (K : PySem.W.Frag) (te : TE) (τ : List SV) (δ : Option Dr) (ds : List D) (δ' : Option Dr) : Prop :=
  ∀ e G H σ, Stt K e G H σ τ δ → ∀ Q : VK, (∀ p vs G' H', Ex G G' → Stt K e G' H' σ τ δ' → G' p = none → ¬ e.N p → DrNot δ' p → NoOw τ σ p → H' p = some (.lst vs) → RA K G' vs ds → Q (.ref p) H') → te σ H Q
def SD (K : PySem.W.Frag) (e : En) (B : Hp) (t : TS) (E : Ends) (τ : List SV) (δ : Option Dr) : Prop := ∀ G H σ, Ex B G → Stt K e G H σ τ δ → t E σ H
/-- what a return must show -/
def Rt (K : PySem.W.Frag) (e : En) (Q : VK) (post : D → Option Dr → Prop) : Prop := ∀ v G H σ τ δ d, Stt K e G H σ τ δ → R K G v d → post d δ → Q v H

section
variable {K : PySem.W.Frag} {e : En} {G G' H H' B : Hp} {σ : L2.St} {τ τ' : List SV} {δ δ' δ1 δ2 : Option Dr} {te ta tb : TE} {tt t u : TT} {d d1 d2 : D} {ds : List D}

theorem DE.mono (x : Ex G H) {en : DR.Ent} {kv : D × D} (h : DE K G en kv) : DE K H en kv := ⟨h.k, R.mono x _ _ h.r, h.kt, R.mono x _ _ h.v⟩
theorem de_mono (x : Ex G H) {xs : List DR.Ent} {kvs : List (D × D)} (h : Paired (DE K G) xs kvs) : Paired (DE K H) xs kvs := L2.Paired.mapP h fun _ _ z => z.mono x
theorem DrOk.new {p : Addr} {o : HO} (hx : Ex G H) (h : DrOk e G H δ) (hp : H p = none) : DrOk e (upd G p o) (upd H p o) δ := by
  cases δ with
  | none => trivial
  | some x =>
    obtain ⟨a, b, c, n1, n2, f, g, ok, oj⟩ := h
    refine ⟨?_, ?_, c, n1, n2, ?_, ?_, fun o' ho => ?_, oj⟩
    · rw [upd_ne (ne_of_none f hp)]; exact a
    · rw [upd_ne (ne_of_none g hp)]; exact b
    · rw [upd_ne (ne_of_none f hp)]; exact f
    · rw [upd_ne (ne_of_none g hp)]; exact g
    · obtain ⟨h1, h2⟩ := ok o' ho
      have hne : ∀ a ∈ o'.fp, a ≠ p := fun a ha z => (h2 a ha).2.2 (by rw [z]; exact hp)
      refine ⟨o'.loc _ _ _ (fun a ha => upd_ne (hne a ha)) ?_, fun a ha => ?_⟩
      · by_cases hg : G p = none
        · exact o'.mono _ _ _ (Ex.new hg) h1
        · exact o'.mono _ _ _ (fun a u z => by by_cases hap : a = p; · subst hap; exact absurd (hx a u z) (by rw [hp]; exact fun z => by cases z)
                                               · rw [upd_ne hap]; exact z) h1
      · rw [upd_ne (hne a ha), upd_ne (hne a ha)]
        exact h2 a ha
theorem DrOk.newH {p : Addr} {o : HO} (h : DrOk e G H δ) (hp : H p = none) : DrOk e G (upd H p o) δ := by
  cases δ with
  | none => trivial
  | some x =>
    obtain ⟨a, b, c, n1, n2, f, g, ok, oj⟩ := h
    refine ⟨a, b, c, n1, n2, ?_, ?_, ok.chg (Ex.refl G) fun o' ho a ha g' h' => ⟨g', upd_ne (fun z => h' (by rw [z]; exact hp))⟩, oj⟩
    · rw [upd_ne (ne_of_none f hp)]; exact f
    · rw [upd_ne (ne_of_none g hp)]; exact g
theorem DrOk.not {p : Addr} (h : DrOk e G H δ) (hp : H p = none) : DrNot δ p := by
  cases δ with
  | none => trivial
  | some x =>
    obtain ⟨a, b, c, n1, n2, f, g, ok, oj⟩ := h
    exact ⟨(ne_of_none f hp).symm, (ne_of_none g hp).symm, fun o' ho ha => ((ok o' ho).2 p ha).2.2 hp⟩
theorem ex_upd2 {p : Addr} {o : HO} (x : Ex G H) : Ex (upd G p o) (upd H p o) := fun a u ha => by
  by_cases h : a = p
  · subst h; rw [upd_same] at ha ⊢; exact ha
  · rw [upd_ne h] at ha ⊢; exact x a u ha
theorem gnone {p : Addr} (x : Ex G H) (hp : H p = none) : G p = none := Evl.fresh_back x hp
/-- a new shared object -/
theorem Stt.new {p : Addr} {o : HO} (s : Stt K e G H σ τ δ) (hp : H p = none) : Stt K e (upd G p o) (upd H p o) σ τ δ := by
  have hg := gnone s.ex hp
  have x := Ex.new (o := o) hg
  refine ⟨ex_upd2 s.ex, s.gx.trans x, s.nn, fun a ha => ?_, s.len, fun i y hy => ?_, s.dj, DrOk.new s.ex s.dr hp⟩
  · obtain ⟨f1, f2⟩ := s.fr a ha
    have hne : a ≠ p := fun z => s.nn a ha (by rw [← f2, z]; exact hp)
    rw [upd_ne hne, upd_ne hne]
    exact ⟨f1, f2⟩
  · obtain ⟨w, h1, h2⟩ := s.sl i y hy
    refine ⟨w, h1, ?_⟩
    cases h2 with
    | any => exact .any _
    | val r => exact .val (R.mono x _ _ r)
    | own n g h ra dn =>
      have hne := ne_of_none h hp
      exact .own n (by rw [upd_ne hne]; exact g) (by rw [upd_ne hne]; exact h) (RA.mono x _ _ ra) dn
    | drw h => exact .drw h
    | dct n g h ra dn =>
      have hne := ne_of_none h hp
      exact .dct n (by rw [upd_ne hne]; exact g) (by rw [upd_ne hne]; exact h) (de_mono x ra) dn
    | exc h => exact .exc (x _ _ h)
    | raw v => exact .raw v
/-- a new object of which nothing is said -/
theorem Stt.newH {p : Addr} {o : HO} (s : Stt K e G H σ τ δ) (hp : H p = none) : Stt K e G (upd H p o) σ τ δ := by
  refine ⟨s.ex.trans (Ex.new hp), s.gx, s.nn, fun a ha => ?_, s.len, fun i y hy => ?_, s.dj, s.dr.newH hp⟩
  · obtain ⟨f1, f2⟩ := s.fr a ha
    have hne : a ≠ p := fun z => s.nn a ha (by rw [← f2, z]; exact hp)
    rw [upd_ne hne]
    exact ⟨f1, f2⟩
  · obtain ⟨w, h1, h2⟩ := s.sl i y hy
    refine ⟨w, h1, ?_⟩
    cases h2 with
    | any => exact .any _
    | val r => exact .val r
    | own n g h ra dn => exact .own n g (by rw [upd_ne (ne_of_none h hp)]; exact h) ra dn
    | drw h => exact .drw h
    | dct n g h ra dn => exact .dct n g (by rw [upd_ne (ne_of_none h hp)]; exact h) ra dn
    | exc h => exact .exc h
    | raw v => exact .raw v
theorem Stt.notN {p : Addr} (s : Stt K e G H σ τ δ) (hp : H p = none) : ¬ e.N p := fun ha => s.nn p ha (by rw [← (s.fr p ha).2]; exact hp)
theorem Stt.notOwn {p : Addr} (s : Stt K e G H σ τ δ) (hp : H p = none) : NoOw τ σ p := fun i y hy h z => by
  obtain ⟨w, h1, h2⟩ := s.sl i _ h
  rw [z] at h1
  cases h1
  cases h2 with
  | own n g hh ra dn => exact ne_of_none hh hp rfl
  | dct n g hh ra dn => exact ne_of_none hh hp rfl
  | any => cases hy
  | val _ => cases hy
  | drw _ => cases hy
  | exc _ => cases hy
  | raw _ => cases hy

/-! ### expressions -/
theorem Ev.of (h : Ev K te τ δ d δ') (e' : d = d1) : Ev K te τ δ d1 δ' := e' ▸ h
theorem ev_var {i : Nat} (h : τ[i]? = some (.val d)) : Ev K (tVar i) τ δ d δ := fun e G H σ s Q q => by
  obtain ⟨w, h1, h2⟩ := s.sl i _ h
  cases h2 with
  | val r => exact ⟨_, h1, q _ G H (Ex.refl G) s r⟩
theorem ev_c {v : V} (h : ∀ G, R K G v d) : Ev K (tC v) τ δ d δ := fun e G H σ s Q q => q _ G H (Ex.refl G) s (h G)
theorem ev_int {i : Int} : Ev K (tC (.int i)) τ δ (.int i) δ := ev_c fun _ => .int i
theorem ev_str {x : Str} : Ev K (tC (.str x)) τ δ (.str x) δ := ev_c fun _ => .str x
theorem ev_bl {b : Bool} : Ev K (tC (.bl b)) τ δ (.bool b) δ := ev_c fun _ => .bl b
theorem ev_non : Ev K (tC .non) τ δ .none δ := ev_c fun _ => .non
/-- a tuple of the module's top -/
theorem ev_ktup {a : Addr} {xs : List V} (h : ∀ G, SqT K G a xs) (hr : ∀ G, RA K G xs ds) : Ev K (tC (.ref a)) τ δ (.tuple ds) δ := ev_c fun G => .tup (h G) (hr G)
/-- a two-place operation by values -/
def RD (K : PySem.W.Frag) (r : R2) (d1 d2 d : D) : Prop :=
  ∀ e G H σ τ δ v w, Stt K e G H σ τ δ → R K G v d1 → R K G w d2 → ∀ Q : VK, (∀ z G' H', Ex G G' → Stt K e G' H' σ τ δ → R K G' z d → Q z H') → r v w H Q
theorem ev_op {r : R2} (ha : Ev K ta τ δ d1 δ1) (hb : Ev K tb τ δ1 d2 δ2) (hr : RD K r d1 d2 d) : Ev K (tOp r ta tb) τ δ d δ2 := fun e G H σ s Q q =>
  ha e G H σ s _ fun v G1 H1 x1 s1 r1 => hb e G1 H1 σ s1 _ fun w G2 H2 x2 s2 r2 => hr e G2 H2 σ τ δ2 v w s2 (R.mono x2 _ _ r1) r2 Q fun z G3 H3 x3 s3 r3 => q z G3 H3 ((x1.trans x2).trans x3) s3 r3
theorem rd_addI {i j : Int} : RD K (rI0 fun i j => .int (i + j)) (.int i) (.int j) (.int (i + j)) := fun e G H σ τ δ v w s r1 r2 Q q => by
  cases r1; cases r2; exact ⟨i, j, rfl, rfl, q _ G H (Ex.refl G) s (.int _)⟩
theorem rd_subI {i j : Int} : RD K (rI0 fun i j => .int (i - j)) (.int i) (.int j) (.int (i - j)) := fun e G H σ τ δ v w s r1 r2 Q q => by
  cases r1; cases r2; exact ⟨i, j, rfl, rfl, q _ G H (Ex.refl G) s (.int _)⟩
theorem rd_I0b {f : Int → Int → Bool} {i j : Int} : RD K (rI0 fun i j => .bl (f i j)) (.int i) (.int j) (.bool (f i j)) := fun e G H σ τ δ v w s r1 r2 Q q => by
  cases r1; cases r2; exact ⟨i, j, rfl, rfl, q _ G H (Ex.refl G) s (.bl _)⟩
theorem rd_addS {x y : Str} (h : x.length + y.length ≤ 1000) : RD K (fun x y H Q => ∃ i j, x = .str i ∧ y = .str j ∧ i.length + j.length ≤ sizeLine ∧ Q (.str (i ++ j)) H) (.str x) (.str y) (.str (x ++ y)) := fun e G H σ τ δ v w s r1 r2 Q q => by
  cases r1; cases r2; exact ⟨x, y, rfl, rfl, Nat.le_trans h (by decide), q _ G H (Ex.refl G) s (.str _)⟩
theorem rd_eqS {x y : Str} : RD K rEq (.str x) (.str y) (.bool (decide (x = y))) := fun e G H σ τ δ v w s r1 r2 Q q => by
  cases r1; cases r2
  refine ⟨rfl, ?_⟩
  have z : decide (V.str x = V.str y) = decide (x = y) := by simp
  rw [z]
  exact q _ G H (Ex.refl G) s (.bl _)
theorem rd_neS {x y : Str} : RD K rNe (.str x) (.str y) (.bool (!decide (x = y))) := fun e G H σ τ δ v w s r1 r2 Q q => by
  cases r1; cases r2
  refine ⟨rfl, ?_⟩
  have z : decide (V.str x = V.str y) = decide (x = y) := by simp
  rw [z]
  exact q _ G H (Ex.refl G) s (.bl _)
theorem rd_eqI {x y : Int} : RD K rEq (.int x) (.int y) (.bool (decide (x = y))) := fun e G H σ τ δ v w s r1 r2 Q q => by
  cases r1; cases r2
  refine ⟨rfl, ?_⟩
  have z : decide (V.int x = V.int y) = decide (x = y) := by simp
  rw [z]
  exact q _ G H (Ex.refl G) s (.bl _)
theorem rd_neI {x y : Int} : RD K rNe (.int x) (.int y) (.bool (!decide (x = y))) := fun e G H σ τ δ v w s r1 r2 Q q => by
  cases r1; cases r2
  refine ⟨rfl, ?_⟩
  have z : decide (V.int x = V.int y) = decide (x = y) := by simp
  rw [z]
  exact q _ G H (Ex.refl G) s (.bl _)
theorem rd_eqD (h1 : SeqAt.shaped d1 = true) (h2 : SeqAt.shaped d2 = true) : RD K (rEqD K) d1 d2 (.bool (PyData.eqv d1 d2)) := fun e G H σ τ δ v w s r1 r2 Q q =>
  ⟨d1, d2, R.dp _ _ (R.mono s.ex _ _ r1), R.dp _ _ (R.mono s.ex _ _ r2), h1, h2, q _ G H (Ex.refl G) s (.bl _)⟩
theorem rd_neD (h1 : SeqAt.shaped d1 = true) (h2 : SeqAt.shaped d2 = true) : RD K (rNeD K) d1 d2 (.bool (!PyData.eqv d1 d2)) := fun e G H σ τ δ v w s r1 r2 Q q =>
  ⟨d1, d2, R.dp _ _ (R.mono s.ex _ _ r1), R.dp _ _ (R.mono s.ex _ _ r2), h1, h2, q _ G H (Ex.refl G) s (.bl _)⟩
theorem inV_strs (x : Str) : ∀ ys : List Str, inV (.str x) (ys.map V.str) = ys.contains x
  | [] => rfl
  | y :: ys => by
    show (eqV (.str y) (.str x) || inV (.str x) (ys.map V.str)) = (x == y || ys.contains x)
    rw [inV_strs x ys]
    congr 1
    show (y == x) = (x == y)
    rw [Bool.eq_iff_iff]
    constructor <;> (intro h; simp at h ⊢; exact h.symm)
theorem flat_strs : ∀ ys : List Str, (ys.map V.str).all flatV = true
  | [] => rfl
  | y :: ys => flat_strs ys
theorem inV_ints (x : Int) : ∀ ys : List Int, inV (.int x) (ys.map V.int) = ys.contains x
  | [] => rfl
  | y :: ys => by
    show (eqV (.int y) (.int x) || inV (.int x) (ys.map V.int)) = (x == y || ys.contains x)
    rw [inV_ints x ys]
    congr 1
    show (y == x) = (x == y)
    rw [Bool.eq_iff_iff]
    constructor <;> (intro h; simp at h ⊢; exact h.symm)
theorem flat_ints : ∀ ys : List Int, (ys.map V.int).all flatV = true
  | [] => rfl
  | y :: ys => flat_ints ys
theorem rd_inT {neg : Bool} {x : Str} {ys : List Str} : RD K (rIn K neg) (.str x) (.tuple (ys.map .str)) (.bool (if neg then !ys.contains x else ys.contains x)) := fun e G H σ τ δ v w s r1 r2 Q q => by
  cases r1
  cases r2 with
  | tup h ra =>
    obtain rfl := RA.strs ra
    refine ⟨_, _, rfl, .inr (Evl.ex_t s.ex h), rfl, flat_strs ys, ?_⟩
    rw [inV_strs]
    exact q _ G H (Ex.refl G) s (.bl _)
theorem rd_inL {neg : Bool} {x : Str} {ys : List Str} : RD K (rIn K neg) (.str x) (.list (ys.map .str)) (.bool (if neg then !ys.contains x else ys.contains x)) := fun e G H σ τ δ v w s r1 r2 Q q => by
  cases r1
  cases r2 with
  | lst h ra =>
    obtain rfl := RA.strs ra
    refine ⟨_, _, rfl, .inl (.inl (.inl (s.ex _ _ h))), rfl, flat_strs ys, ?_⟩
    rw [inV_strs]
    exact q _ G H (Ex.refl G) s (.bl _)
theorem rd_inTI {neg : Bool} {x : Int} {ys : List Int} : RD K (rIn K neg) (.int x) (.tuple (ys.map .int)) (.bool (if neg then !ys.contains x else ys.contains x)) := fun e G H σ τ δ v w s r1 r2 Q q => by
  cases r1
  cases r2 with
  | tup h ra =>
    obtain rfl := RA.ints ra
    refine ⟨_, _, rfl, .inr (Evl.ex_t s.ex h), rfl, flat_ints ys, ?_⟩
    rw [inV_ints]
    exact q _ G H (Ex.refl G) s (.bl _)
/-- xs[i] -/
theorem rd_ixL {i : Int} (h : atI ds i = some d) : RD K (rIxL K) (.list ds) (.int i) d := fun e G H σ τ δ v w s r1 r2 Q q => by
  cases r2
  cases r1 with
  | lst h1 ra =>
    unfold atI at h
    cases hx : ixN ds.length i with
    | none => rw [hx] at h; cases h
    | some j =>
      rw [hx] at h
      obtain ⟨v, hv, r⟩ := RA.getd ra j d h
      exact ⟨_, _, i, v, rfl, rfl, .inl (.inl (s.ex _ _ h1)), by unfold atI; rw [RA.len ra, hx]; exact hv, q _ G H (Ex.refl G) s r⟩
theorem rd_ixT {i : Int} (h : atI ds i = some d) : RD K (rIxT K) (.tuple ds) (.int i) d := fun e G H σ τ δ v w s r1 r2 Q q => by
  cases r2
  cases r1 with
  | tup h1 ra =>
    unfold atI at h
    cases hx : ixN ds.length i with
    | none => rw [hx] at h; cases h
    | some j =>
      rw [hx] at h
      obtain ⟨v, hv, r⟩ := RA.getd ra j d h
      exact ⟨_, _, i, v, rfl, rfl, Evl.ex_t s.ex h1, by unfold atI; rw [RA.len ra, hx]; exact hv, q _ G H (Ex.refl G) s r⟩
theorem rd_cat {es : List D} (h : ds.length + es.length ≤ 100000) : RD K rCat (.list ds) (.list es) (.list (ds ++ es)) := fun e G H σ τ δ v w s r1 r2 Q q => by
  cases r1 with
  | @lst a1 xs1 _ h1 ra =>
    cases r2 with
    | @lst a2 xs2 _ h2 rb =>
      refine ⟨_, _, _, _, rfl, rfl, s.ex _ _ h1, s.ex _ _ h2, ?_, fun p hp => ?_⟩
      · rw [RA.len ra, RA.len rb]
        exact Evl.sz_of h
      · have x := Ex.new (o := .lst (xs1 ++ xs2)) (gnone s.ex hp)
        exact q _ _ _ x (s.new hp) (.lst upd_same (RA.mono x _ _ (RA.app ra rb)))
theorem Ev.mono_b {b : Bool} (h : Ev K te τ δ d δ') (e' : d = .bool b) : Ev K te τ δ (.bool b) δ' := e' ▸ h
/-! ### arguments, displays -/
theorem ea_nil : EvA K tNil τ δ [] δ := fun e G H σ s Q q => q _ G H (Ex.refl G) s .nil
theorem ea_cons {tr : TA} (h : Ev K ta τ δ d δ1) (hr : EvA K tr τ δ1 ds δ2) : EvA K (tCons ta tr) τ δ (d :: ds) δ2 := fun e G H σ s Q q =>
  h e G H σ s _ fun v G1 H1 x1 s1 r1 => hr e G1 H1 σ s1 _ fun vs G2 H2 x2 s2 r2 => q _ G2 H2 (x1.trans x2) s2 (.cons (R.mono x2 _ _ r1) r2)
theorem ea_star {tr : TA} {es : List D} (h : Ev K ta τ δ (.list es) δ1) (hr : EvA K tr τ δ1 ds δ2) : EvA K (StX.tStar K ta tr) τ δ (es ++ ds) δ2 := fun e G H σ s Q q =>
  h e G H σ s _ fun v G1 H1 x1 s1 r1 => by
    cases r1 with
    | @lst a xs _ h1 ra =>
      exact ⟨a, xs, rfl, .inr (.inl (.inl (s1.ex _ _ h1))), hr e G1 H1 σ s1 _ fun vs G2 H2 x2 s2 r2 => q _ G2 H2 (x1.trans x2) s2 (RA.app (RA.mono x2 _ _ ra) r2)⟩
theorem ev_tup {t : TA} (h : EvA K t τ δ ds δ') (hl : ds.length ≤ 1000 := by first | decide | (simp only [List.length_cons, List.length_nil]; decide)) : Ev K (tTup t) τ δ (.tuple ds) δ' := fun e G H σ s Q q =>
  h e G H σ s _ fun vs G1 H1 x1 s1 r1 => ⟨by rw [RA.len r1]; exact Evl.sz_of (Nat.le_trans hl (by decide)), fun p hp => by
    have x := Ex.new (o := .tup vs) (gnone s1.ex hp)
    exact q _ _ _ (x1.trans x) (s1.new hp) (.tup (.inl (.inl upd_same)) (RA.mono x _ _ r1))⟩
theorem ef_lst {t : TA} (h : EvA K t τ δ ds δ') (hl : ds.length ≤ 1000 := by first | decide | (simp only [List.length_cons, List.length_nil]; decide)) : EvF K (tLst t) τ δ ds δ' := fun e G H σ s Q q =>
  h e G H σ s _ fun vs G1 H1 x1 s1 r1 => ⟨by rw [RA.len r1]; exact Evl.sz_of (Nat.le_trans hl (by decide)), fun p hp =>
    q p vs G1 _ x1 (s1.newH hp) (gnone s1.ex hp) (s1.notN hp) (s1.dr.not hp) (s1.notOwn hp) upd_same r1⟩
/-- a new list is shared -/
theorem Stt.freeze {p : Addr} {vs : List V} (s : Stt K e G H σ τ δ) (g : G p = none) (n : ¬ e.N p) (dn : DrNot δ p) (no : NoOw τ σ p) (h : H p = some (.lst vs)) : Stt K e (upd G p (.lst vs)) H σ τ δ := by
  have x := Ex.new (o := .lst vs) g
  refine ⟨fun a u ha => ?_, s.gx.trans x, s.nn, fun a ha => ?_, s.len, fun i y hy => ?_, s.dj, ?_⟩
  · by_cases hap : a = p
    · subst hap; rw [upd_same] at ha; rw [← ha]; exact h
    · rw [upd_ne hap] at ha; exact s.ex a u ha
  · rw [upd_ne (fun z => n (by rw [← z]; exact ha))]; exact s.fr a ha
  · obtain ⟨w, h1, h2⟩ := s.sl i y hy
    refine ⟨w, h1, ?_⟩
    cases h2 with
    | any => exact .any _
    | val r => exact .val (R.mono x _ _ r)
    | own n' g' h' ra dn' => exact .own n' (by rw [upd_ne (fun z => no i _ rfl hy (by rw [← z]; exact h1))]; exact g') h' (RA.mono x _ _ ra) dn'
    | drw h => exact .drw h
    | dct n' g' h' ra dn' => exact .dct n' (by rw [upd_ne (fun z => no i _ rfl hy (by rw [← z]; exact h1))]; exact g') h' (de_mono x ra) dn'
    | exc h => exact .exc (x _ _ h)
    | raw v => exact .raw v
  · have := s.dr
    cases δ with
    | none => trivial
    | some q =>
      obtain ⟨a, b, c, n1, n2, f, k, ok, oj⟩ := this
      exact ⟨by rw [upd_ne dn.1.symm]; exact a, by rw [upd_ne dn.2.1.symm]; exact b, c, n1, n2, f, k, ok.chg x fun o' ho a ha g' h' => ⟨by rw [upd_ne (fun z => dn.2.2 o' ho (by rw [← z]; exact ha))]; exact g', rfl⟩, oj⟩
theorem ev_fz (h : EvF K te τ δ ds δ') : Ev K te τ δ (.list ds) δ' := fun e G H σ s Q q =>
  h e G H σ s Q fun p vs G1 H1 x1 s1 g n dn no hp ra => by
    have x := Ex.new (o := .lst vs) g
    exact q _ _ _ (x1.trans x) (s1.freeze g n dn no hp) (.lst upd_same (RA.mono x _ _ ra))
theorem ev_lst {t : TA} (h : EvA K t τ δ ds δ') (hl : ds.length ≤ 1000 := by first | decide | (simp only [List.length_cons, List.length_nil]; decide)) : Ev K (tLst t) τ δ (.list ds) δ' := ev_fz (ef_lst h hl)

/-! ### tests, truth -/
theorem et_B {b : Bool} (h : Ev K te τ δ (.bool b) δ') : EvT K (tB te) τ δ b δ' := fun e G H σ s Q q => h e G H σ s _ fun v G1 H1 x1 s1 r1 => by
  cases r1; exact ⟨b, rfl, q G1 H1 x1 s1⟩
theorem et_test {b : Bool} (h : Ev K te τ δ (.bool b) δ') : EvT K (tTest te) τ δ b δ' := fun e G H σ s Q q => h e G H σ s _ fun v G1 H1 x1 s1 r1 => by
  cases r1; exact ⟨b, rfl, q G1 H1 x1 s1⟩
theorem EvT.of {b c : Bool} (h : EvT K tt τ δ b δ') (z : b = c) : EvT K tt τ δ c δ' := z ▸ h
theorem et_yes : EvT K tYes τ δ true δ := fun e G H σ s Q q => q G H (Ex.refl G) s
theorem et_not {t' : TT} {b : Bool} (h : EvT K t' τ δ b δ') : EvT K (tNot t') τ δ (!b) δ' := fun e G H σ s Q q => h e G H σ s _ q
theorem et_and {t1 t2 : TT} {a b : Bool} (h1 : EvT K t1 τ δ a δ) (h2 : a = true → EvT K t2 τ δ b δ) : EvT K (tAnd t1 t2) τ δ (a && b) δ := fun e G H σ s Q q => h1 e G H σ s _ fun G1 H1 x1 s1 => by
  cases a with
  | true => exact iteT (h2 rfl e G1 H1 σ s1 Q fun G2 H2 x2 => q G2 H2 (x1.trans x2))
  | false => exact iteF (q G1 H1 x1 s1)
theorem et_or {t1 t2 : TT} {a b : Bool} (h1 : EvT K t1 τ δ a δ) (h2 : a = false → EvT K t2 τ δ b δ) : EvT K (tOr t1 t2) τ δ (a || b) δ := fun e G H σ s Q q => h1 e G H σ s _ fun G1 H1 x1 s1 => by
  cases a with
  | true => exact iteT (q G1 H1 x1 s1)
  | false => exact iteF (h2 rfl e G1 H1 σ s1 Q fun G2 H2 x2 => q G2 H2 (x1.trans x2))
theorem ev_and {a b : Bool} (h1 : Ev K ta τ δ (.bool a) δ) (h2 : a = true → Ev K tb τ δ (.bool b) δ) : Ev K (tAndV ta tb) τ δ (.bool (a && b)) δ := fun e G H σ s Q q => h1 e G H σ s _ fun v G1 H1 x1 s1 r1 => by
  cases r1
  refine ⟨a, rfl, ?_⟩
  cases a with
  | true => exact iteT (h2 rfl e G1 H1 σ s1 Q fun v G2 H2 x2 => q v G2 H2 (x1.trans x2))
  | false => exact iteF (q _ G1 H1 x1 s1 (.bl _))
theorem ev_or {a b : Bool} (h1 : Ev K ta τ δ (.bool a) δ) (h2 : a = false → Ev K tb τ δ (.bool b) δ) : Ev K (tOrV ta tb) τ δ (.bool (a || b)) δ := fun e G H σ s Q q => h1 e G H σ s _ fun v G1 H1 x1 s1 r1 => by
  cases r1
  refine ⟨a, rfl, ?_⟩
  cases a with
  | true => exact iteT (q _ G1 H1 x1 s1 (.bl _))
  | false => exact iteF (h2 rfl e G1 H1 σ s1 Q fun v G2 H2 x2 => q v G2 H2 (x1.trans x2))
theorem ev_not {a : Bool} (h1 : Ev K ta τ δ (.bool a) δ') : Ev K (tNotV ta) τ δ (.bool (!a)) δ' := fun e G H σ s Q q => h1 e G H σ s _ fun v G1 H1 x1 s1 r1 => by
  cases r1; exact ⟨a, rfl, q _ G1 H1 x1 s1 (.bl _)⟩
theorem ev_if {b : Bool} (h : EvT K tt τ δ b δ1) (h1 : b = true → Ev K ta τ δ1 d δ2) (h2 : b = false → Ev K tb τ δ1 d δ2) : Ev K (tIf tt ta tb) τ δ d δ2 := fun e G H σ s Q q => h e G H σ s _ fun G1 H1 x1 s1 => by
  cases b with
  | true => exact iteT (h1 rfl e G1 H1 σ s1 Q fun v G2 H2 x2 => q v G2 H2 (x1.trans x2))
  | false => exact iteF (h2 rfl e G1 H1 σ s1 Q fun v G2 H2 x2 => q v G2 H2 (x1.trans x2))

/-! ### calls of built-ins, by values -/
def RCD (K : PySem.W.Frag) (r : List V → Hp → VK → Prop) (ds : List D) (d : D) : Prop :=
  ∀ e G H σ τ δ vs, Stt K e G H σ τ δ → RA K G vs ds → ∀ Q : VK, (∀ z G' H', Ex G G' → Stt K e G' H' σ τ δ → R K G' z d → Q z H') → r vs H Q
theorem ev_cb {r : List V → Hp → VK → Prop} {t : TA} (h : EvA K t τ δ ds δ') (hr : RCD K r ds d) : Ev K (tCB r t) τ δ d δ' := fun e G H σ s Q q =>
  h e G H σ s _ fun vs G1 H1 x1 s1 r1 => hr e G1 H1 σ τ δ' vs s1 r1 Q fun z G2 H2 x2 s2 r2 => q z G2 H2 (x1.trans x2) s2 r2
theorem rc_lenL : RCD K (fun xs H Q => ∃ p ys, xs = [.ref p] ∧ (SqL K H p ys ∨ SqT K H p ys) ∧ Q (.int ys.length) H) [.list ds] (.int (ds.length : Int)) := fun e G H σ τ δ vs s r Q q => by
  cases r with
  | cons r1 r2 =>
    cases r2
    cases r1 with
    | @lst a xs _ h1 ra => exact ⟨a, xs, rfl, .inl (.inl (.inl (s.ex _ _ h1))), by rw [RA.len ra]; exact q _ G H (Ex.refl G) s (.int _)⟩
theorem rc_lenT : RCD K (fun xs H Q => ∃ p ys, xs = [.ref p] ∧ (SqL K H p ys ∨ SqT K H p ys) ∧ Q (.int ys.length) H) [.tuple ds] (.int (ds.length : Int)) := fun e G H σ τ δ vs s r Q q => by
  cases r with
  | cons r1 r2 =>
    cases r2
    cases r1 with
    | @tup a xs _ h1 ra => exact ⟨a, xs, rfl, .inr (Evl.ex_t s.ex h1), by rw [RA.len ra]; exact q _ G H (Ex.refl G) s (.int _)⟩
theorem rc_lenS {x : Str} (h : x.length ≤ 1000) : RCD K (fun xs H Q => ∃ z, xs = [.str z] ∧ z.length ≤ sizeLine ∧ Q (.int z.length) H) [.str x] (.int (x.length : Int)) := fun e G H σ τ δ vs s r Q q => by
  cases r with
  | cons r1 r2 =>
    cases r2; cases r1
    exact ⟨x, rfl, Nat.le_trans h (by decide), q _ G H (Ex.refl G) s (.int _)⟩
theorem rc_all {bs : List Bool} : RCD K (rAll K) [.list (bs.map .bool)] (.bool (bs.all id)) := fun e G H σ τ δ vs s r Q q => by
  cases r with
  | cons r1 r2 =>
    cases r2
    cases r1 with
    | @lst a xs _ h1 ra =>
      obtain rfl := RA.bools ra
      exact ⟨a, bs, rfl, .inl (.inl (s.ex _ _ h1)), q _ G H (Ex.refl G) s (.bl _)⟩
theorem rc_min {ns : List Int} {m : Int} (hp : 0 < ns.length) (hm : ∀ k, k ∈ ns → (∀ y, y ∈ ns → k ≤ y) → k = m) : RCD K (rMin K) [.list (ns.map .int)] (.int m) := fun e G H σ τ δ vs s r Q q => by
  cases r with
  | cons r1 r2 =>
    cases r2
    cases r1 with
    | @lst a xs _ h1 ra =>
      obtain rfl := RA.ints ra
      exact ⟨a, ns, rfl, .inl (.inl (s.ex _ _ h1)), hp, fun k k1 k2 => by rw [hm k k1 k2]; exact q _ G H (Ex.refl G) s (.int _)⟩
/-- tuple(list), list(list), list(tuple) -/
theorem rc_tupL : RCD K (fun xs H Q => ∃ p ys, xs = [.ref p] ∧ ((SqL K H p ys ∧ ∀ l, H l = none → Q (.ref l) (upd H l (.tup ys))) ∨ (SqT K H p ys ∧ Q (.ref p) H))) [.list ds] (.tuple ds) := fun e G H σ τ δ vs s r Q q => by
  cases r with
  | cons r1 r2 =>
    cases r2
    cases r1 with
    | @lst a xs _ h1 ra =>
      refine ⟨a, xs, rfl, .inl ⟨.inl (.inl (s.ex _ _ h1)), fun p hp => ?_⟩⟩
      have x := Ex.new (o := .tup xs) (gnone s.ex hp)
      exact q _ _ _ x (s.new hp) (.tup (.inl (.inl upd_same)) (RA.mono x _ _ ra))
theorem rc_listT : RCD K (fun xs H Q => ∃ p ys, xs = [.ref p] ∧ (SqL K H p ys ∨ SqT K H p ys) ∧ ∀ l, H l = none → Q (.ref l) (upd H l (.lst ys))) [.tuple ds] (.list ds) := fun e G H σ τ δ vs s r Q q => by
  cases r with
  | cons r1 r2 =>
    cases r2
    cases r1 with
    | @tup a xs _ h1 ra =>
      refine ⟨a, xs, rfl, .inr (Evl.ex_t s.ex h1), fun p hp => ?_⟩
      have x := Ex.new (o := .lst xs) (gnone s.ex hp)
      exact q _ _ _ x (s.new hp) (.lst upd_same (RA.mono x _ _ ra))
theorem rc_listL : RCD K (fun xs H Q => ∃ p ys, xs = [.ref p] ∧ (SqL K H p ys ∨ SqT K H p ys) ∧ ∀ l, H l = none → Q (.ref l) (upd H l (.lst ys))) [.list ds] (.list ds) := fun e G H σ τ δ vs s r Q q => by
  cases r with
  | cons r1 r2 =>
    cases r2
    cases r1 with
    | @lst a xs _ h1 ra =>
      refine ⟨a, xs, rfl, .inl (.inl (.inl (s.ex _ _ h1))), fun p hp => ?_⟩
      have x := Ex.new (o := .lst xs) (gnone s.ex hp)
      exact q _ _ _ x (s.new hp) (.lst upd_same (RA.mono x _ _ ra))
/-! ### slices, methods -/
def ESl (K : PySem.W.Frag) (to : TO) (τ : List SV) (δ : Option Dr) (o : Option Int) : Prop := ∀ e G H σ, Stt K e G H σ τ δ → ∀ Q : Option Int → Hp → Prop, (∀ G' H', Ex G G' → Stt K e G' H' σ τ δ → Q o H') → to σ H Q
theorem es_no : ESl K tNoPart τ δ none := fun e G H σ s Q q => q G H (Ex.refl G) s
theorem es_at {i : Int} (h : Ev K te τ δ (.int i) δ) : ESl K (tPart te) τ δ (some i) := fun e G H σ s Q q => h e G H σ s _ fun v G1 H1 x1 s1 r1 => by
  cases r1; exact ⟨i, rfl, q G1 H1 x1 s1⟩
theorem ev_slS {tl th : TO} {x : Str} {lo hi : Option Int} (h : Ev K te τ δ (.str x) δ1) (hl : ESl K tl τ δ1 lo) (hh : ESl K th τ δ1 hi) (hx : x.length ≤ 1000) : Ev K (tSl rSlS te tl th) τ δ (.str (cutS x lo hi)) δ1 := fun e G H σ s Q q =>
  h e G H σ s _ fun v G1 H1 x1 s1 r1 => hl e G1 H1 σ s1 _ fun G2 H2 x2 s2 => hh e G2 H2 σ s2 _ fun G3 H3 x3 s3 => by
    cases r1
    exact ⟨x, rfl, Nat.le_trans hx (by decide), q _ G3 H3 ((x1.trans x2).trans x3) s3 (.str _)⟩
def cutDs (ds : List D) (lo hi : Option Int) : List D := (ds.drop (HT.sIx ds.length 0 lo)).take (HT.sIx ds.length ds.length hi - HT.sIx ds.length 0 lo)
theorem ra_cut {vs : List V} {lo hi : Option Int} (r : RA K G vs ds) : RA K G (cutV vs lo hi) (cutDs ds lo hi) := by
  unfold cutV cutDs
  rw [RA.len r]
  exact RA.take _ (RA.drop _ r)
theorem ev_slL {tl th : TO} {lo hi : Option Int} (h : Ev K te τ δ (.list ds) δ1) (hl : ESl K tl τ δ1 lo) (hh : ESl K th τ δ1 hi) : Ev K (tSl (rSlL K) te tl th) τ δ (.list (cutDs ds lo hi)) δ1 := fun e G H σ s Q q =>
  h e G H σ s _ fun v G1 H1 x1 s1 r1 => hl e G1 H1 σ s1 _ fun G2 H2 x2 s2 => hh e G2 H2 σ s2 _ fun G3 H3 x3 s3 => by
    cases r1 with
    | @lst a xs _ h1 ra =>
      refine ⟨a, xs, rfl, .inl (.inl (s3.ex _ _ (x3 _ _ (x2 _ _ h1)))), fun p hp => ?_⟩
      have x := Ex.new (o := .lst (cutV xs lo hi)) (gnone s3.ex hp)
      exact q _ _ _ (((x1.trans x2).trans x3).trans x) (s3.new hp) (.lst upd_same (ra_cut (RA.mono ((x2.trans x3).trans x) _ _ ra)))
theorem ev_slT {tl th : TO} {lo hi : Option Int} (h : Ev K te τ δ (.tuple ds) δ1) (hl : ESl K tl τ δ1 lo) (hh : ESl K th τ δ1 hi) (hne : ¬ (HT.sIx ds.length 0 lo = 0 ∧ HT.sIx ds.length ds.length hi = ds.length)) : Ev K (tSl (rSlT K) te tl th) τ δ (.tuple (cutDs ds lo hi)) δ1 := fun e G H σ s Q q =>
  h e G H σ s _ fun v G1 H1 x1 s1 r1 => hl e G1 H1 σ s1 _ fun G2 H2 x2 s2 => hh e G2 H2 σ s2 _ fun G3 H3 x3 s3 => by
    cases r1 with
    | @tup a xs _ h1 ra =>
      refine ⟨a, xs, rfl, Evl.ex_t ((x2.trans x3).trans s3.ex) h1, by rw [RA.len ra]; exact hne, fun p hp => ?_⟩
      have x := Ex.new (o := .tup (cutV xs lo hi)) (gnone s3.ex hp)
      exact q _ _ _ (((x1.trans x2).trans x3).trans x) (s3.new hp) (.tup (.inl (.inl upd_same)) (ra_cut (RA.mono ((x2.trans x3).trans x) _ _ ra)))
/-- s.m(t), texts -/
theorem ev_m1 {x y : Str} {g : Str → Str → Bool} (ha : Ev K ta τ δ (.str x) δ1) (hb : Ev K tb τ δ1 (.str y) δ2) : Ev K (tM1 (fun x xs H Q => ∃ a b, x = .str a ∧ xs = [.str b] ∧ Q (.bl (g a b)) H) ta tb) τ δ (.bool (g x y)) δ2 := fun e G H σ s Q q =>
  ha e G H σ s _ fun v G1 H1 x1 s1 r1 => by
    cases r1
    refine ⟨⟨x, rfl⟩, hb e G1 H1 σ s1 _ fun w G2 H2 x2 s2 r2 => ?_⟩
    cases r2
    exact ⟨x, y, rfl, rfl, q _ G2 H2 (x1.trans x2) s2 (.bl _)⟩
/-- xs.index(x), texts -/
theorem ev_indexL {x : Str} {ys : List Str} {j : Nat} {t : TA} (ha : Ev K ta τ δ (.list (ys.map .str)) δ1) (hb : EvA K t τ δ1 [.str x] δ2) (hj : ys[j]? = some x) (hn : ∀ m : Nat, m < j → ys[m]? ≠ some x) : Ev K (tBM K "list" (rIndex K) ta t) τ δ (.int (j : Int)) δ2 := fun e G H σ s Q q =>
  ha e G H σ s _ fun v G1 H1 x1 s1 r1 => by
    cases r1 with
    | @lst a xs _ h1 ra =>
      obtain rfl := RA.strs ra
      have hl : SqL K H1 a (ys.map V.str) := .inl (.inl (s1.ex _ _ h1))
      refine ⟨.inl ⟨rfl, _, hl⟩, hb e G1 H1 σ s1 _ fun w G2 H2 x2 s2 r2 => ?_⟩
      cases r2 with
      | cons r3 r4 =>
        cases r4; cases r3
        refine ⟨a, ys.map V.str, .str x, j, .str x, rfl, rfl, .inl (.inl (s2.ex _ _ (x2 _ _ h1))), rfl, flat_strs ys, by rw [List.getElem?_map, hj]; rfl, ?_, fun m z hm hz => ?_, q _ G2 H2 (x1.trans x2) s2 (.int _)⟩
        · show (x == x) = true
          exact beq_self_eq_true _
        · rw [List.getElem?_map] at hz
          cases hy : ys[m]? with
          | none => rw [hy] at hz; cases hz
          | some y =>
            rw [hy] at hz
            obtain rfl := Option.some.inj hz
            show (y == x) = false
            exact beq_eq_false_iff_ne.mpr fun z => hn m hm (by rw [hy, z])
end
end DL
/-! The data layer, further: statements, comprehensions, promises. -/
namespace DL
open PySem PySem.Spec PyProof.Rows L2
open Evl (Ex)
section
variable {K : PySem.W.Frag} {e : En} {G G' H H' B : Hp} {σ : L2.St} {τ τ' : List SV} {δ δ' δ1 δ2 : Option Dr} {te ta tb : TE} {tt : TT} {t u : TS} {d d1 d2 : D} {ds : List D} {E : Ends} {Q : VK} {post : D → Option Dr → Prop}

/-! ### slots -/
theorem Stt.setv {i : Nat} {v : V} (s : Stt K e G H σ τ δ) (r : R K G v d) : Stt K e G H (σ.set i (some v)) (τ.set i (.val d)) δ := by
  refine ⟨s.ex, s.gx, s.nn, s.fr, by rw [List.length_set, List.length_set]; exact s.len, fun j y hy => ?_, fun j k y1 y2 p w1 w2 h1 h2 h3 h4 => ?_, s.dr⟩
  · by_cases hij : i = j
    · subst hij
      by_cases hl : i < τ.length
      · rw [List.getElem?_set_self hl] at hy
        cases hy
        exact ⟨some v, by rw [List.getElem?_set_self (by rw [s.len]; exact hl)], .val r⟩
      · rw [List.getElem?_eq_none (by rw [List.length_set]; omega)] at hy
        cases hy
    · rw [List.getElem?_set_ne hij] at hy ⊢
      exact s.sl j y hy
  · have a1 : i ≠ j := fun z => by
      subst z
      by_cases hl : i < τ.length
      · rw [List.getElem?_set_self hl] at h1; cases h1; cases w1
      · rw [List.getElem?_eq_none (by rw [List.length_set]; omega)] at h1; cases h1
    have a2 : i ≠ k := fun z => by
      subst z
      by_cases hl : i < τ.length
      · rw [List.getElem?_set_self hl] at h2; cases h2; cases w2
      · rw [List.getElem?_eq_none (by rw [List.length_set]; omega)] at h2; cases h2
    rw [List.getElem?_set_ne a1] at h1 h3
    rw [List.getElem?_set_ne a2] at h2 h4
    exact s.dj j k y1 y2 p w1 w2 h1 h2 h3 h4
theorem Stt.setw {i : Nat} {p : Addr} {y0 : SV} (s : Stt K e G H σ τ δ) (sl : Sl K e G H δ (some (.ref p)) y0) (no : ∀ (j : Nat) (y : SV), j ≠ i → y.ow = true → τ[j]? = some y → σ[j]? ≠ some (some (.ref p))) : Stt K e G H (σ.set i (some (.ref p))) (τ.set i y0) δ := by
  refine ⟨s.ex, s.gx, s.nn, s.fr, by rw [List.length_set, List.length_set]; exact s.len, fun j y hy => ?_, fun j k y1 y2 p' w1 w2 h1 h2 h3 h4 => ?_, s.dr⟩
  · by_cases hij : i = j
    · subst hij
      by_cases hl : i < τ.length
      · rw [List.getElem?_set_self hl] at hy
        cases hy
        exact ⟨some (.ref p), by rw [List.getElem?_set_self (by rw [s.len]; exact hl)], sl⟩
      · rw [List.getElem?_eq_none (by rw [List.length_set]; omega)] at hy
        cases hy
    · rw [List.getElem?_set_ne hij] at hy ⊢
      exact s.sl j y hy
  · by_cases a1 : i = j
    · by_cases a2 : i = k
      · exact a1.symm.trans a2
      · exfalso
        subst a1
        rw [List.getElem?_set_ne a2] at h2 h4
        have hl : i < (σ.set i (some (V.ref p))).length := (List.getElem?_eq_some_iff.mp h3).1
        rw [List.length_set] at hl
        rw [List.getElem?_set_self hl] at h3
        cases h3
        exact no k y2 (fun z => a2 z.symm) w2 h2 h4
    · by_cases a2 : i = k
      · exfalso
        subst a2
        rw [List.getElem?_set_ne a1] at h1 h3
        have hl : i < (σ.set i (some (V.ref p))).length := (List.getElem?_eq_some_iff.mp h4).1
        rw [List.length_set] at hl
        rw [List.getElem?_set_self hl] at h4
        cases h4
        exact no j y1 (fun z => a1 z.symm) w1 h1 h3
      · rw [List.getElem?_set_ne a1] at h1 h3
        rw [List.getElem?_set_ne a2] at h2 h4
        exact s.dj j k y1 y2 p' w1 w2 h1 h2 h3 h4
theorem Stt.seto {i : Nat} {p : Addr} {vs : List V} (s : Stt K e G H σ τ δ) (n : ¬ e.N p) (g : G p = none) (h : H p = some (.lst vs)) (ra : RA K G vs ds) (dn : DrNot δ p) (no : ∀ (j : Nat) (y : SV), j ≠ i → y.ow = true → τ[j]? = some y → σ[j]? ≠ some (some (.ref p))) : Stt K e G H (σ.set i (some (.ref p))) (τ.set i (.own ds)) δ :=
  s.setw (.own n g h ra dn) no
/-- an object that is none of ours changes -/
theorem Stt.updO {p : Addr} {o : HO} (s : Stt K e G H σ τ δ) (g : G p = none) (n : ¬ e.N p) (dn : DrNot δ p) (no : NoOw τ σ p) : Stt K e G (upd H p o) σ τ δ := by
  refine ⟨s.ex.mut g, s.gx, s.nn, fun a ha => ?_, s.len, fun i y hy => ?_, s.dj, ?_⟩
  · rw [upd_ne (fun z => n (by rw [← z]; exact ha))]; exact s.fr a ha
  · obtain ⟨w, h1, h2⟩ := s.sl i y hy
    refine ⟨w, h1, ?_⟩
    cases h2 with
    | any => exact .any _
    | val r => exact .val r
    | own n' g' h' ra dn' => exact .own n' g' (by rw [upd_ne (fun z => no i _ rfl hy (by rw [← z]; exact h1))]; exact h') ra dn'
    | drw h => exact .drw h
    | dct n' g' h' ra dn' => exact .dct n' g' (by rw [upd_ne (fun z => no i _ rfl hy (by rw [← z]; exact h1))]; exact h') ra dn'
    | exc h => exact .exc h
    | raw v => exact .raw v
  · have := s.dr
    cases δ with
    | none => trivial
    | some q =>
      obtain ⟨a, b, c, n1, n2, f, k, ok, oj⟩ := this
      exact ⟨a, b, c, n1, n2, by rw [upd_ne dn.1.symm]; exact f, by rw [upd_ne dn.2.1.symm]; exact k, ok.chg (Ex.refl G) fun o' ho a ha g' h' => ⟨g', upd_ne (fun z => dn.2.2 o' ho (by rw [← z]; exact ha))⟩, oj⟩
theorem Stt.anyAt {i : Nat} (s : Stt K e G H σ τ δ) : Stt K e G H σ (τ.set i .any) δ := by
  by_cases hl : i < τ.length
  · refine ⟨s.ex, s.gx, s.nn, s.fr, by rw [List.length_set]; exact s.len, fun j y hy => ?_, fun j k y1 y2 p' w1 w2 z1 z2 z3 z4 => ?_, s.dr⟩
    · by_cases hij : i = j
      · subst hij
        obtain ⟨w, h1, _⟩ := s.sl i _ (List.getElem?_eq_getElem hl)
        rw [List.getElem?_set_self hl] at hy
        cases hy
        exact ⟨w, h1, .any w⟩
      · rw [List.getElem?_set_ne hij] at hy; exact s.sl j y hy
    · have a1 : i ≠ j := fun z => by subst z; rw [List.getElem?_set_self hl] at z1; cases z1; cases w1
      have a2 : i ≠ k := fun z => by subst z; rw [List.getElem?_set_self hl] at z2; cases z2; cases w2
      rw [List.getElem?_set_ne a1] at z1
      rw [List.getElem?_set_ne a2] at z2
      exact s.dj j k y1 y2 p' w1 w2 z1 z2 z3 z4
  · rw [List.set_eq_of_length_le (by omega)]; exact s
theorem set_self {i : Nat} {p : Addr} (hp : σ[i]? = some (some (.ref p))) : σ.set i (some (.ref p)) = σ := by
  refine List.ext_getElem? fun j => ?_
  by_cases hij : i = j
  · subst hij; rw [List.getElem?_set_self (List.getElem?_eq_some_iff.mp hp).1, hp]
  · rw [List.getElem?_set_ne hij]
/-- an owned slot looked away from: nobody else has it -/
theorem Stt.noAt {i : Nat} {p : Addr} {y0 : SV} (s : Stt K e G H σ τ δ) (w0 : y0.ow = true) (hi : τ[i]? = some y0) (hp : σ[i]? = some (some (.ref p))) : NoOw (τ.set i .any) σ p := fun j y hy z1 z2 => by
  have hl := (List.getElem?_eq_some_iff.mp hi).1
  have a1 : i ≠ j := fun z => by subst z; rw [List.getElem?_set_self hl] at z1; cases z1; cases hy
  rw [List.getElem?_set_ne a1] at z1
  exact a1 (s.dj i j _ _ p w0 hy hi z1 hp z2)
theorem Stt.updOwn {i : Nat} {p : Addr} {vs : List V} {es : List D} (s : Stt K e G H σ τ δ) (hi : τ[i]? = some (.own ds)) (hp : σ[i]? = some (some (.ref p))) (ra : RA K G vs es) : Stt K e G (upd H p (.lst vs)) σ (τ.set i (.own es)) δ := by
  obtain ⟨w, h1, h2⟩ := s.sl i _ hi
  rw [hp] at h1
  cases h1
  cases h2 with
  | @own _ vs0 _ n g h ra0 dn =>
    have no := s.noAt rfl hi hp
    have s2 := (s.anyAt (i := i)).updO (o := .lst vs) g n dn no
    have s3 := s2.seto (i := i) n g upd_same ra dn fun j y _ => no j y
    rw [List.set_set, set_self hp] at s3
    exact s3
theorem Stt.updDct {P : Program} {w : World} {kvs kvs' : List (D × D)} {i : Nat} {p : Addr} {xs : List DR.Ent} (s : Stt K e G H σ τ δ) (hi : τ[i]? = some (.dct P w kvs)) (hp : σ[i]? = some (some (.ref p))) (ra : Paired (DE K G) xs kvs') : Stt K e G (upd H p (DR.DO P w p xs)) σ (τ.set i (.dct P w kvs')) δ := by
  obtain ⟨v, h1, h2⟩ := s.sl i _ hi
  rw [hp] at h1
  cases h1
  cases h2 with
  | dct n g h ra0 dn =>
    have no := s.noAt rfl hi hp
    have s2 := (s.anyAt (i := i)).updO (o := DR.DO P w p xs) g n dn no
    have s3 := s2.setw (i := i) (.dct n g upd_same ra dn) fun j y _ => no j y
    rw [List.set_set, set_self hp] at s3
    exact s3
theorem Stt.fzAt {i : Nat} (s : Stt K e G H σ τ δ) (hi : τ[i]? = some (.own ds)) : ∃ G', Ex G G' ∧ Stt K e G' H σ (τ.set i (.val (.list ds))) δ := by
  obtain ⟨w, h1, h2⟩ := s.sl i _ hi
  cases h2 with
  | @own p vs0 _ n g h ra0 dn =>
    have s2 := (s.anyAt (i := i)).freeze g n dn (s.noAt rfl hi h1) h
    have x := Ex.new (o := .lst vs0) g
    refine ⟨_, x, ?_⟩
    have s3 := s2.setv (i := i) (.lst upd_same (RA.mono x _ _ ra0))
    rw [List.set_set, set_self h1] at s3
    exact s3

/-! ### statements -/
theorem sd_seq (h : SD K e B t { E with nx := u E } τ δ) : SD K e B (tSeq t u) E τ δ := h
theorem sd_next (h : SD K e B u E τ δ) : SD K e B tNext { E with nx := u E } τ δ := h
theorem sd_nm (τ' : List SV) (h : τ = τ') (k : SD K e B t E τ' δ) : SD K e B t E τ δ := h ▸ k
theorem sd_nxt (τ' : List SV) (h : τ = τ') (k : SD K e B u E τ' δ) : SD K e B tNext { E with nx := u E } τ δ := h ▸ k
theorem sd_asg {i : Nat} (h : Ev K te τ δ d δ1) (k : SD K e B tNext E (τ.set i (.val d)) δ1) : SD K e B (tAsg te (gName i)) E τ δ := fun G H σ b s =>
  h e G H σ s _ fun v G1 H1 x1 s1 r1 => k G1 H1 _ (b.trans x1) (s1.setv r1)
theorem sd_asgF {i : Nat} (h : EvF K te τ δ ds δ1) (k : SD K e B tNext E (τ.set i (.own ds)) δ1) : SD K e B (tAsg te (gName i)) E τ δ := fun G H σ b s =>
  h e G H σ s _ fun p vs G1 H1 x1 s1 g n dn no hp ra => k G1 H1 _ (b.trans x1) (s1.seto n g hp ra dn fun j y _ => no j y)
theorem sd_if {b : Bool} (h : EvT K tt τ δ b δ1) (h1 : b = true → SD K e B t E τ δ1) (h2 : b = false → SD K e B u E τ δ1) : SD K e B (tIfS tt t u) E τ δ := fun G H σ x s =>
  h e G H σ s _ fun G1 H1 x1 s1 => by
    cases b with
    | true => exact iteT (h1 rfl G1 H1 σ (x.trans x1) s1)
    | false => exact iteF (h2 rfl G1 H1 σ (x.trans x1) s1)
theorem sd_ret (hq : Rt K e E.rt post) (h : Ev K te τ δ d δ1) (hp : post d δ1) : SD K e B (tRet te) E τ δ := fun G H σ b s =>
  h e G H σ s _ fun v G1 H1 x1 s1 r1 => hq v G1 H1 σ τ δ1 d s1 r1 hp
theorem sd_end {R : VK} (hq : Rt K e Q post) (hp : post .none δ) : SD K e B tNext { nx := fun _ H' => Q .non H', rt := R } τ δ := fun G H σ b s => hq .non G H σ τ δ .none s .non hp
theorem sd_drop (h : Ev K te τ δ d δ1) (k : SD K e B tNext E τ δ1) : SD K e B (tDrop te) E τ δ := fun G H σ b s =>
  h e G H σ s _ fun v G1 H1 x1 s1 r1 => k G1 H1 σ (b.trans x1) s1
theorem sd_fz (i : Nat) (hi : τ[i]? = some (.own ds)) (k : SD K e B t E (τ.set i (.val (.list ds))) δ) : SD K e B t E τ δ := fun G H σ b s => by
  obtain ⟨G1, x, s1⟩ := s.fzAt hi
  exact k G1 H σ (b.trans x) s1
theorem sd_any (i : Nat) (k : SD K e B t E (τ.set i .any) δ) : SD K e B t E τ δ := fun G H σ b s => k G H σ b s.anyAt
theorem own_at {i : Nat} (s : Stt K e G H σ τ δ) (hi : τ[i]? = some (.own ds)) : ∃ p vs, σ[i]? = some (some (.ref p)) ∧ H p = some (.lst vs) ∧ RA K G vs ds := by
  obtain ⟨w, h1, h2⟩ := s.sl i _ hi
  cases h2 with
  | @own p vs0 _ n g h ra0 dn => exact ⟨p, vs0, h1, h, ra0⟩
theorem sd_append {i : Nat} (hi : τ[i]? = some (.own ds)) (h : Ev K te τ δ d δ1) (hl : ds.length ≤ 1000000) (k : SD K e B tNext E (τ.set i (.own (ds ++ [d]))) δ1) : SD K e B (tDrop (tBM K "list" rAppend (tVar i) (tCons te tNil))) E τ δ := fun G H σ b s => by
  obtain ⟨p, vs, h1, h2, _⟩ := own_at s hi
  refine ⟨.ref p, h1, .inl ⟨rfl, _, .inl (.inl h2)⟩, h e G H σ s _ fun v G1 H1 x1 s1 r1 => ?_⟩
  obtain ⟨p', vs1, h1', h2', ra⟩ := own_at s1 hi
  rw [h1] at h1'
  cases h1'
  exact ⟨p, vs1, v, rfl, rfl, h2', by rw [RA.len ra]; exact Nat.lt_of_le_of_lt hl (by decide), k G1 _ σ (b.trans x1) (s1.updOwn hi h1 (RA.app ra (.cons r1 .nil)))⟩
theorem sd_extend {i : Nat} {es : List D} (hi : τ[i]? = some (.own ds)) (h : Ev K te τ δ (.list es) δ1) (hl : ds.length + es.length ≤ 100000) (k : SD K e B tNext E (τ.set i (.own (ds ++ es))) δ1) : SD K e B (tDrop (tBM K "list" rExtend (tVar i) (tCons te tNil))) E τ δ := fun G H σ b s => by
  obtain ⟨p, vs, h1, h2, _⟩ := own_at s hi
  refine ⟨.ref p, h1, .inl ⟨rfl, _, .inl (.inl h2)⟩, h e G H σ s _ fun v G1 H1 x1 s1 r1 => ?_⟩
  obtain ⟨p', vs1, h1', h2', ra⟩ := own_at s1 hi
  rw [h1] at h1'
  cases h1'
  cases r1 with
  | @lst a ws _ h3 rb =>
    exact ⟨p, a, vs1, ws, rfl, rfl, h2', s1.ex _ _ h3, by rw [RA.len ra, RA.len rb]; exact Evl.sz_of hl, k G1 _ σ (b.trans x1) (s1.updOwn hi h1 (RA.app ra rb))⟩
/-- a, b, c = e -/
def GD (K : PySem.W.Frag) (gs : TGs) (ds : List D) (τ τ' : List SV) (δ : Option Dr) : Prop := ∀ e G H σ vs, Stt K e G H σ τ δ → RA K G vs ds → ∀ Q : L2.St → Hp → Prop, (∀ σ', Stt K e G H σ' τ' δ → Q σ' H) → gs vs σ H Q
theorem gd_nil : GD K gNil [] τ τ δ := fun e G H σ vs s r Q q => by cases r; exact ⟨rfl, q σ s⟩
theorem gd_cons {i : Nat} {gs : TGs} (h : GD K gs ds (τ.set i (.val d)) τ' δ) : GD K (gCons (gName i) gs) (d :: ds) τ τ' δ := fun e G H σ vs s r Q q => by
  cases r with
  | cons r1 r2 => exact ⟨_, _, rfl, h e G H _ _ (s.setv r1) r2 Q q⟩
theorem sd_unpack {n : Nat} {gs : TGs} (h : Ev K te τ δ (.tuple ds) δ1) (g : GD K gs ds τ τ' δ1) (hn : ds.length = n) (k : SD K e B tNext E τ' δ1) : SD K e B (tAsg te (gTup K n gs)) E τ δ := fun G H σ b s =>
  h e G H σ s _ fun v G1 H1 x1 s1 r1 => by
    cases r1 with
    | @tup a xs _ h1 ra => exact ⟨a, xs, rfl, Evl.ex_t s1.ex h1, by rw [RA.len ra]; exact hn, g e G1 H1 σ xs s1 ra _ fun σ' s' => k G1 H1 σ' (b.trans x1) s'⟩
theorem sd_par {i j : Nat} (h1 : Ev K ta τ δ d1 δ1) (h2 : Ev K tb τ δ1 d2 δ2) (k : SD K e B tNext E ((τ.set i (.val d1)).set j (.val d2)) δ2) : SD K e B (tPar i j (tCons ta (tCons tb tNil))) E τ δ := fun G H σ b s =>
  h1 e G H σ s _ fun v G1 H1 x1 s1 r1 => h2 e G1 H1 σ s1 _ fun w G2 H2 x2 s2 r2 => ⟨v, w, rfl, k G2 H2 _ ((b.trans x1).trans x2) ((s2.setv (R.mono x2 _ _ r1)).setv r2)⟩
def En.plus (e : En) (p : Addr) (o : HO) : En := ⟨fun a => e.N a ∨ a = p, fun a => if a = p then some o else e.H0 a, e.G0⟩
theorem Stt.plus {p : Addr} {o : HO} (s : Stt K e G H σ τ δ) (g : G p = none) (h : H p = some o) (n : ¬ e.N p) (dn : DrNot δ p) (no : NoOw τ σ p) : Stt K (e.plus p o) G H σ τ δ := by
  refine ⟨s.ex, s.gx, fun a ha => ?_, fun a ha => ?_, s.len, fun i y hy => ?_, s.dj, ?_⟩
  · show (if a = p then some o else e.H0 a) ≠ none
    split
    · exact fun z => by cases z
    · rename_i hne; exact s.nn a (ha.resolve_right hne)
  · show G a = none ∧ H a = (if a = p then some o else e.H0 a)
    split
    · rename_i z; subst z; exact ⟨g, h⟩
    · rename_i hne; exact s.fr a (ha.resolve_right hne)
  · obtain ⟨w, h1, h2⟩ := s.sl i y hy
    refine ⟨w, h1, ?_⟩
    cases h2 with
    | any => exact .any _
    | val r => exact .val r
    | own n' g' h' ra dn' => exact .own (fun z => z.elim n' fun z => no i _ rfl hy (by rw [← z]; exact h1)) g' h' ra dn'
    | drw h => exact .drw h
    | dct n' g' h' ra dn' => exact .dct (fun z => z.elim n' fun z => no i _ rfl hy (by rw [← z]; exact h1)) g' h' ra dn'
    | exc h => exact .exc h
    | raw v => exact .raw v
  · have := s.dr
    cases δ with
    | none => trivial
    | some q =>
      obtain ⟨a, b, c, n1, n2, f, k, ok, oj⟩ := this
      exact ⟨a, b, c, fun z => z.elim n1 fun z => dn.1 z.symm, fun z => z.elim n2 fun z => dn.2.1 z.symm, f, k, fun o' ho => ⟨(ok o' ho).1, fun a ha => ⟨((ok o' ho).2 a ha).1, fun z => z.elim ((ok o' ho).2 a ha).2.1 fun z => dn.2.2 o' ho (by rw [← z]; exact ha), ((ok o' ho).2 a ha).2.2⟩⟩, oj⟩
theorem Stt.minus {p : Addr} {o : HO} (s : Stt K (e.plus p o) G H σ τ δ) (n : ¬ e.N p) (nn : ∀ a, e.N a → e.H0 a ≠ none) : Stt K e G H σ τ δ ∧ G p = none ∧ H p = some o ∧ DrNot δ p ∧ NoOw τ σ p := by
  have f0 := s.fr p (.inr rfl)
  have f1 : H p = some o := by rw [f0.2]; show (if p = p then some o else _) = _; rw [if_pos rfl]
  refine ⟨⟨s.ex, s.gx, nn, fun a ha => ?_, s.len, fun i y hy => ?_, s.dj, ?_⟩, f0.1, f1, ?_, fun i y hy z1 z2 => ?_⟩
  · have f := s.fr a (.inl ha)
    refine ⟨f.1, ?_⟩
    rw [f.2]
    show (if a = p then some o else e.H0 a) = _
    rw [if_neg fun z => n (by rw [← z]; exact ha)]
  · obtain ⟨w, h1, h2⟩ := s.sl i y hy
    refine ⟨w, h1, ?_⟩
    cases h2 with
    | any => exact .any _
    | val r => exact .val r
    | own n' g' h' ra dn' => exact .own (fun z => n' (.inl z)) g' h' ra dn'
    | drw h => exact .drw h
    | dct n' g' h' ra dn' => exact .dct (fun z => n' (.inl z)) g' h' ra dn'
    | exc h => exact .exc h
    | raw v => exact .raw v
  · have := s.dr
    cases δ with
    | none => trivial
    | some q =>
      obtain ⟨a, b, c, n1, n2, f, k, ok, oj⟩ := this
      exact ⟨a, b, c, fun z => n1 (.inl z), fun z => n2 (.inl z), f, k, fun o' ho => ⟨(ok o' ho).1, fun a ha => ⟨((ok o' ho).2 a ha).1, fun z => ((ok o' ho).2 a ha).2.1 (.inl z), ((ok o' ho).2 a ha).2.2⟩⟩, oj⟩
  · have := s.dr
    cases δ with
    | none => trivial
    | some q =>
      obtain ⟨a, b, c, n1, n2, f, k, ok, oj⟩ := this
      exact ⟨fun z => n1 (.inr z.symm), fun z => n2 (.inr z.symm), fun o' ho ha => ((ok o' ho).2 p ha).2.1 (.inr rfl)⟩
  · obtain ⟨w, h1, h2⟩ := s.sl i _ z1
    rw [z2] at h1
    cases h1
    cases h2 with
    | own n' g' h' ra dn' => exact n' (.inr rfl)
    | dct n' g' h' ra dn' => exact n' (.inr rfl)
    | any => cases hy
    | val _ => cases hy
    | drw _ => cases hy
    | exc _ => cases hy
    | raw _ => cases hy
theorem sd_parF {i j : Nat} (hij : i ≠ j) (h1 : EvF K ta τ δ ds δ1) (h2 : Ev K tb τ δ1 d2 δ2) (k : SD K e B tNext E ((τ.set i (.own ds)).set j (.val d2)) δ2) : SD K e B (tPar i j (tCons ta (tCons tb tNil))) E τ δ := fun G H σ b s =>
  h1 e G H σ s _ fun p vs G1 H1 x1 s1 g n dn no hp ra => h2 (e.plus p (.lst vs)) G1 H1 σ (s1.plus g hp n dn no) _ fun w G2 H2 x2 s2 r2 => by
    obtain ⟨s3, g3, h3, dn3, no3⟩ := s2.minus n s1.nn
    exact ⟨.ref p, w, rfl, k G2 H2 _ ((b.trans x1).trans x2) ((s3.seto n g3 h3 (RA.mono x2 _ _ ra) dn3 fun j y _ => no3 j y).setv r2)⟩

/-! ### loops -/
def InvAt (K : PySem.W.Frag) (e : En) (B : Hp) (τ : List SV) (δ : Option Dr) : L2.St → Hp → Prop := fun σ H => ∃ G, Ex B G ∧ Stt K e G H σ τ δ
theorem sd_inv : SD K e B tNext { E with nx := InvAt K e B τ δ } τ δ := fun G H σ b s => ⟨G, b, s⟩
theorem sd_ofInv (h : SD K e B t E τ δ) {σ : L2.St} {H : Hp} (i : InvAt K e B τ δ σ H) : t E σ H := by
  obtain ⟨G, b, s⟩ := i
  exact h G H σ b s
abbrev lpE (K : PySem.W.Frag) (e : En) (B : Hp) (E : Ends) (τ : List SV) (δ : Option Dr) : Ends := { E with nx := InvAt K e B τ δ, ct := InvAt K e B τ δ, bk := E.nx }
theorem sd_forL {tl : TE} {j : Nat} (h : Ev K tl τ δ (.list ds) δ1) (inv : Nat → List SV) (dl : Nat → Option Dr) (h0 : inv 0 = τ) (hd0 : dl 0 = δ1)
    (step : ∀ i d B', Ex B B' → ds[i]? = some d → SD K e B' t (lpE K e B' E (inv (i + 1)) (dl (i + 1))) ((inv i).set j (.val d)) (dl i)) (done : SD K e B tNext E (inv ds.length) (dl ds.length)) : SD K e B (tFor (iList K tl) (gName j) t) E τ δ := fun G H σ b s =>
  h e G H σ s _ fun v G1 H1 x1 s1 r1 => by
    cases r1 with
    | @lst a xs _ hx ra =>
      refine ⟨a, rfl, ⟨xs, .inl (.inl (s1.ex _ _ hx))⟩, for_list (xs := xs) (fun i σ' H' => InvAt K e G1 (inv i) (dl i) σ' H') ⟨G1, Ex.refl G1, by rw [h0, hd0]; exact s1⟩ (fun i σ' H' _ ⟨G2, b2, s2⟩ => .inl (.inl (s2.ex _ _ (b2 _ _ hx)))) (fun i x σ' H' hi ⟨G2, b2, s2⟩ => ?_) fun σ' H' ⟨G2, b2, s2⟩ => ?_⟩
      · obtain ⟨d, hd, rd⟩ := RA.get ra i x hi
        exact step i d G1 (b.trans x1) hd G2 H' _ b2 (s2.setv (R.mono b2 _ _ rd))
      · rw [RA.len ra] at s2
        exact done G2 H' σ' ((b.trans x1).trans b2) s2
theorem sd_forT {tl : TE} {j : Nat} (h : Ev K tl τ δ (.tuple ds) δ1) (inv : Nat → List SV) (dl : Nat → Option Dr) (h0 : inv 0 = τ) (hd0 : dl 0 = δ1)
    (step : ∀ i d B', Ex B B' → ds[i]? = some d → SD K e B' t (lpE K e B' E (inv (i + 1)) (dl (i + 1))) ((inv i).set j (.val d)) (dl i)) (done : SD K e B tNext E (inv ds.length) (dl ds.length)) : SD K e B (tFor (iTup K tl) (gName j) t) E τ δ := fun G H σ b s =>
  h e G H σ s _ fun v G1 H1 x1 s1 r1 => by
    cases r1 with
    | @tup a xs _ hx ra =>
      refine ⟨a, rfl, ⟨xs, Evl.ex_t s1.ex hx⟩, for_tup (xs := xs) (fun i σ' H' => InvAt K e G1 (inv i) (dl i) σ' H') ⟨G1, Ex.refl G1, by rw [h0, hd0]; exact s1⟩ (fun i σ' H' _ ⟨G2, b2, s2⟩ => Evl.ex_t (b2.trans s2.ex) hx) (fun i x σ' H' hi ⟨G2, b2, s2⟩ => ?_) fun σ' H' ⟨G2, b2, s2⟩ => ?_⟩
      · obtain ⟨d, hd, rd⟩ := RA.get ra i x hi
        exact step i d G1 (b.trans x1) hd G2 H' _ b2 (s2.setv (R.mono b2 _ _ rd))
      · rw [RA.len ra] at s2
        exact done G2 H' σ' ((b.trans x1).trans b2) s2
theorem sd_forR {ta : TA} {j n : Nat} (h : EvA K ta τ δ [.int (n : Int)] δ1) (hn : n ≤ 100000) (inv : Nat → List SV) (dl : Nat → Option Dr) (h0 : inv 0 = τ) (hd0 : dl 0 = δ1)
    (step : ∀ i B', Ex B B' → i < n → SD K e B' t (lpE K e B' E (inv (i + 1)) (dl (i + 1))) ((inv i).set j (.val (.int (i : Int)))) (dl i)) (done : SD K e B tNext E (inv n) (dl n)) : SD K e B (tFor (iRng1 ta) (gName j) t) E τ δ := fun G H σ b s =>
  h e G H σ s _ fun vs G1 H1 x1 s1 r1 => by
    cases r1 with
    | cons r2 r3 =>
      cases r3; cases r2
      refine ⟨(n : Int), rfl, by omega, by omega, ?_⟩
      rw [Int.toNat_natCast]
      refine for_range (lo := 0) (n := n) (fun i σ' H' => InvAt K e G1 (inv i) (dl i) σ' H') ⟨G1, Ex.refl G1, by rw [h0, hd0]; exact s1⟩ (fun i σ' H' hi ⟨G2, b2, s2⟩ => ?_) fun σ' H' ⟨G2, b2, s2⟩ => done G2 H' σ' ((b.trans x1).trans b2) s2
      have e0 : (0 : Int) + (i : Int) = (i : Int) := Int.zero_add _
      rw [e0]
      exact step i G1 (b.trans x1) hi G2 H' _ b2 (s2.setv (.int _))
theorem sd_forR2 {ta : TA} {j lo hi : Nat} (h : EvA K ta τ δ [.int (lo : Int), .int (hi : Int)] δ1) (hlh : lo ≤ hi) (hn : hi ≤ 100000) (inv : Nat → List SV) (dl : Nat → Option Dr) (h0 : inv lo = τ) (hd0 : dl lo = δ1)
    (step : ∀ i B', Ex B B' → lo ≤ i → i < hi → SD K e B' t (lpE K e B' E (inv (i + 1)) (dl (i + 1))) ((inv i).set j (.val (.int (i : Int)))) (dl i)) (done : SD K e B tNext E (inv hi) (dl hi)) : SD K e B (tFor (iRng2 ta) (gName j) t) E τ δ := fun G H σ b s =>
  h e G H σ s _ fun vs G1 H1 x1 s1 r1 => by
    cases r1 with
    | cons r2 r3 =>
      cases r3 with
      | cons r4 r5 =>
        cases r5; cases r2; cases r4
        refine ⟨(lo : Int), (hi : Int), rfl, by omega, ?_⟩
        have e1 : ((hi : Int) - (lo : Int)).toNat = hi - lo := by omega
        rw [e1]
        refine for_range (lo := (lo : Int)) (n := hi - lo) (fun i σ' H' => InvAt K e G1 (inv (lo + i)) (dl (lo + i)) σ' H') ⟨G1, Ex.refl G1, by rw [Nat.add_zero, h0, hd0]; exact s1⟩ (fun i σ' H' hi ⟨G2, b2, s2⟩ => ?_) fun σ' H' ⟨G2, b2, s2⟩ => ?_
        · have e0 : (lo : Int) + (i : Int) = ((lo + i : Nat) : Int) := by omega
          rw [e0]
          exact step (lo + i) G1 (b.trans x1) (by omega) (by omega) G2 H' _ b2 (s2.setv (.int _))
        · rw [show lo + (hi - lo) = hi by omega] at s2
          exact done G2 H' σ' ((b.trans x1).trans b2) s2
theorem sd_while {α : Type} (x0 : α) (inv : α → List SV) (μ : α → Nat) (c : α → Bool) (h0 : inv x0 = τ) (hc : ∀ x, EvT K tt (inv x) δ (c x) δ)
    (step : ∀ x B', Ex B B' → c x = true → SD K e B' t { E with nx := fun σ H => ∃ x', μ x' < μ x ∧ InvAt K e B' (inv x') δ σ H, ct := fun σ H => ∃ x', μ x' < μ x ∧ InvAt K e B' (inv x') δ σ H, bk := E.nx } (inv x) δ)
    (done : ∀ x, c x = false → SD K e B tNext E (inv x) δ) : SD K e B (tWhile tt t) E τ δ := fun G H σ b s => by
  refine ⟨fun m σ' H' => ∃ x, μ x = m ∧ InvAt K e G (inv x) δ σ' H', ⟨μ x0, x0, rfl, G, Ex.refl G, by rw [h0]; exact s⟩, fun m σ' H' ⟨x, hm, G2, b2, s2⟩ => ?_⟩
  refine hc x e G2 H' σ' s2 _ fun G3 H3 x3 s3 => ?_
  cases hcx : c x with
  | true =>
    refine iteT ⟨fun σ H => ∃ x', μ x' < μ x ∧ InvAt K e G (inv x') δ σ H, fun σ4 H4 ⟨x', hx', i'⟩ => ⟨μ x', by omega, x', rfl, i'⟩, step x G b hcx G3 H3 σ' (b2.trans x3) s3⟩
  | false => exact iteF (done x hcx G3 H3 σ' ((b.trans b2).trans x3) s3)

/-! ### comprehensions -/
theorem Stt.back {e' : En} {j : Nat} {o : Option V} {y : SV} (s : Stt K e G H σ τ δ) (hj : τ[j]? = some .any) (x : Ex G G') (s' : Stt K e G' H' (σ.set j o) (τ.set j y) δ') : Stt K e G' H' σ τ δ' := by
  refine ⟨s'.ex, s'.gx, s'.nn, s'.fr, s.len, fun i z hz => ?_, fun i k y1 y2 p w1 w2 h1 h2 h3 h4 => ?_, s'.dr⟩
  · by_cases hij : j = i
    · subst hij
      rw [hj] at hz
      cases hz
      obtain ⟨w, h1, _⟩ := s.sl j _ hj
      exact ⟨w, h1, .any w⟩
    · obtain ⟨w, h1, h2⟩ := s'.sl i z (by rw [List.getElem?_set_ne hij]; exact hz)
      rw [List.getElem?_set_ne hij] at h1
      exact ⟨w, h1, h2⟩
  · have a1 : j ≠ i := fun z => by subst z; rw [hj] at h1; cases h1; cases w1
    have a2 : j ≠ k := fun z => by subst z; rw [hj] at h2; cases h2; cases w2
    exact s'.dj i k y1 y2 p w1 w2 (by rw [List.getElem?_set_ne a1]; exact h1) (by rw [List.getElem?_set_ne a2]; exact h2) (by rw [List.getElem?_set_ne a1]; exact h3) (by rw [List.getElem?_set_ne a2]; exact h4)
theorem wipe1 {j : Nat} {x : V} : wipe ((wipe σ [j]).set j (some x)) [j] = wipe σ [j] := by
  show ((σ.set j none).set j (some x)).set j none = σ.set j none
  rw [List.set_set, List.set_set]
/-- the list that a comprehension makes, at turn i -/
def LcP (K : PySem.W.Frag) (e : En) (B : Hp) (σ : L2.St) (τ : List SV) (D' : Addr) (acc : Nat → List PyData) (dl : Nat → Option Dr) (i : Nat) (H : Hp) : Prop :=
  ∃ G vs, Ex B G ∧ Stt K e G H σ τ (dl i) ∧ G D' = none ∧ ¬ e.N D' ∧ DrNot (dl i) D' ∧ NoOw τ σ D' ∧ H D' = some (.lst vs) ∧ RA K G vs (acc i)
theorem lc_turn {D' : Addr} {acc : Nat → List PyData} {dl : Nat → Option Dr} {i j : Nat} {x : V} {f : Bool} {te : TE} (hP : LcP K e B σ τ D' acc dl i H) (hj : τ[j]? = some .any) (rx : ∀ G, Ex B G → R K G x d)
    (ht : EvT K tt (τ.set j (.val d)) (dl i) f (dl i)) (hf : f = false → acc (i + 1) = acc i ∧ dl (i + 1) = dl i) (he : f = true → ∃ y, acc (i + 1) = acc i ++ [y] ∧ Ev K te (τ.set j (.val d)) (dl i) y (dl (i + 1))) (hl : (acc i).length ≤ 100000) :
    tt ((wipe σ [j]).set j (some x)) H fun b H3 => if b = true then te ((wipe σ [j]).set j (some x)) H3 fun y H4 => ∃ acc', H4 D' = some (.lst acc') ∧ acc'.length < sizeLine ∧ LcP K e B σ τ D' acc dl (i + 1) (upd H4 D' (.lst (acc' ++ [y]))) else LcP K e B σ τ D' acc dl (i + 1) H3 := by
  obtain ⟨G, vs, xb, s, g, n, dn, no, hD, ra⟩ := hP
  have e1 : (wipe σ [j]).set j (some x) = σ.set j (some x) := by
    show (σ.set j none).set j (some x) = σ.set j (some x)
    rw [List.set_set]
  rw [e1]
  have sp := (s.plus g hD n dn no).setv (i := j) (rx G xb)
  refine ht _ G H _ sp _ fun G3 H3 x3 s3 => ?_
  have bk : ∀ {G4 H4 : Hp} {δ4 : Option Dr}, Ex G G4 → Stt K (e.plus D' (.lst vs)) G4 H4 (σ.set j (some x)) (τ.set j (.val d)) δ4 → Stt K e G4 H4 σ τ δ4 ∧ G4 D' = none ∧ H4 D' = some (.lst vs) ∧ DrNot δ4 D' := fun {G4 H4 δ4} x4 s4 => by
    obtain ⟨q1, q2, q3, q4, _⟩ := s4.minus n s.nn
    exact ⟨Stt.back (e' := e) s hj x4 q1, q2, q3, q4⟩
  cases f with
  | true =>
    obtain ⟨y, ay, hy⟩ := he rfl
    refine iteT (hy _ G3 H3 _ s3 _ fun v G4 H4 x4 s4 r4 => ?_)
    obtain ⟨q1, q2, q3, q4⟩ := bk (x3.trans x4) s4
    refine ⟨vs, q3, by rw [RA.len ra]; exact Nat.lt_of_le_of_lt hl (by decide), G4, vs ++ [v], (xb.trans x3).trans x4, q1.updO q2 n q4 no, q2, n, q4, no, upd_same, ?_⟩
    rw [ay]
    exact RA.app (RA.mono (x3.trans x4) _ _ ra) (.cons r4 .nil)
  | false =>
    obtain ⟨q1, q2, q3, q4⟩ := bk x3 s3
    obtain ⟨a1, a2⟩ := hf rfl
    refine iteF ⟨G3, vs, xb.trans x3, by rw [a2]; exact q1, q2, n, by rw [a2]; exact q4, no, q3, ?_⟩
    rw [a1]
    exact RA.mono x3 _ _ ra
theorem lc_start {D' : Addr} {acc : Nat → List PyData} {dl : Nat → Option Dr} (s : Stt K e G H σ τ δ) (hd : dl 0 = δ) (h0 : acc 0 = []) (hD : H D' = none) : LcP K e G σ τ D' acc dl 0 (upd H D' (.lst [])) :=
  ⟨G, [], Ex.refl G, by rw [hd]; exact s.newH hD, gnone s.ex hD, s.notN hD, by rw [hd]; exact s.dr.not hD, s.notOwn hD, upd_same, by rw [h0]; exact .nil⟩
/-- [te for x in list if tt], told turn by turn -/
theorem ef_lcL {tl : TE} {j : Nat} (h : Ev K tl τ δ (.list ds) δ1) (hj : τ[j]? = some .any) (acc : Nat → List PyData) (dl : Nat → Option Dr) (f : Nat → Bool) (h0 : acc 0 = []) (hd0 : dl 0 = δ1) (hl : ∀ i, i ≤ ds.length → (acc i).length ≤ 100000)
    (ht : ∀ i d, ds[i]? = some d → EvT K tt (τ.set j (.val d)) (dl i) (f i) (dl i)) (hf : ∀ i, f i = false → acc (i + 1) = acc i ∧ dl (i + 1) = dl i) (he : ∀ i d, ds[i]? = some d → f i = true → ∃ y, acc (i + 1) = acc i ++ [y] ∧ Ev K te (τ.set j (.val d)) (dl i) y (dl (i + 1))) :
    EvF K (tLc (iList K tl) (gName j) tt te [j]) τ δ (acc ds.length) (dl ds.length) := fun e G H σ s Q q => h e G H σ s _ fun v G1 H1 x1 s1 r1 => by
  cases r1 with
  | @lst a xs _ hx ra =>
    refine ⟨a, rfl, ⟨xs, .inl (.inl (s1.ex _ _ hx))⟩, fun D' hD => lc_list (xs := xs) (fun i H' => LcP K e G1 σ τ D' acc dl i H') (lc_start s1 hd0 h0 hD) (fun i H' _ hP => ?_) (fun i x H' hi hP => ?_) fun H' hP => ?_⟩
    · obtain ⟨G2, vs, b2, s2, _⟩ := hP
      exact .inl (.inl (s2.ex _ _ (b2 _ _ hx)))
    · obtain ⟨d, hd, rd⟩ := RA.get ra i x hi
      refine ⟨wipe1, lc_turn hP hj (fun G2 b2 => R.mono b2 _ _ rd) (ht i d hd) (hf i) (fun hfi => he i d hd hfi) (hl i ?_)⟩
      have := (List.getElem?_eq_some_iff.mp hd).1
      omega
    · obtain ⟨G2, vs, b2, s2, g, n, dn, no, hp, rv⟩ := hP
      rw [RA.len ra] at s2 dn rv
      exact q D' vs G2 H' (x1.trans b2) s2 g n dn no hp rv
theorem ef_lcT {tl : TE} {j : Nat} (h : Ev K tl τ δ (.tuple ds) δ1) (hj : τ[j]? = some .any) (acc : Nat → List PyData) (dl : Nat → Option Dr) (f : Nat → Bool) (h0 : acc 0 = []) (hd0 : dl 0 = δ1) (hl : ∀ i, i ≤ ds.length → (acc i).length ≤ 100000)
    (ht : ∀ i d, ds[i]? = some d → EvT K tt (τ.set j (.val d)) (dl i) (f i) (dl i)) (hf : ∀ i, f i = false → acc (i + 1) = acc i ∧ dl (i + 1) = dl i) (he : ∀ i d, ds[i]? = some d → f i = true → ∃ y, acc (i + 1) = acc i ++ [y] ∧ Ev K te (τ.set j (.val d)) (dl i) y (dl (i + 1))) :
    EvF K (tLc (iTup K tl) (gName j) tt te [j]) τ δ (acc ds.length) (dl ds.length) := fun e G H σ s Q q => h e G H σ s _ fun v G1 H1 x1 s1 r1 => by
  cases r1 with
  | @tup a xs _ hx ra =>
    refine ⟨a, rfl, ⟨xs, Evl.ex_t s1.ex hx⟩, fun D' hD => lc_tup (xs := xs) (fun i H' => LcP K e G1 σ τ D' acc dl i H') (lc_start s1 hd0 h0 hD) (fun i H' _ hP => ?_) (fun i x H' hi hP => ?_) fun H' hP => ?_⟩
    · obtain ⟨G2, vs, b2, s2, _⟩ := hP
      exact Evl.ex_t (b2.trans s2.ex) hx
    · obtain ⟨d, hd, rd⟩ := RA.get ra i x hi
      refine ⟨wipe1, lc_turn hP hj (fun G2 b2 => R.mono b2 _ _ rd) (ht i d hd) (hf i) (fun hfi => he i d hd hfi) (hl i ?_)⟩
      have := (List.getElem?_eq_some_iff.mp hd).1
      omega
    · obtain ⟨G2, vs, b2, s2, g, n, dn, no, hp, rv⟩ := hP
      rw [RA.len ra] at s2 dn rv
      exact q D' vs G2 H' (x1.trans b2) s2 g n dn no hp rv
theorem ef_lcR {ta : TA} {j n : Nat} (h : EvA K ta τ δ [.int (n : Int)] δ1) (hn : n ≤ 100000) (hj : τ[j]? = some .any) (acc : Nat → List PyData) (dl : Nat → Option Dr) (f : Nat → Bool) (h0 : acc 0 = []) (hd0 : dl 0 = δ1) (hl : ∀ i, i ≤ n → (acc i).length ≤ 100000)
    (ht : ∀ i, i < n → EvT K tt (τ.set j (.val (.int (i : Int)))) (dl i) (f i) (dl i)) (hf : ∀ i, f i = false → acc (i + 1) = acc i ∧ dl (i + 1) = dl i) (he : ∀ i, i < n → f i = true → ∃ y, acc (i + 1) = acc i ++ [y] ∧ Ev K te (τ.set j (.val (.int (i : Int)))) (dl i) y (dl (i + 1))) :
    EvF K (tLc (iRng1 ta) (gName j) tt te [j]) τ δ (acc n) (dl n) := fun e G H σ s Q q => h e G H σ s _ fun vs G1 H1 x1 s1 r1 => by
  cases r1 with
  | cons r2 r3 =>
    cases r3; cases r2
    refine ⟨(n : Int), rfl, by omega, by omega, ?_⟩
    rw [Int.toNat_natCast]
    refine fun D' hD => lc_range (lo := 0) (n := n) (fun i H' => LcP K e G1 σ τ D' acc dl i H') (lc_start s1 hd0 h0 hD) (fun i H' hi hP => ?_) fun H' hP => ?_
    · have e0 : (0 : Int) + (i : Int) = (i : Int) := Int.zero_add _
      rw [e0]
      exact ⟨wipe1, lc_turn hP hj (fun G2 b2 => .int _) (ht i hi) (hf i) (fun hfi => he i hi hfi) (hl i (Nat.le_of_lt hi))⟩
    · obtain ⟨G2, vs, b2, s2, g, n, dn, no, hp, rv⟩ := hP
      exact q D' vs G2 H' (x1.trans b2) s2 g n dn no hp rv
/-! the pure ones, over typed lists -/
def accF {α : Type} (xs : List α) (f : α → Bool) (v : α → D) (i : Nat) : List D := ((xs.take i).filter f).map v
theorem accF_len {α : Type} (xs : List α) (f : α → Bool) (v : α → D) (i : Nat) : (accF xs f v i).length ≤ xs.length := by
  unfold accF
  rw [List.length_map]
  exact Nat.le_trans (List.length_filter_le _ _) (by rw [List.length_take]; omega)
theorem accF_all {α : Type} (xs : List α) (f : α → Bool) (v : α → D) : accF xs f v xs.length = (xs.filter f).map v := by
  unfold accF
  rw [List.take_length]
theorem accF_no {α : Type} {xs : List α} {f : α → Bool} {v : α → D} {i : Nat} (h : ∀ x, xs[i]? = some x → f x = false) : accF xs f v (i + 1) = accF xs f v i := by
  unfold accF
  rw [List.take_add_one]
  cases hx : xs[i]? with
  | none => simp
  | some x => simp [h x hx]
theorem accF_yes {α : Type} {xs : List α} {f : α → Bool} {v : α → D} {i : Nat} {x : α} (hx : xs[i]? = some x) (h : f x = true) : accF xs f v (i + 1) = accF xs f v i ++ [v x] := by
  unfold accF
  rw [List.take_add_one, hx]
  simp [h]
def atF {α : Type} (xs : List α) (f : α → Bool) (i : Nat) : Bool := match xs[i]? with
  | some x => f x
  | none => false
theorem ef_lcLp {α : Type} {tl : TE} {j : Nat} (xs : List α) (en : α → D) (f : α → Bool) (v : α → D) (h : Ev K tl τ δ (.list (xs.map en)) δ1) (hj : τ[j]? = some .any) (hn : xs.length ≤ 100000) (ht : ∀ x ∈ xs, EvT K tt (τ.set j (.val (en x))) δ1 (f x) δ1) (he : ∀ x ∈ xs, f x = true → Ev K te (τ.set j (.val (en x))) δ1 (v x) δ1) :
    EvF K (tLc (iList K tl) (gName j) tt te [j]) τ δ ((xs.filter f).map v) δ1 := by
  have key := ef_lcL (tt := tt) (te := te) (j := j) h hj (accF xs f v) (fun _ => δ1) (atF xs f) rfl rfl (fun i _ => Nat.le_trans (accF_len xs f v i) hn) (fun i d hd => ?_) (fun i hi => ⟨accF_no fun x hx => ?_, rfl⟩) (fun i d hd hi => ?_)
  · rw [List.length_map, accF_all] at key
    exact key
  · rw [List.getElem?_map] at hd
    unfold atF
    cases hx : xs[i]? with
    | none => rw [hx] at hd; cases hd
    | some x =>
      rw [hx] at hd
      obtain rfl := Option.some.inj hd
      exact ht x (List.mem_of_getElem? hx)
  · unfold atF at hi
    rw [hx] at hi
    exact hi
  · rw [List.getElem?_map] at hd
    unfold atF at hi
    cases hx : xs[i]? with
    | none => rw [hx] at hd; cases hd
    | some x =>
      rw [hx] at hd hi
      obtain rfl := Option.some.inj hd
      exact ⟨v x, accF_yes hx hi, he x (List.mem_of_getElem? hx) hi⟩
theorem ef_lcTp {α : Type} {tl : TE} {j : Nat} (xs : List α) (en : α → D) (f : α → Bool) (v : α → D) (h : Ev K tl τ δ (.tuple (xs.map en)) δ1) (hj : τ[j]? = some .any) (hn : xs.length ≤ 100000) (ht : ∀ x ∈ xs, EvT K tt (τ.set j (.val (en x))) δ1 (f x) δ1) (he : ∀ x ∈ xs, f x = true → Ev K te (τ.set j (.val (en x))) δ1 (v x) δ1) :
    EvF K (tLc (iTup K tl) (gName j) tt te [j]) τ δ ((xs.filter f).map v) δ1 := by
  have key := ef_lcT (tt := tt) (te := te) (j := j) h hj (accF xs f v) (fun _ => δ1) (atF xs f) rfl rfl (fun i _ => Nat.le_trans (accF_len xs f v i) hn) (fun i d hd => ?_) (fun i hi => ⟨accF_no fun x hx => ?_, rfl⟩) (fun i d hd hi => ?_)
  · rw [List.length_map, accF_all] at key
    exact key
  · rw [List.getElem?_map] at hd
    unfold atF
    cases hx : xs[i]? with
    | none => rw [hx] at hd; cases hd
    | some x =>
      rw [hx] at hd
      obtain rfl := Option.some.inj hd
      exact ht x (List.mem_of_getElem? hx)
  · unfold atF at hi
    rw [hx] at hi
    exact hi
  · rw [List.getElem?_map] at hd
    unfold atF at hi
    cases hx : xs[i]? with
    | none => rw [hx] at hd; cases hd
    | some x =>
      rw [hx] at hd hi
      obtain rfl := Option.some.inj hd
      exact ⟨v x, accF_yes hx hi, he x (List.mem_of_getElem? hx) hi⟩

/-! ### promises -/
/-- a pure def: of arguments enc x with dom x it makes fn x -/
def spA (K : PySem.W.Frag) {X : Type} (enc : X → List D) (dom : X → Prop) (fn : X → D) : Sp := fun vs H Q _ => ∃ G x, Ex G H ∧ RA K G vs (enc x) ∧ dom x ∧
  ∀ v G' H', Ex G G' → Ex G' H' → (∀ a, H a ≠ none → G a = none → G' a = none ∧ H' a = H a) → R K G' v (fn x) → Q v H'
theorem Stt.call (s : Stt K e G H σ τ δ) (x : Ex G G') (xh : Ex G' H') (fr : ∀ a, H a ≠ none → G a = none → G' a = none ∧ H' a = H a) : Stt K e G' H' σ τ δ := by
  refine ⟨xh, s.gx.trans x, s.nn, fun a ha => ?_, s.len, fun i y hy => ?_, s.dj, ?_⟩
  · obtain ⟨f1, f2⟩ := s.fr a ha
    obtain ⟨k1, k2⟩ := fr a (by rw [f2]; exact s.nn a ha) f1
    exact ⟨k1, k2.trans f2⟩
  · obtain ⟨w, h1, h2⟩ := s.sl i y hy
    refine ⟨w, h1, ?_⟩
    cases h2 with
    | any => exact .any _
    | val r => exact .val (R.mono x _ _ r)
    | own n g h ra dn =>
      obtain ⟨k1, k2⟩ := fr _ (by rw [h]; exact fun z => by cases z) g
      exact .own n k1 (k2.trans h) (RA.mono x _ _ ra) dn
    | drw h => exact .drw h
    | dct n g h ra dn =>
      obtain ⟨k1, k2⟩ := fr _ (by rw [h]; exact fun z => by cases z) g
      exact .dct n k1 (k2.trans h) (de_mono x ra) dn
    | exc h => exact .exc (x _ _ h)
    | raw v => exact .raw v
  · have := s.dr
    cases δ with
    | none => trivial
    | some q =>
      obtain ⟨a, b, c, n1, n2, f, k, ok, oj⟩ := this
      obtain ⟨k1, k2⟩ := fr _ (by rw [f]; exact fun z => by cases z) a
      obtain ⟨k3, k4⟩ := fr _ (by rw [k]; exact fun z => by cases z) b
      exact ⟨k1, k3, c, n1, n2, k2.trans f, k4.trans k, ok.chg x fun o' ho a ha g' h' => fr a h' g', oj⟩
theorem ev_call {X : Type} {enc : X → List D} {dom : X → Prop} {fn : X → D} {t : TA} {Ex' : XK} (x : X) (h : EvA K t τ δ ds δ1) (hx : ds = enc x) (hd : dom x) : Ev K (tCall (spA K enc dom fn) [] Ex' t) τ δ (fn x) δ1 := fun e G H σ s Q q =>
  h e G H σ s _ fun vs G1 H1 x1 s1 r1 => by
    show spA K enc dom fn (vs ++ []) H1 Q Ex'
    rw [List.append_nil]
    exact ⟨G1, x, s1.ex, by rw [← hx]; exact r1, hd, fun v G2 H2 x2 xh fr r2 => q v G2 H2 (x1.trans x2) (s1.call x2 xh fr) r2⟩
theorem stt_start {N : List Str} {vs : List V} (x : Ex G H) (ra : RA K G vs ds) : Stt K ⟨fun a => H a ≠ none ∧ G a = none, H, G⟩ G H (L2.start N vs) (ds.map .val ++ List.replicate (N.length - ds.length) .any) none := by
  refine ⟨x, Ex.refl G, fun a ha => ha.1, fun a ha => ⟨ha.2, rfl⟩, ?_, fun i y hy => ?_, fun i j y1 y2 p w1 w2 h1 => ?_, trivial⟩
  · unfold L2.start
    rw [List.length_append, List.length_append, List.length_map, List.length_map, List.length_replicate, List.length_replicate, RA.len ra]
  · unfold L2.start
    have hl := RA.len ra
    by_cases hi : i < ds.length
    · rw [List.getElem?_append_left (by rw [List.length_map]; exact hi), List.getElem?_map, List.getElem?_eq_getElem hi] at hy
      cases hy
      obtain ⟨v, hv, r⟩ := RA.getd ra i _ (List.getElem?_eq_getElem hi)
      refine ⟨some v, ?_, .val r⟩
      rw [List.getElem?_append_left (by rw [List.length_map]; omega), List.getElem?_map, hv]
      rfl
    · rw [List.getElem?_append_right (by rw [List.length_map]; omega), List.getElem?_replicate, List.length_map] at hy
      split at hy
      · cases hy
        rename_i hlt
        refine ⟨none, ?_, .any _⟩
        rw [List.getElem?_append_right (by rw [List.length_map]; omega), List.getElem?_replicate, List.length_map, if_pos (by omega)]
      · cases hy
  · exfalso
    by_cases hi : i < ds.length
    · rw [List.getElem?_append_left (by rw [List.length_map]; exact hi), List.getElem?_map, List.getElem?_eq_getElem hi] at h1
      cases h1
      cases w1
    · rw [List.getElem?_append_right (by rw [List.length_map]; omega), List.getElem?_replicate, List.length_map] at h1
      split at h1
      · cases h1; cases w1
      · cases h1
end
section
variable {P : Program} {w : World} {K : PySem.W.Frag} {mg : Str → Option Value} {base : Heap}
/-- THE RULE for a pure def -/
theorem okA {X : Type} {enc : X → List D} {dom : X → Prop} {fn : X → D} {x qual : Str} {st : Stmt} {f : Addr} {fd : FuncData} {N ps : List Str} {k : Nat} (F : Fun K x qual st f fd) (S : FnScope N ps (defScope st)) (len : ∀ x, (enc x).length = ps.length)
    (hb : ∀ (cdv : Value) (A : Around) (outer : List Env) (s : Shared) (H : Hp) (E : XK) (x : X), Room k (A.deeper (envOfC qual (defScope st) s.heap.objs.size f cdv)) → dom x →
      ∃ t, PSs (cxOf CX0 P w K mg base N qual (defScope st) f cdv A outer s H E).nox (defBody st) t ∧ ∀ (e : En) (Q : VK), Rt K e Q (fun d _ => d = fn x) → SD K e e.G0 t { nx := fun _ H' => Q .non H', rt := Q } ((enc x).map .val ++ List.replicate (N.length - (enc x).length) .any) none) :
    FnOk P w K mg base CX0 (k + 1) f fd ps (spA K enc dom fn) := by
  refine F.ok S (fun vs H Q E ⟨G, x, ex, ra, hd, q⟩ => by rw [RA.len ra]; exact len x) (fun cdv A outer s H vs Q E hr ⟨G, x, ex, ra, hd, q⟩ => ?_)
  obtain ⟨t, h1, h2⟩ := hb cdv A outer s H E x hr hd
  refine ⟨t, h1, h2 ⟨fun a => H a ≠ none ∧ G a = none, H, G⟩ Q (fun v G' H' σ τ δ d s' r z => ?_) G H _ (Ex.refl G) (stt_start ex ra)⟩
  subst z
  exact q v G' H' s'.gx s'.ex (fun a h1 h2 => s'.fr a ⟨h1, h2⟩) r
end
end DL
/-! Raw rules that the hand layer lacks: min(texts, key=len); len(set(texts)). -/
namespace DR
open PySem PySem.Spec PyProof.Rows L2
/-! ### min(texts, key=len) -/
section
variable {P : Program} {w : World} {A : Around} {s0 : Shared} {l I S : Addr} {vals : List Value} {ln : Nat → Int} {R : Result → Shared → Prop}
def Old (g h : Heap) : Prop := ∀ b o, g.get? b = some o → h.get? b = some o
/-- the heap's old part through one change of S -/
theorem Old.upS {g h : Heap} {f : Array Value → Array Value} (k : Old g h) (hS : g.get? S = none) : Old g (h.update S (Obj.mapSeq f)) := fun b o e =>
  ((Heap.SameBut.update h S (Obj.mapSeq f)).2 b (fun z => by rw [z, hS] at e; cases e)).trans (k b o e)
theorem minTurn (hA : A.handled = none) (isl : ∀ h, Old s0.heap h → h.IsList l vals.toArray) (lI : l ≠ I) (SI : S ≠ I) (gS : s0.heap.get? S = none) (gI : s0.heap.get? I = none)
    (key : ∀ (i : Nat) (v : Value), vals[i]? = some v → ∀ (h : Heap) (tk : Nat) (Q : Value → Shared → Prop), (∀ tk' t', Q (.int (ln i) t') { s0 with heap := h, toks := tk' }) → wpAny (model P w) A.in1 (call (.builtin "len") [v]) Q (fun _ _ => False) { s0 with heap := h, toks := tk })
    (fin : ∀ i v h' tk', vals[i]? = some v → (∀ j, j < vals.length → ln i ≤ ln j ∧ (j < i → ln i < ln j)) → Old s0.heap h' → R (.ok (.ret v)) { s0 with heap := h', toks := tk' }) :
    ∀ (n j i : Nat) (h : Heap) (tk : Nat) (best : Value) (tb : Tok) (c : Nat), vals.length - (j + 1) = n → j + 1 ≤ vals.length → Old s0.heap h → h.get? S = some (seqObj "list" #[best, .int (ln i) tb] c) → h.IsListIter I l (j + 1) → vals[i]? = some best → i ≤ j →
      (∀ j', j' ≤ j → ln i ≤ ln j' ∧ (j' < i → ln i < ln j')) → codeAny (model P w) A (.builtin "min.loop" ⟨[.ref I, .builtin "len", .ref S], []⟩) R { s0 with heap := h, toks := tk } := by
  have nm : (toString "min" ++ toString ".loop" : String) = "min.loop" := by decide
  have WL := Walks.list (prog := P) (w := w) (A := A.in1) hA I l lI vals.toArray
  have sz : vals.toArray.size = vals.length := by simp
  have keepI : ∀ {h h' : Heap}, Old s0.heap h → (∀ b o, b ∉ [I] → h.get? b = some o → h'.get? b = some o) → Old s0.heap h' := fun k k' b o e => k' b o (fun z => by rw [List.mem_singleton.mp z, gI] at e; cases e) (k b o e)
  intro n
  induction n with
  | zero =>
    intro j i h tk best tb c hn hj old hS hit hb hij hbest
    have hall : j + 1 = vals.length := by omega
    refine codeAny_builtin PySem.F.entry_min_loop (?_ : wpAny _ _ _ _ _ _)
    rw [Around.under_plainId PySem.F.plain_min_loop _]; show wpAny (model P w) A.in1 (seqItems? (Value.ref S) >>= _) _ _ _
    refine wpAny_bind (wpAny_seqItems hS rfl (?_ : wpAny _ _ _ _ _ _)); show wpAny (model P w) A.in1 (tryCatch (pyNext (Value.ref I)) _ >>= _) _ _ _
    refine wpAny_bind (wpAny_tryCatch (WL.done _ _ _ ⟨by rw [sz, ← hall]; exact hit, isl h old⟩ fun h1 tk1 k1 => ?_))
    have old1 := keepI old k1
    have hS1 := k1 S _ (by simpa using SI) hS
    show wpAny (model P w) A.in1 (updateSeq S (fun _ => #[]) >>= _) _ _ _
    refine wpAny_bind (wpAny_updateSeq hS1 rfl (wpAny_bind (wpAny_letGo (wpAny_pure ?_))))
    exact fin i best _ _ hb (fun j' hj' => hbest j' (by omega)) (old1.upS gS)
  | succ n ih =>
    intro j i h tk best tb c hn hj old hS hit hb hij hbest
    have more : j + 1 < vals.length := by omega
    refine codeAny_builtin PySem.F.entry_min_loop (?_ : wpAny _ _ _ _ _ _)
    rw [Around.under_plainId PySem.F.plain_min_loop _]; show wpAny (model P w) A.in1 (seqItems? (Value.ref S) >>= _) _ _ _
    refine wpAny_bind (wpAny_seqItems hS rfl (?_ : wpAny _ _ _ _ _ _)); show wpAny (model P w) A.in1 (tryCatch (pyNext (Value.ref I)) _ >>= _) _ _ _
    refine wpAny_bind (wpAny_tryCatch (WL.item (j + 1) _ _ _ (by rw [sz]; exact more) ⟨hit, isl h old⟩ fun v h1 tk1 hv0 st1 k1 => ?_))
    have hv : vals[j + 1]? = some v := by simpa using hv0
    have old1 := keepI old k1
    have hS1 := k1 S _ (by simpa using SI) hS
    show wpAny (model P w) A.in1 (tryCatch (holding [v] (call (.builtin "len") [v])) _ >>= _) _ _ _
    refine wpAny_bind (wpAny_tryCatch (wpAny_holding (wpAny_mono (key (j + 1) v hv h1 tk1 (fun x s2 => ∃ tk2 t2, x = Value.int (ln (j + 1)) t2 ∧ s2 = { s0 with heap := h1, toks := tk2 }) fun tk2 t2 => ⟨tk2, t2, rfl, rfl⟩) (fun x s2 hx => ?_) fun _ _ z => z.elim)))
    obtain ⟨tk2, t2, rfl, rfl⟩ := hx
    show wpAny (model P w) A.in1 (tryCatch (holding [v, .int (ln (j + 1)) t2] (richCompare .Lt (.int (ln (j + 1)) t2) (.int (ln i) tb) >>= _)) _ >>= _) _ _ _
    refine wpAny_bind (wpAny_tryCatch (wpAny_holding (wpAny_bind (CmpOf.ints_lt (prog := P) (w := w) (A := A.in1) (P := fun i v => ∃ t, v = Value.int (ln i) t) ln (fun i v z => z) (j + 1) i _ _ _ _ _ ⟨t2, rfl⟩ ⟨tb, rfl⟩ ?_))))
    refine wpAny_bind (wpAny_holding (wpAny_truthy_bool ?_)); refine wpAny_bind (wpAny_letGo (wpAny_pure ?_))
    have it1 : h1.IsListIter I l (j + 1 + 1) := st1.1
    by_cases lt : ln (j + 1) < ln i
    · simp only [lt, decide_true, if_true]
      have same := Heap.SameBut.update h1 S (Obj.mapSeq fun _ => #[v, Value.int (ln (j + 1)) t2])
      have hS2 := get?_update_seq hS1 fun _ => #[v, Value.int (ln (j + 1)) t2]
      refine wpAny_bind (wpAny_updateSeq hS1 rfl (wpAny_bind (wpAny_letGo ?_)))
      rw [nm]
      obtain ⟨oi, e1, e2, e3⟩ := it1
      refine wpAny_pure ⟨plainId_quiet PySem.F.plain_min_loop _, ih (j + 1) (j + 1) _ _ v t2 _ (by omega) more (old1.upS gS) hS2 ⟨oi, (same.2 I SI.symm).trans e1, e2, e3⟩ hv (Nat.le_refl _) fun j' hj' => ?_⟩
      rcases Nat.lt_or_ge j' (j + 1) with z | z
      · have a := (hbest j' (by omega)).1
        exact ⟨by omega, fun _ => by omega⟩
      · have z' : j' = j + 1 := by omega
        subst z'
        exact ⟨Int.le_refl _, fun y => absurd y (Nat.lt_irrefl _)⟩
    · simp only [lt, decide_false, Bool.false_eq_true, if_false]
      refine wpAny_bind (wpAny_letGo ?_)
      rw [nm]
      refine wpAny_pure ⟨plainId_quiet PySem.F.plain_min_loop _, ih (j + 1) i _ _ best tb c (by omega) more old1 hS1 it1 hb (by omega) fun j' hj' => ?_⟩
      rcases Nat.lt_or_ge j' (j + 1) with z | z
      · exact hbest j' (by omega)
      · have z' : j' = j + 1 := by omega
        subst z'
        exact ⟨by omega, fun y => absurd y (by omega)⟩
theorem minLen_raw {Q : Value → Shared → Prop} {E : Value → Shared → Prop} (hA : A.handled = none) (isl : ∀ h, Old s0.heap h → h.IsList l vals.toArray) (pos : 0 < vals.length)
    (key : ∀ (i : Nat) (v : Value), vals[i]? = some v → ∀ (h : Heap) (tk : Nat) (Q : Value → Shared → Prop), (∀ tk' t', Q (.int (ln i) t') { s0 with heap := h, toks := tk' }) → wpAny (model P w) A.in1 (call (.builtin "len") [v]) Q (fun _ _ => False) { s0 with heap := h, toks := tk })
    (fin : ∀ i v h' tk', vals[i]? = some v → (∀ j, j < vals.length → ln i ≤ ln j ∧ (j < i → ln i < ln j)) → Old s0.heap h' → Q v { s0 with heap := h', toks := tk' }) :
    wpAny (model P w) A (call (.builtin "min") [Value.ref l] [(Str.ofString "key", Value.builtin "len")]) Q E s0 := by
  have nm : (toString "min" ++ toString ".loop" : String) = "min.loop" := by decide
  have ls := isl s0.heap fun _ _ e => e
  obtain ⟨ol, hol, _⟩ := id ls
  have ll : l < s0.heap.objs.size := Heap.lt_size hol
  refine kmb_tree PySem.F.kind_min PySem.F.plain_min PySem.F.entry_min (kmb_min_key _ _) (?_ : wpAny _ _ _ _ _ _)
  refine wpAny_bind (wpAny_of_eq (show Builtin.Builtins.bindParams "min" ["key", "default"] 0 ⟨[], [(Str.ofString "key", Value.builtin "len")]⟩ = pure [some (Value.builtin "len"), none] from rfl) (?_ : wpAny _ _ _ _ _ _))
  refine wpAny_bind (wpAny_pure (?_ : wpAny _ _ _ _ _ _))
  refine wpAny_bind (wpAny_pyIter_list ls (?_ : wpAny _ _ _ _ _ _))
  refine wpAny_bind (wpAny_newList (?_ : wpAny _ _ _ _ _ _) (Nat.zero_le _))
  rw [nm]
  let h1 : Heap := s0.heap.push { cls := .type "list_iterator", data := .fields #[.ref l, .int 0 0] }
  let h2 : Heap := h1.push (seqObj "list" #[] 0)
  have z1 : h1.objs.size = s0.heap.objs.size + 1 := size_push' ..
  have nl : l ≠ s0.heap.objs.size := Nat.ne_of_lt ll
  have SI : h1.objs.size ≠ s0.heap.objs.size := by rw [z1]; omega
  have gI : s0.heap.get? s0.heap.objs.size = none := Heap.get?_none_of_le (Nat.le_refl _)
  have gS : s0.heap.get? h1.objs.size = none := Heap.get?_none_of_le (by rw [z1]; omega)
  have o2 : Old s0.heap h2 := fun b o e => Heap.get?_push_of_some _ (Heap.get?_push_of_some _ e)
  have i2 : h2.get? s0.heap.objs.size = some { cls := .type "list_iterator", data := .fields #[.ref l, .int 0 0] } := Heap.get?_push_of_some _ (Heap.get?_push_size _ rfl)
  have s2 : h2.get? h1.objs.size = some (seqObj "list" #[] 0) := Heap.get?_push_size _ rfl
  refine wpAny_pure ⟨plainId_quiet PySem.F.plain_min_loop _, ?_⟩
  have WL := Walks.list (prog := P) (w := w) (A := A.in1) hA s0.heap.objs.size l nl vals.toArray
  have sz : vals.toArray.size = vals.length := by simp
  refine codeAny_builtin PySem.F.entry_min_loop (?_ : wpAny _ _ _ _ _ _)
  rw [Around.under_plainId PySem.F.plain_min_loop _]; show wpAny (model P w) A.in1 (seqItems? (Value.ref h1.objs.size) >>= _) _ _ _
  refine wpAny_bind (wpAny_seqItems s2 rfl (?_ : wpAny _ _ _ _ _ _)); show wpAny (model P w) A.in1 (tryCatch (pyNext (Value.ref s0.heap.objs.size)) _ >>= _) _ _ _
  refine wpAny_bind (wpAny_tryCatch (WL.item 0 _ _ _ (by rw [sz]; exact pos) ⟨⟨_, i2, rfl, rfl⟩, isl _ o2⟩ fun v h3 tk3 hv0 st3 k3 => ?_))
  have hv : vals[0]? = some v := by simpa using hv0
  have o3 : Old s0.heap h3 := fun b o e => k3 b o (fun z => by rw [List.mem_singleton.mp z, gI] at e; cases e) (o2 b o e)
  have s3 := k3 h1.objs.size _ (by simpa using SI) s2
  show wpAny (model P w) A.in1 (tryCatch (holding [v] (call (.builtin "len") [v])) _ >>= _) _ _ _
  refine wpAny_bind (wpAny_tryCatch (wpAny_holding (wpAny_mono (key 0 v hv h3 tk3 (fun x s2 => ∃ tk2 t2, x = Value.int (ln 0) t2 ∧ s2 = { s0 with heap := h3, toks := tk2 }) fun tk2 t2 => ⟨tk2, t2, rfl, rfl⟩) (fun x s2 hx => ?_) fun _ _ z => z.elim)))
  obtain ⟨tk2, t2, rfl, rfl⟩ := hx
  have same := Heap.SameBut.update h3 h1.objs.size (Obj.mapSeq fun _ => #[v, Value.int (ln 0) t2])
  have s4 := get?_update_seq s3 fun _ => #[v, Value.int (ln 0) t2]
  show wpAny (model P w) A.in1 (updateSeq h1.objs.size (fun _ => #[v, Value.int (ln 0) t2]) >>= _) _ _ _
  refine wpAny_bind (wpAny_updateSeq s3 rfl ?_)
  rw [nm]
  obtain ⟨oi, e1, e2, e3⟩ := st3.1
  refine wpAny_pure ⟨plainId_quiet PySem.F.plain_min_loop _, minTurn hA isl nl SI gS gI key fin _ 0 0 _ _ v t2 _ rfl pos (o3.upS gS) s4 ⟨oi, (same.2 _ SI.symm).trans e1, e2, e3⟩ hv (Nat.le_refl _) fun j' hj' => ?_⟩
  have z : j' = 0 := by omega
  subst z
  exact ⟨Int.le_refl _, fun y => absurd y (Nat.lt_irrefl _)⟩
end
section
variable {X : Cx}
/-- min(xs, key=len), xs a list of texts: the first of the shortest -/
def tMinLen (K : PySem.W.Frag) (ta : TE) : TE := fun σ H Q => ta σ H fun x H1 => ∃ (l : Addr) (xs : List Str), x = V.ref l ∧ SqL K H1 l (xs.map V.str) ∧ 0 < xs.length ∧ (∀ y ∈ xs, y.length ≤ 1000) ∧
  ∀ (i : Nat) (z : Str), xs[i]? = some z → (∀ (j : Nat) (y : Str), xs[j]? = some y → z.length ≤ y.length ∧ (j < i → z.length < y.length)) → Q (V.str z) H1
theorem pe_minLen {a : Expr} {ta : TE} {p p2 kp pos : Pos} (hc : X.calm = true) (hg : Gl X "min") (hm : X.mg "min" = none) (hg2 : Gl X "len") (hm2 : X.mg "len" = none) (ha : PE X a ta)
    (he : starEach [a] X.env = (false, eval a X.env) :: starEach [] X.env := by rfl) : PE X (.Call (.Name "min" p) [a] [⟨some "key", .Name "len" p2, kp⟩] pos) (tMinLen X.K ta) := by
  refine ⟨fun pins s σ H Q I h => ?_⟩
  refine wpAny_Call_Name_kw (ld_blt I hg hm (u := .builtin "min") (by decide +kernel) ?_)
  refine PyProof.Rows.callWith_kw ?_ (by rw [he]; rfl) (by rw [he]; rfl)
  refine PyProof.Rows.args_cons (thn (ha.run pins s σ H _ I h) fun v s1 ⟨x, H1, I1, r1, q1⟩ => PyProof.Rows.args_nil ?_) he
  refine PyProof.Rows.kws_cons (ld_blt I1 hg2 hm2 boot_len (PyProof.Rows.kws_nil ?_))
  obtain ⟨l, xs, rfl, hq, hne, hlen, q⟩ := q1
  obtain rfl : v = Value.ref l := r1
  obtain ⟨its, rv, pl, hz⟩ := I1.list hq
  have hlx : its.length = xs.length := by rw [← rv.length, List.length_map]
  have at' : ∀ (i : Nat) (u : Value), its[i]? = some u → ∃ y t, xs[i]? = some y ∧ u = Value.str y t := fun i u hu => by
    have hi : i < xs.length := by rw [← hlx]; exact (List.getElem?_eq_some_iff.mp hu).1
    obtain ⟨w, hw, rw'⟩ := rv.get (i := i) (x := V.str xs[i]) (by rw [List.getElem?_map, List.getElem?_eq_getElem hi]; rfl)
    rw [hu] at hw
    cases hw
    obtain ⟨t, rfl⟩ := rw'
    exact ⟨xs[i], t, List.getElem?_eq_getElem hi, rfl⟩
  have big : ∀ (i : Nat) (y : Str), xs[i]? = some y → ¬ (y.length : Int) ≥ 2 ^ 63 := fun i y hy => by
    have := hlen y (List.mem_of_getElem? hy)
    omega
  refine minLen_raw (vals := its) (ln := fun i => ((xs.getD i Str.empty).length : Int)) (I1.ok.hd hc) (fun h' k => ?_) (by rw [hlx]; exact hne) (fun i v hv h' tk Q' hQ => ?_) fun i v h' tk' hv hb k => ?_
  · obtain ⟨o3, e3, rest⟩ := pl.isList
    exact ⟨o3, k l o3 e3, rest⟩
  · obtain ⟨y, t, hy, rfl⟩ := at' i v hv
    have ey : (xs.getD i Str.empty) = y := by rw [List.getD_eq_getElem?_getD, hy]; rfl
    rw [ey] at hQ
    exact PySem.P.len_str (big i y hy) (hQ _ _)
  · obtain ⟨y, t, hy, rfl⟩ := at' i v hv
    refine ⟨V.str y, H1, I1.kept k, ⟨t, rfl⟩, q i y hy fun j z hz => ?_⟩
    have hj : j < its.length := by rw [hlx]; exact (List.getElem?_eq_some_iff.mp hz).1
    have k := hb j hj
    have ey : (xs.getD i Str.empty) = y := by rw [List.getD_eq_getElem?_getD, hy]; rfl
    have ez : (xs.getD j Str.empty) = z := by rw [List.getD_eq_getElem?_getD, hz]; rfl
    rw [ey, ez] at k
    exact ⟨by omega, fun hji => by have := k.2 hji; omega⟩
end
end DR
namespace DR
open PySem PySem.Spec PyProof.Rows L2
/-! ### len(set(texts)) -/
/-- a list of texts without what came before -/
def ddS (σ : List Str) (x : Str) : List Str := if σ.contains x then σ else σ ++ [x]
def dd (xs : List Str) : List Str := xs.foldl ddS []
theorem dd_len_le : ∀ (xs σ : List Str), (xs.foldl ddS σ).length ≤ σ.length + xs.length
  | [], σ => Nat.le_refl _
  | x :: xs, σ => by
    have h := dd_len_le xs (ddS σ x)
    have h2 : (ddS σ x).length ≤ σ.length + 1 := by
      unfold ddS
      split
      · omega
      · rw [List.length_append]; exact Nat.le_refl _
    show (xs.foldl ddS (ddS σ x)).length ≤ σ.length + (xs.length + 1)
    omega
theorem dd_take {xs : List Str} {i : Nat} {x : Str} (h : xs[i]? = some x) : dd (xs.take (i + 1)) = ddS (dd (xs.take i)) x := by
  unfold dd
  rw [List.take_add_one, h, List.foldl_append]
  rfl
theorem dd_nodup_aux : ∀ (xs σ : List Str), (σ ++ xs).Nodup → xs.foldl ddS σ = σ ++ xs
  | [], σ, _ => (List.append_nil σ).symm
  | x :: xs, σ, h => by
    have hx : σ.contains x = false := by
      rw [Bool.eq_false_iff]
      intro hc
      have hm := List.contains_iff_mem.mp hc
      exact (List.nodup_append.mp h).2.2 x hm x (List.mem_cons_self ..) rfl
    have e : ddS σ x = σ ++ [x] := by unfold ddS; rw [hx]; rfl
    show xs.foldl ddS (ddS σ x) = σ ++ x :: xs
    rw [e, dd_nodup_aux xs (σ ++ [x]) (by rw [List.append_assoc]; exact h), List.append_assoc]
    rfl
theorem dd_nodup {xs : List Str} (h : xs.Nodup) : dd xs = xs := by
  have := dd_nodup_aux xs [] h
  exact this
section
variable {P : Program} {w : World} {A : Around} {R : Result → Shared → Prop} {it : Addr} {fp wr : List Addr} {Gn : Array GenState → Array GenState → Prop} {n : Nat} {Pv : Nat → Value → Prop} {St : Nat → Shared → Prop}
theorem setTurn (W : WalksS P w A.in1 it fp wr Gn n Pv St) (a : Addr) (afp : a ∉ fp) (xs : List Str) (hsz : xs.length = n) (hval : ∀ i v, Pv i v → ∃ x t, xs[i]? = some x ∧ v = Value.str x t) (small : n ≤ 1000) :
    ∀ (k i : Nat) (s : Shared), n - i = k → i ≤ n → St i s → s.heap.SetOf (PySem.strKind P w) a (fun z => (dd (xs.take i)).contains z) (dd (xs.take i)).length →
      (∀ s', Moved (a :: wr) Gn s s' → s'.heap.SetOf (PySem.strKind P w) a (fun z => (dd xs).contains z) (dd xs).length → R (.ok (.ret .none)) s') →
      codeAny (model P w) A (.builtin "set.update.loop" ⟨[.ref a, .ref it], []⟩) R s := by
  have awr : a ∉ wr := fun h => afp (W.sub _ h)
  have more : ∀ b ∈ wr, b ∈ a :: wr := fun b hb => List.mem_cons_of_mem _ hb
  intro k
  induction k with
  | zero =>
    intro i s hk hi st hS fin
    obtain rfl : i = n := by omega
    refine codeAny_builtin PyProof.Rows.F.entry_set_update_loop (?_ : wpAny _ _ _ _ _ _)
    rw [Around.under_plainId PyProof.Rows.F.plain_set_update_loop _]; show wpAny (model P w) A.in1 (pyNext (Value.ref it) >>= _) _ _ s
    refine wpAny_bind (W.done s _ _ st fun s1 m1 => (?_ : wpAny (model P w) A.in1 (ret Value.none) _ _ s1))
    refine wpAny_pure (fin s1 (m1.mono more) ?_)
    rw [← hsz, List.take_length] at hS
    obtain ⟨o, es, ep, t, ho, tail⟩ := hS
    exact ⟨o, es, ep, t, m1.heap a _ awr ho, tail⟩
  | succ k ih =>
    intro i s hk hi st hS fin
    have lt : i < n := by omega
    refine codeAny_builtin PyProof.Rows.F.entry_set_update_loop (?_ : wpAny _ _ _ _ _ _)
    rw [Around.under_plainId PyProof.Rows.F.plain_set_update_loop _]; show wpAny (model P w) A.in1 (pyNext (Value.ref it) >>= _) _ _ s
    refine wpAny_bind (W.item i s _ _ lt st fun v s1 hv st1 m1 => (?_ : wpAny _ _ _ _ _ _))
    obtain ⟨x, t, hx, rfl⟩ := hval i v hv
    have hS1 : s1.heap.SetOf (PySem.strKind P w) a (fun z => (dd (xs.take i)).contains z) (dd (xs.take i)).length := by
      obtain ⟨o, es, ep, tb, ho, tail⟩ := hS
      exact ⟨o, es, ep, tb, m1.heap a _ awr ho, tail⟩
    show wpAny (model P w) A.in1 (holding [Value.str x t] (setAdd a (.str x t)) >>= _) _ _ s1
    refine wpAny_bind (wpAny_holding (?_ : wpAny _ _ _ _ _ _))
    unfold setAdd; refine wpAny_holding (wpAny_bind ((PySem.strKind P w).pyHash (k := x) (strKind_is _ _ _ _) ?_))
    have room : (dd (xs.take i)).length + 1 < scanBound := by
      have h := dd_len_le (xs.take i) []
      have h2 : (xs.take i).length ≤ xs.length := by rw [List.length_take]; omega
      have h3 : (dd (xs.take i)).length ≤ 1000 := by unfold dd; simp only [List.length_nil] at h; omega
      unfold scanBound; omega
    refine wpAny_setAddHashed_of (knd := PySem.strKind P w) (s := { s1 with toks := s1.toks + 1 }) (strKind_is _ _ _ _) rfl hS1 room fun h2 same hS2 => ?_
    have hS3 : h2.SetOf (PySem.strKind P w) a (fun z => (dd (xs.take (i + 1))).contains z) (dd (xs.take (i + 1))).length := by
      rw [dd_take hx]
      refine PyProof.Rows.SetOf_congr hS2 (fun z => ?_) ?_
      · show ((dd (xs.take i)).contains z || decide (z = x)) = (ddS (dd (xs.take i)) x).contains z
        unfold ddS
        by_cases hc : (dd (xs.take i)).contains x = true
        · rw [if_pos hc]
          by_cases e : z = x
          · subst e; rw [hc]; rfl
          · simp [e]
        · rw [if_neg hc]
          by_cases e : z = x
          · subst e; simp
          · simp [e]
      · show (if (dd (xs.take i)).contains x = true then _ else _) = _
        unfold ddS
        split <;> simp
    refine wpAny_pure ⟨plainId_quiet PyProof.Rows.F.plain_set_update_loop _, ih (i + 1) _ (by omega) lt (W.frame _ s1 _ _ st1 (Nat.le_succ _) fun b hb o e => ?_) hS3 fun s4 m4 hS4 => fin s4 (Moved.trans W.gtrans ((m1.mono more).then_heap (Nat.le_succ _) fun b o hb e => ?_) m4) hS4⟩
    · rw [same.2 b fun z => afp (by rw [← z]; exact hb)]; exact e
    · rw [same.2 b fun z => hb (by rw [z]; exact List.mem_cons_self)]; exact e
end
section
variable {P : Program} {w : World} {A : Around} {E : Value → Shared → Prop} {s : Shared}
theorem setList {l : Addr} {items : Array Value} {xs : List Str} {Q : Value → Shared → Prop} (hA : A.handled = none) (isl : s.heap.IsList l items) (hi : PyProof.Rows.StrsAre items.toList xs) (small : xs.length ≤ 1000)
    (fin : ∀ (h' : Heap) (tk : Nat), h'.SetOf (PySem.strKind P w) s.heap.objs.size (fun z => (dd xs).contains z) (dd xs).length → (∀ b o, b < s.heap.objs.size → s.heap.get? b = some o → h'.get? b = some o) → Q (.ref s.heap.objs.size) { s with heap := h', toks := tk }) :
    wpAny (model P w) A (call (.type "set") [Value.ref l]) Q E s := by
  let e0 (led : Bool) : Obj := { cls := .type "set", dict := none, data := .set #[] 0 (.fresh 0 0 led) }
  obtain ⟨c, tl, hmro⟩ := PySem.F.called_set.mro; have hmade := PySem.F.called_set.made; have hsub := PySem.F.called_set.sub
  refine wpAny_call (codeAny_of_tree (?_ : wpAny _ _ (callAny (.type "set") _) _ _ _))
  refine wpAny_pure ⟨Code.quiet_builtin _ (by decide +kernel), codeAny_builtin PySem.F.entry_type_call (?_ : wpAny _ _ _ _ _ _)⟩
  rw [Around.under_plain (weight_type_call_type "set" [Value.ref l] []) rfl]
  have q1 := PySem.F.called_set.notType; have q2 := PySem.F.called_set.canCreate; have q3 := PySem.F.typeCall_set_1 (Value.ref l)
  repeat (any_goals (first | assumption | wp_step))
  refine codeAny_mono (code_set_new_1 (.ref l) (E := E) (Q₁ := fun ob s1 => ∃ led : Bool, ob = .ref s.heap.objs.size ∧ s1 = { s with heap := s.heap.push (e0 led) }) fun led => ⟨led, rfl, rfl⟩) fun r s1 hr => ?_
  cases r with
  | error e => exact hr
  | ok fl =>
    cases fl with
    | ret ob =>
      obtain ⟨led, rfl, rfl⟩ := hr
      have gS : (s.heap.push (e0 led)).get? s.heap.objs.size = some (e0 led) := Heap.get?_push_size _ rfl
      have tS : Shared.TypeIs { s with heap := s.heap.push (e0 led) } (.ref s.heap.objs.size) "set" := ⟨_, gS, rfl⟩
      have q4 := PySem.F.called_set.init.lookup; have q5 := PySem.F.called_set.init.bind (Value.ref s.heap.objs.size)
      repeat (any_goals (first | assumption | wp_step))
      refine codeAny_mono (codeAny_call_builtin (R := wants (fun r s2 => r = .none ∧ ∃ h' tk, s2 = { s with heap := h', toks := tk } ∧ h'.SetOf (PySem.strKind P w) s.heap.objs.size (fun z => (dd xs).contains z) (dd xs).length ∧ (∀ b o, b < s.heap.objs.size → s.heap.get? b = some o → h'.get? b = some o)) E)
        PySem.F.called_set.init.plain PySem.F.entry_set_init (check_set_init_1 tS ?_)) fun r2 s2 hr2 => ?_
      · obtain ⟨⟨lc, ld, ldt, lsl⟩, hol, hcl, nl, hdl⟩ := isl
        simp only at hcl hdl
        subst hcl; subst hdl
        have hol1 : (s.heap.push (e0 led)).get? l = some { cls := .type "list", dict := ld, data := .seq items nl, slots := lsl } := Heap.get?_push_of_some _ hol
        have u1 := PySem.F.sub_list_set; have u2 := PySem.F.sub_list_frozenset
        have u3 : (Value.type "list" == Value.type "dict") = false := by decide
        have isl1 : (s.heap.push (e0 led)).IsList l items := ⟨_, hol1, rfl, nl, rfl⟩
        unfold Builtin.«set.__init__» noKeywords Builtin.Frozenset.updateFrom
        generalize hPI : pyIter = PI
        wp_walk
        subst hPI
        refine wpAny_pyIter_list isl1 (wpAny_bind (wpAny_runValue (?_ : codeAny _ _ _ _ _)))
        have ll : l < s.heap.objs.size := Heap.lt_size hol
        have h3 : A.in1.in1.in1.handled = none := by simp [hA]
        have lne : l ≠ (s.heap.push (e0 led)).objs.size := by
          rw [Heap.size_push]; exact Nat.ne_of_lt (Nat.lt_succ_of_lt ll)
        have snot : s.heap.objs.size ∉ [(s.heap.push (e0 led)).objs.size, l] := by
          rw [Heap.size_push]; simp only [List.mem_cons, List.not_mem_nil, or_false, not_or]
          exact ⟨Nat.ne_of_lt (Nat.lt_succ_self _), Nat.ne_of_gt ll⟩
        have hsz : xs.length = items.size := by rw [← StrsAre.len_eq hi, Array.length_toList]
        have hval : ∀ (i : Nat) (v : Value), items[i]? = some v → ∃ x t, xs[i]? = some x ∧ v = Value.str x t := fun i v hv => by
          have hv' : items.toList[i]? = some v := by rw [Array.getElem?_toList]; exact hv
          obtain ⟨t, e⟩ := SS.strs_at hi i v hv'
          have hlt : i < xs.length := by
            rw [hsz]
            exact (Array.getElem?_eq_some_iff.mp hv).1
          refine ⟨xs[i], t, List.getElem?_eq_getElem hlt, ?_⟩
          rw [e, List.getD_eq_getElem?_getD, List.getElem?_eq_getElem hlt]
          rfl
        refine setTurn ((Walks.list h3 _ l lne items).toS) s.heap.objs.size snot xs hsz hval (by omega) (items.size - 0) 0 _ (by omega) (Nat.zero_le _) ⟨⟨_, Heap.get?_push_size _ rfl, rfl, rfl⟩, (isl1.push _)⟩ ?a0 ?a1
        case a0 =>
          have g2 : ((s.heap.push (e0 led)).push { cls := .type "list_iterator", data := .fields #[.ref l, .int 0 0] }).get? s.heap.objs.size = some (e0 led) := Heap.get?_push_of_some _ gS
          exact PyProof.Rows.SetOf_congr ((PyProof.Rows.setObjOf_fresh (knd := PySem.strKind P w) led).setOf g2 (by unfold scanBound; omega)) (fun _ => rfl) rfl
        case a1 =>
          intro s9 m9 hS9
          obtain ⟨h9, g9, d9, t9, o9⟩ := s9
          have x1 : g9 = s.gens := m9.gens; have x2 : d9 = s.drawn := m9.drawn; have x3 : o9 = s.os := m9.os
          subst x1; subst x2; subst x3
          show wpAny _ _ _ _ _ _
          refine wpAny_pure (?_ : wpAny _ _ (ret Value.none) _ _ _)
          refine wpAny_pure ⟨rfl, h9, t9, rfl, hS9, fun b o hb e => m9.heap b o ?_ (Heap.get?_push_of_some _ (Heap.get?_push_of_some _ e))⟩
          have y1 : b ≠ s.heap.objs.size := Nat.ne_of_lt hb
          have y2 : b ≠ (s.heap.push (e0 led)).objs.size := by
            rw [Heap.size_push]; exact Nat.ne_of_lt (Nat.lt_succ_of_lt hb)
          simp only [List.mem_cons, List.not_mem_nil, or_false, not_or]; exact ⟨y1, y2⟩
      · cases r2 with
        | error e => exact hr2
        | ok fl2 =>
          cases fl2 with
          | ret r =>
            obtain ⟨rfl, h', tk, rfl, hS', hk'⟩ := hr2
            repeat (any_goals (first | assumption | wp_step))
            exact fin _ _ hS' hk'
          | _ => exact hr2.elim
    | _ => exact hr.elim
end
section
variable {X : Cx}
/-- len(set(xs)), xs a list of texts -/
def tLenSetS (K : PySem.W.Frag) (ta : TE) : TE := fun σ H Q => ta σ H fun x H1 => ∃ (l : Addr) (xs : List Str), x = V.ref l ∧ SqL K H1 l (xs.map V.str) ∧ xs.length ≤ 1000 ∧ Q (V.int ((dd xs).length : Int)) H1
theorem pe_lenSetS {a : Expr} {ta : TE} {p p2 q pos : Pos} (hc : X.calm = true) (hg : Gl X "len") (hm : X.mg "len" = none) (hg2 : Gl X "set") (hm2 : X.mg "set" = none) (ha : PE X a ta)
    (he : starEach [a] X.env = (false, eval a X.env) :: starEach [] X.env := by rfl) : PE X (.Call (.Name "len" p) [.Call (.Name "set" p2) [a] [] q] [] pos) (tLenSetS X.K ta) := by
  refine ⟨fun pins s σ H Q I h => Call_ (ld_blt I hg hm boot_len (PyProof.Rows.callWith_builtin1 (PyProof.Rows.args_cons ?_ rfl) rfl rfl))⟩
  refine Call_ (ld_blt I hg2 hm2 boot_set (PyProof.Rows.callWith_type1 (PyProof.Rows.args_cons (thn (ha.run pins s σ H _ I h) fun v s1 ⟨x, H1, I1, r1, q1⟩ => PyProof.Rows.args_nil ?_) he) he rfl))
  obtain ⟨l, xs, rfl, hq, hl, q1⟩ := q1
  cases r1
  obtain ⟨its, r, pl, hz⟩ := I1.list hq
  refine setList (I1.ok.hd hc) pl.isList (by simpa using strsAre_of r) hl fun h' tk hS hk => PyProof.Rows.args_nil ?_
  have small : (dd xs).length ≤ 1000 := by
    have h := dd_len_le xs []
    simp only [List.length_nil] at h
    unfold dd; omega
  obtain ⟨o, es, ep, t, ho, hex, hd, _, _, _, hf, hn⟩ := hS
  have I2 : Inv X pins σ H1 { s1 with heap := h', toks := tk } := I1.kept fun b o e => hk b o (Heap.lt_size e) e
  exact call_len_set ho hex hd hf (by rw [hn] <;> omega) ⟨V.int ((dd xs).length : Int), H1, I2.tok _, ⟨_, by rw [hn]⟩, q1⟩
end
end DR
namespace DR
open PySem PySem.Spec PyProof.Rows L2
section
variable {P : Program} {w : World} {A : Around} {E : Value → Shared → Prop} {s : Shared}
theorem sortedTup {l : Addr} {vs : List Value} {ss : List Str} {Q : Value → Shared → Prop} {o : Obj} {n : Nat} (ho : s.heap.get? l = some o) (hc : o.cls = .type "tuple") (hd : o.data = .seq vs.toArray n) (hS : StrsAre vs ss) (h64 : vs.length < 64)
    (fin : ∀ (h1 h2 : Heap) (out : List Value) (ys : List Str) (e : Nat), (∀ b x, s.heap.get? b = some x → h1.get? b = some x) → (∀ b x, h1.get? b = some x → h2.get? b = some x) → h2.get? h1.objs.size = some (seqObj "list" out.toArray e) → StrsAre out ys → ys.Perm ss → sortedS ys = true → Q (.ref h1.objs.size) { s with heap := h2 }) :
    wpAny (model P w) A (call (.builtin "sorted") [Value.ref l]) Q E s := by
  refine Calls.call_function_entry kind_sorted plain_sorted entry_sorted (args_sorted1 _) (?_ : wpAny _ _ _ _ _ _)
  unfold Builtin.«sorted»
  refine wpAny_bind (m := checkCount "sorted" 1 1 _) (wpAny_pure (wpAny_bind (wpAny_collect_seq l (.inr rfl) ho hc hd (fun h1 k1 => ?_) (by rw [List.size_toArray, sizeLine_eq]; omega))))
  have ev : vs.toArray.toList = vs := by simp
  rw [ev]
  refine wpAny_bind (wpAny_newList (?_ : wpAny _ _ _ _ _ _))
  have gL : (h1.push (seqObj "list" vs.toArray 0)).get? h1.objs.size = some (seqObj "list" vs.toArray 0) := Heap.get?_push_size _ rfl
  refine wpAny_bind (wpAny_holding (wpAny_call_entry slot_list_sort ⟨_, gL, rfl⟩ entry_list_sort (list_sort_treeK strKind_oneLt gL hS.keysOf (fun v₁ v₂ rest e => keyKind_strs (by rw [← e]; exact hS)) h64 fun st' a1 a2 => ⟨_, rfl, ?_⟩) (args_list_sort _)))
  obtain ⟨ys, b1, b2, b3⟩ := sorted_out_str hS a1 a2
  obtain ⟨e, he⟩ := sortedHeap_at (vs := vs) (out := (arrOf st').map (·.2)) gL
  refine wpAny_pure ⟨_, rfl, fin h1 _ ((arrOf st').map (·.2)).toList ys e k1 (fun b x hb1 => ?_) (by rw [Array.toArray_toList]; exact he) b1 b2 b3⟩
  have lt1 : b < h1.objs.size := Heap.lt_size hb1
  rw [sortedHeap_old (Nat.ne_of_lt lt1) (by rw [size_push']; exact Nat.lt_succ_of_lt lt1)]
  exact Heap.get?_push_of_some _ hb1
end
section
variable {X : Cx}
def rSortedST (K : PySem.W.Frag) : List V → Hp → VK → Prop := fun vs H Q => ∃ (a : Addr) (xs : List Str), vs = [V.ref a] ∧ SqT K H a (xs.map V.str) ∧ xs.length < 64 ∧
  ∀ (ys : List Str) (p : Addr), ys.Perm xs → sortedS ys = true → H p = none → Q (.ref p) (upd H p (.lst (ys.map V.str)))
theorem cr_sortedST : CallR X (.builtin "sorted") (rSortedST X.K) := by
  intro pins s σ H vs us Q I r h
  obtain ⟨a, xs, rfl, hs, h64, q⟩ := h
  obtain ⟨its, rv, ⟨o, ho, hc, n, hd⟩, _⟩ := I.tuple hs
  rw [Vals.ref1 r]
  have hl0 := rv.length
  rw [List.length_map] at hl0
  refine sortedTup ho hc hd rv.strs (by rw [← hl0]; exact h64) fun h1 h2 out ys e k1 k2 he b1 b2 b3 => ?_
  have hl : (ys.map V.str).length ≤ sizeLine := by rw [List.length_map, b2.length_eq, sizeLine_eq]; omega
  exact ⟨.ref _, upd H h1.objs.size (.lst (ys.map V.str)), (I.kept (t' := s.toks) k1).laid (t' := s.toks) k2 (Nat.le_refl _) ⟨hl, out, e, vals_of_strs b1, he⟩, rfl, q ys _ b2 b3 ((I.kept (t' := s.toks) k1).hok.fresh (Nat.le_refl _))⟩
end
end DR
/-! The data layer: rules for the raw ones, isinstance, sorted, chains; a def called. -/
namespace DL
open PySem PySem.Spec PyProof.Rows L2
open Evl (Ex)
section
variable {K : PySem.W.Frag} {e : En} {G G' H H' B : Hp} {σ : L2.St} {τ τ' : List SV} {δ δ' δ1 δ2 : Option Dr} {te ta tb tc : TE} {tt : TT} {t u : TS} {d d1 d2 d3 : D} {ds : List D} {E : Ends} {Q : VK} {post : D → Option Dr → Prop}

def tyD : D → String
  | .none => "NoneType"
  | .bool _ => "bool"
  | .int _ => "int"
  | .str _ => "str"
  | .list _ => "list"
  | .tuple _ => "tuple"
  | .dict _ => "dict"
theorem R.tyx {v : V} (r : R K H v d) : TyX K H v (.type (tyD d)) := by
  cases r with
  | non => exact .base .non
  | bl b => exact .base (.bl b)
  | int i => exact .base (.int i)
  | str x => exact .base (.str x)
  | lst h _ => exact .base (.lst h)
  | tup h _ =>
    rcases h with (h | ⟨o, h⟩) | ⟨o, its, n, hk, hc, _⟩
    · exact .base (.tup h)
    · exact .fTuple h
    · exact .kTuple hk hc
theorem ev_isi {T : String} {b : Bool} (h : Ev K te τ δ d δ') (hk : kitB (tyD d) T = some b) : Ev K (tCB (rIsi K) (tCons te (tCons (tC (.ty T)) tNil))) τ δ (.bool b) δ' := fun e G H σ s Q q =>
  h e G H σ s _ fun v G1 H1 x1 s1 r1 => ⟨v, .ty T, _, .type T, b, rfl, .ty T, (R.mono s1.ex _ _ r1).tyx, kit_ty hk, q _ G1 H1 x1 s1 (.bl b)⟩
theorem ev_chain {r r' : R2} {k k2 : Bool} (ha : Ev K ta τ δ d1 δ) (hb : Ev K tb τ δ d2 δ) (hc : Ev K tc τ δ d3 δ) (h1 : RD K r d1 d2 (.bool k)) (h2 : RD K r' d2 d3 (.bool k2)) : Ev K (tChain r r' ta tb tc) τ δ (.bool (k && k2)) δ := fun e G H σ s Q q =>
  ha e G H σ s _ fun v G1 H1 x1 s1 r1 => hb e G1 H1 σ s1 _ fun w G2 H2 x2 s2 r2 => h1 e G2 H2 σ τ δ v w s2 (R.mono x2 _ _ r1) r2 _ fun z G3 H3 x3 s3 r3 => by
    cases r3
    refine ⟨k, rfl, ?_⟩
    cases k with
    | true => exact iteT (hc e G3 H3 σ s3 _ fun y G4 H4 x4 s4 r4 => h2 e G4 H4 σ τ δ w y s4 (R.mono (x3.trans x4) _ _ r2) r4 Q fun z G5 H5 x5 s5 r5 => q z G5 H5 ((((x1.trans x2).trans x3).trans x4).trans x5) s5 r5)
    | false => exact iteF (q _ G3 H3 ((x1.trans x2).trans x3) s3 (.bl false))
theorem rd_isB {a b : Bool} : RD K rIsB (.bool a) (.bool b) (.bool (decide (a = b))) := fun e G H σ τ δ v w s r1 r2 Q q => by
  cases r1; cases r2; exact ⟨a, b, rfl, rfl, q _ G H (Ex.refl G) s (.bl _)⟩
theorem rd_notB {a b : Bool} : RD K rNotB (.bool a) (.bool b) (.bool (!decide (a = b))) := fun e G H σ τ δ v w s r1 r2 Q q => by
  cases r1; cases r2; exact ⟨a, b, rfl, rfl, q _ G H (Ex.refl G) s (.bl _)⟩
theorem ev_neg {i : Int} (h : Ev K te τ δ (.int i) δ') : Ev K (tUn (rU fun i => .int (-i)) te) τ δ (.int (-i)) δ' := fun e G H σ s Q q =>
  h e G H σ s _ fun v G1 H1 x1 s1 r1 => by cases r1; exact ⟨i, rfl, q _ G1 H1 x1 s1 (.int _)⟩
/-- the first of the shortest -/
theorem ev_minLen {xs : List Str} {m : Str} (h : Ev K te τ δ (.list (xs.map .str)) δ') (hp : 0 < xs.length) (hl : ∀ y ∈ xs, y.length ≤ 1000) (hm : ∀ (i : Nat) (z : Str), xs[i]? = some z → (∀ (j : Nat) (y : Str), xs[j]? = some y → z.length ≤ y.length ∧ (j < i → z.length < y.length)) → z = m) : Ev K (DR.tMinLen K te) τ δ (.str m) δ' := fun e G H σ s Q q =>
  h e G H σ s _ fun v G1 H1 x1 s1 r1 => by
    cases r1 with
    | @lst a ys _ h1 ra =>
      obtain rfl := RA.strs ra
      exact ⟨a, xs, rfl, .inl (.inl (s1.ex _ _ h1)), hp, hl, fun i z hi hz => by rw [hm i z hi hz]; exact q _ G1 H1 x1 s1 (.str m)⟩
theorem ev_lenSetS {xs : List Str} (h : Ev K te τ δ (.list (xs.map .str)) δ') (hl : xs.length ≤ 1000) : Ev K (DR.tLenSetS K te) τ δ (.int ((DR.dd xs).length : Int)) δ' := fun e G H σ s Q q =>
  h e G H σ s _ fun v G1 H1 x1 s1 r1 => by
    cases r1 with
    | @lst a ys _ h1 ra =>
      obtain rfl := RA.strs ra
      exact ⟨a, xs, rfl, .inl (.inl (s1.ex _ _ h1)), hl, q _ G1 H1 x1 s1 (.int _)⟩
/-! sorted texts -/
def leS (a b : Str) : Bool := !decide (b.cps.toList < a.cps.toList)
theorem leS_trans (a b c : Str) (h1 : leS a b = true) (h2 : leS b c = true) : leS a c = true := by
  unfold leS at *
  simp only [Bool.not_eq_true', decide_eq_false_iff_not, List.not_lt] at *
  exact List.le_trans h1 h2
theorem leS_total (a b : Str) : (leS a b || leS b a) = true := by
  unfold leS
  simp only [Bool.or_eq_true, Bool.not_eq_true', decide_eq_false_iff_not, List.not_lt]
  exact List.le_total _ _
theorem leS_anti {a b : Str} (h1 : leS a b = true) (h2 : leS b a = true) : a = b := by
  unfold leS at *
  simp only [Bool.not_eq_true', decide_eq_false_iff_not, List.not_lt] at *
  exact TL.ext_tl (List.le_antisymm h1 h2)
def srt (xs : List Str) : List Str := xs.mergeSort leS
theorem pw_sortedS : ∀ {xs : List Str}, sortedS xs = true → xs.Pairwise (fun a b => leS a b = true)
  | [], _ => .nil
  | [x], _ => List.pairwise_singleton _ _
  | x :: y :: r, h => by
    have h' : (!ltCps y.cps.toList x.cps.toList && risingS y r) = true := h
    rw [Bool.and_eq_true] at h'
    have ih : (y :: r).Pairwise (fun a b => leS a b = true) := pw_sortedS (xs := y :: r) h'.2
    have hxy : leS x y = true := by
      unfold leS
      rw [← ltCps_eq]
      exact h'.1
    refine List.pairwise_cons.mpr ⟨fun z hz => ?_, ih⟩
    rcases List.mem_cons.mp hz with rfl | hz
    · exact hxy
    · exact leS_trans _ _ _ hxy ((List.pairwise_cons.mp ih).1 z hz)
theorem srt_of {xs ys : List Str} (hp : ys.Perm xs) (hs : sortedS ys = true) : ys = srt xs := by
  unfold srt
  refine List.Perm.eq_of_pairwise (le := fun a b => leS a b = true) (fun a b _ _ h1 h2 => leS_anti h1 h2) (pw_sortedS hs) ?_ (hp.trans (List.mergeSort_perm xs leS).symm)
  exact List.pairwise_mergeSort (le := leS) (fun a b c h1 h2 => leS_trans a b c h1 h2) leS_total xs
theorem rc_sortedS {xs : List Str} (hl : xs.length < 64) : RCD K (rSortedS K) [.list (xs.map .str)] (.list ((srt xs).map .str)) := fun e G H σ τ δ vs s r Q q => by
  cases r with
  | cons r1 r2 =>
    cases r2
    cases r1 with
    | @lst a ys _ h1 ra =>
      obtain rfl := RA.strs ra
      refine ⟨a, xs, rfl, .inl (.inl (s.ex _ _ h1)), hl, fun zs p hp hs hn => ?_⟩
      obtain rfl := srt_of hp hs
      have x := Ex.new (o := .lst ((srt xs).map V.str)) (gnone s.ex hn)
      exact q _ _ _ x (s.new hn) (.lst upd_same (RA.ofStrs _))
theorem rc_sortedST {xs : List Str} (hl : xs.length < 64) : RCD K (DR.rSortedST K) [.tuple (xs.map .str)] (.list ((srt xs).map .str)) := fun e G H σ τ δ vs s r Q q => by
  cases r with
  | cons r1 r2 =>
    cases r2
    cases r1 with
    | @tup a ys _ h1 ra =>
      obtain rfl := RA.strs ra
      refine ⟨a, xs, rfl, Evl.ex_t s.ex h1, hl, fun zs p hp hs hn => ?_⟩
      obtain rfl := srt_of hp hs
      have x := Ex.new (o := .lst ((srt xs).map V.str)) (gnone s.ex hn)
      exact q _ _ _ x (s.new hn) (.lst upd_same (RA.ofStrs _))
theorem srt_perm {xs ys : List Str} (h : xs.Perm ys) : srt xs = srt ys := by
  unfold srt
  refine List.Perm.eq_of_pairwise (le := fun a b => leS a b = true) (fun a b _ _ h1 h2 => leS_anti h1 h2) ?_ ?_ (((List.mergeSort_perm xs leS).trans h).trans (List.mergeSort_perm ys leS).symm)
  · exact List.pairwise_mergeSort (le := leS) (fun a b c h1 h2 => leS_trans a b c h1 h2) leS_total xs
  · exact List.pairwise_mergeSort (le := leS) (fun a b c h1 h2 => leS_trans a b c h1 h2) leS_total ys
/-- own lists read by place, by length -/
theorem ev_ixOwn {i : Nat} {j : Int} (hi : τ[i]? = some (.own ds)) (hb : Ev K tb τ δ (.int j) δ') (ha : atI ds j = some d) : Ev K (tOp (rIxL K) (tVar i) tb) τ δ d δ' := fun e G H σ s Q q => by
  obtain ⟨p, vs, h1, h2, _⟩ := own_at s hi
  refine ⟨.ref p, h1, hb e G H σ s _ fun w G1 H1 x1 s1 r1 => ?_⟩
  obtain ⟨p', vs1, h1', h2', ra⟩ := own_at s1 hi
  rw [h1] at h1'
  cases h1'
  cases r1
  unfold atI at ha
  cases hx : ixN ds.length j with
  | none => rw [hx] at ha; cases ha
  | some k =>
    rw [hx] at ha
    obtain ⟨v, hv, r⟩ := RA.getd ra k d ha
    exact ⟨p, vs1, j, v, rfl, rfl, .inl (.inl h2'), by unfold atI; rw [RA.len ra, hx]; exact hv, q v G1 H1 x1 s1 r⟩
theorem sd_ifAsg {b : Bool} {i : Nat} (h : EvT K tt τ δ b δ1) (h1 : b = true → Ev K te τ δ1 d δ1) (h2 : b = false → τ[i]? = some (.val d)) (k : SD K e B tNext E (τ.set i (.val d)) δ1) : SD K e B (tIfS tt (tAsg te (gName i)) tNext) E τ δ :=
  sd_if h (fun hb => sd_asg (h1 hb) k) fun hb => by
    have z : τ.set i (.val d) = τ := by
      refine List.ext_getElem? fun j => ?_
      by_cases hij : i = j
      · subst hij
        rw [List.getElem?_set_self (List.getElem?_eq_some_iff.mp (h2 hb)).1, h2 hb]
      · rw [List.getElem?_set_ne hij]
    rw [z] at k
    exact k
/-! ### a def that may be called -/
end
def Cl (P : Program) (w : World) (K : PySem.W.Frag) (mg : Str → Option Value) (base : Heap) (x : Str) (k : Nat) (ps : List Str) (sp : Sp) : Prop := ∃ f fd, FnOk P w K mg base CX0 k f fd ps sp ∧ mg x = some (.ref f) ∧ PySem.W.keepIn K (.ref f) = true ∧ Binds K fd ps []
theorem pe_cl {X : Cx} {x : Str} {k : Nat} {ps : List Str} {sp : Sp} {p pos : Pos} {e : Expr} {es : List Expr} {t : TA} (C : Cl X.prog X.w X.K X.mg X.base x k ps sp) (hr : Room k X.A) (hg : Gl X x) (ha : PA X (e :: es) t) (hdb : (x == ("__debug__" : Str)) = false := by decide)
    (he : starEach (e :: es) X.env = (false, eval e X.env) :: starEach es X.env := by rfl) (hpl : (backTo pos (starEach es X.env)).any (·.1) = false := by rfl) : PE X (.Call (.Name x p) (e :: es) [] pos) (tCall sp [] E0 t) := by
  obtain ⟨f, fd, F, hm, hk, hb⟩ := C
  exact pe_call F hr hg hm hk hb .nil pass0 ha hdb he hpl
theorem pe_cl0 {X : Cx} {x : Str} {k : Nat} {sp : Sp} {p pos : Pos} (C : Cl X.prog X.w X.K X.mg X.base x k [] sp) (hr : Room k X.A) (hg : Gl X x) (hdb : (x == ("__debug__" : Str)) = false := by decide) : PE X (.Call (.Name x p) [] [] pos) (tCall sp [] E0 tNil) := by
  obtain ⟨f, fd, F, hm, hk, hb⟩ := C
  exact pe_call0 F hr hg hm hk hb .nil pass0 hdb
/-- the def st stands at the module's name x -/
def FT (K : PySem.W.Frag) (mg : Str → Option Value) (x : Str) (st : Stmt) (ps : List Str) : Prop := ∃ f fd, Fun K x x st f fd ∧ mg x = some (.ref f) ∧ Binds K fd ps []
section
variable {P : Program} {w : World} {K : PySem.W.Frag} {mg : Str → Option Value} {base : Heap}
theorem clA {X : Type} {enc : X → List D} {dom : X → Prop} {fn : X → D} {x : Str} {st : Stmt} {N ps : List Str} {k : Nat} (T : FT K mg x st ps) (S : FnScope N ps (defScope st)) (len : ∀ x, (enc x).length = ps.length)
    (hb : ∀ (f : Addr) (cdv : Value) (A : Around) (outer : List Env) (s : Shared) (H : Hp) (E : XK) (z : X), Room k (A.deeper (envOfC x (defScope st) s.heap.objs.size f cdv)) → dom z →
      ∃ t, PSs (cxOf CX0 P w K mg base N x (defScope st) f cdv A outer s H E).nox (defBody st) t ∧ ∀ (e : En) (Q : VK), Rt K e Q (fun d _ => d = fn z) → SD K e e.G0 t { nx := fun _ H' => Q .non H', rt := Q } ((enc z).map .val ++ List.replicate (N.length - (enc z).length) .any) none) :
    Cl P w K mg base x (k + 1) ps (spA K enc dom fn) := by
  obtain ⟨f, fd, F, hm, b⟩ := T
  exact ⟨f, fd, okA F S len (hb f), hm, F.kp, b⟩
/-- a text tuple, a text, a number of the top -/
def GT (K : PySem.W.Frag) (mg : Str → Option Value) (x : Str) (ds : List D) : Prop := ∃ a xs, mg x = some (.ref a) ∧ (∀ G, SqT K G a xs) ∧ ∀ G, RA K G xs ds
theorem gt_mk {x : Str} {a : Addr} {o : Obj} {its : Array Value} {n : Nat} {xs : List V} {ds : List D} (hm : mg x = some (.ref a)) (l : K.lookup a = some o) (hc : o.cls = .type "tuple") (hd : o.data = .seq its n) (hz : its.size ≤ sizeLine) (hv : Vals xs its.toList) (hr : ∀ G, RA K G xs ds) : GT K mg x ds :=
  ⟨a, xs, hm, fun G => .inr ⟨o, its, n, l, hc, hd, hz, hv⟩, hr⟩
end
end DL
namespace DL
open PySem PySem.Spec PyProof.Rows L2
open Evl (Ex)
section
variable {K : PySem.W.Frag} {τ : List SV} {δ δ1 : Option Dr} {te tx : TE} {tt : TT}
/-- the signs of a text, each a text -/
def sgns (x : Str) : List Str := x.cps.toList.map fun c => ⟨#[c]⟩
/-- [te for c in text if tt] -/
theorem ef_lcSp {j : Nat} (x : Str) (f : Str → Bool) (v : Str → D) (h : Ev K tx τ δ (.str x) δ1) (hj : τ[j]? = some .any) (hn : x.length ≤ 100000) (ht : ∀ c ∈ sgns x, EvT K tt (τ.set j (.val (.str c))) δ1 (f c) δ1) (he : ∀ c ∈ sgns x, f c = true → Ev K te (τ.set j (.val (.str c))) δ1 (v c) δ1) :
    EvF K (tLc (iStr tx) (gName j) tt te [j]) τ δ (((sgns x).filter f).map v) δ1 := fun e G H σ s Q q => h e G H σ s _ fun w G1 H1 x1 s1 r1 => by
  cases r1
  have hs : (sgns x).length = x.cps.size := by unfold sgns; simp
  have hsx : x.length = x.cps.size := rfl
  refine ⟨x, rfl, fun D' hD => ?_⟩
  have turn : ∀ i H', i < x.cps.size → LcP K e G1 σ τ D' (accF (sgns x) f v) (fun _ => δ1) i H' → ∀ y H2, (Its x).yld i H' y H2 → gName j y (wipe σ [j]) H2 fun σ2 H2 => wipe σ2 [j] = wipe σ [j] ∧ tt σ2 H2 fun b H3 => if b = true then te σ2 H3 fun y H4 => ∃ acc, H4 D' = some (.lst acc) ∧ acc.length < sizeLine ∧ LcP K e G1 σ τ D' (accF (sgns x) f v) (fun _ => δ1) (i + 1) (upd H4 D' (.lst (acc ++ [y]))) else LcP K e G1 σ τ D' (accF (sgns x) f v) (fun _ => δ1) (i + 1) H3 := fun i H' hi hP y H2 hy => by
    obtain ⟨rfl, c, hc, rfl⟩ := hy
    have hat : (sgns x)[i]? = some ⟨#[c]⟩ := by
      unfold sgns
      rw [List.getElem?_map, Array.getElem?_toList, hc]
      rfl
    have hm := List.mem_of_getElem? hat
    refine ⟨wipe1, lc_turn (f := f ⟨#[c]⟩) hP hj (fun _ _ => .str _) (ht _ hm) (fun hf => ⟨accF_no fun z hz => by rw [hat] at hz; cases hz; exact hf, rfl⟩) (fun hf => ⟨v ⟨#[c]⟩, accF_yes hat hf, he _ hm hf⟩) (Nat.le_trans (accF_len _ _ _ _) (by rw [hs]; exact hn))⟩
  refine ⟨fun i m H => m = x.cps.size - i ∧ i ≤ x.cps.size ∧ LcP K e G1 σ τ D' (accF (sgns x) f v) (fun _ => δ1) i H, ⟨x.cps.size, (Nat.sub_zero _).symm, Nat.zero_le _, lc_start s1 rfl rfl hD⟩, ?_⟩
  rintro i m H' ⟨rfl, hi, hP⟩
  by_cases hlt : i < x.cps.size
  · exact .inr ⟨hlt, _, fun H2 p2 => ⟨x.cps.size - (i + 1), by omega, rfl, hlt, p2⟩, fun y H2 hy => turn i H' hlt hP y H2 hy⟩
  · obtain rfl : i = x.cps.size := by omega
    obtain ⟨G2, vs, b2, s2, g, n, dn, no, hp, rv⟩ := hP
    rw [← hs, accF_all] at rv
    exact .inl ⟨Nat.le_refl _, q D' vs G2 H' (x1.trans b2) s2 g n dn no hp rv⟩
end
end DL
namespace DL
open PySem PySem.Spec PyProof.Rows L2
open Evl (Ex)
section
variable {K : PySem.W.Frag} {τ : List SV} {δ δ1 : Option Dr} {te tl tx : TE} {tt : TT}
theorem ef_lcLm {α : Type} {j : Nat} (xs : List α) (en : α → D) (v : α → D) (h : Ev K tl τ δ (.list (xs.map en)) δ1) (hj : τ[j]? = some .any) (hn : xs.length ≤ 100000) (he : ∀ x ∈ xs, Ev K te (τ.set j (.val (en x))) δ1 (v x) δ1) : EvF K (tLc (iList K tl) (gName j) tYes te [j]) τ δ (xs.map v) δ1 := by
  have k := ef_lcLp (tt := tYes) (te := te) (j := j) xs en (fun _ => true) v h hj hn (fun _ _ => et_yes) (fun x hx _ => he x hx)
  rw [List.filter_eq_self.mpr (fun _ _ => rfl)] at k
  exact k
theorem ef_lcTm {α : Type} {j : Nat} (xs : List α) (en : α → D) (v : α → D) (h : Ev K tl τ δ (.tuple (xs.map en)) δ1) (hj : τ[j]? = some .any) (hn : xs.length ≤ 100000) (he : ∀ x ∈ xs, Ev K te (τ.set j (.val (en x))) δ1 (v x) δ1) : EvF K (tLc (iTup K tl) (gName j) tYes te [j]) τ δ (xs.map v) δ1 := by
  have k := ef_lcTp (tt := tYes) (te := te) (j := j) xs en (fun _ => true) v h hj hn (fun _ _ => et_yes) (fun x hx _ => he x hx)
  rw [List.filter_eq_self.mpr (fun _ _ => rfl)] at k
  exact k
theorem ef_lcSm {j : Nat} (x : Str) (v : Str → D) (h : Ev K tx τ δ (.str x) δ1) (hj : τ[j]? = some .any) (hn : x.length ≤ 100000) (he : ∀ c ∈ sgns x, Ev K te (τ.set j (.val (.str c))) δ1 (v c) δ1) : EvF K (tLc (iStr tx) (gName j) tYes te [j]) τ δ ((sgns x).map v) δ1 := by
  have k := ef_lcSp (tt := tYes) (te := te) (j := j) x (fun _ => true) v h hj hn (fun _ _ => et_yes) (fun c hc _ => he c hc)
  rw [List.filter_eq_self.mpr (fun _ _ => rfl)] at k
  exact k
theorem rc_allG {α : Type} {xs : List α} {g : α → Bool} : RCD K (rAll K) [.list (xs.map fun x => .bool (g x))] (.bool (xs.all g)) := by
  have k := rc_all (K := K) (bs := xs.map g)
  rw [List.map_map, List.all_map] at k
  exact k
end
theorem kSS : kitB "str" "str" = some true := by decide +kernel
theorem kLL : kitB "list" "list" = some true := by decide +kernel
theorem kTT : kitB "tuple" "tuple" = some true := by decide +kernel
theorem kII : kitB "int" "int" = some true := by decide +kernel
theorem kIB : kitB "int" "bool" = some false := by decide +kernel
end DL

namespace DL
open PySem PySem.Spec PyProof.Rows L2
open Evl (Ex)
/-! the rules that name the written part, with it as a letter of its own (within a comprehension's block it would else hang on the block) -/
section
variable {X : Cx} {K : PySem.W.Frag}
theorem op_inK (h : X.K = K) : OpR X (compareOp .In) (rIn K false) := h ▸ op_in_seq
theorem op_notInK (h : X.K = K) : OpR X (compareOp .NotIn) (rIn K true) := h ▸ op_notIn_seq
theorem op_eqDK (hu : X.A.units + 64 < cLine) (h : X.K = K) : OpR X (compareOp .Eq) (rEqD K) := h ▸ op_eqD hu
theorem op_neDK (hu : X.A.units + 64 < cLine) (h : X.K = K) : OpR X (compareOp .NotEq) (rNeD K) := h ▸ op_neD hu
theorem ix_listK (h : X.K = K) : IxR X (rIxL K) := h ▸ ix_list
theorem ix_tupK (h : X.K = K) : IxR X (rIxT K) := h ▸ ix_tup
theorem sl_listK (h : X.K = K) : SlR X (rSlL K) := h ▸ sl_list
theorem sl_tupK (h : X.K = K) : SlR X (rSlT K) := h ▸ sl_tup
abbrev rLenQ (K : PySem.W.Frag) : List V → Hp → VK → Prop := fun xs H Q => ∃ p ys, xs = [.ref p] ∧ (SqL K H p ys ∨ SqT K H p ys) ∧ Q (.int ys.length) H
theorem call_lenK (h : X.K = K) : CallR X (.builtin "len") (rLenQ K) := h ▸ call_len_seq
theorem cr_allK (hc : X.calm = true) (h : X.K = K) : CallR X (.builtin "all") (rAll K) := h ▸ cr_all hc
theorem cr_anyK (hc : X.calm = true) (h : X.K = K) : CallR X (.builtin "any") (rAny K) := h ▸ cr_any hc
theorem cr_minK (hc : X.calm = true) (h : X.K = K) : CallR X (.builtin "min") (rMin K) := h ▸ cr_min hc
theorem call_isJ (h : X.K = K) : CallR X (.builtin "isinstance") (rIsi K) := h ▸ call_isi
abbrev rListQ (K : PySem.W.Frag) : List V → Hp → VK → Prop := fun xs H Q => ∃ p ys, xs = [.ref p] ∧ (SqL K H p ys ∨ SqT K H p ys) ∧ ∀ l, H l = none → Q (.ref l) (upd H l (.lst ys))
theorem call_listK (h : X.K = K) : CallR X (.type "list") (rListQ K) := h ▸ call_list_of
abbrev rTupQ (K : PySem.W.Frag) : List V → Hp → VK → Prop := fun xs H Q => ∃ p ys, xs = [.ref p] ∧ ((SqL K H p ys ∧ ∀ l, H l = none → Q (.ref l) (upd H l (.tup ys))) ∨ (SqT K H p ys ∧ Q (.ref p) H))
theorem call_tupleK (h : X.K = K) : CallR X (.type "tuple") (rTupQ K) := h ▸ call_tuple_of
theorem cr_sortedSK (h : X.K = K) : CallR X (.builtin "sorted") (rSortedS K) := h ▸ cr_sortedS
theorem cr_sortedSTK (h : X.K = K) : CallR X (.builtin "sorted") (DR.rSortedST K) := h ▸ DR.cr_sortedST
theorem mt_indexK (h : X.K = K) : MtR X "list.index" (rIndex K) := h ▸ mt_index
theorem pi_listK {tg l : Expr} {tl : TE} (h : X.K = K) (hl : PE X l tl) : PI X tg l (iList K tl) := h ▸ pi_list hl
theorem pi_tupK {tg l : Expr} {tl : TE} (h : X.K = K) (hl : PE X l tl) : PI X tg l (iTup K tl) := h ▸ pi_tup hl
theorem pa_starK {e : Expr} {es : List Expr} {te : TE} {t : TA} {p : Pos} (h : X.K = K) (he : PE X e te) (hr : PA X es t) (hs : starEach (.Starred e p :: es) X.env = (true, eval e X.env) :: starEach es X.env := by rfl) : PA X (.Starred e p :: es) (StX.tStar K te t) := h ▸ StX.pa_star he hr hs
theorem pe_minLenK {a : Expr} {ta : TE} {p p2 kp pos : Pos} (h : X.K = K) (hc : X.calm = true) (hg : Gl X "min") (hm : X.mg "min" = none) (hg2 : Gl X "len") (hm2 : X.mg "len" = none) (ha : PE X a ta)
    (he : starEach [a] X.env = (false, eval a X.env) :: starEach [] X.env := by rfl) : PE X (.Call (.Name "min" p) [a] [⟨some "key", .Name "len" p2, kp⟩] pos) (DR.tMinLen K ta) := h ▸ DR.pe_minLen hc hg hm hg2 hm2 ha he
theorem pe_lenSetK {a : Expr} {ta : TE} {p p2 q pos : Pos} (h : X.K = K) (hc : X.calm = true) (hg : Gl X "len") (hm : X.mg "len" = none) (hg2 : Gl X "set") (hm2 : X.mg "set" = none) (ha : PE X a ta)
    (he : starEach [a] X.env = (false, eval a X.env) :: starEach [] X.env := by rfl) : PE X (.Call (.Name "len" p) [.Call (.Name "set" p2) [a] [] q] [] pos) (DR.tLenSetS K ta) := h ▸ DR.pe_lenSetS hc hg hm hg2 hm2 ha he
theorem pg_tupK {es : List Expr} {t : TGs} {k n : Nat} {pos : Pos} (h : X.K = K) (hc : X.calm = true) (ht : PGs X es t) (hn : (assignEach es X.env).length = n := by rfl) (hst : (assignEach es X.env).findIdx? (·.1) = none := by rfl) : PG X (.Tuple es k pos) (gTup K n t) := h ▸ pg_tup hc ht hn hst
end
end DL
namespace DL
open PySem PySem.Spec PyProof.Rows L2
open Evl (Ex)
section
variable {K : PySem.W.Frag} {e : En} {G G' H H' B : Hp} {σ : L2.St} {τ : List SV} {δ δ1 : Option Dr} {te tl t2 : TE} {d : D}
theorem yes_ok {σ : L2.St} {H : Hp} {A C : Hp → Prop} (h : A H) : tYes σ H fun b H' => if b = true then A H' else C H' := by
  show (if true = true then A H else C H)
  rw [if_pos rfl]
  exact h
/-- [te for x in list for y in tuple] -/
theorem ef_lc2LT {α β : Type} {i j : Nat} (xs : List α) (en : α → D) (ys : List β) (em : β → D) (v : α → β → D) (hij : i ≠ j) (h : Ev K tl τ δ (.list (xs.map en)) δ) (hi : τ[i]? = some .any) (hj : τ[j]? = some .any) (hx : xs.length ≤ 300) (hy : ys.length ≤ 300)
    (h2 : ∀ x ∈ xs, Ev K t2 (τ.set i (.val (en x))) δ (.tuple (ys.map em)) δ) (he : ∀ x ∈ xs, ∀ y ∈ ys, Ev K te ((τ.set i (.val (en x))).set j (.val (em y))) δ (v x y) δ) :
    EvF K (tLc2 (iList K tl) (gName i) tYes (iTup K t2) (gName j) tYes te [i, j] [j]) τ δ (xs.flatMap fun x => ys.map (v x)) δ := fun e G H σ s Q q => h e G H σ s _ fun w G1 H1 x1 s1 r1 => by
  cases r1 with
  | @lst a us _ hu ra =>
    let ac : Nat → List PyData := fun n => (xs.take n).flatMap fun x => ys.map (v x)
    have acs : ∀ n x, xs[n]? = some x → ac (n + 1) = ac n ++ ys.map (v x) := fun n x hn => by
      show (xs.take (n + 1)).flatMap _ = _
      rw [List.take_add_one, hn, List.flatMap_append]
      show _ ++ (ys.map (v x) ++ []) = _
      rw [List.append_nil]
    have acl : ∀ n, (ac n).length ≤ 90000 := fun n => by
      show ((xs.take n).flatMap fun x => ys.map (v x)).length ≤ 90000
      rw [List.length_flatMap]
      have : ∀ l : List α, l.length ≤ 300 → ((l.map fun x => (ys.map (v x)).length).sum) ≤ l.length * 300 := fun l => by
        induction l with
        | nil => intro _; exact Nat.zero_le _
        | cons y l ih =>
          intro hl
          rw [List.map_cons, List.sum_cons, List.length_cons, List.length_map]
          have := ih (by rw [List.length_cons] at hl; omega)
          omega
      have h2 := this (xs.take n) (by rw [List.length_take]; omega)
      have h3 : (xs.take n).length ≤ 300 := by rw [List.length_take]; omega
      omega
    have hul : us.length = xs.length := by rw [RA.len ra, List.length_map]
    refine ⟨a, rfl, ⟨us, .inl (.inl (s1.ex _ _ hu))⟩, fun D' hD => ?_⟩
    refine ⟨fun n m H' => m = us.length - n ∧ n ≤ us.length ∧ LcP K e G1 σ τ D' ac (fun _ => δ) n H', ⟨us.length, (Nat.sub_zero _).symm, Nat.zero_le _, lc_start s1 rfl rfl hD⟩, ?_⟩
    rintro n m H' ⟨rfl, hn, hP⟩
    have hP0 := hP
    obtain ⟨G2, vs, b2, s2, g, nN, dn, no, hp, rv⟩ := hP
    have hl : SqL K H' a us := .inl (.inl (s2.ex _ _ (b2 _ _ hu)))
    by_cases hlt : n < us.length
    · refine .inr ⟨⟨us, us[n], hl, List.getElem?_eq_getElem hlt⟩, _, fun H2 p2 => ⟨us.length - (n + 1), by omega, rfl, hlt, p2⟩, fun y H2 hy2 => ?_⟩
      obtain ⟨rfl, hy3⟩ := hy2
      obtain ⟨dx, hdx, rx⟩ := RA.get ra n y (hy3 us hl)
      rw [List.getElem?_map] at hdx
      obtain ⟨x, hx2, rfl⟩ := Option.map_eq_some_iff.mp hdx
      have hxm := List.mem_of_getElem? hx2
      have e0 : (wipe σ [i, j]).set i (some y) = ((σ.set i (some y)).set j none) := by
        show ((σ.set j none).set i none).set i (some y) = _
        rw [List.set_set, List.set_comm _ _ hij.symm]
      show wipe ((wipe σ [i, j]).set i (some y)) [i, j] = wipe σ [i, j] ∧ _
      refine ⟨?_, ?_⟩
      · show (((((σ.set j none).set i none).set i (some y))).set j none).set i none = (σ.set j none).set i none
        rw [List.set_set, List.set_comm _ _ hij, List.set_set, List.set_set]
      -- the inner walk
      refine yes_ok ?_
      have sx : Stt K (e.plus D' (.lst vs)) G2 H2 (((σ.set i (some y)).set j none)) ((τ.set i (.val (en x)))) δ := by
        have q0 := (s2.plus g hp nN dn no).setv (i := i) (R.mono b2 _ _ rx)
        refine ⟨q0.ex, q0.gx, q0.nn, q0.fr, by rw [List.length_set]; exact q0.len, fun k z hk => ?_, fun k1 k2 y1 y2 p w1 w2 h1 h2 h3 h4 => ?_, q0.dr⟩
        · by_cases hk2 : j = k
          · subst hk2
            rw [List.getElem?_set_ne hij, hj] at hk
            cases hk
            refine ⟨none, ?_, .any _⟩
            rw [List.getElem?_set_self]
            rw [q0.len, List.length_set]
            exact (List.getElem?_eq_some_iff.mp hj).1
          · rw [List.getElem?_set_ne hk2]
            exact q0.sl k z hk
        · have c1 : j ≠ k1 := fun z => by subst z; rw [List.getElem?_set_ne hij, hj] at h1; cases h1; cases w1
          have c2 : j ≠ k2 := fun z => by subst z; rw [List.getElem?_set_ne hij, hj] at h2; cases h2; cases w2
          rw [List.getElem?_set_ne c1] at h3
          rw [List.getElem?_set_ne c2] at h4
          exact q0.dj k1 k2 y1 y2 p w1 w2 h1 h2 h3 h4
      rw [e0]
      refine h2 x hxm _ G2 H2 _ sx _ fun u G3 H3 x3 s3 r3 => ?_
      cases r3 with
      | @tup a2 us2 _ hu2 ra2 =>
        -- back to the outer state
        have out : ∀ {G4 H4 : Hp} {z : Option V} {k : SV}, Ex G2 G4 → Stt K (e.plus D' (.lst vs)) G4 H4 (((σ.set i (some y)).set j z)) ((τ.set i (.val (en x))).set j k) δ → Stt K e G4 H4 σ τ δ ∧ G4 D' = none ∧ H4 D' = some (.lst vs) := fun {G4 H4 z k} x4 s4 => by
          obtain ⟨q1, q2, q3, _, _⟩ := s4.minus nN s2.nn
          have m1 : Stt K e G2 H2 (σ.set i (some y)) (τ.set i (.val (en x))) δ := s2.setv (R.mono b2 _ _ rx)
          have m2 : Stt K e G4 H4 (σ.set i (some y)) (τ.set i (.val (en x))) δ := Stt.back (e' := e) (j := j) m1 (by rw [List.getElem?_set_ne hij]; exact hj) x4 q1
          exact ⟨Stt.back (e' := e) (j := i) s2 hi x4 m2, q2, q3⟩
        refine ⟨a2, rfl, ⟨us2, Evl.ex_t s3.ex hu2⟩, ?_⟩
        let ac1 : Nat → List PyData := fun r => ac n ++ (ys.take r).map (v x)
        have hul2 : us2.length = ys.length := by rw [RA.len ra2, List.length_map]
        have s3' : Stt K e G3 H3 σ τ δ ∧ G3 D' = none ∧ H3 D' = some (.lst vs) := by
          have e2 : ((τ.set i (.val (en x))).set j .any) = τ.set i (.val (en x)) := by
            refine List.ext_getElem? fun k => ?_
            by_cases hk : j = k
            · subst hk
              have hjl : j < (τ.set i (SV.val (en x))).length := by rw [List.length_set]; exact (List.getElem?_eq_some_iff.mp hj).1
              rw [List.getElem?_set_self hjl, List.getElem?_set_ne hij, hj]
            · rw [List.getElem?_set_ne hk]
          rw [← e2] at s3
          exact out x3 s3
        refine ⟨fun r k H5 => k = us2.length - r ∧ r ≤ us2.length ∧ LcP K e G3 σ τ D' ac1 (fun _ => δ) r H5, ⟨us2.length, (Nat.sub_zero _).symm, Nat.zero_le _, ⟨G3, vs, Ex.refl G3, s3'.1, s3'.2.1, nN, dn, no, s3'.2.2, ?_⟩⟩, ?_⟩
        · show RA K G3 vs (ac n ++ (ys.take 0).map (v x))
          rw [List.take_zero, List.map_nil, List.append_nil]
          exact RA.mono x3 _ _ rv
        rintro r k H5 ⟨rfl, hr, hP5⟩
        obtain ⟨G6, vs6, b6, s6, g6, _, _, _, hp6, rv6⟩ := hP5
        have hl2 : SqT K H5 a2 us2 := Evl.ex_t (b6.trans s6.ex) hu2
        by_cases hlt2 : r < us2.length
        · refine .inr ⟨⟨us2, us2[r], hl2, List.getElem?_eq_getElem hlt2⟩, _, fun H7 p7 => ⟨us2.length - (r + 1), by omega, rfl, hlt2, p7⟩, fun y2 H7 hy7 => ?_⟩
          obtain ⟨rfl, hy8⟩ := hy7
          obtain ⟨dy, hdy, ry⟩ := RA.get ra2 r y2 (hy8 us2 hl2)
          rw [List.getElem?_map] at hdy
          obtain ⟨y', hy9, rfl⟩ := Option.map_eq_some_iff.mp hdy
          show wipe ((wipe ((σ.set i (some y)).set j none) [j]).set j (some y2)) [j] = wipe ((σ.set i (some y)).set j none) [j] ∧ _
          refine ⟨wipe1, ?_⟩
          refine yes_ok ?_
          have e3 : (wipe ((σ.set i (some y)).set j none) [j]).set j (some y2) = (σ.set i (some y)).set j (some y2) := by
            show ((((σ.set i (some y)).set j none).set j none).set j (some y2)) = _
            rw [List.set_set, List.set_set]
          rw [e3]
          have rx6 : R K G6 y (en x) := R.mono ((b2.trans x3).trans b6) _ _ rx
          have s7 := ((s6.plus g6 hp6 nN dn no).setv (i := i) rx6).setv (i := j) (R.mono b6 _ _ ry)
          refine he x hxm y' (List.mem_of_getElem? hy9) _ G6 H7 _ s7 _ fun z G8 H8 x8 s8 r8 => ?_
          obtain ⟨q1, q2, q3, _, _⟩ := s8.minus nN s2.nn
          have m1 : Stt K e G6 H7 (σ.set i (some y)) (τ.set i (.val (en x))) δ := s6.setv rx6
          have m2 : Stt K e G8 H8 (σ.set i (some y)) (τ.set i (.val (en x))) δ := Stt.back (e' := e) (j := j) m1 (by rw [List.getElem?_set_ne hij]; exact hj) x8 q1
          have m3 : Stt K e G8 H8 σ τ δ := Stt.back (e' := e) (j := i) s6 hi x8 m2
          have hlen : vs6.length ≤ 100000 := by
            rw [RA.len rv6]
            show (ac n ++ (ys.take r).map (v x)).length ≤ 100000
            rw [List.length_append, List.length_map, List.length_take]
            have := acl n
            omega
          refine ⟨vs6, q3, Nat.lt_of_le_of_lt hlen (by decide), G8, vs6 ++ [z], b6.trans x8, m3.updO q2 nN dn no, q2, nN, dn, no, upd_same, ?_⟩
          show RA K G8 (vs6 ++ [z]) (ac n ++ (ys.take (r + 1)).map (v x))
          rw [List.take_add_one, hy9, List.map_append, ← List.append_assoc]
          exact RA.app (RA.mono x8 _ _ rv6) (.cons r8 .nil)
        · obtain rfl : r = us2.length := by omega
          refine .inl ⟨⟨us2, hl2, Nat.le_refl _⟩, ?_⟩
          refine ⟨G6, vs6, (b2.trans x3).trans b6, s6, g6, nN, dn, no, hp6, ?_⟩
          show RA K G6 vs6 (ac (n + 1))
          rw [acs n x hx2]
          have e4 : (ys.take us2.length) = ys := by rw [hul2, List.take_length]
          have rv7 : RA K G6 vs6 (ac n ++ (ys.take us2.length).map (v x)) := rv6
          rw [e4] at rv7
          exact rv7
    · obtain rfl : n = us.length := by omega
      refine .inl ⟨⟨us, hl, Nat.le_refl _⟩, ?_⟩
      have e5 : ac us.length = xs.flatMap fun x => ys.map (v x) := by
        show (xs.take us.length).flatMap _ = _
        rw [hul, List.take_length]
      have rv' : RA K G2 vs (ac us.length) := rv
      rw [e5] at rv'
      exact q D' vs G2 H' (x1.trans b2) s2 g nN dn no hp rv'
end
end DL
/-! The data layer: draws that are handed on. -/
namespace DL
open PySem PySem.Spec PyProof.Rows L2
open Evl (Ex)
structure Ds where
  ns : List Int
  c : Int
def Dr.st (d : Dr) : Ds := ⟨d.ns, d.c⟩
def Dr.go (d : Dr) (s : Ds) : Dr := ⟨d.p, d.q, s.ns, s.c, d.ob⟩
theorem Dr.go_st (d : Dr) (s : Ds) : (d.go s).st = s := rfl
theorem Dr.go_go (d : Dr) (s t : Ds) : (d.go s).go t = d.go t := rfl
/-- a def that draws: its first argument is the draws -/
def spW (K : PySem.W.Frag) {X : Type} (enc : X → List D) (dom : X → Ds → Prop) (fn : X → Ds → D × Ds) : Sp := fun vs H Q _ => ∃ (G : Hp) (x : X) (d : Dr) (rest : List V), vs = .ref d.p :: rest ∧ Ex G H ∧ RA K G rest (enc x) ∧ G d.p = none ∧ G d.q = none ∧ d.p ≠ d.q ∧
  H d.p = some (.lst [.ref d.q, .int d.c]) ∧ H d.q = some (.lst (d.ns.map V.int)) ∧ dom x d.st ∧
  ∀ v G' H', Ex G G' → Ex G' H' → G' d.p = none → G' d.q = none → H' d.p = some (.lst [.ref d.q, .int (fn x d.st).2.c]) → H' d.q = some (.lst ((fn x d.st).2.ns.map V.int)) → (∀ a, a ≠ d.p → a ≠ d.q → H a ≠ none → G a = none → G' a = none ∧ H' a = H a) → R K G' v (fn x d.st).1 → Q v H'
section
variable {K : PySem.W.Frag} {e : En} {G G' H H' B : Hp} {σ : L2.St} {τ τ' : List SV} {δ δ' δ1 δ2 : Option Dr} {te ta tb : TE} {d : D} {ds : List D}
theorem drw_at {i : Nat} {x : Dr} (s : Stt K e G H σ τ (some x)) (hi : τ[i]? = some .drw) : σ[i]? = some (some (.ref x.p)) := by
  obtain ⟨w, h1, h2⟩ := s.sl i _ hi
  cases h2 with
  | drw h => cases h; exact h1
theorem Stt.callW {x : Dr} {s' : Ds} (s : Stt K e G H σ τ (some x)) (gx : Ex G G') (xh : Ex G' H') (gp : G' x.p = none) (gq : G' x.q = none) (hp : H' x.p = some (.lst [.ref x.q, .int s'.c])) (hq : H' x.q = some (.lst (s'.ns.map V.int)))
    (fr : ∀ a, a ≠ x.p → a ≠ x.q → H a ≠ none → G a = none → G' a = none ∧ H' a = H a) : Stt K e G' H' σ τ (some (x.go s')) := by
  obtain ⟨d1, d2, d3, d4, d5, d6, d7, ok, oj⟩ := s.dr
  refine ⟨xh, s.gx.trans gx, s.nn, fun a ha => ?_, s.len, fun i y hy => ?_, s.dj, ⟨gp, gq, d3, d4, d5, hp, hq, ok.chg gx fun o ho a ha g' h' => fr a (fun z => (oj.1 o ho).1 (by rw [← z]; exact ha)) (fun z => (oj.1 o ho).2 (by rw [← z]; exact ha)) h' g', oj⟩⟩
  · obtain ⟨f1, f2⟩ := s.fr a ha
    obtain ⟨k1, k2⟩ := fr a (fun z => d4 (by rw [← z]; exact ha)) (fun z => d5 (by rw [← z]; exact ha)) (by rw [f2]; exact s.nn a ha) f1
    exact ⟨k1, k2.trans f2⟩
  · obtain ⟨w, h1, h2⟩ := s.sl i y hy
    refine ⟨w, h1, ?_⟩
    cases h2 with
    | any => exact .any _
    | val r => exact .val (R.mono gx _ _ r)
    | own n g h ra dn =>
      obtain ⟨k1, k2⟩ := fr _ dn.1 dn.2.1 (by rw [h]; exact fun z => by cases z) g
      exact .own n k1 (k2.trans h) (RA.mono gx _ _ ra) dn
    | dct n g h ra dn =>
      obtain ⟨k1, k2⟩ := fr _ dn.1 dn.2.1 (by rw [h]; exact fun z => by cases z) g
      exact .dct n k1 (k2.trans h) (de_mono gx ra) dn
    | exc h => exact .exc (gx _ _ h)
    | raw v => exact .raw v
    | @drw d h =>
      cases h
      exact .drw (d := x.go s') rfl
theorem ev_callW {X : Type} {enc : X → List D} {dom : X → Ds → Prop} {fn : X → Ds → D × Ds} {t : TA} {Ex' : XK} {i : Nat} {x0 x1 : Dr} (x : X) (hi : τ[i]? = some .drw) (h : EvA K t τ (some x0) ds (some x1)) (hx : ds = enc x) (hd : dom x x1.st) :
    Ev K (tCall (spW K enc dom fn) [] Ex' (tCons (tVar i) t)) τ (some x0) (fn x x1.st).1 (some (x1.go (fn x x1.st).2)) := fun e G H σ s Q q => by
  refine ⟨_, drw_at s hi, h e G H σ s _ fun vs G1 H1 g1 s1 r1 => ?_⟩
  show spW K enc dom fn ((V.ref x0.p :: vs) ++ []) H1 Q Ex'
  rw [List.append_nil]
  have ep : x0.p = x1.p := by
    have a := drw_at s hi
    rw [drw_at s1 hi] at a
    exact (V.ref.inj (Option.some.inj (Option.some.inj a))).symm
  obtain ⟨d1, d2, d3, d4, d5, d6, d7, ok, oj⟩ := s1.dr
  rw [ep]
  exact ⟨G1, x, x1, vs, rfl, s1.ex, by rw [← hx]; exact r1, d1, d2, d3, d6, d7, hd, fun v G2 H2 g2 xh gp gq hp hq fr r2 => q v G2 H2 (g1.trans g2) (s1.callW g2 xh gp gq hp hq fr) r2⟩
/-- what a return must show, of a def that draws -/
def entW (G H : Hp) (d : Dr) : En := ⟨fun a => a ≠ d.p ∧ a ≠ d.q ∧ H a ≠ none ∧ G a = none, H, G⟩
theorem stt_startW {N : List Str} {vs : List V} {x : Dr} (gx : Ex G H) (ra : RA K G vs ds) (g1 : G x.p = none) (g2 : G x.q = none) (ne : x.p ≠ x.q) (h1 : H x.p = some (.lst [.ref x.q, .int x.c])) (h2 : H x.q = some (.lst (x.ns.map V.int))) :
    Stt K (entW G H x) G H (L2.start N (.ref x.p :: vs)) (.drw :: (ds.map .val ++ List.replicate (N.length - (ds.length + 1)) .any)) (some ⟨x.p, x.q, x.ns, x.c, []⟩) := by
  have hl := RA.len ra
  have es : L2.start N (.ref x.p :: vs) = some (.ref x.p) :: (vs.map some ++ List.replicate (N.length - (vs.length + 1)) none) := rfl
  rw [es]
  refine ⟨gx, Ex.refl G, fun a ha => ha.2.2.1, fun a ha => ⟨ha.2.2.2, rfl⟩, ?_, fun i y hy => ?_, fun i j y1 y2 p w1 w2 h => ?_, ⟨g1, g2, ne, fun z => z.1 rfl, fun z => z.2.1 rfl, h1, h2, ObOk.nil, ObDj.nil⟩⟩
  · rw [List.length_cons, List.length_cons, List.length_append, List.length_append, List.length_map, List.length_map, List.length_replicate, List.length_replicate, hl]
  · cases i with
    | zero => cases hy; exact ⟨_, rfl, .drw (d := ⟨x.p, x.q, x.ns, x.c, []⟩) rfl⟩
    | succ i =>
      have hy : (ds.map SV.val ++ List.replicate (N.length - (ds.length + 1)) SV.any)[i]? = some y := hy
      show ∃ o, (vs.map some ++ List.replicate (N.length - (vs.length + 1)) none)[i]? = some o ∧ _
      by_cases hi : i < ds.length
      · rw [List.getElem?_append_left (by rw [List.length_map]; exact hi), List.getElem?_map, List.getElem?_eq_getElem hi] at hy
        cases hy
        obtain ⟨v, hv, r⟩ := RA.getd ra i _ (List.getElem?_eq_getElem hi)
        refine ⟨some v, ?_, .val r⟩
        rw [List.getElem?_append_left (by rw [List.length_map]; omega), List.getElem?_map, hv]
        rfl
      · rw [List.getElem?_append_right (by rw [List.length_map]; omega), List.getElem?_replicate, List.length_map] at hy
        split at hy
        · cases hy
          rename_i hlt
          refine ⟨none, ?_, .any _⟩
          rw [List.getElem?_append_right (by rw [List.length_map]; omega), List.getElem?_replicate, List.length_map, if_pos (by omega)]
        · cases hy
  · exfalso
    cases i with
    | zero => cases h; cases w1
    | succ i =>
      have h : (ds.map SV.val ++ List.replicate (N.length - (ds.length + 1)) SV.any)[i]? = some y1 := h
      by_cases hi : i < ds.length
      · rw [List.getElem?_append_left (by rw [List.length_map]; exact hi), List.getElem?_map, List.getElem?_eq_getElem hi] at h
        cases h
        cases w1
      · rw [List.getElem?_append_right (by rw [List.length_map]; omega), List.getElem?_replicate, List.length_map] at h
        split at h
        · cases h; cases w1
        · cases h
end
section
variable {P : Program} {w : World} {K : PySem.W.Frag} {mg : Str → Option Value} {base : Heap}
/-- THE RULE for a def that draws; the draws' place is any, what they hold is d's -/
theorem clW {X : Type} {enc : X → List D} {dom : X → Ds → Prop} {fn : X → Ds → D × Ds} {x : Str} {st : Stmt} {N ps : List Str} {k : Nat} (T : FT K mg x st ps) (S : FnScope N ps (defScope st)) (len : ∀ x, (enc x).length + 1 = ps.length)
    (hb : ∀ (f : Addr) (cdv : Value) (A : Around) (outer : List Env) (s : Shared) (H : Hp) (E : XK) (z : X) (d : Dr), Room k (A.deeper (envOfC x (defScope st) s.heap.objs.size f cdv)) → dom z d.st →
      ∃ t, PSs (cxOf CX0 P w K mg base N x (defScope st) f cdv A outer s H E).nox (defBody st) t ∧ ∀ (e : En) (Q : VK), Rt K e Q (fun v d' => v = (fn z d.st).1 ∧ d' = some (d.go (fn z d.st).2)) → SD K e e.G0 t { nx := fun _ H' => Q .non H', rt := Q } (.drw :: ((enc z).map .val ++ List.replicate (N.length - ((enc z).length + 1)) .any)) (some d)) :
    Cl P w K mg base x (k + 1) ps (spW K enc dom fn) := by
  obtain ⟨f, fd, F, hm, b⟩ := T
  refine ⟨f, fd, ?_, hm, F.kp, b⟩
  refine F.ok S (fun vs H Q E ⟨G, x, d, rest, hv, ex, ra, _⟩ => by rw [hv, List.length_cons, RA.len ra]; exact len x) (fun cdv A outer s H vs Q E hr ⟨G, z, d, rest, hv, ex, ra, g1, g2, ne, h1, h2, hd, q⟩ => ?_)
  obtain ⟨t, ht, h3⟩ := hb f cdv A outer s H E z ⟨d.p, d.q, d.ns, d.c, []⟩ hr hd
  subst hv
  refine ⟨t, ht, h3 (entW G H d) Q (fun v G' H' σ τ δ r s' rv z => ?_) G H _ (Ex.refl G) (stt_startW ex ra g1 g2 ne h1 h2)⟩
  obtain ⟨z1, z2⟩ := z
  subst z1
  subst z2
  obtain ⟨d1, d2, d3, d4, d5, d6, d7, ok, oj⟩ := s'.dr
  exact q v G' H' s'.gx s'.ex d1 d2 d6 d7 (fun a a1 a2 a3 a4 => s'.fr a ⟨a1, a2, a3, a4⟩) rv
end
end DL
/-! The data layer: data that are alike only if they are the same. -/
namespace DL
open PySem PySem.Spec PyProof.Rows L2
inductive Pl : Nat → D → Prop
  | non (n : Nat) : Pl n .none
  | int (n : Nat) (i : Int) : Pl n (.int i)
  | str (n : Nat) (x : Str) (h : PyData.strOk x = true) : Pl n (.str x)
  | list (n : Nat) (ds : List D) (h : ∀ d ∈ ds, Pl n d) : Pl (n + 1) (.list ds)
  | tup (n : Nat) (ds : List D) (h : ∀ d ∈ ds, Pl n d) : Pl (n + 1) (.tuple ds)
theorem Pl.lay {n : Nat} {d : D} (h : Pl n d) : d.canLay0 = true ∧ d.depth ≤ n := by
  have all : ∀ {n : Nat} (ds : List D), (∀ d ∈ ds, d.canLay0 = true ∧ d.depth ≤ n) → PyData.canLayAll0 ds = true ∧ PyData.depthAll ds ≤ n := by
    intro n ds
    induction ds with
    | nil => exact fun _ => ⟨by rw [PyData.canLayAll0], by rw [PyData.depthAll]; exact Nat.zero_le _⟩
    | cons d ds ih =>
      intro hh
      obtain ⟨a1, a2⟩ := hh d (List.mem_cons_self ..)
      obtain ⟨b1, b2⟩ := ih fun x hx => hh x (List.mem_cons_of_mem _ hx)
      refine ⟨by rw [PyData.canLayAll0, a1, b1]; rfl, by rw [PyData.depthAll]; omega⟩
  induction h with
  | non n => exact ⟨by rw [PyData.canLay0], by rw [PyData.depth]; exact Nat.zero_le _⟩
  | int n i => exact ⟨by rw [PyData.canLay0], by rw [PyData.depth]; exact Nat.zero_le _⟩
  | str n x h => exact ⟨by rw [PyData.canLay0]; exact h, by rw [PyData.depth]; exact Nat.zero_le _⟩
  | list n ds h ih =>
    obtain ⟨a, b⟩ := all ds ih
    exact ⟨by rw [PyData.canLay0]; exact a, by rw [PyData.depth]; omega⟩
  | tup n ds h ih =>
    obtain ⟨a, b⟩ := all ds ih
    exact ⟨by rw [PyData.canLay0]; exact a, by rw [PyData.depth]; omega⟩
theorem Pl.shaped {n : Nat} {d : D} (h : Pl n d) (hn : n ≤ 64 := by decide) : SeqAt.shaped d = true := by
  obtain ⟨a, b⟩ := h.lay
  show (d.canLay0 && decide (d.depth ≤ 64)) = true
  rw [a, decide_eq_true (by omega)]
  rfl
theorem Pl.eqv {n : Nat} {a : D} (h : Pl n a) : ∀ {m : Nat} {b : D}, Pl m b → (PyData.eqv a b = true ↔ a = b) := by
  have all : ∀ (ds : List D), (∀ d ∈ ds, ∀ {m : Nat} {b : D}, Pl m b → (PyData.eqv d b = true ↔ d = b)) → ∀ {m : Nat} (es : List D), (∀ e ∈ es, Pl m e) → (PyData.eqvAll ds es = true ↔ ds = es) := by
    intro ds
    induction ds with
    | nil =>
      intro _ m es _
      cases es with
      | nil => exact ⟨fun _ => rfl, fun _ => by rw [PyData.eqvAll]⟩
      | cons e es => exact ⟨fun z => (by rw [PyData.eqvAll] at z; cases z), fun z => by cases z⟩
    | cons d ds ih =>
      intro hh m es he
      cases es with
      | nil => exact ⟨fun z => (by simp [PyData.eqvAll] at z), fun z => by cases z⟩
      | cons e es =>
        rw [PyData.eqvAll, Bool.and_eq_true, hh d (List.mem_cons_self ..) (he e (List.mem_cons_self ..)), ih (fun x hx => hh x (List.mem_cons_of_mem _ hx)) es (fun x hx => he x (List.mem_cons_of_mem _ hx))]
        exact ⟨fun ⟨p, q⟩ => by rw [p, q], fun z => by cases z; exact ⟨rfl, rfl⟩⟩
  induction h with
  | non n =>
    intro m b hb
    cases hb <;> simp [PyData.eqv]
  | int n i =>
    intro m b hb
    cases hb <;> simp [PyData.eqv]
  | str n x h =>
    intro m b hb
    cases hb <;> simp [PyData.eqv]
  | list n ds h ih =>
    intro m b hb
    cases hb with
    | list m es he => rw [PyData.eqv, all ds (fun d hd => ih d hd) es he]; simp
    | _ => simp [PyData.eqv]
  | tup n ds h ih =>
    intro m b hb
    cases hb with
    | tup m es he => rw [PyData.eqv, all ds (fun d hd => ih d hd) es he]; simp
    | _ => simp [PyData.eqv]
section
variable {K : PySem.W.Frag} {d1 d2 : D} {n m : Nat} {b : Bool}
theorem eqv_b (p1 : Pl n d1) (p2 : Pl m d2) (hb : b = true ↔ d1 = d2) : PyData.eqv d1 d2 = b := by
  have := p1.eqv p2
  cases h : PyData.eqv d1 d2 <;> cases b <;> simp_all
theorem rd_eqP (p1 : Pl n d1) (p2 : Pl m d2) (hb : b = true ↔ d1 = d2) (hn : n ≤ 64 := by decide) (hm : m ≤ 64 := by decide) : RD K (rEqD K) d1 d2 (.bool b) := by
  rw [← eqv_b p1 p2 hb]
  exact rd_eqD (p1.shaped hn) (p2.shaped hm)
theorem rd_neP (p1 : Pl n d1) (p2 : Pl m d2) (hb : b = true ↔ d1 = d2) (hn : n ≤ 64 := by decide) (hm : m ≤ 64 := by decide) : RD K (rNeD K) d1 d2 (.bool !b) := by
  rw [← eqv_b p1 p2 hb]
  exact rd_neD (p1.shaped hn) (p2.shaped hm)
/-- a list is the empty one -/
theorem nil_b {α : Type} {xs : List α} {en : α → D} : decide (xs.length = 0) = true ↔ PyData.list (xs.map en) = .list [] := by
  rw [decide_eq_true_eq]
  cases xs with
  | nil => simp
  | cons x r => simp
theorem Pl.strs {xs : List Str} (h : ∀ x ∈ xs, PyData.strOk x = true) : Pl 1 (.list (xs.map .str)) := .list 0 _ fun d hd => by
  obtain ⟨x, hx, rfl⟩ := List.mem_map.mp hd
  exact .str 0 x (h x hx)
theorem Pl.strsT {xs : List Str} (h : ∀ x ∈ xs, PyData.strOk x = true) : Pl 1 (.tuple (xs.map .str)) := .tup 0 _ fun d hd => by
  obtain ⟨x, hx, rfl⟩ := List.mem_map.mp hd
  exact .str 0 x (h x hx)
theorem Pl.nilL : Pl 1 (.list []) := .list 0 _ fun d hd => by cases hd
theorem Pl.mono {n m : Nat} {d : D} (h : Pl n d) : n ≤ m → Pl m d := by
  intro hnm
  induction h generalizing m with
  | non n => exact .non m
  | int n i => exact .int m i
  | str n x h => exact .str m x h
  | list n ds h ih =>
    obtain ⟨k, rfl⟩ : ∃ k, m = k + 1 := ⟨m - 1, by omega⟩
    exact .list k _ fun d hd => ih d hd (by omega)
  | tup n ds h ih =>
    obtain ⟨k, rfl⟩ : ∃ k, m = k + 1 := ⟨m - 1, by omega⟩
    exact .tup k _ fun d hd => ih d hd (by omega)
theorem ef_lcRm {ta : TA} {te : TE} {τ : List SV} {δ δ1 : Option Dr} {j : Nat} (n : Nat) (v : Nat → D) (h : EvA K ta τ δ [.int (n : Int)] δ1) (hj : τ[j]? = some .any) (hn : n ≤ 100000) (he : ∀ i, i < n → Ev K te (τ.set j (.val (.int (i : Int)))) δ1 (v i) δ1) :
    EvF K (tLc (iRng1 ta) (gName j) tYes te [j]) τ δ ((List.range n).map v) δ1 :=
  ef_lcR h hn hj (fun i => (List.range i).map v) (fun _ => δ1) (fun _ => true) rfl rfl (fun i hi => by rw [List.length_map, List.length_range]; omega) (fun i hi => et_yes) (fun i hi => by cases hi) fun i hi _ => ⟨v i, by rw [List.range_succ, List.map_append]; rfl, he i hi⟩
theorem sd_tupF {e : En} {B : Hp} {E : Ends} {ta tb : TE} {τ : List SV} {δ δ1 δ2 : Option Dr} {ds : List D} {i j : Nat} (h1 : EvF K ta τ δ ds δ1) (h2 : Ev K tb τ δ1 d2 δ2) (k : SD K e B tNext E ((τ.set i (.own ds)).set j (.val d2)) δ2) : SD K e B (tAsg (tTup (tCons ta (tCons tb tNil))) (gTup K 2 (gCons (gName i) (gCons (gName j) gNil)))) E τ δ := fun G H σ b s =>
  h1 e G H σ s _ fun p vs G1 H1 x1 s1 g n dn no hp ra => h2 (e.plus p (.lst vs)) G1 H1 σ (s1.plus g hp n dn no) _ fun w G2 H2 x2 s2 r2 => by
    obtain ⟨s3, g3, h3, dn3, no3⟩ := s2.minus n s1.nn
    refine ⟨by show 2 ≤ sizeLine; decide, fun q hq => ⟨q, [.ref p, w], rfl, .inl (.inl upd_same), rfl, _, _, rfl, _, _, rfl, rfl, ?_⟩⟩
    have hne : p ≠ q := fun z => by rw [z, hq] at h3; cases h3
    exact k G2 _ _ ((b.trans x1).trans x2) (((s3.newH hq).seto n g3 (by rw [upd_ne hne]; exact h3) (RA.mono x2 _ _ ra) dn3 fun j y _ => no3 j y).setv r2)
end
end DL
/-! A caught exception kept as a value. -/
namespace DR
open PySem PySem.Spec PyProof.Rows L2 DL
section
variable {X : Cx} {pins : List (Addr × Obj)} {σ : L2.St} {H : Hp} {s : Shared}
/-- what is pinned becomes tracked -/
theorem track {a : Addr} {oe : Obj} {cls : Value} {vs : Array Value} (I : L2.Inv X ((a, oe) :: pins) σ H s) (hc : oe.cls = cls) (hd : oe.dict = none) (hf : oe.data = .fields vs) (h0 : X.s_0.heap.get? a = none) (hp : ∀ p ∈ X.pn ++ pins, p.1 ≠ a) : L2.Inv X pins σ (upd H a (CaughtO cls a)) s := by
  obtain ⟨ha, hn, nl, nf, _⟩ := I.pin (a, oe) (List.mem_append_right _ (List.mem_cons_self ..))
  have n0 : ∀ b o, X.s_0.heap.get? b = some o → b ≠ a := fun b o e z => by rw [z, h0] at e; cases e
  have ne : ∀ b o, H b = some o → b ≠ a := fun b o e z => by rw [z, hn] at e; cases e
  have cne : ∀ x c, X.env.cells.lookup x = some c → c ≠ a := fun x c e z => by
    subst z
    obtain ⟨v, o, ho, hd⟩ := I.cell x c e
    have : s.heap.get? c = some oe := ha
    rw [this] at ho
    cases ho
    rw [hf] at hd
    cases hd
  refine ⟨I.ok, I.os, I.bare, ⟨I.base.keep, I.base.slot, fun b o e n hx => ?_, I.base.there, fun b xs e => ?_, fun b o u e => ?_, fun b ps e => ?_⟩, I.loc, I.cell, ?_, fun x c e => ?_, fun p hp' => ?_, fun b u e => ?_, I.len⟩
  · rw [upd_ne (n0 b o e)]; exact I.base.free b o e n hx
  · have q := I.base.tups b xs e
    rw [upd_ne (ne b _ q)]; exact q
  · have q := I.base.frzs b o u e
    rw [upd_ne (ne b _ q)]; exact q
  · obtain ⟨m, q⟩ := I.base.tbls b ps e
    exact ⟨m, by rw [upd_ne (ne b _ q)]; exact q⟩
  · rw [upd_ne (Ne.symm nl)]; exact I.free
  · rw [upd_ne (cne x c e)]; exact I.freeC x c e
  · have q := I.pin p (by
      rcases List.mem_append.mp hp' with z | z
      · exact List.mem_append_left _ z
      · exact List.mem_append_right _ (List.mem_cons_of_mem _ z))
    exact ⟨q.1, by rw [upd_ne (hp p hp')]; exact q.2.1, q.2.2⟩
  · by_cases hb : b = a
    · subst hb
      rw [upd_same] at e
      cases e
      refine ⟨⟨oe, vs, ha, hc, hd, hf⟩, ⟨oe, ha⟩, fun _ _ ⟨o, v, q, r⟩ k => ⟨o, v, k o q, r⟩⟩
    · rw [upd_ne hb] at e
      exact (I.hok b u e).stay (fun c v _ q => q) (fun c q => by rw [upd_ne (ne c _ q)]; exact q) fun c xs q => by rw [upd_ne (ne c _ q)]; exact q
/-- what 'try: .. except C as n: y = n' wishes of an exception of its body -/
def wCatch (K : PySem.W.Frag) (c : Value) (i y : Nat) (D : Ends) : WX := fun cls d σ H => PySem.W.exmOne K cls c = some true ∧ d = none ∧ ∀ a, H a = none → D.nx (((σ.set i (some (.ref a))).set y (some (.ref a))).set i none) (upd H a (CaughtO cls a))
theorem ps_try_catch {x n : Str} {c : Value} {i y : Nat} {body suite : List Stmt} {b₀ : Stmt} {np pos pos' : Pos} {tb : WX → TS} (hs : X.stack = X.env :: X.outer) (hf : X.env.frame = some X.env.locals) (hex : X.ex = []) (hN : X.N.Nodup) (hi : X.N[i]? = some n) (hln : X.env.kindOf n = some .local) (hc : Names X x c)
    (hb : ∀ (W : WX) (pn : List (Addr × Obj)) (xe : Value → Shared → Prop), Takes (X.tr pn xe) W → PassesOwn (model X.prog X.w) X.A X.env xe → PSs (X.tr pn xe) body (tb W))
    (hsu : ∀ (a : Addr) (oe : Obj) (cls : Value) (d : Option Addr) (pn : List (Addr × Obj)), Zc cls d oe → (∃ vs, oe.data = .fields vs) → PSs (X.suite a ((a, oe) :: pn)) (b₀ :: suite) (tAsg (tVar i) (gName y))) :
    PS X (.Try body [.ExceptHandler (some (.Name x np)) (some n) (b₀ :: suite) pos'] [] [] pos) (fun D σ H => tb (wCatch X.K c i y D) D σ H) := by
  refine ⟨fun pins s σ H D I h => ?_⟩
  have ok := I.ok
  have hfr : X.A.frames = some (X.env :: X.outer) := by rw [ok.frames, hs]
  have hloc : Loc X.env.scope n := .inl hln
  refine wpAny_Try_except ?_
  refine wpAny_mono ((hb (wCatch X.K c i y D) (X.pn ++ pins) (fun e s₁ => wpAny (model X.prog X.w) X.A (noteFrame e X.env) (fun _ s₂ => wpAny (model X.prog X.w) X.A (setFlight e none) (fun _ s₃ =>
    wpAny (model X.prog X.w) X.A (handleBy e X.env [.ExceptHandler (some (.Name x np)) (some n) (b₀ :: suite) pos']) (SP X pins D) X.xe s₃) X.xe s₂) X.xe s₁) (fun u s' xx => ?_) PassesOwn.looking).run [] s σ H D (I.toTry _) h) (fun f s1 hsp => ?_) (fun e s1 he => he)
  · -- the catch
    obtain ⟨a, B, sI, pins', σ', H', cls, d, rfl, J', nb, up, sky, na, os, ag, hb1, hd0, hyes⟩ := xx
    subst hd0
    have J : L2.Inv X pins σ' H' sI := J'.ofTry ok
    have sky' : Sky B (X.env :: X.outer) a (Zc cls none) X.env.locals s'.heap := by rw [← hs]; exact sky
    show wpAny (model X.prog X.w) X.A (noteFrame (.ref a) X.env) _ _ _
    refine Sky.land Zc.steady hfr hf sky' fun h3 fl3 up3 => ?_
    have J3 : L2.Inv X pins σ' H' { s' with heap := h3 } := J.landed nb fl3.1 (up.trans up3) os ag
    obtain ⟨oe3, vs3, he3, hz3, hd3⟩ := fl3.there
    have notFr : ∀ {h : Heap} {o : Obj} {vs : Array Value}, h.FunFrames B (X.env :: X.outer) → h.get? a = some o → o.data = .fields vs → a ∉ frs (X.env :: X.outer) := fun {h o vs} ff e dd hm => by
      obtain ⟨_, o', e', hnf⟩ := ff.mem hm
      rw [e] at e'; cases e'
      exact hnf _ dd
    have nfr := notFr fl3.2.2.1 he3 hd3
    have nL : a ≠ X.env.locals := fun z => nfr (List.mem_filterMap.mpr ⟨X.env, List.mem_cons_self, by rw [hf, z]⟩)
    have nF : a ∉ X.fs := fun hm => by
      obtain ⟨e, he, q⟩ := List.mem_filterMap.mp hm
      exact nfr (List.mem_filterMap.mpr ⟨e, List.mem_cons_of_mem _ he, q⟩)
    have nI : sI.heap.get? a = none := by
      cases q : sI.heap.get? a with
      | none => rfl
      | some o =>
        have z := nb a o q (by rw [hs]; exact nfr)
        have z2 : B.get? a = none := fl3.2.1
        rw [z2] at z
        cases z
    have n0 : X.s_0.heap.get? a = none := by
      cases q : X.s_0.heap.get? a with
      | none => rfl
      | some o =>
        obtain ⟨o', z⟩ := J.base.there a o q (by rw [hex]; exact fun z => nomatch z)
        rw [nI] at z
        cases z
    have hpn : ∀ p ∈ X.pn ++ pins, p.1 ≠ a := fun p hp z => by
      obtain ⟨q, _⟩ := J.pin p hp
      rw [z, nI] at q
      cases q
    have S3 := J3.suite he3 hd3 na nL nF
    refine wpAny_handleBy_cons (codeAny_handlers_test ?_) (by intro q; cases q)
    have LT : PySem.W.Looks (model X.prog X.w) h3 (typeOf (.ref a)) cls := fun A Q E s k q => wpAny_typeOf_ref (k _ _ he3) (by rw [hz3.1]; exact q)
    have LM := PySem.W.exm_one (M := model X.prog X.w) (J3.kIn) LT hb1
    have test : ∀ {Q : Value → Shared → Prop} {E : Value → Shared → Prop}, Q c { s' with heap := h3 } → wpAny (model X.prog X.w) (X.A.mark (some (.ref a))) (eval (.Name x np) X.env) Q E { s' with heap := h3 } := fun {Q E} q => by
      obtain ⟨hg, hdbg, hm | ⟨hm, hv, hnn⟩⟩ := hc
      · exact ld_glob (X := X.suite a ((a, oe3) :: (X.pn ++ pins))) S3 hg hm q hdbg
      · exact ld_blt (X := X.suite a ((a, oe3) :: (X.pn ++ pins))) S3 hg hm hv q hnn hdbg
    refine test (LM.here ?_)
    refine codeAny_handlers_suite_as ?_
    refine HandSPX.lands_againZ fl3 fun h4 fl4 up4 => ?_
    have J4 : L2.Inv X pins σ' H' { s' with heap := h4 } := J.landed nb fl4.1 ((up.trans up3).trans up4) os ag
    obtain ⟨oe4, vs4, he4, hz4, hd4⟩ := fl4.there
    have S4 := J4.suite he4 hd4 na nL nF
    refine store_ok (X := X.suite a ((a, oe4) :: (X.pn ++ pins))) (v := .ref a) S4 hN hi hloc rfl (fun s5 S5 => ?_) (.inr hln)
    refine wpAny_mono ((hsu a oe4 cls none (X.pn ++ pins) hz4 ⟨_, hd4⟩).run [] s5 _ H' { nx := fun σ6 H6 => H6 = H' ∧ σ6 = (σ'.set i (some (.ref a))).set y (some (.ref a)), rt := fun _ _ => False, bk := fun _ _ => False, ct := fun _ _ => False } S5 ⟨.ref a, ?_, rfl, rfl⟩) (fun f s6 hsp => ?_) (fun _ _ z => False.elim z)
    · have hl : i < σ'.length := by rw [J.len]; exact (List.getElem?_eq_some_iff.mp hi).1
      rw [List.getElem?_set_self hl]
    cases f with
    | next =>
      obtain ⟨σ6, H6, S6, rfl, rfl⟩ := hsp
      have J6 : L2.Inv X ((a, oe4) :: pins) ((σ'.set i (some (.ref a))).set y (some (.ref a))) H6 s6 :=
        ⟨ok, S6.os, S6.bare, S6.base, S6.loc, S6.cell, S6.free, S6.freeC, fun p hp => S6.pin p (by
          rcases List.mem_append.mp hp with z | z
          · exact List.mem_append_left _ (List.mem_cons_of_mem _ (List.mem_append_left _ z))
          · rcases List.mem_cons.mp z with z | z
            · rw [z]; exact List.mem_append_left _ (List.mem_cons_self ..)
            · exact List.mem_append_left _ (List.mem_cons_of_mem _ (List.mem_append_right _ z))), S6.hok, S6.len⟩
      refine gone_ok J6 hN hi hln fun s7 J7 => ?_
      exact ⟨_, _, track J7 hz4.1 hz4.2 hd4 n0 hpn, hyes a na⟩
    | brk =>
      obtain ⟨_, _, _, z⟩ := hsp
      exact z.elim
    | cont =>
      obtain ⟨_, _, _, z⟩ := hsp
      exact z.elim
    | ret u =>
      obtain ⟨_, _, _, _, _, z⟩ := hsp
      exact z.elim
  · cases f with
    | next =>
      obtain ⟨σ', H', J', q⟩ := hsp
      exact wpAny_execs_nil ⟨σ', H', J'.ofTry ok, q⟩
    | brk =>
      obtain ⟨σ', H', J', q⟩ := hsp
      exact ⟨σ', H', J'.ofTry ok, q⟩
    | cont =>
      obtain ⟨σ', H', J', q⟩ := hsp
      exact ⟨σ', H', J'.ofTry ok, q⟩
    | ret u =>
      obtain ⟨v, σ', H', J', r, q⟩ := hsp
      exact ⟨v, σ', H', J'.ofTry ok, r, q⟩
/-- isinstance(e, c), e a caught exception kept -/
def rIsC (K : PySem.W.Frag) : List V → Hp → VK → Prop := fun xs H Q => ∃ (a D : Addr) (c : V) (cv : Value) (b : Bool), xs = [.ref a, c] ∧ H a = some (CaughtO (.ref D) a) ∧ ExcC K D ∧ (∀ u, RelV c u → u = cv) ∧ PySem.W.kitOne K (.ref D) cv = some b ∧ Q (.bl b) H
theorem call_isC : CallR X (.builtin "isinstance") (rIsC X.K) := by
  intro pins s σ H xs us Q I r h
  obtain ⟨a, D, c, cv, b, rfl, ha, C, hcv, e, q⟩ := h
  cases r with
  | cons rx rr =>
    cases rr with
    | cons rt rr =>
      cases rr
      cases rx
      have ec := hcv _ rt
      subst ec
      have h0 := I.hok a _ ha
      unfold CaughtO ObjOk at h0
      obtain ⟨⟨oe, vs, hget, h1, h2, hv⟩, _⟩ := h0
      have J : PySem.W.InstAt s.heap a oe D none := by
        obtain ⟨oc, od, oda, osl⟩ := oe
        dsimp only at h1 h2 hv
        subst h1 h2 hv
        exact ⟨hget, rfl, rfl, trivial⟩
      exact PySem.W.kia_one (PySem.W.handS_kitx_exc C.hg C.hk C.hs C.hd C.ha C.hn C.ht C.hm) I.kIn J e (fun z => nomatch z) fun tk => ⟨.bl b, H, I.kept (t' := tk) fun _ _ z => z, rfl, q⟩
theorem call_isCK {K : PySem.W.Frag} (h : X.K = K) : CallR X (.builtin "isinstance") (rIsC K) := h ▸ call_isC
end
end DR
/-! The data layer: dicts with nested keys in slots. -/
namespace DL
open PySem PySem.Spec PyProof.Rows L2
open Evl (Ex)
/-! ### keys -/
theorem toKs_map : ∀ ds : List D, toKs ds = ds.map toK
  | [] => by rw [toKs]; rfl
  | d :: ds => by rw [toKs, toKs_map ds]; rfl
theorem depthAll_le {n : Nat} : ∀ {ks : List NestedKey}, (∀ k ∈ ks, k.depth ≤ n) → NestedKey.depthAll ks ≤ n
  | [], _ => by rw [NestedKey.depthAll]; exact Nat.zero_le _
  | k :: ks, h => by
    rw [NestedKey.depthAll]
    exact Nat.max_le.mpr ⟨h k (List.mem_cons_self ..), depthAll_le fun z hz => h z (List.mem_cons_of_mem _ hz)⟩
theorem KD.depth {n : Nat} {d : D} (h : KD n d) : (toK d).depth ≤ n := by
  induction h with
  | int n i => rw [toK, NestedKey.depth]; exact Nat.zero_le _
  | str n x => rw [toK, NestedKey.depth]; exact Nat.zero_le _
  | tup n ds h ih =>
    rw [toK, NestedKey.depth, toKs_map]
    exact Nat.succ_le_succ (depthAll_le fun k hk => by
      obtain ⟨d, hd, rfl⟩ := List.mem_map.mp hk
      exact ih d hd)
section
variable {K : PySem.W.Frag} {G H : Hp}
theorem KD.nk {n : Nat} {d : D} (h : KD n d) : ∀ {v : V}, R K H v d → DR.NK K H v (toK d) := by
  induction h with
  | int n i => intro v r; cases r; rw [toK]; exact .num i
  | str n x => intro v r; cases r; rw [toK]; exact .text x
  | tup n ds h ih =>
    intro v r
    cases r with
    | @tup a xs _ hs ra =>
      rw [toK]
      refine .tup hs ?_
      have all : ∀ (ds : List D) (xs : List V), RA K H xs ds → (∀ d ∈ ds, ∀ {v : V}, R K H v d → DR.NK K H v (toK d)) → Paired (DR.NK K H) xs (toKs ds) := by
        intro ds
        induction ds with
        | nil => intro xs ra _; cases ra; rw [toKs]; exact .nil
        | cons d ds ihd =>
          intro xs ra hh
          cases ra with
          | cons r1 r2 => rw [toKs]; exact .cons (hh d (List.mem_cons_self ..) r1) (ihd _ r2 fun z hz => hh z (List.mem_cons_of_mem _ hz))
      exact all ds xs ra ih
end
theorem KD.inj {n : Nat} {a : D} (h : KD n a) : ∀ {m : Nat} {b : D}, KD m b → toK a = toK b → a = b := by
  induction h with
  | int n i =>
    intro m b hb e
    cases hb <;> simp [toK] at e
    rw [e]
  | str n x =>
    intro m b hb e
    cases hb <;> simp [toK] at e
    rw [e]
  | tup n ds h ih =>
    intro m b hb e
    cases hb with
    | int => simp [toK] at e
    | str => simp [toK] at e
    | tup m es he =>
      rw [toK, toK, NestedKey.tup.injEq, toKs_map, toKs_map] at e
      have all : ∀ (ds es : List D), (∀ d ∈ ds, ∀ {m : Nat} {b : D}, KD m b → toK d = toK b → d = b) → (∀ d ∈ es, KD m d) → ds.map toK = es.map toK → ds = es := by
        intro ds
        induction ds with
        | nil => intro es _ _ e; cases es with
          | nil => rfl
          | cons => cases e
        | cons d ds ihd => intro es hh he e; cases es with
          | nil => cases e
          | cons x es =>
            rw [List.map_cons, List.map_cons, List.cons.injEq] at e
            rw [hh d (List.mem_cons_self ..) (he x (List.mem_cons_self ..)) e.1, ihd es (fun z hz => hh z (List.mem_cons_of_mem _ hz)) (fun z hz => he z (List.mem_cons_of_mem _ hz)) e.2]
      rw [all ds es ih he e]
section
variable {K : PySem.W.Frag} {G H : Hp} {P : Program} {w : World} {xs : List DR.Ent} {kvs : List (D × D)}
theorem de_keysOk (x : Ex G H) : ∀ {xs : List DR.Ent} {kvs : List (D × D)}, Paired (DE K G) xs kvs → DR.KeysOk K H xs
  | _, _, .nil => fun e he => by cases he
  | _, _, .cons h t => fun e he => by
    rcases List.mem_cons.mp he with rfl | he
    · rw [← h.k]
      exact ⟨h.kt.1.nk (R.mono x _ _ h.r), h.kt.1.depth⟩
    · exact de_keysOk x t e he
theorem de_keys : ∀ {xs : List DR.Ent} {kvs : List (D × D)}, Paired (DE K G) xs kvs → xs.map (·.1) = kvs.map fun kv => toK kv.1
  | _, _, .nil => rfl
  | _, _, .cons h t => by rw [List.map_cons, List.map_cons, de_keys t, h.k]
theorem de_len : ∀ {xs : List DR.Ent} {kvs : List (D × D)}, Paired (DE K G) xs kvs → xs.length = kvs.length
  | _, _, .nil => rfl
  | _, _, .cons h t => congrArg (· + 1) (de_len t)
theorem de_kt : ∀ {xs : List DR.Ent} {kvs : List (D × D)}, Paired (DE K G) xs kvs → ∀ kv ∈ kvs, KT kv.1
  | _, _, .nil => fun e he => by cases he
  | _, _, .cons h t => fun e he => by
    rcases List.mem_cons.mp he with rfl | he
    · exact h.kt
    · exact de_kt t e he
theorem de_has (p : Paired (DE K G) xs kvs) {d : D} (hd : KT d) : toK d ∈ xs.map (·.1) ↔ d ∈ kvs.map (·.1) := by
  rw [de_keys p]
  constructor
  · intro h
    obtain ⟨kv, hk, e⟩ := List.mem_map.mp h
    exact List.mem_map.mpr ⟨kv, hk, ((de_kt p kv hk).1.inj hd.1 e)⟩
  · intro h
    obtain ⟨kv, hk, rfl⟩ := List.mem_map.mp h
    exact List.mem_map.mpr ⟨kv, hk, rfl⟩
theorem de_get : ∀ {xs : List DR.Ent} {kvs : List (D × D)}, Paired (DE K G) xs kvs → ∀ {k v : D}, (k, v) ∈ kvs → ∃ b c, (toK k, b, c) ∈ xs ∧ R K G c v
  | _, _, .nil, k, v, h => by cases h
  | x :: _, _, .cons h t, k, v, hm => by
    rcases List.mem_cons.mp hm with rfl | hm
    · obtain ⟨k', b, c⟩ := x
      have e := h.k
      have hv := h.v
      simp only at e hv
      subst e
      exact ⟨b, c, List.mem_cons_self .., hv⟩
    · obtain ⟨b, c, hx, hr⟩ := de_get t hm
      exact ⟨b, c, List.mem_cons_of_mem _ hx, hr⟩
theorem de_app : ∀ {xs ys : List DR.Ent} {kvs lvs : List (D × D)}, Paired (DE K G) xs kvs → Paired (DE K G) ys lvs → Paired (DE K G) (xs ++ ys) (kvs ++ lvs)
  | _, _, _, _, .nil, s => s
  | _, _, _, _, .cons h t, s => .cons h (de_app t s)
/-- the pairs behind d[k] = v -/
def putD (kvs : List (D × D)) (b : Bool) (f : D → Bool) (k v : D) : List (D × D) := if b = true then kvs.map fun kv => if f kv.1 = true then (kv.1, v) else kv else kvs ++ [(k, v)]
theorem de_put {a : Addr} {k : D} {c : V} {v : D} (hk : KT k) (rk : R K G (.ref a) k) (rv : R K G c v) {b : Bool} {f : D → Bool} (hb : b = true ↔ k ∈ kvs.map (·.1)) (hf : ∀ kv ∈ kvs, f kv.1 = true ↔ kv.1 = k) (p : Paired (DE K G) xs kvs) : Paired (DE K G) (DR.stE xs (toK k) a c) (putD kvs b f k v) := by
  unfold DR.stE putD
  by_cases h : toK k ∈ xs.map (·.1)
  · rw [if_pos h, if_pos (hb.mpr ((de_has p hk).mp h))]
    have all : ∀ {xs : List DR.Ent} {kvs : List (D × D)}, Paired (DE K G) xs kvs → (∀ kv ∈ kvs, f kv.1 = true ↔ kv.1 = k) → Paired (DE K G) (xs.map fun x => if x.1 = toK k then (x.1, x.2.1, c) else x) (kvs.map fun kv => if f kv.1 = true then (kv.1, v) else kv) := by
      intro xs kvs p
      induction p with
      | nil => intro _; exact .nil
      | @cons x kv xs kvs h t ih =>
        intro hf
        rw [List.map_cons, List.map_cons]
        refine .cons ?_ (ih fun z hz => hf z (List.mem_cons_of_mem _ hz))
        have h1 := hf kv (List.mem_cons_self ..)
        by_cases e : kv.1 = k
        · rw [if_pos (h1.mpr e), if_pos (by rw [← h.k, e])]
          exact ⟨h.k, h.r, h.kt, rv⟩
        · rw [if_neg (fun z => e (h1.mp z)), if_neg (fun z => e (h.kt.1.inj hk.1 (h.k.trans z)))]
          exact h
    exact all p hf
  · rw [if_neg h, if_neg (fun z => h ((de_has p hk).mpr (hb.mp z)))]
    exact de_app p (.cons ⟨rfl, rk, hk, rv⟩ .nil)
end
section
variable {K : PySem.W.Frag} {e : En} {G G' H H' B : Hp} {σ : L2.St} {τ τ' : List SV} {δ δ' δ1 δ2 : Option Dr} {te ta tb tk tv : TE} {tt : TT} {t u : TS} {d d1 d2 k v : D} {ds : List D} {E : Ends} {Q : VK} {post : D → Option Dr → Prop} {P : Program} {w : World} {kvs : List (D × D)} {i : Nat} {b : Bool}
theorem dct_at (s : Stt K e G H σ τ δ) (hi : τ[i]? = some (.dct P w kvs)) : ∃ p xs, σ[i]? = some (some (.ref p)) ∧ H p = some (DR.DO P w p xs) ∧ Paired (DE K G) xs kvs := by
  obtain ⟨o, h1, h2⟩ := s.sl i _ hi
  cases h2 with
  | dct n g h ra dn => exact ⟨_, _, h1, h, ra⟩
theorem contains_b (p : Paired (DE K G) xs kvs) (hd : KT d) (hb : b = true ↔ d ∈ kvs.map (·.1)) : (xs.map (·.1)).contains (toK d) = b := by
  rw [Bool.eq_iff_iff, List.contains_iff_mem, de_has p hd, hb]
theorem ev_inD (h : Ev K te τ δ d δ1) (hi : τ[i]? = some (.dct P w kvs)) (hd : KT d) (hb : b = true ↔ d ∈ kvs.map (·.1)) : Ev K (tOp (DR.rInD K P w false) te (tVar i)) τ δ (.bool b) δ1 := fun e G H σ s Q q =>
  h e G H σ s _ fun v G1 H1 x1 s1 r1 => by
    obtain ⟨p, xs, h1, h2, h3⟩ := dct_at s1 hi
    refine ⟨.ref p, h1, ?_⟩
    have r1' := R.mono s1.ex _ _ r1
    obtain ⟨ds, rfl⟩ := hd.2
    cases r1 with
    | @tup a ys _ hs ra =>
      refine ⟨a, p, xs, _, rfl, rfl, h2, de_keysOk s1.ex h3, hd.1.nk r1', hd.1.depth, ?_⟩
      rw [contains_b h3 hd hb]
      exact q _ G1 H1 x1 s1 (.bl b)
theorem ev_notInD (h : Ev K te τ δ d δ1) (hi : τ[i]? = some (.dct P w kvs)) (hd : KT d) (hb : b = true ↔ d ∈ kvs.map (·.1)) : Ev K (tOp (DR.rInD K P w true) te (tVar i)) τ δ (.bool !b) δ1 := fun e G H σ s Q q =>
  h e G H σ s _ fun v G1 H1 x1 s1 r1 => by
    obtain ⟨p, xs, h1, h2, h3⟩ := dct_at s1 hi
    refine ⟨.ref p, h1, ?_⟩
    have r1' := R.mono s1.ex _ _ r1
    obtain ⟨ds, rfl⟩ := hd.2
    cases r1 with
    | @tup a ys _ hs ra =>
      refine ⟨a, p, xs, _, rfl, rfl, h2, de_keysOk s1.ex h3, hd.1.nk r1', hd.1.depth, ?_⟩
      rw [contains_b h3 hd hb]
      exact q _ G1 H1 x1 s1 (.bl _)
theorem ev_ixD (hi : τ[i]? = some (.dct P w kvs)) (h : Ev K tk τ δ k δ1) (hd : KT k) (hm : (k, v) ∈ kvs) : Ev K (tOp (DR.rIxD K P w) (tVar i) tk) τ δ v δ1 := fun e G H σ s Q q => by
  obtain ⟨p, xs, h1, _, _⟩ := dct_at s hi
  refine ⟨.ref p, h1, h e G H σ s _ fun x G1 H1 x1 s1 r1 => ?_⟩
  obtain ⟨p', xs', h1', h2, h3⟩ := dct_at s1 hi
  rw [h1] at h1'
  cases h1'
  have r1' := R.mono s1.ex _ _ r1
  obtain ⟨ds, rfl⟩ := hd.2
  cases r1 with
  | @tup a ys _ hs ra =>
    obtain ⟨b, c, hx, hr⟩ := de_get h3 hm
    exact ⟨a, p, xs', _, b, c, rfl, rfl, h2, de_keysOk s1.ex h3, hd.1.nk r1', hd.1.depth, hx, q _ G1 H1 x1 s1 hr⟩
theorem ev_lenD (hi : τ[i]? = some (.dct P w kvs)) : Ev K (tCB (DR.rLenD K P w) (tCons (tVar i) tNil)) τ δ (.int (kvs.length : Int)) δ := fun e G H σ s Q q => by
  obtain ⟨p, xs, h1, h2, h3⟩ := dct_at s hi
  refine ⟨.ref p, h1, p, xs, rfl, h2, de_keysOk s.ex h3, ?_⟩
  rw [de_len h3]
  exact q _ G H (Ex.refl G) s (.int _)
/-- d[k] = v -/
theorem sd_setD {f : D → Bool} (hv : Ev K tv τ δ v δ1) (hi : τ[i]? = some (.dct P w kvs)) (hk : Ev K tk τ δ1 k δ2) (hkt : KT k) (hb : b = true ↔ k ∈ kvs.map (·.1)) (hf : ∀ kv ∈ kvs, f kv.1 = true ↔ kv.1 = k) (hl : kvs.length < 1000000) (c : SD K e B tNext E (τ.set i (.dct P w (putD kvs b f k v))) δ2) :
    SD K e B (tAsg tv (gSub (tVar i) tk (DR.rSetD K P w))) E τ δ := fun G H σ bx s =>
  hv e G H σ s _ fun x G1 H1 x1 s1 r1 => by
    obtain ⟨p, xs, h1, _, _⟩ := dct_at s1 hi
    refine ⟨.ref p, h1, hk e G1 H1 σ s1 _ fun y G2 H2 x2 s2 r2 => ?_⟩
    obtain ⟨p', xs', h1', h2, h3⟩ := dct_at s2 hi
    rw [h1] at h1'
    cases h1'
    have r2' := R.mono s2.ex _ _ r2
    obtain ⟨ds, rfl⟩ := hkt.2
    cases r2 with
    | @tup a ys _ hs ra =>
      exact ⟨a, p, xs', _, rfl, rfl, h2, de_keysOk s2.ex h3, hkt.1.nk r2', hkt.1.depth, by rw [de_len h3]; exact hl, c G2 _ σ ((bx.trans x1).trans x2) (s2.updDct hi h1 (de_put hkt (.tup hs ra) (R.mono x2 _ _ r1) hb hf h3))⟩
/-- .. a new key -/
theorem sd_setDn (hv : Ev K tv τ δ v δ1) (hi : τ[i]? = some (.dct P w kvs)) (hk : Ev K tk τ δ1 k δ2) (hkt : KT k) (hb : k ∉ kvs.map (·.1)) (hl : kvs.length < 1000000) (c : SD K e B tNext E (τ.set i (.dct P w (kvs ++ [(k, v)]))) δ2) :
    SD K e B (tAsg tv (gSub (tVar i) tk (DR.rSetD K P w))) E τ δ :=
  sd_setD (b := false) (f := fun _ => false) hv hi hk hkt ⟨fun z => (by cases z), fun z => absurd z hb⟩ (fun kv hkv => ⟨fun z => (by cases z), fun z => absurd (List.mem_map.mpr ⟨kv, hkv, z⟩) hb⟩) hl (by
    have e1 : putD kvs false (fun _ => false) k v = kvs ++ [(k, v)] := by unfold putD; rw [if_neg Bool.false_ne_true]
    rw [e1]; exact c)
/-! ### fresh dicts -/
def EvD (K : PySem.W.Frag) (te : TE) (τ : List SV) (δ : Option Dr) (P : Program) (w : World) (kvs : List (D × D)) (δ' : Option Dr) : Prop :=
  ∀ e G H σ, Stt K e G H σ τ δ → ∀ Q : VK, (∀ p xs G' H', Ex G G' → Stt K e G' H' σ τ δ' → G' p = none → ¬ e.N p → DrNot δ' p → NoOw τ σ p → H' p = some (DR.DO P w p xs) → Paired (DE K G') xs kvs → Q (.ref p) H') → te σ H Q
theorem EvD.of {kvs' : List (D × D)} (h : EvD K te τ δ P w kvs δ') (z : kvs = kvs') : EvD K te τ δ P w kvs' δ' := z ▸ h
theorem ed_disp1 (hk : Ev K tk τ δ k δ1) (hv : Ev K tv τ δ1 v δ2) (hkt : KT k) : EvD K (DR.tDisp1 K P w tk tv) τ δ P w [(k, v)] δ2 := fun e G H σ s Q q p hp => by
  have s0 := s.newH (o := DR.DO P w p []) hp
  have sp := s0.plus (gnone s.ex hp) upd_same (s.notN hp) (s.dr.not hp) (s.notOwn hp)
  refine hk _ G _ σ sp _ fun x G1 H1 x1 s1 r1 => hv _ G1 H1 σ s1 _ fun y G2 H2 x2 s2 r2 => ?_
  obtain ⟨s3, g3, h3, dn3, no3⟩ := s2.minus (s.notN hp) s.nn
  have rk := R.mono x2 _ _ r1
  have rk' := R.mono s3.ex _ _ rk
  obtain ⟨ds, rfl⟩ := hkt.2
  cases r1 with
  | @tup a ys _ hs ra =>
    exact ⟨a, y, _, rfl, h3, hkt.1.nk rk', hkt.1.depth, q p _ G2 _ (x1.trans x2) (s3.updO g3 (s.notN hp) dn3 no3) g3 (s.notN hp) dn3 no3 upd_same (.cons ⟨rfl, rk, hkt, r2⟩ .nil)⟩
theorem sd_asgD (h : EvD K te τ δ P w kvs δ1) (c : SD K e B tNext E (τ.set i (.dct P w kvs)) δ1) : SD K e B (tAsg te (gName i)) E τ δ := fun G H σ bx s =>
  h e G H σ s _ fun p xs G1 H1 x1 s1 g n dn no hp ra => c G1 H1 _ (bx.trans x1) (s1.setw (.dct n g hp ra dn) fun j y _ => no j y)
/-- d, l = {..}, [..] -/
theorem sd_parDF {j : Nat} (hij : i ≠ j) (h1 : EvD K ta τ δ P w kvs δ1) (h2 : EvF K tb τ δ1 ds δ2) (c : SD K e B tNext E ((τ.set i (.dct P w kvs)).set j (.own ds)) δ2) : SD K e B (tPar i j (tCons ta (tCons tb tNil))) E τ δ := fun G H σ bx s =>
  h1 e G H σ s _ fun p xs G1 H1 x1 s1 g n dn no hp ra => h2 (e.plus p (DR.DO P w p xs)) G1 H1 σ (s1.plus g hp n dn no) _ fun p2 vs G2 H2 x2 s2 g2 n2 dn2 no2 hp2 ra2 => by
    obtain ⟨s3, g3, h3, dn3, no3⟩ := s2.minus n s1.nn
    have hne : p ≠ p2 := fun z => n2 (.inr z.symm)
    refine ⟨.ref p, .ref p2, rfl, c G2 H2 _ ((bx.trans x1).trans x2) ?_⟩
    have q1 := s3.setw (i := i) (.dct n g3 h3 (de_mono x2 ra) dn3) fun j y _ => no3 j y
    refine q1.seto (fun z => n2 (.inl z)) g2 hp2 ra2 dn2 fun m y hm hy z1 z2 => ?_
    by_cases him : i = m
    · subst him
      have hl : i < (σ.set i (some (V.ref p))).length := (List.getElem?_eq_some_iff.mp z2).1
      rw [List.length_set] at hl
      rw [List.getElem?_set_self hl] at z2
      cases z2
      exact hne rfl
    · rw [List.getElem?_set_ne him] at z1 z2
      exact no2 m y hy z1 z2
/-! ### a def that returns a new dict -/
def spD (K : PySem.W.Frag) {X : Type} (P : Program) (w : World) (enc : X → List D) (dom : X → Prop) (fn : X → List (D × D)) : Sp := fun vs H Q _ => ∃ G x, Ex G H ∧ RA K G vs (enc x) ∧ dom x ∧
  ∀ p xs G' H', Ex G G' → Ex G' H' → (∀ a, H a ≠ none → G a = none → G' a = none ∧ H' a = H a) → G' p = none → H p = none → H' p = some (DR.DO P w p xs) → Paired (DE K G') xs (fn x) → Q (.ref p) H'
theorem ed_call {X : Type} {enc : X → List D} {dom : X → Prop} {fn : X → List (D × D)} {t : TA} {Ex' : XK} (x : X) (h : EvA K t τ δ ds δ1) (hx : ds = enc x) (hd : dom x) : EvD K (tCall (spD K P w enc dom fn) [] Ex' t) τ δ P w (fn x) δ1 := fun e G H σ s Q q =>
  h e G H σ s _ fun vs G1 H1 x1 s1 r1 => by
    show spD K P w enc dom fn (vs ++ []) H1 Q Ex'
    rw [List.append_nil]
    refine ⟨G1, x, s1.ex, by rw [← hx]; exact r1, hd, fun p xs G2 H2 x2 xh fr gp hp hp2 ra => ?_⟩
    have s2 := s1.call x2 xh fr
    refine q p xs G2 H2 (x1.trans x2) s2 gp (s1.notN hp) ?_ ?_ hp2 ra
    · have := s1.dr.not hp
      exact this
    · exact s1.notOwn hp
/-- what a return of a dict must show -/
def RtD (K : PySem.W.Frag) (e : En) (Q : VK) (P : Program) (w : World) (kvs : List (D × D)) : Prop := ∀ p xs G H σ τ δ, Stt K e G H σ τ δ → ¬ e.N p → G p = none → H p = some (DR.DO P w p xs) → Paired (DE K G) xs kvs → Q (.ref p) H
theorem sd_retD {kvs' : List (D × D)} (hq : RtD K e E.rt P w kvs') (hi : τ[i]? = some (.dct P w kvs)) (z : kvs = kvs') : SD K e B (tRet (tVar i)) E τ δ := fun G H σ bx s => by
  subst z
  obtain ⟨o, h1, h2⟩ := s.sl i _ hi
  cases h2 with
  | dct n g h ra dn => exact ⟨_, h1, hq _ _ G H σ τ δ s n g h ra⟩
end
section
variable {P : Program} {w : World} {K : PySem.W.Frag} {mg : Str → Option Value} {base : Heap}
theorem clD {X : Type} {enc : X → List D} {dom : X → Prop} {fn : X → List (D × D)} {x : Str} {st : Stmt} {N ps : List Str} {k : Nat} (T : FT K mg x st ps) (S : FnScope N ps (defScope st)) (len : ∀ x, (enc x).length = ps.length)
    (hb : ∀ (f : Addr) (cdv : Value) (A : Around) (outer : List Env) (s : Shared) (H : Hp) (E : XK) (z : X), Room k (A.deeper (envOfC x (defScope st) s.heap.objs.size f cdv)) → dom z →
      ∃ t, PSs (cxOf CX0 P w K mg base N x (defScope st) f cdv A outer s H E).nox (defBody st) t ∧ ∀ (e : En) (Q : VK), RtD K e Q P w (fn z) → SD K e e.G0 t { nx := fun _ H' => Q .non H', rt := Q } ((enc z).map .val ++ List.replicate (N.length - (enc z).length) .any) none) :
    Cl P w K mg base x (k + 1) ps (spD K P w enc dom fn) := by
  obtain ⟨f, fd, F, hm, b⟩ := T
  refine ⟨f, fd, ?_, hm, F.kp, b⟩
  refine F.ok S (fun vs H Q E ⟨G, x, ex, ra, hd, q⟩ => by rw [RA.len ra]; exact len x) (fun cdv A outer s H vs Q E hr ⟨G, x, ex, ra, hd, q⟩ => ?_)
  obtain ⟨t, h1, h2⟩ := hb f cdv A outer s H E x hr hd
  refine ⟨t, h1, h2 ⟨fun a => H a ≠ none ∧ G a = none, H, G⟩ Q (fun p xs G' H' σ τ δ s' n g h r => ?_) G H _ (Ex.refl G) (stt_start ex ra)⟩
  refine q p xs G' H' s'.gx s'.ex (fun a h1 h2 => s'.fr a ⟨h1, h2⟩) g ?_ h r
  cases hz : H p with
  | none => rfl
  | some o =>
    exfalso
    have hn : H p ≠ none := by rw [hz]; simp
    refine n ⟨hn, ?_⟩
    cases hg : G p with
    | none => rfl
    | some o2 =>
      have := s'.gx p o2 hg
      rw [g] at this
      cases this
end
end DL
/-! Dicts sorted; lists of bools counted; exceptions in the data layer. -/
namespace DL
open PySem PySem.Spec PyProof.Rows L2
open Evl (Ex)
open PySem.W (EachIs AllAlike Sortable dataLe sortVals dataKind)
/-! ### sorted(d) -/
theorem ra_dpAll {K : PySem.W.Frag} {H : Hp} {vs : List V} {ds : List D} (r : RA K H vs ds) : DpAll K H vs ds := RA.dp ds vs r
def VR (K : PySem.W.Frag) (H : Hp) (u : Value) (d : D) : Prop := ∃ v, RelV v u ∧ R K H v d
theorem each_vr {K : PySem.W.Frag} {H : Hp} : ∀ {vs : List V} {us : List Value} {ds : List D}, Vals vs us → RA K H vs ds → EachIs (VR K H) us ds
  | _, _, _, .nil, .nil => .nil
  | _, _, _, .cons r1 t1, .cons r2 t2 => .cons ⟨_, r1, r2⟩ (each_vr t1 t2)
theorem vr_each {K : PySem.W.Frag} {H : Hp} : ∀ {us : List Value} {ds : List D}, EachIs (VR K H) us ds → ∃ vs, Vals vs us ∧ RA K H vs ds
  | _, _, .nil => ⟨[], .nil, .nil⟩
  | _, _, .cons ⟨v, r1, r2⟩ t => by
    obtain ⟨vs, a, b⟩ := vr_each t
    exact ⟨v :: vs, .cons r1 a, .cons r2 b⟩
section
variable {X : Cx} {pins : List (Addr × Obj)} {σ : L2.St} {H : Hp} {s : Shared}
theorem vr_reads {G : Hp} (xg : Ex G H) (I : L2.Inv X pins σ H s) {us : List Value} {ds : List D} (h : EachIs (VR X.K G) us ds) : EachIs (fun v b => ∃ as, Reads s.heap v b as) us ds := h.mono fun u d ⟨v, r1, r2⟩ => Dp.reads I d v u (R.dp d v (R.mono xg _ _ r2)) r1
/-- sorted of what has been collected -/
def rSortD (K : PySem.W.Frag) (P : Program) (w : World) : List V → Hp → VK → Prop := fun vs H Q => ∃ d xs ds G, vs = [.ref d] ∧ H d = some (DR.DO P w d xs) ∧ DR.KeysOk K H xs ∧ Ex G H ∧ RA K G (xs.map fun x => V.ref x.2.1) ds ∧ AllAlike ds ∧ Sortable ds ∧ (∀ d ∈ ds, d.depth ≤ 8) ∧
  ∀ (ys : List V) p, RA K G ys (ds.mergeSort (dataLe false id)) → H p = none → Q (.ref p) (upd H p (.lst ys))
theorem each_id {β : Type} {R : Value → β → Prop} {vs : List Value} {bs : List β} (h : EachIs R vs bs) : EachIs (fun v b => R v (id b)) vs bs := h
theorem call_sortD (hc : X.calm = true) (hu : X.A.units + 64 < cLine) : CallR X (.builtin "sorted") (rSortD X.K X.prog X.w) := by
  intro pins s σ H vs us Q I r ⟨d, xs, ds, G, hv, hd, hks, xg, ra, hal, hk, hdep, q⟩
  subst hv
  rw [Vals.ref1 r]
  obtain ⟨d0, ys, pr, hm⟩ := DR.do_of I hd hks
  obtain ⟨es, ep, hraw, hsz, hent⟩ := hm.raw
  have hxl : xs.length = ys.length := (DR.entR_len pr).symm
  have hdl : ds.length = xs.length := by have := ra.len; rw [List.length_map] at this; exact this.symm
  have h16 : es.size ≤ sizeLine := by rw [hsz, ← hxl, sizeLine_eq]; have := d0.sz; omega
  refine Calls.call_function_entry PyProof.Rows.kind_sorted PyProof.Rows.plain_sorted PyProof.Rows.entry_sorted (PyProof.Rows.args_sorted1 _) ?_
  unfold Builtin.«sorted»
  refine wpAny_bind (m := checkCount "sorted" 1 1 _) (wpAny_pure ?_)
  refine wpAny_bind (PySem.W.kdu_collect (A := X.A.in1) (KdlSrc.rawDict (es := es) (ep := ep) d0.low) (I.ok.hd hc) hraw h16 fun h' tk acc hkp hacc => ?_)
  have hal0 : acc.toList.length = es.size := by rw [Array.length_toList, hacc.1]
  -- the collected values are the keys
  have hkeys : acc.toList = xs.map fun x => Value.ref x.2.1 := by
    refine List.ext_getElem? fun j => ?_
    rw [List.getElem?_map]
    by_cases hj : j < es.size
    · obtain ⟨y, hy, hkey, _, _⟩ := hent j hj
      have h1 : acc.toList[j]? = some acc.toList[j] := List.getElem?_eq_getElem (by rw [hal0]; exact hj)
      obtain ⟨hj', e1⟩ := hacc.2 j acc.toList[j] (by rw [← Array.getElem?_toList]; exact h1)
      rw [h1, e1, hkey]
      obtain ⟨x, hx, hxy⟩ : ∃ x, xs[j]? = some x ∧ DR.EntR x y := by
        have all : ∀ {xs : List DR.Ent} {ys : List (NestedKey × Addr × Value)}, Paired DR.EntR xs ys → ∀ (j : Nat) (y), ys[j]? = some y → ∃ x, xs[j]? = some x ∧ DR.EntR x y := by
          intro xs ys p
          induction p with
          | nil => intro j y h; simp at h
          | cons h t ih =>
            intro j y hy
            cases j with
            | zero => simp at hy; subst hy; exact ⟨_, rfl, h⟩
            | succ j => simpa using ih j y (by simpa using hy)
        exact all pr j y hy
      rw [hx]
      show some (Value.ref y.2.1) = some (Value.ref x.2.1)
      rw [hxy.2.1]
    · rw [List.getElem?_eq_none (by rw [hal0]; omega), List.getElem?_eq_none (by omega)]
      rfl
  have I1 : L2.Inv X pins σ H { s with heap := h', toks := tk } := I.kept hkp
  have vv : Vals (xs.map fun x => V.ref x.2.1) acc.toList := by
    rw [hkeys]
    have all : ∀ l : List DR.Ent, Vals (l.map fun x => V.ref x.2.1) (l.map fun x => Value.ref x.2.1) := fun l => by
      induction l with
      | nil => exact .nil
      | cons x l ih => exact .cons rfl ih
    exact all xs
  have ee := each_vr vv ra
  refine wpAny_bind (wpAny_newList ?_ (by rw [hal0]; exact h16))
  have hoL : (h'.push (seqObj "list" acc.toList.toArray 0)).get? h'.objs.size = some (seqObj "list" acc.toList.toArray 0) := Heap.get?_push_size _ rfl
  show wpAny _ _ _ _ _ { s with heap := h'.push (seqObj "list" acc.toList.toArray 0), toks := tk }
  have old : ∀ (b : Addr) (o : Obj), h'.get? b = some o → (PySem.W.sortingHeap (h'.push (seqObj "list" acc.toList.toArray 0)) h'.objs.size acc.toList).get? b = some o := fun b o hb => by
    have lt := Heap.lt_size hb
    exact PySem.W.sortingHeap_old (Nat.ne_of_lt lt) (Heap.get?_push_of_some _ hb)
  have er : EachIs (fun v b => ∃ as, Reads (PySem.W.sortingHeap (h'.push (seqObj "list" acc.toList.toArray 0)) h'.objs.size acc.toList) v b as) acc.toList ds := (vr_reads xg I1 ee).mono fun v b ⟨as, r⟩ => ⟨as, PyProof.Rows.Reads.keeps (fun b o => old b o) r⟩
  refine wpAny_bind (wpAny_holding (wpAny_call_entry PyProof.Rows.slot_list_sort ⟨_, hoL, rfl⟩ PyProof.Rows.entry_list_sort
    (PySem.W.list_sort_vals (s := { s with heap := h'.push (seqObj "list" acc.toList.toArray 0), toks := tk }) hoL (PySem.W.SortsAt.data (s := { s with heap := PySem.W.sortingHeap (h'.push (seqObj "list" acc.toList.toArray 0)) h'.objs.size acc.toList, toks := tk }) er hal hk (fun d hd => by
      have := hdep d hd
      show X.A.units + 1 + 1 + d.depth < cLine
      omega)) (by rw [hal0]; exact h16) ⟨_, rfl, ?_⟩)
    (PyProof.Rows.args_list_sort _)))
  have em := PySem.W.sortVals_data (enc := id) false (each_id ee) (each_id er) (by rw [List.map_id]; exact hal)
  rw [List.map_id] at em
  obtain ⟨zs, vz, rz⟩ := vr_each em
  obtain ⟨e', he'⟩ := PyProof.Rows.sortedHeap_at (vs := acc.toList) (out := (sortVals (dataKind (PySem.W.sortingHeap (h'.push (seqObj "list" acc.toList.toArray 0)) h'.objs.size acc.toList) ds) false acc.toList acc.toList).toArray) hoL
  have hlen : zs.length ≤ sizeLine := by
    rw [rz.len, List.length_mergeSort, hdl, hxl, ← hsz]
    exact h16
  refine wpAny_pure ⟨_, rfl, .ref h'.objs.size, upd H h'.objs.size (.lst zs), I1.laid (t' := tk) (fun b u e => ?_) (Nat.le_refl _) (show ObjOk X.prog X.w _ _ _ (.lst zs) from ⟨hlen, _, e', vz, he'⟩), rfl, q zs _ rz (I1.hok.fresh (Nat.le_refl _))⟩
  have hb : b < h'.objs.size := Heap.lt_size e
  rw [PyProof.Rows.sortedHeap_old (Nat.ne_of_lt hb) (by rw [size_push']; exact Nat.lt_succ_of_lt hb)]
  exact Heap.get?_push_of_some _ e
end
end DL
/-! Lists of bools counted; exceptions in the data layer. -/
namespace DR
open PySem PySem.Spec PyProof.Rows L2
theorem countP_eqU {x : V} : ∀ {xs : List V} {us : List Value}, Vals xs us → xs.all flatV = true → us.countP (eqU x) = xs.countP fun y => eqV y x
  | _, _, .nil, _ => rfl
  | y :: xs, u :: us, .cons r t, f => by
    rw [List.all_cons, Bool.and_eq_true] at f
    rw [List.countP_cons, List.countP_cons, eqU_of r f.1, countP_eqU t f.2]
section
variable {X : Cx}
def rCntF (K : PySem.W.Frag) : V → List V → Hp → VK → Prop := fun x xs H Q => ∃ (p : Addr) (ys : List V) (y : V), x = .ref p ∧ xs = [y] ∧ SqL K H p ys ∧ flatV y = true ∧ ys.all flatV = true ∧ Q (.int (ys.countP fun z => eqV z y : Nat)) H
theorem mt_countF : MtR X "list.count" (rCntF X.K) := by
  intro pins s σ H x xs v us Q I rx rxs h
  obtain ⟨p, ys, y, rfl, rfl, hs, fy, fys, q⟩ := h
  cases rx
  cases rxs with
  | cons ry rt =>
    rename_i uy ut
    cases rt
    obtain ⟨its, rv, ⟨⟨cls, dd, data, sl⟩, n, ho, hc, hdn, hd⟩, hlen⟩ := I.list hs
    simp only at hc hd
    subst hc hd
    refine call_meets PySem.F.slot_list_count ⟨_, ho, rfl⟩ PySem.F.entry_list_count (PySem.F.args_list_count_2 _ _)
      (SeqAt.list_countAt p its.toArray n dd sl uy (eqU y)) ⟨ho, fun u' hu' => mem_eqAt ry fy rv fys u' (by simpa using hu'), ?_⟩
    refine ⟨.int (ys.countP fun z => eqV z y : Nat), H, I.kept (t' := s.toks + 1) fun _ _ z => z, ⟨s.toks, ?_⟩, q⟩
    show Value.int ((its.toArray.toList.countP (eqU y) : Nat) : Int) s.toks = Value.int ((ys.countP fun z => eqV z y : Nat) : Int) s.toks
    have e : its.toArray.toList.countP (eqU y) = ys.countP fun z => eqV z y := countP_eqU rv fys
    rw [e]
theorem mt_countFK {K : PySem.W.Frag} (h : X.K = K) : MtR X "list.count" (rCntF K) := h ▸ mt_countF
end
end DR
namespace DL
open PySem PySem.Spec PyProof.Rows L2
open Evl (Ex)
open PySem.W (AllAlike Sortable dataLe)
section
variable {K : PySem.W.Frag} {e : En} {G G' H H' B : Hp} {σ : L2.St} {τ τ' : List SV} {δ δ' δ1 δ2 : Option Dr} {te ta tb tk tv : TE} {tt : TT} {t u : TS} {d d1 d2 k v : D} {ds : List D} {E : Ends} {Q : VK} {post : D → Option Dr → Prop} {P : Program} {w : World} {kvs : List (D × D)} {i y : Nat} {b : Bool}
theorem flat_bools : ∀ bs : List Bool, (bs.map V.bl).all flatV = true
  | [] => rfl
  | _ :: bs => flat_bools bs
theorem countP_bools : ∀ bs : List Bool, ((bs.map V.bl).countP fun z => eqV z (.bl true)) = bs.countP id
  | [] => rfl
  | b :: bs => by
    rw [List.map_cons, List.countP_cons, List.countP_cons, countP_bools bs]
    cases b <;> rfl
/-- bs.count(True) -/
theorem ev_countB {bs : List Bool} (ha : Ev K ta τ δ (.list (bs.map .bool)) δ1) : Ev K (tBM K "list" (DR.rCntF K) ta (tCons (tC (.bl true)) tNil)) τ δ (.int ((bs.countP id : Nat) : Int)) δ1 := fun e G H σ s Q q =>
  ha e G H σ s _ fun v G1 H1 x1 s1 r1 => by
    cases r1 with
    | @lst a xs _ h1 ra =>
      obtain rfl := RA.bools ra
      have hl : SqL K H1 a (bs.map V.bl) := .inl (.inl (s1.ex _ _ h1))
      refine ⟨.inl ⟨rfl, _, hl⟩, a, bs.map V.bl, .bl true, rfl, rfl, hl, rfl, flat_bools bs, ?_⟩
      rw [countP_bools]
      exact q _ G1 H1 x1 s1 (.int _)
/-- bs.index(True) -/
theorem ev_indexB {bs : List Bool} {j : Nat} (ha : Ev K ta τ δ (.list (bs.map .bool)) δ1) (hj : bs[j]? = some true) (hn : ∀ m : Nat, m < j → bs[m]? = some false) : Ev K (tBM K "list" (rIndex K) ta (tCons (tC (.bl true)) tNil)) τ δ (.int (j : Int)) δ1 := fun e G H σ s Q q =>
  ha e G H σ s _ fun v G1 H1 x1 s1 r1 => by
    cases r1 with
    | @lst a xs _ h1 ra =>
      obtain rfl := RA.bools ra
      have hl : SqL K H1 a (bs.map V.bl) := .inl (.inl (s1.ex _ _ h1))
      refine ⟨.inl ⟨rfl, _, hl⟩, a, bs.map V.bl, .bl true, j, .bl true, rfl, rfl, hl, rfl, flat_bools bs, by rw [List.getElem?_map, hj]; rfl, rfl, fun m z hm hz => ?_, q _ G1 H1 x1 s1 (.int _)⟩
      rw [List.getElem?_map, hn m hm] at hz
      cases hz
      rfl
/-- sorted(d) -/
theorem ev_sortD {ks : List D} (hi : τ[i]? = some (.dct P w kvs)) (hk : kvs.map (·.1) = ks) (hal : AllAlike ks) (hs : Sortable ks) (hd : ∀ d ∈ ks, d.depth ≤ 8) : Ev K (tCB (rSortD K P w) (tCons (tVar i) tNil)) τ δ (.list (ks.mergeSort (dataLe false id))) δ := fun e G H σ s Q q => by
  obtain ⟨p, xs, h1, h2, h3⟩ := dct_at s hi
  have rg : ∀ {xs : List DR.Ent} {kvs : List (D × D)}, Paired (DE K G) xs kvs → RA K G (xs.map fun x => V.ref x.2.1) (kvs.map (·.1)) := by
    intro xs kvs p
    induction p with
    | nil => exact .nil
    | cons h t ih => exact .cons h.r ih
  have r1 := rg h3
  rw [hk] at r1
  refine ⟨.ref p, h1, p, xs, ks, G, rfl, h2, de_keysOk s.ex h3, s.ex, r1, hal, hs, hd, fun ys p' ry hp => ?_⟩
  have x := Ex.new (o := .lst ys) (gnone s.ex hp)
  exact q _ _ _ x (s.new hp) (.lst upd_same (RA.mono x _ _ ry))
theorem ev_lenDF (h : EvD K te τ δ P w kvs δ') : Ev K (tCB (DR.rLenD K P w) (tCons te tNil)) τ δ (.int (kvs.length : Int)) δ' := fun e G H σ s Q q =>
  h e G H σ s _ fun p xs G1 H1 x1 s1 g n dn no hp ra => by
    refine ⟨p, xs, rfl, hp, de_keysOk s1.ex ra, ?_⟩
    rw [de_len ra]
    exact q _ G1 H1 x1 s1 (.int _)
theorem RA.rep {vs : List V} (r : RA K G vs ds) : ∀ k : Nat, RA K G (List.replicate k vs).flatten (List.replicate k ds).flatten
  | 0 => .nil
  | k + 1 => by
    rw [List.replicate_succ, List.replicate_succ, List.flatten_cons, List.flatten_cons]
    exact RA.app r (RA.rep r k)
theorem RA.rev : ∀ {vs : List V} {ds : List D}, RA K G vs ds → RA K G vs.reverse ds.reverse
  | _, _, .nil => .nil
  | _, _, .cons r t => by
    rw [List.reverse_cons, List.reverse_cons]
    exact RA.app (RA.rev t) (.cons r .nil)
/-- xs * k -/
theorem rd_rep {k : Nat} (h : ds.length * k ≤ 100000) (hk : k ≤ 100000 := by decide) : RD K rRep (.list ds) (.int (k : Int)) (.list (List.replicate k ds).flatten) := fun e G H σ τ δ v w s r1 r2 Q q => by
  cases r2
  cases r1 with
  | @lst a xs _ h1 ra =>
    refine ⟨a, (k : Int), xs, rfl, rfl, s.ex _ _ h1, by omega, by omega, ?_, fun p hp => ?_⟩
    · rw [RA.len ra, Int.toNat_natCast]
      exact Evl.sz_of h
    · rw [Int.toNat_natCast]
      have x := Ex.new (o := .lst (List.replicate k xs).flatten) (gnone s.ex hp)
      exact q _ _ _ x (s.new hp) (.lst upd_same (RA.mono x _ _ (RA.rep ra k)))
/-- xs[::-1] -/
theorem ev_revL (h : Ev K te τ δ (.list ds) δ') : Ev K (tRevL K te) τ δ (.list ds.reverse) δ' := fun e G H σ s Q q =>
  h e G H σ s _ fun v G1 H1 x1 s1 r1 => by
    cases r1 with
    | @lst a xs _ h1 ra =>
      refine ⟨a, xs, rfl, .inl (.inl (s1.ex _ _ h1)), fun p hp => ?_⟩
      have x := Ex.new (o := .lst xs.reverse) (gnone s1.ex hp)
      exact q _ _ _ (x1.trans x) (s1.new hp) (.lst upd_same (RA.mono x _ _ (RA.rev ra)))
/-- x[:k] of a text, the bound drawn -/
theorem ev_slSd {x : Str} {j : Int} (h : Ev K te τ δ (.str x) δ1) (hk : Ev K tk τ δ1 (.int j) δ2) (hx : x.length ≤ 1000) : Ev K (tSl rSlS te tNoPart (tPart tk)) τ δ (.str (cutS x none (some j))) δ2 := fun e G H σ s Q q =>
  h e G H σ s _ fun v G1 H1 x1 s1 r1 => hk e G1 H1 σ s1 _ fun u G2 H2 x2 s2 r2 => by
    cases r1
    cases r2
    exact ⟨j, rfl, x, rfl, Nat.le_trans hx (by decide), q _ G2 H2 (x1.trans x2) s2 (.str _)⟩
/-! ### exceptions -/
theorem Stt.setA {o : Option V} (s : Stt K e G H σ τ δ) : Stt K e G H (σ.set i o) (τ.set i .any) δ := by
  refine ⟨s.ex, s.gx, s.nn, s.fr, by rw [List.length_set, List.length_set]; exact s.len, fun j y hy => ?_, fun j k y1 y2 p w1 w2 h1 h2 h3 h4 => ?_, s.dr⟩
  · by_cases hij : i = j
    · subst hij
      by_cases hl : i < τ.length
      · rw [List.getElem?_set_self hl] at hy
        cases hy
        exact ⟨o, by rw [List.getElem?_set_self (by rw [s.len]; exact hl)], .any _⟩
      · rw [List.getElem?_eq_none (by rw [List.length_set]; omega)] at hy
        cases hy
    · rw [List.getElem?_set_ne hij] at hy ⊢
      exact s.sl j y hy
  · have a1 : i ≠ j := fun z => by
      subst z
      by_cases hl : i < τ.length
      · rw [List.getElem?_set_self hl] at h1; cases h1; cases w1
      · rw [List.getElem?_eq_none (by rw [List.length_set]; omega)] at h1; cases h1
    have a2 : i ≠ k := fun z => by
      subst z
      by_cases hl : i < τ.length
      · rw [List.getElem?_set_self hl] at h2; cases h2; cases w2
      · rw [List.getElem?_eq_none (by rw [List.length_set]; omega)] at h2; cases h2
    rw [List.getElem?_set_ne a1] at h1 h3
    rw [List.getElem?_set_ne a2] at h2 h4
    exact s.dj j k y1 y2 p w1 w2 h1 h2 h3 h4
theorem Stt.setE {a c : Addr} (s : Stt K e G H σ τ δ) (ha : G a = some (CaughtO (.ref c) a)) (hi : τ[i]? = some .any) : Stt K e G H (σ.set i (some (.ref a))) (τ.set i (.exc c)) δ := by
  have hl := (List.getElem?_eq_some_iff.mp hi).1
  refine ⟨s.ex, s.gx, s.nn, s.fr, by rw [List.length_set, List.length_set]; exact s.len, fun j y hy => ?_, fun j k y1 y2 p w1 w2 h1 h2 h3 h4 => ?_, s.dr⟩
  · by_cases hij : i = j
    · subst hij
      rw [List.getElem?_set_self hl] at hy
      cases hy
      exact ⟨_, by rw [List.getElem?_set_self (by rw [s.len]; exact hl)], .exc ha⟩
    · rw [List.getElem?_set_ne hij] at hy ⊢
      exact s.sl j y hy
  · have a1 : i ≠ j := fun z => by subst z; rw [List.getElem?_set_self hl] at h1; cases h1; cases w1
    have a2 : i ≠ k := fun z => by subst z; rw [List.getElem?_set_self hl] at h2; cases h2; cases w2
    rw [List.getElem?_set_ne a1] at h1 h3
    rw [List.getElem?_set_ne a2] at h2 h4
    exact s.dj j k y1 y2 p w1 w2 h1 h2 h3 h4
/-- an expression that raises C -/
def EvR (K : PySem.W.Frag) (te : TE) (τ : List SV) (δ : Option Dr) (W : WX) (C : Addr) : Prop :=
  ∀ e G H σ, Stt K e G H σ τ δ → (∀ G' H', Ex G G' → Stt K e G' H' σ τ δ → W (.ref C) none σ H') → ∀ Q : VK, te σ H Q
/-- try: x = te .. except F as n: y = n, where te raises C -/
theorem sd_catch {C : Addr} {c : Value} {f : Nat} {tw : WX → TE} (hiy : i ≠ y) (hi : τ[i]? = some .any) (hy : y < τ.length) (h : EvR K (tw (DR.wCatch K c i y E)) τ δ (DR.wCatch K c i y E) C) (hx : PySem.W.exmOne K (.ref C) c = some true) (k : SD K e B tNext E (τ.set y (.exc C)) δ) :
    SD K e B (fun D σ H => tAsg (tw (DR.wCatch K c i y D)) (gName f) D σ H) E τ δ := fun G H σ bx s => by
  refine h e G H σ s (fun G1 H1 x1 s1 => ⟨hx, rfl, fun a ha => ?_⟩) _
  have s2 := s1.new (o := CaughtO (.ref C) a) ha
  have x2 := Ex.new (o := CaughtO (.ref C) a) (gnone s1.ex ha)
  have e0 : τ.set i .any = τ := by
    refine List.ext_getElem? fun j => ?_
    by_cases hij : i = j
    · subst hij; rw [List.getElem?_set_self (List.getElem?_eq_some_iff.mp hi).1, hi]
    · rw [List.getElem?_set_ne hij]
  have s3 := s2.setA (i := i) (o := some (.ref a))
  rw [e0] at s3
  have s4 := s3.setA (i := y) (o := some (.ref a))
  have s5 := s4.setE (i := y) (a := a) (c := C) upd_same (by rw [List.getElem?_set_self hy])
  rw [List.set_set, List.set_set] at s5
  have s6 := s5.setA (i := i) (o := none)
  have e1 : (τ.set y (SV.exc C)).set i .any = τ.set y (.exc C) := by
    refine List.ext_getElem? fun j => ?_
    by_cases hij : i = j
    · subst hij; rw [List.getElem?_set_self (by rw [List.length_set]; exact (List.getElem?_eq_some_iff.mp hi).1), List.getElem?_set_ne hiy.symm, hi]
    · rw [List.getElem?_set_ne hij]
  rw [e1] at s6
  exact k _ _ _ ((bx.trans x1).trans x2) s6
/-! a def that may raise -/
def spE (K : PySem.W.Frag) (mg : Str → Option Value) {X : Type} (enc : X → List D) (dom : X → Prop) (fn : X → D ⊕ Str) : Sp := fun vs H Q E => ∃ G x, Ex G H ∧ RA K G vs (enc x) ∧ dom x ∧
  ∀ G' H', Ex G G' → Ex G' H' → (∀ a, H a ≠ none → G a = none → G' a = none ∧ H' a = H a) → (∀ d, fn x = .inl d → ∀ v, R K G' v d → Q v H') ∧ (∀ n C, fn x = .inr n → mg n = some (.ref C) → E (.ref C) none H')
theorem ev_callE {mg : Str → Option Value} {X : Type} {enc : X → List D} {dom : X → Prop} {fn : X → D ⊕ Str} {t : TA} {W : L2.St → XK} (x : X) (h : EvA K t τ δ ds δ1) (hx : ds = enc x) (hd : dom x) (hf : fn x = .inl d) : Ev K (tCallS (spE K mg enc dom fn) W t) τ δ d δ1 := fun e G H σ s Q q =>
  h e G H σ s _ fun vs G1 H1 x1 s1 r1 => ⟨G1, x, s1.ex, by rw [← hx]; exact r1, hd, fun G2 H2 x2 xh fr => ⟨fun d' hd' v r => by
    rw [hf] at hd'
    cases hd'
    exact q v G2 H2 (x1.trans x2) (s1.call x2 xh fr) r, fun n C hn => by rw [hf] at hn; cases hn⟩⟩
theorem er_callE {mg : Str → Option Value} {X : Type} {enc : X → List D} {dom : X → Prop} {fn : X → D ⊕ Str} {t : TA} {W : WX} {n : Str} {C : Addr} (x : X) (h : EvA K t τ δ ds δ) (hx : ds = enc x) (hd : dom x) (hf : fn x = .inr n) (hm : mg n = some (.ref C)) : EvR K (tCallS (spE K mg enc dom fn) (WE W) t) τ δ W C := fun e G H σ s q Q =>
  h e G H σ s _ fun vs G1 H1 x1 s1 r1 => ⟨G1, x, s1.ex, by rw [← hx]; exact r1, hd, fun G2 H2 x2 xh fr => ⟨fun d' hd' v r => (by
    rw [hf] at hd'
    cases hd'), fun n' C' hn hm' => by
    rw [hf] at hn
    cases hn
    rw [hm] at hm'
    cases hm'
    exact q G2 H2 (x1.trans x2) (s1.call x2 xh fr)⟩⟩
theorem er_if {W : WX} {C : Addr} {b : Bool} (h : EvT K tt τ δ b δ) (h1 : b = true → EvR K ta τ δ W C) (h2 : b = false → EvR K tb τ δ W C) : EvR K (tIf tt ta tb) τ δ W C := fun e G H σ s q Q => h e G H σ s _ fun G1 H1 x1 s1 => by
  cases b with
  | true => exact iteT (h1 rfl e G1 H1 σ s1 (fun G2 H2 x2 => q G2 H2 (x1.trans x2)) Q)
  | false => exact iteF (h2 rfl e G1 H1 σ s1 (fun G2 H2 x2 => q G2 H2 (x1.trans x2)) Q)
/-- te as a statement, raising -/
theorem sd_dropR {W : XK} {C : Addr} (h : EvR K te τ δ (fun c d _ H => W c d H) C) (q : ∀ G H σ, Stt K e G H σ τ δ → W (.ref C) none H) : SD K e B (tDrop te) E τ δ := fun G H σ bx s => h e G H σ s (fun G1 H1 x1 s1 => q G1 H1 σ s1) _
/-- is the caught thing None? -/
theorem et_isNx {c : Addr} (hy : τ[y]? = some (.exc c)) : EvT K (tTest (tOp (fun x y H Q => y = .non ∧ Q (.bl (decide (x = .non))) H) (tVar y) (tC .non))) τ δ false δ := fun e G H σ s Q q => by
  obtain ⟨o, h1, h2⟩ := s.sl y _ hy
  cases h2 with
  | exc h =>
    refine ⟨_, h1, rfl, false, ?_, q G H (Ex.refl G) s⟩
    rw [decide_eq_false (fun z => by cases z)]
def isNo : D → Bool
  | .none => true
  | _ => false
theorem rd_isN : RD K (fun x y H Q => y = .non ∧ Q (.bl (decide (x = .non))) H) d .none (.bool (isNo d)) := fun e G H σ τ δ v w s r1 r2 Q q => by
  cases r2
  refine ⟨rfl, ?_⟩
  have z : decide (v = V.non) = isNo d := by cases r1 <;> rfl
  rw [z]
  exact q _ G H (Ex.refl G) s (.bl _)
theorem rd_notN : RD K (fun x y H Q => y = .non ∧ Q (.bl (!decide (x = .non))) H) d .none (.bool (!isNo d)) := fun e G H σ τ δ v w s r1 r2 Q q => by
  cases r2
  refine ⟨rfl, ?_⟩
  have z : decide (v = V.non) = isNo d := by cases r1 <;> rfl
  rw [z]
  exact q _ G H (Ex.refl G) s (.bl _)
/-- isinstance(e, C) of a caught exception -/
theorem ev_isC {c : Addr} {cv : V} {cu : Value} (hy : τ[y]? = some (.exc c)) (C : ExcC K c) (hu : ∀ u, RelV cv u → u = cu) (hk : PySem.W.kitOne K (.ref c) cu = some b) : Ev K (tCB (DR.rIsC K) (tCons (tVar y) (tCons (tC cv) tNil))) τ δ (.bool b) δ := fun e G H σ s Q q => by
  obtain ⟨o, h1, h2⟩ := s.sl y _ hy
  cases h2 with
  | @exc a _ h => exact ⟨_, h1, a, c, cv, cu, b, rfl, s.ex _ _ h, C, hu, hk, q _ G H (Ex.refl G) s (.bl b)⟩
/-- a def that is handed a caught exception -/
def spC (K : PySem.W.Frag) (ok : Addr → Prop) (fn : Addr → D) : Sp := fun vs H Q _ => ∃ G a c, vs = [.ref a] ∧ Ex G H ∧ G a = some (CaughtO (.ref c) a) ∧ ok c ∧ ∀ v G' H', Ex G G' → Ex G' H' → (∀ a, H a ≠ none → G a = none → G' a = none ∧ H' a = H a) → R K G' v (fn c) → Q v H'
theorem ev_callC {ok : Addr → Prop} {fn : Addr → D} {Ex' : XK} {c : Addr} (hy : τ[y]? = some (.exc c)) (hc : ok c) : Ev K (tCall (spC K ok fn) [] Ex' (tCons (tVar y) tNil)) τ δ (fn c) δ := fun e G H σ s Q q => by
  obtain ⟨o, h1, h2⟩ := s.sl y _ hy
  cases h2 with
  | @exc a _ h => exact ⟨_, h1, G, a, c, rfl, s.ex, h, hc, fun v G2 H2 x2 xh fr r2 => q v G2 H2 x2 (s.call x2 xh fr) r2⟩
theorem stt_startC {N : List Str} {a c : Addr} (x : Ex G H) (h : G a = some (CaughtO (.ref c) a)) : Stt K ⟨fun a => H a ≠ none ∧ G a = none, H, G⟩ G H (L2.start N [.ref a]) (.exc c :: List.replicate (N.length - 1) .any) none := by
  refine ⟨x, Ex.refl G, fun a ha => ha.1, fun a ha => ⟨ha.2, rfl⟩, by unfold L2.start; simp, fun i y hy => ?_, fun i j y1 y2 p w1 w2 h1 => ?_, trivial⟩
  · cases i with
    | zero => cases hy; exact ⟨_, rfl, .exc h⟩
    | succ i =>
      have hy : (List.replicate (N.length - 1) SV.any)[i]? = some y := hy
      rw [List.getElem?_replicate] at hy
      split at hy
      · cases hy
        rename_i hlt
        refine ⟨none, ?_, .any _⟩
        show (List.replicate (N.length - 1) none)[i]? = some none
        rw [List.getElem?_replicate, if_pos hlt]
      · cases hy
  · exfalso
    cases i with
    | zero => cases h1; cases w1
    | succ i =>
      have h1 : (List.replicate (N.length - 1) SV.any)[i]? = some y1 := h1
      rw [List.getElem?_replicate] at h1
      split at h1
      · cases h1; cases w1
      · cases h1
end
/-- a def that may raise, at the module's name x -/
def ClX (P : Program) (w : World) (K : PySem.W.Frag) (mg : Str → Option Value) (base : Heap) (x : Str) (k : Nat) (ps : List Str) (sp : Sp) : Prop := ∃ f fd, FnOk P w K mg base (L2.CX P w) k f fd ps sp ∧ mg x = some (.ref f) ∧ PySem.W.keepIn K (.ref f) = true ∧ Binds K fd ps []
theorem pe_clX {X : Cx} {W : WX} {x : Str} {k : Nat} {ps : List Str} {sp : Sp} {p pos : Pos} {e : Expr} {es : List Expr} {t : TA} (C : ClX X.prog X.w X.K X.mg X.base x k ps sp) (hr : Room k X.A) (tk : Takes X W) (hg : Gl X x) (ha : PA X (e :: es) t) (hdb : (x == ("__debug__" : Str)) = false := by decide)
    (he : starEach (e :: es) X.env = (false, eval e X.env) :: starEach es X.env := by rfl) (hpl : (backTo pos (starEach es X.env)).any (·.1) = false := by rfl) : PE X (.Call (.Name x p) (e :: es) [] pos) (tCallS sp (WE W) t) := by
  obtain ⟨f, fd, F, hm, hk, hb⟩ := C
  exact pe_callS F hr hg hm hk hb (fun σ => passAt tk σ) ha hdb he hpl
/-- what is known of an exception class that is raised -/
structure ErC (K : PySem.W.Frag) (mg : Str → Option Value) (x : Str) (D : Addr) : Prop where
  g : mg x = some (.ref D)
  mx : PySem.W.excIn K D [Value.type "ValueError", Value.type "Exception", Value.type "BaseException", Value.type "object"] "ValueError.__new__" = true
  kp : PySem.W.keepIn K (.ref D) = true
  sb : PySem.W.subIn K (.ref D) (.type "BaseException") = some true
  ty : PySem.W.typeIn K (.ref D) = some (.type "type")
theorem pmk_er {X : Cx} {x m : Str} {D : Addr} {j : Nat} {p p2 pos : Pos} (h : ErC X.K X.mg x D) (hg : Gl X x) (hdb : (x == ("__debug__" : Str)) = false := by decide) : PMk X (.Call (.Name x p) [.Constant (.str m) j p2] [] pos) (fun _ H Q => Q (.ref D) none H) := by
  exact pmk_own PySem.F.excBase_ValueError h.mx h.g h.kp (raises_own h.sb h.ty) hg hdb
section
variable {P : Program} {w : World} {K : PySem.W.Frag} {mg : Str → Option Value} {base : Heap}
theorem clE {X : Type} {enc : X → List D} {dom : X → Prop} {fn : X → D ⊕ Str} {x : Str} {st : Stmt} {N ps : List Str} {k : Nat} (T : FT K mg x st ps) (S : FnScope N ps (defScope st)) (len : ∀ x, (enc x).length = ps.length)
    (hb : ∀ (f : Addr) (cdv : Value) (A : Around) (outer : List Env) (s : Shared) (H : Hp) (E : XK) (z : X), Room k (A.deeper (envOfC x (defScope st) s.heap.objs.size f cdv)) → dom z →
      ∃ t, PSs (cxOf (L2.CX P w) P w K mg base N x (defScope st) f cdv A outer s H E) (defBody st) t ∧ ∀ (e : En) (Q : VK), Rt K e Q (fun d _ => fn z = .inl d) → (∀ n C, fn z = .inr n → mg n = some (.ref C) → ∀ G' H' σ τ, Stt K e G' H' σ τ none → E (.ref C) none H') → SD K e e.G0 t { nx := fun _ H' => Q .non H', rt := Q } ((enc z).map .val ++ List.replicate (N.length - (enc z).length) .any) none) :
    ClX P w K mg base x (k + 1) ps (spE K mg enc dom fn) := by
  obtain ⟨f, fd, F, hm, b⟩ := T
  refine ⟨f, fd, ?_, hm, F.kp, b⟩
  refine F.okX S (fun vs H Q E ⟨G, x, ex, ra, hd, q⟩ => by rw [RA.len ra]; exact len x) (fun cdv A outer s H vs Q E hr ⟨G, x, ex, ra, hd, q⟩ => ?_)
  obtain ⟨t, h1, h2⟩ := hb f cdv A outer s H E x hr hd
  refine ⟨t, h1, h2 ⟨fun a => H a ≠ none ∧ G a = none, H, G⟩ Q (fun v G' H' σ τ δ d s' r z => ?_) (fun n C hn hC G' H' σ τ s' => ?_) G H _ (Ex.refl G) (stt_start ex ra)⟩
  · exact (q G' H' s'.gx s'.ex (fun a h1 h2 => s'.fr a ⟨h1, h2⟩)).1 d z v r
  · exact (q G' H' s'.gx s'.ex (fun a h1 h2 => s'.fr a ⟨h1, h2⟩)).2 n C hn hC
theorem clC {ok : Addr → Prop} {fn : Addr → D} {x p0 : Str} {st : Stmt} {N : List Str} {k : Nat} (T : FT K mg x st [p0]) (S : FnScope N [p0] (defScope st))
    (hb : ∀ (f : Addr) (cdv : Value) (A : Around) (outer : List Env) (s : Shared) (H : Hp) (E : XK) (c : Addr), Room k (A.deeper (envOfC x (defScope st) s.heap.objs.size f cdv)) → ok c →
      ∃ t, PSs (cxOf CX0 P w K mg base N x (defScope st) f cdv A outer s H E).nox (defBody st) t ∧ ∀ (e : En) (Q : VK), Rt K e Q (fun d _ => d = fn c) → SD K e e.G0 t { nx := fun _ H' => Q .non H', rt := Q } (.exc c :: List.replicate (N.length - 1) .any) none) :
    Cl P w K mg base x (k + 1) [p0] (spC K ok fn) := by
  obtain ⟨f, fd, F, hm, b⟩ := T
  refine ⟨f, fd, ?_, hm, F.kp, b⟩
  refine F.ok S (fun vs H Q E ⟨G, a, c, hv, _⟩ => by rw [hv]; rfl) (fun cdv A outer s H vs Q E hr ⟨G, a, c, hv, ex, hg, hok, q⟩ => ?_)
  obtain ⟨t, h1, h2⟩ := hb f cdv A outer s H E c hr hok
  subst hv
  refine ⟨t, h1, h2 ⟨fun a => H a ≠ none ∧ G a = none, H, G⟩ Q (fun v G' H' σ τ δ d s' r z => ?_) G H _ (Ex.refl G) (stt_startC ex hg)⟩
  subst z
  exact q v G' H' s'.gx s'.ex (fun a h1 h2 => s'.fr a ⟨h1, h2⟩) r
end
end DL
/-! Loops and comprehensions over any iterator, with targets of several names. -/
namespace DL
open PySem PySem.Spec PyProof.Rows L2
open Evl (Ex)
section
variable {K : PySem.W.Frag} {e : En} {G G' H H' B : Hp} {σ σ2 : L2.St} {τ τ' : List SV} {δ δ' δ1 δ2 : Option Dr} {te ta tb tl : TE} {tt : TT} {t u : TS} {d d1 d2 : D} {ds es : List D} {E : Ends} {Q : VK} {wi : TI} {g : TG} {gs : TGs} {js js2 : List Nat}

/-! ### iterators -/
/-- the iterator yields the data ds in any heap that goes on from G1; an item may be a new tuple -/
structure JD (K : PySem.W.Frag) (J : It) (G1 : Hp) (ds : List D) : Prop where
  stop : ∀ H, Ex G1 H → J.stop ds.length H
  go : ∀ i H, i < ds.length → Ex G1 H → J.go i H
  yld : ∀ i d x H H', ds[i]? = some d → Ex G1 H → J.yld i H x H' → (H' = H ∧ ∀ G2, Ex G1 G2 → R K G2 x d) ∨ ∃ T xs es, x = .ref T ∧ d = .tuple es ∧ H T = none ∧ H' = upd H T (.tup xs) ∧ ∀ G2, Ex G1 G2 → RA K G2 xs es
def EI (K : PySem.W.Frag) (wi : TI) (τ : List SV) (δ : Option Dr) (ds : List D) (δ' : Option Dr) : Prop :=
  ∀ e G H σ, Stt K e G H σ τ δ → ∀ Q : It → Hp → Prop, (∀ J G' H', Ex G G' → Stt K e G' H' σ τ δ' → JD K J G' ds → Q J H') → wi σ H Q
theorem ra_get {xs : List V} (ra : RA K G xs ds) {i : Nat} (h : ds[i]? = some d) : ∃ x, xs[i]? = some x ∧ R K G x d := by
  have hl : i < xs.length := by rw [RA.len ra]; exact (List.getElem?_eq_some_iff.mp h).1
  obtain ⟨d', h1, h2⟩ := RA.get ra i xs[i] (List.getElem?_eq_getElem hl)
  rw [h] at h1
  cases h1
  exact ⟨_, List.getElem?_eq_getElem hl, h2⟩
theorem ra_ok {xs : List V} (ra : RA K G xs ds) {i : Nat} {x : V} (h : ds[i]? = some d) (hx : xs[i]? = some x) : R K G x d := by
  obtain ⟨y, h1, h2⟩ := ra_get ra h
  rw [hx] at h1
  cases h1
  exact h2
theorem jd_list {a : Addr} {xs : List V} (hx : G a = some (.lst xs)) (ra : RA K G xs ds) : JD K (Itl K a) G ds where
  stop := fun H x => ⟨xs, .inl (.inl (x _ _ hx)), by rw [RA.len ra]; exact Nat.le_refl _⟩
  go := fun i H hi x => ⟨xs, xs[i]'(by rw [RA.len ra]; exact hi), .inl (.inl (x _ _ hx)), List.getElem?_eq_getElem _⟩
  yld := fun i d x H H' hd xe ⟨h1, h2⟩ => .inl ⟨h1, fun G2 x2 => R.mono x2 _ _ (ra_ok ra hd (h2 xs (.inl (.inl (xe _ _ hx)))))⟩
theorem jd_tup {a : Addr} {xs : List V} (hx : SqT K G a xs) (ra : RA K G xs ds) : JD K (Itt K a) G ds where
  stop := fun H x => ⟨xs, Evl.ex_t x hx, by rw [RA.len ra]; exact Nat.le_refl _⟩
  go := fun i H hi x => ⟨xs, xs[i]'(by rw [RA.len ra]; exact hi), Evl.ex_t x hx, List.getElem?_eq_getElem _⟩
  yld := fun i d x H H' hd xe ⟨h1, h2⟩ => .inl ⟨h1, fun G2 x2 => R.mono x2 _ _ (ra_ok ra hd (h2 xs (Evl.ex_t xe hx)))⟩
def rngD (lo : Int) (n : Nat) : List D := (List.range n).map fun i => .int (lo + (i : Nat))
theorem rngD_len {lo : Int} {n : Nat} : (rngD lo n).length = n := by unfold rngD; rw [List.length_map, List.length_range]
theorem rngD_get {lo : Int} {n i : Nat} (h : (rngD lo n)[i]? = some d) : d = .int (lo + (i : Nat)) := by
  unfold rngD at h
  rw [List.getElem?_map] at h
  obtain ⟨k, h1, h2⟩ := Option.map_eq_some_iff.mp h
  obtain ⟨h3, h4⟩ := List.getElem?_eq_some_iff.mp h1
  rw [List.getElem_range] at h4
  subst h4
  exact h2.symm
theorem jd_rng {lo : Int} {n : Nat} : JD K (Itr lo n) G (rngD lo n) where
  stop := fun H _ => by rw [rngD_len]; exact Nat.le_refl _
  go := fun i H hi _ => by rw [rngD_len] at hi; exact hi
  yld := fun i d x H H' hd _ ⟨h1, h2⟩ => .inl ⟨h1, fun G2 _ => by rw [rngD_get hd, h2]; exact .int _⟩
/-- enumerate -/
def enD (ds : List D) : List D := ds.mapIdx fun i d => .tuple [.int (i : Nat), d]
theorem enD_len : (enD ds).length = ds.length := List.length_mapIdx
theorem enD_get {i : Nat} (h : (enD ds)[i]? = some d) : ∃ x, ds[i]? = some x ∧ d = .tuple [.int (i : Nat), x] := by
  unfold enD at h
  rw [List.getElem?_mapIdx] at h
  obtain ⟨k, h1, h2⟩ := Option.map_eq_some_iff.mp h
  exact ⟨k, h1, h2.symm⟩
theorem jd_enum {a : Addr} {xs : List V} (hx : G a = some (.lst xs)) (ra : RA K G xs ds) : JD K (Ite K a) G (enD ds) where
  stop := fun H x => ⟨xs, .inl (.inl (x _ _ hx)), by rw [RA.len ra, enD_len]; exact Nat.le_refl _⟩
  go := fun i H hi x => ⟨xs, xs[i]'(by rw [RA.len ra]; rw [enD_len] at hi; exact hi), .inl (.inl (x _ _ hx)), List.getElem?_eq_getElem _⟩
  yld := fun i d x H H' hd xe ⟨T, y, h1, h2, h3, h4⟩ => by
    obtain ⟨d0, hd0, rfl⟩ := enD_get hd
    exact .inr ⟨T, _, _, h1, rfl, h2, h3, fun G2 x2 => .cons (.int _) (.cons (R.mono x2 _ _ (ra_ok ra hd0 (h4 xs (.inl (.inl (xe _ _ hx)))))) .nil)⟩
/-- zip -/
def zpD (ds es : List D) : List D := List.zipWith (fun a b => .tuple [a, b]) ds es
theorem zpD_get {i : Nat} (h : (zpD ds es)[i]? = some d) : ∃ x y, ds[i]? = some x ∧ es[i]? = some y ∧ d = .tuple [x, y] := by
  unfold zpD at h
  rw [List.getElem?_zipWith] at h
  cases h1 : ds[i]? with
  | none => rw [h1] at h; cases h
  | some x =>
    cases h2 : es[i]? with
    | none => rw [h1, h2] at h; cases h
    | some y => rw [h1, h2] at h; exact ⟨x, y, rfl, rfl, (Option.some.inj h).symm⟩
theorem zpD_len : (zpD ds es).length = min ds.length es.length := List.length_zipWith
theorem jd_zip {a b : Addr} {xs ys : List V} (hx : G a = some (.lst xs)) (hy : G b = some (.lst ys)) (ra : RA K G xs ds) (rb : RA K G ys es) : JD K (Itz K a b) G (zpD ds es) where
  stop := fun H x => ⟨xs, ys, .inl (.inl (x _ _ hx)), .inl (.inl (x _ _ hy)), by rw [RA.len ra, RA.len rb, zpD_len]; omega⟩
  go := fun i H hi x => ⟨xs, ys, xs[i]'(by rw [RA.len ra]; rw [zpD_len] at hi; omega), ys[i]'(by rw [RA.len rb]; rw [zpD_len] at hi; omega), .inl (.inl (x _ _ hx)), .inl (.inl (x _ _ hy)), List.getElem?_eq_getElem _, List.getElem?_eq_getElem _⟩
  yld := fun i d x H H' hd xe ⟨T, y, z, h1, h2, h3, h4, h5⟩ => by
    obtain ⟨d0, d1, hd0, hd1, rfl⟩ := zpD_get hd
    exact .inr ⟨T, _, _, h1, rfl, h2, h3, fun G2 x2 => .cons (R.mono x2 _ _ (ra_ok ra hd0 (h4 xs (.inl (.inl (xe _ _ hx)))))) (.cons (R.mono x2 _ _ (ra_ok rb hd1 (h5 ys (.inl (.inl (xe _ _ hy)))))) .nil)⟩
theorem jd_zipT {a b : Addr} {xs ys : List V} (hx : SqT K G a xs) (hy : SqT K G b ys) (ra : RA K G xs ds) (rb : RA K G ys es) : JD K (RZ.ItzT K a b) G (zpD ds es) where
  stop := fun H x => ⟨xs, ys, Evl.ex_t x hx, Evl.ex_t x hy, by rw [RA.len ra, RA.len rb, zpD_len]; omega⟩
  go := fun i H hi x => ⟨xs, ys, xs[i]'(by rw [RA.len ra]; rw [zpD_len] at hi; omega), ys[i]'(by rw [RA.len rb]; rw [zpD_len] at hi; omega), Evl.ex_t x hx, Evl.ex_t x hy, List.getElem?_eq_getElem _, List.getElem?_eq_getElem _⟩
  yld := fun i d x H H' hd xe ⟨T, y, z, h1, h2, h3, h4, h5⟩ => by
    obtain ⟨d0, d1, hd0, hd1, rfl⟩ := zpD_get hd
    exact .inr ⟨T, _, _, h1, rfl, h2, h3, fun G2 x2 => .cons (R.mono x2 _ _ (ra_ok ra hd0 (h4 xs (Evl.ex_t xe hx)))) (.cons (R.mono x2 _ _ (ra_ok rb hd1 (h5 ys (Evl.ex_t xe hy)))) .nil)⟩

theorem ei_list (h : Ev K tl τ δ (.list ds) δ1) : EI K (iList K tl) τ δ ds δ1 := fun e G H σ s Q q => h e G H σ s _ fun v G1 H1 x1 s1 r1 => by
  cases r1 with
  | @lst a xs _ hx ra => exact ⟨a, rfl, ⟨xs, .inl (.inl (s1.ex _ _ hx))⟩, q _ G1 H1 x1 s1 (jd_list hx ra)⟩
theorem ei_tup (h : Ev K tl τ δ (.tuple ds) δ1) : EI K (iTup K tl) τ δ ds δ1 := fun e G H σ s Q q => h e G H σ s _ fun v G1 H1 x1 s1 r1 => by
  cases r1 with
  | @tup a xs _ hx ra => exact ⟨a, rfl, ⟨xs, Evl.ex_t s1.ex hx⟩, q _ G1 H1 x1 s1 (jd_tup hx ra)⟩
theorem ei_enum {t : TA} (h : EvA K t τ δ [.list ds] δ1) : EI K (iEnum K t) τ δ (enD ds) δ1 := fun e G H σ s Q q => h e G H σ s _ fun vs G1 H1 x1 s1 r1 => by
  cases r1 with
  | cons r2 r3 =>
    cases r3
    cases r2 with
    | @lst a xs _ hx ra => exact ⟨a, xs, rfl, .inl (.inl (s1.ex _ _ hx)), q _ G1 H1 x1 s1 (jd_enum hx ra)⟩
theorem ei_zip {t : TA} (h : EvA K t τ δ [.list ds, .list es] δ1) : EI K (iZip K t) τ δ (zpD ds es) δ1 := fun e G H σ s Q q => h e G H σ s _ fun vs G1 H1 x1 s1 r1 => by
  cases r1 with
  | cons r2 r3 =>
    cases r3 with
    | cons r4 r5 =>
      cases r5
      cases r2 with
      | @lst a xs _ hx ra =>
        cases r4 with
        | @lst b ys _ hy rb => exact ⟨a, b, xs, ys, rfl, .inl (.inl (s1.ex _ _ hx)), .inl (.inl (s1.ex _ _ hy)), q _ G1 H1 x1 s1 (jd_zip hx hy ra rb)⟩
theorem ei_zipL {t : TA} (h : EvA K t τ δ [.list ds, .list es] δ1) : EI K (RZ.iZipA K t) τ δ (zpD ds es) δ1 := fun e G H σ s Q q => h e G H σ s _ fun vs G1 H1 x1 s1 r1 => by
  cases r1 with
  | cons r2 r3 =>
    cases r3 with
    | cons r4 r5 =>
      cases r5
      cases r2 with
      | @lst a xs _ hx ra =>
        cases r4 with
        | @lst b ys _ hy rb => exact ⟨a, b, xs, ys, rfl, .inl ⟨.inl (.inl (s1.ex _ _ hx)), .inl (.inl (s1.ex _ _ hy)), q _ G1 H1 x1 s1 (jd_zip hx hy ra rb)⟩⟩
theorem ei_zipT {t : TA} (h : EvA K t τ δ [.tuple ds, .tuple es] δ1) : EI K (RZ.iZipA K t) τ δ (zpD ds es) δ1 := fun e G H σ s Q q => h e G H σ s _ fun vs G1 H1 x1 s1 r1 => by
  cases r1 with
  | cons r2 r3 =>
    cases r3 with
    | cons r4 r5 =>
      cases r5
      cases r2 with
      | @tup a xs _ hx ra =>
        cases r4 with
        | @tup b ys _ hy rb => exact ⟨a, b, xs, ys, rfl, .inr ⟨Evl.ex_t s1.ex hx, Evl.ex_t s1.ex hy, q _ G1 H1 x1 s1 (jd_zipT hx hy ra rb)⟩⟩
theorem ei_rng {t : TA} {n : Nat} (h : EvA K t τ δ [.int (n : Int)] δ1) (hn : n ≤ 1000000) : EI K (iRng1 t) τ δ (rngD 0 n) δ1 := fun e G H σ s Q q => h e G H σ s _ fun vs G1 H1 x1 s1 r1 => by
  cases r1 with
  | cons r2 r3 =>
    cases r3; cases r2
    refine ⟨(n : Int), rfl, by omega, by omega, ?_⟩
    rw [Int.toNat_natCast]
    exact q _ G1 H1 x1 s1 jd_rng

/-! ### one turn's item, tracked -/
theorem JD.turn {J : It} {G1 : Hp} (jd : JD K J G1 ds) {i : Nat} {x : V} (hd : ds[i]? = some d) (x1 : Ex G1 G) (s : Stt K e G H σ τ δ) (y : J.yld i H x H') :
    ∃ G', Ex G G' ∧ Stt K e G' H' σ τ δ ∧ R K G' x d ∧ ∀ p o, G p = none → H p = some o → G' p = none ∧ H' p = some o := by
  rcases jd.yld i d x H H' hd (x1.trans s.ex) y with ⟨rfl, h⟩ | ⟨T, xs, es, rfl, rfl, h1, rfl, h2⟩
  · exact ⟨G, Ex.refl G, s, h G x1, fun p o a b => ⟨a, b⟩⟩
  · have xn := Ex.new (o := .tup xs) (gnone s.ex h1)
    refine ⟨_, xn, s.new h1, .tup (.inl (.inl upd_same)) (h2 _ (x1.trans xn)), fun p o a b => ?_⟩
    have hp : p ≠ T := fun z => by subst z; rw [h1] at b; cases b
    exact ⟨by rw [upd_ne hp]; exact a, by rw [upd_ne hp]; exact b⟩

/-! ### targets -/
structure GV (K : PySem.W.Frag) (g : TG) (d : D) (js : List Nat) (τ τ' : List SV) (δ : Option Dr) : Prop where
  ln : τ'.length = τ.length
  ot : ∀ k, k ∉ js → τ'[k]? = τ[k]?
  ok : ∀ e G H σ v, Stt K e G H σ τ δ → R K G v d → ∀ Q : L2.St → Hp → Prop, (∀ σ', Stt K e G H σ' τ' δ → σ'.length = σ.length → (∀ k, k ∉ js → σ'[k]? = σ[k]?) → Q σ' H) → g v σ H Q
structure GVs (K : PySem.W.Frag) (gs : TGs) (ds : List D) (js : List Nat) (τ τ' : List SV) (δ : Option Dr) : Prop where
  ln : τ'.length = τ.length
  ot : ∀ k, k ∉ js → τ'[k]? = τ[k]?
  ok : ∀ e G H σ vs, Stt K e G H σ τ δ → RA K G vs ds → ∀ Q : L2.St → Hp → Prop, (∀ σ', Stt K e G H σ' τ' δ → σ'.length = σ.length → (∀ k, k ∉ js → σ'[k]? = σ[k]?) → Q σ' H) → gs vs σ H Q
theorem gv_name {j : Nat} : GV K (gName j) d [j] τ (τ.set j (.val d)) δ where
  ln := List.length_set
  ot := fun k hk => List.getElem?_set_ne fun z => hk (by rw [z]; exact List.mem_cons_self ..)
  ok := fun e G H σ v s r Q q => q _ (s.setv r) List.length_set fun k hk => List.getElem?_set_ne fun z => hk (by rw [z]; exact List.mem_cons_self ..)
theorem gvs_nil : GVs K gNil [] [] τ τ δ where
  ln := rfl
  ot := fun _ _ => rfl
  ok := fun e G H σ v s r Q q => by cases r; exact ⟨rfl, q σ s rfl fun _ _ => rfl⟩
theorem gvs_cons {τ1 : List SV} (h1 : GV K g d js τ τ1 δ) (h2 : GVs K gs ds js2 τ1 τ' δ) : GVs K (gCons g gs) (d :: ds) (js ++ js2) τ τ' δ where
  ln := h2.ln.trans h1.ln
  ot := fun k hk => (h2.ot k fun z => hk (List.mem_append_right _ z)).trans (h1.ot k fun z => hk (List.mem_append_left _ z))
  ok := fun e G H σ v s r Q q => by
    cases r with
    | cons r1 r2 => exact ⟨_, _, rfl, h1.ok e G H σ _ s r1 _ fun σ1 s1 l1 o1 => h2.ok e G H σ1 _ s1 r2 _ fun σ2 s2 l2 o2 => q σ2 s2 (l2.trans l1) fun k hk => (o2 k fun z => hk (List.mem_append_right _ z)).trans (o1 k fun z => hk (List.mem_append_left _ z))⟩
theorem gv_tup {n : Nat} (h : GVs K gs ds js τ τ' δ) (hn : ds.length = n) : GV K (gTup K n gs) (.tuple ds) js τ τ' δ where
  ln := h.ln
  ot := h.ot
  ok := fun e G H σ v s r Q q => by
    cases r with
    | @tup a xs _ h1 ra => exact ⟨a, xs, rfl, Evl.ex_t s.ex h1, by rw [RA.len ra]; exact hn, h.ok e G H σ xs s ra Q q⟩

/-! ### for -/
theorem sd_forI (h : EI K wi τ δ ds δ1) (inv : Nat → List SV) (dl : Nat → Option Dr) (h0 : inv 0 = τ) (hd0 : dl 0 = δ1)
    (step : ∀ i d B', Ex B B' → ds[i]? = some d → ∃ js τ', GV K g d js (inv i) τ' (dl i) ∧ SD K e B' t (lpE K e B' E (inv (i + 1)) (dl (i + 1))) τ' (dl i)) (done : SD K e B tNext E (inv ds.length) (dl ds.length)) : SD K e B (tFor wi g t) E τ δ := fun G H σ b s =>
  h e G H σ s _ fun J G1 H1 x1 s1 jd => by
    refine ⟨fun i m σ' H' => m = ds.length - i ∧ i ≤ ds.length ∧ InvAt K e G1 (inv i) (dl i) σ' H', ⟨ds.length, by omega, Nat.zero_le _, G1, Ex.refl G1, by rw [h0, hd0]; exact s1⟩, ?_⟩
    rintro i m σ' H' ⟨rfl, hi, G2, b2, s2⟩
    by_cases hlt : i < ds.length
    · refine .inr ⟨jd.go i H' hlt (b2.trans s2.ex), _, fun σ3 H3 h3 => ⟨ds.length - (i + 1), by omega, rfl, hlt, h3⟩, fun x H3 hy => ?_⟩
      obtain ⟨js, τ', gv, sd⟩ := step i _ G1 (b.trans x1) (List.getElem?_eq_getElem hlt)
      obtain ⟨G3, x3, s3, r3, _⟩ := jd.turn (List.getElem?_eq_getElem hlt) b2 s2 hy
      exact gv.ok e G3 H3 σ' x s3 r3 _ fun σ4 s4 _ _ => sd G3 H3 σ4 (b2.trans x3) s4
    · have hie : i = ds.length := by omega
      subst hie
      exact .inl ⟨jd.stop H' (b2.trans s2.ex), done G2 H' σ' ((b.trans x1).trans b2) s2⟩

/-! ### comprehensions -/
theorem wipe_len : ∀ js : List Nat, (wipe σ js).length = σ.length
  | [] => rfl
  | j :: js => by
    show ((wipe σ js).set j none).length = _
    rw [List.length_set]
    exact wipe_len js
theorem wipe_ot : ∀ {js : List Nat} {k : Nat}, k ∉ js → (wipe σ js)[k]? = σ[k]?
  | [], _, _ => rfl
  | j :: js, k, h => by
    show ((wipe σ js).set j none)[k]? = _
    rw [List.getElem?_set_ne fun z => h (by rw [z]; exact List.mem_cons_self ..)]
    exact wipe_ot fun z => h (List.mem_cons_of_mem _ z)
theorem wipe_in : ∀ {js : List Nat} {k : Nat}, k ∈ js → k < σ.length → (wipe σ js)[k]? = some none
  | j :: js, k, h, hl => by
    show ((wipe σ js).set j none)[k]? = _
    by_cases hjk : j = k
    · subst hjk
      rw [List.getElem?_set_self (by rw [wipe_len]; exact hl)]
    · rw [List.getElem?_set_ne hjk]
      rcases List.mem_cons.mp h with h | h
      · exact absurd h.symm hjk
      · exact wipe_in h hl
theorem wipe_eq (hl : σ2.length = σ.length) (ho : ∀ k, k ∉ js → σ2[k]? = (wipe σ js)[k]?) : wipe σ2 js = wipe σ js := by
  refine List.ext_getElem? fun k => ?_
  by_cases hk : k ∈ js
  · by_cases hkl : k < σ.length
    · rw [wipe_in hk hkl, wipe_in hk (by rw [hl]; exact hkl)]
    · rw [List.getElem?_eq_none (by rw [wipe_len]; omega), List.getElem?_eq_none (by rw [wipe_len]; omega)]
  · rw [wipe_ot hk, ho k hk]
theorem Stt.back2 (s : Stt K e G H σ τ δ) (hj : ∀ j, j ∈ js → τ[j]? = some .any) (s' : Stt K e G' H' σ2 τ' δ') (ho : ∀ k, k ∉ js → σ2[k]? = σ[k]?) (hτ : ∀ k, k ∉ js → τ'[k]? = τ[k]?) : Stt K e G' H' σ τ δ' := by
  refine ⟨s'.ex, s'.gx, s'.nn, s'.fr, s.len, fun i z hz => ?_, fun i k y1 y2 p w1 w2 h1 h2 h3 h4 => ?_, s'.dr⟩
  · by_cases hij : i ∈ js
    · rw [hj i hij] at hz
      cases hz
      obtain ⟨w, h1, _⟩ := s.sl i _ (hj i hij)
      exact ⟨w, h1, .any w⟩
    · obtain ⟨w, h1, h2⟩ := s'.sl i z (by rw [hτ i hij]; exact hz)
      rw [ho i hij] at h1
      exact ⟨w, h1, h2⟩
  · have a1 : i ∉ js := fun z => by rw [hj i z] at h1; cases h1; cases w1
    have a2 : k ∉ js := fun z => by rw [hj k z] at h2; cases h2; cases w2
    exact s'.dj i k y1 y2 p w1 w2 (by rw [hτ i a1]; exact h1) (by rw [hτ k a2]; exact h2) (by rw [ho i a1]; exact h3) (by rw [ho k a2]; exact h4)
theorem Stt.wiped (s : Stt K e G H σ τ δ) (hj : ∀ j, j ∈ js → τ[j]? = some .any) : Stt K e G H (wipe σ js) τ δ := by
  refine ⟨s.ex, s.gx, s.nn, s.fr, by rw [wipe_len]; exact s.len, fun i z hz => ?_, fun i k y1 y2 p w1 w2 h1 h2 h3 h4 => ?_, s.dr⟩
  · by_cases hij : i ∈ js
    · rw [hj i hij] at hz
      cases hz
      obtain ⟨w, h1, _⟩ := s.sl i _ (hj i hij)
      exact ⟨none, wipe_in hij (List.getElem?_eq_some_iff.mp h1).1, .any _⟩
    · rw [wipe_ot hij]
      exact s.sl i z hz
  · have a1 : i ∉ js := fun z => by rw [hj i z] at h1; cases h1; cases w1
    have a2 : k ∉ js := fun z => by rw [hj k z] at h2; cases h2; cases w2
    rw [wipe_ot a1] at h3
    rw [wipe_ot a2] at h4
    exact s.dj i k y1 y2 p w1 w2 h1 h2 h3 h4
theorem ef_lcI (h : EI K wi τ δ ds δ1) (hj : ∀ j, j ∈ js → τ[j]? = some .any) (acc : Nat → List PyData) (dl : Nat → Option Dr) (f : Nat → Bool) (h0 : acc 0 = []) (hd0 : dl 0 = δ1) (hl : ∀ i, i ≤ ds.length → (acc i).length ≤ 100000)
    (turn : ∀ i d, ds[i]? = some d → ∃ js' τ', (∀ k, k ∈ js' → k ∈ js) ∧ GV K g d js' τ τ' (dl i) ∧ EvT K tt τ' (dl i) (f i) (dl i) ∧ (f i = true → ∃ y, acc (i + 1) = acc i ++ [y] ∧ Ev K te τ' (dl i) y (dl (i + 1))))
    (hf : ∀ i, f i = false → acc (i + 1) = acc i ∧ dl (i + 1) = dl i) :
    EvF K (tLc wi g tt te js) τ δ (acc ds.length) (dl ds.length) := fun e G H σ s Q q => h e G H σ s _ fun J G1 H1 x1 s1 jd => by
  intro D' hD
  refine ⟨fun i m H' => m = ds.length - i ∧ i ≤ ds.length ∧ LcP K e G1 σ τ D' acc dl i H', ⟨ds.length, by omega, Nat.zero_le _, lc_start s1 hd0 h0 hD⟩, ?_⟩
  rintro i m H' ⟨rfl, hi, G2, vs, b2, s2, g2, n2, dn2, no2, hp2, rv2⟩
  by_cases hlt : i < ds.length
  · refine .inr ⟨jd.go i H' hlt (b2.trans s2.ex), _, fun H3 h3 => ⟨ds.length - (i + 1), by omega, rfl, hlt, h3⟩, fun x H3 hy => ?_⟩
    obtain ⟨js', τ', hsub, gv, ht, he⟩ := turn i _ (List.getElem?_eq_getElem hlt)
    obtain ⟨G3, x3, s3, r3, k3⟩ := jd.turn (List.getElem?_eq_getElem hlt) b2 s2 hy
    obtain ⟨g3, hp3⟩ := k3 _ _ g2 hp2
    have sp := (s3.plus g3 hp3 n2 dn2 no2).wiped hj
    refine gv.ok _ G3 H3 _ x sp r3 _ fun σ4 s4 l4 o4 => ⟨wipe_eq (by rw [l4, wipe_len]) fun k hk => o4 k fun z => hk (hsub k z), ?_⟩
    refine ht _ G3 H3 _ s4 _ fun G5 H5 x5 s5 => ?_
    have bk : ∀ {G6 H6 : Hp} {δ6 : Option Dr}, Stt K (e.plus D' (.lst vs)) G6 H6 σ4 τ' δ6 → Stt K e G6 H6 σ τ δ6 ∧ G6 D' = none ∧ H6 D' = some (.lst vs) ∧ DrNot δ6 D' := fun {G6 H6 δ6} s6 => by
      obtain ⟨q1, q2, q3, q4, _⟩ := s6.minus n2 s2.nn
      exact ⟨Stt.back2 s2 hj q1 (fun k hk => by rw [o4 k fun z => hk (hsub k z), wipe_ot hk]) (fun k hk => gv.ot k fun z => hk (hsub k z)), q2, q3, q4⟩
    cases hfi : f i with
    | true =>
      obtain ⟨y, ay, hy2⟩ := he hfi
      refine iteT (hy2 _ G5 H5 _ s5 _ fun v G6 H6 x6 s6 r6 => ?_)
      obtain ⟨q1, q2, q3, q4⟩ := bk s6
      refine ⟨vs, q3, by rw [RA.len rv2]; exact Nat.lt_of_le_of_lt (hl i hi) (by decide), G6, vs ++ [v], ((b2.trans x3).trans x5).trans x6, q1.updO q2 n2 q4 no2, q2, n2, q4, no2, upd_same, ?_⟩
      rw [ay]
      exact RA.app (RA.mono ((x3.trans x5).trans x6) _ _ rv2) (.cons r6 .nil)
    | false =>
      obtain ⟨q1, q2, q3, q4⟩ := bk s5
      obtain ⟨a1, a2⟩ := hf i hfi
      refine iteF ⟨G5, vs, (b2.trans x3).trans x5, by rw [a2]; exact q1, q2, n2, by rw [a2]; exact q4, no2, q3, ?_⟩
      rw [a1]
      exact RA.mono (x3.trans x5) _ _ rv2
  · have hie : i = ds.length := by omega
    subst hie
    exact .inl ⟨jd.stop H' (b2.trans s2.ex), q D' vs G2 H' (x1.trans b2) s2 g2 n2 dn2 no2 hp2 rv2⟩
/-- the pure one, over a typed list -/
theorem ef_lcIp {α : Type} (xs : List α) (en : α → D) (f : α → Bool) (v : α → D) (h : EI K wi τ δ (xs.map en) δ1) (hj : ∀ j, j ∈ js → τ[j]? = some .any) (hn : xs.length ≤ 100000)
    (turn : ∀ x ∈ xs, ∃ js' τ', (∀ k, k ∈ js' → k ∈ js) ∧ GV K g (en x) js' τ τ' δ1 ∧ EvT K tt τ' δ1 (f x) δ1 ∧ (f x = true → Ev K te τ' δ1 (v x) δ1)) :
    EvF K (tLc wi g tt te js) τ δ ((xs.filter f).map v) δ1 := by
  have key := ef_lcI (tt := tt) (te := te) (g := g) (js := js) h hj (accF xs f v) (fun _ => δ1) (atF xs f) rfl rfl (fun i _ => Nat.le_trans (accF_len xs f v i) hn) (fun i d hd => ?_) (fun i hi => ⟨accF_no fun x hx => ?_, rfl⟩)
  · rw [List.length_map, accF_all] at key
    exact key
  · rw [List.getElem?_map] at hd
    obtain ⟨x, hx, rfl⟩ := Option.map_eq_some_iff.mp hd
    obtain ⟨js', τ', h1, h2, h3, h4⟩ := turn x (List.mem_of_getElem? hx)
    have ha : atF xs f i = f x := by unfold atF; rw [hx]
    rw [ha]
    exact ⟨js', τ', h1, h2, h3, fun hfx => ⟨_, accF_yes hx hfx, h4 hfx⟩⟩
  · unfold atF at hi
    rw [hx] at hi
    exact hi
theorem ei_cast (h : EI K wi τ δ ds δ1) (q : ds = es) : EI K wi τ δ es δ1 := q ▸ h
theorem enD_map {α : Type} (xs : List α) (en : α → D) : enD (xs.map en) = (xs.zipIdx).map fun p => .tuple [.int (p.2 : Nat), en p.1] := by
  refine List.ext_getElem? fun i => ?_
  unfold enD
  rw [List.getElem?_mapIdx, List.getElem?_map, List.getElem?_map, List.getElem?_zipIdx]
  cases xs[i]? with
  | none => rfl
  | some x => simp
theorem zpD_map {α β : Type} (xs : List α) (ys : List β) (en : α → D) (em : β → D) : zpD (xs.map en) (ys.map em) = (xs.zip ys).map fun p => .tuple [en p.1, em p.2] := by
  unfold zpD
  rw [List.zipWith_map, List.zip, List.map_zipWith]
theorem rngD_map (n : Nat) : rngD 0 n = (List.range n).map fun i => .int (i : Nat) := by
  unfold rngD
  exact List.map_congr_left fun i _ => by rw [Int.zero_add]
end
end DL
namespace DL
open PySem PySem.Spec PyProof.Rows L2
section
variable {X : Cx} {K : PySem.W.Frag} {e e2 : Expr} {ta : TA} {p pos tpos : Pos} {elts : List Expr} {kk : Nat}
theorem pi_enumK (h : X.K = K) (hg : Gl X "enumerate") (hm : X.mg "enumerate" = none) (ha : PA X [e] ta) (hs : starEach [e] X.env = [(false, eval e X.env)] := by rfl) :
    PI X (.Tuple elts kk tpos) (.Call (.Name "enumerate" p) [e] [] pos) (iEnum K ta) := h ▸ pi_enum hg hm ha hs
theorem pi_zipAK (h : X.K = K) (hg : Gl X "zip") (hm : X.mg "zip" = none) (ha : PA X [e, e2] ta) (hs : starEach [e, e2] X.env = (false, eval e X.env) :: starEach [e2] X.env := by rfl) (hs2 : ((backTo pos (starEach [e2] X.env)).any fun x => x.1) = false := by rfl) :
    PI X (.Tuple elts kk tpos) (.Call (.Name "zip" p) [e, e2] [] pos) (RZ.iZipA K ta) := h ▸ RZ.pi_zipA hg hm ha hs hs2
end
end DL
namespace DL
open PySem PySem.Spec PyProof.Rows L2
open Evl (Ex)
section
variable {K : PySem.W.Frag} {e : En} {G G' H H' B : Hp} {σ σ2 : L2.St} {τ τ' : List SV} {δ δ' δ1 δ2 : Option Dr} {te ta tb tl : TE} {tt : TT} {t u : TS} {d d1 d2 : D} {ds es : List D} {E : Ends} {Q : VK} {wi : TI} {g : TG}
/-- a turn's ends, with a fact that holds from turn to turn -/
abbrev lpP (K : PySem.W.Frag) (e : En) (B : Hp) (E : Ends) (p : Prop) (τ : List SV) (δ : Option Dr) : Ends := { E with nx := fun σ H => p ∧ InvAt K e B τ δ σ H, ct := fun σ H => p ∧ InvAt K e B τ δ σ H, bk := E.nx }
theorem sd_invP {p : Prop} (hp : p) : SD K e B tNext (lpP K e B E p τ δ) τ δ := fun G H σ b s => ⟨hp, G, b, s⟩
theorem sd_forIP (h : EI K wi τ δ ds δ1) (p : Nat → Prop) (inv : Nat → List SV) (dl : Nat → Option Dr) (p0 : p 0) (h0 : inv 0 = τ) (hd0 : dl 0 = δ1)
    (step : ∀ i d B', Ex B B' → ds[i]? = some d → p i → ∃ js τ', GV K g d js (inv i) τ' (dl i) ∧ SD K e B' t (lpP K e B' E (p (i + 1)) (inv (i + 1)) (dl (i + 1))) τ' (dl i)) (done : p ds.length → SD K e B tNext E (inv ds.length) (dl ds.length)) : SD K e B (tFor wi g t) E τ δ := fun G H σ b s =>
  h e G H σ s _ fun J G1 H1 x1 s1 jd => by
    refine ⟨fun i m σ' H' => m = ds.length - i ∧ i ≤ ds.length ∧ p i ∧ InvAt K e G1 (inv i) (dl i) σ' H', ⟨ds.length, by omega, Nat.zero_le _, p0, G1, Ex.refl G1, by rw [h0, hd0]; exact s1⟩, ?_⟩
    rintro i m σ' H' ⟨rfl, hi, hp, G2, b2, s2⟩
    by_cases hlt : i < ds.length
    · refine .inr ⟨jd.go i H' hlt (b2.trans s2.ex), _, fun σ3 H3 h3 => ⟨ds.length - (i + 1), by omega, rfl, hlt, h3⟩, fun x H3 hy => ?_⟩
      obtain ⟨js, τ', gv, sd⟩ := step i _ G1 (b.trans x1) (List.getElem?_eq_getElem hlt) hp
      obtain ⟨G3, x3, s3, r3, _⟩ := jd.turn (List.getElem?_eq_getElem hlt) b2 s2 hy
      exact gv.ok e G3 H3 σ' x s3 r3 _ fun σ4 s4 _ _ => sd G3 H3 σ4 (b2.trans x3) s4
    · have hie : i = ds.length := by omega
      subst hie
      exact .inl ⟨jd.stop H' (b2.trans s2.ex), done hp G2 H' σ' ((b.trans x1).trans b2) s2⟩
end
end DL
namespace DL
open PySem PySem.Spec PyProof.Rows L2
open Evl (Ex)
section
variable {K : PySem.W.Frag} {e : En} {G G' H H' B : Hp} {σ σ2 : L2.St} {τ τ' : List SV} {δ δ' δ1 δ2 : Option Dr} {te tk : TE} {d d1 d2 : D} {ds es : List D} {E : Ends} {X : Cx}
/-! ### an item of a list stored -/
theorem RA.setAt {v : V} (r : R K G v d) : ∀ {xs : List V} {ds : List D} (m : Nat), RA K G xs ds → RA K G (xs.set m v) (ds.set m d)
  | _, _, _, .nil => .nil
  | _, _, 0, .cons _ t => .cons r t
  | _, _, m + 1, .cons h t => .cons h (RA.setAt r m t)
theorem sd_storeL {i : Nat} {j : Int} {m : Nat} (hv : Ev K te τ δ d δ1) (hi : τ[i]? = some (.own ds)) (hk : Ev K tk τ δ1 (.int j) δ2) (hm : ixN ds.length j = some m) (k : SD K e B tNext E (τ.set i (.own (ds.set m d))) δ2) : SD K e B (tAsg te (gSub (tVar i) tk rSetL)) E τ δ := fun G H σ b s =>
  hv e G H σ s _ fun v G1 H1 x1 s1 r1 => by
    obtain ⟨p, vs, h1, h2, _⟩ := own_at s1 hi
    refine ⟨.ref p, h1, hk e G1 H1 σ s1 _ fun w G2 H2 x2 s2 r2 => ?_⟩
    obtain ⟨p', vs1, h1', h2', ra⟩ := own_at s2 hi
    rw [h1] at h1'
    cases h1'
    cases r2
    exact ⟨p, vs1, j, m, rfl, rfl, h2', by rw [RA.len ra]; exact hm, k G2 _ σ ((b.trans x1).trans x2) (s2.updOwn hi h1 (RA.setAt (R.mono x2 _ _ r1) m ra))⟩
/-! ### a thing is in a list of things -/
theorem rd_inDeep (h1 : SeqAt.shaped d = true) (h2 : SeqAt.shaped (.list ds) = true) : RD K (L2.rInD K) d (.list ds) (.bool (ds.any fun z => PyData.eqv z d)) := fun e G H σ τ δ v w s r1 r2 Q q =>
  ⟨d, ds, R.dp _ _ (R.mono s.ex _ _ r1), R.dp _ _ (R.mono s.ex _ _ r2), h1, h2, q _ G H (Ex.refl G) s (.bl _)⟩
theorem rd_notInDeep (h1 : SeqAt.shaped d = true) (h2 : SeqAt.shaped (.list ds) = true) : RD K (L2.rNotInD K) d (.list ds) (.bool (!ds.any fun z => PyData.eqv z d)) := fun e G H σ τ δ v w s r1 r2 Q q =>
  ⟨d, ds, R.dp _ _ (R.mono s.ex _ _ r1), R.dp _ _ (R.mono s.ex _ _ r2), h1, h2, q _ G H (Ex.refl G) s (.bl _)⟩
theorem op_inDeepK (hu : X.A.units + 65 < cLine) (h : X.K = K) : OpR X (compareOp .In) (L2.rInD K) := h ▸ L2.op_inD hu
theorem op_notInDeepK (hu : X.A.units + 65 < cLine) (h : X.K = K) : OpR X (compareOp .NotIn) (L2.rNotInD K) := h ▸ L2.op_notInD hu
end
end DL
namespace DL
theorem ru65 {k : Nat} {A : PySem.Around} (r : L2.Room k A) : A.units + 65 < PySem.cLine := by have := r.un; omega
theorem ei_rngN {K : PySem.W.Frag} {t : L2.TA} {τ : List SV} {δ δ1 : Option Dr} {n : Nat} (h : EvA K t τ δ [.int (n : Int)] δ1) (hn : n ≤ 1000000) : EI K (L2.iRng1 t) τ δ ((List.range n).map fun i => .int (i : Nat)) δ1 := ei_cast (ei_rng h hn) (rngD_map n)
end DL
/-! Texts taken apart: list(s), [*s, x]; tuples joined; max of two. -/
namespace DR
open PySem PySem.Spec PyProof.Rows L2
open DL (sgns)
theorem vals_signs {x : Str} {acc : Array Value} (h : ItemsOf (SignAt x) acc x.cps.size) : Vals ((sgns x).map V.str) acc.toList := by
  obtain ⟨hs, hv⟩ := h
  have hl : ((sgns x).map V.str).length = acc.toList.length := by
    unfold sgns
    simp [hs]
  refine paired_of hl fun i a b ha hb => ?_
  rw [Array.getElem?_toList] at hb
  obtain ⟨c, u, hc, rfl⟩ := hv i b hb
  unfold sgns at ha
  rw [List.getElem?_map, List.getElem?_map, Array.getElem?_toList, hc] at ha
  cases ha
  exact ⟨_, rfl⟩
section
variable {X : Cx}
abbrev rListS : List V → Hp → VK → Prop := fun xs H Q => ∃ z : Str, xs = [.str z] ∧ z.length ≤ 1000 ∧ ∀ l, H l = none → Q (.ref l) (upd H l (.lst ((sgns z).map V.str)))
theorem call_listS (hc : X.calm = true) : CallR X (.type "list") rListS := by
  intro pins s σ H xs us Q I r ⟨z, hx, hz, q⟩
  subst hx
  obtain ⟨u, rfl, t, rfl⟩ := vals1 r
  refine call_list_str (I.ok.hd hc) z t (fun h' tk acc' c' kp e hi => ?_) (Nat.le_trans hz (by decide))
  have hv := vals_signs hi
  have hlen := hv.length
  refine ⟨.ref s.heap.objs.size, _, I.laid (t' := tk) kp (Nat.le_refl _) (show ObjOk X.prog X.w _ h' _ (.lst ((sgns z).map V.str)) from ⟨?_, acc'.toList, c', hv, by rw [e]⟩), rfl, q _ (I.hok.fresh (Nat.le_refl _))⟩
  rw [List.length_map]
  unfold sgns
  rw [List.length_map]
  rw [Array.length_toList]
  exact Nat.le_trans hz (by decide)
/-- [*s, ..], s a text -/
def tStarS (te : TE) (t : TA) : TA := fun σ H Q => te σ H fun x H1 => ∃ z : Str, x = V.str z ∧ z.length ≤ 1000 ∧ t σ H1 fun ys H2 => Q ((sgns z).map V.str ++ ys) H2
theorem pa_starS {e : Expr} {es : List Expr} {te : TE} {t : TA} {p : Pos} (hc : X.calm = true) (he : PE X e te) (hr : PA X es t) (hs : starEach (.Starred e p :: es) X.env = (true, eval e X.env) :: starEach es X.env := by rfl) : PA X (.Starred e p :: es) (tStarS te t) := by
  refine ⟨fun pos pins s σ H Q I h => ?_⟩
  refine PySem.W.items_star (thn (he.run pins s σ H _ I h) fun v s1 ⟨y, H1, I1, ry, z, ey, hz, q⟩ => ?_) hs
  subst ey
  obtain ⟨t0, rfl⟩ := ry
  have zc : wpAny (model X.prog X.w) X.A (collect (.str z t0)) (fun here s₂ => wpAny (model X.prog X.w) X.A (spliced (backTo pos (starEach es X.env))) (fun vs s₃ => AP X pins σ Q (here ++ vs) s₃) X.xe s₂) X.xe s1 := by
    refine wpAny_collect_str (I1.ok.hd hc) z t0 (fun s' acc kp hg hd ho hi => ?_) (Nat.le_trans hz (by decide))
    have e1 : s' = { s1 with heap := s'.heap, toks := s'.toks } := by
      cases s'; cases s1
      simp only at hg hd ho
      subst hg hd ho
      rfl
    rw [e1]
    exact thn (hr.run pos pins _ σ H1 _ (I1.kept (t' := s'.toks) kp) q) fun ws s3 ⟨vs, H3, I3, r3, q3⟩ => ⟨(sgns z).map V.str ++ vs, H3, I3, (vals_signs hi).append r3, q3⟩
  unfold PySem.W.StarOf notIterableAtAll
  exact wpAny_bind (wpAny_specialOf rfl PySem.F.slot_str_iter.lookup (wpAny_pure ⟨rfl, zc⟩))
end
end DR
namespace DL
open PySem PySem.Spec PyProof.Rows L2
open Evl (Ex)
section
variable {K : PySem.W.Frag} {e : En} {G G' H H' B : Hp} {σ : L2.St} {τ τ' : List SV} {δ δ' δ1 δ2 : Option Dr} {te ta tb : TE} {t u : TS} {d d1 d2 : D} {ds es : List D}
theorem rc_listS {z : Str} (h : z.length ≤ 1000) : RCD K DR.rListS [.str z] (.list ((sgns z).map .str)) := fun e G H σ τ δ vs s r Q q => by
  cases r with
  | cons r1 r2 =>
    cases r2; cases r1
    refine ⟨z, rfl, h, fun p hp => ?_⟩
    have x := Ex.new (o := .lst ((sgns z).map V.str)) (gnone s.ex hp)
    exact q _ _ _ x (s.new hp) (.lst upd_same (RA.ofStrs _))
theorem ea_starS {tr : TA} {z : Str} (h : Ev K ta τ δ (.str z) δ1) (hz : z.length ≤ 1000) (hr : EvA K tr τ δ1 ds δ2) : EvA K (DR.tStarS ta tr) τ δ ((sgns z).map .str ++ ds) δ2 := fun e G H σ s Q q =>
  h e G H σ s _ fun v G1 H1 x1 s1 r1 => by
    cases r1
    exact ⟨z, rfl, hz, hr e G1 H1 σ s1 _ fun vs G2 H2 x2 s2 r2 => q _ G2 H2 (x1.trans x2) s2 (RA.app (RA.ofStrs _) r2)⟩
theorem rd_catT (h1 : ds ≠ []) (hl : ds.length + es.length ≤ 100000) : RD K (rCatT K) (.tuple ds) (.tuple es) (.tuple (ds ++ es)) := fun e G H σ τ δ v w s r1 r2 Q q => by
  cases r1 with
  | @tup a xs _ hx ra =>
    cases r2 with
    | @tup b ys _ hy rb =>
      refine ⟨a, b, xs, ys, rfl, rfl, Evl.ex_t s.ex hx, Evl.ex_t s.ex hy, fun z => ?_, by rw [RA.len ra, RA.len rb]; exact Evl.sz_of hl, fun z => ?_, fun z p hp => ?_⟩
      · subst z
        cases ra
        exact h1 rfl
      · subst z
        cases rb
        exact q _ G H (Ex.refl G) s (by rw [List.append_nil]; exact .tup hx ra)
      · have x := Ex.new (o := .tup (xs ++ ys)) (gnone s.ex hp)
        exact q _ _ _ x (s.new hp) (.tup (.inl (.inl upd_same)) (RA.app (RA.mono x _ _ ra) (RA.mono x _ _ rb)))
theorem rc_max2 {i j : Int} : RCD K (fun xs H Q => ∃ i j, xs = [.int i, .int j] ∧ Q (.int (if j > i then j else i)) H) [.int i, .int j] (.int (if j > i then j else i)) := fun e G H σ τ δ vs s r Q q => by
  cases r with
  | cons r1 r2 =>
    cases r1
    cases r2 with
    | cons r3 r4 =>
      cases r3; cases r4
      exact ⟨i, j, rfl, q _ G H (Ex.refl G) s (.int _)⟩
end
section
variable {X : Cx} {K : PySem.W.Frag}
theorem op_catTK (h : X.K = K) : OpR X (binaryOp .Add) (rCatT K) := h ▸ op_catT
end
end DL
/-! Things put together in lists that a dict holds: d.setdefault(k, []).append(x), list(d.values()). -/
namespace DL
open PySem PySem.Spec PyProof.Rows L2
open Evl (Ex)
/-! ### several protected objects -/
abbrev RL := List (Addr × HO)
def plusL (e : En) : RL → En
  | [] => e
  | a :: l => (plusL e l).plus a.1 a.2
theorem plusL_N {e : En} {b : Addr} : ∀ {l : RL}, (plusL e l).N b ↔ e.N b ∨ b ∈ l.map (·.1)
  | [] => by simp [plusL]
  | a :: l => by
    show ((plusL e l).N b ∨ b = a.1) ↔ _
    rw [plusL_N (l := l), List.map_cons, List.mem_cons]
    constructor
    · rintro ((h | h) | h)
      · exact .inl h
      · exact .inr (.inr h)
      · exact .inr (.inl h)
    · rintro (h | h | h)
      · exact .inl (.inl h)
      · exact .inr h
      · exact .inl (.inr h)
theorem plusL_nn {e : En} (h : ∀ a, e.N a → e.H0 a ≠ none) : ∀ (l : RL) a, (plusL e l).N a → (plusL e l).H0 a ≠ none
  | [], a, ha => h a ha
  | x :: l, a, ha => by
    show (if a = x.1 then some x.2 else (plusL e l).H0 a) ≠ none
    split
    · exact fun z => by cases z
    · rename_i hne
      exact plusL_nn h l a (ha.resolve_right hne)
theorem plusL_G0 {e : En} : ∀ l : RL, (plusL e l).G0 = e.G0
  | [] => rfl
  | _ :: l => plusL_G0 l
structure VL (e : En) (l : RL) : Prop where
  nd : (l.map (·.1)).Nodup
  nn : ∀ a ∈ l, ¬ e.N a.1
theorem VL.tail {e : En} {a : Addr × HO} {l : RL} (h : VL e (a :: l)) : VL e l := ⟨(List.nodup_cons.mp h.nd).2, fun b hb => h.nn b (List.mem_cons_of_mem _ hb)⟩
theorem VL.head {e : En} {a : Addr × HO} {l : RL} (h : VL e (a :: l)) : ¬ (plusL e l).N a.1 := fun z => by
  rcases plusL_N.mp z with z | z
  · exact h.nn a (List.mem_cons_self ..) z
  · exact (List.nodup_cons.mp h.nd).1 z
section
variable {K : PySem.W.Frag} {e : En} {G G' H H' B : Hp} {σ : L2.St} {τ τ' τ1 : List SV} {δ δ' δ1 δ2 : Option Dr} {te ta tb tk : TE} {t u : TS} {d d1 d2 key el : D} {ds : List D} {E : Ends} {P : Program} {w : World} {p : Addr} {wi : TI} {g : TG}
structure AtL (G H : Hp) (σ : L2.St) (τ : List SV) (δ : Option Dr) (a : Addr × HO) : Prop where
  g : G a.1 = none
  h : H a.1 = some a.2
  dn : DrNot δ a.1
  no : NoOw τ σ a.1
theorem Stt.minusL (nn : ∀ a, e.N a → e.H0 a ≠ none) : ∀ {l : RL}, VL e l → Stt K (plusL e l) G H σ τ δ → Stt K e G H σ τ δ ∧ ∀ a ∈ l, AtL G H σ τ δ a
  | [], _, s => ⟨s, fun a ha => by cases ha⟩
  | a :: l, v, s => by
    obtain ⟨s1, g, h, dn, no⟩ := s.minus v.head (plusL_nn nn l)
    obtain ⟨s2, al⟩ := Stt.minusL nn v.tail s1
    refine ⟨s2, fun b hb => ?_⟩
    rcases List.mem_cons.mp hb with rfl | hb
    · exact ⟨g, h, dn, no⟩
    · exact al b hb
theorem Stt.plusL (s : Stt K e G H σ τ δ) : ∀ {l : RL}, VL e l → (∀ a ∈ l, AtL G H σ τ δ a) → Stt K (plusL e l) G H σ τ δ
  | [], _, _ => s
  | a :: l, v, h => by
    have ha := h a (List.mem_cons_self ..)
    exact (Stt.plusL s v.tail fun b hb => h b (List.mem_cons_of_mem _ hb)).plus ha.g ha.h v.head ha.dn ha.no
theorem Stt.nn0 : ∀ {l : RL}, Stt K (DL.plusL e l) G H σ τ δ → VL e l → ∀ a, e.N a → e.H0 a ≠ none
  | [], s, _ => s.nn
  | b :: l, s, v => fun a ha => by
    have h1 : (DL.plusL e (b :: l)).N a := plusL_N.mpr (.inl ha)
    have h2 := s.nn a h1
    have : ∀ {l : RL}, VL e l → (DL.plusL e l).H0 a = e.H0 a := by
      intro l
      induction l with
      | nil => intro _; rfl
      | cons c l ih =>
        intro v
        show (if a = c.1 then some c.2 else (DL.plusL e l).H0 a) = _
        rw [if_neg (fun z => v.nn c (List.mem_cons_self ..) (by rw [← z]; exact ha)), ih v.tail]
    rw [this v] at h2
    exact h2

/-! ### a dict of lists -/
structure GEnt where
  key : D
  ka : Addr
  q : Addr
  vs : List V
  ds : List D
def GEnt.ent (x : GEnt) : DR.Ent := (toK x.key, x.ka, .ref x.q)
structure GOk (K : PySem.W.Frag) (G : Hp) (x : GEnt) : Prop where
  r : R K G (.ref x.ka) x.key
  kt : KT x.key
  ra : RA K G x.vs x.ds
theorem GOk.mono {x : GEnt} (h : GOk K G x) (e : Ex G G') : GOk K G' x := ⟨R.mono e _ _ h.r, h.kt, RA.mono e _ _ h.ra⟩
abbrev Grp := List (D × List D)
def gsOf (xs : List GEnt) : Grp := xs.map fun x => (x.key, x.ds)
def resL (P : Program) (w : World) (p : Addr) (xs : List GEnt) : RL := (p, DR.DO P w p (xs.map GEnt.ent)) :: xs.map fun x => (x.q, .lst x.vs)
theorem resL_addr (P : Program) (w : World) (p : Addr) (xs : List GEnt) : (resL P w p xs).map (·.1) = p :: xs.map (·.q) := by
  unfold resL
  rw [List.map_cons, List.map_map]
  rfl
theorem go_keysOk {xs : List GEnt} (h : ∀ x ∈ xs, GOk K G x) (x : Ex G H) : DR.KeysOk K H (xs.map GEnt.ent) := fun e he => by
  obtain ⟨y, hy, rfl⟩ := List.mem_map.mp he
  exact ⟨(h y hy).kt.1.nk (R.mono x _ _ (h y hy).r), (h y hy).kt.1.depth⟩
structure VG (e : En) (P : Program) (w : World) (p : Addr) (xs : List GEnt) : Prop where
  v : VL e (resL P w p xs)
  kn : (xs.map fun x => toK x.key).Nodup
def SDG (K : PySem.W.Frag) (P : Program) (w : World) (e : En) (B : Hp) (t : TS) (E : Ends) (τ : List SV) (δ : Option Dr) (p : Addr) (gs : Grp) : Prop :=
  ∀ G H σ (xs : List GEnt), Ex B G → gsOf xs = gs → (∀ x ∈ xs, GOk K G x) → VG e P w p xs → Stt K (plusL e (resL P w p xs)) G H σ τ δ → t E σ H
variable {gs : Grp}
theorem sdg_seq (h : SDG K P w e B t { E with nx := u E } τ δ p gs) : SDG K P w e B (tSeq t u) E τ δ p gs := h
theorem sdg_next (h : SDG K P w e B u E τ δ p gs) : SDG K P w e B tNext { E with nx := u E } τ δ p gs := h
theorem sdg_nm (τ' : List SV) (h : τ = τ') (k : SDG K P w e B t E τ' δ p gs) : SDG K P w e B t E τ δ p gs := h ▸ k
theorem sdg_any (i : Nat) (k : SDG K P w e B t E (τ.set i .any) δ p gs) : SDG K P w e B t E τ δ p gs := fun G H σ xs b hg hx v s => k G H σ xs b hg hx v s.anyAt
theorem sdg_nxt (τ' : List SV) (h : τ = τ') (k : SDG K P w e B u E τ' δ p gs) : SDG K P w e B tNext { E with nx := u E } τ δ p gs := h ▸ k
theorem sdg_pre (h : ∀ (e' : En) (B' : Hp) (E' : Ends), SD K e' B' tNext E' τ1 δ1 → SD K e' B' t E' τ δ) (k : SDG K P w e B tNext E τ1 δ1 p gs) : SDG K P w e B t E τ δ p gs := fun G H σ xs b hg hx v s =>
  h (plusL e (resL P w p xs)) G E (fun G1 H1 σ1 b1 s1 => k G1 H1 σ1 xs (b.trans b1) hg (fun x hm => (hx x hm).mono b1) v s1) G H σ (Ex.refl G) s
/-- d = {} -/
theorem sdg_new {i : Nat} (k : ∀ p, SDG K P w e B tNext E (τ.set i (.raw (.ref p))) δ p []) : SD K e B (tAsg (DR.tDisp0 P w) (gName i)) E τ δ := fun G H σ b s p hp => by
  have s1 := s.newH (o := DR.DO P w p []) hp
  have v : VL e (resL P w p []) := ⟨List.nodup_cons.mpr ⟨by simp, List.nodup_nil⟩, fun a ha => by rw [List.mem_singleton.mp ha]; exact s.notN hp⟩
  have s2 := Stt.setw (i := i) (y0 := .raw (.ref p)) s1 (.raw _) fun j y _ => s.notOwn hp j y
  refine k p G _ _ [] b rfl (fun x hx => by cases hx) ⟨v, List.nodup_nil⟩ (s2.plusL v fun a ha => ?_)
  obtain rfl : a = (p, DR.DO P w p []) := List.mem_singleton.mp ha
  refine ⟨gnone s.ex hp, upd_same, s.dr.not hp, fun j y hy z1 z2 => ?_⟩
  by_cases hij : i = j
  · subst hij
    have hl : i < τ.length := by
      have := (List.getElem?_eq_some_iff.mp z1).1
      rw [List.length_set] at this
      exact this
    rw [List.getElem?_set_self hl] at z1
    cases z1
    cases hy
  · rw [List.getElem?_set_ne hij] at z1 z2
    exact s.notOwn hp j y hy z1 z2

/-! ### the loop -/
def InvG (K : PySem.W.Frag) (P : Program) (w : World) (e : En) (B : Hp) (τ : List SV) (δ : Option Dr) (p : Addr) (gs : Grp) : L2.St → Hp → Prop := fun σ H => ∃ G xs, Ex B G ∧ gsOf xs = gs ∧ (∀ x ∈ xs, GOk K G x) ∧ VG e P w p xs ∧ Stt K (plusL e (resL P w p xs)) G H σ τ δ
theorem sdg_inv : SDG K P w e B tNext { E with nx := InvG K P w e B τ δ p gs } τ δ p gs := fun G H σ xs b hg hx v s => ⟨G, xs, b, hg, hx, v, s⟩
abbrev lpG (K : PySem.W.Frag) (P : Program) (w : World) (e : En) (B : Hp) (E : Ends) (τ : List SV) (δ : Option Dr) (p : Addr) (gs : Grp) : Ends := { E with nx := InvG K P w e B τ δ p gs, ct := InvG K P w e B τ δ p gs, bk := E.nx }
theorem sdg_forI (h : EI K wi τ δ ds δ1) (inv : Nat → List SV) (dl : Nat → Option Dr) (gf : Nat → Grp) (h0 : inv 0 = τ) (hd0 : dl 0 = δ1) (hg0 : gf 0 = gs)
    (step : ∀ i d B', Ex B B' → ds[i]? = some d → ∃ js τ', GV K g d js (inv i) τ' (dl i) ∧ SDG K P w e B' t (lpG K P w e B' E (inv (i + 1)) (dl (i + 1)) p (gf (i + 1))) τ' (dl i) p (gf i)) (done : SDG K P w e B tNext E (inv ds.length) (dl ds.length) p (gf ds.length)) : SDG K P w e B (tFor wi g t) E τ δ p gs := fun G H σ xs0 b hg hx v s =>
  h (plusL e (resL P w p xs0)) G H σ s _ fun J G1 H1 x1 s1 jd => by
    refine ⟨fun i m σ' H' => m = ds.length - i ∧ i ≤ ds.length ∧ InvG K P w e G1 (inv i) (dl i) p (gf i) σ' H', ⟨ds.length, by omega, Nat.zero_le _, G1, xs0, Ex.refl G1, by rw [hg0]; exact hg, fun x hm => (hx x hm).mono x1, v, by rw [h0, hd0]; exact s1⟩, ?_⟩
    rintro i m σ' H' ⟨rfl, hi, G2, xs, b2, hg2, hx2, v2, s2⟩
    by_cases hlt : i < ds.length
    · refine .inr ⟨jd.go i H' hlt (b2.trans s2.ex), _, fun σ3 H3 h3 => ⟨ds.length - (i + 1), by omega, rfl, hlt, h3⟩, fun x H3 hy => ?_⟩
      obtain ⟨js, τ', gv, sd⟩ := step i _ G1 (b.trans x1) (List.getElem?_eq_getElem hlt)
      obtain ⟨G3, x3, s3, r3, _⟩ := jd.turn (List.getElem?_eq_getElem hlt) b2 s2 hy
      exact gv.ok _ G3 H3 σ' x s3 r3 _ fun σ4 s4 _ _ => sd G3 H3 σ4 xs (b2.trans x3) hg2 (fun x hm => (hx2 x hm).mono x3) v2 s4
    · have hie : i = ds.length := by omega
      subst hie
      exact .inl ⟨jd.stop H' (b2.trans s2.ex), done G2 H' σ' xs ((b.trans x1).trans b2) hg2 hx2 v2 s2⟩

/-! ### d.setdefault(k, []).append(x) -/
def gIn (gs : Grp) (key : D) : Prop := toK key ∈ gs.map fun g => toK g.1
instance (gs : Grp) (key : D) : Decidable (gIn gs key) := by unfold gIn; infer_instance
def gput (gs : Grp) (key el : D) : Grp := if gIn gs key then gs.map (fun g => if toK g.1 = toK key then (g.1, g.2 ++ [el]) else g) else gs ++ [(key, [el])]
theorem gs_keys (xs : List GEnt) : (gsOf xs).map (fun g => toK g.1) = (xs.map GEnt.ent).map (·.1) := by
  unfold gsOf
  rw [List.map_map, List.map_map]
  rfl
theorem inj_of_nodup {α β : Type} {f : α → β} : ∀ {l : List α}, (l.map f).Nodup → ∀ {x y : α}, x ∈ l → y ∈ l → f x = f y → x = y
  | [], _, _, _, h, _, _ => by cases h
  | a :: l, nd, x, y, hx, hy, e => by
    rw [List.map_cons, List.nodup_cons] at nd
    rcases List.mem_cons.mp hx with hx | hx <;> rcases List.mem_cons.mp hy with hy | hy
    · rw [hx, hy]
    · exact absurd (List.mem_map.mpr ⟨y, hy, by rw [← e, hx]⟩) nd.1
    · exact absurd (List.mem_map.mpr ⟨x, hx, by rw [e, hy]⟩) nd.1
    · exact inj_of_nodup nd.2 hx hy e
def growE (k : NestedKey) (z : V) (el : D) (y : GEnt) : GEnt := if toK y.key = k then ⟨y.key, y.ka, y.q, y.vs ++ [z], y.ds ++ [el]⟩ else y
theorem growE_q {k : NestedKey} {z : V} {el : D} (y : GEnt) : (growE k z el y).q = y.q := by unfold growE; split <;> rfl
theorem growE_key {k : NestedKey} {z : V} {el : D} (y : GEnt) : (growE k z el y).key = y.key := by unfold growE; split <;> rfl
theorem growE_ent {k : NestedKey} {z : V} {el : D} (y : GEnt) : (growE k z el y).ent = y.ent := by unfold growE GEnt.ent; split <;> rfl
theorem VG.qs {xs : List GEnt} (v : VG e P w p xs) : (∀ x ∈ xs, x.q ≠ p) ∧ (xs.map (·.q)).Nodup := by
  have := v.v.nd
  rw [resL_addr, List.nodup_cons] at this
  exact ⟨fun x hx z => this.1 (by rw [← z]; exact List.mem_map.mpr ⟨x, hx, rfl⟩), this.2⟩
theorem VG.nN {xs : List GEnt} (v : VG e P w p xs) : ¬ e.N p ∧ ∀ x ∈ xs, ¬ e.N x.q := ⟨v.v.nn _ (List.mem_cons_self ..), fun x hx => v.v.nn (x.q, .lst x.vs) (List.mem_cons_of_mem _ (List.mem_map.mpr ⟨x, hx, rfl⟩))⟩
theorem vg_of {xs : List GEnt} (h1 : ∀ x ∈ xs, x.q ≠ p) (h2 : (xs.map (·.q)).Nodup) (h3 : ¬ e.N p) (h4 : ∀ x ∈ xs, ¬ e.N x.q) (kn : (xs.map fun x => toK x.key).Nodup) : VG e P w p xs := by
  refine ⟨⟨?_, fun a ha => ?_⟩, kn⟩
  · rw [resL_addr, List.nodup_cons]
    refine ⟨fun z => ?_, h2⟩
    obtain ⟨x, hx, e1⟩ := List.mem_map.mp z
    exact h1 x hx e1
  · unfold resL at ha
    rcases List.mem_cons.mp ha with rfl | ha
    · exact h3
    · obtain ⟨x, hx, rfl⟩ := List.mem_map.mp ha
      exact h4 x hx
theorem at_res {xs : List GEnt} (hp : AtL G H σ τ δ (p, DR.DO P w p (xs.map GEnt.ent))) (hq : ∀ x ∈ xs, AtL G H σ τ δ (x.q, .lst x.vs)) : ∀ a ∈ resL P w p xs, AtL G H σ τ δ a := fun a ha => by
  unfold resL at ha
  rcases List.mem_cons.mp ha with rfl | ha
  · exact hp
  · obtain ⟨x, hx, rfl⟩ := List.mem_map.mp ha
    exact hq x hx
theorem res_p {xs : List GEnt} : (p, DR.DO P w p (xs.map GEnt.ent)) ∈ resL P w p xs := List.mem_cons_self ..
theorem res_q {xs : List GEnt} {x : GEnt} (hx : x ∈ xs) : (x.q, HO.lst x.vs) ∈ resL P w p xs := List.mem_cons_of_mem _ (List.mem_map.mpr ⟨x, hx, rfl⟩)
/-- an entry grows -/
theorem Stt.grow {xs : List GEnt} {x : GEnt} {z : V} (nn : ∀ a, e.N a → e.H0 a ≠ none) (v : VG e P w p xs) (hx : x ∈ xs) (go : ∀ y ∈ xs, GOk K G y) (s : Stt K (DL.plusL e (resL P w p xs)) G H σ τ δ) (r : R K G z el) :
    VG e P w p (xs.map (growE (toK x.key) z el)) ∧ (∀ y ∈ xs.map (growE (toK x.key) z el), GOk K G y) ∧ Stt K (DL.plusL e (resL P w p (xs.map (growE (toK x.key) z el)))) G (upd H x.q (.lst (x.vs ++ [z]))) σ τ δ := by
  obtain ⟨s0, al⟩ := s.minusL nn v.v
  obtain ⟨q1, q2⟩ := v.qs
  obtain ⟨n1, n2⟩ := v.nN
  have hv : VG e P w p (xs.map (growE (toK x.key) z el)) := by
    refine vg_of (fun y hy => ?_) ?_ n1 (fun y hy => ?_) ?_
    · obtain ⟨y, hy', rfl⟩ := List.mem_map.mp hy
      rw [growE_q]; exact q1 y hy'
    · rw [List.map_map, show ((fun y : GEnt => y.q) ∘ growE (toK x.key) z el) = fun y => y.q from funext growE_q]; exact q2
    · obtain ⟨y, hy', rfl⟩ := List.mem_map.mp hy
      rw [growE_q]; exact n2 y hy'
    · rw [List.map_map, show ((fun y : GEnt => toK y.key) ∘ growE (toK x.key) z el) = fun y => toK y.key from funext fun y => by show toK (growE _ _ _ y).key = _; rw [growE_key]]; exact v.kn
  have ax := al _ (res_q hx)
  refine ⟨hv, fun y hy => ?_, (s0.updO (o := .lst (x.vs ++ [z])) ax.g (n2 x hx) ax.dn ax.no).plusL hv.v (at_res ?_ fun y hy => ?_)⟩
  · obtain ⟨y, hy', rfl⟩ := List.mem_map.mp hy
    have hy0 := go y hy'
    unfold growE
    split
    · exact ⟨hy0.r, hy0.kt, RA.app hy0.ra (.cons r .nil)⟩
    · exact hy0
  · have ap := al _ (res_p (P := P) (w := w) (p := p) (xs := xs))
    rw [List.map_map, show (GEnt.ent ∘ growE (toK x.key) z el) = GEnt.ent from funext growE_ent]
    exact ⟨ap.g, by show upd H x.q _ p = _; rw [upd_ne (fun h => q1 x hx h.symm)]; exact ap.h, ap.dn, ap.no⟩
  · obtain ⟨y, hy', rfl⟩ := List.mem_map.mp hy
    have hy := hy'
    have ay := al _ (res_q hy')
    by_cases e1 : toK y.key = toK x.key
    · obtain rfl : y = x := inj_of_nodup v.kn hy' hx e1
      have e2 : growE (toK y.key) z el y = ⟨y.key, y.ka, y.q, y.vs ++ [z], y.ds ++ [el]⟩ := if_pos rfl
      rw [e2]
      exact ⟨ay.g, upd_same, ay.dn, ay.no⟩
    · have e2 : growE (toK x.key) z el y = y := if_neg e1
      rw [e2]
      refine ⟨ay.g, ?_, ay.dn, ay.no⟩
      show upd H x.q _ y.q = _
      rw [upd_ne (fun h => e1 (by rw [inj_of_nodup q2 hy' hx h]))]
      exact ay.h
theorem gs_grow {xs : List GEnt} {k : NestedKey} {z : V} : gsOf (xs.map (growE k z el)) = (gsOf xs).map fun g => if toK g.1 = k then (g.1, g.2 ++ [el]) else g := by
  unfold gsOf
  rw [List.map_map, List.map_map]
  refine List.map_congr_left fun y _ => ?_
  show ((growE k z el y).key, (growE k z el y).ds) = if toK y.key = k then (y.key, y.ds ++ [el]) else (y.key, y.ds)
  unfold growE
  split <;> rfl
theorem sdg_app {i0 : Nat} (hi : τ[i0]? = some (.raw (.ref p))) (hk : Ev K tk τ δ key δ1) (hkt : KT key) (he : Ev K te τ δ1 el δ2) (hl : gs.length < 1000000) (hl2 : ∀ g ∈ gs, g.2.length ≤ 1000000) (k : SDG K P w e B tNext E τ δ2 p (gput gs key el)) :
    SDG K P w e B (tDrop (tBM K "list" rAppend (DR.tSetD K P w (tVar i0) tk (tLst tNil)) (tCons te tNil))) E τ δ p gs := fun G H σ xs b hg hx v s => by
  have nn0 := s.nn0 v.v
  have raw0 : ∀ {e' : En} {G H : Hp} {δ : Option Dr}, Stt K e' G H σ τ δ → σ[i0]? = some (some (.ref p)) := fun s => by
    obtain ⟨o, h1, h2⟩ := s.sl i0 _ hi
    cases h2
    exact h1
  obtain ⟨s0, al0⟩ := s.minusL nn0 v.v
  refine ⟨.ref p, raw0 s, p, _, rfl, (al0 _ res_p).h, hk _ G H σ s _ fun y G1 H1 x1 s1 r1 => ?_⟩
  have hx1 : ∀ x ∈ xs, GOk K G1 x := fun x hm => (hx x hm).mono x1
  refine ⟨by show (0 : Nat) ≤ sizeLine; exact Nat.zero_le _, fun q0 hq0 => ?_⟩
  have s3 := s1.newH (o := .lst []) hq0
  obtain ⟨s4, al4⟩ := s3.minusL nn0 v.v
  have hkeys := go_keysOk hx1 s4.ex
  have r1' := R.mono s4.ex _ _ r1
  obtain ⟨kds, hkds⟩ := hkt.2
  subst hkds
  have hr1 := r1
  have hlx : xs.length < 1000000 := by
    have : (gsOf xs).length = xs.length := List.length_map ..
    rw [hg] at this
    omega
  have hd : ∀ {x : GEnt}, x ∈ xs → x.vs.length ≤ 1000000 := fun hxm => by
    rw [RA.len (hx _ hxm).ra]
    exact hl2 _ (by rw [← hg]; exact List.mem_map.mpr ⟨_, hxm, rfl⟩)
  cases r1 with
  | @tup ka ys _ hs hra =>
    refine ⟨ka, _, _, rfl, (al4 _ res_p).h, hkeys, hkt.1.nk r1', hkt.1.depth, by rw [List.length_map]; exact hlx, ?_, fun hno => ?_⟩
    · -- the key stands
      intro kb c hc
      obtain ⟨x, hxm, ex⟩ := List.mem_map.mp hc
      have ek : toK x.key = toK (.tuple kds) := congrArg (·.1) ex
      have ec : V.ref x.q = c := congrArg (fun z => z.2.2) ex
      subst ec
      refine ⟨.inl ⟨rfl, _, .inl (.inl (al4 _ (res_q hxm)).h)⟩, he _ G1 _ σ s3 _ fun z G5 H5 x5 s5 r5 => ?_⟩
      obtain ⟨_, al6⟩ := s5.minusL nn0 v.v
      refine ⟨x.q, x.vs, z, rfl, rfl, (al6 _ (res_q hxm)).h, Nat.lt_of_le_of_lt (hd hxm) (by decide), ?_⟩
      obtain ⟨v7, g7, s7⟩ := Stt.grow nn0 v hxm (fun y hy => (hx1 y hy).mono x5) s5 r5
      refine k G5 _ σ _ ((b.trans x1).trans x5) ?_ g7 v7 s7
      rw [gs_grow, hg, ek]
      unfold gput
      rw [if_pos]
      unfold gIn
      rw [← hg, gs_keys]
      exact List.mem_map.mpr ⟨_, hc, rfl⟩
    · -- a new key
      obtain ⟨q1, q2⟩ := v.qs
      obtain ⟨n1, n2⟩ := v.nN
      have hqN := s1.notN hq0
      rw [plusL_N, resL_addr] at hqN
      have hq0p : q0 ≠ p := fun z => hqN (.inr (by rw [z]; exact List.mem_cons_self ..))
      have hq0x : ∀ x ∈ xs, x.q ≠ q0 := fun x hxm z => hqN (.inr (List.mem_cons_of_mem _ (by rw [← z]; exact List.mem_map.mpr ⟨x, hxm, rfl⟩)))
      let x0 : GEnt := ⟨.tuple kds, ka, q0, [], []⟩
      have hno' : ∀ x ∈ xs, toK x.key ≠ toK (.tuple kds) := fun x hxm z => hno (List.mem_map.mpr ⟨x.ent, List.mem_map.mpr ⟨x, hxm, rfl⟩, z⟩)
      have v1 : VG e P w p (xs ++ [x0]) := by
        refine vg_of (fun x hxm => ?_) ?_ n1 (fun x hxm => ?_) ?_
        · rcases List.mem_append.mp hxm with h | h
          · exact q1 x h
          · rw [List.mem_singleton.mp h]; exact hq0p
        · rw [List.map_append, List.nodup_append]
          refine ⟨q2, List.nodup_cons.mpr ⟨by simp, List.nodup_nil⟩, fun a ha c hc => ?_⟩
          obtain ⟨x, hxm, rfl⟩ := List.mem_map.mp ha
          rw [List.mem_singleton.mp hc]
          exact hq0x x hxm
        · rcases List.mem_append.mp hxm with h | h
          · exact n2 x h
          · rw [List.mem_singleton.mp h]; exact fun z => hqN (.inl z)
        · rw [List.map_append, List.nodup_append]
          refine ⟨v.kn, List.nodup_cons.mpr ⟨by simp, List.nodup_nil⟩, fun a ha c hc => ?_⟩
          obtain ⟨x, hxm, rfl⟩ := List.mem_map.mp ha
          rw [List.mem_singleton.mp hc]
          exact hno' x hxm
      have g1 : ∀ x ∈ xs ++ [x0], GOk K G1 x := fun x hxm => by
        rcases List.mem_append.mp hxm with h | h
        · exact hx1 x h
        · rw [List.mem_singleton.mp h]; exact ⟨hr1, hkt, .nil⟩
      have ap := al4 _ (res_p (P := P) (w := w) (p := p) (xs := xs))
      have s5 := s4.updO (o := DR.DO P w p ((xs ++ [x0]).map GEnt.ent)) ap.g n1 ap.dn ap.no
      have s6 : Stt K (plusL e (resL P w p (xs ++ [x0]))) G1 (upd (upd H1 q0 (.lst [])) p (DR.DO P w p ((xs ++ [x0]).map GEnt.ent))) σ τ δ1 := by
        refine s5.plusL v1.v (at_res ⟨ap.g, upd_same, ap.dn, ap.no⟩ fun x hxm => ?_)
        rcases List.mem_append.mp hxm with h | h
        · have ay := al4 _ (res_q h)
          exact ⟨ay.g, by show upd _ p _ x.q = _; rw [upd_ne (q1 x h)]; exact ay.h, ay.dn, ay.no⟩
        · rw [List.mem_singleton.mp h]
          exact ⟨gnone s1.ex hq0, by show upd _ p _ q0 = _; rw [upd_ne hq0p, upd_same], s1.dr.not hq0, s1.notOwn hq0⟩
      have eH : (xs.map GEnt.ent ++ [(toK (.tuple kds), ka, V.ref q0)]) = (xs ++ [x0]).map GEnt.ent := by rw [List.map_append]; rfl
      rw [eH]
      have hm0 : x0 ∈ xs ++ [x0] := List.mem_append_right _ (List.mem_cons_self ..)
      refine ⟨.inl ⟨rfl, [], .inl (.inl (by rw [upd_ne hq0p, upd_same]))⟩, he _ G1 _ σ s6 _ fun z G5 H5 x5 s7 r5 => ?_⟩
      obtain ⟨_, al6⟩ := s7.minusL nn0 v1.v
      refine ⟨q0, [], z, rfl, rfl, (al6 _ (res_q hm0)).h, by decide, ?_⟩
      obtain ⟨v8, g8, s8⟩ := Stt.grow nn0 v1 hm0 (fun y hy => (g1 y hy).mono x5) s7 r5
      refine k G5 _ σ _ ((b.trans x1).trans x5) ?_ g8 v8 s8
      rw [gs_grow]
      show ((gsOf (xs ++ [x0])).map fun g => if toK g.1 = toK (.tuple kds) then (g.1, g.2 ++ [el]) else g) = _
      have hnin : ¬ gIn gs (.tuple kds) := by
        unfold gIn
        rw [← hg, gs_keys]
        exact hno
      unfold gput
      rw [if_neg hnin]
      unfold gsOf
      rw [List.map_append, List.map_append]
      have e9 : (xs.map fun x => (x.key, x.ds)) = gs := hg
      rw [e9]
      have e10 : (gs.map fun g => if toK g.1 = toK (.tuple kds) then (g.1, g.2 ++ [el]) else g) = gs := by
        conv => rhs; rw [← List.map_id gs]
        refine List.map_congr_left fun g hgm => ?_
        rw [if_neg (fun z => hnin (List.mem_map.mpr ⟨g, hgm, z⟩))]
        rfl
      rw [e10]
      show gs ++ [if toK (.tuple kds) = toK (.tuple kds) then (PyData.tuple kds, [] ++ [el]) else _] = _
      rw [if_pos rfl]
      rfl
/-- .. all frozen -/
theorem Stt.freezeL : ∀ {xs : List GEnt} {G : Hp}, (xs.map (·.q)).Nodup → (∀ x ∈ xs, ¬ e.N x.q) → (∀ x ∈ xs, AtL G H σ τ δ (x.q, .lst x.vs)) → Stt K e G H σ τ δ → ∃ G', Ex G G' ∧ Stt K e G' H σ τ δ ∧ (∀ x ∈ xs, G' x.q = some (.lst x.vs)) ∧ ∀ a, (∀ x ∈ xs, a ≠ x.q) → G' a = G a
  | [], G, _, _, _, s => ⟨G, Ex.refl G, s, ⟨fun x hx => (by cases hx), fun a _ => rfl⟩⟩
  | x :: xs, G, nd, nN, al, s => by
    rw [List.map_cons, List.nodup_cons] at nd
    have ax := al x (List.mem_cons_self ..)
    have s1 := s.freeze ax.g (nN x (List.mem_cons_self ..)) ax.dn ax.no ax.h
    have ex1 := Ex.new (o := .lst x.vs) ax.g
    have hne : ∀ y ∈ xs, y.q ≠ x.q := fun y hy z => nd.1 (by rw [← z]; exact List.mem_map.mpr ⟨y, hy, rfl⟩)
    obtain ⟨G', ex2, s2, h2, h3⟩ := Stt.freezeL (xs := xs) nd.2 (fun y hy => nN y (List.mem_cons_of_mem _ hy)) (fun y hy => by
      have ay := al y (List.mem_cons_of_mem _ hy)
      exact ⟨by show upd G x.q _ y.q = none; rw [upd_ne (hne y hy)]; exact ay.g, ay.h, ay.dn, ay.no⟩) s1
    refine ⟨G', ex1.trans ex2, s2, fun y hy => ?_, fun a ha => ?_⟩
    · rcases List.mem_cons.mp hy with rfl | hy
      · exact ex2 _ _ upd_same
      · exact h2 y hy
    · rw [h3 a fun y hy => ha y (List.mem_cons_of_mem _ hy)]
      show upd G x.q _ a = G a
      rw [upd_ne (ha x (List.mem_cons_self ..))]
/-- return list(d.values()) -/
theorem sdg_retVals {i0 : Nat} {post : D → Option Dr → Prop} (hq : Rt K e E.rt post) (hi : τ[i0]? = some (.raw (.ref p))) (hp : post (.list (gs.map fun g => .list g.2)) δ) : SDG K P w e B (tRet (tCB (DR.rListVals K P w) (tCons (DR.tVals P w (tVar i0)) tNil))) E τ δ p gs := fun G H σ xs b hg hx v s => by
  have nn0 := s.nn0 v.v
  have raw0 : σ[i0]? = some (some (.ref p)) := by
    obtain ⟨o, h1, h2⟩ := s.sl i0 _ hi
    cases h2
    exact h1
  obtain ⟨s0, al0⟩ := s.minusL nn0 v.v
  refine ⟨.ref p, raw0, p, _, rfl, (al0 _ res_p).h, fun vw hvw => ?_⟩
  have s1 := s.newH (o := DR.ValsO vw p) hvw
  obtain ⟨s2, al2⟩ := s1.minusL nn0 v.v
  refine ⟨vw, p, _, rfl, upd_same, (al2 _ res_p).h, go_keysOk hx s2.ex, fun l hl => ?_⟩
  have s3 := s1.newH (o := .lst ((xs.map GEnt.ent).map fun x => x.2.2)) hl
  obtain ⟨s4, al4⟩ := s3.minusL nn0 v.v
  have hlN := s1.notN hl
  rw [plusL_N, resL_addr] at hlN
  have hlq : ∀ x ∈ xs, l ≠ x.q := fun x hxm z => hlN (.inr (List.mem_cons_of_mem _ (by rw [z]; exact List.mem_map.mpr ⟨x, hxm, rfl⟩)))
  obtain ⟨G', ex1, s5, h5, h6⟩ := Stt.freezeL (v.qs).2 (v.nN).2 (fun x hxm => al4 _ (res_q hxm)) s4
  have gl : G' l = none := by rw [h6 l hlq]; exact gnone s1.ex hl
  have s6 := s5.freeze gl (fun z => hlN (.inl z)) (s1.dr.not hl) (s1.notOwn hl) upd_same
  have ex2 := Ex.new (o := .lst ((xs.map GEnt.ent).map fun x => x.2.2)) gl
  refine hq _ _ _ σ τ δ _ s6 (.lst upd_same ?_) hp
  have all : ∀ ys : List GEnt, (∀ y ∈ ys, y ∈ xs) → RA K (upd G' l (.lst ((xs.map GEnt.ent).map fun x => x.2.2))) ((ys.map GEnt.ent).map fun x => x.2.2) ((gsOf ys).map fun g => .list g.2) := fun ys => by
    induction ys with
    | nil => intro _; exact .nil
    | cons y ys ih =>
      intro hy
      have hym := hy y (List.mem_cons_self ..)
      exact .cons (.lst (ex2 _ _ (h5 y hym)) (RA.mono (ex1.trans ex2) _ _ (hx y hym).ra)) (ih fun z hz => hy z (List.mem_cons_of_mem _ hz))
  have := all xs fun _ h => h
  rw [hg] at this
  exact this
end
end DL
/-! New lists handed on; tests that draw. -/
namespace DL
open PySem PySem.Spec PyProof.Rows L2
open Evl (Ex)
section
variable {K : PySem.W.Frag} {e : En} {G G' H H' B : Hp} {σ : L2.St} {τ τ' : List SV} {δ δ' δ1 δ2 : Option Dr} {te ta tb : TE} {t1 t2 : TT} {t u : TS} {d d1 d2 : D} {ds es : List D} {E : Ends} {Q : VK}
theorem rd_inLI {neg : Bool} {x : Int} {ys : List Int} : RD K (rIn K neg) (.int x) (.list (ys.map .int)) (.bool (if neg then !ys.contains x else ys.contains x)) := fun e G H σ τ δ v w s r1 r2 Q q => by
  cases r1
  cases r2 with
  | @lst a xs _ h ra =>
    obtain rfl := RA.ints ra
    refine ⟨a, _, rfl, .inl (.inl (.inl (s.ex _ _ h))), rfl, flat_ints ys, ?_⟩
    rw [inV_ints]
    exact q _ G H (Ex.refl G) s (.bl _)
theorem et_andW {a b : Bool} (h1 : EvT K t1 τ δ a δ1) (h2 : a = true → EvT K t2 τ δ1 b δ2) : EvT K (tAnd t1 t2) τ δ (a && b) (if a = true then δ2 else δ1) := fun e G H σ s Q q => h1 e G H σ s _ fun G1 H1 x1 s1 => by
  cases a with
  | true => exact iteT (h2 rfl e G1 H1 σ s1 Q fun G2 H2 x2 => q G2 H2 (x1.trans x2))
  | false => exact iteF (q G1 H1 x1 s1)
/-! ### a def that returns a new list -/
def spF (K : PySem.W.Frag) {X : Type} (enc : X → List D) (dom : X → Prop) (fn : X → List D) : Sp := fun vs H Q _ => ∃ G x, Ex G H ∧ RA K G vs (enc x) ∧ dom x ∧
  ∀ p us G' H', Ex G G' → Ex G' H' → (∀ a, H a ≠ none → G a = none → G' a = none ∧ H' a = H a) → G' p = none → H p = none → H' p = some (.lst us) → RA K G' us (fn x) → Q (.ref p) H'
theorem ef_call {X : Type} {enc : X → List D} {dom : X → Prop} {fn : X → List D} {t : TA} {Ex' : XK} (x : X) (h : EvA K t τ δ ds δ1) (hx : ds = enc x) (hd : dom x) : EvF K (tCall (spF K enc dom fn) [] Ex' t) τ δ (fn x) δ1 := fun e G H σ s Q q =>
  h e G H σ s _ fun vs G1 H1 x1 s1 r1 => by
    show spF K enc dom fn (vs ++ []) H1 Q Ex'
    rw [List.append_nil]
    refine ⟨G1, x, s1.ex, by rw [← hx]; exact r1, hd, fun p us G2 H2 x2 xh fr gp hp hp2 ra => ?_⟩
    exact q p us G2 H2 (x1.trans x2) (s1.call x2 xh fr) gp (s1.notN hp) (s1.dr.not hp) (s1.notOwn hp) hp2 ra
def RtF (K : PySem.W.Frag) (e : En) (Q : VK) (ds : List D) : Prop := ∀ p us G H σ τ δ, Stt K e G H σ τ δ → ¬ e.N p → G p = none → H p = some (.lst us) → RA K G us ds → Q (.ref p) H
theorem sd_retF (hq : RtF K e E.rt es) (h : EvF K te τ δ ds δ1) (z : ds = es) : SD K e B (tRet te) E τ δ := fun G H σ bx s => by
  subst z
  exact h e G H σ s _ fun p vs G1 H1 x1 s1 g n dn no hp ra => hq p vs G1 H1 σ τ δ1 s1 n g hp ra
end
section
variable {P : Program} {w : World} {K : PySem.W.Frag} {mg : Str → Option Value} {base : Heap}
theorem clF {X : Type} {enc : X → List D} {dom : X → Prop} {fn : X → List D} {x : Str} {st : Stmt} {N ps : List Str} {k : Nat} (T : FT K mg x st ps) (S : FnScope N ps (defScope st)) (len : ∀ x, (enc x).length = ps.length)
    (hb : ∀ (f : Addr) (cdv : Value) (A : Around) (outer : List Env) (s : Shared) (H : Hp) (E : XK) (z : X), Room k (A.deeper (envOfC x (defScope st) s.heap.objs.size f cdv)) → dom z →
      ∃ t, PSs (cxOf CX0 P w K mg base N x (defScope st) f cdv A outer s H E).nox (defBody st) t ∧ ∀ (e : En) (Q : VK), RtF K e Q (fn z) → SD K e e.G0 t { nx := fun _ H' => Q .non H', rt := Q } ((enc z).map .val ++ List.replicate (N.length - (enc z).length) .any) none) :
    Cl P w K mg base x (k + 1) ps (spF K enc dom fn) := by
  obtain ⟨f, fd, F, hm, b⟩ := T
  refine ⟨f, fd, ?_, hm, F.kp, b⟩
  refine F.ok S (fun vs H Q E ⟨G, x, ex, ra, hd, q⟩ => by rw [RA.len ra]; exact len x) (fun cdv A outer s H vs Q E hr ⟨G, x, ex, ra, hd, q⟩ => ?_)
  obtain ⟨t, h1, h2⟩ := hb f cdv A outer s H E x hr hd
  refine ⟨t, h1, h2 ⟨fun a => H a ≠ none ∧ G a = none, H, G⟩ Q (fun p us G' H' σ τ δ s' n g h r => ?_) G H _ (Ex.refl G) (stt_start ex ra)⟩
  refine q p us G' H' s'.gx s'.ex (fun a h1 h2 => s'.fr a ⟨h1, h2⟩) g ?_ h r
  cases hz : H p with
  | none => rfl
  | some o =>
    exfalso
    have hn : H p ≠ none := by rw [hz]; simp
    refine n ⟨hn, ?_⟩
    cases hg : G p with
    | none => rfl
    | some o2 =>
      have := s'.gx p o2 hg
      rw [g] at this
      cases this
end
/-! ### an owned list, lent as a value while an expression is read -/
/-- data without lists -/
inductive LF : D → Prop
  | non : LF .none
  | bl (b : Bool) : LF (.bool b)
  | int (i : Int) : LF (.int i)
  | str (x : Str) : LF (.str x)
  | tup (ds : List D) (h : ∀ d ∈ ds, LF d) : LF (.tuple ds)
def off (G : Hp) (p : Addr) : Hp := fun a => if a = p then none else G a
theorem off_ne {G : Hp} {p a : Addr} (h : a ≠ p) : off G p a = G a := if_neg h
theorem off_self {G : Hp} {p : Addr} : off G p p = none := if_pos rfl
section
variable {K : PySem.W.Frag} {e : En} {G G' H H' B : Hp} {σ : L2.St} {τ τ' : List SV} {δ δ' δ1 δ2 : Option Dr} {te ta tb : TE} {d d1 d2 : D} {ds es : List D}
theorem sqT_off {p a : Addr} {us xs : List V} (hp : G p = some (.lst us)) (h : SqT K G a xs) : SqT K (off G p) a xs := by
  have hne : ∀ {o : HO}, G a = some o → (∀ us, o ≠ .lst us) → off G p a = some o := fun {o} ho hn => by
    rw [off_ne (fun z => hn us (by rw [z, hp] at ho; exact (Option.some.inj ho).symm)), ho]
  rcases h with (h | ⟨o, h⟩) | ⟨o, its, n, hk, hc, r⟩
  · exact .inl (.inl (hne h fun us z => by cases z))
  · exact .inl (.inr ⟨o, hne h fun us z => by cases z⟩)
  · exact .inr ⟨o, its, n, hk, hc, r⟩
theorem LF.off {p : Addr} {us : List V} (hp : G p = some (.lst us)) {d : D} (h : LF d) : ∀ {v : V}, R K G v d → R K (DL.off G p) v d := by
  induction h with
  | non => intro v r; cases r; exact .non
  | bl b => intro v r; cases r; exact .bl b
  | int i => intro v r; cases r; exact .int i
  | str x => intro v r; cases r; exact .str x
  | tup ds h ih =>
    intro v r
    cases r with
    | @tup a xs _ hs ra =>
      refine .tup (sqT_off hp hs) ?_
      have all : ∀ (ds : List D) (xs : List V), RA K G xs ds → (∀ d ∈ ds, ∀ {v : V}, R K G v d → R K (DL.off G p) v d) → RA K (DL.off G p) xs ds := by
        intro ds
        induction ds with
        | nil => intro xs ra _; cases ra; exact .nil
        | cons d ds ihd =>
          intro xs ra hh
          cases ra with
          | cons r1 r2 => exact .cons (hh d (List.mem_cons_self ..) r1) (ihd _ r2 fun z hz => hh z (List.mem_cons_of_mem _ hz))
      exact all ds xs ra ih
def mask (τ : List SV) : List SV := τ.map fun y => if y.ow = true then .any else y
theorem mask_get {j : Nat} {y : SV} (h : (mask τ)[j]? = some y) : ∃ z, τ[j]? = some z ∧ y = if z.ow = true then .any else z := by
  unfold mask at h
  rw [List.getElem?_map] at h
  obtain ⟨z, h1, h2⟩ := Option.map_eq_some_iff.mp h
  exact ⟨z, h1, h2.symm⟩
theorem mask_ow {j : Nat} {y : SV} (h : (mask τ)[j]? = some y) : y.ow ≠ true := by
  obtain ⟨z, _, rfl⟩ := mask_get h
  split
  · exact fun z => by cases z
  · assumption
theorem noOw_mask {p : Addr} : NoOw (mask τ) σ p := fun _ _ hy h => absurd hy (mask_ow h)
theorem Stt.masked (s : Stt K e G H σ τ δ) : Stt K e G H σ (mask τ) δ := by
  refine ⟨s.ex, s.gx, s.nn, s.fr, by unfold mask; rw [List.length_map]; exact s.len, fun i y hy => ?_, fun i j y1 y2 p w1 w2 h1 h2 _ _ => absurd w1 (mask_ow h1), s.dr⟩
  obtain ⟨z, h1, h2⟩ := mask_get hy
  obtain ⟨o, h3, h4⟩ := s.sl i z h1
  subst h2
  refine ⟨o, h3, ?_⟩
  split
  · exact .any o
  · exact h4
/-- the owned objects but that of the slot i -/
theorem Stt.owns (s : Stt K e G H σ τ δ) (i : Nat) : ∀ n : Nat, ∃ l : RL, VL e l ∧ (∀ a ∈ l, AtL G H σ (mask τ) δ a) ∧ (∀ a ∈ l, ∃ j y, j < n ∧ j ≠ i ∧ y.ow = true ∧ τ[j]? = some y ∧ σ[j]? = some (some (.ref a.1))) ∧
    ∀ j y, j < n → j ≠ i → y.ow = true → τ[j]? = some y → ∃ a ∈ l, σ[j]? = some (some (.ref a.1))
  | 0 => by
    refine ⟨[], ⟨List.nodup_nil, fun a ha => ?_⟩, fun a ha => ?_, fun a ha => ?_, fun j y h => absurd h (Nat.not_lt_zero j)⟩ <;> cases ha
  | n + 1 => by
    obtain ⟨l, v, al, fr, to⟩ := Stt.owns s i n
    have keep : (∀ y, n ≠ i → y.ow = true → τ[n]? = some y → ∃ a ∈ l, σ[n]? = some (some (.ref a.1))) → ∃ l : RL, VL e l ∧ (∀ a ∈ l, AtL G H σ (mask τ) δ a) ∧ (∀ a ∈ l, ∃ j y, j < n + 1 ∧ j ≠ i ∧ y.ow = true ∧ τ[j]? = some y ∧ σ[j]? = some (some (.ref a.1))) ∧ ∀ j y, j < n + 1 → j ≠ i → y.ow = true → τ[j]? = some y → ∃ a ∈ l, σ[j]? = some (some (.ref a.1)) := fun h =>
      ⟨l, v, al, fun a ha => by obtain ⟨j, y, h1, h2⟩ := fr a ha; exact ⟨j, y, by omega, h2⟩, fun j y hj hi hy ht => by
        by_cases hjn : j = n
        · subst hjn; exact h y hi hy ht
        · exact to j y (by omega) hi hy ht⟩
    by_cases hi : n = i
    · exact keep fun y h => absurd hi h
    cases hz : τ[n]? with
    | none => exact keep fun y _ _ h => by rw [hz] at h; cases h
    | some z =>
      by_cases hzo : z.ow = true
      · obtain ⟨o, h1, h2⟩ := s.sl n z hz
        have hq : ∃ q ho, o = some (.ref q) ∧ ¬ e.N q ∧ G q = none ∧ H q = some ho ∧ DrNot δ q := by
          cases h2 with
          | own n' g' h' ra dn' => exact ⟨_, _, rfl, n', g', h', dn'⟩
          | dct n' g' h' ra dn' => exact ⟨_, _, rfl, n', g', h', dn'⟩
          | any => cases hzo
          | val => cases hzo
          | drw => cases hzo
          | exc => cases hzo
          | raw => cases hzo
        obtain ⟨q, ho, rfl, n1, g1, h3, d3⟩ := hq
        refine ⟨(q, ho) :: l, ⟨?_, fun a ha => ?_⟩, fun a ha => ?_, fun a ha => ?_, fun j y hj hji hy ht => ?_⟩
        · rw [List.map_cons, List.nodup_cons]
          refine ⟨fun hm => ?_, v.nd⟩
          obtain ⟨a, ha, e1⟩ := List.mem_map.mp hm
          obtain ⟨j, y, h4, h5, h6, h7, h8⟩ := fr a ha
          have h9 : (a.1 : Addr) = q := e1
          rw [h9] at h8
          have := s.dj j n y z q h6 hzo h7 hz h8 h1
          omega
        · rcases List.mem_cons.mp ha with rfl | ha
          · exact n1
          · exact v.nn a ha
        · rcases List.mem_cons.mp ha with rfl | ha
          · exact ⟨g1, h3, d3, noOw_mask⟩
          · exact al a ha
        · rcases List.mem_cons.mp ha with rfl | ha
          · exact ⟨n, z, by omega, hi, hzo, hz, h1⟩
          · obtain ⟨j, y, h4, h5⟩ := fr a ha
            exact ⟨j, y, by omega, h5⟩
        · by_cases hjn : j = n
          · subst hjn; exact ⟨(q, ho), List.mem_cons_self .., h1⟩
          · obtain ⟨a, ha, h4⟩ := to j y (by omega) hji hy ht
            exact ⟨a, List.mem_cons_of_mem _ ha, h4⟩
      · exact keep fun y _ hy h => by rw [hz] at h; cases h; exact absurd hy hzo
theorem ex_off {p : Addr} (g : G p = none) (x : Ex G G') : Ex G (off G' p) := fun a u ha => by
  have hne : a ≠ p := fun z => by rw [z, g] at ha; cases ha
  rw [off_ne hne]
  exact x a u ha
def obsO : Option Dr → List Ob
  | none => []
  | some d => d.ob
/-- what is known while the list of slot i is lent -/
def lend (τ : List SV) (i : Nat) (ds : List D) : List SV := (mask τ).set i (.val (.list ds))
theorem ev_lendQ {i : Nat} (hi : τ[i]? = some (.own ds)) (s : Stt K e G H σ τ δ) : ∃ (l : RL) (p : Addr) (vs : List V), Stt K (plusL e l) (upd G p (.lst vs)) H σ (lend τ i ds) δ ∧ G p = none ∧
    ∀ G1 H1 δ', obsO δ' = [] → Ex (upd G p (.lst vs)) G1 → Stt K (plusL e l) G1 H1 σ (lend τ i ds) δ' → Ex G (off G1 p) ∧ Stt K e (off G1 p) H1 σ τ δ' ∧ G1 p = some (.lst vs) := by
  obtain ⟨o, h1, h2⟩ := s.sl i _ hi
  cases h2 with
  | @own p vs _ n g h ra dn =>
    obtain ⟨l, v, al, fr, to⟩ := s.owns i τ.length
    have hpl : ¬ (plusL e l).N p := fun z => by
      rcases plusL_N.mp z with z | z
      · exact n z
      · obtain ⟨a, ha, e1⟩ := List.mem_map.mp z
        obtain ⟨j, y, h4, h5, h6, h7, h8⟩ := fr a ha
        have h9 : (a.1 : Addr) = p := e1
        rw [h9] at h8
        exact h5 (s.dj j i y _ p h6 rfl h7 hi h8 h1)
    have s1 := s.masked.plusL v al
    have s2 := s1.freeze g hpl dn noOw_mask h
    have xf := Ex.new (o := .lst vs) g
    have s3 := s2.setv (i := i) (.lst upd_same (RA.mono xf _ _ ra))
    rw [set_self h1] at s3
    refine ⟨l, p, vs, s3, g, fun G1 H1 δ' ho x1 s4 => ?_⟩
    have hp1 : G1 p = some (.lst vs) := x1 _ _ upd_same
    have xG : Ex G G1 := xf.trans x1
    have x0 : Ex G (off G1 p) := ex_off g xG
    obtain ⟨s5, al5⟩ := s4.minusL s.nn v
    have dp : DrNot δ' p := by
      have := s5.dr
      cases δ' with
      | none => trivial
      | some q =>
        obtain ⟨a, b, c', n1', n2', f', k', ok', oj'⟩ := this
        refine ⟨fun z => ?_, fun z => ?_, fun o' ho ha => ?_⟩
        · rw [z, a] at hp1; cases hp1
        · rw [z, b] at hp1; cases hp1
        · have h0 := ((ok' o' ho).2 p ha).1
          rw [hp1] at h0
          cases h0
    refine ⟨x0, ⟨fun a u ha => ?_, s.gx.trans x0, s.nn, fun a ha => ?_, s.len, fun j y hy => ?_, s.dj, ?_⟩, hp1⟩
    · by_cases hap : a = p
      · rw [hap, off_self] at ha; cases ha
      · rw [off_ne hap] at ha; exact s5.ex a u ha
    · have hap : a ≠ p := fun z => n (by rw [← z]; exact ha)
      rw [off_ne hap]
      exact s5.fr a ha
    · obtain ⟨o, h3, h4⟩ := s.sl j y hy
      refine ⟨o, h3, ?_⟩
      by_cases hji : j = i
      · subst hji
        rw [hi] at hy
        cases hy
        rw [h1] at h3
        cases h3
        exact .own n off_self (s5.ex _ _ hp1) (RA.mono x0 _ _ ra) dp
      · have hl : j < τ.length := (List.getElem?_eq_some_iff.mp hy).1
        cases h4 with
        | any => exact .any _
        | val r => exact .val (R.mono x0 _ _ r)
        | exc hx => exact .exc (x0 _ _ hx)
        | raw w => exact .raw w
        | @drw d0 hd =>
          have hm : (lend τ i ds)[j]? = some .drw := by
            unfold lend mask
            rw [List.getElem?_set_ne (fun z => hji z.symm), List.getElem?_map, hy]
            rfl
          obtain ⟨o2, h5, h6⟩ := s5.sl j _ hm
          rw [h3] at h5
          cases h5
          generalize hv : V.ref d0.p = w at h6
          cases h6 with
          | drw hd2 => exact .drw hd2
        | @own q us es n' g' h' ra' dn' =>
          obtain ⟨a, ha, h5⟩ := to j _ hl hji rfl hy
          rw [h3] at h5
          have hqa : q = a.1 := V.ref.inj (Option.some.inj (Option.some.inj h5))
          have e0 : G1 q = none := by rw [hqa]; exact (al5 a ha).g
          have hqp : q ≠ p := fun z => by rw [z, hp1] at e0; cases e0
          have e1 : H q = some a.2 := by rw [hqa]; exact (al a ha).h
          have e2 : H1 q = some a.2 := by rw [hqa]; exact (al5 a ha).h
          have e3 : DrNot δ' q := by rw [hqa]; exact (al5 a ha).dn
          exact .own n' (by rw [off_ne hqp]; exact e0) (by rw [e2, ← e1]; exact h') (RA.mono x0 _ _ ra') e3
        | dct n' g' h' ra' dn' =>
          obtain ⟨a, ha, h5⟩ := to j _ hl hji rfl hy
          rw [h3] at h5
          have hqa := V.ref.inj (Option.some.inj (Option.some.inj h5))
          have e0 : G1 a.1 = none := (al5 a ha).g
          have hqp : a.1 ≠ p := fun z => by rw [z, hp1] at e0; cases e0
          have e1 : H a.1 = some a.2 := (al a ha).h
          have e2 : H1 a.1 = some a.2 := (al5 a ha).h
          rw [hqa] at n' g' h' dn' ⊢
          exact .dct n' (by rw [off_ne hqp]; exact e0) (by rw [e2, ← e1]; exact h') (de_mono x0 ra') (al5 a ha).dn
    · have := s5.dr
      cases δ' with
      | none => trivial
      | some q =>
        obtain ⟨a, b, c, n1, n2, f, k, ok, oj⟩ := this
        refine ⟨?_, ?_, c, n1, n2, f, k, ?_, oj⟩
        · rw [off_ne (fun z => dp.1 z.symm)]; exact a
        · rw [off_ne (fun z => dp.2.1 z.symm)]; exact b
        · have ho : q.ob = [] := ho
          rw [ho]
          exact ObOk.nil
end
section
variable {K : PySem.W.Frag} {e : En} {G G' H H' B : Hp} {σ : L2.St} {τ τ' τ2 : List SV} {δ δ' δ1 δ2 : Option Dr} {te ta tb : TE} {t1 t2 tt : TT} {t u : TS} {d d1 d2 : D} {ds es : List D} {E : Ends}
/-- the list of slot i is read as a value -/
theorem ev_lend {i : Nat} (hi : τ[i]? = some (.own ds)) (z : lend τ i ds = τ2) (h : Ev K te τ2 δ d δ') (hd : LF d) (ho : obsO δ' = []) : Ev K te τ δ d δ' := fun e G H σ s Q q => by
  subst z
  obtain ⟨l, p, vs, s1, g, k⟩ := ev_lendQ hi s
  exact h _ _ H σ s1 Q fun v G1 H1 x1 s2 r => by
    obtain ⟨a, b, c⟩ := k G1 H1 _ ho x1 s2
    exact q v _ H1 a b (hd.off c r)
theorem et_lend {b : Bool} {i : Nat} (hi : τ[i]? = some (.own ds)) (z : lend τ i ds = τ2) (h : EvT K tt τ2 δ b δ') (ho : obsO δ' = []) : EvT K tt τ δ b δ' := fun e G H σ s Q q => by
  subst z
  obtain ⟨l, p, vs, s1, g, k⟩ := ev_lendQ hi s
  exact h _ _ H σ s1 Q fun G1 H1 x1 s2 => by
    obtain ⟨a, b, c⟩ := k G1 H1 _ ho x1 s2
    exact q _ H1 a b
theorem et_andT {b : Bool} (h1 : EvT K t1 τ δ true δ1) (h2 : EvT K t2 τ δ1 b δ2) : EvT K (tAnd t1 t2) τ δ b δ2 := et_andW h1 fun _ => h2
theorem et_andF (h1 : EvT K t1 τ δ false δ1) : EvT K (tAnd t1 t2) τ δ false δ1 := et_andW (b := false) (δ2 := δ1) h1 fun h => by cases h
/-- a, l = e, [..] -/
theorem sd_parV {i j : Nat} (h1 : Ev K ta τ δ d1 δ1) (h2 : EvF K tb τ δ1 ds δ2) (k : SD K e B tNext E ((τ.set i (.val d1)).set j (.own ds)) δ2) : SD K e B (tPar i j (tCons ta (tCons tb tNil))) E τ δ := fun G H σ b s =>
  h1 e G H σ s _ fun v G1 H1 x1 s1 r1 => h2 e G1 H1 σ s1 _ fun p vs G2 H2 x2 s2 g n dn no hp ra => by
    refine ⟨v, .ref p, rfl, k G2 H2 _ ((b.trans x1).trans x2) ((s2.setv (i := i) (R.mono x2 _ _ r1)).seto n g hp ra dn fun m y hm hy z1 z2 => ?_)⟩
    by_cases him : i = m
    · subst him
      have hl : i < (τ.set i (.val d1)).length := (List.getElem?_eq_some_iff.mp z1).1
      rw [List.length_set] at hl
      rw [List.getElem?_set_self hl] at z1
      cases z1
      cases hy
    · rw [List.getElem?_set_ne him] at z1 z2
      exact no m y hy z1 z2
/-- what comes behind a test, said once -/
theorem sd_have (p : List SV → Option Dr → Prop) (tail : ∀ τ' δ', p τ' δ' → SD K e B u E τ' δ') (h : (∀ τ' δ', p τ' δ' → SD K e B u E τ' δ') → SD K e B t { E with nx := u E } τ δ) : SD K e B (tSeq t u) E τ δ := sd_seq (h tail)
theorem rd_inLN {neg : Bool} {x : Nat} {ys : List Nat} : RD K (rIn K neg) (.int (x : Nat)) (.list (ys.map fun i => .int (i : Nat))) (.bool (if neg then !ys.contains x else ys.contains x)) := by
  have e1 : (ys.map fun i => PyData.int (i : Nat)) = (ys.map Int.ofNat).map .int := by rw [List.map_map]; rfl
  have e2 : (ys.map Int.ofNat).contains (x : Int) = ys.contains x := by
    rw [Bool.eq_iff_iff, List.contains_iff_mem, List.contains_iff_mem, List.mem_map]
    exact ⟨fun ⟨a, h, z⟩ => by rw [← Int.ofNat.inj z]; exact h, fun h => ⟨x, h, rfl⟩⟩
  rw [e1, ← e2]
  exact rd_inLI
end
end DL
namespace Fo
open PySem PySem.Spec PyProof.Rows L2 DL DR
/-! ### data -/
def keysS : List Str := ["a", "b", "tab", "blank", "back", "end"]
def choS : List Str := ["first", "short", "common"]
def accS : List Str := ["tab", "blank", "always"]
def agaS : List Str := ["next", "stay"]
def bacS : List Str := ["offer", "letter", "both"]
def letS : List Str := ["a", "b"]
def dS (x : Str) : D := .str x
def dL (xs : List Str) : D := .list (xs.map .str)
def dT (xs : List Str) : D := .tuple (xs.map .str)
structure Way where
  ch : Str
  si : Int
  ac : Str
  ag : Str
  bk : Str
  ln : Int
deriving DecidableEq
structure Sta where
  tx : Str
  bg : Str
  qu : Int
  od : List Str
  pu : Str
deriving DecidableEq
def eW (w : Way) : D := .tuple [.str w.ch, .int w.si, .str w.ac, .str w.ag, .str w.bk, .int w.ln]
def eS (s : Sta) : D := .tuple [.str s.tx, .str s.bg, .int s.qu, dT s.od, .str s.pu]

/-! ### texts as lists of signs -/
abbrev L (x : Str) : List Nat := x.cps.toList
theorem L_inj {x y : Str} (h : L x = L y) : x = y := TL.ext_tl h
theorem len_L (x : Str) : x.length = (L x).length := by show x.cps.size = _; simp
theorem L_add (x y : Str) : L (x ++ y) = L x ++ L y := TL.tl_append x y
theorem len_add (x y : Str) : (x ++ y).length = x.length + y.length := by rw [len_L, L_add, List.length_append, ← len_L, ← len_L]
theorem L_cutTo (x : Str) : L (cutS x none (some (-1))) = (L x).dropLast := by
  show ((x.cps.toList.drop (HT.sIx x.length 0 none)).take (HT.sIx x.length x.length (some (-1)) - HT.sIx x.length 0 none)) = _
  rw [HT.sIx_none, List.drop_zero, Nat.sub_zero]
  have e : HT.sIx x.length x.length (some (-1)) = (L x).length - 1 := by
    show (if (-1 : Int) < 0 then ((-1 : Int) + (x.length : Int)).toNat else min (-1 : Int).toNat x.length) = _
    rw [if_pos (by decide), len_L]
    omega
  rw [e, List.dropLast_eq_take]
theorem L_cutFrom (x : Str) (k : Nat) : L (cutS x (some (k : Int)) none) = (L x).drop k := by
  show ((x.cps.toList.drop (HT.sIx x.length 0 (some (k : Int)))).take (HT.sIx x.length x.length none - HT.sIx x.length 0 (some (k : Int)))) = _
  rw [HT.sIx_none, HT.sIx_nat, len_L]
  rcases Nat.le_total k (L x).length with h | h
  · rw [Nat.min_eq_left h, List.take_of_length_le (by rw [List.length_drop]; exact Nat.le_refl _)]
  · rw [Nat.min_eq_right h, Nat.sub_self, List.take_zero, List.drop_of_length_le h]
theorem L_cutK (x : Str) (k : Nat) : L (cutS x none (some (k : Int))) = (L x).take k := by
  show ((x.cps.toList.drop (HT.sIx x.length 0 none)).take (HT.sIx x.length x.length (some (k : Int)) - HT.sIx x.length 0 none)) = _
  rw [HT.sIx_none, HT.sIx_nat, len_L, List.drop_zero, Nat.sub_zero]
  rcases Nat.le_total k (L x).length with h | h
  · rw [Nat.min_eq_left h]
  · rw [Nat.min_eq_right h, List.take_length, List.take_of_length_le h]
theorem sw_iff (x y : Str) : Txt.startswith x y = true ↔ L y <+: L x := by
  unfold Txt.startswith
  rw [Bool.and_eq_true, decide_eq_true_eq, Nat.zero_add]
  constructor
  · rintro ⟨h1, h2⟩
    rw [StrLaws.subAt_eq, TL.len_tl y, List.drop_zero] at h2
    have e : (L x).take (TL.tl y).length = L y := eq_of_beq h2
    rw [← e]
    exact List.take_prefix _ _
  · intro h
    have hl := h.length_le
    refine ⟨by rw [len_L, len_L]; exact hl, ?_⟩
    rw [StrLaws.subAt_eq, TL.len_tl y, List.drop_zero]
    exact beq_iff_eq.mpr (List.prefix_iff_eq_take.mp h).symm
theorem sw_nil (x : Str) : Txt.startswith x "" = true := (sw_iff x "").mpr (by show ([] : List Nat) <+: _; exact List.nil_prefix)
theorem L_empty : L ("" : Str) = [] := rfl
theorem str_nil {x : Str} (h : x.length = 0) : x = "" := L_inj (by rw [L_empty]; exact List.eq_nil_of_length_eq_zero (by rw [← len_L]; exact h))
theorem len_cutTo (x : Str) : (cutS x none (some (-1))).length = x.length - 1 := by rw [len_L, L_cutTo, List.length_dropLast, ← len_L]
theorem len_cutFrom (x : Str) (k : Nat) : (cutS x (some (k : Int)) none).length = x.length - k := by rw [len_L, L_cutFrom, List.length_drop, ← len_L]

/-! ### the program's functions -/
def mFit (t : Str) (o : List Str) : List Str := o.filter fun x => Txt.startswith x t && decide ((t.length : Int) < (x.length : Int))
/-- what is left of c when it is cut back until t begins with it -/
def shr (t : Str) : Nat → Str → Str
  | 0, c => c
  | n + 1, c => if Txt.startswith t c = true then c else shr t n (cutS c none (some (-1)))
def comStep (c t : Str) : Str := shr t c.length c
def mCom (xs : List Str) : Str := xs.foldl comStep (xs.headD "")
def minStep (b y : Str) : Str := if y.length < b.length then y else b
def mMin : List Str → Str
  | [] => ""
  | x :: r => r.foldl minStep x
def mRests (t : Str) (o : List Str) : List Str := (mFit t o).map fun x => cutS x (some (t.length : Int)) none
def mOff (w : Way) (s : Sta) : Str :=
  if (decide (s.qu = 1) || decide ((s.tx.length : Int) < w.si)) = true then ""
  else if (mRests s.tx s.od).length = 0 then ""
  else if w.ch = "common" then mCom (mRests s.tx s.od)
  else if w.ch = "short" then mMin (mRests s.tx s.od)
  else (mRests s.tx s.od).headD ""
def mLet (s : Sta) (l : Str) : Sta := if s.tx.length = 4 then ⟨s.tx, s.bg, s.qu, s.od, ""⟩ else ⟨s.tx ++ l, "", 0, s.od, ""⟩
def mBeh (t : Str) (ws : List Str) : Str := if (!ws.contains t || decide (t = ws.getLastD "")) = true then ws.headD "" else ws.getD (ws.idxOf t + 1) ""
def mTab (w : Way) (s : Sta) : Sta :=
  if mOff w s ≠ "" then ⟨s.tx ++ mOff w s, s.tx, 1, s.od, ""⟩
  else ⟨if (decide (w.ag = "next") && !decide (s.bg = "")) = true then mBeh s.tx (mFit s.bg s.od) else s.tx, s.bg, s.qu, s.od, ""⟩
def mFront (x : Str) (o : List Str) : List Str := x :: o.filter fun y => !decide (y = x)
def mPutText (w : Way) (s : Sta) (k : Str) : Str := if (decide (w.ac = "always") || (decide (w.ac = "blank") && decide (k = "blank"))) = true then s.tx ++ mOff w s else s.tx
def mPut (w : Way) (s : Sta) (k : Str) : Sta :=
  ⟨"", "", 0, if (decide (w.ln = 1) && s.od.contains (mPutText w s k)) = true then mFront (mPutText w s k) s.od else s.od, mPutText w s k⟩
def mBackText (w : Way) (s : Sta) : Str := if (!decide (w.bk = "offer") || decide (mOff w s = "")) = true then cutS s.tx none (some (-1)) else s.tx
def mBack (w : Way) (s : Sta) : Sta := ⟨mBackText w s, "", if (decide (w.bk = "letter") || decide (mBackText w s = "")) = true then 0 else 1, s.od, ""⟩
def mPress (w : Way) (s : Sta) (k : Str) : Sta :=
  if letS.contains k = true then mLet s k else if k = "tab" then mTab w s else if k = "back" then mBack w s else mPut w s k
def mSt (w : Way) (s : Sta) (row : List Str) (i : Nat) : Sta := (row.take i).foldl (mPress w) s
def mWalk (w : Way) (s : Sta) (row : List Str) : List Sta := (List.range (row.length + 1)).map (mSt w s row)
def mView (w : Way) (s : Sta) (i : Int) : D := if i = 1 then .str s.pu else .tuple [.str s.tx, .str (mOff w s), .str s.pu]
def mInit (ws : List Str) : Sta := ⟨"", "", 0, ws, ""⟩
/-- what holds of a state, wherever keys have led -/
structure Ok (s : Sta) : Prop where
  tx : s.tx.length ≤ 4
  od : ∀ x ∈ s.od, x.length ≤ 3
  ol : s.od.length ≤ 3
  bg : s.bg ≠ "" → mFit s.bg s.od ≠ []
  bl : s.bg.length ≤ 4
theorem mFit_len {t : Str} {o : List Str} : (mFit t o).length ≤ o.length := List.length_filter_le _ _
theorem mFit_sub {t x : Str} {o : List Str} (h : x ∈ mFit t o) : x ∈ o := (List.mem_filter.mp h).1
theorem mRests_len {t : Str} {o : List Str} : (mRests t o).length ≤ o.length := by unfold mRests; rw [List.length_map]; exact mFit_len
theorem mRests_mem {t y : Str} {o : List Str} (h : y ∈ mRests t o) : ∃ x ∈ o, Txt.startswith x t = true ∧ t.length < x.length ∧ y = cutS x (some (t.length : Int)) none := by
  obtain ⟨x, hx, e⟩ := List.mem_map.mp h
  obtain ⟨h1, h2⟩ := List.mem_filter.mp hx
  rw [Bool.and_eq_true, decide_eq_true_eq] at h2
  exact ⟨x, h1, h2.1, by omega, e.symm⟩
/-- the word is the text and its rest -/
theorem cut_join {x t : Str} (h : Txt.startswith x t = true) : t ++ cutS x (some (t.length : Int)) none = x := by
  refine L_inj ?_
  rw [L_add, L_cutFrom, len_L]
  obtain ⟨r, hr⟩ := (sw_iff x t).mp h
  rw [← hr, List.drop_left]
theorem shr_sw (t : Str) : ∀ (n : Nat) (c : Str), c.length ≤ n → Txt.startswith t (shr t n c) = true
  | 0, c, h => by
    show Txt.startswith t c = true
    rw [str_nil (Nat.le_zero.mp h)]
    exact sw_nil t
  | n + 1, c, h => by
    unfold shr
    split
    · assumption
    · exact shr_sw t n _ (by rw [len_cutTo]; omega)
theorem shr_pre (t : Str) : ∀ (n : Nat) (c : Str), L (shr t n c) <+: L c
  | 0, c => List.prefix_refl _
  | n + 1, c => by
    unfold shr
    split
    · exact List.prefix_refl _
    · refine (shr_pre t n _).trans ?_
      rw [L_cutTo]
      exact List.dropLast_prefix _
theorem shr_id {t c : Str} (h : Txt.startswith t c = true) : ∀ n, shr t n c = c
  | 0 => rfl
  | n + 1 => by unfold shr; rw [if_pos h]
/-- cutting back once more changes nothing -/
theorem shr_cut {t c : Str} (h : Txt.startswith t c = false) : shr t (cutS c none (some (-1))).length (cutS c none (some (-1))) = shr t c.length c := by
  have hl : 0 < c.length := by
    rcases Nat.eq_zero_or_pos c.length with z | z
    · rw [str_nil z, sw_nil] at h; cases h
    · exact z
  obtain ⟨n, hn⟩ : ∃ n, c.length = n + 1 := ⟨c.length - 1, by omega⟩
  have e : (cutS c none (some (-1))).length = n := by rw [len_cutTo]; omega
  rw [e, hn]
  show _ = if Txt.startswith t c = true then c else shr t n (cutS c none (some (-1)))
  rw [if_neg (by rw [h]; exact Bool.false_ne_true)]
theorem com_pre : ∀ (xs : List Str) (c : Str), L (xs.foldl comStep c) <+: L c
  | [], c => List.prefix_refl _
  | x :: xs, c => (com_pre xs (comStep c x)).trans (shr_pre x _ c)
theorem mCom_pre {x : Str} {r : List Str} : L (mCom (x :: r)) <+: L x := com_pre (x :: r) x
theorem min_mem : ∀ (r : List Str) (b : Str), r.foldl minStep b ∈ b :: r
  | [], b => List.mem_cons_self ..
  | y :: r, b => by
    show r.foldl minStep (minStep b y) ∈ b :: y :: r
    have h := min_mem r (minStep b y)
    rcases List.mem_cons.mp h with h | h
    · rw [h]
      unfold minStep
      split <;> simp
    · exact List.mem_cons_of_mem _ (List.mem_cons_of_mem _ h)
theorem mMin_mem {x : Str} {r : List Str} : mMin (x :: r) ∈ x :: r := min_mem r x
/-- the offer is the beginning of the rest of some word -/
theorem mOff_pre {w : Way} {s : Sta} (h : mOff w s ≠ "") : mFit s.tx s.od ≠ [] ∧ ∃ x ∈ mFit s.tx s.od, L (s.tx ++ mOff w s) <+: L x := by
  have key : ∃ y ∈ mRests s.tx s.od, L (mOff w s) <+: L y := by
    unfold mOff at h ⊢
    split at h
    · exact absurd rfl h
    · split at h
      · exact absurd rfl h
      · rename_i h1 h2
        rw [if_neg h1, if_neg h2]
        obtain ⟨x, r, e⟩ : ∃ x r, mRests s.tx s.od = x :: r := by
          cases hr : mRests s.tx s.od with
          | nil => rw [hr] at h2; exact absurd rfl h2
          | cons x r => exact ⟨x, r, rfl⟩
        rw [e]
        split
        · exact ⟨x, List.mem_cons_self .., mCom_pre⟩
        · split
          · exact ⟨_, mMin_mem, List.prefix_refl _⟩
          · exact ⟨x, List.mem_cons_self .., List.prefix_refl _⟩
  obtain ⟨y, hy, hp⟩ := key
  unfold mRests at hy
  obtain ⟨x, hx, e⟩ := List.mem_map.mp hy
  refine ⟨fun z => (by rw [z] at hx; cases hx), x, hx, ?_⟩
  have hsw := (List.mem_filter.mp hx).2
  rw [Bool.and_eq_true] at hsw
  rw [← cut_join hsw.1, L_add, L_add, e]
  exact (List.prefix_append_right_inj _).mpr hp
theorem mOff_len {w : Way} {s : Sta} (o : Ok s) : s.tx.length + (mOff w s).length ≤ 4 := by
  by_cases h : mOff w s = ""
  · rw [h]
    exact o.tx
  · obtain ⟨_, x, hx, hp⟩ := mOff_pre h
    have h1 := hp.length_le
    have h2 := o.od x (mFit_sub hx)
    rw [← len_L, ← len_L, len_add] at h1
    omega
theorem mBeh_mem {t : Str} {ws : List Str} (h : ws ≠ []) : mBeh t ws ∈ ws := by
  unfold mBeh
  split
  · cases ws with
    | nil => exact absurd rfl h
    | cons x r => exact List.mem_cons_self ..
  · rename_i hc
    rw [Bool.or_eq_true, not_or, Bool.not_eq_true', Bool.not_eq_false] at hc
    have hm := List.contains_iff_mem.mp hc.1
    have hi : ws.idxOf t < ws.length := List.idxOf_lt_length_of_mem hm
    have hlt : ws.idxOf t + 1 < ws.length := by
      rcases Nat.lt_or_ge (ws.idxOf t + 1) ws.length with z | z
      · exact z
      · exfalso
        have e : ws.idxOf t = ws.length - 1 := by omega
        have hl : ws.getLastD "" = t := by
          rw [List.getLastD_eq_getLast?, List.getLast?_eq_getElem?, ← e, List.getElem?_eq_getElem hi, List.getElem_idxOf hi]
          rfl
        exact hc.2 (by rw [hl]; exact decide_eq_true rfl)
    rw [List.getD_eq_getElem?_getD, List.getElem?_eq_getElem hlt]
    exact List.getElem_mem hlt
theorem ok_press {w : Way} {s : Sta} (o : Ok s) {k : Str} (hk : keysS.contains k = true) : Ok (mPress w s k) := by
  unfold mPress
  split
  · rename_i hl
    have hk1 : k.length = 1 := by
      have := List.contains_iff_mem.mp hl
      rcases List.mem_cons.mp this with rfl | h
      · rfl
      · rcases List.mem_cons.mp h with rfl | h
        · rfl
        · cases h
    unfold mLet
    split
    · exact ⟨o.tx, o.od, o.ol, o.bg, o.bl⟩
    · rename_i h4
      exact ⟨by show (s.tx ++ k).length ≤ 4; rw [len_add]; have := o.tx; omega, o.od, o.ol, fun h => absurd rfl h, Nat.zero_le _⟩
  · split
    · unfold mTab
      split
      · rename_i ho
        exact ⟨by show (s.tx ++ mOff w s).length ≤ 4; rw [len_add]; exact mOff_len o, o.od, o.ol, fun _ => (mOff_pre ho).1, o.tx⟩
      · refine ⟨?_, o.od, o.ol, o.bg, o.bl⟩
        show (if _ then _ else _ : Str).length ≤ 4
        split
        · rename_i hc
          rw [Bool.and_eq_true, Bool.not_eq_true', decide_eq_false_iff_not] at hc
          have hm := mBeh_mem (t := s.tx) (o.bg hc.2)
          have := o.od _ (mFit_sub hm)
          omega
        · exact o.tx
    · split
      · unfold mBack
        refine ⟨?_, o.od, o.ol, fun h => absurd rfl h, Nat.zero_le _⟩
        show (mBackText w s).length ≤ 4
        unfold mBackText
        split
        · rw [len_cutTo]; have := o.tx; omega
        · exact o.tx
      · unfold mPut
        refine ⟨Nat.zero_le _, fun x hx => ?_, ?_, fun h => absurd rfl h, Nat.zero_le _⟩
        · change x ∈ (if _ then _ else _ : List Str) at hx
          split at hx
          · rename_i hc
            rw [Bool.and_eq_true] at hc
            unfold mFront at hx
            rcases List.mem_cons.mp hx with rfl | hx
            · exact o.od _ (List.contains_iff_mem.mp hc.2)
            · exact o.od _ (List.mem_filter.mp hx).1
          · exact o.od x hx
        · show (if _ then _ else _ : List Str).length ≤ 3
          split
          · rename_i hc
            rw [Bool.and_eq_true] at hc
            have hm := List.contains_iff_mem.mp hc.2
            unfold mFront
            rw [List.length_cons]
            have : (s.od.filter fun y => !decide (y = mPutText w s k)).length < s.od.length := by
              refine List.length_filter_lt_length_iff_exists.mpr ⟨_, hm, ?_⟩
              simp
            have := o.ol
            omega
          · exact o.ol
theorem ok_st {w : Way} {s : Sta} (o : Ok s) {row : List Str} (h : ∀ k ∈ row, keysS.contains k = true) : ∀ i, Ok (mSt w s row i) := by
  have all : ∀ (r : List Str) (s : Sta), Ok s → (∀ k ∈ r, keysS.contains k = true) → Ok (r.foldl (mPress w) s) := by
    intro r
    induction r with
    | nil => exact fun s o _ => o
    | cons k r ih => exact fun s o hh => ih _ (ok_press o (hh k (List.mem_cons_self ..))) fun k' hk' => hh k' (List.mem_cons_of_mem _ hk')
  exact fun i => all _ s o fun k hk => h k (List.mem_of_mem_take hk)

end Fo
namespace Fo
open PySem PySem.Spec PyProof.Rows L2 DL DR
def topS (i : Nat) : Stmt := PySem.Challenge.pw_fieldoffers_k03_whole_records.main.body.getD i (.Pass ⟨0, 0, 0, 0⟩)
abbrev s_is_integer : Stmt := topS 15
abbrev N_is_integer : List Str := ["value"]
theorem sc_is_integer : FnScope N_is_integer ["value"] (defScope s_is_integer) := ⟨rfl, rfl, rfl, by decide +kernel, rfl, by decide +kernel, by decide +kernel⟩
abbrev s_is_integer_among : Stmt := topS 16
abbrev N_is_integer_among : List Str := ["value", "numbers"]
theorem sc_is_integer_among : FnScope N_is_integer_among ["value", "numbers"] (defScope s_is_integer_among) := ⟨rfl, rfl, rfl, by decide +kernel, rfl, by decide +kernel, by decide +kernel⟩
abbrev s_is_string_among : Stmt := topS 17
abbrev N_is_string_among : List Str := ["value", "strings"]
theorem sc_is_string_among : FnScope N_is_string_among ["value", "strings"] (defScope s_is_string_among) := ⟨rfl, rfl, rfl, by decide +kernel, rfl, by decide +kernel, by decide +kernel⟩
abbrev s_is_way : Stmt := topS 18
abbrev N_is_way : List Str := ["value", "choice", "since", "accept", "again", "back", "learn"]
theorem sc_is_way : FnScope N_is_way ["value"] (defScope s_is_way) := ⟨rfl, rfl, rfl, by decide +kernel, rfl, by decide +kernel, by decide +kernel⟩
abbrev s_check_way : Stmt := topS 19
abbrev N_check_way : List Str := ["way"]
theorem sc_check_way : FnScope N_check_way ["way"] (defScope s_check_way) := ⟨rfl, rfl, rfl, by decide +kernel, rfl, by decide +kernel, by decide +kernel⟩
abbrev s_is_text : Stmt := topS 27
abbrev N_is_text : List Str := ["value", "letter"]
theorem sc_is_text : FnScope N_is_text ["value"] (defScope s_is_text) := ⟨rfl, rfl, rfl, by decide +kernel, rfl, by decide +kernel, by decide +kernel⟩
abbrev s_is_word : Stmt := topS 28
abbrev N_is_word : List Str := ["value"]
theorem sc_is_word : FnScope N_is_word ["value"] (defScope s_is_word) := ⟨rfl, rfl, rfl, by decide +kernel, rfl, by decide +kernel, by decide +kernel⟩
abbrev s_is_list : Stmt := topS 29
abbrev N_is_list : List Str := ["value", "word"]
theorem sc_is_list : FnScope N_is_list ["value"] (defScope s_is_list) := ⟨rfl, rfl, rfl, by decide +kernel, rfl, by decide +kernel, by decide +kernel⟩
abbrev s_check_list : Stmt := topS 30
abbrev N_check_list : List Str := ["words"]
theorem sc_check_list : FnScope N_check_list ["words"] (defScope s_check_list) := ⟨rfl, rfl, rfl, by decide +kernel, rfl, by decide +kernel, by decide +kernel⟩
abbrev s_first_state : Stmt := topS 33
abbrev N_first_state : List Str := ["words"]
theorem sc_first_state : FnScope N_first_state ["words"] (defScope s_first_state) := ⟨rfl, rfl, rfl, by decide +kernel, rfl, by decide +kernel, by decide +kernel⟩
abbrev s_check_sight : Stmt := topS 48
abbrev N_check_sight : List Str := ["sight"]
theorem sc_check_sight : FnScope N_check_sight ["sight"] (defScope s_check_sight) := ⟨rfl, rfl, rfl, by decide +kernel, rfl, by decide +kernel, by decide +kernel⟩
abbrev s_is_key : Stmt := topS 55
abbrev N_is_key : List Str := ["value"]
theorem sc_is_key : FnScope N_is_key ["value"] (defScope s_is_key) := ⟨rfl, rfl, rfl, by decide +kernel, rfl, by decide +kernel, by decide +kernel⟩
abbrev s_is_row : Stmt := topS 56
abbrev N_is_row : List Str := ["value", "key"]
theorem sc_is_row : FnScope N_is_row ["value"] (defScope s_is_row) := ⟨rfl, rfl, rfl, by decide +kernel, rfl, by decide +kernel, by decide +kernel⟩
abbrev s_check_row : Stmt := topS 57
abbrev N_check_row : List Str := ["row"]
theorem sc_check_row : FnScope N_check_row ["row"] (defScope s_check_row) := ⟨rfl, rfl, rfl, by decide +kernel, rfl, by decide +kernel, by decide +kernel⟩

/-! ### the program: keys, ways, words -/
/-- what the top's other names hold: built-ins that are not hidden -/
structure Bi (mg : Str → Option Value) : Prop where
  nlen : mg "len" = none
  nisinstance : mg "isinstance" = none
  nall : mg "all" = none
  nmin : mg "min" = none
  ntuple : mg "tuple" = none
  nlist : mg "list" = none
  nset : mg "set" = none
  nsorted : mg "sorted" = none
  nrange : mg "range" = none
  nstr : mg "str" = none
  nint : mg "int" = none
  nbool : mg "bool" = none
def endS : List Str := ["blank", "end"]
structure Cn (K : PySem.W.Frag) (mg : Str → Option Value) : Prop where
  KEYS : GT K mg "KEYS" (keysS.map .str)
  ROW_KEYS : ∃ t, mg "ROW_KEYS" = some (.int 40 t)
  CHOICES : GT K mg "CHOICES" (choS.map .str)
  SINCES : GT K mg "SINCES" (([1, 2] : List Int).map .int)
  ACCEPTS : GT K mg "ACCEPTS" (accS.map .str)
  AGAINS : GT K mg "AGAINS" (agaS.map .str)
  BACKS : GT K mg "BACKS" (bacS.map .str)
  LEARNS : GT K mg "LEARNS" (([0, 1] : List Int).map .int)
  LETTERS : GT K mg "LETTERS" (letS.map .str)
  TEXT_LETTERS : ∃ t, mg "TEXT_LETTERS" = some (.int 4 t)
  WORD_LETTERS : ∃ t, mg "WORD_LETTERS" = some (.int 3 t)
  LIST_WORDS : ∃ t, mg "LIST_WORDS" = some (.int 3 t)
  FAMILY_WAYS : ∃ t, mg "FAMILY_WAYS" = some (.int 8 t)
  ROW_VIEWS : ∃ t, mg "ROW_VIEWS" = some (.int 40 t)
  LIST_RECORDS : ∃ t, mg "LIST_RECORDS" = some (.int 12 t)
  SIGHTS : GT K mg "SIGHTS" (([0, 1] : List Int).map .int)
section
variable {P : Program} {w : World} {K : PySem.W.Frag} {mg : Str → Option Value} {base : Heap}
/-! keys -/
def mIsKey (k : Str) : Bool := keysS.contains k
theorem cl_is_key (T : FT K mg "is_key" s_is_key ["value"]) (b : Bi mg) (c : Cn K mg) : Cl P w K mg base "is_key" 1 ["value"] (spA K (fun k : Str => [.str k]) (fun _ => True) fun k => .bool (mIsKey k)) := by
  obtain ⟨aKEYS, xKEYS, gKEYS, sKEYS, rKEYS⟩ := c.KEYS
  obtain ⟨nlen, nisinstance, nall, nmin, ntuple, nlist, nset, nsorted, nrange, nstr, nint, nbool⟩ := b
  refine clA T sc_is_key (fun _ => rfl) fun f cdv A outer s H E z hr _ => ?_
  have nd := sc_is_key.nd
  refine ⟨_, ((pss_one (ps_ret (pe_and (pe_callB (call_isJ rfl) (by rfl) nisinstance (by decide +kernel) (pa_cons (pv 0) (pa_cons (pe_bltn (v := .ty "str") (by rfl) nstr (by decide +kernel) rfl) pa_nil))) (pe_one (pe_cmpR (op_inK rfl) (pv 0) (pe_glob (v := .ref aKEYS) (by rfl) gKEYS rfl) rfl)))))), fun e Q hq => sd_nm [_] rfl ?_⟩
  refine sd_ret hq (ev_and (ev_isi (b := true) (ev_var rfl) kSS) fun _ => (ev_op (ev_var rfl) (ev_ktup sKEYS rKEYS) rd_inT)) ?_
  show _ = PyData.bool _
  simp [mIsKey]
end

section
variable {P : Program} {w : World} {K : PySem.W.Frag} {mg : Str → Option Value} {base : Heap}
def mIsRow (r : List Str) : Bool := decide (r.length ≤ 40) && r.all mIsKey
theorem cl_is_row (T : FT K mg "is_row" s_is_row ["value"]) (b : Bi mg) (c : Cn K mg) {k : Nat} (C_is_key : Cl P w K mg base "is_key" k ["value"] (spA K (fun k : Str => [.str k]) (fun _ => True) fun k => .bool (mIsKey k))) :
    Cl P w K mg base "is_row" (k + 1) ["value"] (spA K (fun r : List Str => [dL r]) (fun r => r.length ≤ 1000) fun r => .bool (mIsRow r)) := by
  obtain ⟨tROW_KEYS, gROW_KEYS⟩ := c.ROW_KEYS
  obtain ⟨nlen, nisinstance, nall, nmin, ntuple, nlist, nset, nsorted, nrange, nstr, nint, nbool⟩ := b
  refine clA T sc_is_row (fun _ => rfl) fun f cdv A outer s H E z hr hz => ?_
  have nd := sc_is_row.nd
  have hr_is_key := hr
  refine ⟨_, ((pss_cons (ps_if (PW.pt (pw_or (pt_not (pt_val (pe_callB (call_isJ rfl) (by rfl) nisinstance (by decide +kernel) (pa_cons (pv 0) (pa_cons (pe_bltn (v := .ty "list") (by rfl) nlist (by decide +kernel) rfl) pa_nil))))) (pw_or1 (pt_cmpR op_gt (pe_callB (call_lenK rfl) (by rfl) nlen (by decide +kernel) (pa_cons (pv 0) pa_nil)) (pe_glob (v := .int 40) (by rfl) gROW_KEYS ⟨_, rfl⟩) (nomark _)))))
      (pss_one (ps_ret pe_bl))
      pss_nil)
      (pss_one (ps_ret (pe_callB (cr_allK rfl rfl) (by rfl) nall (by decide +kernel) (pa_cons (pe_lc (own := [("key", 1)]) (g := gName 1) (tt := tYes) rfl nd (pi_listK rfl (pv 0)) (blkOk_by (N := N_is_row) (sc := (defScope s_is_row)) (by decide +kernel)) (fun _ _ _ _ _ => (pg_name (i := 1) nd rfl (by first | exact Or.inl rfl | exact Or.inr rfl))) (fun _ _ _ _ _ => pts_nil) (fun _ _ _ _ _ => (pe_cl C_is_key hr_is_key (by rfl) (pa_cons (pv 1) pa_nil)))) pa_nil)))))), fun e Q hq => sd_nm [_, _] rfl ?_⟩
  refine sd_seq (sd_if (et_or (et_not (et_B (ev_isi (b := true) (ev_var rfl) kLL))) fun _ => (et_test (ev_op (ev_cb (ea_cons (ev_var rfl) ea_nil) rc_lenL) ev_int rd_I0b))) (fun hb => ?_) (fun hb => sd_next ?_))
  · refine sd_ret hq ev_bl ?_
    rw [List.length_map, Bool.not_true, Bool.false_or, decide_eq_true_eq] at hb
    rw [mIsRow, decide_eq_false (by omega)]; rfl
  · refine sd_ret hq (ev_cb (ea_cons (ev_fz (ef_lcLm z .str (fun k => .bool (mIsKey k)) (ev_var rfl) rfl (by omega) (fun x hx => (ev_call x (ea_cons (ev_var rfl) ea_nil) rfl trivial)))) ea_nil) rc_allG) ?_
    rw [List.length_map, Bool.not_true, Bool.false_or, decide_eq_false_iff_not] at hb
    rw [mIsRow, decide_eq_true (by omega)]; rfl
theorem cl_check_row (T : FT K mg "check_row" s_check_row ["row"]) {k : Nat} (C_is_row : Cl P w K mg base "is_row" k ["value"] (spA K (fun r : List Str => [dL r]) (fun r => r.length ≤ 1000) fun r => .bool (mIsRow r))) :
    Cl P w K mg base "check_row" (k + 1) ["row"] (spA K (fun r : List Str => [dL r]) (fun r => mIsRow r = true) fun _ => .none) := by
  refine clA T sc_check_row (fun _ => rfl) fun f cdv A outer s H E z hr hz => ?_
  have nd := sc_check_row.nd
  have hr_is_row := hr
  have hl : z.length ≤ 1000 := by
    unfold mIsRow at hz
    rw [Bool.and_eq_true, decide_eq_true_eq] at hz
    omega
  refine ⟨_, ((pss_one (ps_if (pt_not (pt_val (pe_cl C_is_row hr_is_row (by rfl) (pa_cons (pv 0) pa_nil))))
      (pss_one ps_never)
      pss_nil))), fun e Q hq => sd_nm [_] rfl ?_⟩
  refine sd_if (et_not (et_B (ev_call z (ea_cons (ev_var rfl) ea_nil) rfl hl))) (fun hb => ?_) (fun hb => sd_end hq rfl)
  rw [hz] at hb
  cases hb
/-! ways -/
theorem cl_is_integer (T : FT K mg "is_integer" s_is_integer ["value"]) (b : Bi mg) : Cl P w K mg base "is_integer" 1 ["value"] (spA K (fun x : Int => [.int x]) (fun _ => True) fun _ => .bool true) := by
  obtain ⟨nlen, nisinstance, nall, nmin, ntuple, nlist, nset, nsorted, nrange, nstr, nint, nbool⟩ := b
  refine clA T sc_is_integer (fun _ => rfl) fun f cdv A outer s H E z hr hz => ?_
  have nd := sc_is_integer.nd
  refine ⟨_, ((pss_one (ps_ret (pe_and (pe_callB (call_isJ rfl) (by rfl) nisinstance (by decide +kernel) (pa_cons (pv 0) (pa_cons (pe_bltn (v := .ty "int") (by rfl) nint (by decide +kernel) rfl) pa_nil))) (pe_one (pe_not (pe_callB (call_isJ rfl) (by rfl) nisinstance (by decide +kernel) (pa_cons (pv 0) (pa_cons (pe_bltn (v := .ty "bool") (by rfl) nbool (by decide +kernel) rfl) pa_nil))))))))), fun e Q hq => sd_nm [_] rfl ?_⟩
  exact sd_ret hq (ev_and (ev_isi (b := true) (ev_var rfl) kII) fun _ => (ev_not (ev_isi (b := false) (ev_var rfl) kIB))) rfl
theorem cl_is_integer_among (T : FT K mg "is_integer_among" s_is_integer_among ["value", "numbers"]) {k : Nat} (C_is_integer : Cl P w K mg base "is_integer" k ["value"] (spA K (fun x : Int => [.int x]) (fun _ => True) fun _ => .bool true)) : Cl P w K mg base "is_integer_among" (k + 1) ["value", "numbers"] (spA K (fun x : Int × List Int => [.int x.1, .tuple (x.2.map .int)]) (fun _ => True) fun x => .bool (x.2.contains x.1)) := by
  refine clA T sc_is_integer_among (fun _ => rfl) fun f cdv A outer s H E z hr hz => ?_
  have nd := sc_is_integer_among.nd
  have hr_is_integer := hr
  refine ⟨_, ((pss_one (ps_ret (pe_and (pe_cl C_is_integer hr_is_integer (by rfl) (pa_cons (pv 0) pa_nil)) (pe_one (pe_cmpR (op_inK rfl) (pv 0) (pv 1) rfl)))))), fun e Q hq => sd_nm [_, _] rfl ?_⟩
  refine sd_ret hq (ev_and (ev_call z.1 (ea_cons (ev_var rfl) ea_nil) rfl trivial) fun _ => (ev_op (ev_var rfl) (ev_var rfl) rd_inTI)) ?_
  rw [Bool.true_and, if_neg Bool.false_ne_true]
theorem cl_is_string_among (T : FT K mg "is_string_among" s_is_string_among ["value", "strings"]) (b : Bi mg) : Cl P w K mg base "is_string_among" 1 ["value", "strings"] (spA K (fun x : Str × List Str => [.str x.1, dT x.2]) (fun _ => True) fun x => .bool (x.2.contains x.1)) := by
  obtain ⟨nlen, nisinstance, nall, nmin, ntuple, nlist, nset, nsorted, nrange, nstr, nint, nbool⟩ := b
  refine clA T sc_is_string_among (fun _ => rfl) fun f cdv A outer s H E z hr hz => ?_
  have nd := sc_is_string_among.nd
  refine ⟨_, ((pss_one (ps_ret (pe_and (pe_callB (call_isJ rfl) (by rfl) nisinstance (by decide +kernel) (pa_cons (pv 0) (pa_cons (pe_bltn (v := .ty "str") (by rfl) nstr (by decide +kernel) rfl) pa_nil))) (pe_one (pe_cmpR (op_inK rfl) (pv 0) (pv 1) rfl)))))), fun e Q hq => sd_nm [_, _] rfl ?_⟩
  refine sd_ret hq (ev_and (ev_isi (b := true) (ev_var rfl) kSS) fun _ => (ev_op (ev_var rfl) (ev_var rfl) rd_inT)) ?_
  rw [Bool.true_and, if_neg Bool.false_ne_true]
def mIsWay (w : Way) : Bool := choS.contains w.ch && (([1, 2] : List Int).contains w.si && (accS.contains w.ac && (agaS.contains w.ag && (bacS.contains w.bk && ([0, 1] : List Int).contains w.ln))))
theorem cl_is_way (T : FT K mg "is_way" s_is_way ["value"]) (b : Bi mg) (c : Cn K mg) {k : Nat} (C_is_integer_among : Cl P w K mg base "is_integer_among" k ["value", "numbers"] (spA K (fun x : Int × List Int => [.int x.1, .tuple (x.2.map .int)]) (fun _ => True) fun x => .bool (x.2.contains x.1)))
    (C_is_string_among : Cl P w K mg base "is_string_among" k ["value", "strings"] (spA K (fun x : Str × List Str => [.str x.1, dT x.2]) (fun _ => True) fun x => .bool (x.2.contains x.1))) :
    Cl P w K mg base "is_way" (k + 1) ["value"] (spA K (fun y : Way => [eW y]) (fun _ => True) fun y => .bool (mIsWay y)) := by
  obtain ⟨aCHOICES, xCHOICES, gCHOICES, sCHOICES, rCHOICES⟩ := c.CHOICES
  obtain ⟨aSINCES, xSINCES, gSINCES, sSINCES, rSINCES⟩ := c.SINCES
  obtain ⟨aACCEPTS, xACCEPTS, gACCEPTS, sACCEPTS, rACCEPTS⟩ := c.ACCEPTS
  obtain ⟨aAGAINS, xAGAINS, gAGAINS, sAGAINS, rAGAINS⟩ := c.AGAINS
  obtain ⟨aBACKS, xBACKS, gBACKS, sBACKS, rBACKS⟩ := c.BACKS
  obtain ⟨aLEARNS, xLEARNS, gLEARNS, sLEARNS, rLEARNS⟩ := c.LEARNS
  obtain ⟨nlen, nisinstance, nall, nmin, ntuple, nlist, nset, nsorted, nrange, nstr, nint, nbool⟩ := b
  refine clA T sc_is_way (fun _ => rfl) fun f cdv A outer s H E z hr hz => ?_
  have nd := sc_is_way.nd
  have hr_is_string_among := hr
  have hr_is_integer_among := hr
  refine ⟨_, ((pss_cons (ps_if (PW.pt (pw_or (pt_not (pt_val (pe_callB (call_isJ rfl) (by rfl) nisinstance (by decide +kernel) (pa_cons (pv 0) (pa_cons (pe_bltn (v := .ty "tuple") (by rfl) ntuple (by decide +kernel) rfl) pa_nil))))) (pw_or1 (pt_cmpR op_ne (pe_callB (call_lenK rfl) (by rfl) nlen (by decide +kernel) (pa_cons (pv 0) pa_nil)) pe_int (nomark _)))))
      (pss_one (ps_ret pe_bl))
      pss_nil)
      (pss_cons (ps_asg (pv 0) (pg_tupK rfl rfl (pgs_cons (pg_name (i := 1) nd rfl (by first | exact Or.inl rfl | exact Or.inr rfl)) (pgs_cons (pg_name (i := 2) nd rfl (by first | exact Or.inl rfl | exact Or.inr rfl)) (pgs_cons (pg_name (i := 3) nd rfl (by first | exact Or.inl rfl | exact Or.inr rfl)) (pgs_cons (pg_name (i := 4) nd rfl (by first | exact Or.inl rfl | exact Or.inr rfl)) (pgs_cons (pg_name (i := 5) nd rfl (by first | exact Or.inl rfl | exact Or.inr rfl)) (pgs_cons (pg_name (i := 6) nd rfl (by first | exact Or.inl rfl | exact Or.inr rfl)) pgs_nil))))))))
      (pss_one (ps_ret (pe_and (pe_cl C_is_string_among hr_is_string_among (by rfl) (pa_cons (pv 1) (pa_cons (pe_glob (v := .ref aCHOICES) (by rfl) gCHOICES rfl) pa_nil))) (pe_and (pe_cl C_is_integer_among hr_is_integer_among (by rfl) (pa_cons (pv 2) (pa_cons (pe_glob (v := .ref aSINCES) (by rfl) gSINCES rfl) pa_nil))) (pe_and (pe_cl C_is_string_among hr_is_string_among (by rfl) (pa_cons (pv 3) (pa_cons (pe_glob (v := .ref aACCEPTS) (by rfl) gACCEPTS rfl) pa_nil))) (pe_and (pe_cl C_is_string_among hr_is_string_among (by rfl) (pa_cons (pv 4) (pa_cons (pe_glob (v := .ref aAGAINS) (by rfl) gAGAINS rfl) pa_nil))) (pe_and (pe_cl C_is_string_among hr_is_string_among (by rfl) (pa_cons (pv 5) (pa_cons (pe_glob (v := .ref aBACKS) (by rfl) gBACKS rfl) pa_nil))) (pe_one (pe_cl C_is_integer_among hr_is_integer_among (by rfl) (pa_cons (pv 6) (pa_cons (pe_glob (v := .ref aLEARNS) (by rfl) gLEARNS rfl) pa_nil)))))))))))))), fun e Q hq => sd_nm [_, _, _, _, _, _, _] rfl ?_⟩
  refine sd_seq (sd_if (et_or (et_not (et_B (ev_isi (b := true) (ev_var rfl) kTT))) fun _ => (et_test (ev_op (ev_cb (ea_cons (ev_var rfl) ea_nil) rc_lenT) ev_int rd_neI))) (fun hb => ?_) (fun hb => sd_next ?_))
  · exact absurd hb Bool.false_ne_true
  refine sd_seq (sd_unpack (ev_var rfl) (gd_cons (gd_cons (gd_cons (gd_cons (gd_cons (gd_cons gd_nil)))))) rfl (sd_nxt [_, _, _, _, _, _, _] rfl ?_))
  exact sd_ret hq (ev_and (ev_call (z.ch, choS) (ea_cons (ev_var rfl) (ea_cons (ev_ktup sCHOICES rCHOICES) ea_nil)) rfl trivial) fun _ => (ev_and (ev_call (z.si, [1, 2]) (ea_cons (ev_var rfl) (ea_cons (ev_ktup sSINCES rSINCES) ea_nil)) rfl trivial) fun _ => (ev_and (ev_call (z.ac, accS) (ea_cons (ev_var rfl) (ea_cons (ev_ktup sACCEPTS rACCEPTS) ea_nil)) rfl trivial) fun _ => (ev_and (ev_call (z.ag, agaS) (ea_cons (ev_var rfl) (ea_cons (ev_ktup sAGAINS rAGAINS) ea_nil)) rfl trivial) fun _ => (ev_and (ev_call (z.bk, bacS) (ea_cons (ev_var rfl) (ea_cons (ev_ktup sBACKS rBACKS) ea_nil)) rfl trivial) fun _ => (ev_call (z.ln, [0, 1]) (ea_cons (ev_var rfl) (ea_cons (ev_ktup sLEARNS rLEARNS) ea_nil)) rfl trivial)))))) rfl
theorem cl_check_way (T : FT K mg "check_way" s_check_way ["way"]) {k : Nat} (C_is_way : Cl P w K mg base "is_way" k ["value"] (spA K (fun y : Way => [eW y]) (fun _ => True) fun y => .bool (mIsWay y))) :
    Cl P w K mg base "check_way" (k + 1) ["way"] (spA K (fun y : Way => [eW y]) (fun y => mIsWay y = true) fun _ => .none) := by
  refine clA T sc_check_way (fun _ => rfl) fun f cdv A outer s H E z hr hz => ?_
  have nd := sc_check_way.nd
  have hr_is_way := hr
  refine ⟨_, ((pss_one (ps_if (pt_not (pt_val (pe_cl C_is_way hr_is_way (by rfl) (pa_cons (pv 0) pa_nil))))
      (pss_one ps_never)
      pss_nil))), fun e Q hq => sd_nm [_] rfl ?_⟩
  refine sd_if (et_not (et_B (ev_call z (ea_cons (ev_var rfl) ea_nil) rfl trivial))) (fun hb => ?_) (fun hb => sd_end hq rfl)
  rw [hz] at hb
  cases hb
/-! words -/
def mIsText (x : Str) : Bool := decide (x.length ≤ 4) && (sgns x).all letS.contains
theorem cl_is_text (T : FT K mg "is_text" s_is_text ["value"]) (b : Bi mg) (c : Cn K mg) : Cl P w K mg base "is_text" 1 ["value"] (spA K (fun x : Str => [.str x]) (fun x => x.length ≤ 1000) fun x => .bool (mIsText x)) := by
  obtain ⟨tTEXT_LETTERS, gTEXT_LETTERS⟩ := c.TEXT_LETTERS
  obtain ⟨aLETTERS, xLETTERS, gLETTERS, sLETTERS, rLETTERS⟩ := c.LETTERS
  obtain ⟨nlen, nisinstance, nall, nmin, ntuple, nlist, nset, nsorted, nrange, nstr, nint, nbool⟩ := b
  refine clA T sc_is_text (fun _ => rfl) fun f cdv A outer s H E z hr hz => ?_
  have nd := sc_is_text.nd
  refine ⟨_, ((pss_cons (ps_if (PW.pt (pw_or (pt_not (pt_val (pe_callB (call_isJ rfl) (by rfl) nisinstance (by decide +kernel) (pa_cons (pv 0) (pa_cons (pe_bltn (v := .ty "str") (by rfl) nstr (by decide +kernel) rfl) pa_nil))))) (pw_or1 (pt_cmpR op_gt (pe_callB call_len_str (by rfl) nlen (by decide +kernel) (pa_cons (pv 0) pa_nil)) (pe_glob (v := .int 4) (by rfl) gTEXT_LETTERS ⟨_, rfl⟩) (nomark _)))))
      (pss_one (ps_ret pe_bl))
      pss_nil)
      (pss_one (ps_ret (pe_callB (cr_allK rfl rfl) (by rfl) nall (by decide +kernel) (pa_cons (pe_lc (own := [("letter", 1)]) (g := gName 1) (tt := tYes) rfl nd (pi_str (pv 0)) (blkOk_by (N := N_is_text) (sc := (defScope s_is_text)) (by decide +kernel)) (fun _ _ _ _ _ => (pg_name (i := 1) nd rfl (by first | exact Or.inl rfl | exact Or.inr rfl))) (fun _ _ _ _ _ => pts_nil) (fun _ _ _ _ _ => (pe_cmpR (op_inK rfl) (pv 1) (pe_glob (v := .ref aLETTERS) (by rfl) gLETTERS rfl) rfl))) pa_nil)))))), fun e Q hq => sd_nm [_, _] rfl ?_⟩
  refine sd_seq (sd_if (et_or (et_not (et_B (ev_isi (b := true) (ev_var rfl) kSS))) fun _ => (et_test (ev_op (ev_cb (ea_cons (ev_var rfl) ea_nil) (rc_lenS hz)) ev_int rd_I0b))) (fun hb => ?_) (fun hb => sd_next ?_))
  · refine sd_ret hq ev_bl ?_
    rw [Bool.not_true, Bool.false_or, decide_eq_true_eq] at hb
    rw [mIsText, decide_eq_false (by omega)]; rfl
  · refine sd_ret hq (ev_cb (ea_cons (ev_fz (ef_lcSm z (fun c => .bool (letS.contains c)) (ev_var rfl) rfl (by omega) (fun x hx => (ev_op (ev_var rfl) (ev_ktup sLETTERS rLETTERS) (rd_inT (neg := false) (ys := letS)))))) ea_nil) rc_allG) ?_
    rw [Bool.not_true, Bool.false_or, decide_eq_false_iff_not] at hb
    rw [mIsText, decide_eq_true (by omega)]; rfl
def mIsWord (x : Str) : Bool := mIsText x && (decide (1 ≤ (x.length : Int)) && decide ((x.length : Int) ≤ 3))
theorem cl_is_word (T : FT K mg "is_word" s_is_word ["value"]) (b : Bi mg) (c : Cn K mg) {k : Nat} (C_is_text : Cl P w K mg base "is_text" k ["value"] (spA K (fun x : Str => [.str x]) (fun x => x.length ≤ 1000) fun x => .bool (mIsText x))) : Cl P w K mg base "is_word" (k + 1) ["value"] (spA K (fun x : Str => [.str x]) (fun x => x.length ≤ 1000) fun x => .bool (mIsWord x)) := by
  obtain ⟨tWORD_LETTERS, gWORD_LETTERS⟩ := c.WORD_LETTERS
  obtain ⟨nlen, nisinstance, nall, nmin, ntuple, nlist, nset, nsorted, nrange, nstr, nint, nbool⟩ := b
  refine clA T sc_is_word (fun _ => rfl) fun f cdv A outer s H E z hr hz => ?_
  have nd := sc_is_word.nd
  have hr_is_text := hr
  refine ⟨_, ((pss_one (ps_ret (pe_and (pe_cl C_is_text hr_is_text (by rfl) (pa_cons (pv 0) pa_nil)) (pe_one (pe_chain op_le op_le pe_int (pe_callB call_len_str (by rfl) nlen (by decide +kernel) (pa_cons (pv 0) pa_nil)) (pe_glob (v := .int 3) (by rfl) gWORD_LETTERS ⟨_, rfl⟩))))))), fun e Q hq => sd_nm [_] rfl ?_⟩
  exact sd_ret hq (ev_and (ev_call z (ea_cons (ev_var rfl) ea_nil) rfl hz) fun _ => (ev_chain ev_int (ev_cb (ea_cons (ev_var rfl) ea_nil) (rc_lenS hz)) ev_int rd_I0b rd_I0b)) rfl
def mIsList (r : List Str) : Bool := (decide (1 ≤ (r.length : Int)) && decide ((r.length : Int) ≤ 3)) && (r.all mIsWord && decide ((((dd r).length : Nat) : Int) = (r.length : Int)))
theorem cl_is_list (T : FT K mg "is_list" s_is_list ["value"]) (b : Bi mg) (c : Cn K mg) {k : Nat} (C_is_word : Cl P w K mg base "is_word" k ["value"] (spA K (fun x : Str => [.str x]) (fun x => x.length ≤ 1000) fun x => .bool (mIsWord x))) : Cl P w K mg base "is_list" (k + 1) ["value"] (spA K (fun r : List Str => [dL r]) (fun r => r.length ≤ 1000 ∧ ∀ x ∈ r, x.length ≤ 1000) fun r => .bool (mIsList r)) := by
  obtain ⟨tLIST_WORDS, gLIST_WORDS⟩ := c.LIST_WORDS
  obtain ⟨nlen, nisinstance, nall, nmin, ntuple, nlist, nset, nsorted, nrange, nstr, nint, nbool⟩ := b
  refine clA T sc_is_list (fun _ => rfl) fun f cdv A outer s H E z hr hz => ?_
  have nd := sc_is_list.nd
  have hr_is_word := hr
  refine ⟨_, ((pss_cons (ps_if (PW.pt (pw_or (pt_not (pt_val (pe_callB (call_isJ rfl) (by rfl) nisinstance (by decide +kernel) (pa_cons (pv 0) (pa_cons (pe_bltn (v := .ty "list") (by rfl) nlist (by decide +kernel) rfl) pa_nil))))) (pw_or1 (pt_not (pt_chain op_le op_le pe_int (pe_callB (call_lenK rfl) (by rfl) nlen (by decide +kernel) (pa_cons (pv 0) pa_nil)) (pe_glob (v := .int 3) (by rfl) gLIST_WORDS ⟨_, rfl⟩))))))
      (pss_one (ps_ret pe_bl))
      pss_nil)
      (pss_one (ps_ret (pe_and (pe_callB (cr_allK rfl rfl) (by rfl) nall (by decide +kernel) (pa_cons (pe_lc (own := [("word", 1)]) (g := gName 1) (tt := tYes) rfl nd (pi_listK rfl (pv 0)) (blkOk_by (N := N_is_list) (sc := (defScope s_is_list)) (by decide +kernel)) (fun _ _ _ _ _ => (pg_name (i := 1) nd rfl (by first | exact Or.inl rfl | exact Or.inr rfl))) (fun _ _ _ _ _ => pts_nil) (fun _ _ _ _ _ => (pe_cl C_is_word hr_is_word (by rfl) (pa_cons (pv 1) pa_nil)))) pa_nil)) (pe_one (pe_cmpR op_eq (pe_lenSetK rfl rfl (by rfl) nlen (by rfl) nset (pv 0)) (pe_callB (call_lenK rfl) (by rfl) nlen (by decide +kernel) (pa_cons (pv 0) pa_nil)) (nomark _)))))))), fun e Q hq => sd_nm [_, _] rfl ?_⟩
  refine sd_seq (sd_if (et_or (et_not (et_B (ev_isi (b := true) (ev_var rfl) kLL))) fun _ => (et_not (et_test (ev_chain ev_int (ev_cb (ea_cons (ev_var rfl) ea_nil) rc_lenL) ev_int rd_I0b rd_I0b)))) (fun hb => ?_) (fun hb => sd_next ?_))
  · refine sd_ret hq ev_bl ?_
    rw [List.length_map, Bool.not_true, Bool.false_or, Bool.not_eq_true'] at hb
    rw [mIsList, hb]; rfl
  · rw [List.length_map, Bool.not_true, Bool.false_or, Bool.not_eq_false'] at hb
    refine sd_ret hq (ev_and (ev_cb (ea_cons (ev_fz (ef_lcLm z .str (fun x => .bool (mIsWord x)) (ev_var rfl) rfl (by omega) (fun x hx => (ev_call x (ea_cons (ev_var rfl) ea_nil) rfl (hz.2 x hx))))) ea_nil) rc_allG) fun _ => (ev_op (ev_lenSetS (ev_var rfl) hz.1) (ev_cb (ea_cons (ev_var rfl) ea_nil) rc_lenL) rd_eqI)) ?_
    rw [mIsList, hb, List.length_map]; rfl
theorem cl_check_list (T : FT K mg "check_list" s_check_list ["words"]) {k : Nat} (C_is_list : Cl P w K mg base "is_list" k ["value"] (spA K (fun r : List Str => [dL r]) (fun r => r.length ≤ 1000 ∧ ∀ x ∈ r, x.length ≤ 1000) fun r => .bool (mIsList r))) :
    Cl P w K mg base "check_list" (k + 1) ["words"] (spA K (fun r : List Str => [dL r]) (fun r => mIsList r = true) fun _ => .none) := by
  refine clA T sc_check_list (fun _ => rfl) fun f cdv A outer s H E z hr hz => ?_
  have nd := sc_check_list.nd
  have hr_is_list := hr
  have hl : z.length ≤ 1000 ∧ ∀ x ∈ z, x.length ≤ 1000 := by
    unfold mIsList at hz
    simp only [Bool.and_eq_true, decide_eq_true_eq, List.all_eq_true] at hz
    refine ⟨by omega, fun x hx => ?_⟩
    have h := hz.2.1 x hx
    unfold mIsWord at h
    simp only [Bool.and_eq_true, decide_eq_true_eq] at h
    omega
  refine ⟨_, ((pss_one (ps_if (pt_not (pt_val (pe_cl C_is_list hr_is_list (by rfl) (pa_cons (pv 0) pa_nil))))
      (pss_one ps_never)
      pss_nil))), fun e Q hq => sd_nm [_] rfl ?_⟩
  refine sd_if (et_not (et_B (ev_call z (ea_cons (ev_var rfl) ea_nil) rfl hl))) (fun hb => ?_) (fun hb => sd_end hq rfl)
  rw [hz] at hb
  cases hb
theorem cl_check_sight (T : FT K mg "check_sight" s_check_sight ["sight"]) (c : Cn K mg) {k : Nat} (C_is_integer_among : Cl P w K mg base "is_integer_among" k ["value", "numbers"] (spA K (fun x : Int × List Int => [.int x.1, .tuple (x.2.map .int)]) (fun _ => True) fun x => .bool (x.2.contains x.1))) :
    Cl P w K mg base "check_sight" (k + 1) ["sight"] (spA K (fun i : Int => [.int i]) (fun i => i = 0 ∨ i = 1) fun _ => .none) := by
  obtain ⟨aSIGHTS, xSIGHTS, gSIGHTS, sSIGHTS, rSIGHTS⟩ := c.SIGHTS
  refine clA T sc_check_sight (fun _ => rfl) fun f cdv A outer s H E z hr hz => ?_
  have nd := sc_check_sight.nd
  have hr_is_integer_among := hr
  refine ⟨_, ((pss_one (ps_if (pt_not (pt_val (pe_cl C_is_integer_among hr_is_integer_among (by rfl) (pa_cons (pv 0) (pa_cons (pe_glob (v := .ref aSIGHTS) (by rfl) gSIGHTS rfl) pa_nil)))))
      (pss_one ps_never)
      pss_nil))), fun e Q hq => sd_nm [_] rfl ?_⟩
  refine sd_if (et_not (et_B (ev_call (z, [0, 1]) (ea_cons (ev_var rfl) (ea_cons (ev_ktup sSIGHTS rSIGHTS) ea_nil)) rfl trivial))) (fun hb => ?_) (fun hb => sd_end hq rfl)
  rcases hz with rfl | rfl <;> cases hb
theorem cl_first_state (T : FT K mg "first_state" s_first_state ["words"]) (b : Bi mg) : Cl P w K mg base "first_state" 1 ["words"] (spA K (fun r : List Str => [dL r]) (fun _ => True) fun r => eS ⟨"", "", 0, r, ""⟩) := by
  obtain ⟨nlen, nisinstance, nall, nmin, ntuple, nlist, nset, nsorted, nrange, nstr, nint, nbool⟩ := b
  refine clA T sc_first_state (fun _ => rfl) fun f cdv A outer s H E z hr hz => ?_
  have nd := sc_first_state.nd
  refine ⟨_, ((pss_one (ps_ret (pe_tup (pa_cons pe_str (pa_cons pe_str (pa_cons pe_int (pa_cons (pe_callTy (call_tupleK rfl) (by rfl) ntuple (by decide +kernel) (pa_cons (pv 0) pa_nil)) (pa_cons pe_str pa_nil))))))))), fun e Q hq => sd_nm [_] rfl ?_⟩
  exact sd_ret hq (ev_tup (ea_cons ev_str (ea_cons ev_str (ea_cons ev_int (ea_cons (ev_cb (ea_cons (ev_var rfl) ea_nil) rc_tupL) (ea_cons ev_str ea_nil)))))) rfl
end

end Fo
namespace Fo
open PySem PySem.Spec PyProof.Rows L2 DL DR
abbrev s_fitting_words : Stmt := topS 34
abbrev N_fitting_words : List Str := ["text", "order", "word"]
theorem sc_fitting_words : FnScope N_fitting_words ["text", "order"] (defScope s_fitting_words) := ⟨rfl, rfl, rfl, by decide +kernel, rfl, by decide +kernel, by decide +kernel⟩
abbrev s_common_beginning : Stmt := topS 35
abbrev N_common_beginning : List Str := ["texts", "common", "text"]
theorem sc_common_beginning : FnScope N_common_beginning ["texts"] (defScope s_common_beginning) := ⟨rfl, rfl, rfl, by decide +kernel, rfl, by decide +kernel, by decide +kernel⟩
abbrev s_chosen_of : Stmt := topS 36
abbrev N_chosen_of : List Str := ["choice", "texts"]
theorem sc_chosen_of : FnScope N_chosen_of ["choice", "texts"] (defScope s_chosen_of) := ⟨rfl, rfl, rfl, by decide +kernel, rfl, by decide +kernel, by decide +kernel⟩
abbrev s_open_offer : Stmt := topS 37
abbrev N_open_offer : List Str := ["way", "text", "order", "choice", "since", "accept", "again", "back", "learn", "rests", "word"]
theorem sc_open_offer : FnScope N_open_offer ["way", "text", "order"] (defScope s_open_offer) := ⟨rfl, rfl, rfl, by decide +kernel, rfl, by decide +kernel, by decide +kernel⟩
abbrev s_offer_of : Stmt := topS 38
abbrev N_offer_of : List Str := ["way", "state", "text", "begun", "quiet", "order", "put"]
theorem sc_offer_of : FnScope N_offer_of ["way", "state"] (defScope s_offer_of) := ⟨rfl, rfl, rfl, by decide +kernel, rfl, by decide +kernel, by decide +kernel⟩

section
variable {P : Program} {w : World} {K : PySem.W.Frag} {mg : Str → Option Value} {base : Heap}
/-! offers -/
def Bd (s : Sta) : Prop := s.tx.length ≤ 100 ∧ (∀ x ∈ s.od, x.length ≤ 100) ∧ s.od.length ≤ 100
theorem Ok.bd {s : Sta} (o : Ok s) : Bd s := ⟨Nat.le_trans o.tx (by decide), fun x hx => Nat.le_trans (o.od x hx) (by decide), Nat.le_trans o.ol (by decide)⟩
abbrev spFit (K : PySem.W.Frag) : Sp := spA K (fun x : Str × List Str => [.str x.1, dT x.2]) (fun x => x.1.length ≤ 100 ∧ (∀ y ∈ x.2, y.length ≤ 100) ∧ x.2.length ≤ 100) fun x => dL (mFit x.1 x.2)
theorem cl_fitting_words (T : FT K mg "fitting_words" s_fitting_words ["text", "order"]) (b : Bi mg) : Cl P w K mg base "fitting_words" 1 ["text", "order"] (spFit K) := by
  obtain ⟨nlen, nisinstance, nall, nmin, ntuple, nlist, nset, nsorted, nrange, nstr, nint, nbool⟩ := b
  refine clA T sc_fitting_words (fun _ => rfl) fun f cdv A outer s H E z hr hz => ?_
  have nd := sc_fitting_words.nd
  refine ⟨_, ((pss_one (ps_ret (pe_lc (own := [("word", 2)]) (g := gName 2) (tt := _) rfl nd (pi_tupK rfl (pv 1)) (blkOk_by (N := N_fitting_words) (sc := (defScope s_fitting_words)) (by decide +kernel)) (fun _ _ _ _ _ => (pg_name (i := 2) nd rfl (by first | exact Or.inl rfl | exact Or.inr rfl))) (fun _ _ _ _ _ => pts_one (PW.pt (pw_and (pt_val (pe_m1 PySem.F.slot_str_startswith PySem.F.type_str_startswith mt_startswith (pv 2) (pv 0))) (pw_and1 (pt_cmpR op_gt (pe_callB call_len_str (by rfl) nlen (by decide +kernel) (pa_cons (pv 2) pa_nil)) (pe_callB call_len_str (by rfl) nlen (by decide +kernel) (pa_cons (pv 0) pa_nil)) (nomark _)))))) (fun _ _ _ _ _ => (pv 2)))))), fun e Q hq => sd_nm [_, _, _] rfl ?_⟩
  exact sd_ret hq (ev_fz (ef_lcTp z.2 .str _ .str (ev_var rfl) rfl (by have := hz.2.2; omega) (fun x hx => (et_and (et_B (ev_m1 (ev_var rfl) (ev_var rfl))) fun _ => (et_test (ev_op (ev_cb (ea_cons (ev_var rfl) ea_nil) (rc_lenS (by have := hz.2.1 x hx; omega))) (ev_cb (ea_cons (ev_var rfl) ea_nil) (rc_lenS (by have := hz.1; omega))) rd_I0b)))) (fun x hx hb => (ev_var rfl)))) rfl
abbrev spCom (K : PySem.W.Frag) : Sp := spA K (fun x : List Str => [dL x]) (fun x => 0 < x.length ∧ (∀ y ∈ x, y.length ≤ 1000) ∧ x.length ≤ 1000) fun x => .str (mCom x)
theorem atI_zero {α : Type} {x : α} {r : List α} : atI (x :: r) 0 = some x := atI_nat (j := 0) rfl
theorem cl_common_beginning (T : FT K mg "common_beginning" s_common_beginning ["texts"]) (b : Bi mg) : Cl P w K mg base "common_beginning" 1 ["texts"] (spCom K) := by
  obtain ⟨nlen, nisinstance, nall, nmin, ntuple, nlist, nset, nsorted, nrange, nstr, nint, nbool⟩ := b
  refine clA T sc_common_beginning (fun _ => rfl) fun f cdv A outer s H E z hr hz => ?_
  have nd := sc_common_beginning.nd
  obtain ⟨x0, r0, rfl⟩ : ∃ x r, z = x :: r := by
    cases z with
    | nil => exact absurd hz.1 (Nat.lt_irrefl _)
    | cons x r => exact ⟨x, r, rfl⟩
  refine ⟨_, ((pss_cons (ps_set (i := 1) nd rfl (by first | exact Or.inl rfl | exact Or.inr rfl) (pe_ix (ix_listK rfl) (pv 0) pe_int (fun _ _ => rfl)))
      (pss_cons (ps_for PassesOwn.never rfl (pi_listK rfl (pv 0)) (pg_name (i := 2) nd rfl (by first | exact Or.inl rfl | exact Or.inr rfl))
      (pss_one (ps_while PassesOwn.never (pt_not (pt_val (pe_m1 PySem.F.slot_str_startswith PySem.F.type_str_startswith mt_startswith (pv 2) (pv 1))))
        (pss_one (ps_set (i := 1) nd rfl (by first | exact Or.inl rfl | exact Or.inr rfl) (pe_slice sl_str (pv 1) po_none (po_some (pe_un un_neg pe_int))))))))
      (pss_one (ps_ret (pv 1)))))), fun e Q hq => sd_nm [_, _, _] rfl ?_⟩
  refine sd_seq (sd_asg (ev_op (d := .str x0) (ev_var rfl) ev_int (rd_ixL (by exact atI_zero))) (sd_nxt [_, _, _] rfl ?_))
  have cl : ∀ (xs : List Str) (c : Str), (xs.foldl comStep c).length ≤ c.length := fun xs c => by
    have := (com_pre xs c).length_le
    rw [← len_L, ← len_L] at this
    exact this
  refine sd_seq (sd_forL (ev_var rfl) (fun i => [.val (dL (x0 :: r0)), .val (.str (((x0 :: r0).take i).foldl comStep x0)), .any]) (fun i => none) rfl rfl (fun i d B hB hd => ?_) (sd_next ?_))
  · rw [List.getElem?_map] at hd
    obtain ⟨t, ht, rfl⟩ := Option.map_eq_some_iff.mp hd
    let c0 := ((x0 :: r0).take i).foldl comStep x0
    have hc0 : c0.length ≤ 1000 := Nat.le_trans (cl _ _) (hz.2.1 x0 (List.mem_cons_self ..))
    refine sd_while (α := { c : Str // c.length ≤ 1000 ∧ shr t c.length c = shr t c0.length c0 }) ⟨c0, hc0, rfl⟩ (fun x => [.val (dL (x0 :: r0)), .val (.str x.1), .val (.str t)]) (fun x => x.1.length) (fun x => !Txt.startswith t x.1) rfl (fun x => (et_not (et_B (ev_m1 (ev_var rfl) (ev_var rfl))))) (fun x B hB hb => ?_) (fun x hb => ?_)
    · rw [Bool.not_eq_true'] at hb
      have hpos : 0 < x.1.length := by
        rcases Nat.eq_zero_or_pos x.1.length with q | q
        · rw [str_nil q, sw_nil] at hb; cases hb
        · exact q
      refine sd_asg (ev_slS (ev_var rfl) es_no (es_at (ev_neg ev_int)) x.2.1) ?_
      exact fun G H σ bb s => ⟨⟨cutS x.1 none (some (-1)), by rw [len_cutTo]; have := x.2.1; omega, by rw [shr_cut hb]; exact x.2.2⟩, by show (cutS x.1 none (some (-1))).length < x.1.length; rw [len_cutTo]; omega, G, bb, s⟩
    · rw [Bool.not_eq_false'] at hb
      have e1 : ((x0 :: r0).take (i + 1)).foldl comStep x0 = x.1 := by
        rw [List.take_add_one, ht, List.foldl_append]
        show comStep c0 t = x.1
        exact x.2.2.symm.trans (shr_id hb _)
      refine sd_any 2 ?_
      show SD _ _ _ tNext (lpE K e _ _ [.val (dL (x0 :: r0)), .val (.str (((x0 :: r0).take (i + 1)).foldl comStep x0)), .any] none) _ _
      rw [e1]
      exact fun G H σ bb s => ⟨G, bb, s⟩
  · refine sd_ret hq (ev_var rfl) ?_
    show PyData.str (((x0 :: r0).take ((x0 :: r0).map PyData.str).length).foldl comStep x0) = _
    rw [List.length_map, List.take_length]
    rfl
/-- the first of the shortest is the one -/
theorem min_best : ∀ (r : List Str) (b : Str), ∃ k : Nat, (b :: r)[k]? = some (r.foldl minStep b) ∧ ∀ (j : Nat) (y : Str), (b :: r)[j]? = some y → (r.foldl minStep b).length ≤ y.length ∧ (j < k → (r.foldl minStep b).length < y.length)
  | [], b => ⟨0, rfl, fun j y h => by
    cases j with
    | zero => cases h; exact ⟨Nat.le_refl _, fun z => absurd z (Nat.lt_irrefl _)⟩
    | succ j => cases h⟩
  | y :: r, b => by
    obtain ⟨k, h1, h2⟩ := min_best r (minStep b y)
    show ∃ k : Nat, (b :: y :: r)[k]? = some (r.foldl minStep (minStep b y)) ∧ ∀ (j : Nat) (z : Str), (b :: y :: r)[j]? = some z → (r.foldl minStep (minStep b y)).length ≤ z.length ∧ (j < k → (r.foldl minStep (minStep b y)).length < z.length)
    have h0 := (h2 0 _ rfl).1
    by_cases hlt : y.length < b.length
    · have e : minStep b y = y := by unfold minStep; rw [if_pos hlt]
      rw [e] at h1 h2 h0 ⊢
      refine ⟨k + 1, h1, fun j z hz => ?_⟩
      cases j with
      | zero =>
        cases hz
        exact ⟨by omega, fun _ => by omega⟩
      | succ j =>
        obtain ⟨a1, a2⟩ := h2 j z hz
        exact ⟨a1, fun hj => a2 (by omega)⟩
    · have e : minStep b y = b := by unfold minStep; rw [if_neg hlt]
      rw [e] at h1 h2 h0 ⊢
      cases k with
      | zero =>
        refine ⟨0, h1, fun j z hz => ?_⟩
        cases j with
        | zero => cases hz; exact ⟨h0, fun q => absurd q (Nat.lt_irrefl _)⟩
        | succ j =>
          cases j with
          | zero =>
            cases hz
            have hb : b = r.foldl minStep b := Option.some.inj h1
            exact ⟨by omega, fun q => absurd q (Nat.not_lt_zero _)⟩
          | succ j =>
            obtain ⟨a1, a2⟩ := h2 (j + 1) z hz
            exact ⟨a1, fun q => absurd q (Nat.not_lt_zero _)⟩
      | succ k =>
        have hlt2 := (h2 0 b rfl).2 (Nat.zero_lt_succ _)
        refine ⟨k + 2, h1, fun j z hz => ?_⟩
        cases j with
        | zero => cases hz; exact ⟨by omega, fun _ => hlt2⟩
        | succ j =>
          cases j with
          | zero => cases hz; exact ⟨by omega, fun _ => by omega⟩
          | succ j =>
            obtain ⟨a1, a2⟩ := h2 (j + 1) z hz
            exact ⟨a1, fun q => a2 (by omega)⟩
theorem mMin_uniq {xs : List Str} (hp : 0 < xs.length) (i : Nat) (z : Str) (hi : xs[i]? = some z) (hb : ∀ (j : Nat) (y : Str), xs[j]? = some y → z.length ≤ y.length ∧ (j < i → z.length < y.length)) : z = mMin xs := by
  cases xs with
  | nil => exact absurd hp (Nat.lt_irrefl _)
  | cons b r =>
    obtain ⟨k, h1, h2⟩ := min_best r b
    have e : i = k := by
      rcases Nat.lt_trichotomy i k with q | q | q
      · have a := (h2 i z hi).2 q
        have c := (hb k _ h1).1
        omega
      · exact q
      · have a := (hb k _ h1).2 q
        have c := (h2 i z hi).1
        omega
    subst e
    rw [hi] at h1
    exact Option.some.inj h1
theorem mRests_bd {s : Sta} (o : Bd s) : ∀ y ∈ mRests s.tx s.od, y.length ≤ 100 := fun y hy => by
  obtain ⟨x, hx, _, _, rfl⟩ := mRests_mem hy
  rw [len_cutFrom]
  have := o.2.1 x hx
  omega
/-- what is offered behind a text if nothing keeps it quiet -/
def opS (t : Str) (o : List Str) : Sta := ⟨t, "", 0, o, ""⟩
def mOpen (y : Way) (t : Str) (o : List Str) : Str := mOff y (opS t o)
theorem mOpen_eq (y : Way) (t : Str) (o : List Str) : mOpen y t o = if (decide ((t.length : Int) < y.si)) = true then ("" : Str) else if (mRests t o).length = 0 then ("" : Str) else if y.ch = "common" then mCom (mRests t o) else if y.ch = "short" then mMin (mRests t o) else (mRests t o).headD "" := rfl
theorem mOff_open (y : Way) (s : Sta) : mOff y s = if s.qu = 1 then ("" : Str) else mOpen y s.tx s.od := by
  by_cases h : s.qu = 1
  · rw [if_pos h]
    unfold mOff
    rw [h]
    rfl
  · rw [if_neg h, mOpen_eq]
    unfold mOff
    rw [decide_eq_false h, Bool.false_or]
def mCho (c : Str) (r : List Str) : Str := if c = "common" then mCom r else if c = "short" then mMin r else r.headD ""
abbrev spCho (K : PySem.W.Frag) : Sp := spA K (fun x : Str × List Str => [.str x.1, dL x.2]) (fun x => 0 < x.2.length ∧ (∀ y ∈ x.2, y.length ≤ 1000) ∧ x.2.length ≤ 1000) fun x => .str (mCho x.1 x.2)
theorem cl_chosen_of (T : FT K mg "chosen_of" s_chosen_of ["choice", "texts"]) (b : Bi mg) {k : Nat} (C_common_beginning : Cl P w K mg base "common_beginning" k ["texts"] (spCom K)) :
    Cl P w K mg base "chosen_of" (k + 1) ["choice", "texts"] (spCho K) := by
  obtain ⟨nlen, nisinstance, nall, nmin, ntuple, nlist, nset, nsorted, nrange, nstr, nint, nbool⟩ := b
  refine clA T sc_chosen_of (fun _ => rfl) fun f cdv A outer s H E z hr hz => ?_
  have nd := sc_chosen_of.nd
  have hr_common_beginning := hr
  obtain ⟨hz1, hz2, hz3⟩ := hz
  refine ⟨_, ((pss_cons (ps_if (pt_cmpR op_eq (pv 0) pe_str (nomark _))
      (pss_one (ps_ret (pe_cl C_common_beginning hr_common_beginning (by rfl) (pa_cons (pv 1) pa_nil))))
      pss_nil)
      (pss_cons (ps_if (pt_cmpR op_eq (pv 0) pe_str (nomark _))
      (pss_one (ps_ret (pe_minLenK rfl rfl (by rfl) nmin (by rfl) nlen (pv 1))))
      pss_nil)
      (pss_one (ps_ret (pe_ix (ix_listK rfl) (pv 1) pe_int (fun _ _ => rfl))))))), fun e Q hq => sd_nm [_, _] rfl ?_⟩
  refine sd_seq (sd_if (et_test (ev_op (ev_var rfl) ev_str rd_eqS)) (fun hb => ?_) (fun h3 => sd_next ?_))
  · refine sd_ret hq (ev_call z.2 (ea_cons (ev_var rfl) ea_nil) rfl ⟨hz1, hz2, hz3⟩) ?_
    unfold mCho
    rw [if_pos (of_decide_eq_true hb)]
  have g3 := of_decide_eq_false h3
  refine sd_seq (sd_if (et_test (ev_op (ev_var rfl) ev_str rd_eqS)) (fun hb => ?_) (fun h4 => sd_next ?_))
  · refine sd_ret hq (ev_minLen (ev_var rfl) (by omega) hz2 (mMin_uniq hz1)) ?_
    unfold mCho
    rw [if_neg g3, if_pos (of_decide_eq_true hb)]
  have g4 := of_decide_eq_false h4
  obtain ⟨x0, r0, e0⟩ : ∃ x r, z.2 = x :: r := by
    cases hh : z.2 with
    | nil => rw [hh] at hz1; exact absurd hz1 (Nat.lt_irrefl _)
    | cons x r => exact ⟨x, r, rfl⟩
  refine sd_ret hq (ev_op (d := .str x0) (ev_var rfl) ev_int (rd_ixL (by rw [e0]; exact atI_zero))) ?_
  unfold mCho
  rw [if_neg g3, if_neg g4, e0]
  rfl
theorem mOpen_cho (y : Way) (t : Str) (o : List Str) : mOpen y t o = if (decide ((t.length : Int) < y.si)) = true then ("" : Str) else if (mRests t o).length = 0 then ("" : Str) else mCho y.ch (mRests t o) := mOpen_eq y t o
abbrev spOpen (K : PySem.W.Frag) : Sp := spA K (fun x : Way × Str × List Str => [eW x.1, .str x.2.1, dT x.2.2]) (fun x => x.2.1.length ≤ 100 ∧ (∀ y ∈ x.2.2, y.length ≤ 100) ∧ x.2.2.length ≤ 100) fun x => .str (mOpen x.1 x.2.1 x.2.2)
theorem cl_open_offer (T : FT K mg "open_offer" s_open_offer ["way", "text", "order"]) (b : Bi mg) {k : Nat} (C_fitting_words : Cl P w K mg base "fitting_words" k ["text", "order"] (spFit K)) (C_chosen_of : Cl P w K mg base "chosen_of" k ["choice", "texts"] (spCho K)) :
    Cl P w K mg base "open_offer" (k + 1) ["way", "text", "order"] (spOpen K) := by
  obtain ⟨nlen, nisinstance, nall, nmin, ntuple, nlist, nset, nsorted, nrange, nstr, nint, nbool⟩ := b
  refine clA T sc_open_offer (fun _ => rfl) fun f cdv A outer s H E z hr hz => ?_
  have nd := sc_open_offer.nd
  have hr_fitting_words := hr
  have hr_chosen_of := hr
  have hl : (mRests z.2.1 z.2.2).length ≤ 100 := Nat.le_trans mRests_len hz.2.2
  have hrb := mRests_bd (s := opS z.2.1 z.2.2) hz
  refine ⟨_, ((pss_cons (ps_asg (pv 0) (pg_tupK rfl rfl (pgs_cons (pg_name (i := 3) nd rfl (by first | exact Or.inl rfl | exact Or.inr rfl)) (pgs_cons (pg_name (i := 4) nd rfl (by first | exact Or.inl rfl | exact Or.inr rfl)) (pgs_cons (pg_name (i := 5) nd rfl (by first | exact Or.inl rfl | exact Or.inr rfl)) (pgs_cons (pg_name (i := 6) nd rfl (by first | exact Or.inl rfl | exact Or.inr rfl)) (pgs_cons (pg_name (i := 7) nd rfl (by first | exact Or.inl rfl | exact Or.inr rfl)) (pgs_cons (pg_name (i := 8) nd rfl (by first | exact Or.inl rfl | exact Or.inr rfl)) pgs_nil))))))))
      (pss_cons (ps_if (pt_cmpR op_lt (pe_callB call_len_str (by rfl) nlen (by decide +kernel) (pa_cons (pv 1) pa_nil)) (pv 4) (nomark _))
      (pss_one (ps_ret pe_str))
      pss_nil)
      (pss_cons (ps_setLc (i := 9) (own := [("word", 10)]) (g := gName 10) (tt := tYes) rfl nd rfl rfl (sw_true rfl rfl rfl (by decide +kernel)) (pi_listK rfl (pe_cl C_fitting_words hr_fitting_words (by rfl) (pa_cons (pv 1) (pa_cons (pv 2) pa_nil)))) (blkOk_by (N := N_open_offer) (sc := (defScope s_open_offer)) (by decide +kernel)) (fun _ _ _ _ _ => (pg_name (i := 10) nd rfl (by first | exact Or.inl rfl | exact Or.inr rfl))) (fun _ _ _ _ _ => pts_nil) (fun _ _ _ _ _ => (pe_slice sl_str (pv 10) (po_some (pe_callB call_len_str (by rfl) nlen (by decide +kernel) (pa_cons (pv 1) pa_nil))) po_none)))
      (pss_cons (ps_if (pt_cmpR op_eq (pe_callB (call_lenK rfl) (by rfl) nlen (by decide +kernel) (pa_cons (pv 9) pa_nil)) pe_int (nomark _))
      (pss_one (ps_ret pe_str))
      pss_nil)
      (pss_one (ps_ret (pe_cl C_chosen_of hr_chosen_of (by rfl) (pa_cons (pv 3) (pa_cons (pv 9) pa_nil)))))))))), fun e Q hq => sd_nm [_, _, _, _, _, _, _, _, _, _, _] rfl ?_⟩
  refine sd_seq (sd_unpack (ev_var rfl) (gd_cons (gd_cons (gd_cons (gd_cons (gd_cons (gd_cons gd_nil)))))) rfl (sd_nxt [_, _, _, _, _, _, _, _, _, _, _] rfl ?_))
  refine sd_seq (sd_if (et_test (ev_op (ev_cb (ea_cons (ev_var rfl) ea_nil) (rc_lenS (by have := hz.1; omega))) (ev_var rfl) rd_I0b)) (fun hb => ?_) (fun h1 => sd_next ?_))
  · refine sd_ret hq ev_str ?_
    rw [mOpen_cho]
    rw [if_pos hb]
  have g1 : ¬ (decide ((z.2.1.length : Int) < z.1.si)) = true := by rw [h1]; exact Bool.false_ne_true
  refine sd_seq (sd_asg (d := dL (mRests z.2.1 z.2.2)) (Ev.of (ev_fz (ef_lcLm (mFit z.2.1 z.2.2) .str (fun x => .str (cutS x (some (z.2.1.length : Int)) none)) (ev_call (z.2.1, z.2.2) (ea_cons (ev_var rfl) (ea_cons (ev_var rfl) ea_nil)) rfl ⟨hz.1, hz.2⟩) rfl (Nat.le_trans mFit_len (Nat.le_trans hz.2.2 (by decide))) (fun x hx => (ev_slS (ev_var rfl) (es_at (ev_cb (ea_cons (ev_var rfl) ea_nil) (rc_lenS (by have := hz.1; omega)))) es_no (Nat.le_trans (hz.2.1 x (mFit_sub hx)) (by decide)))))) (by unfold mRests dL; rw [List.map_map]; rfl)) (sd_nxt [_, _, _, _, _, _, _, _, _, _, _] rfl ?_))
  refine sd_seq (sd_if (et_test (ev_op (ev_cb (ea_cons (ev_var rfl) ea_nil) rc_lenL) ev_int rd_eqI)) (fun hb => ?_) (fun h2 => sd_next ?_))
  · rw [List.length_map, decide_eq_true_eq] at hb
    refine sd_ret hq ev_str ?_
    rw [mOpen_cho]
    rw [if_neg g1, if_pos (by omega)]
  rw [List.length_map, decide_eq_false_iff_not] at h2
  have g2 : ¬ (mRests z.2.1 z.2.2).length = 0 := fun q => h2 (by rw [q]; rfl)
  refine sd_ret hq (ev_call (z.1.ch, mRests z.2.1 z.2.2) (ea_cons (ev_var rfl) (ea_cons (ev_var rfl) ea_nil)) rfl ⟨by show 0 < (mRests z.2.1 z.2.2).length; omega, fun y hy => Nat.le_trans (hrb y hy) (by decide), by show (mRests z.2.1 z.2.2).length ≤ 1000; omega⟩) ?_
  rw [mOpen_cho]
  rw [if_neg g1, if_neg g2]
abbrev spOff (K : PySem.W.Frag) : Sp := spA K (fun x : Way × Sta => [eW x.1, eS x.2]) (fun x => Bd x.2) fun x => .str (mOff x.1 x.2)
theorem cl_offer_of (T : FT K mg "offer_of" s_offer_of ["way", "state"]) {k : Nat} (C_open_offer : Cl P w K mg base "open_offer" k ["way", "text", "order"] (spOpen K)) :
    Cl P w K mg base "offer_of" (k + 1) ["way", "state"] (spOff K) := by
  refine clA T sc_offer_of (fun _ => rfl) fun f cdv A outer s H E z hr hz => ?_
  have nd := sc_offer_of.nd
  have hr_open_offer := hr
  refine ⟨_, ((pss_cons (ps_asg (pv 1) (pg_tupK rfl rfl (pgs_cons (pg_name (i := 2) nd rfl (by first | exact Or.inl rfl | exact Or.inr rfl)) (pgs_cons (pg_name (i := 3) nd rfl (by first | exact Or.inl rfl | exact Or.inr rfl)) (pgs_cons (pg_name (i := 4) nd rfl (by first | exact Or.inl rfl | exact Or.inr rfl)) (pgs_cons (pg_name (i := 5) nd rfl (by first | exact Or.inl rfl | exact Or.inr rfl)) (pgs_cons (pg_name (i := 6) nd rfl (by first | exact Or.inl rfl | exact Or.inr rfl)) pgs_nil)))))))
      (pss_cons (ps_if (pt_cmpR op_eq (pv 4) pe_int (nomark _))
      (pss_one (ps_ret pe_str))
      pss_nil)
      (pss_one (ps_ret (pe_cl C_open_offer hr_open_offer (by rfl) (pa_cons (pv 0) (pa_cons (pv 2) (pa_cons (pv 5) pa_nil))))))))), fun e Q hq => sd_nm [_, _, _, _, _, _, _] rfl ?_⟩
  refine sd_seq (sd_unpack (ev_var rfl) (gd_cons (gd_cons (gd_cons (gd_cons (gd_cons gd_nil))))) rfl (sd_nxt [_, _, _, _, _, _, _] rfl ?_))
  refine sd_seq (sd_if (et_test (ev_op (ev_var rfl) ev_int rd_eqI)) (fun hb => ?_) (fun hb => sd_next ?_))
  · refine sd_ret hq ev_str ?_
    rw [mOff_open, if_pos (of_decide_eq_true hb)]
  refine sd_ret hq (ev_call (z.1, z.2.tx, z.2.od) (ea_cons (ev_var rfl) (ea_cons (ev_var rfl) (ea_cons (ev_var rfl) ea_nil))) rfl hz) ?_
  rw [mOff_open, if_neg (of_decide_eq_false hb)]
end

end Fo
namespace Fo
open PySem PySem.Spec PyProof.Rows L2 DL DR
abbrev s_press_letter : Stmt := topS 39
abbrev N_press_letter : List Str := ["state", "letter", "text", "begun", "quiet", "order", "put"]
theorem sc_press_letter : FnScope N_press_letter ["state", "letter"] (defScope s_press_letter) := ⟨rfl, rfl, rfl, by decide +kernel, rfl, by decide +kernel, by decide +kernel⟩
abbrev s_word_behind : Stmt := topS 40
abbrev N_word_behind : List Str := ["text", "words"]
theorem sc_word_behind : FnScope N_word_behind ["text", "words"] (defScope s_word_behind) := ⟨rfl, rfl, rfl, by decide +kernel, rfl, by decide +kernel, by decide +kernel⟩
abbrev s_press_tab : Stmt := topS 41
abbrev N_press_tab : List Str := ["way", "state", "offer", "choice", "since", "accept", "again", "back", "learn", "text", "begun", "quiet", "order", "put"]
theorem sc_press_tab : FnScope N_press_tab ["way", "state", "offer"] (defScope s_press_tab) := ⟨rfl, rfl, rfl, by decide +kernel, rfl, by decide +kernel, by decide +kernel⟩
abbrev s_with_first : Stmt := topS 42
abbrev N_with_first : List Str := ["word", "order", "others", "other"]
theorem sc_with_first : FnScope N_with_first ["word", "order"] (defScope s_with_first) := ⟨rfl, rfl, rfl, by decide +kernel, rfl, by decide +kernel, by decide +kernel⟩
abbrev s_press_putting : Stmt := topS 43
abbrev N_press_putting : List Str := ["way", "state", "offer", "key", "choice", "since", "accept", "again", "back", "learn", "text", "begun", "quiet", "order", "put"]
theorem sc_press_putting : FnScope N_press_putting ["way", "state", "offer", "key"] (defScope s_press_putting) := ⟨rfl, rfl, rfl, by decide +kernel, rfl, by decide +kernel, by decide +kernel⟩
abbrev s_press_back : Stmt := topS 44
abbrev N_press_back : List Str := ["way", "state", "offer", "choice", "since", "accept", "again", "back", "learn", "text", "begun", "quiet", "order", "put"]
theorem sc_press_back : FnScope N_press_back ["way", "state", "offer"] (defScope s_press_back) := ⟨rfl, rfl, rfl, by decide +kernel, rfl, by decide +kernel, by decide +kernel⟩

section
variable {P : Program} {w : World} {K : PySem.W.Frag} {mg : Str → Option Value} {base : Heap}
theorem len_kS : ∀ k ∈ keysS, k.length ≤ 5 := by decide
theorem atI_neg1 {α : Type} {xs : List α} {x : α} (h : xs.getLast? = some x) : atI xs (-1) = some x := by
  obtain ⟨ys, rfl⟩ := List.getLast?_eq_some_iff.mp h
  exact atI_last ys x
theorem cl_press_letter (T : FT K mg "press_letter" s_press_letter ["state", "letter"]) (b : Bi mg) (c : Cn K mg) : Cl P w K mg base "press_letter" 1 ["state", "letter"] (spA K (fun x : Sta × Str => [eS x.1, .str x.2]) (fun x => x.1.tx.length ≤ 100 ∧ x.2.length ≤ 100) fun x => eS (mLet x.1 x.2)) := by
  obtain ⟨tTEXT_LETTERS, gTEXT_LETTERS⟩ := c.TEXT_LETTERS
  obtain ⟨nlen, nisinstance, nall, nmin, ntuple, nlist, nset, nsorted, nrange, nstr, nint, nbool⟩ := b
  refine clA T sc_press_letter (fun _ => rfl) fun f cdv A outer s H E z hr hz => ?_
  have nd := sc_press_letter.nd
  refine ⟨_, ((pss_cons (ps_asg (pv 0) (pg_tupK rfl rfl (pgs_cons (pg_name (i := 2) nd rfl (by first | exact Or.inl rfl | exact Or.inr rfl)) (pgs_cons (pg_name (i := 3) nd rfl (by first | exact Or.inl rfl | exact Or.inr rfl)) (pgs_cons (pg_name (i := 4) nd rfl (by first | exact Or.inl rfl | exact Or.inr rfl)) (pgs_cons (pg_name (i := 5) nd rfl (by first | exact Or.inl rfl | exact Or.inr rfl)) (pgs_cons (pg_name (i := 6) nd rfl (by first | exact Or.inl rfl | exact Or.inr rfl)) pgs_nil)))))))
      (pss_cons (ps_if (pt_cmpR op_eq (pe_callB call_len_str (by rfl) nlen (by decide +kernel) (pa_cons (pv 2) pa_nil)) (pe_glob (v := .int 4) (by rfl) gTEXT_LETTERS ⟨_, rfl⟩) (nomark _))
      (pss_one (ps_ret (pe_tup (pa_cons (pv 2) (pa_cons (pv 3) (pa_cons (pv 4) (pa_cons (pv 5) (pa_cons pe_str pa_nil))))))))
      pss_nil)
      (pss_one (ps_ret (pe_tup (pa_cons (pe_op op_add_str (pv 2) (pv 1)) (pa_cons pe_str (pa_cons pe_int (pa_cons (pv 5) (pa_cons pe_str pa_nil))))))))))), fun e Q hq => sd_nm [_, _, _, _, _, _, _] rfl ?_⟩
  refine sd_seq (sd_unpack (ev_var rfl) (gd_cons (gd_cons (gd_cons (gd_cons (gd_cons gd_nil))))) rfl (sd_nxt [_, _, _, _, _, _, _] rfl ?_))
  refine sd_seq (sd_if (et_test (ev_op (ev_cb (ea_cons (ev_var rfl) ea_nil) (rc_lenS (by have := hz.1; omega))) ev_int rd_eqI)) (fun hb => ?_) (fun hb => sd_next ?_))
  · refine sd_ret hq (ev_tup (ea_cons (ev_var rfl) (ea_cons (ev_var rfl) (ea_cons (ev_var rfl) (ea_cons (ev_var rfl) (ea_cons ev_str ea_nil)))))) ?_
    unfold mLet
    rw [decide_eq_true_eq] at hb
    rw [if_pos (by omega)]
    rfl
  refine sd_ret hq (ev_tup (ea_cons (ev_op (ev_var rfl) (ev_var rfl) (rd_addS (by have := hz.1; have := hz.2; omega))) (ea_cons ev_str (ea_cons ev_int (ea_cons (ev_var rfl) (ea_cons ev_str ea_nil)))))) ?_
  unfold mLet
  rw [decide_eq_false_iff_not] at hb
  rw [if_neg (by omega)]
  rfl
theorem cl_word_behind (T : FT K mg "word_behind" s_word_behind ["text", "words"]) : Cl P w K mg base "word_behind" 1 ["text", "words"] (spA K (fun x : Str × List Str => [.str x.1, dL x.2]) (fun x => x.2 ≠ []) fun x => .str (mBeh x.1 x.2)) := by
  refine clA T sc_word_behind (fun _ => rfl) fun f cdv A outer s H E z hr hz => ?_
  have nd := sc_word_behind.nd
  obtain ⟨t, ws⟩ := z
  obtain ⟨x0, r0, rfl⟩ : ∃ x r, ws = x :: r := by
    cases ws with
    | nil => exact absurd rfl hz
    | cons x r => exact ⟨x, r, rfl⟩
  have hlast : ((x0 :: r0).map PyData.str).getLast? = some (.str ((x0 :: r0).getLastD "")) := by
    rw [List.getLast?_map, List.getLastD_eq_getLast?]
    cases hh : (x0 :: r0).getLast? with
    | none => exact absurd (List.getLast?_eq_none_iff.mp hh) (List.cons_ne_nil _ _)
    | some y => rfl
  refine ⟨_, ((pss_cons (ps_if (PW.pt (pw_or (pt_cmpR (op_notInK rfl) (pv 0) (pv 1) rfl) (pw_or1 (pt_cmpR op_eq (pv 0) (pe_ix (ix_listK rfl) (pv 1) (pe_un un_neg pe_int) (fun _ _ => rfl)) (nomark _)))))
      (pss_one (ps_ret (pe_ix (ix_listK rfl) (pv 1) pe_int (fun _ _ => rfl))))
      pss_nil)
      (pss_one (ps_ret (pe_ix (ix_listK rfl) (pv 1) (pe_op op_add (pe_bm PySem.F.plainAttrs_list PySem.F.slot_list_index PySem.F.type_list_index (mt_indexK rfl) (pv 1) (pa_cons (pv 0) pa_nil)) pe_int) (fun _ _ => rfl)))))), fun e Q hq => sd_nm [_, _] rfl ?_⟩
  refine sd_seq (sd_if (et_or (et_test (ev_op (ev_var rfl) (ev_var rfl) (rd_inL (neg := true) (ys := x0 :: r0)))) fun _ => (et_test (ev_op (ev_var rfl) (ev_op (ev_var rfl) (ev_neg ev_int) (rd_ixL (atI_neg1 hlast))) rd_eqS))) (fun hb => ?_) (fun hb => sd_next ?_))
  · refine sd_ret hq (ev_op (d := .str x0) (ev_var rfl) ev_int (rd_ixL (by exact atI_zero))) ?_
    rw [if_pos rfl] at hb
    unfold mBeh
    rw [if_pos hb]
    rfl
  rw [if_pos rfl] at hb
  have hb' := hb
  rw [Bool.or_eq_false_iff, Bool.not_eq_false'] at hb'
  have hm : t ∈ x0 :: r0 := List.contains_iff_mem.mp hb'.1
  have hi := List.idxOf_lt_length_of_mem hm
  have hat : (x0 :: r0)[(x0 :: r0).idxOf t]? = some t := by rw [List.getElem?_eq_getElem hi, List.getElem_idxOf hi]
  have hno : ∀ m : Nat, m < (x0 :: r0).idxOf t → (x0 :: r0)[m]? ≠ some t := fun m hlt hh => by
    have hm' : m < (x0 :: r0).length := by omega
    rw [List.getElem?_eq_getElem hm'] at hh
    have := List.not_of_lt_findIdx (p := (· == t)) (xs := x0 :: r0) (i := m) hlt
    rw [Option.some.inj hh] at this
    simp at this
  have hlt : (x0 :: r0).idxOf t + 1 < (x0 :: r0).length := by
    rcases Nat.lt_or_ge ((x0 :: r0).idxOf t + 1) (x0 :: r0).length with q | q
    · exact q
    · exfalso
      have e2 : (x0 :: r0).idxOf t = (x0 :: r0).length - 1 := by omega
      have hl : (x0 :: r0).getLastD "" = t := by
        rw [List.getLastD_eq_getLast?, List.getLast?_eq_getElem?, ← e2, hat]
        rfl
      rw [hl, decide_eq_true rfl] at hb'
      exact Bool.false_ne_true hb'.2.symm
  have hd : ((x0 :: r0).map PyData.str)[(x0 :: r0).idxOf t + 1]? = some (.str ((x0 :: r0).getD ((x0 :: r0).idxOf t + 1) "")) := by
    rw [List.getElem?_map, List.getD_eq_getElem?_getD, List.getElem?_eq_getElem hlt]
    rfl
  refine sd_ret hq (ev_op (ev_var rfl) (ev_op (ev_indexL (ev_var rfl) (ea_cons (ev_var rfl) ea_nil) hat hno) ev_int rd_addI) (rd_ixL (by rw [show (((x0 :: r0).idxOf t : Nat) : Int) + 1 = (((x0 :: r0).idxOf t + 1 : Nat) : Int) by omega]; exact atI_nat hd))) ?_
  unfold mBeh
  rw [if_neg (by rw [hb]; exact Bool.false_ne_true)]
theorem cl_with_first (T : FT K mg "with_first" s_with_first ["word", "order"]) : Cl P w K mg base "with_first" 1 ["word", "order"] (spA K (fun x : Str × List Str => [.str x.1, dT x.2]) (fun x => x.2.length ≤ 100) fun x => dT (mFront x.1 x.2)) := by
  refine clA T sc_with_first (fun _ => rfl) fun f cdv A outer s H E z hr hz => ?_
  have nd := sc_with_first.nd
  refine ⟨_, ((pss_cons (ps_setLc (i := 2) (own := [("other", 3)]) (g := gName 3) (tt := _) rfl nd rfl rfl (sw_true rfl rfl rfl (by decide +kernel)) (pi_tupK rfl (pv 1)) (blkOk_by (N := N_with_first) (sc := (defScope s_with_first)) (by decide +kernel)) (fun _ _ _ _ _ => (pg_name (i := 3) nd rfl (by first | exact Or.inl rfl | exact Or.inr rfl))) (fun _ _ _ _ _ => pts_one (pt_cmpR op_ne (pv 3) (pv 0) (nomark _))) (fun _ _ _ _ _ => (pv 3)))
      (pss_one (ps_ret (pe_tup (pa_cons (pv 0) (pa_starK rfl (pv 2) pa_nil))))))), fun e Q hq => sd_nm [_, _, _, _] rfl ?_⟩
  refine sd_seq (sd_asg (ev_fz (ef_lcTp z.2 .str (fun y => !decide (y = z.1)) .str (ev_var rfl) rfl (by omega) (fun x hx => (et_test (ev_op (ev_var rfl) (ev_var rfl) rd_neS))) (fun x hx hb => (ev_var rfl)))) (sd_nxt [_, _, _, _] rfl ?_))
  refine sd_ret hq (ev_tup (ea_cons (ev_var rfl) (ea_star (ev_var rfl) ea_nil)) ?_) ?_
  · rw [List.length_cons, List.length_append, List.length_map, List.length_nil]
    have := List.length_filter_le (fun y => !decide (y = z.1)) z.2
    omega
  · rw [List.append_nil]
    rfl
abbrev encO (x : Way × Sta) : List D := [eW x.1, eS x.2, .str (mOff x.1 x.2)]
abbrev spTab (K : PySem.W.Frag) : Sp := spA K encO (fun x => Ok x.2) fun x => eS (mTab x.1 x.2)
abbrev spBack (K : PySem.W.Frag) : Sp := spA K encO (fun x => Bd x.2) fun x => eS (mBack x.1 x.2)
abbrev spPut (K : PySem.W.Frag) : Sp := spA K (fun x : Way × Sta × Str => [eW x.1, eS x.2.1, .str (mOff x.1 x.2.1), .str x.2.2]) (fun x => Ok x.2.1) fun x => eS (mPut x.1 x.2.1 x.2.2)
theorem cl_press_tab (T : FT K mg "press_tab" s_press_tab ["way", "state", "offer"]) {k : Nat} (C_fitting_words : Cl P w K mg base "fitting_words" k ["text", "order"] (spFit K))
    (C_word_behind : Cl P w K mg base "word_behind" k ["text", "words"] (spA K (fun x : Str × List Str => [.str x.1, dL x.2]) (fun x => x.2 ≠ []) fun x => .str (mBeh x.1 x.2))) : Cl P w K mg base "press_tab" (k + 1) ["way", "state", "offer"] (spTab K) := by
  refine clA T sc_press_tab (fun _ => rfl) fun f cdv A outer s H E z hr hz => ?_
  have nd := sc_press_tab.nd
  have hr_fitting_words := hr
  have hr_word_behind := hr
  have o := hz
  have hbg : z.2.bg.length ≤ 100 := Nat.le_trans o.bl (by decide)
  have hol := mOff_len (w := z.1) o
  have htx := o.tx
  refine ⟨_, ((pss_cons (ps_asg (pv 0) (pg_tupK rfl rfl (pgs_cons (pg_name (i := 3) nd rfl (by first | exact Or.inl rfl | exact Or.inr rfl)) (pgs_cons (pg_name (i := 4) nd rfl (by first | exact Or.inl rfl | exact Or.inr rfl)) (pgs_cons (pg_name (i := 5) nd rfl (by first | exact Or.inl rfl | exact Or.inr rfl)) (pgs_cons (pg_name (i := 6) nd rfl (by first | exact Or.inl rfl | exact Or.inr rfl)) (pgs_cons (pg_name (i := 7) nd rfl (by first | exact Or.inl rfl | exact Or.inr rfl)) (pgs_cons (pg_name (i := 8) nd rfl (by first | exact Or.inl rfl | exact Or.inr rfl)) pgs_nil))))))))
      (pss_cons (ps_asg (pv 1) (pg_tupK rfl rfl (pgs_cons (pg_name (i := 9) nd rfl (by first | exact Or.inl rfl | exact Or.inr rfl)) (pgs_cons (pg_name (i := 10) nd rfl (by first | exact Or.inl rfl | exact Or.inr rfl)) (pgs_cons (pg_name (i := 11) nd rfl (by first | exact Or.inl rfl | exact Or.inr rfl)) (pgs_cons (pg_name (i := 12) nd rfl (by first | exact Or.inl rfl | exact Or.inr rfl)) (pgs_cons (pg_name (i := 13) nd rfl (by first | exact Or.inl rfl | exact Or.inr rfl)) pgs_nil)))))))
      (pss_cons (ps_if (pt_cmpR op_ne (pv 2) pe_str (nomark _))
      (pss_one (ps_ret (pe_tup (pa_cons (pe_op op_add_str (pv 9) (pv 2)) (pa_cons (pv 9) (pa_cons pe_int (pa_cons (pv 12) (pa_cons pe_str pa_nil))))))))
      pss_nil)
      (pss_cons (ps_if (PW.pt (pw_and (pt_cmpR op_eq (pv 6) pe_str (nomark _)) (pw_and1 (pt_cmpR op_ne (pv 10) pe_str (nomark _)))))
      (pss_one (ps_set (i := 9) nd rfl (by first | exact Or.inl rfl | exact Or.inr rfl) (pe_cl C_word_behind hr_word_behind (by rfl) (pa_cons (pv 9) (pa_cons (pe_cl C_fitting_words hr_fitting_words (by rfl) (pa_cons (pv 10) (pa_cons (pv 12) pa_nil))) pa_nil)))))
      pss_nil)
      (pss_one (ps_ret (pe_tup (pa_cons (pv 9) (pa_cons (pv 10) (pa_cons (pv 11) (pa_cons (pv 12) (pa_cons pe_str pa_nil))))))))))))), fun e Q hq => sd_nm [_, _, _, _, _, _, _, _, _, _, _, _, _, _] rfl ?_⟩
  refine sd_seq (sd_unpack (ev_var rfl) (gd_cons (gd_cons (gd_cons (gd_cons (gd_cons (gd_cons gd_nil)))))) rfl (sd_nxt [_, _, _, _, _, _, _, _, _, _, _, _, _, _] rfl ?_))
  refine sd_seq (sd_unpack (ev_var rfl) (gd_cons (gd_cons (gd_cons (gd_cons (gd_cons gd_nil))))) rfl (sd_nxt [_, _, _, _, _, _, _, _, _, _, _, _, _, _] rfl ?_))
  refine sd_seq (sd_if (et_test (ev_op (ev_var rfl) ev_str rd_neS)) (fun hb => ?_) (fun hb => sd_next ?_))
  · refine sd_ret hq (ev_tup (ea_cons (ev_op (ev_var rfl) (ev_var rfl) (rd_addS (by show z.2.tx.length + (mOff z.1 z.2).length ≤ 1000; omega))) (ea_cons (ev_var rfl) (ea_cons ev_int (ea_cons (ev_var rfl) (ea_cons ev_str ea_nil)))))) ?_
    rw [Bool.not_eq_true', decide_eq_false_iff_not] at hb
    unfold mTab
    rw [if_pos hb]
    rfl
  rw [Bool.not_eq_false', decide_eq_true_eq] at hb
  refine sd_seq (sd_ifAsg (i := 9) (d := .str (if (decide (z.1.ag = "next") && !decide (z.2.bg = "")) = true then mBeh z.2.tx (mFit z.2.bg z.2.od) else z.2.tx)) (et_and (et_test (ev_op (ev_var rfl) ev_str rd_eqS)) fun _ => (et_test (ev_op (ev_var rfl) ev_str rd_neS))) (fun hc => ?_) (fun hc => ?_) (sd_nxt [_, _, _, _, _, _, _, _, _, _, _, _, _, _] rfl ?_))
  · rw [if_pos hc]
    rw [Bool.and_eq_true, Bool.not_eq_true', decide_eq_false_iff_not] at hc
    exact ev_call (z.2.tx, mFit z.2.bg z.2.od) (ea_cons (ev_var rfl) (ea_cons (ev_call (z.2.bg, z.2.od) (ea_cons (ev_var rfl) (ea_cons (ev_var rfl) ea_nil)) rfl ⟨hbg, o.bd.2⟩) ea_nil)) rfl (o.bg hc.2)
  · rw [if_neg (by rw [hc]; exact Bool.false_ne_true)]
    rfl
  refine sd_ret hq (ev_tup (ea_cons (ev_var rfl) (ea_cons (ev_var rfl) (ea_cons (ev_var rfl) (ea_cons (ev_var rfl) (ea_cons ev_str ea_nil)))))) ?_
  have hb2 : ¬ (mOff z.1 z.2 ≠ "") := fun q => q hb
  unfold mTab
  rw [if_neg hb2]
  rfl
theorem cl_press_putting (T : FT K mg "press_putting" s_press_putting ["way", "state", "offer", "key"]) {k : Nat}
    (C_with_first : Cl P w K mg base "with_first" k ["word", "order"] (spA K (fun x : Str × List Str => [.str x.1, dT x.2]) (fun x => x.2.length ≤ 100) fun x => dT (mFront x.1 x.2))) : Cl P w K mg base "press_putting" (k + 1) ["way", "state", "offer", "key"] (spPut K) := by
  refine clA T sc_press_putting (fun _ => rfl) fun f cdv A outer s H E z hr o => ?_
  have nd := sc_press_putting.nd
  have hr_with_first := hr
  have hol := mOff_len (w := z.1) o
  refine ⟨_, ((pss_cons (ps_asg (pv 0) (pg_tupK rfl rfl (pgs_cons (pg_name (i := 4) nd rfl (by first | exact Or.inl rfl | exact Or.inr rfl)) (pgs_cons (pg_name (i := 5) nd rfl (by first | exact Or.inl rfl | exact Or.inr rfl)) (pgs_cons (pg_name (i := 6) nd rfl (by first | exact Or.inl rfl | exact Or.inr rfl)) (pgs_cons (pg_name (i := 7) nd rfl (by first | exact Or.inl rfl | exact Or.inr rfl)) (pgs_cons (pg_name (i := 8) nd rfl (by first | exact Or.inl rfl | exact Or.inr rfl)) (pgs_cons (pg_name (i := 9) nd rfl (by first | exact Or.inl rfl | exact Or.inr rfl)) pgs_nil))))))))
      (pss_cons (ps_asg (pv 1) (pg_tupK rfl rfl (pgs_cons (pg_name (i := 10) nd rfl (by first | exact Or.inl rfl | exact Or.inr rfl)) (pgs_cons (pg_name (i := 11) nd rfl (by first | exact Or.inl rfl | exact Or.inr rfl)) (pgs_cons (pg_name (i := 12) nd rfl (by first | exact Or.inl rfl | exact Or.inr rfl)) (pgs_cons (pg_name (i := 13) nd rfl (by first | exact Or.inl rfl | exact Or.inr rfl)) (pgs_cons (pg_name (i := 14) nd rfl (by first | exact Or.inl rfl | exact Or.inr rfl)) pgs_nil)))))))
      (pss_cons (ps_if (PW.pt (pw_or (pt_cmpR op_eq (pv 6) pe_str (nomark _)) (pw_or1 (PW.pt (pw_and (pt_cmpR op_eq (pv 6) pe_str (nomark _)) (pw_and1 (pt_cmpR op_eq (pv 3) pe_str (nomark _))))))))
      (pss_one (ps_set (i := 10) nd rfl (by first | exact Or.inl rfl | exact Or.inr rfl) (pe_op op_add_str (pv 10) (pv 2))))
      pss_nil)
      (pss_cons (ps_if (PW.pt (pw_and (pt_cmpR op_eq (pv 9) pe_int (nomark _)) (pw_and1 (pt_cmpR (op_inK rfl) (pv 10) (pv 13) rfl))))
      (pss_one (ps_set (i := 13) nd rfl (by first | exact Or.inl rfl | exact Or.inr rfl) (pe_cl C_with_first hr_with_first (by rfl) (pa_cons (pv 10) (pa_cons (pv 13) pa_nil)))))
      pss_nil)
      (pss_one (ps_ret (pe_tup (pa_cons pe_str (pa_cons pe_str (pa_cons pe_int (pa_cons (pv 13) (pa_cons (pv 10) pa_nil))))))))))))), fun e Q hq => sd_nm [_, _, _, _, _, _, _, _, _, _, _, _, _, _, _] rfl ?_⟩
  refine sd_seq (sd_unpack (ev_var rfl) (gd_cons (gd_cons (gd_cons (gd_cons (gd_cons (gd_cons gd_nil)))))) rfl (sd_nxt [_, _, _, _, _, _, _, _, _, _, _, _, _, _, _] rfl ?_))
  refine sd_seq (sd_unpack (ev_var rfl) (gd_cons (gd_cons (gd_cons (gd_cons (gd_cons gd_nil))))) rfl (sd_nxt [_, _, _, _, _, _, _, _, _, _, _, _, _, _, _] rfl ?_))
  refine sd_seq (sd_ifAsg (i := 10) (d := .str (mPutText z.1 z.2.1 z.2.2)) (et_or (et_test (ev_op (ev_var rfl) ev_str rd_eqS)) fun _ => (et_and (et_test (ev_op (ev_var rfl) ev_str rd_eqS)) fun _ => (et_test (ev_op (ev_var rfl) ev_str rd_eqS)))) (fun hc => ?_) (fun hc => ?_) (sd_nxt [_, _, _, _, _, _, _, _, _, _, _, _, _, _, _] rfl ?_))
  · unfold mPutText
    rw [if_pos hc]
    exact ev_op (ev_var rfl) (ev_var rfl) (rd_addS (by show z.2.1.tx.length + (mOff z.1 z.2.1).length ≤ 1000; omega))
  · unfold mPutText
    rw [if_neg (by rw [hc]; exact Bool.false_ne_true)]
    rfl
  refine sd_seq (sd_ifAsg (i := 13) (d := dT (mPut z.1 z.2.1 z.2.2).od) (et_and (et_test (ev_op (ev_var rfl) ev_int rd_eqI)) fun _ => (et_test (ev_op (ev_var rfl) (ev_var rfl) (rd_inT (neg := false) (ys := z.2.1.od))))) (fun hc => ?_) (fun hc => ?_) (sd_nxt [_, _, _, _, _, _, _, _, _, _, _, _, _, _, _] rfl ?_))
  · rw [if_neg Bool.false_ne_true] at hc
    have e1 : (mPut z.1 z.2.1 z.2.2).od = mFront (mPutText z.1 z.2.1 z.2.2) z.2.1.od := by
      unfold mPut
      show (if _ then _ else _ : List Str) = _
      rw [if_pos hc]
    rw [e1]
    exact ev_call (mPutText z.1 z.2.1 z.2.2, z.2.1.od) (ea_cons (ev_var rfl) (ea_cons (ev_var rfl) ea_nil)) rfl o.bd.2.2
  · rw [if_neg Bool.false_ne_true] at hc
    have e1 : (mPut z.1 z.2.1 z.2.2).od = z.2.1.od := by
      unfold mPut
      show (if _ then _ else _ : List Str) = _
      rw [if_neg (by rw [hc]; exact Bool.false_ne_true)]
    rw [e1]
    rfl
  exact sd_ret hq (ev_tup (ea_cons ev_str (ea_cons ev_str (ea_cons ev_int (ea_cons (ev_var rfl) (ea_cons (ev_var rfl) ea_nil)))))) rfl
theorem cl_press_back (T : FT K mg "press_back" s_press_back ["way", "state", "offer"]) : Cl P w K mg base "press_back" 1 ["way", "state", "offer"] (spBack K) := by
  refine clA T sc_press_back (fun _ => rfl) fun f cdv A outer s H E z hr o => ?_
  have nd := sc_press_back.nd
  refine ⟨_, ((pss_cons (ps_asg (pv 0) (pg_tupK rfl rfl (pgs_cons (pg_name (i := 3) nd rfl (by first | exact Or.inl rfl | exact Or.inr rfl)) (pgs_cons (pg_name (i := 4) nd rfl (by first | exact Or.inl rfl | exact Or.inr rfl)) (pgs_cons (pg_name (i := 5) nd rfl (by first | exact Or.inl rfl | exact Or.inr rfl)) (pgs_cons (pg_name (i := 6) nd rfl (by first | exact Or.inl rfl | exact Or.inr rfl)) (pgs_cons (pg_name (i := 7) nd rfl (by first | exact Or.inl rfl | exact Or.inr rfl)) (pgs_cons (pg_name (i := 8) nd rfl (by first | exact Or.inl rfl | exact Or.inr rfl)) pgs_nil))))))))
      (pss_cons (ps_asg (pv 1) (pg_tupK rfl rfl (pgs_cons (pg_name (i := 9) nd rfl (by first | exact Or.inl rfl | exact Or.inr rfl)) (pgs_cons (pg_name (i := 10) nd rfl (by first | exact Or.inl rfl | exact Or.inr rfl)) (pgs_cons (pg_name (i := 11) nd rfl (by first | exact Or.inl rfl | exact Or.inr rfl)) (pgs_cons (pg_name (i := 12) nd rfl (by first | exact Or.inl rfl | exact Or.inr rfl)) (pgs_cons (pg_name (i := 13) nd rfl (by first | exact Or.inl rfl | exact Or.inr rfl)) pgs_nil)))))))
      (pss_cons (ps_if (PW.pt (pw_or (pt_cmpR op_ne (pv 7) pe_str (nomark _)) (pw_or1 (pt_cmpR op_eq (pv 2) pe_str (nomark _)))))
      (pss_one (ps_set (i := 9) nd rfl (by first | exact Or.inl rfl | exact Or.inr rfl) (pe_slice sl_str (pv 9) po_none (po_some (pe_un un_neg pe_int)))))
      pss_nil)
      (pss_cons (ps_if (PW.pt (pw_or (pt_cmpR op_eq (pv 7) pe_str (nomark _)) (pw_or1 (pt_cmpR op_eq (pv 9) pe_str (nomark _)))))
      (pss_one (ps_ret (pe_tup (pa_cons (pv 9) (pa_cons pe_str (pa_cons pe_int (pa_cons (pv 12) (pa_cons pe_str pa_nil))))))))
      pss_nil)
      (pss_one (ps_ret (pe_tup (pa_cons (pv 9) (pa_cons pe_str (pa_cons pe_int (pa_cons (pv 12) (pa_cons pe_str pa_nil))))))))))))), fun e Q hq => sd_nm [_, _, _, _, _, _, _, _, _, _, _, _, _, _] rfl ?_⟩
  refine sd_seq (sd_unpack (ev_var rfl) (gd_cons (gd_cons (gd_cons (gd_cons (gd_cons (gd_cons gd_nil)))))) rfl (sd_nxt [_, _, _, _, _, _, _, _, _, _, _, _, _, _] rfl ?_))
  refine sd_seq (sd_unpack (ev_var rfl) (gd_cons (gd_cons (gd_cons (gd_cons (gd_cons gd_nil))))) rfl (sd_nxt [_, _, _, _, _, _, _, _, _, _, _, _, _, _] rfl ?_))
  refine sd_seq (sd_ifAsg (i := 9) (d := .str (mBackText z.1 z.2)) (et_or (et_test (ev_op (ev_var rfl) ev_str rd_neS)) fun _ => (et_test (ev_op (ev_var rfl) ev_str rd_eqS))) (fun hc => ?_) (fun hc => ?_) (sd_nxt [_, _, _, _, _, _, _, _, _, _, _, _, _, _] rfl ?_))
  · unfold mBackText
    rw [if_pos hc]
    exact ev_slS (ev_var rfl) es_no (es_at (ev_neg ev_int)) (by have := o.1; omega)
  · unfold mBackText
    rw [if_neg (by rw [hc]; exact Bool.false_ne_true)]
    rfl
  refine sd_seq (sd_if (et_or (et_test (ev_op (ev_var rfl) ev_str rd_eqS)) fun _ => (et_test (ev_op (ev_var rfl) ev_str rd_eqS))) (fun hb => ?_) (fun hb => sd_next ?_))
  · refine sd_ret hq (ev_tup (ea_cons (ev_var rfl) (ea_cons ev_str (ea_cons ev_int (ea_cons (ev_var rfl) (ea_cons ev_str ea_nil)))))) ?_
    unfold mBack eS
    rw [if_pos hb]
  refine sd_ret hq (ev_tup (ea_cons (ev_var rfl) (ea_cons ev_str (ea_cons ev_int (ea_cons (ev_var rfl) (ea_cons ev_str ea_nil)))))) ?_
  unfold mBack eS
  rw [if_neg (by rw [hb]; exact Bool.false_ne_true)]
end

end Fo
namespace Fo
open PySem PySem.Spec PyProof.Rows L2 DL DR
abbrev s_press : Stmt := topS 45
abbrev N_press : List Str := ["way", "state", "key", "offer"]
theorem sc_press : FnScope N_press ["way", "state", "key"] (defScope s_press) := ⟨rfl, rfl, rfl, by decide +kernel, rfl, by decide +kernel, by decide +kernel⟩
abbrev s_walk : Stmt := topS 46
abbrev N_walk : List Str := ["way", "state", "row", "states", "key"]
theorem sc_walk : FnScope N_walk ["way", "state", "row"] (defScope s_walk) := ⟨rfl, rfl, rfl, by decide +kernel, rfl, by decide +kernel, by decide +kernel⟩
abbrev s_view_of : Stmt := topS 47
abbrev N_view_of : List Str := ["way", "state", "sight", "text", "begun", "quiet", "order", "put"]
theorem sc_view_of : FnScope N_view_of ["way", "state", "sight"] (defScope s_view_of) := ⟨rfl, rfl, rfl, by decide +kernel, rfl, by decide +kernel, by decide +kernel⟩
abbrev s_views_of : Stmt := topS 74
abbrev N_views_of : List Str := ["way", "words", "sight", "row", "states", "state"]
theorem sc_views_of : FnScope N_views_of ["way", "words", "sight", "row"] (defScope s_views_of) := ⟨rfl, rfl, rfl, by decide +kernel, rfl, by decide +kernel, by decide +kernel⟩

section
variable {P : Program} {w : World} {K : PySem.W.Frag} {mg : Str → Option Value} {base : Heap}
abbrev spPress (K : PySem.W.Frag) : Sp := spA K (fun x : Way × Sta × Str => [eW x.1, eS x.2.1, .str x.2.2]) (fun x => Ok x.2.1 ∧ keysS.contains x.2.2 = true) fun x => eS (mPress x.1 x.2.1 x.2.2)
theorem cl_press (T : FT K mg "press" s_press ["way", "state", "key"]) (c : Cn K mg) {k : Nat} (C_press_letter : Cl P w K mg base "press_letter" k ["state", "letter"] (spA K (fun x : Sta × Str => [eS x.1, .str x.2]) (fun x => x.1.tx.length ≤ 100 ∧ x.2.length ≤ 100) fun x => eS (mLet x.1 x.2)))
    (C_offer_of : Cl P w K mg base "offer_of" k ["way", "state"] (spOff K)) (C_press_tab : Cl P w K mg base "press_tab" k ["way", "state", "offer"] (spTab K)) (C_press_back : Cl P w K mg base "press_back" k ["way", "state", "offer"] (spBack K))
    (C_press_putting : Cl P w K mg base "press_putting" k ["way", "state", "offer", "key"] (spPut K)) : Cl P w K mg base "press" (k + 1) ["way", "state", "key"] (spPress K) := by
  obtain ⟨aLETTERS, xLETTERS, gLETTERS, sLETTERS, rLETTERS⟩ := c.LETTERS
  refine clA T sc_press (fun _ => rfl) fun f cdv A outer s H E z hr hz => ?_
  have nd := sc_press.nd
  have hr_press_letter := hr
  have hr_offer_of := hr
  have hr_press_tab := hr
  have hr_press_back := hr
  have hr_press_putting := hr
  obtain ⟨o, hkey⟩ := hz
  have hkl := len_kS _ (List.contains_iff_mem.mp hkey)
  refine ⟨_, ((pss_cons (ps_if (pt_cmpR (op_inK rfl) (pv 2) (pe_glob (v := .ref aLETTERS) (by rfl) gLETTERS rfl) rfl)
      (pss_one (ps_ret (pe_cl C_press_letter hr_press_letter (by rfl) (pa_cons (pv 1) (pa_cons (pv 2) pa_nil)))))
      pss_nil)
      (pss_cons (ps_set (i := 3) nd rfl (by first | exact Or.inl rfl | exact Or.inr rfl) (pe_cl C_offer_of hr_offer_of (by rfl) (pa_cons (pv 0) (pa_cons (pv 1) pa_nil))))
      (pss_cons (ps_if (pt_cmpR op_eq (pv 2) pe_str (nomark _))
      (pss_one (ps_ret (pe_cl C_press_tab hr_press_tab (by rfl) (pa_cons (pv 0) (pa_cons (pv 1) (pa_cons (pv 3) pa_nil))))))
      pss_nil)
      (pss_cons (ps_if (pt_cmpR op_eq (pv 2) pe_str (nomark _))
      (pss_one (ps_ret (pe_cl C_press_back hr_press_back (by rfl) (pa_cons (pv 0) (pa_cons (pv 1) (pa_cons (pv 3) pa_nil))))))
      pss_nil)
      (pss_one (ps_ret (pe_cl C_press_putting hr_press_putting (by rfl) (pa_cons (pv 0) (pa_cons (pv 1) (pa_cons (pv 3) (pa_cons (pv 2) pa_nil)))))))))))), fun e Q hq => sd_nm [_, _, _, _] rfl ?_⟩
  refine sd_seq (sd_if (et_test (ev_op (ev_var rfl) (ev_ktup sLETTERS rLETTERS) (rd_inT (neg := false) (ys := letS)))) (fun hb => ?_) (fun h1 => sd_next ?_))
  · rw [if_neg Bool.false_ne_true] at hb
    refine sd_ret hq (ev_call (z.2.1, z.2.2) (ea_cons (ev_var rfl) (ea_cons (ev_var rfl) ea_nil)) rfl ⟨Nat.le_trans o.tx (by decide), Nat.le_trans hkl (by decide)⟩) ?_
    show _ = eS (mPress z.1 z.2.1 z.2.2)
    unfold mPress
    rw [if_pos hb]
  rw [if_neg Bool.false_ne_true] at h1
  have g1 : ¬ letS.contains z.2.2 = true := by rw [h1]; exact Bool.false_ne_true
  refine sd_seq (sd_asg (ev_call (z.1, z.2.1) (ea_cons (ev_var rfl) (ea_cons (ev_var rfl) ea_nil)) rfl o.bd) (sd_nxt [_, _, _, _] rfl ?_))
  refine sd_seq (sd_if (et_test (ev_op (ev_var rfl) ev_str rd_eqS)) (fun hb => ?_) (fun h2 => sd_next ?_))
  · refine sd_ret hq (ev_call (z.1, z.2.1) (ea_cons (ev_var rfl) (ea_cons (ev_var rfl) (ea_cons (ev_var rfl) ea_nil))) rfl o) ?_
    show _ = eS (mPress z.1 z.2.1 z.2.2)
    unfold mPress
    rw [if_neg g1, if_pos (of_decide_eq_true hb)]
  refine sd_seq (sd_if (et_test (ev_op (ev_var rfl) ev_str rd_eqS)) (fun hb => ?_) (fun h3 => sd_next ?_))
  · refine sd_ret hq (ev_call (z.1, z.2.1) (ea_cons (ev_var rfl) (ea_cons (ev_var rfl) (ea_cons (ev_var rfl) ea_nil))) rfl o.bd) ?_
    show _ = eS (mPress z.1 z.2.1 z.2.2)
    unfold mPress
    rw [if_neg g1, if_neg (of_decide_eq_false h2), if_pos (of_decide_eq_true hb)]
  refine sd_ret hq (ev_call (z.1, z.2.1, z.2.2) (ea_cons (ev_var rfl) (ea_cons (ev_var rfl) (ea_cons (ev_var rfl) (ea_cons (ev_var rfl) ea_nil)))) rfl o) ?_
  show _ = eS (mPress z.1 z.2.1 z.2.2)
  unfold mPress
  rw [if_neg g1, if_neg (of_decide_eq_false h2), if_neg (of_decide_eq_false h3)]
theorem mSt_succ {y : Way} {s : Sta} {row : List Str} {i : Nat} {k : Str} (h : row[i]? = some k) : mSt y s row (i + 1) = mPress y (mSt y s row i) k := by
  unfold mSt
  rw [List.take_add_one, h, List.foldl_append]
  rfl
def RowOk (row : List Str) : Prop := row.length ≤ 1000 ∧ ∀ k ∈ row, keysS.contains k = true
abbrev spWalk (K : PySem.W.Frag) : Sp := spA K (fun x : Way × Sta × List Str => [eW x.1, eS x.2.1, dL x.2.2]) (fun x => Ok x.2.1 ∧ RowOk x.2.2) fun x => .list ((mWalk x.1 x.2.1 x.2.2).map eS)
theorem cl_walk (T : FT K mg "walk" s_walk ["way", "state", "row"]) {k : Nat} (C_press : Cl P w K mg base "press" k ["way", "state", "key"] (spPress K)) : Cl P w K mg base "walk" (k + 1) ["way", "state", "row"] (spWalk K) := by
  refine clA T sc_walk (fun _ => rfl) fun f cdv A outer s H E z hr hz => ?_
  have nd := sc_walk.nd
  have hr_press := hr
  obtain ⟨y, s0, row⟩ := z
  obtain ⟨o, hl0, hkeys⟩ := hz
  have hl : row.length ≤ 1000 := hl0
  refine ⟨_, ((pss_cons (ps_set (i := 3) nd rfl (by first | exact Or.inl rfl | exact Or.inr rfl) (pe_lst (pa_cons (pv 1) pa_nil)))
      (pss_cons (ps_for PassesOwn.never rfl (pi_listK rfl (pv 2)) (pg_name (i := 4) nd rfl (by first | exact Or.inl rfl | exact Or.inr rfl))
      (pss_cons (ps_set (i := 1) nd rfl (by first | exact Or.inl rfl | exact Or.inr rfl) (pe_cl C_press hr_press (by rfl) (pa_cons (pv 0) (pa_cons (pv 1) (pa_cons (pv 4) pa_nil)))))
        (pss_one (ps_expr (pe_bm PySem.F.plainAttrs_list PySem.F.slot_list_append PySem.F.type_list_append mt_append (pv 3) (pa_cons (pv 1) pa_nil))))))
      (pss_one (ps_ret (pv 3)))))), fun e Q hq => sd_nm [_, _, _, _, _] rfl ?_⟩
  refine sd_seq (sd_asgF (ef_lst (ea_cons (ev_var rfl) ea_nil)) (sd_nxt [_, _, _, _, _] rfl ?_))
  refine sd_seq (sd_forL (ev_var rfl) (fun i => [.val (eW y), .val (eS (mSt y s0 row i)), .val (dL row), .own ((List.range (i + 1)).map fun j => eS (mSt y s0 row j)), .any]) (fun i => none) rfl rfl (fun i d B hB hd => ?_) (sd_next ?_))
  · rw [List.getElem?_map] at hd
    obtain ⟨key, hkey, rfl⟩ := Option.map_eq_some_iff.mp hd
    refine sd_nm [_, _, _, _, _] rfl ?_
    refine sd_seq (sd_asg (ev_call (y, mSt y s0 row i, key) (ea_cons (ev_var rfl) (ea_cons (ev_var rfl) (ea_cons (ev_var rfl) ea_nil))) rfl ⟨ok_st o hkeys i, hkeys _ (List.mem_of_getElem? hkey)⟩) (sd_nxt [_, _, _, _, _] rfl ?_))
    have hi : i < row.length := (List.getElem?_eq_some_iff.mp hkey).1
    refine sd_append rfl (ev_var rfl) (by rw [List.length_map, List.length_range]; omega) ?_
    refine sd_any 4 ?_
    refine sd_nm [_, _, _, _, _] rfl ?_
    show SD _ _ _ tNext _ [.val (eW y), .val (eS (mPress y (mSt y s0 row i) key)), .val (dL row), .own (((List.range (i + 1)).map fun j => eS (mSt y s0 row j)) ++ [eS (mPress y (mSt y s0 row i) key)]), .any] none
    rw [← mSt_succ hkey, show (((List.range (i + 1)).map fun j => eS (mSt y s0 row j)) ++ [eS (mSt y s0 row (i + 1))]) = (List.range (i + 1 + 1)).map fun j => eS (mSt y s0 row j) by rw [List.range_succ (n := i + 1), List.map_append]; rfl]
    exact fun G H σ bb s => ⟨G, bb, s⟩
  · refine sd_fz 3 rfl ?_
    refine sd_nm [_, _, _, _, _] rfl ?_
    refine sd_ret hq (ev_var rfl) ?_
    show PyData.list ((List.range ((row.map PyData.str).length + 1)).map fun j => eS (mSt y s0 row j)) = PyData.list ((mWalk y s0 row).map eS)
    unfold mWalk
    rw [List.length_map, List.map_map]
    rfl
abbrev spView (K : PySem.W.Frag) : Sp := spA K (fun x : Way × Sta × Int => [eW x.1, eS x.2.1, .int x.2.2]) (fun x => Bd x.2.1) fun x => mView x.1 x.2.1 x.2.2
theorem cl_view_of (T : FT K mg "view_of" s_view_of ["way", "state", "sight"]) {k : Nat} (C_offer_of : Cl P w K mg base "offer_of" k ["way", "state"] (spOff K)) : Cl P w K mg base "view_of" (k + 1) ["way", "state", "sight"] (spView K) := by
  refine clA T sc_view_of (fun _ => rfl) fun f cdv A outer s H E z hr o => ?_
  have nd := sc_view_of.nd
  have hr_offer_of := hr
  refine ⟨_, ((pss_cons (ps_asg (pv 1) (pg_tupK rfl rfl (pgs_cons (pg_name (i := 3) nd rfl (by first | exact Or.inl rfl | exact Or.inr rfl)) (pgs_cons (pg_name (i := 4) nd rfl (by first | exact Or.inl rfl | exact Or.inr rfl)) (pgs_cons (pg_name (i := 5) nd rfl (by first | exact Or.inl rfl | exact Or.inr rfl)) (pgs_cons (pg_name (i := 6) nd rfl (by first | exact Or.inl rfl | exact Or.inr rfl)) (pgs_cons (pg_name (i := 7) nd rfl (by first | exact Or.inl rfl | exact Or.inr rfl)) pgs_nil)))))))
      (pss_cons (ps_if (pt_cmpR op_eq (pv 2) pe_int (nomark _))
      (pss_one (ps_ret (pv 7)))
      pss_nil)
      (pss_one (ps_ret (pe_tup (pa_cons (pv 3) (pa_cons (pe_cl C_offer_of hr_offer_of (by rfl) (pa_cons (pv 0) (pa_cons (pv 1) pa_nil))) (pa_cons (pv 7) pa_nil))))))))), fun e Q hq => sd_nm [_, _, _, _, _, _, _, _] rfl ?_⟩
  refine sd_seq (sd_unpack (ev_var rfl) (gd_cons (gd_cons (gd_cons (gd_cons (gd_cons gd_nil))))) rfl (sd_nxt [_, _, _, _, _, _, _, _] rfl ?_))
  refine sd_seq (sd_if (et_test (ev_op (ev_var rfl) ev_int rd_eqI)) (fun hb => ?_) (fun hb => sd_next ?_))
  · refine sd_ret hq (ev_var rfl) ?_
    unfold mView
    rw [if_pos (of_decide_eq_true hb)]
  refine sd_ret hq (ev_tup (ea_cons (ev_var rfl) (ea_cons (ev_call (z.1, z.2.1) (ea_cons (ev_var rfl) (ea_cons (ev_var rfl) ea_nil)) rfl o) (ea_cons (ev_var rfl) ea_nil)))) ?_
  unfold mView
  rw [if_neg (of_decide_eq_false hb)]
/-! rows pressed from the beginning -/
abbrev spCkW (K : PySem.W.Frag) : Sp := spA K (fun y : Way => [eW y]) (fun y => mIsWay y = true) fun _ => .none
abbrev spCkL (K : PySem.W.Frag) : Sp := spA K (fun r : List Str => [dL r]) (fun r => mIsList r = true) fun _ => .none
abbrev spCkS (K : PySem.W.Frag) : Sp := spA K (fun i : Int => [.int i]) (fun i => i = 0 ∨ i = 1) fun _ => .none
abbrev spCkR (K : PySem.W.Frag) : Sp := spA K (fun r : List Str => [dL r]) (fun r => mIsRow r = true) fun _ => .none
abbrev spIni (K : PySem.W.Frag) : Sp := spA K (fun r : List Str => [dL r]) (fun _ => True) fun r => eS ⟨"", "", 0, r, ""⟩
theorem rowOk {r : List Str} (h : mIsRow r = true) : RowOk r := by
  unfold mIsRow at h
  rw [Bool.and_eq_true, decide_eq_true_eq, List.all_eq_true] at h
  exact ⟨by omega, h.2⟩
theorem okInit {r : List Str} (h : mIsList r = true) : Ok (mInit r) := by
  unfold mIsList at h
  simp only [Bool.and_eq_true, decide_eq_true_eq, List.all_eq_true] at h
  refine ⟨Nat.zero_le _, fun x hx => ?_, by show r.length ≤ 3; omega, fun q => absurd rfl q, Nat.zero_le _⟩
  have h2 := h.2.1 x hx
  unfold mIsWord at h2
  simp only [Bool.and_eq_true, decide_eq_true_eq] at h2
  omega
theorem mWalk_ok {y : Way} {ws row : List Str} (h : mIsList ws = true) (hr : mIsRow row = true) : ∀ s ∈ mWalk y (mInit ws) row, Ok s := fun s hs => by
  obtain ⟨i, _, rfl⟩ := List.mem_map.mp hs
  exact ok_st (okInit h) (rowOk hr).2 i
theorem mWalk_len {y : Way} {s : Sta} {row : List Str} : (mWalk y s row).length = row.length + 1 := by
  unfold mWalk
  rw [List.length_map, List.length_range]
structure Vd (x : Way × List Str × Int × List Str) : Prop where
  w : mIsWay x.1 = true
  l : mIsList x.2.1 = true
  s : x.2.2.1 = 0 ∨ x.2.2.1 = 1
  r : mIsRow x.2.2.2 = true
def mViews (y : Way) (ws : List Str) (i : Int) (row : List Str) : List D := ((mWalk y (mInit ws) row).drop 1).map fun s => mView y s i
abbrev spViews (K : PySem.W.Frag) : Sp := spA K (fun x : Way × List Str × Int × List Str => [eW x.1, dL x.2.1, .int x.2.2.1, dL x.2.2.2]) Vd fun x => .list (mViews x.1 x.2.1 x.2.2.1 x.2.2.2)
theorem cutD_from {ds : List D} (k : Nat) : cutDs ds (some (k : Int)) none = ds.drop k := by
  unfold cutDs
  rw [HT.sIx_none, HT.sIx_nat]
  rcases Nat.le_total k ds.length with h | h
  · rw [Nat.min_eq_left h, List.take_of_length_le (by rw [List.length_drop]; exact Nat.le_refl _)]
  · rw [Nat.min_eq_right h, Nat.sub_self, List.take_zero, List.drop_of_length_le h]
theorem cl_views_of (T : FT K mg "views_of" s_views_of ["way", "words", "sight", "row"]) {k : Nat} (C_check_way : Cl P w K mg base "check_way" k ["way"] (spCkW K)) (C_check_list : Cl P w K mg base "check_list" k ["words"] (spCkL K)) (C_check_sight : Cl P w K mg base "check_sight" k ["sight"] (spCkS K)) (C_check_row : Cl P w K mg base "check_row" k ["row"] (spCkR K))
    (C_walk : Cl P w K mg base "walk" k ["way", "state", "row"] (spWalk K)) (C_first_state : Cl P w K mg base "first_state" k ["words"] (spIni K)) (C_view_of : Cl P w K mg base "view_of" k ["way", "state", "sight"] (spView K)) : Cl P w K mg base "views_of" (k + 1) ["way", "words", "sight", "row"] (spViews K) := by
  refine clA T sc_views_of (fun _ => rfl) fun f cdv A outer s H E z hr v => ?_
  have nd := sc_views_of.nd
  have hr_check_way := hr
  have hr_check_list := hr
  have hr_check_sight := hr
  have hr_check_row := hr
  have hr_walk := hr
  have hr_first_state := hr
  have hr_view_of := hr
  have hrl := (rowOk v.r).1
  refine ⟨_, ((pss_cons (ps_expr (pe_cl C_check_way hr_check_way (by rfl) (pa_cons (pv 0) pa_nil)))
      (pss_cons (ps_expr (pe_cl C_check_list hr_check_list (by rfl) (pa_cons (pv 1) pa_nil)))
      (pss_cons (ps_expr (pe_cl C_check_sight hr_check_sight (by rfl) (pa_cons (pv 2) pa_nil)))
      (pss_cons (ps_expr (pe_cl C_check_row hr_check_row (by rfl) (pa_cons (pv 3) pa_nil)))
      (pss_cons (ps_set (i := 4) nd rfl (by first | exact Or.inl rfl | exact Or.inr rfl) (pe_cl C_walk hr_walk (by rfl) (pa_cons (pv 0) (pa_cons (pe_cl C_first_state hr_first_state (by rfl) (pa_cons (pv 1) pa_nil)) (pa_cons (pv 3) pa_nil)))))
      (pss_one (ps_ret (pe_lc (own := [("state", 5)]) (g := gName 5) (tt := tYes) rfl nd (pi_listK rfl (pe_slice (sl_listK rfl) (pv 4) (po_some pe_int) po_none)) (blkOk_by (N := N_views_of) (sc := (defScope s_views_of)) (by decide +kernel)) (fun _ _ _ _ _ => (pg_name (i := 5) nd rfl (by first | exact Or.inl rfl | exact Or.inr rfl))) (fun _ _ _ _ _ => pts_nil) (fun _ _ _ _ _ => (pe_cl C_view_of hr_view_of (by rfl) (pa_cons (pv 0) (pa_cons (pv 5) (pa_cons (pv 2) pa_nil)))))))))))))), fun e Q hq => sd_nm [_, _, _, _, _, _] rfl ?_⟩
  refine sd_seq (sd_drop (ev_call z.1 (ea_cons (ev_var rfl) ea_nil) rfl v.w) (sd_next ?_))
  refine sd_seq (sd_drop (ev_call z.2.1 (ea_cons (ev_var rfl) ea_nil) rfl v.l) (sd_next ?_))
  refine sd_seq (sd_drop (ev_call z.2.2.1 (ea_cons (ev_var rfl) ea_nil) rfl v.s) (sd_next ?_))
  refine sd_seq (sd_drop (ev_call z.2.2.2 (ea_cons (ev_var rfl) ea_nil) rfl v.r) (sd_next ?_))
  refine sd_seq (sd_asg (ev_call (z.1, mInit z.2.1, z.2.2.2) (ea_cons (ev_var rfl) (ea_cons (ev_call z.2.1 (ea_cons (ev_var rfl) ea_nil) rfl trivial) (ea_cons (ev_var rfl) ea_nil))) rfl ⟨okInit v.l, rowOk v.r⟩) (sd_nxt [_, _, _, _, _, _] rfl ?_))
  refine sd_ret hq (ev_fz (ef_lcLm ((mWalk z.1 (mInit z.2.1) z.2.2.2).drop 1) eS (fun s => mView z.1 s z.2.2.1) (Ev.of (ev_slL (ev_var rfl) (es_at ev_int) es_no) (by rw [show (1 : Int) = ((1 : Nat) : Int) from rfl, cutD_from, List.map_drop])) rfl (by rw [List.length_drop, mWalk_len]; omega) (fun x hx => (ev_call (z.1, x, z.2.2.1) (ea_cons (ev_var rfl) (ea_cons (ev_var rfl) (ea_cons (ev_var rfl) ea_nil))) rfl (mWalk_ok v.l v.r x (List.mem_of_mem_drop hx)).bd)))) ?_
  rfl
structure Vd3 (x : Way × List Str × List Str) : Prop where
  w : mIsWay x.1 = true
  l : mIsList x.2.1 = true
  r : mIsRow x.2.2 = true
abbrev enc3 (x : Way × List Str × List Str) : List D := [eW x.1, dL x.2.1, dL x.2.2]
abbrev spAlong (K : PySem.W.Frag) : Sp := spA K enc3 Vd3 fun x => .list ((mWalk x.1 (mInit x.2.1) x.2.2).map eS)
abbrev spAfter (K : PySem.W.Frag) : Sp := spA K enc3 Vd3 fun x => eS (mSt x.1 (mInit x.2.1) x.2.2 x.2.2.length)
theorem mWalk_last {y : Way} {s : Sta} {row : List Str} : (mWalk y s row).getLast? = some (mSt y s row row.length) := by
  unfold mWalk
  rw [List.range_succ, List.map_append]
  exact List.getLast?_concat ..
def mPuts (y : Way) (ws row : List Str) : List Str := (((mWalk y (mInit ws) row).drop 1).map (·.pu)).filter fun p => !decide (p = "")
abbrev spPuts (K : PySem.W.Frag) : Sp := spA K enc3 Vd3 fun x => dL (mPuts x.1 x.2.1 x.2.2)
end

end Fo
namespace Fo
open PySem PySem.Spec PyProof.Rows L2 DL DR

section
variable {P : Program} {w : World} {K : PySem.W.Frag} {mg : Str → Option Value} {base : Heap}
/-- the texts of i letters, in order; those of 1 to n -/
def mLay : Nat → List Str
  | 0 => [""]
  | i + 1 => (mLay i).flatMap fun t => letS.map fun l => t ++ l
def mTexts : Nat → List Str
  | 0 => []
  | n + 1 => mTexts n ++ mLay (n + 1)
theorem mLay_bd : ∀ i, i < 5 → (mLay i).length ≤ 300 ∧ (mTexts i).length ≤ 300 ∧ ∀ t ∈ mLay i, t.length ≤ 10 := by decide +kernel
abbrev spTexts (K : PySem.W.Frag) : Sp := spA K (fun n : Nat => [.int (n : Int)]) (fun n => n ≤ 4) fun n => dL (mTexts n)
end

end Fo
namespace Fo
open PySem PySem.Spec PyProof.Rows L2 DL DR
abbrev s__law_draw : Stmt := topS 79
abbrev N__law_draw : List Str := ["_law_draws", "_law_limit", "_law_numbers", "_law_at", "_law_cell", "_law_mixed"]
theorem sc__law_draw : FnScope N__law_draw ["_law_draws", "_law_limit"] (defScope s__law_draw) := ⟨rfl, rfl, rfl, by decide +kernel, rfl, by decide +kernel, by decide +kernel⟩

/-! ### the law's draws -/
def DsOk (s : Ds) : Prop := 0 < s.ns.length ∧ s.ns.length ≤ 1000
def dAt (s : Ds) : Nat := ((s.c + 1) % (s.ns.length : Int)).toNat
def dCell (s : Ds) : Int := s.ns.getD (dAt s) 0
def dMix (s : Ds) : Int := ((dCell s + 104729 * (s.c + 1)) % 4294967291) ^ 5 % 4294967279
def dDraw (s : Ds) (lim : Int) : Int × Ds :=
  if 1000000000000000000 ≤ dCell s then (dCell s % lim, ⟨s.ns.set (dAt s) (dCell s / lim), s.c + 1⟩)
  else ((dMix s / 64 * 69621 + dMix s) % 4294967231 / 8 % lim, ⟨s.ns, s.c + 1⟩)
theorem dDraw_ok {s : Ds} (h : DsOk s) (lim : Int) : DsOk (dDraw s lim).2 := by
  unfold dDraw
  split
  · unfold DsOk
    show 0 < (s.ns.set _ _).length ∧ (s.ns.set _ _).length ≤ 1000
    rw [List.length_set]
    exact h
  · exact h
theorem dDraw_rng {s : Ds} {lim : Int} (h : 0 < lim) : 0 ≤ (dDraw s lim).1 ∧ (dDraw s lim).1 < lim := by
  unfold dDraw
  split <;> exact ⟨Int.emod_nonneg _ (by omega), Int.emod_lt_of_pos _ h⟩
def pk {α : Type} (s : Ds) (d : α) (xs : List α) : α × Ds := (xs.getD (dDraw s (xs.length : Int)).1.toNat d, (dDraw s (xs.length : Int)).2)
theorem pk_ok {α : Type} {s : Ds} (h : DsOk s) (d : α) (xs : List α) : DsOk (pk s d xs).2 := dDraw_ok h _
theorem pk_mem {α : Type} {s : Ds} {d : α} {xs : List α} (hx : xs ≠ []) : (pk s d xs).1 ∈ xs := by
  have hl : 0 < xs.length := List.length_pos_iff.mpr hx
  have r := dDraw_rng (s := s) (lim := (xs.length : Int)) (by omega)
  have : (dDraw s (xs.length : Int)).1.toNat < xs.length := by omega
  show xs.getD _ d ∈ xs
  rw [List.getD_eq_getElem?_getD, List.getElem?_eq_getElem this]
  exact List.getElem_mem this
section
variable {P : Program} {w : World} {K : PySem.W.Frag} {mg : Str → Option Value} {base : Heap}
abbrev spDraw (K : PySem.W.Frag) : Sp := spW K (fun n : Int => [.int n]) (fun n s => 0 < n ∧ n < 1000000 ∧ DsOk s) fun n s => (.int (dDraw s n).1, (dDraw s n).2)
theorem cl__law_draw (T : FT K mg "_law_draw" s__law_draw ["_law_draws", "_law_limit"]) (b : Bi mg) : Cl P w K mg base "_law_draw" 1 ["_law_draws", "_law_limit"] (spDraw K) := by
  obtain ⟨nlen, nisinstance, nall, nmin, ntuple, nlist, nset, nsorted, nrange, nstr, nint, nbool⟩ := b
  obtain ⟨f, fd, F, hm, bi⟩ := T
  refine ⟨f, fd, ?_, hm, F.kp, bi⟩
  have nd := sc__law_draw.nd
  refine F.ok sc__law_draw (fun vs H Q E ⟨G, x, d, rest, hv, ex, ra, _⟩ => by rw [hv, List.length_cons, RA.len ra]; rfl) (fun cdv A outer s H vs Q E hr ⟨G, lim, d, rest, hv, ex, ra, g1, g2, ne, h1, h2, hd, q⟩ => ?_)
  obtain ⟨hlim, hlim2, hne, hsz⟩ := hd
  subst hv
  cases ra with
  | cons ra1 ra2 =>
    cases ra2
    cases ra1
    have hne : 0 < d.ns.length := hne
    have hpos : (0 : Int) < (d.ns.length : Int) := by omega
    have hat : (d.c + 1) % (d.ns.length : Int) = ((dAt d.st : Nat) : Int) := by
      have := Int.emod_nonneg (d.c + 1) (b := (d.ns.length : Int)) (by omega)
      show _ = (((d.c + 1) % (d.ns.length : Int)).toNat : Int)
      omega
    have hlt : dAt d.st < d.ns.length := by
      have := Int.emod_lt_of_pos (d.c + 1) hpos
      omega
    have hcell : (d.ns.map V.int)[dAt d.st]? = some (.int (dCell d.st)) := by
      rw [List.getElem?_map, List.getElem?_eq_getElem hlt]
      show some (V.int _) = some (V.int (d.ns.getD (dAt d.st) 0))
      rw [List.getD_eq_getElem?_getD, List.getElem?_eq_getElem hlt]
      rfl
    let H1 := upd H d.p (.lst [.ref d.q, .int (d.c + 1)])
    have p1 : H1 d.p = some (.lst [.ref d.q, .int (d.c + 1)]) := upd_same
    have q1 : H1 d.q = some (.lst (d.ns.map V.int)) := by show upd H d.p _ d.q = _; rw [upd_ne ne.symm]; exact h2
    have sp1 : SqL K H1 d.p [.ref d.q, .int (d.c + 1)] := .inl (.inl p1)
    have sq1 : SqL K H1 d.q (d.ns.map V.int) := .inl (.inl q1)
    have sp0 : SqL K H d.p [.ref d.q, .int d.c] := .inl (.inl h1)
    have i0 : atI [V.ref d.q, .int d.c] 0 = some (.ref d.q) := atI_nat (j := 0) rfl
    have i1 : atI [V.ref d.q, .int d.c] 1 = some (.int d.c) := atI_nat (j := 1) rfl
    have i2 : atI [V.ref d.q, .int (d.c + 1)] 1 = some (.int (d.c + 1)) := atI_nat (j := 1) rfl
    have i3 : atI (d.ns.map V.int) ((dAt d.st : Nat) : Int) = some (.int (dCell d.st)) := atI_nat hcell
    have ex1 : Evl.Ex G H1 := ex.mut g1
    refine ⟨_, ((pss_cons (ps_set (i := 2) nd rfl (by first | exact Or.inl rfl | exact Or.inr rfl) (pe_ix (ix_listK rfl) (pv 0) pe_int (fun _ _ => rfl)))
      (pss_cons (ps_asg (pe_op op_add (pe_ix (ix_listK rfl) (pv 0) pe_int (fun _ _ => rfl)) pe_int) (pg_sub (pv 0) pe_int set_list))
      (pss_cons (ps_set (i := 3) nd rfl (by first | exact Or.inl rfl | exact Or.inr rfl) (pe_op op_mod (pe_ix (ix_listK rfl) (pv 0) pe_int (fun _ _ => rfl)) (pe_callB (call_lenK rfl) (by rfl) nlen (by decide +kernel) (pa_cons (pv 2) pa_nil))))
      (pss_cons (ps_set (i := 4) nd rfl (by first | exact Or.inl rfl | exact Or.inr rfl) (pe_ix (ix_listK rfl) (pv 2) (pv 3) (fun _ _ => rfl)))
      (pss_cons (ps_if (pt_cmpR op_ge (pv 4) pe_int (nomark _))
      (pss_cons (ps_asg (pe_op op_fdiv (pv 4) (pv 1)) (pg_sub (pv 2) (pv 3) set_list))
        (pss_one (ps_ret (pe_op op_mod (pv 4) (pv 1)))))
      pss_nil)
      (pss_cons (ps_set (i := 5) nd rfl (by first | exact Or.inl rfl | exact Or.inr rfl) (pe_op op_mod (pe_op op_add (pv 4) (pe_op op_mul pe_int (pe_ix (ix_listK rfl) (pv 0) pe_int (fun _ _ => rfl)))) pe_int))
      (pss_cons (ps_set (i := 5) nd rfl (by first | exact Or.inl rfl | exact Or.inr rfl) (pe_op op_mod (pe_op op_pow (pv 5) pe_int) pe_int))
      (pss_one (ps_ret (pe_op op_mod (pe_op op_fdiv (pe_op op_mod (pe_op op_add (pe_op op_mul (pe_op op_fdiv (pv 5) pe_int) pe_int) (pv 5)) pe_int) pe_int) (pv 1)))))))))))), ?_⟩
    refine ⟨_, rfl, d.p, _, 0, _, rfl, rfl, sp0, i0, ?_⟩
    refine ⟨_, rfl, d.p, _, 1, _, rfl, rfl, sp0, i1, d.c, 1, rfl, rfl, _, rfl, d.p, _, 1, 1, rfl, rfl, h1, rfl, ?_⟩
    show _
    refine ⟨_, rfl, d.p, _, 1, _, rfl, rfl, sp1, i2, .ref d.q, rfl, d.q, d.ns.map V.int, rfl, .inl sq1, d.c + 1, _, rfl, rfl, by rw [List.length_map]; exact hpos, ?_⟩
    show gName 3 (V.int ((d.c + 1) % (((List.map V.int d.ns).length : Nat) : Int))) _ _ _
    rw [List.length_map, hat]
    refine ⟨.ref d.q, rfl, .int ((dAt d.st : Nat) : Int), rfl, d.q, _, _, _, rfl, rfl, sq1, i3, ?_⟩
    refine ⟨.int (dCell d.st), rfl, _, _, rfl, rfl, _, rfl, ite2 (fun hb => ?_) (fun hb => ?_)⟩
    · have hbig : 1000000000000000000 ≤ dCell d.st := of_decide_eq_true hb
      have e1 : dDraw d.st lim = (dCell d.st % lim, ⟨d.ns.set (dAt d.st) (dCell d.st / lim), d.c + 1⟩) := if_pos hbig
      refine ⟨.int (dCell d.st), rfl, .int lim, rfl, _, _, rfl, rfl, ⟨hlim, by omega⟩, .ref d.q, rfl, .int ((dAt d.st : Nat) : Int), rfl, d.q, _, _, dAt d.st, rfl, rfl, q1, ?_, ?_⟩
      · unfold ixN
        rw [List.length_map, if_pos (by omega), if_pos (by omega), Int.toNat_natCast]
      refine ⟨.int (dCell d.st), rfl, .int lim, rfl, _, _, rfl, rfl, hlim, ?_⟩
      refine q (.int (dCell d.st % lim)) G _ (Evl.Ex.refl G) (ex1.mut g2) g1 g2 ?_ ?_ (fun a a1 a2 a3 a4 => ⟨a4, by rw [upd_ne a2]; show upd H d.p _ a = _; rw [upd_ne a1]⟩) ?_
      · rw [upd_ne ne]
        show upd H d.p _ d.p = _
        rw [upd_same]
        show _ = some (HO.lst [.ref d.q, .int (dDraw d.st lim).2.c])
        rw [e1]
        rfl
      · rw [upd_same]
        show _ = some (HO.lst ((dDraw d.st lim).2.ns.map V.int))
        rw [e1, ← List.map_set]
      · show R K G _ (.int (dDraw d.st lim).1)
        rw [e1]
        exact .int _
    · have hsm : ¬ 1000000000000000000 ≤ dCell d.st := fun z => hb (decide_eq_true z)
      have e1 : dDraw d.st lim = ((dMix d.st / 64 * 69621 + dMix d.st) % 4294967231 / 8 % lim, ⟨d.ns, d.c + 1⟩) := if_neg hsm
      have m0 : 0 ≤ (dCell d.st + 104729 * (d.c + 1)) % 4294967291 ∧ (dCell d.st + 104729 * (d.c + 1)) % 4294967291 < 4294967291 := ⟨Int.emod_nonneg _ (by decide), Int.emod_lt_of_pos _ (by decide)⟩
      have m1 : 0 ≤ dMix d.st ∧ dMix d.st < 4294967279 := ⟨Int.emod_nonneg _ (by decide), Int.emod_lt_of_pos _ (by decide)⟩
      refine ⟨.int (dCell d.st), rfl, .ref d.p, rfl, d.p, _, 1, _, rfl, rfl, sp1, i2, _, _, rfl, rfl, .inl ⟨by decide, by decide⟩, _, _, rfl, rfl, _, _, rfl, rfl, (by show (0 : Int) < 4294967291; decide), ?_⟩
      refine ⟨.int ((dCell d.st + 104729 * (d.c + 1)) % 4294967291), rfl, _, _, rfl, rfl, ⟨by decide, by decide, by omega⟩, _, _, rfl, rfl, (by show (0 : Int) < 4294967279; decide), ?_⟩
      show _
      refine ⟨.int (dMix d.st), rfl, _, _, rfl, rfl, ⟨by decide, by decide⟩, _, _, rfl, rfl, .inr ⟨by decide, by decide⟩, .int (dMix d.st), rfl, _, _, rfl, rfl, _, _, rfl, rfl, (by show (0 : Int) < 4294967231; decide), _, _, rfl, rfl, ⟨by decide, by decide⟩, .int lim, rfl, _, _, rfl, rfl, hlim, ?_⟩
      refine q _ G _ (Evl.Ex.refl G) ex1 g1 g2 ?_ ?_ (fun a a1 a2 a3 a4 => ⟨a4, by show upd H d.p _ a = _; rw [upd_ne a1]⟩) ?_
      · show upd H d.p _ d.p = some (HO.lst [.ref d.q, .int (dDraw d.st lim).2.c])
        rw [upd_same, e1]
        rfl
      · show _ = some (HO.lst ((dDraw d.st lim).2.ns.map V.int))
        rw [e1]
        exact q1
      · show R K G _ (.int (dDraw d.st lim).1)
        rw [e1]
        exact .int _
end

end Fo
namespace Fo
open PySem PySem.Spec PyProof.Rows L2 DL DR

/-! ### letters -/
def Lt (x : Str) : Prop := ∀ c ∈ L x, c = 97 ∨ c = 98
instance (x : Str) : Decidable (Lt x) := inferInstanceAs (Decidable (∀ c ∈ L x, c = 97 ∨ c = 98))
theorem Lt.ok {x : Str} (h : Lt x) : PyData.strOk x = true := by
  show x.cps.all (fun c => decide (c < 1114112)) = true
  rw [← Array.all_toList, List.all_eq_true]
  intro c hc
  rcases h c hc with rfl | rfl <;> decide
theorem Lt.add {x y : Str} (h1 : Lt x) (h2 : Lt y) : Lt (x ++ y) := fun c hc => by
  rw [L_add] at hc
  rcases List.mem_append.mp hc with z | z
  · exact h1 c z
  · exact h2 c z
theorem Lt.pre {x y : Str} (h : Lt x) (p : L y <+: L x) : Lt y := fun c hc => h c (p.subset hc)
theorem Lt.nil : Lt "" := by decide
theorem Lt.let {k : Str} (h : letS.contains k = true) : Lt k := by
  have : ∀ k ∈ letS, Lt k := by decide
  exact this k (List.contains_iff_mem.mp h)
theorem Lt.right {x y : Str} (h : Lt (x ++ y)) : Lt y := fun c hc => h c (by rw [L_add]; exact List.mem_append_right _ hc)
theorem Lt.isText {x : Str} (h : Lt x) (hl : x.length ≤ 4) : mIsText x = true := by
  unfold mIsText
  rw [decide_eq_true hl, Bool.true_and, List.all_eq_true]
  intro z hz
  unfold sgns at hz
  obtain ⟨c, hc, rfl⟩ := List.mem_map.mp hz
  rcases h c hc with rfl | rfl <;> decide
/-! ### what holds of a state of the law -/
structure Lv (w : Way) (ws : List Str) (s : Sta) : Prop where
  ok : Ok s
  tx : Lt s.tx
  bg : Lt s.bg
  pu : Lt s.pu
  od : ∀ x ∈ s.od, Lt x
  pm : s.od.Perm ws
  no : w.ln = 0 → s.od = ws
  bq : s.bg ≠ "" → Txt.startswith s.tx s.bg = true ∧ s.qu = 1
theorem off_lt {w : Way} {s : Sta} (h : ∀ x ∈ s.od, Lt x) : Lt (mOff w s) := by
  by_cases z : mOff w s = ""
  · rw [z]; exact Lt.nil
  · obtain ⟨_, x, hx, p⟩ := mOff_pre z
    exact ((h x (mFit_sub hx)).pre p).right
theorem front_perm {x : Str} {o : List Str} (hd : o.Nodup) (hx : x ∈ o) : (mFront x o).Perm o := by
  unfold mFront
  have e : (o.filter fun y => !decide (y = x)) = o.erase x := by
    rw [List.Nodup.erase_eq_filter hd]
    refine List.filter_congr fun y _ => ?_
    by_cases z : y = x <;> simp [z]
  rw [e]
  exact (List.perm_cons_erase hx).symm
theorem lv_press {w : Way} {ws : List Str} {s : Sta} (hn : ws.Nodup) (v : Lv w ws s) {k : Str} (hk : keysS.contains k = true) : Lv w ws (mPress w s k) := by
  have o := ok_press (w := w) v.ok hk
  have hd : s.od.Nodup := v.pm.nodup_iff.mpr hn
  have key : Lt (mPress w s k).tx ∧ Lt (mPress w s k).bg ∧ Lt (mPress w s k).pu ∧ (∀ x ∈ (mPress w s k).od, Lt x) ∧ (mPress w s k).od.Perm ws ∧ (w.ln = 0 → (mPress w s k).od = ws) ∧ ((mPress w s k).bg ≠ "" → Txt.startswith (mPress w s k).tx (mPress w s k).bg = true ∧ (mPress w s k).qu = 1) := by
    unfold mPress
    split
    · rename_i hl
      unfold mLet
      split
      · exact ⟨v.tx, v.bg, Lt.nil, v.od, v.pm, v.no, v.bq⟩
      · exact ⟨v.tx.add (Lt.let hl), Lt.nil, Lt.nil, v.od, v.pm, v.no, fun z => absurd rfl z⟩
    split
    · unfold mTab
      split
      · refine ⟨v.tx.add (off_lt v.od), v.tx, Lt.nil, v.od, v.pm, v.no, fun _ => ⟨(sw_iff _ _).mpr ?_, rfl⟩⟩
        show L s.tx <+: L (s.tx ++ mOff w s)
        rw [L_add]
        exact List.prefix_append _ _
      · have hm : ∀ (P : Str → Prop), P s.tx → (s.bg ≠ "" → ∀ y ∈ mFit s.bg s.od, P y) → P (if (decide (w.ag = "next") && !decide (s.bg = "")) = true then mBeh s.tx (mFit s.bg s.od) else s.tx) := fun P h1 h2 => by
          split
          · rename_i hc
            rw [Bool.and_eq_true, Bool.not_eq_true', decide_eq_false_iff_not] at hc
            exact h2 hc.2 _ (mBeh_mem (v.ok.bg hc.2))
          · exact h1
        refine ⟨hm Lt v.tx fun _ y hy => v.od y (mFit_sub hy), v.bg, Lt.nil, v.od, v.pm, v.no, fun z => ⟨hm (fun y => Txt.startswith y s.bg = true) (v.bq z).1 fun _ y hy => ?_, (v.bq z).2⟩⟩
        have := (List.mem_filter.mp hy).2
        rw [Bool.and_eq_true] at this
        exact this.1
    split
    · refine ⟨?_, Lt.nil, Lt.nil, v.od, v.pm, v.no, fun z => absurd rfl z⟩
      show Lt (mBackText w s)
      unfold mBackText
      split
      · exact v.tx.pre (by rw [L_cutTo]; exact List.dropLast_prefix _)
      · exact v.tx
    · have hm : (mPut w s k).od.Perm ws ∧ (w.ln = 0 → (mPut w s k).od = ws) := by
        show (if _ then _ else _ : List Str).Perm ws ∧ (w.ln = 0 → (if _ then _ else _ : List Str) = ws)
        split
        · rename_i hc
          rw [Bool.and_eq_true, decide_eq_true_eq] at hc
          exact ⟨(front_perm hd (List.contains_iff_mem.mp hc.2)).trans v.pm, fun z => by rw [z] at hc; exact absurd hc.1 (by decide)⟩
        · exact ⟨v.pm, v.no⟩
      refine ⟨Lt.nil, Lt.nil, ?_, fun x hx => v.od x (v.pm.mem_iff.mpr (hm.1.mem_iff.mp hx)), hm.1, hm.2, fun z => absurd rfl z⟩
      show Lt (mPutText w s k)
      unfold mPutText
      split
      · exact v.tx.add (off_lt v.od)
      · exact v.tx
  obtain ⟨k1, k2, k3, k4, k5, k6, k7⟩ := key
  exact ⟨o, k1, k2, k3, k4, k5, k6, k7⟩
theorem lv_st {w : Way} {ws : List Str} {s : Sta} (hn : ws.Nodup) (v : Lv w ws s) {row : List Str} (h : ∀ k ∈ row, keysS.contains k = true) : ∀ i, Lv w ws (mSt w s row i) := by
  have all : ∀ (r : List Str) (s : Sta), Lv w ws s → (∀ k ∈ r, keysS.contains k = true) → Lv w ws (r.foldl (mPress w) s) := by
    intro r
    induction r with
    | nil => exact fun s v _ => v
    | cons k r ih => exact fun s v hh => ih _ (lv_press hn v (hh k (List.mem_cons_self ..))) fun k' hk' => hh k' (List.mem_cons_of_mem _ hk')
  exact fun i => all _ s v fun k hk => h k (List.mem_of_mem_take hk)
theorem put_key {w : Way} {s : Sta} {k : Str} (hk : keysS.contains k = true) (h : (mPress w s k).pu ≠ "") : (mPress w s k).tx = "" ∧ (k = "blank" ∨ k = "end") := by
  have hm := List.contains_iff_mem.mp hk
  unfold mPress at h ⊢
  split at h
  · exfalso
    unfold mLet at h
    split at h <;> exact h rfl
  · split at h
    · exfalso
      unfold mTab at h
      split at h <;> exact h rfl
    · split at h
      · exact absurd rfl h
      · rename_i h1 h2 h3
        rw [if_neg h1, if_neg h2, if_neg h3]
        refine ⟨rfl, ?_⟩
        have h1' : k ∉ letS := fun z => h1 (List.contains_iff_mem.mpr z)
        simp only [keysS, letS, List.mem_cons, List.not_mem_nil, or_false, not_or] at hm h1'
        rcases hm with z | z | z | z | z | z
        · exact absurd z h1'.1
        · exact absurd z h1'.2
        · exact absurd z h2
        · exact .inl z
        · exact absurd z h3
        · exact .inr z
theorem end_st {w : Way} {s : Sta} : (mPress w s "end").tx = "" ∧ (mPress w s "end").bg = "" ∧ (mPress w s "end").qu = 0 := by
  have e : mPress w s "end" = mPut w s "end" := by
    unfold mPress
    rw [if_neg (by decide), if_neg (by decide), if_neg (by decide)]
  rw [e]
  exact ⟨rfl, rfl, rfl⟩
/-! ### the common beginning -/
theorem shr_max {t y : Str} : ∀ (n : Nat) (c : Str), L y <+: L c → L y <+: L t → L y <+: L (shr t n c)
  | 0, c, h, _ => h
  | n + 1, c, h, ht => by
    unfold shr
    split
    · exact h
    · rename_i hc
      refine shr_max n _ ?_ ht
      rw [L_cutTo]
      obtain ⟨r, hr⟩ := h
      rcases List.eq_nil_or_concat r with rfl | ⟨r', z, rfl⟩
      · exfalso
        rw [List.append_nil] at hr
        exact hc ((sw_iff _ _).mpr (by rw [← hr]; exact ht))
      · rw [← hr, List.concat_eq_append, ← List.append_assoc, List.dropLast_concat]
        exact List.prefix_append _ _
theorem com_max {y : Str} : ∀ (xs : List Str) (c : Str), L y <+: L c → (∀ t ∈ xs, L y <+: L t) → L y <+: L (xs.foldl comStep c)
  | [], c, h, _ => h
  | t :: xs, c, h, ht => com_max xs (comStep c t) (shr_max _ c h (ht t (List.mem_cons_self ..))) fun z hz => ht z (List.mem_cons_of_mem _ hz)
theorem com_all : ∀ (xs : List Str) (c : Str), ∀ t ∈ xs, L (xs.foldl comStep c) <+: L t
  | [], c, t, h => by cases h
  | x :: xs, c, t, h => by
    rcases List.mem_cons.mp h with rfl | h
    · exact (com_pre xs _).trans ((sw_iff _ _).mp (shr_sw t c.length c (Nat.le_refl _)))
    · exact com_all xs _ t h
theorem last_filter {p : Nat → Bool} {n : Nat} : ∀ m, n ≤ m → p n = true → (∀ k, k ≤ m → p k = true → k ≤ n) → ((List.range (m + 1)).filter p).getLast? = some n
  | m, hnm, hp, hm => by
    rw [List.range_succ, List.filter_append]
    by_cases e : n = m
    · subst e
      rw [List.filter_cons_of_pos hp, List.filter_nil]
      exact List.getLast?_concat ..
    · have hf : ¬ p m = true := fun z => e (by have := hm m (Nat.le_refl _) z; omega)
      rw [List.filter_cons_of_neg hf, List.filter_nil, List.append_nil]
      obtain ⟨m', rfl⟩ : ∃ m', m = m' + 1 := ⟨m - 1, by omega⟩
      exact last_filter m' (by omega) hp fun k hk => hm k (by omega)
/-- the beginnings of x that all of xs begin with -/
def lCom (x : Str) (xs : List Str) (k : Nat) : Bool := (xs.filter fun r => !Txt.startswith r (cutS x none (some (k : Int)))).length == 0
theorem lCom_iff {x : Str} {xs : List Str} {k : Nat} : lCom x xs k = true ↔ ∀ r ∈ xs, (L x).take k <+: L r := by
  unfold lCom
  rw [beq_iff_eq, List.length_eq_zero_iff, List.filter_eq_nil_iff]
  refine forall_congr' fun r => forall_congr' fun _ => ?_
  rw [Bool.not_eq_true', Bool.not_eq_false, sw_iff, L_cutK]
theorem lCom_last {x : Str} {r : List Str} : (((List.range (x.length + 1)).filter (lCom x (x :: r))).map fun (k : Nat) => cutS x none (some (k : Int))).getLast? = some (mCom (x :: r)) := by
  have hp : L (mCom (x :: r)) <+: L x := mCom_pre
  have e : (L x).take (L (mCom (x :: r))).length = L (mCom (x :: r)) := (List.prefix_iff_eq_take.mp hp).symm
  rw [List.getLast?_map, last_filter (n := (L (mCom (x :: r))).length) x.length (by have := hp.length_le; rw [len_L]; exact this)]
  · show some _ = some _
    refine congrArg some (L_inj ?_)
    rw [L_cutK, e]
  · rw [lCom_iff]
    intro t ht
    rw [e]
    exact com_all _ _ t ht
  · intro k hk h
    rw [lCom_iff] at h
    have ek : L (cutS x none (some (k : Int))) = (L x).take k := L_cutK x k
    have := (com_max (y := cutS x none (some (k : Int))) (x :: r) x (by rw [ek]; exact List.take_prefix _ _) fun t ht => by rw [ek]; exact h t ht).length_le
    rw [ek, List.length_take, Nat.min_eq_left (by rw [← len_L]; exact hk)] at this
    exact this
/-! ### the next word -/
theorem behind_two {t : Str} {ws : List Str} (hd : ws.Nodup) (h : t ∈ ws) : (ws ++ ws)[(ws ++ ws).idxOf t + 1]? = some (mBeh t ws) := by
  have hi := List.idxOf_lt_length_of_mem h
  have hat : ws[ws.idxOf t]? = some t := by rw [List.getElem?_eq_getElem hi, List.getElem_idxOf hi]
  have e1 : (ws ++ ws).idxOf t = ws.idxOf t := by rw [List.idxOf_append, if_pos h]
  rw [e1]
  unfold mBeh
  rw [List.contains_iff_mem.mpr h, Bool.not_true, Bool.false_or]
  have hne : ws ≠ [] := fun z => by rw [z] at h; cases h
  have hl : ws.getLastD "" = ws.getLast hne := by rw [List.getLastD_eq_getLast?, List.getLast?_eq_some_getLast hne]; rfl
  by_cases hlt : ws.idxOf t + 1 < ws.length
  · rw [List.getElem?_append_left hlt, if_neg]
    · rw [List.getD_eq_getElem?_getD, List.getElem?_eq_getElem hlt]
      rfl
    · rw [decide_eq_true_eq, hl, List.getLast_eq_getElem]
      intro z
      have := (List.getElem_inj (xs := ws) (h₀ := hi) (h₁ := by omega) hd).mp ((List.getElem_idxOf hi).trans z)
      omega
  · have e2 : ws.idxOf t + 1 = ws.length := by omega
    rw [List.getElem?_append_right (by omega), e2, Nat.sub_self, if_pos]
    · cases ws with
      | nil => exact absurd rfl hne
      | cons x r => rfl
    · rw [decide_eq_true_eq, hl, List.getLast_eq_getElem]
      have e3 : ws.idxOf t = ws.length - 1 := by omega
      rw [← List.getElem_idxOf hi]
      simp only [e3]

end Fo
namespace Fo
open PySem PySem.Spec PyProof.Rows L2 DL DR
abbrev s__law_fit : Stmt := topS 86
abbrev N__law_fit : List Str := ["_law_order", "_law_text", "_law_word"]
theorem sc__law_fit : FnScope N__law_fit ["_law_order", "_law_text"] (defScope s__law_fit) := ⟨rfl, rfl, rfl, by decide +kernel, rfl, by decide +kernel, by decide +kernel⟩
abbrev s__law_offer : Stmt := topS 87
abbrev N__law_offer : List Str := ["_law_way_here", "_law_state", "_law_rests", "_law_least", "_law_rest", "_law_able", "_law_k", "_law_one"]
theorem sc__law_offer : FnScope N__law_offer ["_law_way_here", "_law_state"] (defScope s__law_offer) := ⟨rfl, rfl, rfl, by decide +kernel, rfl, by decide +kernel, by decide +kernel⟩
abbrev s__law_start_state : Stmt := topS 90
abbrev N__law_start_state : List Str := ["_law_words"]
theorem sc__law_start_state : FnScope N__law_start_state ["_law_words"] (defScope s__law_start_state) := ⟨rfl, rfl, rfl, by decide +kernel, rfl, by decide +kernel, by decide +kernel⟩

section
variable {P : Program} {w : World} {K : PySem.W.Frag} {mg : Str → Option Value} {base : Heap} {τ : List SV} {δ δ' : Option Dr} {te : TE} {s : Sta} {y : Way}
theorem ev_s0 (h : Ev K te τ δ (eS s) δ') : Ev K (tOp (rIxT K) te (tC (.int 0))) τ δ (.str s.tx) δ' := ev_op h ev_int (rd_ixT (atI_nat (j := 0) rfl))
theorem ev_s2 (h : Ev K te τ δ (eS s) δ') : Ev K (tOp (rIxT K) te (tC (.int 2))) τ δ (.int s.qu) δ' := ev_op h ev_int (rd_ixT (atI_nat (j := 2) rfl))
theorem ev_s3 (h : Ev K te τ δ (eS s) δ') : Ev K (tOp (rIxT K) te (tC (.int 3))) τ δ (dT s.od) δ' := ev_op h ev_int (rd_ixT (atI_nat (j := 3) rfl))
theorem ev_s4 (h : Ev K te τ δ (eS s) δ') : Ev K (tOp (rIxT K) te (tC (.int 4))) τ δ (.str s.pu) δ' := ev_op h ev_int (rd_ixT (atI_nat (j := 4) rfl))
theorem ev_w0 (h : Ev K te τ δ (eW y) δ') : Ev K (tOp (rIxT K) te (tC (.int 0))) τ δ (.str y.ch) δ' := ev_op h ev_int (rd_ixT (atI_nat (j := 0) rfl))
theorem ev_w1 (h : Ev K te τ δ (eW y) δ') : Ev K (tOp (rIxT K) te (tC (.int 1))) τ δ (.int y.si) δ' := ev_op h ev_int (rd_ixT (atI_nat (j := 1) rfl))
theorem ev_w2 (h : Ev K te τ δ (eW y) δ') : Ev K (tOp (rIxT K) te (tC (.int 2))) τ δ (.str y.ac) δ' := ev_op h ev_int (rd_ixT (atI_nat (j := 2) rfl))
theorem ev_w3 (h : Ev K te τ δ (eW y) δ') : Ev K (tOp (rIxT K) te (tC (.int 3))) τ δ (.str y.ag) δ' := ev_op h ev_int (rd_ixT (atI_nat (j := 3) rfl))
theorem ev_w4 (h : Ev K te τ δ (eW y) δ') : Ev K (tOp (rIxT K) te (tC (.int 4))) τ δ (.str y.bk) δ' := ev_op h ev_int (rd_ixT (atI_nat (j := 4) rfl))
theorem ev_w5 (h : Ev K te τ δ (eW y) δ') : Ev K (tOp (rIxT K) te (tC (.int 5))) τ δ (.int y.ln) δ' := ev_op h ev_int (rd_ixT (atI_nat (j := 5) rfl))
/-! the law's keys and fits -/
theorem cl__law_start_state (T : FT K mg "_law_start_state" s__law_start_state ["_law_words"]) (b : Bi mg) : Cl P w K mg base "_law_start_state" 1 ["_law_words"] (spIni K) := by
  obtain ⟨nlen, nisinstance, nall, nmin, ntuple, nlist, nset, nsorted, nrange, nstr, nint, nbool⟩ := b
  refine clA T sc__law_start_state (fun _ => rfl) fun f cdv A outer s H E z hr hz => ?_
  have nd := sc__law_start_state.nd
  refine ⟨_, ((pss_one (ps_ret (pe_tup (pa_cons pe_str (pa_cons pe_str (pa_cons pe_int (pa_cons (pe_callTy (call_tupleK rfl) (by rfl) ntuple (by decide +kernel) (pa_cons (pv 0) pa_nil)) (pa_cons pe_str pa_nil))))))))), fun e Q hq => sd_nm [_] rfl ?_⟩
  exact sd_ret hq (ev_tup (ea_cons ev_str (ea_cons ev_str (ea_cons ev_int (ea_cons (ev_cb (ea_cons (ev_var rfl) ea_nil) rc_tupL) (ea_cons ev_str ea_nil)))))) rfl
theorem fit_ne (t x : Str) : (Txt.startswith x t && !decide (x = t)) = (Txt.startswith x t && decide ((t.length : Int) < (x.length : Int))) := by
  cases h : Txt.startswith x t with
  | false => rfl
  | true =>
    rw [Bool.true_and, Bool.true_and]
    have p := (sw_iff x t).mp h
    by_cases e : x = t
    · subst e
      rw [decide_eq_true rfl, decide_eq_false (by omega)]
      rfl
    · have hl := p.length_le
      rw [← len_L, ← len_L] at hl
      have : t.length ≠ x.length := fun z => e (L_inj (p.eq_of_length (by rw [← len_L, ← len_L]; exact z))).symm
      rw [decide_eq_false e, decide_eq_true (by omega)]
      rfl
abbrev spLFit (K : PySem.W.Frag) : Sp := spA K (fun x : List Str × Str => [dT x.1, .str x.2]) (fun x => x.2.length ≤ 100 ∧ (∀ y ∈ x.1, y.length ≤ 100) ∧ x.1.length ≤ 100) fun x => dL (mRests x.2 x.1)
theorem cl__law_fit (T : FT K mg "_law_fit" s__law_fit ["_law_order", "_law_text"]) (b : Bi mg) : Cl P w K mg base "_law_fit" 1 ["_law_order", "_law_text"] (spLFit K) := by
  obtain ⟨nlen, nisinstance, nall, nmin, ntuple, nlist, nset, nsorted, nrange, nstr, nint, nbool⟩ := b
  refine clA T sc__law_fit (fun _ => rfl) fun f cdv A outer s H E z hr hz => ?_
  have nd := sc__law_fit.nd
  refine ⟨_, ((pss_one (ps_ret (pe_lc (own := [("_law_word", 2)]) (g := gName 2) (tt := _) rfl nd (pi_tupK rfl (pv 0)) (blkOk_by (N := N__law_fit) (sc := (defScope s__law_fit)) (by decide +kernel)) (fun _ _ _ _ _ => (pg_name (i := 2) nd rfl (by first | exact Or.inl rfl | exact Or.inr rfl))) (fun _ _ _ _ _ => pts_one (PW.pt (pw_and (pt_val (pe_m1 PySem.F.slot_str_startswith PySem.F.type_str_startswith mt_startswith (pv 2) (pv 1))) (pw_and1 (pt_cmpR op_ne (pv 2) (pv 1) (nomark _)))))) (fun _ _ _ _ _ => (pe_slice sl_str (pv 2) (po_some (pe_callB call_len_str (by rfl) nlen (by decide +kernel) (pa_cons (pv 1) pa_nil))) po_none)))))), fun e Q hq => sd_nm [_, _, _] rfl ?_⟩
  refine sd_ret hq (ev_fz (ef_lcTp z.1 .str (fun x => Txt.startswith x z.2 && !decide (x = z.2)) (fun x => .str (cutS x (some (z.2.length : Int)) none)) (ev_var rfl) rfl (by have := hz.2.2; omega) (fun x hx => (et_and (et_B (ev_m1 (ev_var rfl) (ev_var rfl))) fun _ => (et_test (ev_op (ev_var rfl) (ev_var rfl) rd_neS)))) (fun x hx hb => (ev_slS (ev_var rfl) (es_at (ev_cb (ea_cons (ev_var rfl) ea_nil) (rc_lenS (by have := hz.1; omega)))) es_no (Nat.le_trans (hz.2.1 x hx) (by decide)))))) ?_
  show PyData.list _ = PyData.list ((mRests z.2 z.1).map .str)
  unfold mRests mFit
  rw [List.map_map, List.filter_congr fun x _ => fit_ne z.2 x]
  rfl
/-- a state that the law comes to -/
def LD (x : Way × Sta) : Prop := mIsWay x.1 = true ∧ ∃ ws : List Str, ws.Nodup ∧ Lv x.1 ws x.2
theorem LD.lv {x : Way × Sta} (h : LD x) : (∀ y ∈ x.2.od, Lt y) ∧ Ok x.2 := by
  obtain ⟨_, ws, _, v⟩ := h
  exact ⟨v.od, v.ok⟩
theorem rests_lt {t : Str} {o : List Str} (h : ∀ x ∈ o, Lt x) : ∀ y ∈ mRests t o, Lt y := fun y hy => by
  obtain ⟨x, hx, h1, h2, rfl⟩ := mRests_mem hy
  have := h x hx
  rw [← cut_join h1] at this
  exact this.right
abbrev spLOff (K : PySem.W.Frag) : Sp := spA K (fun x : Way × Sta => [eW x.1, eS x.2]) LD fun x => .str (mOff x.1 x.2)
theorem first_min {x : Str} {r : List Str} {m : Int} (hm : (((mMin (x :: r)).length : Nat) : Int) = m) : ((x :: r).filter fun y => decide ((y.length : Int) = m)).head? = some (mMin (x :: r)) := by
  obtain ⟨k, h1, h2⟩ := min_best r x
  have e : ∀ (l : List Str) (k : Nat) (z : Str), l[k]? = some z → (∀ (j : Nat) (y : Str), l[j]? = some y → z.length ≤ y.length ∧ (j < k → z.length < y.length)) → (l.filter fun y => decide ((y.length : Int) = (z.length : Int))).head? = some z := by
    intro l
    induction l with
    | nil => intro k z h _; cases h
    | cons a l ih =>
      intro k z h hb
      cases k with
      | zero =>
        cases h
        rw [List.filter_cons, if_pos (by exact decide_eq_true rfl)]
        rfl
      | succ k =>
        have h0 := (hb 0 a rfl).2 (Nat.zero_lt_succ _)
        rw [List.filter_cons_of_neg (by rw [decide_eq_true_eq]; omega)]
        exact ih k z h fun j y hj => ⟨(hb (j + 1) y hj).1, fun q => (hb (j + 1) y hj).2 (by omega)⟩
  rw [← hm]
  exact e _ k _ h1 h2
theorem cl__law_offer (T : FT K mg "_law_offer" s__law_offer ["_law_way_here", "_law_state"]) (b : Bi mg) {k : Nat} (C__law_fit : Cl P w K mg base "_law_fit" k ["_law_order", "_law_text"] (spLFit K)) : Cl P w K mg base "_law_offer" (k + 1) ["_law_way_here", "_law_state"] (spLOff K) := by
  obtain ⟨nlen, nisinstance, nall, nmin, ntuple, nlist, nset, nsorted, nrange, nstr, nint, nbool⟩ := b
  refine clA T sc__law_offer (fun _ => rfl) fun f cdv A outer s H E z hr hz => ?_
  have nd := sc__law_offer.nd
  have hr__law_fit := hr
  obtain ⟨hlt, ho⟩ := hz.lv
  have hbd := ho.bd
  have hl : (mRests z.2.tx z.2.od).length ≤ 100 := Nat.le_trans mRests_len hbd.2.2
  have hrb := mRests_bd hbd
  have hrl := rests_lt (t := z.2.tx) hlt
  have hch : z.1.ch ∈ choS := by
    have := hz.1
    unfold mIsWay at this
    rw [Bool.and_eq_true] at this
    exact List.contains_iff_mem.mp this.1
  refine ⟨_, ((pss_cons (ps_set (i := 2) nd rfl (by first | exact Or.inl rfl | exact Or.inr rfl) (pe_cl C__law_fit hr__law_fit (by rfl) (pa_cons (pe_ix (ix_tupK rfl) (pv 1) pe_int (fun _ _ => rfl)) (pa_cons (pe_ix (ix_tupK rfl) (pv 1) pe_int (fun _ _ => rfl)) pa_nil))))
      (pss_cons (ps_if (PW.pt (pw_or (pt_cmpR op_eq (pe_ix (ix_tupK rfl) (pv 1) pe_int (fun _ _ => rfl)) pe_int (nomark _)) (pw_or (pt_cmpR op_lt (pe_callB call_len_str (by rfl) nlen (by decide +kernel) (pa_cons (pe_ix (ix_tupK rfl) (pv 1) pe_int (fun _ _ => rfl)) pa_nil)) (pe_ix (ix_tupK rfl) (pv 0) pe_int (fun _ _ => rfl)) (nomark _)) (pw_or1 (pt_cmpR (op_eqDK hr.units rfl) (pv 2) (pe_lst pa_nil) (nomark _))))))
      (pss_one (ps_ret pe_str))
      pss_nil)
      (pss_cons (ps_if (pt_cmpR op_eq (pe_ix (ix_tupK rfl) (pv 0) pe_int (fun _ _ => rfl)) pe_str (nomark _))
      (pss_cons (ps_set (i := 3) nd rfl (by first | exact Or.inl rfl | exact Or.inr rfl) (pe_callB (cr_minK rfl rfl) (by rfl) nmin (by decide +kernel) (pa_cons (pe_lc (own := [("_law_rest", 4)]) (g := gName 4) (tt := tYes) rfl nd (pi_listK rfl (pv 2)) (blkOk_by (N := N__law_offer) (sc := (defScope s__law_offer)) (by decide +kernel)) (fun _ _ _ _ _ => (pg_name (i := 4) nd rfl (by first | exact Or.inl rfl | exact Or.inr rfl))) (fun _ _ _ _ _ => pts_nil) (fun _ _ _ _ _ => (pe_callB call_len_str (by rfl) nlen (by decide +kernel) (pa_cons (pv 4) pa_nil)))) pa_nil)))
        (pss_one (ps_ret (pe_ix (ix_listK rfl) (pe_lc (own := [("_law_rest", 4)]) (g := gName 4) (tt := _) rfl nd (pi_listK rfl (pv 2)) (blkOk_by (N := N__law_offer) (sc := (defScope s__law_offer)) (by decide +kernel)) (fun _ _ _ _ _ => (pg_name (i := 4) nd rfl (by first | exact Or.inl rfl | exact Or.inr rfl))) (fun _ _ _ _ _ => pts_one (pt_cmpR op_eq (pe_callB call_len_str (by rfl) nlen (by decide +kernel) (pa_cons (pv 4) pa_nil)) (pv 3) (nomark _))) (fun _ _ _ _ _ => (pv 4))) pe_int (fun _ _ => rfl)))))
      pss_nil)
      (pss_cons (ps_if (pt_cmpR op_eq (pe_ix (ix_tupK rfl) (pv 0) pe_int (fun _ _ => rfl)) pe_str (nomark _))
      (pss_one (ps_ret (pe_ix (ix_listK rfl) (pv 2) pe_int (fun _ _ => rfl))))
      pss_nil)
      (pss_cons (ps_setLc (i := 5) (own := [("_law_k", 6)]) (g := gName 6) (tt := tYes) rfl nd rfl rfl (sw_true rfl rfl rfl (by decide +kernel)) (pi_range1 (by rfl) nrange (pa_cons (pe_op op_add (pe_callB call_len_str (by rfl) nlen (by decide +kernel) (pa_cons (pe_ix (ix_listK rfl) (pv 2) pe_int (fun _ _ => rfl)) pa_nil)) pe_int) pa_nil)) (blkOk_by (N := N__law_offer) (sc := (defScope s__law_offer)) (by decide +kernel)) (fun _ _ _ _ _ => (pg_name (i := 6) nd rfl (by first | exact Or.inl rfl | exact Or.inr rfl))) (fun _ _ _ _ _ => pts_nil) (fun _ _ _ _ _ => (pe_slice sl_str (pe_ix (ix_listK rfl) (pv 2) pe_int (fun _ _ => rfl)) po_none (po_some (pv 6)))))
      (pss_one (ps_ret (pe_ix (ix_listK rfl) (pe_lc (own := [("_law_one", 7)]) (g := gName 7) (tt := _) rfl nd (pi_listK rfl (pv 5)) (blkOk_by (N := N__law_offer) (sc := (defScope s__law_offer)) (by decide +kernel)) (fun _ _ _ _ _ => (pg_name (i := 7) nd rfl (by first | exact Or.inl rfl | exact Or.inr rfl))) (fun _ _ _ _ _ => pts_one (pt_cmpR (op_eqDK hr.units rfl) (pe_lc (own := [("_law_rest", 4)]) (g := gName 4) (tt := _) rfl nd (pi_listK rfl (pv 2)) (blkOk_by (N := N__law_offer) (sc := (relS _ (defScope s__law_offer))) (by decide +kernel)) (fun _ _ _ _ _ => (pg_name (i := 4) nd rfl (by first | exact Or.inl rfl | exact Or.inr rfl))) (fun _ _ _ _ _ => pts_one (pt_not (pt_val (pe_m1 PySem.F.slot_str_startswith PySem.F.type_str_startswith mt_startswith (pv 4) (pv 7))))) (fun _ _ _ _ _ => (pv 4))) (pe_lst pa_nil) (nomark _))) (fun _ _ _ _ _ => (pv 7))) (pe_un un_neg pe_int) (fun _ _ => rfl)))))))))), fun e Q hq => sd_nm [_, _, _, _, _, _, _, _] rfl ?_⟩
  refine sd_seq (sd_asg (ev_call (z.2.od, z.2.tx) (ea_cons (ev_s3 (ev_var rfl)) (ea_cons (ev_s0 (ev_var rfl)) ea_nil)) rfl ⟨hbd.1, hbd.2⟩) (sd_nxt [_, _, _, _, _, _, _, _] rfl ?_))
  refine sd_seq (sd_if (et_or (et_test (ev_op (ev_s2 (ev_var rfl)) ev_int rd_eqI)) fun _ => (et_or (et_test (ev_op (ev_cb (ea_cons (ev_s0 (ev_var rfl)) ea_nil) (rc_lenS (by have := hbd.1; omega))) (ev_w1 (ev_var rfl)) rd_I0b)) fun _ => (et_test (ev_op (ev_var rfl) (ev_lst ea_nil) (rd_eqP (Pl.strs fun x hx => (hrl x hx).ok) Pl.nilL nil_b))))) (fun hb => ?_) (fun hb => sd_next ?_))
  · refine sd_ret hq ev_str ?_
    unfold mOff
    rw [← Bool.or_assoc, Bool.or_eq_true, decide_eq_true_eq] at hb
    rcases hb with hb | hb
    · rw [if_pos hb]
    · have hb : (mRests z.2.tx z.2.od).length = 0 := hb
      by_cases g : (decide (z.2.qu = 1) || decide ((z.2.tx.length : Int) < z.1.si)) = true
      · rw [if_pos g]
      · rw [if_neg g, if_pos hb]
  rw [← Bool.or_assoc, Bool.or_eq_false_iff, decide_eq_false_iff_not] at hb
  obtain ⟨h1, g2⟩ := hb
  have g1 : ¬ (decide (z.2.qu = 1) || decide ((z.2.tx.length : Int) < z.1.si)) = true := by rw [h1]; exact Bool.false_ne_true
  obtain ⟨x0, r0, e0⟩ : ∃ x r, mRests z.2.tx z.2.od = x :: r := by
    cases hh : mRests z.2.tx z.2.od with
    | nil => rw [hh] at g2; exact absurd rfl g2
    | cons x r => exact ⟨x, r, rfl⟩
  have hx0 : x0.length ≤ 100 := hrb x0 (by rw [e0]; exact List.mem_cons_self ..)
  have hof : ∀ d : Str, (if z.1.ch = "common" then mCom (x0 :: r0) else if z.1.ch = "short" then mMin (x0 :: r0) else x0) = d → mOff z.1 z.2 = d := fun d hd => by
    unfold mOff
    rw [if_neg g1, if_neg g2, e0]
    exact hd
  have i0 : atI ((mRests z.2.tx z.2.od).map PyData.str) 0 = some (.str x0) := by rw [e0]; exact atI_zero
  refine sd_seq (sd_if (et_test (ev_op (ev_w0 (ev_var rfl)) ev_str rd_eqS)) (fun hb => ?_) (fun h3 => sd_next ?_))
  · have hb := of_decide_eq_true hb
    refine sd_seq (sd_asg (d := .int ((mMin (x0 :: r0)).length : Int)) (ev_cb (ea_cons (Ev.of (ev_fz (ef_lcLm (mRests z.2.tx z.2.od) .str (fun x => .int (x.length : Int)) (ev_var rfl) rfl (by omega) (fun x hx => (ev_cb (ea_cons (ev_var rfl) ea_nil) (rc_lenS (by have := hrb x hx; omega)))))) (show PyData.list _ = PyData.list (((mRests z.2.tx z.2.od).map fun x => (x.length : Int)).map .int) by rw [List.map_map]; rfl)) ea_nil) (rc_min (by rw [List.length_map, e0]; exact Nat.zero_lt_succ _) (fun k hk hle => ?_))) (sd_nxt [_, _, _, _, _, _, _, _] rfl ?_))
    · rw [e0] at hk hle
      obtain ⟨j, hj, hjb⟩ := min_best r0 x0
      have a1 := hle _ (List.mem_map.mpr ⟨_, List.mem_of_getElem? hj, rfl⟩)
      obtain ⟨x, hx, rfl⟩ := List.mem_map.mp hk
      obtain ⟨i, hi⟩ := List.getElem?_of_mem hx
      have a2 := (hjb i x hi).1
      show (x.length : Int) = ((r0.foldl minStep x0).length : Int)
      omega
    refine sd_ret hq (ev_op (d := .str (mMin (x0 :: r0))) (ev_fz (ef_lcLp (mRests z.2.tx z.2.od) .str (fun x => decide ((x.length : Int) = ((mMin (x0 :: r0)).length : Int))) .str (ev_var rfl) rfl (by omega) (fun x hx => (et_test (ev_op (ev_cb (ea_cons (ev_var rfl) ea_nil) (rc_lenS (by have := hrb x hx; omega))) (ev_var rfl) rd_eqI))) (fun x hx hb => (ev_var rfl)))) ev_int (rd_ixL ?_)) ?_
    · rw [e0]
      have hh := first_min (x := x0) (r := r0) rfl
      cases hf : (x0 :: r0).filter fun y => decide ((y.length : Int) = ((mMin (x0 :: r0)).length : Int)) with
      | nil => rw [hf] at hh; cases hh
      | cons a l =>
        rw [hf] at hh
        cases hh
        exact atI_zero
    · refine congrArg PyData.str (hof _ ?_).symm
      rw [hb, if_neg (by decide), if_pos rfl]
  have g3 := of_decide_eq_false h3
  refine sd_seq (sd_if (et_test (ev_op (ev_w0 (ev_var rfl)) ev_str rd_eqS)) (fun hb => ?_) (fun h4 => sd_next ?_))
  · have hb := of_decide_eq_true hb
    refine sd_ret hq (ev_op (d := .str x0) (ev_var rfl) ev_int (rd_ixL i0)) ?_
    refine congrArg PyData.str (hof _ ?_).symm
    rw [hb, if_neg (by decide), if_neg (by decide)]
  have g4 := of_decide_eq_false h4
  have g5 : z.1.ch = "common" := by
    rcases List.mem_cons.mp hch with q | q
    · exact absurd q g4
    · rcases List.mem_cons.mp q with q | q
      · exact absurd q g3
      · rcases List.mem_cons.mp q with q | q
        · exact q
        · cases q
  refine sd_seq (sd_asg (d := .list ((List.range (x0.length + 1)).map fun (k : Nat) => .str (cutS x0 none (some (k : Int))))) (ev_fz (ef_lcRm (x0.length + 1) (fun (k : Nat) => .str (cutS x0 none (some (k : Int)))) (ea_cons (ev_op (ev_cb (ea_cons (ev_op (d := .str x0) (ev_var rfl) ev_int (rd_ixL i0)) ea_nil) (rc_lenS (by omega))) ev_int rd_addI) ea_nil) rfl (by omega) (fun i hi => (ev_slS (ev_op (d := .str x0) (ev_var rfl) ev_int (rd_ixL i0)) es_no (es_at (ev_var rfl)) (by omega))))) (sd_nxt [_, _, _, _, _, _, _, _] rfl ?_))
  have hlast : ((((List.range (x0.length + 1)).filter (lCom x0 (x0 :: r0))).map fun (k : Nat) => PyData.str (cutS x0 none (some (k : Int)))).getLast?) = some (.str (mCom (x0 :: r0))) := by
    have := congrArg (Option.map PyData.str) (lCom_last (x := x0) (r := r0))
    rw [← List.getLast?_map, List.map_map] at this
    exact this
  refine sd_ret hq (ev_op (d := .str (mCom (x0 :: r0))) (ev_fz (ef_lcLp (List.range (x0.length + 1)) (fun (k : Nat) => .str (cutS x0 none (some (k : Int)))) (lCom x0 (mRests z.2.tx z.2.od)) (fun (k : Nat) => .str (cutS x0 none (some (k : Int)))) (ev_var rfl) rfl (by rw [List.length_range]; omega) (fun k hk => (et_test (ev_op (ev_fz (ef_lcLp (mRests z.2.tx z.2.od) .str (fun r => !Txt.startswith r (cutS x0 none (some (k : Int)))) .str (ev_var rfl) rfl (by omega) (fun x hx => (et_not (et_B (ev_m1 (ev_var rfl) (ev_var rfl))))) (fun x hx hb => (ev_var rfl)))) (ev_lst ea_nil) (rd_eqP (Pl.strs fun x hx => (hrl x (List.mem_filter.mp hx).1).ok) Pl.nilL ?_)))) (fun x hx hb => (ev_var rfl)))) (ev_neg ev_int) (rd_ixL (atI_neg1 (by rw [e0]; exact hlast)))) (congrArg PyData.str (hof _ (by rw [g5, if_pos rfl])).symm)
  unfold lCom
  rw [← nil_b, decide_eq_true_eq, beq_iff_eq]
end

end Fo
namespace Fo
open PySem PySem.Spec PyProof.Rows L2 DL DR
abbrev s__law_tab : Stmt := topS 88
abbrev N__law_tab : List Str := ["_law_way_here", "_law_state", "_law_text", "_law_begun", "_law_quiet", "_law_order", "_law_put", "_law_offer_here", "_law_whole", "_law_rest", "_law_turned"]
theorem sc__law_tab : FnScope N__law_tab ["_law_way_here", "_law_state"] (defScope s__law_tab) := ⟨rfl, rfl, rfl, by decide +kernel, rfl, by decide +kernel, by decide +kernel⟩
abbrev s__law_step : Stmt := topS 89
abbrev N__law_step : List Str := ["_law_way_here", "_law_state", "_law_key", "_law_text", "_law_begun", "_law_quiet", "_law_order", "_law_put", "_law_offer_here", "_law_left", "_law_whole", "_law_word"]
theorem sc__law_step : FnScope N__law_step ["_law_way_here", "_law_state", "_law_key"] (defScope s__law_step) := ⟨rfl, rfl, rfl, by decide +kernel, rfl, by decide +kernel, by decide +kernel⟩
abbrev s__law_states : Stmt := topS 91
abbrev N__law_states : List Str := ["_law_way_here", "_law_words", "_law_row_here", "_law_found", "_law_key"]
theorem sc__law_states : FnScope N__law_states ["_law_way_here", "_law_words", "_law_row_here"] (defScope s__law_states) := ⟨rfl, rfl, rfl, by decide +kernel, rfl, by decide +kernel, by decide +kernel⟩
abbrev s__law_view : Stmt := topS 92
abbrev N__law_view : List Str := ["_law_way_here", "_law_state", "_law_sight"]
theorem sc__law_view : FnScope N__law_view ["_law_way_here", "_law_state", "_law_sight"] (defScope s__law_view) := ⟨rfl, rfl, rfl, by decide +kernel, rfl, by decide +kernel, by decide +kernel⟩

section
variable {P : Program} {w : World} {K : PySem.W.Frag} {mg : Str → Option Value} {base : Heap}
theorem idx_facts {t : Str} {l : List Str} (hm : t ∈ l) : l[l.idxOf t]? = some t ∧ ∀ m : Nat, m < l.idxOf t → l[m]? ≠ some t := by
  have hi := List.idxOf_lt_length_of_mem hm
  refine ⟨by rw [List.getElem?_eq_getElem hi, List.getElem_idxOf hi], fun m hlt hh => ?_⟩
  have hm' : m < l.length := by omega
  rw [List.getElem?_eq_getElem hm'] at hh
  have := List.not_of_lt_findIdx (p := (· == t)) (xs := l) (i := m) hlt
  rw [Option.some.inj hh] at this
  simp at this
theorem fit_join {t : Str} {o : List Str} : (mRests t o).map (fun r => t ++ r) = mFit t o := by
  unfold mRests
  rw [List.map_map]
  conv => rhs; rw [← List.map_id (mFit t o)]
  refine List.map_congr_left fun x hx => ?_
  have := (List.mem_filter.mp hx).2
  rw [Bool.and_eq_true] at this
  exact cut_join this.1
abbrev spLTab (K : PySem.W.Frag) : Sp := spA K (fun x : Way × Sta => [eW x.1, eS x.2]) LD fun x => eS (mTab x.1 x.2)
theorem cl__law_tab (T : FT K mg "_law_tab" s__law_tab ["_law_way_here", "_law_state"]) {k : Nat} (C__law_offer : Cl P w K mg base "_law_offer" k ["_law_way_here", "_law_state"] (spLOff K)) (C__law_fit : Cl P w K mg base "_law_fit" 1 ["_law_order", "_law_text"] (spLFit K)) (hk : 1 ≤ k) : Cl P w K mg base "_law_tab" (k + 1) ["_law_way_here", "_law_state"] (spLTab K) := by
  refine clA T sc__law_tab (fun _ => rfl) fun f cdv A outer s H E z hr hz => ?_
  have nd := sc__law_tab.nd
  have hr__law_offer := hr
  have hr__law_fit := hr.mono hk
  obtain ⟨hlt, o⟩ := hz.lv
  obtain ⟨hway, ws, hnd, v⟩ := hz
  have hol := mOff_len (w := z.1) o
  have htx := o.tx
  have hbl := o.bl
  have hodn : z.2.od.Nodup := v.pm.nodup_iff.mpr hnd
  have hag : z.1.ag = "next" ∨ z.1.ag = "stay" := by
    unfold mIsWay at hway
    simp only [Bool.and_eq_true] at hway
    have := List.contains_iff_mem.mp hway.2.2.2.1
    rcases List.mem_cons.mp this with q | q
    · exact .inl q
    · rcases List.mem_cons.mp q with q | q
      · exact .inr q
      · cases q
  refine ⟨_, ((pss_cons (ps_asg (pv 1) (pg_tupK rfl rfl (pgs_cons (pg_name (i := 2) nd rfl (by first | exact Or.inl rfl | exact Or.inr rfl)) (pgs_cons (pg_name (i := 3) nd rfl (by first | exact Or.inl rfl | exact Or.inr rfl)) (pgs_cons (pg_name (i := 4) nd rfl (by first | exact Or.inl rfl | exact Or.inr rfl)) (pgs_cons (pg_name (i := 5) nd rfl (by first | exact Or.inl rfl | exact Or.inr rfl)) (pgs_cons (pg_name (i := 6) nd rfl (by first | exact Or.inl rfl | exact Or.inr rfl)) pgs_nil)))))))
      (pss_cons (ps_set (i := 7) nd rfl (by first | exact Or.inl rfl | exact Or.inr rfl) (pe_cl C__law_offer hr__law_offer (by rfl) (pa_cons (pv 0) (pa_cons (pv 1) pa_nil))))
      (pss_cons (ps_if (pt_cmpR op_ne (pv 7) pe_str (nomark _))
      (pss_one (ps_ret (pe_tup (pa_cons (pe_op op_add_str (pv 2) (pv 7)) (pa_cons (pv 2) (pa_cons pe_int (pa_cons (pv 5) (pa_cons pe_str pa_nil))))))))
      pss_nil)
      (pss_cons (ps_if (PW.pt (pw_or (pt_cmpR op_eq (pv 3) pe_str (nomark _)) (pw_or1 (pt_cmpR op_eq (pe_ix (ix_tupK rfl) (pv 0) pe_int (fun _ _ => rfl)) pe_str (nomark _)))))
      (pss_one (ps_ret (pe_tup (pa_cons (pv 2) (pa_cons (pv 3) (pa_cons (pv 4) (pa_cons (pv 5) (pa_cons pe_str pa_nil))))))))
      pss_nil)
      (pss_cons (ps_setLc (i := 8) (own := [("_law_rest", 9)]) (g := gName 9) (tt := tYes) rfl nd rfl rfl (sw_true rfl rfl rfl (by decide +kernel)) (pi_listK rfl (pe_cl C__law_fit hr__law_fit (by rfl) (pa_cons (pv 5) (pa_cons (pv 3) pa_nil)))) (blkOk_by (N := N__law_tab) (sc := (defScope s__law_tab)) (by decide +kernel)) (fun _ _ _ _ _ => (pg_name (i := 9) nd rfl (by first | exact Or.inl rfl | exact Or.inr rfl))) (fun _ _ _ _ _ => pts_nil) (fun _ _ _ _ _ => (pe_op op_add_str (pv 3) (pv 9))))
      (pss_cons (ps_set (i := 10) nd rfl (by first | exact Or.inl rfl | exact Or.inr rfl) (pe_op op_cat (pv 8) (pv 8)))
      (pss_one (ps_ret (pe_tup (pa_cons (pe_ifExp (pt_cmpR (op_inK rfl) (pv 2) (pv 8) rfl) (pe_ix (ix_listK rfl) (pv 10) (pe_op op_add (pe_bm PySem.F.plainAttrs_list PySem.F.slot_list_index PySem.F.type_list_index (mt_indexK rfl) (pv 10) (pa_cons (pv 2) pa_nil)) pe_int) (fun _ _ => rfl)) (pe_ix (ix_listK rfl) (pv 8) pe_int (fun _ _ => rfl))) (pa_cons (pv 3) (pa_cons pe_int (pa_cons (pv 5) (pa_cons pe_str pa_nil))))))))))))))), fun e Q hq => sd_nm [_, _, _, _, _, _, _, _, _, _, _] rfl ?_⟩
  refine sd_seq (sd_unpack (ev_var rfl) (gd_cons (gd_cons (gd_cons (gd_cons (gd_cons gd_nil))))) rfl (sd_nxt [_, _, _, _, _, _, _, _, _, _, _] rfl ?_))
  refine sd_seq (sd_asg (ev_call (z.1, z.2) (ea_cons (ev_var rfl) (ea_cons (ev_var rfl) ea_nil)) rfl ⟨hway, ws, hnd, v⟩) (sd_nxt [_, _, _, _, _, _, _, _, _, _, _] rfl ?_))
  refine sd_seq (sd_if (et_test (ev_op (ev_var rfl) ev_str rd_neS)) (fun hb => ?_) (fun hb => sd_next ?_))
  · refine sd_ret hq (ev_tup (ea_cons (ev_op (ev_var rfl) (ev_var rfl) (rd_addS (by show z.2.tx.length + (mOff z.1 z.2).length ≤ 1000; omega))) (ea_cons (ev_var rfl) (ea_cons ev_int (ea_cons (ev_var rfl) (ea_cons ev_str ea_nil)))))) ?_
    rw [Bool.not_eq_true', decide_eq_false_iff_not] at hb
    show _ = eS (mTab z.1 z.2)
    unfold mTab
    rw [if_pos hb]
    rfl
  rw [Bool.not_eq_false', decide_eq_true_eq] at hb
  have hb2 : ¬ (mOff z.1 z.2 ≠ "") := fun q => q hb
  refine sd_seq (sd_if (et_or (et_test (ev_op (ev_var rfl) ev_str rd_eqS)) fun _ => (et_test (ev_op (ev_w3 (ev_var rfl)) ev_str rd_eqS))) (fun hc => ?_) (fun hc => sd_next ?_))
  · refine sd_ret hq (ev_tup (ea_cons (ev_var rfl) (ea_cons (ev_var rfl) (ea_cons (ev_var rfl) (ea_cons (ev_var rfl) (ea_cons ev_str ea_nil)))))) ?_
    show _ = eS (mTab z.1 z.2)
    unfold mTab
    rw [if_neg hb2, if_neg]
    · rfl
    · rw [Bool.or_eq_true, decide_eq_true_eq, decide_eq_true_eq] at hc
      rcases hc with hc | hc
      · rw [hc, decide_eq_true rfl, Bool.not_true, Bool.and_false]
        exact Bool.false_ne_true
      · rw [hc]
        exact Bool.false_ne_true
  rw [Bool.or_eq_false_iff, decide_eq_false_iff_not, decide_eq_false_iff_not] at hc
  obtain ⟨hbg, hst⟩ := hc
  have hnx : z.1.ag = "next" := hag.resolve_right hst
  have hne := o.bg hbg
  have hfl : (mFit z.2.bg z.2.od).length ≤ 100 := Nat.le_trans mFit_len o.bd.2.2
  refine sd_seq (sd_asg (d := dL (mFit z.2.bg z.2.od)) (Ev.of (ev_fz (ef_lcLm (mRests z.2.bg z.2.od) .str (fun x => .str (z.2.bg ++ x)) (ev_call (z.2.od, z.2.bg) (ea_cons (ev_var rfl) (ea_cons (ev_var rfl) ea_nil)) rfl ⟨by show z.2.bg.length ≤ 100; omega, o.bd.2⟩) rfl (Nat.le_trans mRests_len (Nat.le_trans o.bd.2.2 (by decide))) (fun x hx => (ev_op (ev_var rfl) (ev_var rfl) (rd_addS (by
    obtain ⟨y, hy, _, _, rfl⟩ := mRests_mem hx
    rw [len_cutFrom]
    have := o.od y hy
    omega)))))) (by show PyData.list _ = PyData.list ((mFit z.2.bg z.2.od).map .str); rw [← fit_join, List.map_map]; rfl)) (sd_nxt [_, _, _, _, _, _, _, _, _, _, _] rfl ?_))
  refine sd_seq (sd_asg (d := dL (mFit z.2.bg z.2.od ++ mFit z.2.bg z.2.od)) (Ev.of (ev_op (ev_var rfl) (ev_var rfl) (rd_cat (by rw [List.length_map]; omega))) (by rw [← List.map_append]; rfl)) (sd_nxt [_, _, _, _, _, _, _, _, _, _, _] rfl ?_))
  refine sd_ret hq (ev_tup (ea_cons (d := .str (mBeh z.2.tx (mFit z.2.bg z.2.od))) (ev_if (δ2 := none) (et_test (ev_op (ev_var rfl) (ev_var rfl) (rd_inL (neg := false) (ys := mFit z.2.bg z.2.od)))) (fun hb => ?_) (fun hb => ?_)) (ea_cons (ev_var rfl) (ea_cons ev_int (ea_cons (ev_var rfl) (ea_cons ev_str ea_nil)))))) ?_
  · rw [if_neg Bool.false_ne_true] at hb
    have hm := List.contains_iff_mem.mp hb
    obtain ⟨f1, f2⟩ := idx_facts (List.mem_append_left (mFit z.2.bg z.2.od) hm)
    refine ev_op (ev_var rfl) (ev_op (ev_indexL (ev_var rfl) (ea_cons (ev_var rfl) ea_nil) f1 f2) ev_int rd_addI) (rd_ixL ?_)
    rw [show (((mFit z.2.bg z.2.od ++ mFit z.2.bg z.2.od).idxOf z.2.tx : Nat) : Int) + 1 = (((mFit z.2.bg z.2.od ++ mFit z.2.bg z.2.od).idxOf z.2.tx + 1 : Nat) : Int) by omega]
    refine atI_nat ?_
    rw [List.getElem?_map, behind_two (ws := mFit z.2.bg z.2.od) (hodn.filter _) hm]
    rfl
  · rw [if_neg Bool.false_ne_true] at hb
    refine ev_op (ev_var rfl) ev_int (rd_ixL ?_)
    have e1 : mBeh z.2.tx (mFit z.2.bg z.2.od) = (mFit z.2.bg z.2.od).headD "" := by
      unfold mBeh
      rw [if_pos]
      rw [hb]
      rfl
    rw [e1]
    cases hh : mFit z.2.bg z.2.od with
    | nil => exact absurd hh hne
    | cons x r => exact atI_zero
  · show _ = eS (mTab z.1 z.2)
    unfold mTab
    rw [if_neg hb2, if_pos]
    · show PyData.tuple [_, _, PyData.int 1, _, _] = PyData.tuple [_, _, PyData.int z.2.qu, _, _]
      rw [(v.bq hbg).2]
    · rw [hnx, decide_eq_false hbg]
      rfl
abbrev spLStep (K : PySem.W.Frag) : Sp := spA K (fun x : Way × Sta × Str => [eW x.1, eS x.2.1, .str x.2.2]) (fun x => LD (x.1, x.2.1) ∧ keysS.contains x.2.2 = true) fun x => eS (mPress x.1 x.2.1 x.2.2)
theorem cl__law_step (T : FT K mg "_law_step" s__law_step ["_law_way_here", "_law_state", "_law_key"]) (b : Bi mg) {k k2 : Nat} (C__law_tab : Cl P w K mg base "_law_tab" k ["_law_way_here", "_law_state"] (spLTab K)) (C__law_offer : Cl P w K mg base "_law_offer" k2 ["_law_way_here", "_law_state"] (spLOff K)) (hk : k2 ≤ k) : Cl P w K mg base "_law_step" (k + 1) ["_law_way_here", "_law_state", "_law_key"] (spLStep K) := by
  obtain ⟨nlen, nisinstance, nall, nmin, ntuple, nlist, nset, nsorted, nrange, nstr, nint, nbool⟩ := b
  refine clA T sc__law_step (fun _ => rfl) fun f cdv A outer s H E z hr hz => ?_
  have nd := sc__law_step.nd
  have hr__law_tab := hr
  have hr__law_offer := hr.mono hk
  obtain ⟨y, st, key⟩ := z
  obtain ⟨hz, hkey⟩ := hz
  have hz : LD (y, st) := hz
  obtain ⟨hlt, o⟩ := hz.lv
  have o : Ok st := o
  have hway : mIsWay y = true := hz.1
  have hol := mOff_len (w := y) o
  have htx : st.tx.length ≤ 4 := o.tx
  have hkl : key.length ≤ 5 := len_kS _ (List.contains_iff_mem.mp hkey)
  have hbk : y.bk ∈ bacS := by
    unfold mIsWay at hway
    simp only [Bool.and_eq_true] at hway
    exact List.contains_iff_mem.mp hway.2.2.2.2.1
  refine ⟨_, ((pss_cons (ps_asg (pv 1) (pg_tupK rfl rfl (pgs_cons (pg_name (i := 3) nd rfl (by first | exact Or.inl rfl | exact Or.inr rfl)) (pgs_cons (pg_name (i := 4) nd rfl (by first | exact Or.inl rfl | exact Or.inr rfl)) (pgs_cons (pg_name (i := 5) nd rfl (by first | exact Or.inl rfl | exact Or.inr rfl)) (pgs_cons (pg_name (i := 6) nd rfl (by first | exact Or.inl rfl | exact Or.inr rfl)) (pgs_cons (pg_name (i := 7) nd rfl (by first | exact Or.inl rfl | exact Or.inr rfl)) pgs_nil)))))))
      (pss_cons (ps_if (pt_cmpR (op_inK rfl) (pv 2) (pe_tup (pa_cons pe_str (pa_cons pe_str pa_nil))) rfl)
      (pss_one (ps_ret (pe_ifExp (pt_cmpR op_gt (pe_callB call_len_str (by rfl) nlen (by decide +kernel) (pa_cons (pv 3) pa_nil)) pe_int (nomark _)) (pe_tup (pa_cons (pv 3) (pa_cons (pv 4) (pa_cons (pv 5) (pa_cons (pv 6) (pa_cons pe_str pa_nil)))))) (pe_tup (pa_cons (pe_op op_add_str (pv 3) (pv 2)) (pa_cons pe_str (pa_cons pe_int (pa_cons (pv 6) (pa_cons pe_str pa_nil)))))))))
      pss_nil)
      (pss_cons (ps_if (pt_cmpR op_eq (pv 2) pe_str (nomark _))
      (pss_one (ps_ret (pe_cl C__law_tab hr__law_tab (by rfl) (pa_cons (pv 0) (pa_cons (pv 1) pa_nil)))))
      pss_nil)
      (pss_cons (ps_set (i := 8) nd rfl (by first | exact Or.inl rfl | exact Or.inr rfl) (pe_cl C__law_offer hr__law_offer (by rfl) (pa_cons (pv 0) (pa_cons (pv 1) pa_nil))))
      (pss_cons (ps_if (pt_cmpR op_eq (pv 2) pe_str (nomark _))
      (pss_cons (ps_set (i := 9) nd rfl (by first | exact Or.inl rfl | exact Or.inr rfl) (pe_ifExp (PW.pt (pw_and (pt_cmpR op_ne (pv 8) pe_str (nomark _)) (pw_and1 (pt_cmpR op_eq (pe_ix (ix_tupK rfl) (pv 0) pe_int (fun _ _ => rfl)) pe_str (nomark _))))) (pv 3) (pe_slice sl_str (pv 3) po_none (po_some (pe_un un_neg pe_int)))))
        (pss_one (ps_ret (pe_tup (pa_cons (pv 9) (pa_cons pe_str (pa_cons (pe_ifExp (PW.pt (pw_and (pt_cmpR op_ne (pv 9) pe_str (nomark _)) (pw_and1 (pt_cmpR (op_inK rfl) (pe_ix (ix_tupK rfl) (pv 0) pe_int (fun _ _ => rfl)) (pe_tup (pa_cons pe_str (pa_cons pe_str pa_nil))) rfl)))) pe_int pe_int) (pa_cons (pv 6) (pa_cons pe_str pa_nil)))))))))
      pss_nil)
      (pss_cons (ps_set (i := 10) nd rfl (by first | exact Or.inl rfl | exact Or.inr rfl) (pe_ifExp (PW.pt (pw_or (pt_cmpR op_eq (pe_ix (ix_tupK rfl) (pv 0) pe_int (fun _ _ => rfl)) pe_str (nomark _)) (pw_or1 (PW.pt (pw_and (pt_cmpR op_eq (pe_ix (ix_tupK rfl) (pv 0) pe_int (fun _ _ => rfl)) pe_str (nomark _)) (pw_and1 (pt_cmpR op_eq (pv 2) pe_str (nomark _)))))))) (pe_op op_add_str (pv 3) (pv 8)) (pv 3)))
      (pss_cons (ps_if (PW.pt (pw_and (pt_cmpR (op_inK rfl) (pv 10) (pv 6) rfl) (pw_and1 (pt_cmpR op_eq (pe_ix (ix_tupK rfl) (pv 0) pe_int (fun _ _ => rfl)) pe_int (nomark _)))))
      (pss_one (ps_set (i := 6) nd rfl (by first | exact Or.inl rfl | exact Or.inr rfl) (pe_callTy (call_tupleK rfl) (by rfl) ntuple (by decide +kernel) (pa_cons (pe_op op_cat (pe_lst (pa_cons (pv 10) pa_nil)) (pe_lc (own := [("_law_word", 11)]) (g := gName 11) (tt := _) rfl nd (pi_tupK rfl (pv 6)) (blkOk_by (N := N__law_step) (sc := (defScope s__law_step)) (by decide +kernel)) (fun _ _ _ _ _ => (pg_name (i := 11) nd rfl (by first | exact Or.inl rfl | exact Or.inr rfl))) (fun _ _ _ _ _ => pts_one (pt_cmpR op_ne (pv 11) (pv 10) (nomark _))) (fun _ _ _ _ _ => (pv 11)))) pa_nil))))
      pss_nil)
      (pss_one (ps_ret (pe_tup (pa_cons pe_str (pa_cons pe_str (pa_cons pe_int (pa_cons (pv 6) (pa_cons (pv 10) pa_nil)))))))))))))))), fun e Q hq => sd_nm [_, _, _, _, _, _, _, _, _, _, _, _] rfl ?_⟩
  refine sd_seq (sd_unpack (ev_var rfl) (gd_cons (gd_cons (gd_cons (gd_cons (gd_cons gd_nil))))) rfl (sd_nxt [_, _, _, _, _, _, _, _, _, _, _, _] rfl ?_))
  refine sd_seq (sd_if (et_test (ev_op (ev_var rfl) (ev_tup (ea_cons ev_str (ea_cons ev_str ea_nil))) (rd_inT (neg := false) (ys := letS)))) (fun hb => ?_) (fun h1 => sd_next ?_))
  · rw [if_neg Bool.false_ne_true] at hb
    have hkm := List.contains_iff_mem.mp hkey
    refine sd_ret hq (d := eS (mLet st key)) (ev_if (et_test (ev_op (ev_cb (ea_cons (ev_var rfl) ea_nil) (rc_lenS (Nat.le_trans htx (by decide)))) ev_int rd_I0b)) (fun hc => Ev.of (ev_tup (ea_cons (ev_var rfl) (ea_cons (ev_var rfl) (ea_cons (ev_var rfl) (ea_cons (ev_var rfl) (ea_cons ev_str ea_nil)))))) ?_) (fun hc => Ev.of (ev_tup (ea_cons (ev_op (ev_var rfl) (ev_var rfl) (rd_addS (by show st.tx.length + key.length ≤ 1000; omega))) (ea_cons ev_str (ea_cons ev_int (ea_cons (ev_var rfl) (ea_cons ev_str ea_nil)))))) ?_)) ?_
    · have hc : (3 : Int) < (st.tx.length : Int) := of_decide_eq_true hc
      unfold mLet
      rw [if_pos (by omega)]
      rfl
    · have hc : ¬ (3 : Int) < (st.tx.length : Int) := of_decide_eq_false hc
      unfold mLet
      rw [if_neg (by omega)]
      rfl
    · show _ = eS (mPress y st key)
      unfold mPress
      rw [if_pos hb]
  rw [if_neg Bool.false_ne_true] at h1
  have g1 : ¬ letS.contains key = true := by rw [h1]; exact Bool.false_ne_true
  refine sd_seq (sd_if (et_test (ev_op (ev_var rfl) ev_str rd_eqS)) (fun hb => ?_) (fun h2 => sd_next ?_))
  · refine sd_ret hq (ev_call (y, st) (ea_cons (ev_var rfl) (ea_cons (ev_var rfl) ea_nil)) rfl hz) ?_
    show _ = eS (mPress y st key)
    unfold mPress
    rw [if_neg g1, if_pos (of_decide_eq_true hb)]
  have g2 := of_decide_eq_false h2
  refine sd_seq (sd_asg (ev_call (y, st) (ea_cons (ev_var rfl) (ea_cons (ev_var rfl) ea_nil)) rfl hz) (sd_nxt [_, _, _, _, _, _, _, _, _, _, _, _] rfl ?_))
  refine sd_seq (sd_if (et_test (ev_op (ev_var rfl) ev_str rd_eqS)) (fun hb => ?_) (fun h3 => sd_next ?_))
  · refine sd_seq (sd_asg (d := .str (mBackText y st)) (ev_if (et_and (et_test (ev_op (ev_var rfl) ev_str rd_neS)) fun _ => (et_test (ev_op (ev_w4 (ev_var rfl)) ev_str rd_eqS))) (fun hb => Ev.of (ev_var rfl) ?_) (fun hb => Ev.of (ev_slS (ev_var rfl) es_no (es_at (ev_neg ev_int)) (Nat.le_trans htx (by decide))) ?_)) (sd_nxt [_, _, _, _, _, _, _, _, _, _, _, _] rfl ?_))
    · unfold mBackText
      rw [Bool.and_eq_true] at hb
      rw [if_neg]
      rw [hb.2, Bool.not_true, Bool.false_or]
      intro q
      rw [q] at hb
      exact absurd hb.1 (by decide)
    · unfold mBackText
      rw [if_pos]
      cases h1 : decide (y.bk = "offer") with
      | false => rfl
      | true =>
        rw [h1, Bool.and_true, Bool.not_eq_false'] at hb
        rw [hb]
        rfl
    refine sd_ret hq (ev_tup (ea_cons (ev_var rfl) (ea_cons ev_str (ea_cons (d := .int (if (decide (y.bk = "letter") || decide (mBackText y st = "")) = true then 0 else 1)) (ev_if (et_and (et_test (ev_op (ev_var rfl) ev_str rd_neS)) fun _ => (et_test (ev_op (ev_w4 (ev_var rfl)) (ev_tup (ea_cons ev_str (ea_cons ev_str ea_nil))) (rd_inT (neg := false) (ys := ["offer", "both"]))))) (fun hb => Ev.of ev_int ?_) (fun hb => Ev.of ev_int ?_)) (ea_cons (ev_var rfl) (ea_cons ev_str ea_nil)))))) ?_
    · rw [if_neg Bool.false_ne_true, Bool.and_eq_true, Bool.not_eq_true'] at hb
      rw [if_neg]
      rw [hb.1, Bool.or_false]
      intro q
      rw [decide_eq_true_eq] at q
      rw [q] at hb
      exact absurd hb.2 (by decide)
    · rw [if_neg Bool.false_ne_true] at hb
      rw [if_pos]
      cases h1 : decide (mBackText y st = "") with
      | true => rw [Bool.or_true]
      | false =>
        rw [h1, Bool.not_false, Bool.true_and] at hb
        rw [Bool.or_false, decide_eq_true_eq]
        rcases List.mem_cons.mp hbk with q | q
        · rw [q] at hb; exact absurd hb (by decide)
        · rcases List.mem_cons.mp q with q | q
          · exact q
          · rcases List.mem_cons.mp q with q | q
            · rw [q] at hb; exact absurd hb (by decide)
            · cases q
    · show _ = eS (mPress y st key)
      unfold mPress
      rw [if_neg g1, if_neg g2, if_pos (of_decide_eq_true hb)]
      rfl
  have g3 := of_decide_eq_false h3
  refine sd_seq (sd_asg (d := .str (mPutText y st key)) (ev_if (et_or (et_test (ev_op (ev_w2 (ev_var rfl)) ev_str rd_eqS)) fun _ => (et_and (et_test (ev_op (ev_w2 (ev_var rfl)) ev_str rd_eqS)) fun _ => (et_test (ev_op (ev_var rfl) ev_str rd_eqS)))) (fun hc => Ev.of (ev_op (ev_var rfl) (ev_var rfl) (rd_addS (by show st.tx.length + (mOff y st).length ≤ 1000; omega))) ?_) (fun hc => Ev.of (ev_var rfl) ?_)) (sd_nxt [_, _, _, _, _, _, _, _, _, _, _, _] rfl ?_))
  · unfold mPutText
    rw [if_pos hc]
  · unfold mPutText
    rw [if_neg (by rw [hc]; exact Bool.false_ne_true)]
  refine sd_seq (sd_ifAsg (i := 6) (d := dT (mPut y st key).od) (et_and (et_test (ev_op (ev_var rfl) (ev_var rfl) (rd_inT (neg := false) (ys := st.od)))) fun _ => (et_test (ev_op (ev_w5 (ev_var rfl)) ev_int rd_eqI))) (fun hc => ?_) (fun hc => ?_) (sd_nxt [_, _, _, _, _, _, _, _, _, _, _, _] rfl ?_))
  · rw [if_neg Bool.false_ne_true, Bool.and_comm] at hc
    have e1 : (mPut y st key).od = mFront (mPutText y st key) st.od := by
      unfold mPut
      show (if _ then _ else _ : List Str) = _
      rw [if_pos hc]
    rw [e1]
    exact ev_cb (ea_cons (Ev.of (ev_op (ev_lst (ea_cons (ev_var rfl) ea_nil)) (ev_fz (ef_lcTp st.od .str (fun x => !decide (x = mPutText y st key)) .str (ev_var rfl) rfl (Nat.le_trans o.bd.2.2 (by decide)) (fun x hx => (et_test (ev_op (ev_var rfl) (ev_var rfl) rd_neS))) (fun x hx hb => (ev_var rfl)))) (rd_cat (by
      rw [List.length_map]
      have := List.length_filter_le (fun x => !decide (x = mPutText y st key)) st.od
      have := o.bd.2.2
      show 1 + _ ≤ _
      omega))) (show PyData.list _ = PyData.list ((mFront (mPutText y st key) st.od).map .str) from rfl)) ea_nil) rc_tupL
  · rw [if_neg Bool.false_ne_true, Bool.and_comm] at hc
    have e1 : (mPut y st key).od = st.od := by
      unfold mPut
      show (if _ then _ else _ : List Str) = _
      rw [if_neg (by rw [hc]; exact Bool.false_ne_true)]
    rw [e1]
    rfl
  refine sd_ret hq (ev_tup (ea_cons ev_str (ea_cons ev_str (ea_cons ev_int (ea_cons (ev_var rfl) (ea_cons (ev_var rfl) ea_nil)))))) ?_
  show _ = eS (mPress y st key)
  unfold mPress
  rw [if_neg g1, if_neg g2, if_neg g3]
  rfl
/-- what the law starts from -/
structure LS (x : Way × List Str × List Str) : Prop where
  w : mIsWay x.1 = true
  n : x.2.1.Nodup
  v : Lv x.1 x.2.1 (mInit x.2.1)
  r : RowOk x.2.2
theorem LS.ld {x : Way × List Str × List Str} (h : LS x) (i : Nat) : LD (x.1, mSt x.1 (mInit x.2.1) x.2.2 i) := ⟨h.w, x.2.1, h.n, lv_st h.n h.v h.r.2 i⟩
abbrev spLStates (K : PySem.W.Frag) : Sp := spA K enc3 LS fun x => .list ((mWalk x.1 (mInit x.2.1) x.2.2).map eS)
theorem cl__law_states (T : FT K mg "_law_states" s__law_states ["_law_way_here", "_law_words", "_law_row_here"]) {k : Nat} (C__law_step : Cl P w K mg base "_law_step" k ["_law_way_here", "_law_state", "_law_key"] (spLStep K)) (C__law_start_state : Cl P w K mg base "_law_start_state" 1 ["_law_words"] (spIni K)) (hk : 1 ≤ k) : Cl P w K mg base "_law_states" (k + 1) ["_law_way_here", "_law_words", "_law_row_here"] (spLStates K) := by
  refine clA T sc__law_states (fun _ => rfl) fun f cdv A outer s H E z hr hz => ?_
  have nd := sc__law_states.nd
  have hr__law_step := hr
  have hr__law_start_state := hr.mono hk
  obtain ⟨y, ws, row⟩ := z
  have hl : row.length ≤ 1000 := hz.r.1
  have hks : ∀ k ∈ row, keysS.contains k = true := hz.r.2
  have hld : ∀ i, LD (y, mSt y (mInit ws) row i) := hz.ld
  refine ⟨_, ((pss_cons (ps_set (i := 3) nd rfl (by first | exact Or.inl rfl | exact Or.inr rfl) (pe_lst (pa_cons (pe_cl C__law_start_state hr__law_start_state (by rfl) (pa_cons (pv 1) pa_nil)) pa_nil)))
      (pss_cons (ps_for PassesOwn.never rfl (pi_listK rfl (pv 2)) (pg_name (i := 4) nd rfl (by first | exact Or.inl rfl | exact Or.inr rfl))
      (pss_one (ps_expr (pe_bm PySem.F.plainAttrs_list PySem.F.slot_list_append PySem.F.type_list_append mt_append (pv 3) (pa_cons (pe_cl C__law_step hr__law_step (by rfl) (pa_cons (pv 0) (pa_cons (pe_ix (ix_listK rfl) (pv 3) (pe_un un_neg pe_int) (fun _ _ => rfl)) (pa_cons (pv 4) pa_nil)))) pa_nil)))))
      (pss_one (ps_ret (pv 3)))))), fun e Q hq => sd_nm [_, _, _, _, _] rfl ?_⟩
  refine sd_seq (sd_asgF (ef_lst (ea_cons (ev_call ws (ea_cons (ev_var rfl) ea_nil) rfl trivial) ea_nil)) (sd_nxt [_, _, _, _, _] rfl ?_))
  refine sd_seq (sd_forL (ev_var rfl) (fun i => [.val (eW y), .val (dL ws), .val (dL row), .own ((List.range (i + 1)).map fun j => eS (mSt y (mInit ws) row j)), .any]) (fun i => none) rfl rfl (fun i d B hB hd => ?_) (sd_next ?_))
  · rw [List.getElem?_map] at hd
    obtain ⟨key, hkey, rfl⟩ := Option.map_eq_some_iff.mp hd
    refine sd_nm [_, _, _, _, _] rfl ?_
    have hi : i < row.length := (List.getElem?_eq_some_iff.mp hkey).1
    refine sd_append rfl (ev_call (y, mSt y (mInit ws) row i, key) (ea_cons (ev_var rfl) (ea_cons (ev_ixOwn rfl (ev_neg ev_int) (atI_neg1 (by rw [List.range_succ, List.map_append]; exact List.getLast?_concat ..))) (ea_cons (ev_var rfl) ea_nil))) rfl ⟨hld i, hks _ (List.mem_of_getElem? hkey)⟩) (by rw [List.length_map, List.length_range]; omega) ?_
    refine sd_any 4 ?_
    refine sd_nm [_, _, _, _, _] rfl ?_
    show SD _ _ _ tNext _ [.val (eW y), .val (dL ws), .val (dL row), .own (((List.range (i + 1)).map fun j => eS (mSt y (mInit ws) row j)) ++ [eS (mPress y (mSt y (mInit ws) row i) key)]), .any] none
    rw [← mSt_succ hkey, show (((List.range (i + 1)).map fun j => eS (mSt y (mInit ws) row j)) ++ [eS (mSt y (mInit ws) row (i + 1))]) = (List.range (i + 1 + 1)).map fun j => eS (mSt y (mInit ws) row j) by rw [List.range_succ (n := i + 1), List.map_append]; rfl]
    exact fun G H σ bb s => ⟨G, bb, s⟩
  · refine sd_fz 3 rfl ?_
    refine sd_nm [_, _, _, _, _] rfl ?_
    refine sd_ret hq (ev_var rfl) ?_
    show PyData.list ((List.range ((row.map PyData.str).length + 1)).map fun j => eS (mSt y (mInit ws) row j)) = PyData.list ((mWalk y (mInit ws) row).map eS)
    unfold mWalk
    rw [List.length_map, List.map_map]
    rfl
abbrev spLView (K : PySem.W.Frag) : Sp := spA K (fun x : Way × Sta × Int => [eW x.1, eS x.2.1, .int x.2.2]) (fun x => LD (x.1, x.2.1) ∧ (x.2.2 = 0 ∨ x.2.2 = 1)) fun x => mView x.1 x.2.1 x.2.2
theorem cl__law_view (T : FT K mg "_law_view" s__law_view ["_law_way_here", "_law_state", "_law_sight"]) {k : Nat} (C__law_offer : Cl P w K mg base "_law_offer" k ["_law_way_here", "_law_state"] (spLOff K)) : Cl P w K mg base "_law_view" (k + 1) ["_law_way_here", "_law_state", "_law_sight"] (spLView K) := by
  refine clA T sc__law_view (fun _ => rfl) fun f cdv A outer s H E z hr hz => ?_
  have nd := sc__law_view.nd
  have hr__law_offer := hr
  obtain ⟨y, st, i⟩ := z
  obtain ⟨hz, hi⟩ := hz
  have hi : i = 0 ∨ i = 1 := hi
  refine ⟨_, ((pss_one (ps_ret (pe_ifExp (pt_cmpR op_eq (pv 2) pe_int (nomark _)) (pe_tup (pa_cons (pe_ix (ix_tupK rfl) (pv 1) pe_int (fun _ _ => rfl)) (pa_cons (pe_cl C__law_offer hr__law_offer (by rfl) (pa_cons (pv 0) (pa_cons (pv 1) pa_nil))) (pa_cons (pe_ix (ix_tupK rfl) (pv 1) pe_int (fun _ _ => rfl)) pa_nil)))) (pe_ix (ix_tupK rfl) (pv 1) pe_int (fun _ _ => rfl)))))), fun e Q hq => sd_nm [_, _, _] rfl ?_⟩
  refine sd_ret hq (d := mView y st i) (ev_if (et_test (ev_op (ev_var rfl) ev_int rd_eqI)) (fun hb => Ev.of (ev_tup (ea_cons (ev_s0 (ev_var rfl)) (ea_cons (ev_call (y, st) (ea_cons (ev_var rfl) (ea_cons (ev_var rfl) ea_nil)) rfl hz) (ea_cons (ev_s4 (ev_var rfl)) ea_nil)))) ?_) (fun hb => Ev.of (ev_s4 (ev_var rfl)) ?_)) rfl
  · have hb : i = 0 := of_decide_eq_true hb
    unfold mView
    rw [if_neg (by omega)]
  · have hb : ¬ i = 0 := of_decide_eq_false hb
    unfold mView
    rw [if_pos (by omega)]
end

end Fo
namespace Fo
open PySem PySem.Spec PyProof.Rows L2 DL DR
abbrev s__law_start : Stmt := topS 78
abbrev N__law_start : List Str := ["_law_script"]
theorem sc__law_start : FnScope N__law_start ["_law_script"] (defScope s__law_start) := ⟨rfl, rfl, rfl, by decide +kernel, rfl, by decide +kernel, by decide +kernel⟩
abbrev s__law_pick : Stmt := topS 80
abbrev N__law_pick : List Str := ["_law_draws", "_law_choices"]
theorem sc__law_pick : FnScope N__law_pick ["_law_draws", "_law_choices"] (defScope s__law_pick) := ⟨rfl, rfl, rfl, by decide +kernel, rfl, by decide +kernel, by decide +kernel⟩
abbrev s__law_way : Stmt := topS 82
abbrev N__law_way : List Str := ["_law_draws", "_law_choice", "_law_since", "_law_accept", "_law_again"]
theorem sc__law_way : FnScope N__law_way ["_law_draws"] (defScope s__law_way) := ⟨rfl, rfl, rfl, by decide +kernel, rfl, by decide +kernel, by decide +kernel⟩
abbrev s__law_texts : Stmt := topS 83
abbrev N__law_texts : List Str := ["_law_most", "_law_found", "_law_layer", "_law_turn", "_law_longer", "_law_text"]
theorem sc__law_texts : FnScope N__law_texts ["_law_most"] (defScope s__law_texts) := ⟨rfl, rfl, rfl, by decide +kernel, rfl, by decide +kernel, by decide +kernel⟩

section
variable {P : Program} {w : World} {K : PySem.W.Frag} {mg : Str → Option Value} {base : Heap}
/-! the law's draws: the first ones -/
def ns0 (ns : List Int) : List Int := if ns = [] then [0] else ns
abbrev spStart (K : PySem.W.Frag) : Sp := fun vs H Q _ => ∃ (a : Addr) (ns : List Int), vs = [.ref a] ∧ SqL K H a (ns.map V.int) ∧ ns.length ≤ 63 ∧ ∀ p q H', p ≠ q → H' p = some (.lst [.ref q, .int 0]) → H' q = some (.lst ((ns0 ns).map V.int)) → Q (.ref p) H'
theorem same_new {H : Hp} {p : Addr} {o : HO} (h : H p = none) : Same H (upd H p o) := fun b x e => by
  rw [upd_ne (ne_of_none e h)]
  exact e
theorem dpa_ints {G : Hp} : ∀ ns : List Int, DpAll K G (ns.map V.int) (ns.map PyData.int)
  | [] => .nil
  | n :: ns => .cons (.int n) (dpa_ints ns)
theorem cl__law_start (T : FT K mg "_law_start" s__law_start ["_law_script"]) (b : Bi mg) : Cl P w K mg base "_law_start" 1 ["_law_script"] (spStart K) := by
  obtain ⟨nlen, nisinstance, nall, nmin, ntuple, nlist, nset, nsorted, nrange, nstr, nint, nbool⟩ := b
  obtain ⟨f, fd, F, hm, bi⟩ := T
  refine ⟨f, fd, ?_, hm, F.kp, bi⟩
  have nd := sc__law_start.nd
  refine F.ok sc__law_start (fun vs H Q E ⟨a, ns, hv, _⟩ => by rw [hv]; rfl) (fun cdv A outer s H vs Q E hr ⟨a, ns, hv, hs, hl, q⟩ => ?_)
  subst hv
  refine ⟨_, ((pss_one (ps_ret (pe_lst (pa_cons (pe_ifExp (pt_cmpR (op_neDK hr.units rfl) (pv 0) (pe_lst pa_nil) (nomark _)) (pe_callTy (call_listK rfl) (by rfl) nlist (by decide +kernel) (pa_cons (pv 0) pa_nil)) (pe_lst (pa_cons pe_int pa_nil))) (pa_cons pe_int pa_nil)))))), ?_⟩
  have fin : ∀ q1 H1, H1 q1 = some (.lst ((ns0 ns).map V.int)) → ∀ p, H1 p = none → Q (.ref p) (upd H1 p (.lst [.ref q1, .int 0])) := fun q1 H1 h1 p hp => by
    have hne : q1 ≠ p := fun z => by rw [z, hp] at h1; cases h1
    exact q p q1 _ hne.symm upd_same (by rw [upd_ne hne]; exact h1)
  refine ⟨.ref a, rfl, Nat.zero_le _, fun p0 hp0 => ?_⟩
  have ha : SqL K (upd H p0 (.lst [])) a (ns.map V.int) := (same_new hp0).seq hs
  have hl0 : (ns.map PyData.int).length ≤ 63 := by rw [List.length_map]; exact hl
  have pl : Pl 1 (.list (ns.map PyData.int)) := .list 0 _ fun d hd => by
    obtain ⟨x, hx, rfl⟩ := List.mem_map.mp hd
    exact .int 0 x
  refine ⟨.list (ns.map .int), .list [], .lst ha (dpa_ints ns), .lst (.inl (.inl upd_same)) .nil, pl.shaped, Pl.nilL.shaped, _, rfl, ite2 (fun hb => ?_) (fun hb => ?_)⟩
  · have e0 : ns0 ns = ns := by
      unfold ns0
      rw [if_neg]
      intro z
      rw [z] at hb
      simp [PyData.eqv, PyData.eqvAll] at hb
    refine ⟨.ref a, rfl, a, ns.map V.int, rfl, .inl ha, fun q1 hq1 => ⟨(by decide : 2 ≤ sizeLine), fun p hp => ?_⟩⟩
    exact fin q1 _ (by rw [upd_same, e0]) p hp
  · have e0 : ns0 ns = [0] := by
      unfold ns0
      rw [if_pos]
      cases ns with
      | nil => rfl
      | cons x r => exact absurd (by simp [PyData.eqv, PyData.eqvAll]) hb
    refine ⟨by decide, fun q1 hq1 => ⟨(by decide : 2 ≤ sizeLine), fun p hp => ?_⟩⟩
    exact fin q1 _ (by rw [upd_same, e0]; rfl) p hp
/-! picks -/
abbrev spPick (K : PySem.W.Frag) : Sp := spW K (fun xs : List D => [.list xs]) (fun xs s => xs ≠ [] ∧ xs.length ≤ 900000 ∧ DsOk s) fun xs s => pk s .none xs
theorem cl__law_pick (T : FT K mg "_law_pick" s__law_pick ["_law_draws", "_law_choices"]) (b : Bi mg) {k : Nat} (C__law_draw : Cl P w K mg base "_law_draw" k ["_law_draws", "_law_limit"] (spDraw K)) : Cl P w K mg base "_law_pick" (k + 1) ["_law_draws", "_law_choices"] (spPick K) := by
  obtain ⟨nlen, nisinstance, nall, nmin, ntuple, nlist, nset, nsorted, nrange, nstr, nint, nbool⟩ := b
  refine clW T sc__law_pick (fun _ => rfl) fun f cdv A outer s H E z d hr hz => ?_
  have nd := sc__law_pick.nd
  have hr__law_draw := hr
  obtain ⟨hne, hlen, hok⟩ := hz
  have hpos : 0 < z.length := List.length_pos_iff.mpr hne
  have hrg := dDraw_rng (s := d.st) (lim := (z.length : Int)) (by omega)
  refine ⟨_, ((pss_one (ps_ret (pe_ix (ix_listK rfl) (pv 1) (pe_cl C__law_draw hr__law_draw (by rfl) (pa_cons (pv 0) (pa_cons (pe_callB (call_lenK rfl) (by rfl) nlen (by decide +kernel) (pa_cons (pv 1) pa_nil)) pa_nil))) (fun _ _ => rfl))))), fun e Q hq => sd_nm [_, _] rfl ?_⟩
  refine sd_ret hq (ev_op (ev_var rfl) (ev_callW (z.length : Int) rfl (ea_cons (ev_cb (ea_cons (ev_var rfl) ea_nil) rc_lenL) ea_nil) rfl ⟨by omega, by omega, hok⟩) (rd_ixL (d := (pk d.st .none z).1) ?_)) ⟨rfl, rfl⟩
  have hlt : (dDraw d.st (z.length : Int)).1.toNat < z.length := by omega
  have e1 : (dDraw d.st (z.length : Int)).1 = ((dDraw d.st (z.length : Int)).1.toNat : Int) := by omega
  show atI z (dDraw d.st (z.length : Int)).1 = some (z.getD (dDraw d.st (z.length : Int)).1.toNat .none)
  rw [e1]
  refine atI_nat ?_
  rw [Int.toNat_natCast, List.getD_eq_getElem?_getD, List.getElem?_eq_getElem hlt]
  rfl
theorem pk_map {α : Type} (en : α → D) (d0 : α) {xs : List α} (s : Ds) (h : xs ≠ []) : pk s PyData.none (xs.map en) = (en (pk s d0 xs).1, (pk s d0 xs).2) := by
  have hpos : 0 < xs.length := List.length_pos_iff.mpr h
  have hrg := dDraw_rng (s := s) (lim := (xs.length : Int)) (by omega)
  have hlt : (dDraw s (xs.length : Int)).1.toNat < xs.length := by omega
  unfold pk
  rw [List.length_map]
  refine Prod.ext ?_ rfl
  show (xs.map en).getD _ _ = en (xs.getD _ _)
  rw [List.getD_eq_getElem?_getD, List.getD_eq_getElem?_getD, List.getElem?_map, List.getElem?_eq_getElem hlt]
  rfl
theorem ev_pick {α : Type} {τ : List SV} {t : TA} {Ex' : XK} {i : Nat} {x0 x1 : Dr} (en : α → D) (d0 : α) (xs : List α) (hi : τ[i]? = some .drw) (h : EvA K t τ (some x0) [.list (xs.map en)] (some x1)) (hd : DsOk x1.st) (hne : xs ≠ [] := by exact List.cons_ne_nil _ _) (hl : xs.length ≤ 900000 := by decide) :
    Ev K (tCall (spPick K) [] Ex' (tCons (tVar i) t)) τ (some x0) (en (pk x1.st d0 xs).1) (some (x1.go (pk x1.st d0 xs).2)) := by
  have := ev_callW (fn := fun xs s => pk s PyData.none xs) (enc := fun xs : List D => [.list xs]) (dom := fun xs s => xs ≠ [] ∧ xs.length ≤ 900000 ∧ DsOk s) (Ex' := Ex') (xs.map en) hi h rfl ⟨fun z => hne (List.map_eq_nil_iff.mp z), by rw [List.length_map]; exact hl, hd⟩
  rw [pk_map en d0 x1.st hne] at this
  exact this
theorem ev_draw {τ : List SV} {t : TA} {Ex' : XK} {i : Nat} {x0 x1 : Dr} (n : Int) (hi : τ[i]? = some .drw) (h : EvA K t τ (some x0) [.int n] (some x1)) (hd : DsOk x1.st) (h1 : 0 < n) (h2 : n < 1000000) :
    Ev K (tCall (spDraw K) [] Ex' (tCons (tVar i) t)) τ (some x0) (.int (dDraw x1.st n).1) (some (x1.go (dDraw x1.st n).2)) :=
  ev_callW (fn := fun n s => (.int (dDraw s n).1, (dDraw s n).2)) (enc := fun n : Int => [.int n]) (dom := fun n s => 0 < n ∧ n < 1000000 ∧ DsOk s) (Ex' := Ex') n hi h rfl ⟨h1, h2, hd⟩
theorem ev_pickG {α : Type} {τ : List SV} {t : TA} {Ex' : XK} {i : Nat} {x0 d : Dr} {s : Ds} {r : α × Ds} (en : α → D) {d0 : α} {xs : List α} (hr : pk s d0 xs = r) (hi : τ[i]? = some .drw) (h : EvA K t τ (some x0) [.list (xs.map en)] (some (d.go s))) (hd : DsOk s) (hne : xs ≠ []) (hl : xs.length ≤ 900000) :
    Ev K (tCall (spPick K) [] Ex' (tCons (tVar i) t)) τ (some x0) (en r.1) (some (d.go r.2)) := by
  subst hr
  exact ev_pick en d0 xs hi h hd hne hl
theorem ev_drawG {τ : List SV} {t : TA} {Ex' : XK} {i : Nat} {x0 d : Dr} {s : Ds} {n : Int} {r : Int × Ds} (hr : dDraw s n = r) (hi : τ[i]? = some .drw) (h : EvA K t τ (some x0) [.int n] (some (d.go s))) (hd : DsOk s) (h1 : 0 < n) (h2 : n < 1000000) :
    Ev K (tCall (spDraw K) [] Ex' (tCons (tVar i) t)) τ (some x0) (.int r.1) (some (d.go r.2)) := by
  subst hr
  exact ev_draw n hi h hd h1 h2
/-! ways -/
def lW1 (s : Ds) : Str × Ds := pk s "" choS
def lW2 (s : Ds) : Int × Ds := pk (lW1 s).2 0 [1, 1, 2]
def lW3 (s : Ds) : Str × Ds := pk (lW2 s).2 "" accS
def lW4 (s : Ds) : Str × Ds := pk (lW3 s).2 "" agaS
def lW5 (s : Ds) : Str × Ds := pk (lW4 s).2 "" bacS
def lW6 (s : Ds) : Int × Ds := dDraw (lW5 s).2 2
def lWay (s : Ds) : Way := ⟨(lW1 s).1, (lW2 s).1, (lW3 s).1, (lW4 s).1, (lW5 s).1, (lW6 s).1⟩
def wOk (s : Ds) (h : DsOk s) : DsOk (lW1 s).2 ∧ DsOk (lW2 s).2 ∧ DsOk (lW3 s).2 ∧ DsOk (lW4 s).2 ∧ DsOk (lW5 s).2 ∧ DsOk (lW6 s).2 := by
  have h1 : DsOk (lW1 s).2 := pk_ok h _ _
  have h2 : DsOk (lW2 s).2 := pk_ok h1 _ _
  have h3 : DsOk (lW3 s).2 := pk_ok h2 _ _
  have h4 : DsOk (lW4 s).2 := pk_ok h3 _ _
  have h5 : DsOk (lW5 s).2 := pk_ok h4 _ _
  exact ⟨h1, h2, h3, h4, h5, dDraw_ok h5 _⟩
theorem lWay_ok (s : Ds) : mIsWay (lWay s) = true := by
  have m2 : (lW2 s).1 ∈ ([1, 1, 2] : List Int) := pk_mem (by decide)
  have r6 := dDraw_rng (s := (lW5 s).2) (lim := 2) (by decide)
  have m2' : ([1, 2] : List Int).contains (lW2 s).1 = true := by
    have : ∀ x ∈ ([1, 1, 2] : List Int), ([1, 2] : List Int).contains x = true := by decide
    exact this _ m2
  have m6 : ([0, 1] : List Int).contains (lW6 s).1 = true := by
    have r6 : 0 ≤ (lW6 s).1 ∧ (lW6 s).1 < 2 := r6
    have : (lW6 s).1 = 0 ∨ (lW6 s).1 = 1 := by omega
    rcases this with q | q <;> rw [q] <;> decide
  unfold mIsWay
  simp only [Bool.and_eq_true]
  exact ⟨List.contains_iff_mem.mpr (pk_mem (by decide)), m2', List.contains_iff_mem.mpr (pk_mem (by decide)), List.contains_iff_mem.mpr (pk_mem (by decide)), List.contains_iff_mem.mpr (pk_mem (by decide)), m6⟩
abbrev spLWay (K : PySem.W.Frag) : Sp := spW K (fun _ : Unit => []) (fun _ s => DsOk s) fun _ s => (eW (lWay s), (lW6 s).2)
theorem cl__law_way (T : FT K mg "_law_way" s__law_way ["_law_draws"]) {k k2 : Nat} (C__law_pick : Cl P w K mg base "_law_pick" k ["_law_draws", "_law_choices"] (spPick K)) (C__law_draw : Cl P w K mg base "_law_draw" k2 ["_law_draws", "_law_limit"] (spDraw K)) (hk : k2 ≤ k) : Cl P w K mg base "_law_way" (k + 1) ["_law_draws"] (spLWay K) := by
  refine clW T sc__law_way (fun _ => rfl) fun f cdv A outer s H E z d hr hz => ?_
  have nd := sc__law_way.nd
  have hr__law_pick := hr
  have hr__law_draw := hr.mono hk
  obtain ⟨o1, o2, o3, o4, o5, o6⟩ := wOk d.st hz
  refine ⟨_, ((pss_cons (ps_par (i := 1) (j := 2) (by rfl) nd rfl rfl (by decide) rfl rfl (pa_cons (pe_cl C__law_pick hr__law_pick (by rfl) (pa_cons (pv 0) (pa_cons (pe_lst (pa_cons pe_str (pa_cons pe_str (pa_cons pe_str pa_nil)))) pa_nil))) (pa_cons (pe_cl C__law_pick hr__law_pick (by rfl) (pa_cons (pv 0) (pa_cons (pe_lst (pa_cons pe_int (pa_cons pe_int (pa_cons pe_int pa_nil)))) pa_nil))) pa_nil)) (by rfl))
      (pss_cons (ps_par (i := 3) (j := 4) (by rfl) nd rfl rfl (by decide) rfl rfl (pa_cons (pe_cl C__law_pick hr__law_pick (by rfl) (pa_cons (pv 0) (pa_cons (pe_lst (pa_cons pe_str (pa_cons pe_str (pa_cons pe_str pa_nil)))) pa_nil))) (pa_cons (pe_cl C__law_pick hr__law_pick (by rfl) (pa_cons (pv 0) (pa_cons (pe_lst (pa_cons pe_str (pa_cons pe_str pa_nil))) pa_nil))) pa_nil)) (by rfl))
      (pss_one (ps_ret (pe_tup (pa_cons (pv 1) (pa_cons (pv 2) (pa_cons (pv 3) (pa_cons (pv 4) (pa_cons (pe_cl C__law_pick hr__law_pick (by rfl) (pa_cons (pv 0) (pa_cons (pe_lst (pa_cons pe_str (pa_cons pe_str (pa_cons pe_str pa_nil)))) pa_nil))) (pa_cons (pe_cl C__law_draw hr__law_draw (by rfl) (pa_cons (pv 0) (pa_cons pe_int pa_nil))) pa_nil)))))))))))), fun e Q hq => sd_nm [_, _, _, _, _] rfl ?_⟩
  have e1 : pk d.st ("" : Str) choS = lW1 d.st := rfl
  have e2 : pk (lW1 d.st).2 0 [1, 1, 2] = lW2 d.st := rfl
  have e3 : pk (lW2 d.st).2 ("" : Str) accS = lW3 d.st := rfl
  have e4 : pk (lW3 d.st).2 ("" : Str) agaS = lW4 d.st := rfl
  have e5 : pk (lW4 d.st).2 ("" : Str) bacS = lW5 d.st := rfl
  have e6 : dDraw (lW5 d.st).2 2 = lW6 d.st := rfl
  have e7 : lWay d.st = ⟨(lW1 d.st).1, (lW2 d.st).1, (lW3 d.st).1, (lW4 d.st).1, (lW5 d.st).1, (lW6 d.st).1⟩ := rfl
  have hq' : Rt K e Q fun v d' => v = eW (lWay d.st) ∧ d' = some (d.go (lW6 d.st).2) := hq
  rw [e7] at hq'
  generalize lW1 d.st = w1 at *
  generalize lW2 d.st = w2 at *
  generalize lW3 d.st = w3 at *
  generalize lW4 d.st = w4 at *
  generalize lW5 d.st = w5 at *
  generalize lW6 d.st = w6 at *
  refine sd_seq (sd_par (ev_pickG (d := d) .str e1 rfl (ea_cons (ev_lst (ea_cons ev_str (ea_cons ev_str (ea_cons ev_str ea_nil)))) ea_nil) hz (by decide) (by decide)) (ev_pickG .int e2 rfl (ea_cons (ev_lst (ea_cons ev_int (ea_cons ev_int (ea_cons ev_int ea_nil)))) ea_nil) o1 (by decide) (by decide)) (sd_nxt [_, _, _, _, _] rfl ?_))
  refine sd_seq (sd_par (ev_pickG .str e3 rfl (ea_cons (ev_lst (ea_cons ev_str (ea_cons ev_str (ea_cons ev_str ea_nil)))) ea_nil) o2 (by decide) (by decide)) (ev_pickG .str e4 rfl (ea_cons (ev_lst (ea_cons ev_str (ea_cons ev_str ea_nil))) ea_nil) o3 (by decide) (by decide)) (sd_nxt [_, _, _, _, _] rfl ?_))
  exact sd_ret hq' (ev_tup (ea_cons (ev_var rfl) (ea_cons (ev_var rfl) (ea_cons (ev_var rfl) (ea_cons (ev_var rfl) (ea_cons (ev_pickG .str e5 rfl (ea_cons (ev_lst (ea_cons ev_str (ea_cons ev_str (ea_cons ev_str ea_nil)))) ea_nil) o4 (by decide) (by decide)) (ea_cons (ev_drawG e6 rfl (ea_cons ev_int ea_nil) o5 (by decide) (by decide)) ea_nil))))))) ⟨rfl, rfl⟩
/-! texts -/
theorem lay_flat (ts : List Str) (i : Nat) {t : Str} (h : ts[i]? = some t) : ((ts.take (i + 1)).flatMap fun t => letS.map fun l => t ++ l) = ((ts.take i).flatMap fun t => letS.map fun l => t ++ l) ++ [t ++ "a", t ++ "b"] := by
  rw [List.take_add_one, h, List.flatMap_append]
  rfl
theorem cl__law_texts (T : FT K mg "_law_texts" s__law_texts ["_law_most"]) (b : Bi mg) : Cl P w K mg base "_law_texts" 1 ["_law_most"] (spTexts K) := by
  obtain ⟨nlen, nisinstance, nall, nmin, ntuple, nlist, nset, nsorted, nrange, nstr, nint, nbool⟩ := b
  refine clA T sc__law_texts (fun _ => rfl) fun f cdv A outer s H E n hr hn => ?_
  have nd := sc__law_texts.nd
  refine ⟨_, ((pss_cons (ps_par (i := 1) (j := 2) (by rfl) nd rfl rfl (by decide) rfl rfl (pa_cons (pe_lst pa_nil) (pa_cons (pe_lst (pa_cons pe_str pa_nil)) pa_nil)) (by rfl))
      (pss_cons (ps_for PassesOwn.never rfl (pi_range1 (by rfl) nrange (pa_cons (pv 0) pa_nil)) (pg_name (i := 3) nd rfl (by first | exact Or.inl rfl | exact Or.inr rfl))
      (pss_cons (ps_set (i := 4) nd rfl (by first | exact Or.inl rfl | exact Or.inr rfl) (pe_lst pa_nil))
        (pss_cons (ps_for PassesOwn.never rfl (pi_listK rfl (pv 2)) (pg_name (i := 5) nd rfl (by first | exact Or.inl rfl | exact Or.inr rfl))
        (pss_one (ps_set (i := 4) nd rfl (by first | exact Or.inl rfl | exact Or.inr rfl) (pe_op op_cat (pv 4) (pe_lst (pa_cons (pe_op op_add_str (pv 5) pe_str) (pa_cons (pe_op op_add_str (pv 5) pe_str) pa_nil)))))))
        (pss_one (ps_par (i := 1) (j := 2) (by rfl) nd rfl rfl (by decide) rfl rfl (pa_cons (pe_op op_cat (pv 1) (pv 4)) (pa_cons (pv 4) pa_nil)) (by rfl))))))
      (pss_one (ps_ret (pv 1)))))), fun e Q hq => sd_nm [_, _, _, _, _, _] rfl ?_⟩
  refine sd_seq (sd_par (d1 := dL []) (d2 := dL [""]) (ev_lst ea_nil) (ev_lst (ea_cons ev_str ea_nil)) (sd_nxt [_, _, _, _, _, _] rfl ?_))
  refine sd_seq (sd_forR (ea_cons (ev_var rfl) ea_nil) (by omega) (fun i => [.val (.int (n : Int)), .val (dL (mTexts i)), .val (dL (mLay i)), .any, .any, .any]) (fun i => none) rfl rfl (fun i B hB hi => ?_) (sd_next ?_))
  · obtain ⟨h1, h2, h3⟩ := mLay_bd i (by omega)
    obtain ⟨h4, h5, h6⟩ := mLay_bd (i + 1) (by omega)
    have fl : ∀ j, j ≤ (mLay i).length → (((mLay i).take j).flatMap fun t => letS.map fun l => t ++ l).length ≤ 600 := fun j hj => by
      rw [List.length_flatMap]
      have : ((List.map (fun t => (letS.map fun l => t ++ l).length) ((mLay i).take j))) = List.replicate ((mLay i).take j).length 2 := by
        rw [List.eq_replicate_iff]
        exact ⟨List.length_map _, fun b hb => by obtain ⟨t, _, rfl⟩ := List.mem_map.mp hb; rfl⟩
      rw [this, List.sum_replicate_nat, List.length_take]
      omega
    refine sd_nm [_, _, _, _, _, _] rfl ?_
    refine sd_seq (sd_asg (d := dL []) (ev_lst ea_nil) (sd_nxt [_, _, _, _, _, _] rfl ?_))
    refine sd_seq (sd_forL (ev_var rfl) (fun j => [.val (.int (n : Int)), .val (dL (mTexts i)), .val (dL (mLay i)), .val (.int (i : Int)), .val (dL (((mLay i).take j).flatMap fun t => letS.map fun l => t ++ l)), .any]) (fun i => none) rfl rfl (fun j d B2 hB2 hd => ?_) (sd_next ?_))
    · rw [List.getElem?_map] at hd
      obtain ⟨t, ht, rfl⟩ := Option.map_eq_some_iff.mp hd
      have hj := (List.getElem?_eq_some_iff.mp ht).1
      have htl := h3 t (List.mem_of_getElem? ht)
      refine sd_nm [_, _, _, _, _, _] rfl ?_
      refine sd_asg (d := dL (((mLay i).take (j + 1)).flatMap fun t => letS.map fun l => t ++ l)) (Ev.of (ev_op (ev_var rfl) (ev_lst (ea_cons (ev_op (ev_var rfl) ev_str (rd_addS (by show t.length + 1 ≤ 1000; omega))) (ea_cons (ev_op (ev_var rfl) ev_str (rd_addS (by show t.length + 1 ≤ 1000; omega))) ea_nil))) (rd_cat (by rw [List.length_map]; have := fl j (by omega); show _ + 2 ≤ _; omega))) ?_) ?_
      · rw [lay_flat _ _ ht]
        show _ = PyData.list (List.map PyData.str _)
        rw [List.map_append]
        rfl
      refine sd_any 5 ?_
      exact fun G H σ bb s => ⟨G, bb, s⟩
    · rw [List.length_map, List.take_length]
      refine sd_nm [_, _, _, _, _, _] rfl ?_
      refine sd_par (d1 := dL (mTexts (i + 1))) (d2 := dL (mLay (i + 1))) (Ev.of (ev_op (ev_var rfl) (ev_var rfl) (rd_cat (by rw [List.length_map, List.length_map]; have := fl (mLay i).length (Nat.le_refl _); rw [List.take_length] at this; omega))) (by rw [← List.map_append]; rfl)) (ev_var rfl) ?_
      refine sd_any 3 ?_
      refine sd_any 4 ?_
      exact fun G H σ bb s => ⟨G, bb, s⟩
  · refine sd_nm [_, _, _, _, _, _] rfl ?_
    exact sd_ret hq (ev_var rfl) rfl
end

end Fo
namespace Fo
open PySem PySem.Spec PyProof.Rows L2 DL DR
abbrev s__law_list : Stmt := topS 84
abbrev N__law_list : List Str := ["_law_draws", "_law_many", "_law_found", "_law_left", "_law_k", "_law_word"]
theorem sc__law_list : FnScope N__law_list ["_law_draws", "_law_many"] (defScope s__law_list) := ⟨rfl, rfl, rfl, by decide +kernel, rfl, by decide +kernel, by decide +kernel⟩
abbrev s__law_row : Stmt := topS 85
abbrev N__law_row : List Str := ["_law_draws", "_law_longest", "_law_k"]
theorem sc__law_row : FnScope N__law_row ["_law_draws", "_law_longest"] (defScope s__law_row) := ⟨rfl, rfl, rfl, by decide +kernel, rfl, by decide +kernel, by decide +kernel⟩

section
variable {P : Program} {w : World} {K : PySem.W.Frag} {mg : Str → Option Value} {base : Heap}
/-! lists -/
def lLeft : List Str := (mTexts 3).drop 2 ++ letS
def lStep (r : List Str × List Str × Ds) : List Str × List Str × Ds := (r.1 ++ [(pk r.2.2 ("" : Str) r.2.1).1], r.2.1.filter (fun x => !decide (x = (pk r.2.2 ("" : Str) r.2.1).1)), (pk r.2.2 ("" : Str) r.2.1).2)
def lLs (s : Ds) : Nat → List Str × List Str × Ds
  | 0 => ([], lLeft, s)
  | i + 1 => lStep (lLs s i)
structure LI (i : Nat) (r : List Str × List Str × Ds) : Prop where
  ok : DsOk r.2.2
  sub : ∀ x ∈ r.2.1, x ∈ lLeft
  nd : r.2.1.Nodup
  len : 14 ≤ r.2.1.length + i
  big : r.2.1.length ≤ 14
  fl : r.1.length = i
  fn : r.1.Nodup
  fs : ∀ x ∈ r.1, x ∈ lLeft ∧ x ∉ r.2.1
theorem filter_one {x : Str} : ∀ {l : List Str}, l.Nodup → l.length ≤ (l.filter fun y => !decide (y = x)).length + 1
  | [], _ => Nat.zero_le _
  | y :: l, h => by
    obtain ⟨h1, h2⟩ := List.nodup_cons.mp h
    by_cases e : y = x
    · subst e
      rw [List.filter_cons, if_neg (by simp), List.filter_eq_self.mpr fun z hz => by
        rw [Bool.not_eq_true', decide_eq_false_iff_not]
        exact fun q => h1 (q ▸ hz)]
      rw [List.length_cons]
      exact Nat.le_refl _
    · have := filter_one (x := x) h2
      rw [List.filter_cons, if_pos (by rw [decide_eq_false e]; rfl), List.length_cons, List.length_cons]
      omega
theorem li_step {i : Nat} {r : List Str × List Str × Ds} (h : LI i r) (hi : i < 3) : LI (i + 1) (lStep r) := by
  have hne : r.2.1 ≠ [] := fun z => by have := h.len; rw [z, List.length_nil] at this; omega
  have hm : (pk r.2.2 ("" : Str) r.2.1).1 ∈ r.2.1 := pk_mem hne
  refine ⟨pk_ok h.ok ("" : Str) _, fun x hx => h.sub x (List.mem_filter.mp hx).1, h.nd.filter _, ?_, Nat.le_trans (List.length_filter_le _ _) h.big, ?_, ?_, fun x hx => ?_⟩
  · have := filter_one (x := (pk r.2.2 ("" : Str) r.2.1).1) h.nd
    have := h.len
    show 14 ≤ (r.2.1.filter _).length + (i + 1)
    omega
  · show (r.1 ++ [_]).length = i + 1
    rw [List.length_append, h.fl]
    rfl
  · show (r.1 ++ [_]).Nodup
    rw [List.nodup_append]
    refine ⟨h.fn, by simp, fun a ha b hb => ?_⟩
    rw [List.mem_singleton] at hb
    subst hb
    exact fun z => (h.fs a ha).2 (z ▸ hm)
  · rcases List.mem_append.mp hx with q | q
    · exact ⟨(h.fs x q).1, fun z => (h.fs x q).2 (List.mem_filter.mp z).1⟩
    · rw [List.mem_singleton] at q
      subst q
      refine ⟨h.sub _ hm, fun z => ?_⟩
      have := (List.mem_filter.mp z).2
      simp at this
theorem li_at {s : Ds} (h : DsOk s) : ∀ i, i ≤ 3 → LI i (lLs s i)
  | 0, _ => ⟨h, fun x hx => hx, by show lLeft.Nodup; decide +kernel, by show 14 ≤ lLeft.length + 0; decide +kernel, by show lLeft.length ≤ 14; decide +kernel, rfl, List.nodup_nil, fun x hx => by cases hx⟩
  | i + 1, hi => li_step (li_at h i (by omega)) (by omega)
theorem lLeft_all : ∀ x ∈ lLeft, mIsWord x = true ∧ Lt x ∧ x.length ≤ 3 := by decide +kernel
def lNum (n : Int) (s : Ds) : Nat := (1 + (dDraw s n).1).toNat
def lList (n : Int) (s : Ds) : List Str := (lLs (dDraw s n).2 (lNum n s)).1
def lListS (n : Int) (s : Ds) : Ds := (lLs (dDraw s n).2 (lNum n s)).2.2
theorem lNum_rng (s : Ds) : 1 ≤ lNum 3 s ∧ lNum 3 s ≤ 3 ∧ (1 + (dDraw s 3).1) = ((lNum 3 s : Nat) : Int) := by
  have := dDraw_rng (s := s) (lim := 3) (by decide)
  unfold lNum
  omega
theorem lList_li {s : Ds} (h : DsOk s) : LI (lNum 3 s) (lLs (dDraw s 3).2 (lNum 3 s)) := li_at (dDraw_ok h 3) _ (lNum_rng s).2.1
theorem lList_ok {s : Ds} (h : DsOk s) : mIsList (lList 3 s) = true ∧ (lList 3 s).Nodup ∧ (∀ x ∈ lList 3 s, Lt x) ∧ DsOk (lListS 3 s) := by
  have l := lList_li h
  have hn := lNum_rng s
  have hl : (lList 3 s).length = lNum 3 s := l.fl
  have hfs : ∀ x ∈ lList 3 s, mIsWord x = true ∧ Lt x ∧ x.length ≤ 3 := fun x hx => lLeft_all x (l.fs x hx).1
  refine ⟨?_, l.fn, fun x hx => (hfs x hx).2.1, l.ok⟩
  unfold mIsList
  rw [dd_nodup (show (lList 3 s).Nodup from l.fn), hl]
  simp only [Bool.and_eq_true, decide_eq_true_eq, List.all_eq_true]
  exact ⟨by omega, fun x hx => (hfs x hx).1, trivial⟩
abbrev spLList (K : PySem.W.Frag) : Sp := spW K (fun _ : Unit => [.int 3]) (fun _ s => DsOk s) fun _ s => (dL (lList 3 s), lListS 3 s)
theorem cl__law_list (T : FT K mg "_law_list" s__law_list ["_law_draws", "_law_many"]) (b : Bi mg) {k k2 : Nat} (C__law_pick : Cl P w K mg base "_law_pick" k ["_law_draws", "_law_choices"] (spPick K)) (C__law_draw : Cl P w K mg base "_law_draw" k2 ["_law_draws", "_law_limit"] (spDraw K)) (C__law_texts : Cl P w K mg base "_law_texts" k2 ["_law_most"] (spTexts K)) (hk : k2 ≤ k) : Cl P w K mg base "_law_list" (k + 1) ["_law_draws", "_law_many"] (spLList K) := by
  obtain ⟨nlen, nisinstance, nall, nmin, ntuple, nlist, nset, nsorted, nrange, nstr, nint, nbool⟩ := b
  refine clW T sc__law_list (fun _ => rfl) fun f cdv A outer s H E z d hr hz => ?_
  have nd := sc__law_list.nd
  have hr__law_pick := hr
  have hr__law_draw := hr.mono hk
  have hr__law_texts := hr.mono hk
  obtain ⟨n1, n2, n3⟩ := lNum_rng d.st
  have hok := dDraw_ok hz 3
  have hli := li_at (s := (dDraw d.st 3).2) hok
  refine ⟨_, ((pss_cons (ps_asg (pe_tup (pa_cons (pe_lst pa_nil) (pa_cons (pe_op op_cat (pe_slice (sl_listK rfl) (pe_cl C__law_texts hr__law_texts (by rfl) (pa_cons pe_int pa_nil)) (po_some pe_int) po_none) (pe_lst (pa_cons pe_str (pa_cons pe_str pa_nil)))) pa_nil))) (pg_tupK rfl rfl (pgs_cons (pg_name (i := 2) nd rfl (by first | exact Or.inl rfl | exact Or.inr rfl)) (pgs_cons (pg_name (i := 3) nd rfl (by first | exact Or.inl rfl | exact Or.inr rfl)) pgs_nil))))
      (pss_cons (ps_for PassesOwn.never rfl (pi_range1 (by rfl) nrange (pa_cons (pe_op op_add pe_int (pe_cl C__law_draw hr__law_draw (by rfl) (pa_cons (pv 0) (pa_cons (pv 1) pa_nil)))) pa_nil)) (pg_name (i := 4) nd rfl (by first | exact Or.inl rfl | exact Or.inr rfl))
      (pss_cons (ps_expr (pe_bm PySem.F.plainAttrs_list PySem.F.slot_list_append PySem.F.type_list_append mt_append (pv 2) (pa_cons (pe_cl C__law_pick hr__law_pick (by rfl) (pa_cons (pv 0) (pa_cons (pv 3) pa_nil))) pa_nil)))
        (pss_one (ps_setLc (i := 3) (own := [("_law_word", 5)]) (g := gName 5) (tt := _) rfl nd rfl rfl (sw_true rfl rfl rfl (by decide +kernel)) (pi_listK rfl (pv 3)) (blkOk_by (N := N__law_list) (sc := (defScope s__law_list)) (by decide +kernel)) (fun _ _ _ _ _ => (pg_name (i := 5) nd rfl (by first | exact Or.inl rfl | exact Or.inr rfl))) (fun _ _ _ _ _ => pts_one (pt_cmpR op_ne (pv 5) (pe_ix (ix_listK rfl) (pv 2) (pe_un un_neg pe_int) (fun _ _ => rfl)) (nomark _))) (fun _ _ _ _ _ => (pv 5))))))
      (pss_one (ps_ret (pv 2)))))), fun e Q hq => sd_nm [_, _, _, _, _, _] rfl ?_⟩
  have hq' : Rt K e Q fun v d' => v = dL (lLs (dDraw d.st 3).2 (lNum 3 d.st)).1 ∧ d' = some (d.go (lLs (dDraw d.st 3).2 (lNum 3 d.st)).2.2) := hq
  clear hq
  have h0 : DsOk d.st := hz
  generalize hd1 : dDraw d.st 3 = d1 at *
  generalize lNum 3 d.st = m at *
  refine sd_seq (sd_tupF (ef_lst ea_nil) (d2 := dL lLeft) (Ev.of (ev_op (ev_slL (ev_call 3 (ea_cons ev_int ea_nil) rfl (by decide)) (es_at ev_int) es_no) (ev_lst (ea_cons ev_str (ea_cons ev_str ea_nil))) (rd_cat (by decide +kernel))) (by rw [show (2 : Int) = ((2 : Nat) : Int) from rfl, cutD_from]; show PyData.list _ = PyData.list ((((mTexts 3).drop 2) ++ letS).map .str); rw [List.map_append, List.map_drop]; rfl)) (sd_nxt [_, _, _, _, _, _] rfl ?_))
  refine sd_seq (sd_forR (n := m) (ea_cons (Ev.of (ev_op ev_int (ev_drawG (d := d) hd1 rfl (ea_cons (ev_var rfl) ea_nil) h0 (by decide) (by decide)) rd_addI) (congrArg PyData.int n3)) ea_nil) (by omega) (fun i => [.drw, .val (.int 3), .own ((lLs d1.2 i).1.map .str), .val (dL (lLs d1.2 i).2.1), .any, .any]) (fun i => some (d.go (lLs d1.2 i).2.2)) rfl rfl (fun i B hB hi => ?_) (sd_next ?_))
  · have l := hli i (by omega)
    have es : lLs d1.2 (i + 1) = lStep (lLs d1.2 i) := rfl
    rw [es]
    generalize lLs d1.2 i = r at *
    have er : lStep r = (r.1 ++ [(pk r.2.2 ("" : Str) r.2.1).1], r.2.1.filter (fun x => !decide (x = (pk r.2.2 ("" : Str) r.2.1).1)), (pk r.2.2 ("" : Str) r.2.1).2) := rfl
    rw [er]
    have hne : r.2.1 ≠ [] := fun z => by have := l.len; rw [z, List.length_nil] at this; omega
    have hb := l.big
    generalize hp : pk r.2.2 ("" : Str) r.2.1 = p at *
    refine sd_nm [_, _, _, _, _, _] rfl ?_
    refine sd_seq (sd_append rfl (ev_pickG .str hp rfl (ea_cons (ev_var rfl) ea_nil) l.ok hne (by omega)) (by rw [List.length_map, l.fl]; omega) (sd_nxt [_, _, _, _, _, _] rfl ?_))
    refine sd_asg (ev_fz (ef_lcLp r.2.1 .str (fun x => !decide (x = p.1)) .str (ev_var rfl) rfl (by omega) (fun x hx => (et_test (ev_op (ev_var rfl) (ev_ixOwn rfl (ev_neg ev_int) (atI_neg1 (List.getLast?_concat ..))) rd_neS))) (fun x hx hb => (ev_var rfl)))) ?_
    refine sd_any 4 ?_
    refine sd_nm [_, _, _, _, _, _] rfl ?_
    show SD _ _ _ tNext (lpE K e _ _ [.drw, .val (.int 3), .own ((r.1 ++ [p.1]).map PyData.str), .val (dL (r.2.1.filter fun x => !decide (x = p.1))), .any, .any] _) [.drw, .val (.int 3), .own (r.1.map PyData.str ++ [.str p.1]), .val (dL (r.2.1.filter fun x => !decide (x = p.1))), .any, .any] _
    rw [List.map_append]
    exact fun G H σ bb s => ⟨G, bb, s⟩
  · refine sd_fz 2 rfl ?_
    refine sd_nm [_, _, _, _, _, _] rfl ?_
    exact sd_ret hq' (ev_var rfl) ⟨rfl, rfl⟩
/-! rows -/
def rowC : List Str := ["a", "a", "b", "b", "tab", "tab", "blank", "back", "end"]
def lRw (s : Ds) : Nat → List Str × Ds
  | 0 => ([], s)
  | i + 1 => ((lRw s i).1 ++ [(pk (lRw s i).2 ("" : Str) rowC).1], (pk (lRw s i).2 ("" : Str) rowC).2)
theorem lRw_ok {s : Ds} (h : DsOk s) : ∀ i, DsOk (lRw s i).2 ∧ (lRw s i).1.length = i ∧ ∀ k ∈ (lRw s i).1, keysS.contains k = true
  | 0 => ⟨h, rfl, fun k hk => by cases hk⟩
  | i + 1 => by
    obtain ⟨a, b, c⟩ := lRw_ok h i
    refine ⟨pk_ok a ("" : Str) _, ?_, fun k hk => ?_⟩
    · show ((lRw s i).1 ++ [_]).length = i + 1
      rw [List.length_append, b]
      rfl
    · rcases List.mem_append.mp hk with q | q
      · exact c k q
      · rw [List.mem_singleton] at q
        rw [q]
        have : ∀ k ∈ rowC, keysS.contains k = true := by decide
        exact this _ (pk_mem (by decide))
def lRowN (n : Int) (s : Ds) : Nat := (dDraw s (n + 1)).1.toNat
def lRow (n : Int) (s : Ds) : List Str × Ds := lRw (dDraw s (n + 1)).2 (lRowN n s)
theorem lRowN_rng {n : Int} (s : Ds) (h : 0 ≤ n) : (dDraw s (n + 1)).1 = ((lRowN n s : Nat) : Int) ∧ ((lRowN n s : Nat) : Int) ≤ n := by
  have := dDraw_rng (s := s) (lim := n + 1) (by omega)
  unfold lRowN
  omega
abbrev spLRow (K : PySem.W.Frag) : Sp := spW K (fun n : Int => [.int n]) (fun n s => 0 ≤ n ∧ n ≤ 100 ∧ DsOk s) fun n s => (dL (lRow n s).1, (lRow n s).2)
theorem cl__law_row (T : FT K mg "_law_row" s__law_row ["_law_draws", "_law_longest"]) (b : Bi mg) {k k2 : Nat} (C__law_pick : Cl P w K mg base "_law_pick" k ["_law_draws", "_law_choices"] (spPick K)) (C__law_draw : Cl P w K mg base "_law_draw" k2 ["_law_draws", "_law_limit"] (spDraw K)) (hk : k2 ≤ k) : Cl P w K mg base "_law_row" (k + 1) ["_law_draws", "_law_longest"] (spLRow K) := by
  obtain ⟨nlen, nisinstance, nall, nmin, ntuple, nlist, nset, nsorted, nrange, nstr, nint, nbool⟩ := b
  refine clW T sc__law_row (fun _ => rfl) fun f cdv A outer s H E z d hr hz => ?_
  have nd := sc__law_row.nd
  have hr__law_pick := hr
  have hr__law_draw := hr.mono hk
  obtain ⟨hz0, hz1, hok⟩ := hz
  obtain ⟨r1, r2⟩ := lRowN_rng d.st hz0
  have hrw := lRw_ok (dDraw_ok hok (z + 1))
  refine ⟨_, ((pss_one (ps_ret (pe_lc (own := [("_law_k", 2)]) (g := gName 2) (tt := tYes) rfl nd (pi_range1 (by rfl) nrange (pa_cons (pe_cl C__law_draw hr__law_draw (by rfl) (pa_cons (pv 0) (pa_cons (pe_op op_add (pv 1) pe_int) pa_nil))) pa_nil)) (blkOk_by (N := N__law_row) (sc := (defScope s__law_row)) (by decide +kernel)) (fun _ _ _ _ _ => (pg_name (i := 2) nd rfl (by first | exact Or.inl rfl | exact Or.inr rfl))) (fun _ _ _ _ _ => pts_nil) (fun _ _ _ _ _ => (pe_cl C__law_pick hr__law_pick (by rfl) (pa_cons (pv 0) (pa_cons (pe_lst (pa_cons pe_str (pa_cons pe_str (pa_cons pe_str (pa_cons pe_str (pa_cons pe_str (pa_cons pe_str (pa_cons pe_str (pa_cons pe_str (pa_cons pe_str pa_nil)))))))))) pa_nil)))))))), fun e Q hq => sd_nm [_, _, _] rfl ?_⟩
  have hq' : Rt K e Q fun v d' => v = dL (lRw (dDraw d.st (z + 1)).2 (lRowN z d.st)).1 ∧ d' = some (d.go (lRw (dDraw d.st (z + 1)).2 (lRowN z d.st)).2) := hq
  clear hq
  have h0 : DsOk d.st := hok
  generalize hd1 : dDraw d.st (z + 1) = d1 at *
  generalize lRowN z d.st = m at *
  refine sd_ret hq' (ev_fz (ef_lcR (n := m) (ea_cons (Ev.of (ev_drawG (d := d) hd1 rfl (ea_cons (ev_op (ev_var rfl) ev_int rd_addI) ea_nil) h0 (by omega) (by omega)) (congrArg PyData.int r1)) ea_nil) (by omega) rfl (fun i => (lRw d1.2 i).1.map .str) (fun i => some (d.go (lRw d1.2 i).2)) (fun _ => true) rfl rfl (fun i hi => by rw [List.length_map, (hrw i).2.1]; omega) (fun i hi => et_yes) (fun i hi => by cases hi) fun i hi _ => ?_)) ⟨rfl, rfl⟩
  have o := (hrw i).1
  have es : lRw d1.2 (i + 1) = ((lRw d1.2 i).1 ++ [(pk (lRw d1.2 i).2 ("" : Str) rowC).1], (pk (lRw d1.2 i).2 ("" : Str) rowC).2) := rfl
  rw [es]
  generalize lRw d1.2 i = r at *
  generalize hp : pk r.2 ("" : Str) rowC = p at *
  exact ⟨.str p.1, by rw [List.map_append]; rfl, ev_pickG .str hp rfl (ea_cons (ev_lst (ea_cons ev_str (ea_cons ev_str (ea_cons ev_str (ea_cons ev_str (ea_cons ev_str (ea_cons ev_str (ea_cons ev_str (ea_cons ev_str (ea_cons ev_str ea_nil)))))))))) ea_nil) o (by decide) (by decide)⟩
end

end Fo
namespace Fo
open PySem PySem.Spec PyProof.Rows L2 DL DR

/-! ### by breadth -/
section
variable {α : Type} [DecidableEq α] (st : α → Str → α) (ks : List Str) (s0 : α)
def rowOf (rows : List (α × List Str)) (s : α) : List Str := ((rows.find? fun x => decide (x.1 = s)).map (·.2)).getD []
structure Bf (α : Type) where
  rows : List (α × List Str)
  fresh : List α
def bVis (b : Bf α) (s : α) (k : Str) : Bf α := if st s k ∈ b.rows.map (·.1) then b else ⟨b.rows ++ [(st s k, rowOf b.rows s ++ [k])], b.fresh ++ [st s k]⟩
def bAt (b : Bf α) (s : α) (i : Nat) : Bf α := (ks.take i).foldl (fun b k => bVis st b s k) b
def bSts (b : Bf α) (l : List α) (i : Nat) : Bf α := (l.take i).foldl (fun b s => bAt st ks b s ks.length) b
def bNext (x : Bf α) : Bf α := bSts st ks ⟨x.rows, []⟩ x.fresh x.fresh.length
def bIter : Nat → Bf α
  | 0 => ⟨[(s0, [])], [s0]⟩
  | n + 1 => bNext st ks (bIter n)
def bWalk (r : List Str) : α := r.foldl st s0
theorem rowOf_mem {rows : List (α × List Str)} {s : α} (h : s ∈ rows.map (·.1)) : (s, rowOf rows s) ∈ rows := by
  unfold rowOf
  obtain ⟨x, hx, e⟩ := List.mem_map.mp h
  cases hf : rows.find? fun x => decide (x.1 = s) with
  | none =>
    rw [List.find?_eq_none] at hf
    exact absurd (decide_eq_true e) (hf x hx)
  | some y =>
    have h1 := List.mem_of_find?_eq_some hf
    have h2 : y.1 = s := of_decide_eq_true (List.find?_some (p := fun x : α × List Str => decide (x.1 = s)) hf)
    show (s, y.2) ∈ rows
    rw [← h2]
    exact h1
theorem rowOf_app {rows ext : List (α × List Str)} {s : α} (h : s ∈ rows.map (·.1)) : rowOf (rows ++ ext) s = rowOf rows s := by
  unfold rowOf
  rw [List.find?_append]
  cases hf : rows.find? fun x => decide (x.1 = s) with
  | none =>
    rw [List.find?_eq_none] at hf
    obtain ⟨x, hx, e⟩ := List.mem_map.mp h
    exact absurd (decide_eq_true e) (hf x hx)
  | some y => rfl
theorem bAt_zero (b : Bf α) (s : α) : bAt st ks b s 0 = b := rfl
theorem bAt_succ {b : Bf α} {s : α} {i : Nat} {k : Str} (h : ks[i]? = some k) : bAt st ks b s (i + 1) = bVis st (bAt st ks b s i) s k := by
  unfold bAt
  rw [List.take_add_one, h, List.foldl_append]
  rfl
theorem bSts_zero (b : Bf α) (l : List α) : bSts st ks b l 0 = b := rfl
theorem bSts_succ {b : Bf α} {l : List α} {i : Nat} {s : α} (h : l[i]? = some s) : bSts st ks b l (i + 1) = bAt st ks (bSts st ks b l i) s ks.length := by
  unfold bSts
  rw [List.take_add_one, h, List.foldl_append]
  rfl
theorem bWalk_snoc (r : List Str) (k : Str) : bWalk st s0 (r ++ [k]) = st (bWalk st s0 r) k := by
  unfold bWalk
  rw [List.foldl_append]
  rfl
variable (M : Nat)
structure BI (d : Nat) (x : Bf α) : Prop where
  nd : (x.rows.map (·.1)).Nodup
  ok : ∀ y ∈ x.rows, (∀ k ∈ y.2, k ∈ ks) ∧ y.2.length ≤ d ∧ y.2.length ≤ M ∧ bWalk st s0 y.2 = y.1
  ly : ∀ s ∈ x.fresh, s ∈ x.rows.map (·.1)
  cm : ∀ r : List Str, (∀ k ∈ r, k ∈ ks) → r.length ≤ d → bWalk st s0 r ∈ x.rows.map (·.1)
  cl : ∀ s ∈ x.rows.map (·.1), s ∉ x.fresh → ∀ k ∈ ks, st s k ∈ x.rows.map (·.1)
/-- while a layer is looked through -/
structure BJ (d : Nat) (x b : Bf α) : Prop where
  nd : (b.rows.map (·.1)).Nodup
  ok : ∀ y ∈ b.rows, (∀ k ∈ y.2, k ∈ ks) ∧ y.2.length ≤ d + 1 ∧ y.2.length ≤ M ∧ bWalk st s0 y.2 = y.1
  ex : ∃ ext : List (α × List Str), b.rows = x.rows ++ ext ∧ b.fresh = ext.map (·.1)
def Deep : Prop := ∀ r : List Str, (∀ k ∈ r, k ∈ ks) → ∃ r' : List Str, (∀ k ∈ r', k ∈ ks) ∧ r'.length ≤ M ∧ bWalk st s0 r' = bWalk st s0 r
variable {st ks s0 M}
theorem BJ.old {d : Nat} {x b : Bf α} (j : BJ st ks s0 M d x b) {s : α} (h : s ∈ x.rows.map (·.1)) : s ∈ b.rows.map (·.1) := by
  obtain ⟨ext, e, _⟩ := j.ex
  rw [e, List.map_append]
  exact List.mem_append_left _ h
theorem bj_vis {d : Nat} {x b : Bf α} (hd : Deep st ks s0 M) (i : BI st ks s0 M d x) (j : BJ st ks s0 M d x b) {s : α} (hs : s ∈ x.fresh) {k : Str} (hk : k ∈ ks) : BJ st ks s0 M d x (bVis st b s k) ∧ st s k ∈ (bVis st b s k).rows.map (·.1) ∧ (∀ z ∈ b.rows.map (·.1), z ∈ (bVis st b s k).rows.map (·.1)) := by
  unfold bVis
  by_cases h : st s k ∈ b.rows.map (·.1)
  · rw [if_pos h]
    exact ⟨j, h, fun z hz => hz⟩
  · rw [if_neg h]
    have hsx := i.ly s hs
    obtain ⟨ext, e1, e2⟩ := j.ex
    have hr : rowOf b.rows s = rowOf x.rows s := by rw [e1]; exact rowOf_app hsx
    obtain ⟨o1, o2, o3, o4⟩ := i.ok _ (rowOf_mem hsx)
    have hdM : d + 1 ≤ M := by
      rcases Nat.lt_or_ge d M with z | z
      · exact z
      · exfalso
        refine h (j.old ?_)
        obtain ⟨r', a1, a2, a3⟩ := hd (rowOf x.rows s ++ [k]) (fun k' hk' => by
          rcases List.mem_append.mp hk' with q | q
          · exact o1 k' q
          · rw [List.mem_singleton.mp q]; exact hk)
        have := i.cm r' a1 (by omega)
        rw [a3, bWalk_snoc, o4] at this
        exact this
    refine ⟨⟨?_, fun y hy => ?_, ext ++ [(st s k, rowOf b.rows s ++ [k])], ?_, ?_⟩, ?_, fun z hz => ?_⟩
    · rw [List.map_append]
      exact List.nodup_append.mpr ⟨j.nd, List.pairwise_singleton _ _, fun a ha b' hb => by
        rw [List.map_singleton, List.mem_singleton] at hb
        subst hb
        intro z
        have z' : a = st s k := z
        rw [z'] at ha
        exact h ha⟩
    · rcases List.mem_append.mp hy with q | q
      · exact j.ok y q
      · rw [List.mem_singleton.mp q]
        refine ⟨fun k' hk' => ?_, ?_, ?_, ?_⟩
        · rcases List.mem_append.mp hk' with q | q
          · rw [hr] at q; exact o1 k' q
          · rw [List.mem_singleton.mp q]; exact hk
        · show (rowOf b.rows s ++ [k]).length ≤ d + 1
          rw [hr, List.length_append]
          exact Nat.add_le_add_right o2 1
        · show (rowOf b.rows s ++ [k]).length ≤ M
          rw [hr, List.length_append]
          exact Nat.le_trans (Nat.add_le_add_right o2 1) hdM
        · show bWalk st s0 (rowOf b.rows s ++ [k]) = st s k
          rw [hr, bWalk_snoc, o4]
    · rw [e1, List.append_assoc]
    · rw [e2, List.map_append]
      rfl
    · rw [List.map_append]
      exact List.mem_append_right _ (List.mem_singleton.mpr rfl)
    · rw [List.map_append]
      exact List.mem_append_left _ hz
theorem bj_at {d : Nat} {x b : Bf α} (hd : Deep st ks s0 M) (i : BI st ks s0 M d x) (j : BJ st ks s0 M d x b) {s : α} (hs : s ∈ x.fresh) : ∀ n, BJ st ks s0 M d x (bAt st ks b s n) ∧ (∀ k ∈ ks.take n, st s k ∈ (bAt st ks b s n).rows.map (·.1)) ∧ (∀ z ∈ b.rows.map (·.1), z ∈ (bAt st ks b s n).rows.map (·.1))
  | 0 => ⟨j, fun k hk => (by rw [List.take_zero] at hk; cases hk), fun z hz => hz⟩
  | n + 1 => by
    obtain ⟨j1, j2, j3⟩ := bj_at hd i j hs n
    cases hk : ks[n]? with
    | none =>
      have e1 : ks.take (n + 1) = ks.take n := by rw [List.take_add_one, hk]; simp
      have e : bAt st ks b s (n + 1) = bAt st ks b s n := by unfold bAt; rw [e1]
      rw [e, e1]
      exact ⟨j1, j2, j3⟩
    | some k =>
      rw [bAt_succ st ks hk]
      obtain ⟨q1, q2, q3⟩ := bj_vis hd i j1 hs (List.mem_of_getElem? hk)
      refine ⟨q1, fun k' hk' => ?_, fun z hz => q3 z (j3 z hz)⟩
      rw [List.take_add_one, hk] at hk'
      rcases List.mem_append.mp hk' with z | z
      · exact q3 _ (j2 k' z)
      · have : k' = k := by simpa using z
        rw [this]; exact q2
theorem bj_sts {d : Nat} {x : Bf α} (hd : Deep st ks s0 M) (i : BI st ks s0 M d x) : ∀ n, BJ st ks s0 M d x (bSts st ks ⟨x.rows, []⟩ x.fresh n) ∧ (∀ s ∈ x.fresh.take n, ∀ k ∈ ks, st s k ∈ (bSts st ks ⟨x.rows, []⟩ x.fresh n).rows.map (·.1))
  | 0 => ⟨⟨i.nd, fun y hy => by
      obtain ⟨a, b, c, e⟩ := i.ok y hy
      exact ⟨a, Nat.le_succ_of_le b, c, e⟩, [], (List.append_nil _).symm, rfl⟩, fun s hs => (by rw [List.take_zero] at hs; cases hs)⟩
  | n + 1 => by
    obtain ⟨j1, j2⟩ := bj_sts hd i n
    cases hk : x.fresh[n]? with
    | none =>
      have e1 : x.fresh.take (n + 1) = x.fresh.take n := by rw [List.take_add_one, hk]; simp
      have e : bSts st ks ⟨x.rows, []⟩ x.fresh (n + 1) = bSts st ks ⟨x.rows, []⟩ x.fresh n := by unfold bSts; rw [e1]
      rw [e, e1]
      exact ⟨j1, j2⟩
    | some s =>
      rw [bSts_succ st ks hk]
      obtain ⟨q1, q2, q3⟩ := bj_at hd i j1 (List.mem_of_getElem? hk) ks.length
      refine ⟨q1, fun s' hs' k hk' => ?_⟩
      rw [List.take_add_one, hk] at hs'
      rcases List.mem_append.mp hs' with z | z
      · exact q3 _ (j2 s' z k hk')
      · have : s' = s := by simpa using z
        rw [this]
        exact q2 k (by rw [List.take_length]; exact hk')
theorem bi_next {d : Nat} {x : Bf α} (hd : Deep st ks s0 M) (i : BI st ks s0 M d x) : BI st ks s0 M (d + 1) (bNext st ks x) := by
  obtain ⟨j, h2⟩ := bj_sts hd i x.fresh.length
  rw [List.take_length] at h2
  have hj : BJ st ks s0 M d x (bNext st ks x) := j
  have h2 : ∀ s ∈ x.fresh, ∀ k ∈ ks, st s k ∈ (bNext st ks x).rows.map (·.1) := h2
  obtain ⟨ext, e1, e2⟩ := hj.ex
  have succ : ∀ s ∈ x.rows.map (·.1), ∀ k ∈ ks, st s k ∈ (bNext st ks x).rows.map (·.1) := fun s hs k hk => by
    by_cases z : s ∈ x.fresh
    · exact h2 s z k hk
    · exact hj.old (i.cl s hs z k hk)
  refine ⟨hj.nd, hj.ok, fun s hs => ?_, fun r hr hl => ?_, fun s hs hn => ?_⟩
  · rw [e2] at hs
    rw [e1, List.map_append]
    exact List.mem_append_right _ hs
  · rcases List.eq_nil_or_concat r with rfl | ⟨r', k, rfl⟩
    · exact hj.old (i.cm [] (fun k hk => by cases hk) (Nat.zero_le _))
    · rw [List.concat_eq_append] at hr hl ⊢
      rw [bWalk_snoc]
      refine succ _ (i.cm r' (fun k' hk' => hr k' (List.mem_append_left _ hk')) ?_) k (hr k (List.mem_append_right _ (List.mem_singleton.mpr rfl)))
      rw [List.length_append] at hl
      exact Nat.le_of_succ_le_succ hl
  · refine succ s ?_
    rw [e1, List.map_append] at hs
    rcases List.mem_append.mp hs with z | z
    · exact z
    · exact absurd (by rw [e2]; exact z) hn
theorem bi_iter (hd : Deep st ks s0 M) : ∀ d, BI st ks s0 M d (bIter st ks s0 d)
  | 0 => ⟨List.pairwise_singleton _ _, fun y hy => by
      rw [List.mem_singleton.mp hy]
      exact ⟨fun k hk => (by cases hk), Nat.zero_le _, Nat.zero_le _, rfl⟩, fun s hs => hs, fun r _ hl => by
      rw [List.eq_nil_of_length_eq_zero (Nat.le_zero.mp hl)]
      exact List.mem_singleton.mpr rfl, fun s hs hn => absurd hs hn⟩
  | d + 1 => bi_next hd (bi_iter hd d)
theorem reach_in (hd : Deep st ks s0 M) {d : Nat} (h : M ≤ d) {r : List Str} (hr : ∀ k ∈ r, k ∈ ks) : bWalk st s0 r ∈ (bIter st ks s0 d).rows.map (·.1) := by
  obtain ⟨r', a1, a2, a3⟩ := hd r hr
  rw [← a3]
  exact (bi_iter hd d).cm r' a1 (Nat.le_trans a2 h)
/-- when all that can be reached is in, nothing more comes -/
theorem end_iter (hd : Deep st ks s0 M) {d : Nat} (h : M ≤ d) : (bIter st ks s0 (d + 1)).fresh = [] ∧ (bIter st ks s0 (d + 1)).rows = (bIter st ks s0 d).rows := by
  obtain ⟨j, _⟩ := bj_sts hd (bi_iter hd d) (bIter st ks s0 d).fresh.length
  have hj : BJ st ks s0 M d (bIter st ks s0 d) (bIter st ks s0 (d + 1)) := j
  obtain ⟨ext, e1, e2⟩ := hj.ex
  cases ext with
  | nil => exact ⟨by rw [e2]; rfl, by rw [e1, List.append_nil]⟩
  | cons y ext =>
    exfalso
    have hm : y ∈ (bIter st ks s0 (d + 1)).rows := by rw [e1]; exact List.mem_append_right _ (List.mem_cons_self ..)
    obtain ⟨o1, _, _, o4⟩ := hj.ok y hm
    have hin := reach_in hd h o1
    rw [o4] at hin
    have nd := hj.nd
    rw [e1, List.map_append] at nd
    exact (List.nodup_append.mp nd).2.2 _ hin _ (List.mem_map.mpr ⟨y, List.mem_cons_self .., rfl⟩) rfl
theorem stop_iter {d : Nat} (h : (bIter st ks s0 d).fresh = []) : ∀ n, bIter st ks s0 (d + n) = bIter st ks s0 d
  | 0 => rfl
  | n + 1 => by
    show bNext st ks (bIter st ks s0 (d + n)) = _
    rw [stop_iter h n]
    unfold bNext
    rw [h]
    show (⟨_, []⟩ : Bf α) = _
    cases hb : bIter st ks s0 d with
    | mk r f => rw [hb] at h; simp only at h; subst h; rfl
theorem same_end (hd : Deep st ks s0 M) {d : Nat} (h : (bIter st ks s0 d).fresh = []) : bIter st ks s0 d = bIter st ks s0 (M + 1) := by
  have hM := (end_iter hd (Nat.le_refl M)).1
  rcases Nat.le_total d (M + 1) with z | z
  · obtain ⟨n, hn⟩ := Nat.exists_eq_add_of_le z
    rw [hn]
    exact (stop_iter h n).symm
  · obtain ⟨n, hn⟩ := Nat.exists_eq_add_of_le z
    rw [hn]
    exact stop_iter hM n
theorem runs_on (hd : Deep st ks s0 M) {d : Nat} (h : (bIter st ks s0 d).fresh ≠ []) : d ≤ M := by
  rcases Nat.lt_or_ge M d with z | z
  · exfalso
    obtain ⟨n, hn⟩ := Nat.exists_eq_add_of_le (show M + 1 ≤ d from z)
    refine h ?_
    rw [hn, stop_iter (end_iter hd (Nat.le_refl M)).1 n]
    exact (end_iter hd (Nat.le_refl M)).1
  · exact z
end
theorem sub_len {α : Type} [DecidableEq α] : ∀ {l u : List α}, l.Nodup → (∀ x ∈ l, x ∈ u) → l.length ≤ u.length
  | [], _, _, _ => Nat.zero_le _
  | x :: l, u, nd, h => by
    rw [List.nodup_cons] at nd
    have hx := h x (List.mem_cons_self ..)
    have ih := sub_len (l := l) (u := u.erase x) nd.2 fun y hy => (List.mem_erase_of_ne (fun (z : y = x) => nd.1 (by rw [← z]; exact hy))).mpr (h y (List.mem_cons_of_mem _ hy))
    rw [List.length_erase_of_mem hx] at ih
    have hp := List.length_pos_of_mem hx
    rw [List.length_cons]
    omega
theorem len_fm {α β : Type} {f : α → List β} {n : Nat} : ∀ {l : List α}, (∀ x ∈ l, (f x).length = n) → (l.flatMap f).length = l.length * n
  | [], _ => by simp
  | x :: l, h => by
    rw [List.flatMap_cons, List.length_append, h x (List.mem_cons_self ..), len_fm fun y hy => h y (List.mem_cons_of_mem _ hy), List.length_cons, Nat.succ_mul, Nat.add_comm]

/-! ### few keys are enough -/
section
variable {w : Way} {ws : List Str}
theorem press_pu {t b : Str} {q : Int} {o : List Str} {p p' k : Str} : mPress w ⟨t, b, q, o, p⟩ k = mPress w ⟨t, b, q, o, p'⟩ k := rfl
/-- the forms of a state -/
def FA (s : Sta) : Prop := s.bg = "" ∧ s.qu = 0
def FB (w : Way) (s : Sta) : Prop := s.bg = "" ∧ s.qu = 1 ∧ s.tx ≠ "" ∧ s.tx.length ≤ 3 ∧ w.bk ≠ "letter"
def cyc (f : List Str) : Nat → Str → Str
  | 0, t => t
  | n + 1, t => mBeh (cyc f n t) f
def off0 (w : Way) (t : Str) (o : List Str) : Str := mOff w ⟨t, "", 0, o, ""⟩
def FC (w : Way) (s : Sta) : Prop := s.bg ≠ "" ∧ s.qu = 1 ∧ off0 w s.bg s.od ≠ "" ∧ ∃ n, (n = 0 ∨ w.ag = "next") ∧ s.tx = cyc (mFit s.bg s.od) n (s.bg ++ off0 w s.bg s.od)
def Fm (w : Way) (s : Sta) : Prop := (s.pu = "" ∨ (s.tx = "" ∧ s.bg = "" ∧ s.qu = 0)) ∧ (FA s ∨ FB w s ∨ FC w s)
theorem off_q {s : Sta} (h : s.qu = 1) : mOff w s = "" := by
  unfold mOff
  rw [if_pos (by rw [h]; rfl)]
theorem off_z {s : Sta} (h : s.qu = 0) : mOff w s = off0 w s.tx s.od := by
  obtain ⟨t, b, q, o, p⟩ := s
  have h : q = 0 := h
  subst h
  rfl
theorem off_short {t : Str} {o : List Str} (ho : ∀ x ∈ o, x.length ≤ 3) (h : off0 w t o ≠ "") : t.length ≤ 2 ∧ t.length + (off0 w t o).length ≤ 3 := by
  obtain ⟨_, x, hx, hp⟩ := mOff_pre (w := w) (s := ⟨t, "", 0, o, ""⟩) h
  have h1 := hp.length_le
  have h2 := ho x (mFit_sub hx)
  have h3 : (mOff w ⟨t, "", 0, o, ""⟩).length ≠ 0 := fun z => h (str_nil z)
  rw [← len_L, ← len_L, len_add] at h1
  have h1 : t.length + (off0 w t o).length ≤ x.length := h1
  have h3 : (off0 w t o).length ≠ 0 := h3
  omega
theorem off_long {t : Str} {o : List Str} (hs : 1 ≤ w.si) (h : off0 w t o ≠ "") : t ≠ "" := fun z => by
  subst z
  refine h ?_
  unfold off0 mOff
  rw [if_pos]
  rw [Bool.or_eq_true]
  exact .inr (decide_eq_true (show ((0 : Nat) : Int) < w.si by omega))
theorem not_let {k : Str} (h : ¬ letS.contains k = true) : k ≠ "a" ∧ k ≠ "b" := ⟨fun z => h (by rw [z]; decide), fun z => h (by rw [z]; decide)⟩
theorem fm_press (hs : 1 ≤ w.si) {s : Sta} (v : Lv w ws s) (f : Fm w s) (k : Str) : Fm w (mPress w s k) := by
  obtain ⟨fp, fs⟩ := f
  have ho3 := v.ok.od
  unfold mPress
  split
  · unfold mLet
    split
    · rename_i h4
      refine ⟨.inl rfl, ?_⟩
      rcases fs with ⟨a, b⟩ | ⟨a, b, c, d, e⟩ | ⟨a, b, c, n, d, e⟩
      · exact .inl ⟨a, b⟩
      · omega
      · exact .inr (.inr ⟨a, b, c, n, d, e⟩)
    · exact ⟨.inl rfl, .inl ⟨rfl, rfl⟩⟩
  split
  · unfold mTab
    split
    · rename_i hne
      have hq : s.qu = 0 := by
        rcases fs with ⟨a, b⟩ | ⟨a, b, c, d, e⟩ | ⟨a, b, c, n, d, e⟩
        · exact b
        · exact absurd (off_q b) hne
        · exact absurd (off_q b) hne
      rw [off_z hq] at hne ⊢
      exact ⟨.inl rfl, .inr (.inr ⟨off_long hs hne, rfl, hne, 0, .inl rfl, rfl⟩)⟩
    · refine ⟨.inl rfl, ?_⟩
      split
      · rename_i hc
        rw [Bool.and_eq_true, Bool.not_eq_true', decide_eq_false_iff_not, decide_eq_true_eq] at hc
        rcases fs with ⟨a, b⟩ | ⟨a, b, c, d, e⟩ | ⟨a, b, c, n, d, e⟩
        · exact absurd a hc.2
        · exact absurd a hc.2
        · refine .inr (.inr ⟨a, b, c, n + 1, .inr hc.1, ?_⟩)
          show mBeh s.tx (mFit s.bg s.od) = mBeh (cyc _ n _) _
          rw [← e]
      · rcases fs with ⟨a, b⟩ | ⟨a, b, c, d, e⟩ | ⟨a, b, c, n, d, e⟩
        · exact .inl ⟨a, b⟩
        · exact .inr (.inl ⟨a, b, c, d, e⟩)
        · exact .inr (.inr ⟨a, b, c, n, d, e⟩)
  split
  · unfold mBack
    refine ⟨.inl rfl, ?_⟩
    by_cases hc : (decide (w.bk = "letter") || decide (mBackText w s = "")) = true
    · exact .inl ⟨rfl, if_pos hc⟩
    · refine .inr (.inl ⟨rfl, if_neg hc, ?_⟩)
      rw [Bool.or_eq_true, not_or, decide_eq_true_eq, decide_eq_true_eq] at hc
      refine ⟨hc.2, ?_, hc.1⟩
      show (mBackText w s).length ≤ 3
      unfold mBackText
      split
      · rw [len_cutTo]
        have := v.ok.tx
        omega
      · rename_i hz
        rw [Bool.or_eq_true, not_or, decide_eq_true_eq] at hz
        obtain ⟨_, x, hx, hp⟩ := mOff_pre hz.2
        have h1 := hp.length_le
        have h2 := ho3 x (mFit_sub hx)
        rw [← len_L, ← len_L, len_add] at h1
        omega
  · exact ⟨.inr ⟨rfl, rfl, rfl⟩, .inl ⟨rfl, rfl⟩⟩
/-! rows that lead there -/
def Hm (o : List Str) (p : Str) : Sta := ⟨"", "", 0, o, p⟩
theorem key_a : keysS.contains "a" = true := by decide
theorem key_b : keysS.contains "b" = true := by decide
theorem sgn_key {x c : Str} (h : Lt x) (hc : c ∈ sgns x) : letS.contains c = true ∧ c.length = 1 := by
  unfold sgns at hc
  obtain ⟨n, hn, rfl⟩ := List.mem_map.mp hc
  rcases h n hn with rfl | rfl <;> exact ⟨by decide, rfl⟩
theorem let_key {c : Str} (h : letS.contains c = true) : keysS.contains c = true := by
  have : ∀ c ∈ letS, keysS.contains c = true := by decide
  exact this c (List.contains_iff_mem.mp h)
theorem press_let {t b : Str} {q : Int} {o : List Str} {p c : Str} (hc : letS.contains c = true) (ht : t.length ≤ 3) : mPress w ⟨t, b, q, o, p⟩ c = ⟨t ++ c, "", 0, o, ""⟩ := by
  unfold mPress
  rw [if_pos hc]
  unfold mLet
  rw [if_neg]
  show ¬ t.length = 4
  omega
theorem typ_all {o : List Str} : ∀ (l : List Str) (t b : Str) (q : Int) (p : Str), (∀ c ∈ l, letS.contains c = true ∧ c.length = 1) → l ≠ [] → t.length + l.length ≤ 4 → ∃ x : Str, L x = L t ++ l.flatMap L ∧ l.foldl (mPress w) ⟨t, b, q, o, p⟩ = ⟨x, "", 0, o, ""⟩
  | [], _, _, _, _, _, h, _ => absurd rfl h
  | c :: l, t, b, q, p, hl, _, hn => by
    rw [List.length_cons] at hn
    obtain ⟨h1, h2⟩ := hl c (List.mem_cons_self ..)
    rw [List.foldl_cons, press_let h1 (by omega)]
    cases l with
    | nil => exact ⟨t ++ c, by rw [L_add]; simp, rfl⟩
    | cons d l =>
      obtain ⟨x, e1, e2⟩ := typ_all (d :: l) (t ++ c) "" 0 "" (fun z hz => hl z (List.mem_cons_of_mem _ hz)) (by simp) (by rw [len_add, h2]; omega)
      exact ⟨x, by rw [e1, L_add, List.flatMap_cons (x := c), List.append_assoc], e2⟩
theorem sgns_flat (x : Str) : (sgns x).flatMap L = L x := by
  unfold sgns
  show (((L x).map fun c => (⟨#[c]⟩ : Str)).flatMap L) = L x
  generalize L x = l
  induction l with
  | nil => rfl
  | cons c l ih => rw [List.map_cons, List.flatMap_cons, ih]; rfl
theorem sgns_len (x : Str) : (sgns x).length = x.length := by
  unfold sgns
  rw [List.length_map, len_L]
theorem typ {x : Str} {o : List Str} {b : Str} {q : Int} {p : Str} (h : Lt x) (hne : x ≠ "") (hl : x.length ≤ 4) : (sgns x).foldl (mPress w) ⟨"", b, q, o, p⟩ = ⟨x, "", 0, o, ""⟩ := by
  obtain ⟨y, e1, e2⟩ := typ_all (w := w) (o := o) (sgns x) "" b q p (fun c hc => sgn_key h hc) (fun z => hne (str_nil (by rw [← sgns_len, z]; rfl))) (by rw [sgns_len]; show 0 + _ ≤ 4; omega)
  rw [e2]
  rw [sgns_flat, L_empty, List.nil_append] at e1
  rw [L_inj e1]
theorem press_back {s : Sta} : mPress w s "back" = mBack w s := by
  unfold mPress
  rw [if_neg (by decide), if_neg (by decide), if_pos rfl]
theorem press_tab {s : Sta} : mPress w s "tab" = mTab w s := by
  unfold mPress
  rw [if_neg (by decide), if_pos rfl]
theorem cut_snoc {x : Str} : cutS (x ++ "a") none (some (-1)) = x := L_inj (by
  rw [L_cutTo, L_add]
  show (L x ++ [97]).dropLast = _
  rw [List.dropLast_concat])
/-- cyc comes round -/
theorem beh_at {f : List Str} (nd : f.Nodup) {i : Nat} (hi : i < f.length) : mBeh f[i] f = f[(i + 1) % f.length]'(Nat.mod_lt _ (by omega)) := by
  have hidx : f.idxOf f[i] = i := List.Nodup.idxOf_getElem nd i hi
  have hne : f ≠ [] := fun z => by rw [z] at hi; exact absurd hi (Nat.not_lt_zero _)
  have hlast : f.getLastD "" = f[f.length - 1]'(by omega) := by
    rw [List.getLastD_eq_getLast?, List.getLast?_eq_getElem?, List.getElem?_eq_getElem (by omega)]
    rfl
  unfold mBeh
  rw [List.contains_iff_mem.mpr (List.getElem_mem hi), Bool.not_true, Bool.false_or, hlast, hidx]
  by_cases h : i + 1 = f.length
  · have e : f[i] = f[f.length - 1]'(by omega) := by
      congr 1
      omega
    rw [if_pos (decide_eq_true e)]
    have e2 : (i + 1) % f.length = 0 := by rw [h, Nat.mod_self]
    simp only [e2]
    cases f with
    | nil => exact absurd rfl hne
    | cons a r => rfl
  · have hne2 : f[i] ≠ f[f.length - 1]'(by omega) := fun z => by
      have := (List.getElem_inj nd).mp z
      omega
    rw [if_neg (fun z => hne2 (of_decide_eq_true z))]
    have e2 : (i + 1) % f.length = i + 1 := Nat.mod_eq_of_lt (by omega)
    simp only [e2]
    rw [List.getD_eq_getElem?_getD, List.getElem?_eq_getElem (by omega)]
    rfl
theorem cyc_mem {f : List Str} (hf : f ≠ []) {t : Str} (n : Nat) : cyc f (n + 1) t ∈ f := mBeh_mem hf
theorem cyc_ix {f : List Str} (nd : f.Nodup) {t : Str} {j : Nat} (hj : j < f.length) (h1 : cyc f 1 t = f[j]) : ∀ n, cyc f (n + 1) t = f[(j + n) % f.length]'(Nat.mod_lt _ (by omega))
  | 0 => by
    have e : (j + 0) % f.length = j := Nat.mod_eq_of_lt hj
    simp only [e]
    exact h1
  | n + 1 => by
    show mBeh (cyc f (n + 1) t) f = _
    rw [cyc_ix nd hj h1 n, beh_at nd (Nat.mod_lt _ (by omega))]
    have e : ((j + n) % f.length + 1) % f.length = (j + (n + 1)) % f.length := by rw [Nat.mod_add_mod, Nat.add_assoc]
    simp only [e]
theorem cyc_few {f : List Str} (nd : f.Nodup) (hf : f ≠ []) (t : Str) (n : Nat) : ∃ m, m ≤ f.length ∧ cyc f m t = cyc f n t ∧ (n = 0 → m = 0) := by
  cases n with
  | zero => exact ⟨0, Nat.zero_le _, rfl, fun _ => rfl⟩
  | succ n =>
    obtain ⟨j, hj, e⟩ := List.getElem_of_mem (cyc_mem hf (t := t) 0)
    have hpos : 0 < f.length := List.length_pos_iff.mpr hf
    refine ⟨n % f.length + 1, Nat.mod_lt _ hpos, ?_, fun z => by cases z⟩
    rw [cyc_ix nd hj e.symm, cyc_ix nd hj e.symm]
    have e2 : (j + n % f.length) % f.length = (j + n) % f.length := Nat.add_mod_mod ..
    simp only [e2]
theorem tab_all {b t : Str} {o : List Str} (hb : b ≠ "") (hn : w.ag = "next") : ∀ m, (List.replicate m ("tab" : Str)).foldl (mPress w) ⟨t, b, 1, o, ""⟩ = ⟨cyc (mFit b o) m t, b, 1, o, ""⟩
  | 0 => rfl
  | m + 1 => by
    rw [List.replicate_succ', List.foldl_append, tab_all hb hn m]
    rw [List.foldl_cons, List.foldl_nil, press_tab]
    unfold mTab
    rw [if_neg (fun z => z (off_q rfl)), if_pos (by rw [hn]; simp [hb])]
    rfl
/-- a state, but home, by at most five keys -/
theorem five (hs : 1 ≤ w.si) (hn : ws.Nodup) (hl : ws.length ≤ 3) {s : Sta} (v : Lv w ws s) (f : Fm w s) : (s.tx = "" ∧ s.bg = "" ∧ s.qu = 0) ∨ ∃ r : List Str, (∀ k ∈ r, k ∈ keysS) ∧ r.length ≤ 5 ∧ ∀ p, r.foldl (mPress w) (Hm s.od p) = s := by
  obtain ⟨fp, fs⟩ := f
  have ho3 := v.ok.od
  have kS : ∀ {x : Str}, Lt x → ∀ k ∈ sgns x, k ∈ keysS := fun h k hk => List.contains_iff_mem.mp (let_key (sgn_key h hk).1)
  rcases fs with ⟨a, b⟩ | ⟨a, b, c, d, e⟩ | ⟨a, b, c, n, d, e⟩
  · by_cases ht : s.tx = ""
    · exact .inl ⟨ht, a, b⟩
    · right
      have hp : s.pu = "" := fp.elim id fun z => absurd z.1 ht
      refine ⟨sgns s.tx, kS v.tx, by rw [sgns_len]; have := v.ok.tx; omega, fun p => ?_⟩
      show (sgns s.tx).foldl (mPress w) ⟨"", "", 0, s.od, p⟩ = s
      rw [typ v.tx ht v.ok.tx]
      obtain ⟨t, bg, q, o, pu⟩ := s
      simp only at a b hp
      subst a b hp
      rfl
  · right
    have hp : s.pu = "" := fp.elim id fun z => absurd z.1 c
    have hlt : Lt (s.tx ++ "a") := v.tx.add (by decide)
    have hne : s.tx ++ "a" ≠ "" := fun z => by
      have := congrArg Str.length z
      rw [len_add] at this
      exact absurd this (by show ¬ s.tx.length + 1 = 0; omega)
    have hlen : (s.tx ++ "a").length = s.tx.length + 1 := len_add _ _
    have fin : ∀ q, mBack w ⟨s.tx ++ "a", "", q, s.od, ""⟩ = if (!decide (w.bk = "offer") || decide (mOff w ⟨s.tx ++ "a", "", q, s.od, ""⟩ = "")) = true then s else ⟨s.tx ++ "a", "", 1, s.od, ""⟩ := fun q => by
      unfold mBack mBackText
      by_cases hc : (!decide (w.bk = "offer") || decide (mOff w ⟨s.tx ++ "a", "", q, s.od, ""⟩ = "")) = true
      · rw [if_pos hc, if_pos hc]
        simp only [cut_snoc]
        rw [if_neg (by simp [e, c])]
        obtain ⟨t, bg, q', o, pu⟩ := s
        simp only at a b hp
        subst a b hp
        rfl
      · rw [if_neg hc, if_neg hc]
        rw [if_neg (by simp [e, hne])]
    have fin0 : mBack w ⟨s.tx ++ "a", "", 0, s.od, ""⟩ = if (!decide (w.bk = "offer") || decide (off0 w (s.tx ++ "a") s.od = "")) = true then s else ⟨s.tx ++ "a", "", 1, s.od, ""⟩ := fin 0
    by_cases hc : (!decide (w.bk = "offer") || decide (off0 w (s.tx ++ "a") s.od = "")) = true
    · refine ⟨sgns (s.tx ++ "a") ++ [("back" : Str)], fun k hk => ?_, by rw [List.length_append, sgns_len, hlen]; show _ + 1 + 1 ≤ 5; omega, fun p => ?_⟩
      · rcases List.mem_append.mp hk with z | z
        · exact kS hlt k z
        · rw [List.mem_singleton.mp z]; decide
      · rw [List.foldl_append]
        unfold Hm
        rw [typ hlt hne (by omega)]
        show mPress w _ "back" = s
        rw [press_back, fin0, if_pos hc]
    · have hz := hc
      rw [Bool.or_eq_true, not_or, decide_eq_true_eq] at hz
      have hsh := (off_short ho3 hz.2).1
      refine ⟨sgns (s.tx ++ "a") ++ ([("back" : Str), "back"] : List Str), fun k hk => ?_, by rw [List.length_append, sgns_len, hlen]; show _ + 1 + 2 ≤ 5; omega, fun p => ?_⟩
      · rcases List.mem_append.mp hk with z | z
        · exact kS hlt k z
        · have : ∀ k ∈ (["back", "back"] : List Str), k ∈ keysS := by decide
          exact this k z
      · rw [List.foldl_append]
        unfold Hm
        rw [typ hlt hne (by omega)]
        show mPress w (mPress w _ "back") "back" = s
        rw [press_back, press_back, fin0, if_neg hc, fin 1, if_pos (by rw [off_q rfl]; simp)]
  · right
    have hp : s.pu = "" := fp.elim id fun z => absurd z.2.1 a
    obtain ⟨h2, h3⟩ := off_short ho3 c
    have hf : mFit s.bg s.od ≠ [] := v.ok.bg a
    have hnd : s.od.Nodup := v.pm.nodup_iff.mpr hn
    have hfn : (mFit s.bg s.od).Nodup := hnd.sublist List.filter_sublist
    have hfl : (mFit s.bg s.od).length ≤ 3 := Nat.le_trans mFit_len (by rw [v.pm.length_eq]; exact hl)
    obtain ⟨m, hm, em, m0⟩ := cyc_few hfn hf (s.bg ++ off0 w s.bg s.od) n
    have hb1 : s.bg.length ≠ 0 := fun z => a (str_nil z)
    have hsum : s.bg.length + m ≤ 4 := by
      by_cases hb2 : s.bg.length = 2
      · have : (mFit s.bg s.od).length ≤ ([s.bg ++ "a", s.bg ++ "b"] : List Str).length := sub_len hfn fun x hx => by
          have hx1 := List.mem_filter.mp hx
          have hx2 := hx1.2
          rw [Bool.and_eq_true, decide_eq_true_eq] at hx2
          have hx3 := ho3 x hx1.1
          obtain ⟨r, hr⟩ := (sw_iff _ _).mp hx2.1
          have hlx : (L x).length = 3 := by rw [← len_L]; omega
          rw [← hr, List.length_append, ← len_L] at hlx
          have hrl : r.length = 1 := by omega
          cases r with
          | nil => cases hrl
          | cons c0 r =>
            have : r = [] := List.eq_nil_of_length_eq_zero (by rw [List.length_cons] at hrl; omega)
            subst this
            have hc0 := v.od x hx1.1 c0 (by rw [← hr]; exact List.mem_append_right _ (List.mem_singleton.mpr rfl))
            rcases hc0 with rfl | rfl
            · rw [List.mem_cons]; exact .inl (L_inj (by rw [L_add, ← hr]; rfl))
            · rw [List.mem_cons, List.mem_singleton]; exact .inr (L_inj (by rw [L_add, ← hr]; rfl))
        have : (mFit s.bg s.od).length ≤ 2 := this
        omega
      · omega
    refine ⟨sgns s.bg ++ (("tab" : Str) :: List.replicate m ("tab" : Str)), fun k hk => ?_, by rw [List.length_append, sgns_len, List.length_cons, List.length_replicate]; omega, fun p => ?_⟩
    · rcases List.mem_append.mp hk with z | z
      · exact kS v.bg k z
      · rcases List.mem_cons.mp z with rfl | z
        · decide
        · rw [List.eq_of_mem_replicate z]; decide
    · rw [List.foldl_append, List.foldl_cons]
      unfold Hm
      rw [typ v.bg a (by omega), press_tab]
      have et : mTab w ⟨s.bg, "", 0, s.od, ""⟩ = ⟨s.bg ++ off0 w s.bg s.od, s.bg, 1, s.od, ""⟩ := by
        unfold mTab
        rw [if_pos (show mOff w ⟨s.bg, "", 0, s.od, ""⟩ ≠ "" from c)]
        rfl
      rw [et]
      have es : s = ⟨cyc (mFit s.bg s.od) n (s.bg ++ off0 w s.bg s.od), s.bg, 1, s.od, ""⟩ := by
        obtain ⟨t, bg, q', o, pu⟩ := s
        simp only at b hp e
        subst b hp
        rw [← e]
      rcases d with d | d
      · rw [m0 d]
        show _ = s
        rw [d] at es
        exact es.symm
      · rw [tab_all a d m, em]
        exact es.symm
/-! the orders -/
def pmI {α : Type} (x : α) : List α → List (List α)
  | [] => [[x]]
  | y :: l => (x :: y :: l) :: (pmI x l).map (y :: ·)
def pmA {α : Type} : List α → List (List α)
  | [] => [[]]
  | x :: l => (pmA l).flatMap (pmI x)
theorem pmI_len {α : Type} {x : α} : ∀ l : List α, (pmI x l).length = l.length + 1
  | [] => rfl
  | y :: l => by
    show ((pmI x l).map (y :: ·)).length + 1 = _
    rw [List.length_map, pmI_len l]
    rfl
theorem pmI_mem {α : Type} {x : α} : ∀ l1 l2 : List α, l1 ++ x :: l2 ∈ pmI x (l1 ++ l2)
  | [], [] => List.mem_singleton.mpr rfl
  | [], y :: l2 => List.mem_cons_self ..
  | y :: l1, l2 => List.mem_cons_of_mem _ (List.mem_map.mpr ⟨_, pmI_mem l1 l2, rfl⟩)
theorem pmI_each {α : Type} {x : α} : ∀ (l z : List α), z ∈ pmI x l → z.length = l.length + 1
  | [], z, h => by rw [List.mem_singleton.mp h]; rfl
  | y :: l, z, h => by
    rcases List.mem_cons.mp h with rfl | h
    · rfl
    · obtain ⟨u, hu, rfl⟩ := List.mem_map.mp h
      rw [List.length_cons, pmI_each l u hu]
      rfl
theorem pmA_each {α : Type} : ∀ (l z : List α), z ∈ pmA l → z.length = l.length
  | [], z, h => by rw [List.mem_singleton.mp h]
  | x :: l, z, h => by
    obtain ⟨u, hu, hz⟩ := List.mem_flatMap.mp h
    rw [pmI_each u z hz, pmA_each l u hu]
    rfl
theorem pmA_mem {α : Type} : ∀ {l o : List α}, o.Perm l → o ∈ pmA l
  | [], o, h => by rw [h.eq_nil]; exact List.mem_singleton.mpr rfl
  | x :: l, o, h => by
    obtain ⟨l1, l2, rfl⟩ := List.append_of_mem (h.mem_iff.mpr (List.mem_cons_self ..))
    have h2 : (l1 ++ l2).Perm l := (List.perm_middle.symm.trans h).cons_inv
    exact List.mem_flatMap.mpr ⟨_, pmA_mem h2, pmI_mem l1 l2⟩
theorem pmA_len {α : Type} {l : List α} (h : l.length ≤ 3) : (pmA l).length ≤ 6 := by
  have st : ∀ (x : α) (l : List α), (pmA (x :: l)).length = (pmA l).length * (l.length + 1) := fun x l => len_fm fun u hu => by rw [pmI_len, pmA_each l u hu]
  rcases l with _ | ⟨a, _ | ⟨b, _ | ⟨c, _ | ⟨d, r⟩⟩⟩⟩
  · show 1 ≤ 6
    omega
  · rw [st]
    show 1 * 1 ≤ 6
    omega
  · rw [st, st]
    show 1 * 1 * 2 ≤ 6
    omega
  · rw [st, st, st]
    show 1 * 1 * 2 * 3 ≤ 6
    omega
  · simp only [List.length_cons] at h; omega
/-! paths -/
def Pth {β : Type} (E : β → β → Prop) (b0 : β) (n : Nat) (b : β) : Prop := ∃ p : Nat → β, p 0 = b0 ∧ p n = b ∧ ∀ i, i < n → E (p i) (p (i + 1))
theorem pth_short {β : Type} [DecidableEq β] {E : β → β → Prop} {b0 : β} {u : List β} (hu : ∀ n b, Pth E b0 n b → b ∈ u) : ∀ (n : Nat) (b : β), Pth E b0 n b → ∃ m, m < u.length ∧ Pth E b0 m b := by
  intro n
  induction n using Nat.strongRecOn with
  | _ n ih =>
    intro b ⟨p, p0, pn, pe⟩
    by_cases hn : n < u.length
    · exact ⟨n, hn, p, p0, pn, pe⟩
    by_cases nd : ((List.range (n + 1)).map p).Nodup
    · exfalso
      have := sub_len nd (u := u) fun x hx => by
        obtain ⟨i, hi, rfl⟩ := List.mem_map.mp hx
        have hi := List.mem_range.mp hi
        exact hu i _ ⟨p, p0, rfl, fun j hj => pe j (by omega)⟩
      rw [List.length_map, List.length_range] at this
      omega
    · have : ∃ i j, i < j ∧ j ≤ n ∧ p i = p j := by
        apply Classical.byContradiction
        intro hno
        refine nd ?_
        rw [List.nodup_iff_pairwise_ne, List.pairwise_map]
        refine List.pairwise_iff_getElem.mpr fun i j hi hj hij => ?_
        rw [List.getElem_range, List.getElem_range]
        rw [List.length_range] at hj
        exact fun z => hno ⟨i, j, hij, by omega, z⟩
      obtain ⟨i, j, hij, hj, e⟩ := this
      refine ih (n - (j - i)) (by omega) b ⟨fun k => if k ≤ i then p k else p (k + (j - i)), ?_, ?_, fun k hk => ?_⟩
      · show (if 0 ≤ i then p 0 else _) = b0
        rw [if_pos (Nat.zero_le _), p0]
      · show (if n - (j - i) ≤ i then p (n - (j - i)) else p (n - (j - i) + (j - i))) = b
        by_cases h : n - (j - i) ≤ i
        · have e1 : j = n := by omega
          rw [if_pos h, show n - (j - i) = i by omega, e, e1, pn]
        · rw [if_neg h, show n - (j - i) + (j - i) = n by omega, pn]
      · show E (if k ≤ i then p k else p (k + (j - i))) (if k + 1 ≤ i then p (k + 1) else p (k + 1 + (j - i)))
        by_cases h1 : k + 1 ≤ i
        · rw [if_pos h1, if_pos (by omega)]
          exact pe k (by omega)
        · rw [if_neg h1]
          by_cases h2 : k ≤ i
          · have e1 : k = i := by omega
            rw [if_pos h2, e1, e, show i + 1 + (j - i) = j + 1 by omega]
            exact pe j (by omega)
          · rw [if_neg h2, show k + 1 + (j - i) = k + (j - i) + 1 by omega]
            exact pe _ (by omega)
theorem pth_snoc {β : Type} {E : β → β → Prop} {b0 b c : β} {n : Nat} (h : Pth E b0 n b) (e : E b c) : Pth E b0 (n + 1) c := by
  obtain ⟨p, p0, pn, pe⟩ := h
  refine ⟨fun k => if k ≤ n then p k else c, ?_, ?_, fun k hk => ?_⟩
  · show (if 0 ≤ n then p 0 else c) = b0
    rw [if_pos (Nat.zero_le _), p0]
  · show (if n + 1 ≤ n then _ else c) = c
    rw [if_neg (by omega)]
  · show E (if k ≤ n then p k else c) (if k + 1 ≤ n then p (k + 1) else c)
    rw [if_pos (by omega)]
    by_cases h1 : k + 1 ≤ n
    · rw [if_pos h1]; exact pe k (by omega)
    · rw [if_neg h1, show k = n by omega, pn]; exact e
/-- from one order to another one by putting in -/
def OE (w : Way) (ws : List Str) (o o' : List Str) : Prop := ∃ (p : Sta) (k : Str), Lv w ws p ∧ Fm w p ∧ k ∈ keysS ∧ p.od = o ∧ ∃ q, mPress w p k = Hm o' q
def isPut (k : Str) : Prop := ¬ letS.contains k = true ∧ k ≠ "tab" ∧ k ≠ "back"
theorem press_put {s : Sta} {k : Str} (h : isPut k) : mPress w s k = mPut w s k := by
  unfold mPress
  rw [if_neg h.1, if_neg h.2.1, if_neg h.2.2]
theorem press_od {s : Sta} {k : Str} (h : ¬ isPut k) : (mPress w s k).od = s.od ∧ (mPress w s k).pu = "" := by
  unfold mPress
  split
  · unfold mLet
    split <;> exact ⟨rfl, rfl⟩
  split
  · unfold mTab
    split <;> exact ⟨rfl, rfl⟩
  split
  · exact ⟨rfl, rfl⟩
  · rename_i h1 h2 h3
    exact absurd ⟨h1, h2, h3⟩ h
theorem where_to (hs : 1 ≤ w.si) (hn : ws.Nodup) (v0 : Lv w ws (mInit ws)) : ∀ n (r : List Str), r.length = n → (∀ k ∈ r, k ∈ keysS) → Lv w ws (bWalk (mPress w) (mInit ws) r) ∧ Fm w (bWalk (mPress w) (mInit ws) r) ∧ (∃ n, Pth (OE w ws) ws n (bWalk (mPress w) (mInit ws) r).od) ∧
    ((bWalk (mPress w) (mInit ws) r).pu ≠ "" → ∃ p k n, Lv w ws p ∧ Fm w p ∧ k ∈ keysS ∧ Pth (OE w ws) ws n p.od ∧ mPress w p k = bWalk (mPress w) (mInit ws) r) := by
  intro n
  induction n with
  | zero =>
    intro r hr _
    rw [List.eq_nil_of_length_eq_zero hr]
    exact ⟨v0, ⟨.inl rfl, .inl ⟨rfl, rfl⟩⟩, ⟨0, fun _ => ws, rfl, rfl, fun i hi => absurd hi (Nat.not_lt_zero _)⟩, fun z => absurd rfl z⟩
  | succ n ih =>
    intro r hr hk
    rcases List.eq_nil_or_concat r with rfl | ⟨r', k, rfl⟩
    · cases hr
    rw [List.concat_eq_append] at hr hk ⊢
    rw [List.length_append] at hr
    have hr' : r'.length = n := Nat.succ.inj hr
    obtain ⟨v, f, ⟨m, pt⟩, _⟩ := ih r' hr' fun k' hk' => hk k' (List.mem_append_left _ hk')
    have hkk : k ∈ keysS := hk k (List.mem_append_right _ (List.mem_singleton.mpr rfl))
    rw [bWalk_snoc]
    have v' := lv_press hn v (List.contains_iff_mem.mpr hkk)
    refine ⟨v', fm_press hs v f k, ?_, fun _ => ⟨_, k, m, v, f, hkk, pt, rfl⟩⟩
    by_cases hp : isPut k
    · refine ⟨m + 1, pth_snoc pt ⟨_, k, v, f, hkk, rfl, (mPut w (bWalk (mPress w) (mInit ws) r') k).pu, ?_⟩⟩
      rw [press_put hp]
      rfl
    · rw [(press_od hp).1]
      exact ⟨m, pt⟩
/-- an order is come to by so many keys -/
theorem go_one (hs : 1 ≤ w.si) (hn : ws.Nodup) (hl : ws.length ≤ 3) {r : List Str} {o : List Str} {q : Str} (hr : ∀ k ∈ r, k ∈ keysS) (e : bWalk (mPress w) (mInit ws) r = Hm o q) {p : Sta} (v : Lv w ws p) (f : Fm w p) (ho : p.od = o) {k : Str} (hk : k ∈ keysS) : ∃ r' : List Str, (∀ k ∈ r', k ∈ keysS) ∧ r'.length ≤ r.length + 6 ∧ bWalk (mPress w) (mInit ws) r' = mPress w p k := by
  rcases five hs hn hl v f with ⟨a, b, c⟩ | ⟨r5, h1, h2, h3⟩
  · refine ⟨r ++ [k], fun k' hk' => ?_, by rw [List.length_append]; show _ + 1 ≤ _; omega, ?_⟩
    · rcases List.mem_append.mp hk' with z | z
      · exact hr k' z
      · rw [List.mem_singleton.mp z]; exact hk
    · rw [bWalk_snoc, e]
      obtain ⟨t, bg, q', o', pu⟩ := p
      simp only at a b c ho
      subst a b c ho
      exact press_pu
  · refine ⟨r ++ r5 ++ [k], fun k' hk' => ?_, by rw [List.length_append, List.length_append]; show _ + 1 ≤ _; omega, ?_⟩
    · rcases List.mem_append.mp hk' with z | z
      · rcases List.mem_append.mp z with z | z
        · exact hr k' z
        · exact h1 k' z
      · rw [List.mem_singleton.mp z]; exact hk
    · rw [bWalk_snoc]
      have : bWalk (mPress w) (mInit ws) (r ++ r5) = p := by
        unfold bWalk at e ⊢
        rw [List.foldl_append, e, ← ho]
        exact h3 q
      rw [this]
theorem go_path (hs : 1 ≤ w.si) (hn : ws.Nodup) (hl : ws.length ≤ 3) : ∀ (m : Nat) (o : List Str), Pth (OE w ws) ws m o → ∃ r : List Str, (∀ k ∈ r, k ∈ keysS) ∧ r.length ≤ 6 * m ∧ ∃ q, bWalk (mPress w) (mInit ws) r = Hm o q
  | 0, o, ⟨p, p0, pn, _⟩ => ⟨[], fun k hk => (by cases hk), Nat.le_refl _, "", by rw [← pn, p0]; rfl⟩
  | m + 1, o, ⟨p, p0, pn, pe⟩ => by
    obtain ⟨r, h1, h2, q, h3⟩ := go_path hs hn hl m (p m) ⟨p, p0, rfl, fun i hi => pe i (by omega)⟩
    obtain ⟨s, k, v, f, hk, ho, q', e⟩ := pe m (by omega)
    obtain ⟨r', a1, a2, a3⟩ := go_one hs hn hl h1 h3 v f ho hk
    exact ⟨r', a1, by omega, q', by rw [a3, e, pn]⟩
theorem deep40 (hs : 1 ≤ w.si) (hn : ws.Nodup) (hl : ws.length ≤ 3) (v0 : Lv w ws (mInit ws)) : Deep (mPress w) keysS (mInit ws) 40 := by
  have hperm : ∀ (n : Nat) (o : List Str), Pth (OE w ws) ws n o → o ∈ pmA ws := fun n o ⟨p, p0, pn, pe⟩ => by
    cases n with
    | zero => rw [← pn, p0]; exact pmA_mem (List.Perm.refl _)
    | succ n =>
      obtain ⟨s, k, v, f, hk, ho, q', e⟩ := pe n (by omega)
      have v' := lv_press hn v (List.contains_iff_mem.mpr hk)
      rw [e, pn] at v'
      exact pmA_mem v'.pm
  have near : ∀ (n : Nat) (o : List Str), Pth (OE w ws) ws n o → ∃ r : List Str, (∀ k ∈ r, k ∈ keysS) ∧ r.length ≤ 30 ∧ ∃ q, bWalk (mPress w) (mInit ws) r = Hm o q := fun n o h => by
    obtain ⟨m, hm, hp⟩ := pth_short hperm n o h
    obtain ⟨r, h1, h2, h3⟩ := go_path hs hn hl m o hp
    have := pmA_len hl
    exact ⟨r, h1, by omega, h3⟩
  intro r hr
  obtain ⟨v, f, ⟨n, pt⟩, hpu⟩ := where_to hs hn v0 r.length r rfl hr
  by_cases hp : (bWalk (mPress w) (mInit ws) r).pu = ""
  · obtain ⟨r0, h1, h2, q, h3⟩ := near n _ pt
    rcases five hs hn hl v f with ⟨a, b, c⟩ | ⟨r5, a1, a2, a3⟩
    · refine ⟨r0 ++ [("back" : Str)], fun k' hk' => ?_, by rw [List.length_append]; show _ + 1 ≤ _; omega, ?_⟩
      · rcases List.mem_append.mp hk' with z | z
        · exact h1 k' z
        · rw [List.mem_singleton.mp z]; decide
      · rw [bWalk_snoc, h3, press_back]
        have e1 : mBack w (Hm (bWalk (mPress w) (mInit ws) r).od q) = ⟨"", "", 0, (bWalk (mPress w) (mInit ws) r).od, ""⟩ := by
          unfold mBack
          have et : mBackText w (Hm (bWalk (mPress w) (mInit ws) r).od q) = "" := by
            unfold mBackText
            split
            · exact str_nil (by rw [len_cutTo]; rfl)
            · rfl
          rw [et, if_pos (by simp)]
          rfl
        rw [e1]
        generalize bWalk (mPress w) (mInit ws) r = s at *
        obtain ⟨t, bg, q', o', pu⟩ := s
        simp only at a b c hp
        subst a b c hp
        rfl
    · refine ⟨r0 ++ r5, fun k' hk' => ?_, by rw [List.length_append]; omega, ?_⟩
      · rcases List.mem_append.mp hk' with z | z
        · exact h1 k' z
        · exact a1 k' z
      · have := a3 q
        rw [← h3] at this
        rw [← this]
        unfold bWalk
        rw [List.foldl_append]
  · obtain ⟨p, k, n', v', f', hk, pt', e⟩ := hpu hp
    obtain ⟨r0, h1, h2, q, h3⟩ := near n' _ pt'
    obtain ⟨r', a1, a2, a3⟩ := go_one hs hn hl h1 h3 v' f' rfl hk
    exact ⟨r', a1, by omega, by rw [a3, e]⟩
end

/-! ### the states that rows lead to -/
def lsts : Nat → List (List Nat)
  | 0 => [[]]
  | n + 1 => (lsts n).flatMap fun l => [97 :: l, 98 :: l]
theorem lsts_mem : ∀ l : List Nat, (∀ c ∈ l, c = 97 ∨ c = 98) → l ∈ lsts l.length
  | [], _ => List.mem_singleton.mpr rfl
  | c :: l, h => by
    refine List.mem_flatMap.mpr ⟨l, lsts_mem l fun z hz => h z (List.mem_cons_of_mem _ hz), ?_⟩
    rcases h c (List.mem_cons_self ..) with rfl | rfl <;> simp
def T31 : List Str := (List.range 5).flatMap fun n => (lsts n).map fun l => (⟨l.toArray⟩ : Str)
theorem t31_len : T31.length = 31 := by decide +kernel
theorem t31_mem {x : Str} (h : Lt x) (hl : x.length ≤ 4) : x ∈ T31 := by
  refine List.mem_flatMap.mpr ⟨(L x).length, List.mem_range.mpr (by rw [← len_L]; omega), List.mem_map.mpr ⟨L x, lsts_mem _ h, ?_⟩⟩
  refine L_inj ?_
  simp [L]
def Uni (ws : List Str) : List Sta := T31.flatMap fun a => T31.flatMap fun b => ([0, 1] : List Int).flatMap fun q => (pmA ws).flatMap fun o => T31.map fun p => (⟨a, b, q, o, p⟩ : Sta)
theorem uni_len {ws : List Str} (h : ws.length ≤ 3) : (Uni ws).length ≤ 400000 := by
  have e : (Uni ws).length = 31 * (31 * (2 * ((pmA ws).length * 31))) := by
    unfold Uni
    rw [len_fm (n := 31 * (2 * ((pmA ws).length * 31))) fun a _ => ?_, t31_len]
    rw [len_fm (n := 2 * ((pmA ws).length * 31)) fun b _ => ?_, t31_len]
    rw [len_fm (n := (pmA ws).length * 31) fun q _ => ?_]
    · rfl
    rw [len_fm (n := 31) fun o _ => by rw [List.length_map, t31_len]]
  have := pmA_len h
  omega
theorem uni_mem {w : Way} {ws : List Str} {s : Sta} (v : Lv w ws s) (f : Fm w s) (hp : s.pu.length ≤ 4) : s ∈ Uni ws := by
  have hb : s.bg.length ≤ 4 := v.ok.bl
  have hq : s.qu = 0 ∨ s.qu = 1 := by
    rcases f.2 with ⟨_, b⟩ | ⟨_, b, _⟩ | ⟨_, b, _⟩
    · exact .inl b
    · exact .inr b
    · exact .inr b
  refine List.mem_flatMap.mpr ⟨s.tx, t31_mem v.tx v.ok.tx, List.mem_flatMap.mpr ⟨s.bg, t31_mem v.bg hb, List.mem_flatMap.mpr ⟨s.qu, by rcases hq with z | z <;> rw [z] <;> decide, List.mem_flatMap.mpr ⟨s.od, pmA_mem v.pm, List.mem_map.mpr ⟨s.pu, t31_mem v.pu hp, rfl⟩⟩⟩⟩⟩

theorem pu_press {w : Way} {s : Sta} (o : Ok s) (k : Str) : (mPress w s k).pu.length ≤ 4 := by
  have ho := mOff_len (w := w) o
  have ht := o.tx
  unfold mPress
  split
  · unfold mLet
    split <;> exact Nat.zero_le _
  split
  · unfold mTab
    split <;> exact Nat.zero_le _
  split
  · exact Nat.zero_le _
  · show (mPutText w s k).length ≤ 4
    unfold mPutText
    split
    · rw [len_add]; exact ho
    · exact ht
/-- what is known of a way and a list -/
structure WL (w : Way) (ws : List Str) : Prop where
  hw : mIsWay w = true
  hl : mIsList ws = true
  nd : ws.Nodup
  lt : ∀ x ∈ ws, Lt x
theorem WL.si {w : Way} {ws : List Str} (h : WL w ws) : 1 ≤ w.si := by
  have := h.hw
  unfold mIsWay at this
  simp only [Bool.and_eq_true] at this
  have h2 := List.contains_iff_mem.mp this.2.1
  rcases List.mem_cons.mp h2 with z | z
  · omega
  · have := List.mem_singleton.mp z
    omega
theorem WL.ok {w : Way} {ws : List Str} (h : WL w ws) : Ok (mInit ws) := okInit h.hl
theorem WL.l3 {w : Way} {ws : List Str} (h : WL w ws) : ws.length ≤ 3 := h.ok.ol
theorem WL.lv {w : Way} {ws : List Str} (h : WL w ws) : Lv w ws (mInit ws) := ⟨h.ok, Lt.nil, Lt.nil, Lt.nil, h.lt, List.Perm.refl _, fun _ => rfl, fun z => absurd rfl z⟩
theorem WL.dp {w : Way} {ws : List Str} (h : WL w ws) : Deep (mPress w) keysS (mInit ws) 40 := deep40 h.si h.nd h.l3 h.lv
abbrev bI (w : Way) (ws : List Str) (d : Nat) : Bf Sta := bIter (mPress w) keysS (mInit ws) d
def mReach (w : Way) (ws : List Str) : List (Sta × List Str) := (bI w ws 41).rows
abbrev bJs (w : Way) (ws : List Str) (d i : Nat) : Bf Sta := bSts (mPress w) keysS ⟨(bI w ws d).rows, []⟩ (bI w ws d).fresh i
abbrev bJa (w : Way) (ws : List Str) (d i : Nat) (s : Sta) (j : Nat) : Bf Sta := bAt (mPress w) keysS (bJs w ws d i) s j
/-- what a row leads to -/
theorem WL.at_walk {w : Way} {ws : List Str} (h : WL w ws) {r : List Str} (hr : ∀ k ∈ r, k ∈ keysS) : Lv w ws (bWalk (mPress w) (mInit ws) r) ∧ Fm w (bWalk (mPress w) (mInit ws) r) ∧ (bWalk (mPress w) (mInit ws) r).pu.length ≤ 4 := by
  obtain ⟨v, f, _, _⟩ := where_to h.si h.nd h.lv r.length r rfl hr
  refine ⟨v, f, ?_⟩
  rcases List.eq_nil_or_concat r with rfl | ⟨r', k, rfl⟩
  · exact Nat.zero_le _
  · rw [List.concat_eq_append] at hr ⊢
    rw [bWalk_snoc]
    exact pu_press (where_to h.si h.nd h.lv r'.length r' rfl fun k' hk' => hr k' (List.mem_append_left _ hk')).1.ok k
theorem WL.js {w : Way} {ws : List Str} (h : WL w ws) (d i : Nat) : BJ (mPress w) keysS (mInit ws) 40 d (bI w ws d) (bJs w ws d i) := (bj_sts h.dp (bi_iter h.dp d) i).1
theorem WL.ja {w : Way} {ws : List Str} (h : WL w ws) (d i : Nat) {s : Sta} (hs : s ∈ (bI w ws d).fresh) (j : Nat) : BJ (mPress w) keysS (mInit ws) 40 d (bI w ws d) (bJa w ws d i s j) := (bj_at h.dp (bi_iter h.dp d) (h.js d i) hs j).1
theorem WL.size {w : Way} {ws : List Str} (h : WL w ws) {d : Nat} {x b : Bf Sta} (j : BJ (mPress w) keysS (mInit ws) 40 d x b) : b.rows.length ≤ 400000 ∧ b.fresh.length ≤ 400000 := by
  have h1 : (b.rows.map (·.1)).length ≤ (Uni ws).length := sub_len j.nd fun s hs => by
    obtain ⟨y, hy, rfl⟩ := List.mem_map.mp hs
    obtain ⟨o1, _, _, o4⟩ := j.ok y hy
    obtain ⟨v, f, p⟩ := h.at_walk o1
    rw [o4] at v f p
    exact uni_mem v f p
  have h2 := uni_len h.l3
  rw [List.length_map] at h1
  obtain ⟨ext, e1, e2⟩ := j.ex
  have : b.fresh.length ≤ b.rows.length := by rw [e1, e2, List.length_map, List.length_append]; omega
  omega
theorem WL.isize {w : Way} {ws : List Str} (h : WL w ws) (d : Nat) : (bI w ws d).rows.length ≤ 400000 := by
  have := (h.size (h.js d 0)).1
  exact this
theorem WL.row {w : Way} {ws : List Str} (h : WL w ws) {d : Nat} {x b : Bf Sta} (j : BJ (mPress w) keysS (mInit ws) 40 d x b) {s : Sta} (hs : s ∈ b.rows.map (·.1)) : (rowOf b.rows s).length ≤ 40 := (j.ok _ (rowOf_mem hs)).2.2.1
theorem WL.fr {w : Way} {ws : List Str} (h : WL w ws) {d : Nat} {s : Sta} (hs : s ∈ (bI w ws d).fresh) : Lv w ws s := by
  have i := bi_iter h.dp d
  obtain ⟨y, hy, e⟩ := List.mem_map.mp (i.ly s hs)
  obtain ⟨o1, _, _, o4⟩ := i.ok y hy
  have := (h.at_walk o1).1
  rw [o4, e] at this
  exact this
theorem WL.in_lv {w : Way} {ws : List Str} (h : WL w ws) {s : Sta} (hs : s ∈ (mReach w ws).map (·.1)) : Lv w ws s ∧ Fm w s ∧ s.pu.length ≤ 4 := by
  obtain ⟨y, hy, e⟩ := List.mem_map.mp hs
  obtain ⟨o1, _, _, o4⟩ := (bi_iter h.dp 41).ok y hy
  have := h.at_walk o1
  rw [o4, e] at this
  exact this
/-! data -/
def kvR (rows : List (Sta × List Str)) : List (D × D) := rows.map fun x => (eS x.1, dL x.2)
theorem strs_inj {xs ys : List Str} (h : xs.map PyData.str = ys.map PyData.str) : xs = ys := List.map_inj_right (fun a b z => by injection z) |>.mp h
theorem eS_inj {s t : Sta} (h : eS s = eS t) : s = t := by
  obtain ⟨a, b, c, d, e⟩ := s
  obtain ⟨a', b', c', d', e'⟩ := t
  simp only [eS, dT, PyData.tuple.injEq, List.cons.injEq, PyData.str.injEq, PyData.int.injEq, and_true] at h
  obtain ⟨h1, h2, h3, h4, h5⟩ := h
  rw [h1, h2, h3, h5, strs_inj h4]
theorem kt_S (s : Sta) : KT (eS s) := by
  refine ⟨.tup 7 _ fun d hd => ?_, _, rfl⟩
  rcases List.mem_cons.mp hd with rfl | hd
  · exact .str _ _
  rcases List.mem_cons.mp hd with rfl | hd
  · exact .str _ _
  rcases List.mem_cons.mp hd with rfl | hd
  · exact .int _ _
  rcases List.mem_cons.mp hd with rfl | hd
  · refine .tup 6 _ fun d hd => ?_
    obtain ⟨x, _, rfl⟩ := List.mem_map.mp hd
    exact .str _ _
  rcases List.mem_cons.mp hd with rfl | hd
  · exact .str _ _
  cases hd
theorem kv_has {rows : List (Sta × List Str)} {s : Sta} : s ∈ rows.map (·.1) ↔ eS s ∈ (kvR rows).map (·.1) := by
  unfold kvR
  rw [List.map_map]
  constructor
  · intro h
    obtain ⟨y, hy, rfl⟩ := List.mem_map.mp h
    exact List.mem_map.mpr ⟨y, hy, rfl⟩
  · intro h
    obtain ⟨y, hy, e⟩ := List.mem_map.mp h
    exact List.mem_map.mpr ⟨y, hy, eS_inj e⟩
theorem kv_b {rows : List (Sta × List Str)} {s : Sta} : decide (s ∈ rows.map (·.1)) = true ↔ eS s ∈ (kvR rows).map (·.1) := by rw [decide_eq_true_eq]; exact kv_has
theorem kv_get {rows : List (Sta × List Str)} {s : Sta} (h : s ∈ rows.map (·.1)) : (eS s, dL (rowOf rows s)) ∈ kvR rows := List.mem_map.mpr ⟨_, rowOf_mem h, rfl⟩
theorem kv_app {rows : List (Sta × List Str)} {s : Sta} {r : List Str} : kvR (rows ++ [(s, r)]) = kvR rows ++ [(eS s, dL r)] := by unfold kvR; rw [List.map_append]; rfl
theorem kv_len {rows : List (Sta × List Str)} : (kvR rows).length = rows.length := by unfold kvR; rw [List.length_map]
section
variable {P : Program} {w : World} {K : PySem.W.Frag} {mg : Str → Option Value} {base : Heap}
abbrev spReach (K : PySem.W.Frag) (P : Program) (w : World) : Sp := spD K P w (fun x : Way × List Str => [eW x.1, dL x.2]) (fun x => WL x.1 x.2) fun x => kvR (mReach x.1 x.2)
end

end Fo
namespace Fo
open PySem PySem.Spec PyProof.Rows L2 DL DR
abbrev s_is_family : Stmt := topS 20
abbrev N_is_family : List Str := ["value", "way"]
theorem sc_is_family : FnScope N_is_family ["value"] (defScope s_is_family) := ⟨rfl, rfl, rfl, by decide +kernel, rfl, by decide +kernel, by decide +kernel⟩
abbrev s_check_family : Stmt := topS 21
abbrev N_check_family : List Str := ["family"]
theorem sc_check_family : FnScope N_check_family ["family"] (defScope s_check_family) := ⟨rfl, rfl, rfl, by decide +kernel, rfl, by decide +kernel, by decide +kernel⟩
abbrev s_check_field : Stmt := topS 50
abbrev N_check_field : List Str := ["way", "words", "sight"]
theorem sc_check_field : FnScope N_check_field ["way", "words", "sight"] (defScope s_check_field) := ⟨rfl, rfl, rfl, by decide +kernel, rfl, by decide +kernel, by decide +kernel⟩
abbrev s_check_several : Stmt := topS 51
abbrev N_check_several : List Str := ["family", "words", "sight"]
theorem sc_check_several : FnScope N_check_several ["family", "words", "sight"] (defScope s_check_several) := ⟨rfl, rfl, rfl, by decide +kernel, rfl, by decide +kernel, by decide +kernel⟩
abbrev s_is_view : Stmt := topS 61
abbrev N_is_view : List Str := ["value", "sight", "text"]
theorem sc_is_view : FnScope N_is_view ["value", "sight"] (defScope s_is_view) := ⟨rfl, rfl, rfl, by decide +kernel, rfl, by decide +kernel, by decide +kernel⟩
abbrev s_is_view_row : Stmt := topS 62
abbrev N_is_view_row : List Str := ["value", "sight", "view"]
theorem sc_is_view_row : FnScope N_is_view_row ["value", "sight"] (defScope s_is_view_row) := ⟨rfl, rfl, rfl, by decide +kernel, rfl, by decide +kernel, by decide +kernel⟩
abbrev s_is_record : Stmt := topS 63
abbrev N_is_record : List Str := ["value", "sight", "row", "views"]
theorem sc_is_record : FnScope N_is_record ["value", "sight"] (defScope s_is_record) := ⟨rfl, rfl, rfl, by decide +kernel, rfl, by decide +kernel, by decide +kernel⟩
abbrev s_check_record : Stmt := topS 64
abbrev N_check_record : List Str := ["record", "sight"]
theorem sc_check_record : FnScope N_check_record ["record", "sight"] (defScope s_check_record) := ⟨rfl, rfl, rfl, by decide +kernel, rfl, by decide +kernel, by decide +kernel⟩
abbrev s_check_records : Stmt := topS 65
abbrev N_check_records : List Str := ["records", "sight", "record"]
theorem sc_check_records : FnScope N_check_records ["records", "sight"] (defScope s_check_records) := ⟨rfl, rfl, rfl, by decide +kernel, rfl, by decide +kernel, by decide +kernel⟩
abbrev s_bar_of : Stmt := topS 67
abbrev N_bar_of : List Str := ["way", "words", "sight", "record", "row", "views", "states", "place", "view"]
theorem sc_bar_of : FnScope N_bar_of ["way", "words", "sight", "record"] (defScope s_bar_of) := ⟨rfl, rfl, rfl, by decide +kernel, rfl, by decide +kernel, by decide +kernel⟩
abbrev s_first_record_bar : Stmt := topS 68
abbrev N_first_record_bar : List Str := ["way", "words", "sight", "records", "place", "record", "bar"]
theorem sc_first_record_bar : FnScope N_first_record_bar ["way", "words", "sight", "records"] (defScope s_first_record_bar) := ⟨rfl, rfl, rfl, by decide +kernel, rfl, by decide +kernel, by decide +kernel⟩
abbrev s_first_bar : Stmt := topS 69
abbrev N_first_bar : List Str := ["way", "words", "sight", "record"]
theorem sc_first_bar : FnScope N_first_bar ["way", "words", "sight", "record"] (defScope s_first_bar) := ⟨rfl, rfl, rfl, by decide +kernel, rfl, by decide +kernel, by decide +kernel⟩
abbrev s_made : Stmt := topS 70
abbrev N_made : List Str := ["way", "words", "sight", "record"]
theorem sc_made : FnScope N_made ["way", "words", "sight", "record"] (defScope s_made) := ⟨rfl, rfl, rfl, by decide +kernel, rfl, by decide +kernel, by decide +kernel⟩
abbrev s_bars : Stmt := topS 71
abbrev N_bars : List Str := ["family", "words", "sight", "records", "way"]
theorem sc_bars : FnScope N_bars ["family", "words", "sight", "records"] (defScope s_bars) := ⟨rfl, rfl, rfl, by decide +kernel, rfl, by decide +kernel, by decide +kernel⟩
abbrev s_remains : Stmt := topS 72
abbrev N_remains : List Str := ["family", "words", "sight", "records", "found", "place", "bar"]
theorem sc_remains : FnScope N_remains ["family", "words", "sight", "records"] (defScope s_remains) := ⟨rfl, rfl, rfl, by decide +kernel, rfl, by decide +kernel, by decide +kernel⟩

/-! ### checks, views, records; reading ways from records -/
section
variable {P : Program} {w : World} {K : PySem.W.Frag} {mg : Str → Option Value} {base : Heap}
structure Bi2 (mg : Str → Option Value) : Prop where
  nenumerate : mg "enumerate" = none
  nzip : mg "zip" = none
/-! families -/
abbrev dFam (ys : List Way) : D := .list (ys.map eW)
def FamOk (ys : List Way) : Prop := 1 ≤ ys.length ∧ ys.length ≤ 8 ∧ ∀ y ∈ ys, mIsWay y = true
abbrev spIsFam (K : PySem.W.Frag) : Sp := spA K (fun ys : List Way => [dFam ys]) FamOk fun _ => .bool true
abbrev spCkFam (K : PySem.W.Frag) : Sp := spA K (fun ys : List Way => [dFam ys]) FamOk fun _ => .none
theorem cl_is_family (T : FT K mg "is_family" s_is_family ["value"]) (b : Bi mg) (c : Cn K mg) {k : Nat} (C_is_way : Cl P w K mg base "is_way" k ["value"] (spA K (fun y : Way => [eW y]) (fun _ => True) fun y => .bool (mIsWay y))) :
    Cl P w K mg base "is_family" (k + 1) ["value"] (spIsFam K) := by
  obtain ⟨tFAMILY_WAYS, gFAMILY_WAYS⟩ := c.FAMILY_WAYS
  obtain ⟨nlen, nisinstance, nall, nmin, ntuple, nlist, nset, nsorted, nrange, nstr, nint, nbool⟩ := b
  refine clA T sc_is_family (fun _ => rfl) fun f cdv A outer s H E z hr hz => ?_
  have nd := sc_is_family.nd
  have hr_is_way := hr
  obtain ⟨h1, h8, hw⟩ := hz
  refine ⟨_, ((pss_cons (ps_if (PW.pt (pw_or (pt_not (pt_val (pe_callB (call_isJ rfl) (by rfl) nisinstance (by decide +kernel) (pa_cons (pv 0) (pa_cons (pe_bltn (v := .ty "list") (by rfl) nlist (by decide +kernel) rfl) pa_nil))))) (pw_or1 (pt_not (pt_chain op_le op_le pe_int (pe_callB (call_lenK rfl) (by rfl) nlen (by decide +kernel) (pa_cons (pv 0) pa_nil)) (pe_glob (v := .int 8) (by rfl) gFAMILY_WAYS ⟨_, rfl⟩))))))
      (pss_one (ps_ret pe_bl))
      pss_nil)
      (pss_one (ps_ret (pe_callB (cr_allK rfl rfl) (by rfl) nall (by decide +kernel) (pa_cons (pe_lc (own := [("way", 1)]) (g := gName 1) (tt := tYes) rfl nd (pi_listK rfl (pv 0)) (blkOk_by (N := N_is_family) (sc := (defScope s_is_family)) (by decide +kernel)) (fun _ _ _ _ _ => (pg_name (i := 1) nd rfl (by first | exact Or.inl rfl | exact Or.inr rfl))) (fun _ _ _ _ _ => pts_nil) (fun _ _ _ _ _ => (pe_cl C_is_way hr_is_way (by rfl) (pa_cons (pv 1) pa_nil)))) pa_nil)))))), fun e Q hq => sd_nm [_, _] rfl ?_⟩
  refine sd_seq (sd_if (et_or (et_not (et_B (ev_isi (b := true) (ev_var rfl) kLL))) fun _ => (et_not (et_test (ev_chain ev_int (ev_cb (ea_cons (ev_var rfl) ea_nil) rc_lenL) ev_int rd_I0b rd_I0b)))) (fun hb => ?_) (fun hb => sd_next ?_))
  · rw [List.length_map, Bool.not_true, Bool.false_or, Bool.not_eq_true'] at hb
    simp only [Bool.and_eq_false_iff, decide_eq_false_iff_not] at hb
    omega
  · refine sd_ret hq (ev_cb (ea_cons (ev_fz (ef_lcLm z eW (fun y => .bool (mIsWay y)) (ev_var rfl) rfl (by omega) (fun x hx => (ev_call x (ea_cons (ev_var rfl) ea_nil) rfl trivial)))) ea_nil) rc_allG) ?_
    rw [List.all_eq_true.mpr hw]
theorem cl_check_family (T : FT K mg "check_family" s_check_family ["family"]) {k : Nat} (C_is_family : Cl P w K mg base "is_family" k ["value"] (spIsFam K)) : Cl P w K mg base "check_family" (k + 1) ["family"] (spCkFam K) := by
  refine clA T sc_check_family (fun _ => rfl) fun f cdv A outer s H E z hr hz => ?_
  have nd := sc_check_family.nd
  have hr_is_family := hr
  refine ⟨_, ((pss_one (ps_if (pt_not (pt_val (pe_cl C_is_family hr_is_family (by rfl) (pa_cons (pv 0) pa_nil))))
      (pss_one ps_never)
      pss_nil))), fun e Q hq => sd_nm [_] rfl ?_⟩
  exact sd_if (et_not (et_B (ev_call z (ea_cons (ev_var rfl) ea_nil) rfl hz))) (fun hb => absurd hb Bool.false_ne_true) (fun hb => sd_end hq rfl)
/-! the checks of a field -/
structure Fd (x : Way × List Str × Int) : Prop where
  w : mIsWay x.1 = true
  l : mIsList x.2.1 = true
  s : x.2.2 = 0 ∨ x.2.2 = 1
structure FdF (x : List Way × List Str × Int) : Prop where
  f : FamOk x.1
  l : mIsList x.2.1 = true
  s : x.2.2 = 0 ∨ x.2.2 = 1
abbrev spCkFd (K : PySem.W.Frag) : Sp := spA K (fun x : Way × List Str × Int => [eW x.1, dL x.2.1, .int x.2.2]) Fd fun _ => .none
abbrev spCkSv (K : PySem.W.Frag) : Sp := spA K (fun x : List Way × List Str × Int => [dFam x.1, dL x.2.1, .int x.2.2]) FdF fun _ => .none
theorem cl_check_field (T : FT K mg "check_field" s_check_field ["way", "words", "sight"]) {k : Nat} (C_check_way : Cl P w K mg base "check_way" k ["way"] (spCkW K)) (C_check_list : Cl P w K mg base "check_list" k ["words"] (spCkL K)) (C_check_sight : Cl P w K mg base "check_sight" k ["sight"] (spCkS K)) :
    Cl P w K mg base "check_field" (k + 1) ["way", "words", "sight"] (spCkFd K) := by
  refine clA T sc_check_field (fun _ => rfl) fun f cdv A outer s H E z hr hz => ?_
  have nd := sc_check_field.nd
  have hr_check_way := hr
  have hr_check_list := hr
  have hr_check_sight := hr
  refine ⟨_, ((pss_cons (ps_expr (pe_cl C_check_way hr_check_way (by rfl) (pa_cons (pv 0) pa_nil)))
      (pss_cons (ps_expr (pe_cl C_check_list hr_check_list (by rfl) (pa_cons (pv 1) pa_nil)))
      (pss_one (ps_expr (pe_cl C_check_sight hr_check_sight (by rfl) (pa_cons (pv 2) pa_nil))))))), fun e Q hq => sd_nm [_, _, _] rfl ?_⟩
  refine sd_seq (sd_drop (ev_call z.1 (ea_cons (ev_var rfl) ea_nil) rfl hz.w) (sd_next ?_))
  refine sd_seq (sd_drop (ev_call z.2.1 (ea_cons (ev_var rfl) ea_nil) rfl hz.l) (sd_next ?_))
  exact sd_drop (ev_call z.2.2 (ea_cons (ev_var rfl) ea_nil) rfl hz.s) (sd_end hq rfl)
theorem cl_check_several (T : FT K mg "check_several" s_check_several ["family", "words", "sight"]) {k : Nat} (C_check_family : Cl P w K mg base "check_family" k ["family"] (spCkFam K)) (C_check_list : Cl P w K mg base "check_list" k ["words"] (spCkL K)) (C_check_sight : Cl P w K mg base "check_sight" k ["sight"] (spCkS K)) :
    Cl P w K mg base "check_several" (k + 1) ["family", "words", "sight"] (spCkSv K) := by
  refine clA T sc_check_several (fun _ => rfl) fun f cdv A outer s H E z hr hz => ?_
  have nd := sc_check_several.nd
  have hr_check_family := hr
  have hr_check_list := hr
  have hr_check_sight := hr
  refine ⟨_, ((pss_cons (ps_expr (pe_cl C_check_family hr_check_family (by rfl) (pa_cons (pv 0) pa_nil)))
      (pss_cons (ps_expr (pe_cl C_check_list hr_check_list (by rfl) (pa_cons (pv 1) pa_nil)))
      (pss_one (ps_expr (pe_cl C_check_sight hr_check_sight (by rfl) (pa_cons (pv 2) pa_nil))))))), fun e Q hq => sd_nm [_, _, _] rfl ?_⟩
  refine sd_seq (sd_drop (ev_call z.1 (ea_cons (ev_var rfl) ea_nil) rfl hz.f) (sd_next ?_))
  refine sd_seq (sd_drop (ev_call z.2.1 (ea_cons (ev_var rfl) ea_nil) rfl hz.l) (sd_next ?_))
  exact sd_drop (ev_call z.2.2 (ea_cons (ev_var rfl) ea_nil) rfl hz.s) (sd_end hq rfl)
/-! views and records -/
structure Tx (x : Str) : Prop where
  lt : Lt x
  ln : x.length ≤ 4
theorem Tx.is {x : Str} (h : Tx x) : mIsText x = true := h.lt.isText h.ln
inductive VwOk : Int → D → Prop
  | one {x : Str} : Tx x → VwOk 1 (.str x)
  | three {a b c : Str} : Tx a → Tx b → Tx c → VwOk 0 (.tuple [.str a, .str b, .str c])
abbrev Rec := List Str × List D
abbrev eR (r : Rec) : D := .tuple [dL r.1, .list r.2]
structure RecOk (sg : Int) (r : Rec) : Prop where
  row : mIsRow r.1 = true
  len : r.2.length = r.1.length
  vs : ∀ d ∈ r.2, VwOk sg d
theorem row40 {r : List Str} (h : mIsRow r = true) : r.length ≤ 40 := by
  unfold mIsRow at h
  rw [Bool.and_eq_true, decide_eq_true_eq] at h
  exact h.1
abbrev spTextB (K : PySem.W.Frag) : Sp := spA K (fun x : Str => [.str x]) (fun x => x.length ≤ 1000) fun x => .bool (mIsText x)
abbrev spIsVw (K : PySem.W.Frag) : Sp := spA K (fun x : D × Int => [x.1, .int x.2]) (fun x => VwOk x.2 x.1) fun _ => .bool true
theorem cl_is_view (T : FT K mg "is_view" s_is_view ["value", "sight"]) (b : Bi mg) {k : Nat} (C_is_text : Cl P w K mg base "is_text" k ["value"] (spTextB K)) : Cl P w K mg base "is_view" (k + 1) ["value", "sight"] (spIsVw K) := by
  obtain ⟨nlen, nisinstance, nall, nmin, ntuple, nlist, nset, nsorted, nrange, nstr, nint, nbool⟩ := b
  refine clA T sc_is_view (fun _ => rfl) fun f cdv A outer s H E z hr hz => ?_
  have nd := sc_is_view.nd
  have hr_is_text := hr
  obtain ⟨d, sg⟩ := z
  have hz : VwOk sg d := hz
  refine ⟨_, ((pss_cons (ps_if (pt_cmpR op_eq (pv 1) pe_int (nomark _))
      (pss_one (ps_ret (pe_cl C_is_text hr_is_text (by rfl) (pa_cons (pv 0) pa_nil))))
      pss_nil)
      (pss_cons (ps_if (PW.pt (pw_or (pt_not (pt_val (pe_callB (call_isJ rfl) (by rfl) nisinstance (by decide +kernel) (pa_cons (pv 0) (pa_cons (pe_bltn (v := .ty "tuple") (by rfl) ntuple (by decide +kernel) rfl) pa_nil))))) (pw_or1 (pt_cmpR op_ne (pe_callB (call_lenK rfl) (by rfl) nlen (by decide +kernel) (pa_cons (pv 0) pa_nil)) pe_int (nomark _)))))
      (pss_one (ps_ret pe_bl))
      pss_nil)
      (pss_one (ps_ret (pe_callB (cr_allK rfl rfl) (by rfl) nall (by decide +kernel) (pa_cons (pe_lc (own := [("text", 2)]) (g := gName 2) (tt := tYes) rfl nd (pi_tupK rfl (pv 0)) (blkOk_by (N := N_is_view) (sc := (defScope s_is_view)) (by decide +kernel)) (fun _ _ _ _ _ => (pg_name (i := 2) nd rfl (by first | exact Or.inl rfl | exact Or.inr rfl))) (fun _ _ _ _ _ => pts_nil) (fun _ _ _ _ _ => (pe_cl C_is_text hr_is_text (by rfl) (pa_cons (pv 2) pa_nil)))) pa_nil))))))), fun e Q hq => sd_nm [_, _, _] rfl ?_⟩
  cases hz with
  | @one x ht =>
    refine sd_seq (sd_if (et_test (ev_op (ev_var rfl) ev_int rd_eqI)) (fun hb => ?_) (fun hb => absurd hb (by show ¬ decide ((1 : Int) = 1) = false; decide)))
    refine sd_ret hq (ev_call x (ea_cons (ev_var rfl) ea_nil) rfl (Nat.le_trans ht.ln (by decide))) ?_
    rw [ht.is]
  | @three x y t hx hy ht =>
    refine sd_seq (sd_if (et_test (ev_op (ev_var rfl) ev_int rd_eqI)) (fun hb => absurd hb (by show ¬ decide ((0 : Int) = 1) = true; decide)) (fun hb => sd_next ?_))
    refine sd_seq (sd_if (et_or (et_not (et_B (ev_isi (b := true) (ev_var rfl) kTT))) fun _ => (et_test (ev_op (ev_cb (ea_cons (ev_var rfl) ea_nil) rc_lenT) ev_int rd_neI))) (fun hb => absurd hb Bool.false_ne_true) (fun hb => sd_next ?_))
    have ha : ∀ v ∈ [x, y, t], Tx v := fun v hv => by
      simp only [List.mem_cons, List.not_mem_nil, or_false] at hv
      rcases hv with rfl | rfl | rfl <;> assumption
    refine sd_ret hq (ev_cb (ea_cons (ev_fz (ef_lcTm [x, y, t] .str (fun v => .bool (mIsText v)) (ev_var rfl) rfl (by show 3 ≤ 100000; decide) (fun v hv => (ev_call v (ea_cons (ev_var rfl) ea_nil) rfl (Nat.le_trans (ha v hv).ln (by decide)))))) ea_nil) rc_allG) ?_
    rw [List.all_eq_true.mpr fun v hv => (ha v hv).is]
def VwsOk (x : List D × Int) : Prop := x.1.length ≤ 40 ∧ ∀ d ∈ x.1, VwOk x.2 d
abbrev spIsVws (K : PySem.W.Frag) : Sp := spA K (fun x : List D × Int => [.list x.1, .int x.2]) VwsOk fun _ => .bool true
theorem cl_is_view_row (T : FT K mg "is_view_row" s_is_view_row ["value", "sight"]) (b : Bi mg) (c : Cn K mg) {k : Nat} (C_is_view : Cl P w K mg base "is_view" k ["value", "sight"] (spIsVw K)) : Cl P w K mg base "is_view_row" (k + 1) ["value", "sight"] (spIsVws K) := by
  obtain ⟨tROW_VIEWS, gROW_VIEWS⟩ := c.ROW_VIEWS
  obtain ⟨nlen, nisinstance, nall, nmin, ntuple, nlist, nset, nsorted, nrange, nstr, nint, nbool⟩ := b
  refine clA T sc_is_view_row (fun _ => rfl) fun f cdv A outer s H E z hr hz => ?_
  have nd := sc_is_view_row.nd
  have hr_is_view := hr
  obtain ⟨ds, sg⟩ := z
  obtain ⟨hl, hv⟩ := hz
  have hl : ds.length ≤ 40 := hl
  refine ⟨_, ((pss_cons (ps_if (PW.pt (pw_or (pt_not (pt_val (pe_callB (call_isJ rfl) (by rfl) nisinstance (by decide +kernel) (pa_cons (pv 0) (pa_cons (pe_bltn (v := .ty "list") (by rfl) nlist (by decide +kernel) rfl) pa_nil))))) (pw_or1 (pt_cmpR op_gt (pe_callB (call_lenK rfl) (by rfl) nlen (by decide +kernel) (pa_cons (pv 0) pa_nil)) (pe_glob (v := .int 40) (by rfl) gROW_VIEWS ⟨_, rfl⟩) (nomark _)))))
      (pss_one (ps_ret pe_bl))
      pss_nil)
      (pss_one (ps_ret (pe_callB (cr_allK rfl rfl) (by rfl) nall (by decide +kernel) (pa_cons (pe_lc (own := [("view", 2)]) (g := gName 2) (tt := tYes) rfl nd (pi_listK rfl (pv 0)) (blkOk_by (N := N_is_view_row) (sc := (defScope s_is_view_row)) (by decide +kernel)) (fun _ _ _ _ _ => (pg_name (i := 2) nd rfl (by first | exact Or.inl rfl | exact Or.inr rfl))) (fun _ _ _ _ _ => pts_nil) (fun _ _ _ _ _ => (pe_cl C_is_view hr_is_view (by rfl) (pa_cons (pv 2) (pa_cons (pv 1) pa_nil))))) pa_nil)))))), fun e Q hq => sd_nm [_, _, _] rfl ?_⟩
  refine sd_seq (sd_if (et_or (et_not (et_B (ev_isi (b := true) (ev_var rfl) kLL))) fun _ => (et_test (ev_op (ev_cb (ea_cons (ev_var rfl) ea_nil) rc_lenL) ev_int rd_I0b))) (fun hb => ?_) (fun hb => sd_next ?_))
  · rw [Bool.not_true, Bool.false_or, decide_eq_true_eq] at hb
    omega
  · refine sd_ret hq (ev_cb (ea_cons (ev_fz (ef_lcLm ds (fun d => d) (fun _ => .bool true) (Ev.of (ev_var rfl) (by rw [List.map_id'])) rfl (by omega) (fun d hd => (ev_call (d, sg) (ea_cons (ev_var rfl) (ea_cons (ev_var rfl) ea_nil)) rfl (hv d hd))))) ea_nil) rc_allG) ?_
    rw [List.all_eq_true.mpr fun _ _ => rfl]
abbrev spIsRec (K : PySem.W.Frag) : Sp := spA K (fun x : Rec × Int => [eR x.1, .int x.2]) (fun x => RecOk x.2 x.1) fun _ => .bool true
abbrev spCkRec (K : PySem.W.Frag) : Sp := spA K (fun x : Rec × Int => [eR x.1, .int x.2]) (fun x => RecOk x.2 x.1) fun _ => .none
theorem cl_is_record (T : FT K mg "is_record" s_is_record ["value", "sight"]) (b : Bi mg) {k : Nat} (C_is_row : Cl P w K mg base "is_row" k ["value"] (spA K (fun r : List Str => [dL r]) (fun r => r.length ≤ 1000) fun r => .bool (mIsRow r))) (C_is_view_row : Cl P w K mg base "is_view_row" k ["value", "sight"] (spIsVws K)) :
    Cl P w K mg base "is_record" (k + 1) ["value", "sight"] (spIsRec K) := by
  obtain ⟨nlen, nisinstance, nall, nmin, ntuple, nlist, nset, nsorted, nrange, nstr, nint, nbool⟩ := b
  refine clA T sc_is_record (fun _ => rfl) fun f cdv A outer s H E z hr hz => ?_
  have nd := sc_is_record.nd
  have hr_is_row := hr
  have hr_is_view_row := hr
  obtain ⟨⟨row, vs⟩, sg⟩ := z
  obtain ⟨h1, h2, h3⟩ := hz
  have h1 : mIsRow row = true := h1
  have h2 : vs.length = row.length := h2
  have h4 := row40 h1
  refine ⟨_, ((pss_cons (ps_if (PW.pt (pw_or (pt_not (pt_val (pe_callB (call_isJ rfl) (by rfl) nisinstance (by decide +kernel) (pa_cons (pv 0) (pa_cons (pe_bltn (v := .ty "tuple") (by rfl) ntuple (by decide +kernel) rfl) pa_nil))))) (pw_or1 (pt_cmpR op_ne (pe_callB (call_lenK rfl) (by rfl) nlen (by decide +kernel) (pa_cons (pv 0) pa_nil)) pe_int (nomark _)))))
      (pss_one (ps_ret pe_bl))
      pss_nil)
      (pss_cons (ps_asg (pv 0) (pg_tupK rfl rfl (pgs_cons (pg_name (i := 2) nd rfl (by first | exact Or.inl rfl | exact Or.inr rfl)) (pgs_cons (pg_name (i := 3) nd rfl (by first | exact Or.inl rfl | exact Or.inr rfl)) pgs_nil))))
      (pss_one (ps_ret (pe_and (pe_cl C_is_row hr_is_row (by rfl) (pa_cons (pv 2) pa_nil)) (pe_and (pe_cl C_is_view_row hr_is_view_row (by rfl) (pa_cons (pv 3) (pa_cons (pv 1) pa_nil))) (pe_one (pe_cmpR op_eq (pe_callB (call_lenK rfl) (by rfl) nlen (by decide +kernel) (pa_cons (pv 2) pa_nil)) (pe_callB (call_lenK rfl) (by rfl) nlen (by decide +kernel) (pa_cons (pv 3) pa_nil)) (nomark _)))))))))), fun e Q hq => sd_nm [_, _, _, _] rfl ?_⟩
  refine sd_seq (sd_if (et_or (et_not (et_B (ev_isi (b := true) (ev_var rfl) kTT))) fun _ => (et_test (ev_op (ev_cb (ea_cons (ev_var rfl) ea_nil) rc_lenT) ev_int rd_neI))) (fun hb => absurd hb Bool.false_ne_true) (fun hb => sd_next ?_))
  refine sd_seq (sd_unpack (ev_var rfl) (gd_cons (gd_cons gd_nil)) rfl (sd_nxt [_, _, _, _] rfl ?_))
  refine sd_ret hq (ev_and (ev_call row (ea_cons (ev_var rfl) ea_nil) rfl (by omega)) fun _ => (ev_and (ev_call (vs, sg) (ea_cons (ev_var rfl) (ea_cons (ev_var rfl) ea_nil)) rfl ⟨by show vs.length ≤ 40; omega, h3⟩) fun _ => (ev_op (ev_cb (ea_cons (ev_var rfl) ea_nil) rc_lenL) (ev_cb (ea_cons (ev_var rfl) ea_nil) rc_lenL) rd_eqI))) ?_
  rw [h1, List.length_map, h2, decide_eq_true rfl]
  rfl
theorem cl_check_record (T : FT K mg "check_record" s_check_record ["record", "sight"]) {k : Nat} (C_is_record : Cl P w K mg base "is_record" k ["value", "sight"] (spIsRec K)) : Cl P w K mg base "check_record" (k + 1) ["record", "sight"] (spCkRec K) := by
  refine clA T sc_check_record (fun _ => rfl) fun f cdv A outer s H E z hr hz => ?_
  have nd := sc_check_record.nd
  have hr_is_record := hr
  refine ⟨_, ((pss_one (ps_if (pt_not (pt_val (pe_cl C_is_record hr_is_record (by rfl) (pa_cons (pv 0) (pa_cons (pv 1) pa_nil)))))
      (pss_one ps_never)
      pss_nil))), fun e Q hq => sd_nm [_, _] rfl ?_⟩
  exact sd_if (et_not (et_B (ev_call z (ea_cons (ev_var rfl) (ea_cons (ev_var rfl) ea_nil)) rfl hz))) (fun hb => absurd hb Bool.false_ne_true) (fun hb => sd_end hq rfl)
structure RecsOk (x : List Rec × Int) : Prop where
  one : 1 ≤ x.1.length
  len : x.1.length ≤ 12
  all : ∀ r ∈ x.1, RecOk x.2 r
abbrev spCkRecs (K : PySem.W.Frag) : Sp := spA K (fun x : List Rec × Int => [.list (x.1.map eR), .int x.2]) RecsOk fun _ => .none
theorem cl_check_records (T : FT K mg "check_records" s_check_records ["records", "sight"]) (b : Bi mg) (c : Cn K mg) {k : Nat} (C_check_record : Cl P w K mg base "check_record" k ["record", "sight"] (spCkRec K)) : Cl P w K mg base "check_records" (k + 1) ["records", "sight"] (spCkRecs K) := by
  obtain ⟨tLIST_RECORDS, gLIST_RECORDS⟩ := c.LIST_RECORDS
  obtain ⟨nlen, nisinstance, nall, nmin, ntuple, nlist, nset, nsorted, nrange, nstr, nint, nbool⟩ := b
  refine clA T sc_check_records (fun _ => rfl) fun f cdv A outer s H E z hr hz => ?_
  have nd := sc_check_records.nd
  have hr_check_record := hr
  obtain ⟨rs, sg⟩ := z
  obtain ⟨h1, h12, ha⟩ := hz
  have h1 : 1 ≤ rs.length := h1
  have h12 : rs.length ≤ 12 := h12
  refine ⟨_, ((pss_cons (ps_if (PW.pt (pw_or (pt_not (pt_val (pe_callB (call_isJ rfl) (by rfl) nisinstance (by decide +kernel) (pa_cons (pv 0) (pa_cons (pe_bltn (v := .ty "list") (by rfl) nlist (by decide +kernel) rfl) pa_nil))))) (pw_or1 (pt_not (pt_chain op_le op_le pe_int (pe_callB (call_lenK rfl) (by rfl) nlen (by decide +kernel) (pa_cons (pv 0) pa_nil)) (pe_glob (v := .int 12) (by rfl) gLIST_RECORDS ⟨_, rfl⟩))))))
      (pss_one ps_never)
      pss_nil)
      (pss_one (ps_for PassesOwn.never rfl (pi_listK rfl (pv 0)) (pg_name (i := 2) nd rfl (by first | exact Or.inl rfl | exact Or.inr rfl))
      (pss_one (ps_expr (pe_cl C_check_record hr_check_record (by rfl) (pa_cons (pv 2) (pa_cons (pv 1) pa_nil))))))))), fun e Q hq => sd_nm [_, _, _] rfl ?_⟩
  refine sd_seq (sd_if (et_or (et_not (et_B (ev_isi (b := true) (ev_var rfl) kLL))) fun _ => (et_not (et_test (ev_chain ev_int (ev_cb (ea_cons (ev_var rfl) ea_nil) rc_lenL) ev_int rd_I0b rd_I0b)))) (fun hb => ?_) (fun hb => sd_next ?_))
  · rw [List.length_map, Bool.not_true, Bool.false_or, Bool.not_eq_true'] at hb
    simp only [Bool.and_eq_false_iff, decide_eq_false_iff_not] at hb
    omega
  refine sd_forL (ev_var rfl) (fun i => [.val (.list (rs.map eR)), .val (.int sg), .any]) (fun i => none) rfl rfl (fun i d B hB hd => ?_) (sd_end hq rfl)
  rw [List.getElem?_map] at hd
  obtain ⟨r, hr2, rfl⟩ := Option.map_eq_some_iff.mp hd
  refine sd_nm [_, _, _] rfl ?_
  refine sd_drop (ev_call (r, sg) (ea_cons (ev_var rfl) (ea_cons (ev_var rfl) ea_nil)) rfl (ha r (List.mem_of_getElem? hr2))) ?_
  refine sd_any 2 ?_
  refine sd_nm [_, _, _] rfl ?_
  exact fun G H σ bb s => ⟨G, bb, s⟩
/-! reading -/
def mBarAt (y : Way) (ws : List Str) (sg : Int) (r : Rec) (i : Nat) : Bool := !PyData.eqv (mView y (mSt y (mInit ws) r.1 (i + 1)) sg) (r.2.getD i .none)
def mBar (y : Way) (ws : List Str) (sg : Int) (r : Rec) : Option Nat := (List.range r.2.length).find? (mBarAt y ws sg r)
def oI : Option Nat → D
  | none => .none
  | some i => .int (i : Nat)
structure BrOk (x : Way × List Str × Int × Rec) : Prop where
  wl : WL x.1 x.2.1
  s : x.2.2.1 = 0 ∨ x.2.2.1 = 1
  r : RecOk x.2.2.1 x.2.2.2
abbrev encB (x : Way × List Str × Int × Rec) : List D := [eW x.1, dL x.2.1, .int x.2.2.1, eR x.2.2.2]
abbrev spBar (K : PySem.W.Frag) : Sp := spA K encB BrOk fun x => oI (mBar x.1 x.2.1 x.2.2.1 x.2.2.2)
theorem VwOk.pl {sg : Int} {d : D} (h : VwOk sg d) : Pl 1 d := by
  cases h with
  | one h => exact .str 1 _ h.lt.ok
  | three h1 h2 h3 =>
    refine .tup 0 _ fun d hd => ?_
    simp only [List.mem_cons, List.not_mem_nil, or_false] at hd
    rcases hd with rfl | rfl | rfl
    · exact .str 0 _ h1.lt.ok
    · exact .str 0 _ h2.lt.ok
    · exact .str 0 _ h3.lt.ok
theorem Lv.viewPl {y : Way} {ws : List Str} {s : Sta} (v : Lv y ws s) (sg : Int) : Pl 1 (mView y s sg) := by
  unfold mView
  split
  · exact .str 1 _ v.pu.ok
  · refine .tup 0 _ fun d hd => ?_
    simp only [List.mem_cons, List.not_mem_nil, or_false] at hd
    rcases hd with rfl | rfl | rfl
    · exact .str 0 _ v.tx.ok
    · exact .str 0 _ (off_lt v.od).ok
    · exact .str 0 _ v.pu.ok
theorem at_walk {y : Way} {s : Sta} {row : List Str} {i : Nat} (h : i < row.length) : atI ((mWalk y s row).map eS) ((i : Int) + 1) = some (eS (mSt y s row (i + 1))) := by
  have e : ((i : Int) + 1) = ((i + 1 : Nat) : Int) := by omega
  rw [e, atI_nat]
  unfold mWalk
  rw [List.getElem?_map, List.getElem?_map, List.getElem?_range (by omega)]
  rfl
theorem find_yes {f : Nat → Bool} {n i : Nat} (hi : i < n) (hf : f i = true) (hp : ∀ j, j < i → f j = false) : (List.range n).find? f = some i := by
  rw [List.find?_range_eq_some]
  exact ⟨hf, List.mem_range.mpr hi, fun j hj => by rw [hp j hj]; rfl⟩
theorem find_no {f : Nat → Bool} {n : Nat} (hp : ∀ j, j < n → f j = false) : (List.range n).find? f = none := by
  rw [List.find?_eq_none]
  intro x hx
  rw [hp x (List.mem_range.mp hx)]
  exact Bool.false_ne_true
theorem cl_bar_of (T : FT K mg "bar_of" s_bar_of ["way", "words", "sight", "record"]) (b2 : Bi2 mg) {k : Nat} (C_walk : Cl P w K mg base "walk" k ["way", "state", "row"] (spWalk K)) (C_first_state : Cl P w K mg base "first_state" k ["words"] (spIni K)) (C_view_of : Cl P w K mg base "view_of" k ["way", "state", "sight"] (spView K)) :
    Cl P w K mg base "bar_of" (k + 1) ["way", "words", "sight", "record"] (spBar K) := by
  obtain ⟨nenumerate, nzip⟩ := b2
  refine clA T sc_bar_of (fun _ => rfl) fun f cdv A outer s H E z hr hz => ?_
  have nd := sc_bar_of.nd
  have hr_walk := hr
  have hr_first_state := hr
  have hr_view_of := hr
  obtain ⟨y, ws, sg, row, vs⟩ := z
  obtain ⟨wl, hs, hrow, hlen, hvs⟩ := hz
  have wl : WL y ws := wl
  have hrow : mIsRow row = true := hrow
  have hlen : vs.length = row.length := hlen
  have hvs : ∀ d ∈ vs, VwOk sg d := hvs
  have h40 := row40 hrow
  have hlv : ∀ i, Lv y ws (mSt y (mInit ws) row i) := lv_st wl.nd wl.lv (rowOk hrow).2
  refine ⟨_, ((pss_cons (ps_asg (pv 3) (pg_tupK rfl rfl (pgs_cons (pg_name (i := 4) nd rfl (by first | exact Or.inl rfl | exact Or.inr rfl)) (pgs_cons (pg_name (i := 5) nd rfl (by first | exact Or.inl rfl | exact Or.inr rfl)) pgs_nil))))
      (pss_cons (ps_set (i := 6) nd rfl (by first | exact Or.inl rfl | exact Or.inr rfl) (pe_cl C_walk hr_walk (by rfl) (pa_cons (pv 0) (pa_cons (pe_cl C_first_state hr_first_state (by rfl) (pa_cons (pv 1) pa_nil)) (pa_cons (pv 4) pa_nil)))))
      (pss_cons (ps_for PassesOwn.never rfl (pi_enumK rfl (by rfl) nenumerate (pa_cons (pv 5) pa_nil)) (pg_tupK rfl rfl (pgs_cons (pg_name (i := 7) nd rfl (by first | exact Or.inl rfl | exact Or.inr rfl)) (pgs_cons (pg_name (i := 8) nd rfl (by first | exact Or.inl rfl | exact Or.inr rfl)) pgs_nil)))
      (pss_one (ps_if (pt_cmpR (op_neDK hr.units rfl) (pe_cl C_view_of hr_view_of (by rfl) (pa_cons (pv 0) (pa_cons (pe_ix (ix_listK rfl) (pv 6) (pe_op op_add (pv 7) pe_int) (fun _ _ => rfl)) (pa_cons (pv 2) pa_nil)))) (pv 8) (nomark _))
        (pss_one (ps_ret (pv 7)))
        pss_nil)))
      (pss_one (ps_ret pe_non)))))), fun e Q hq => sd_nm [_, _, _, _, _, _, _, _, _] rfl ?_⟩
  refine sd_seq (sd_unpack (ev_var rfl) (gd_cons (gd_cons gd_nil)) rfl (sd_nxt [_, _, _, _, _, _, _, _, _] rfl ?_))
  refine sd_seq (sd_asg (ev_call (y, mInit ws, row) (ea_cons (ev_var rfl) (ea_cons (ev_call ws (ea_cons (ev_var rfl) ea_nil) rfl trivial) (ea_cons (ev_var rfl) ea_nil))) rfl ⟨okInit wl.hl, rowOk hrow⟩) (sd_nxt [_, _, _, _, _, _, _, _, _] rfl ?_))
  refine sd_seq (sd_forIP (ei_enum (ea_cons (ev_var rfl) ea_nil)) (fun i => ∀ j, j < i → mBarAt y ws sg (row, vs) j = false)
    (fun i => [.val (eW y), .val (dL ws), .val (.int sg), .val (eR (row, vs)), .val (dL row), .val (.list vs), .val (.list ((mWalk y (mInit ws) row).map eS)), .any, .any]) (fun i => none) (fun j hj => absurd hj (Nat.not_lt_zero j)) rfl rfl (fun i d B hB hd hp => ?_) (fun hp => sd_next ?_))
  · obtain ⟨v, hv, rfl⟩ := enD_get hd
    have hi : i < vs.length := (List.getElem?_eq_some_iff.mp hv).1
    have ea : mBarAt y ws sg (row, vs) i = !PyData.eqv (mView y (mSt y (mInit ws) row (i + 1)) sg) v := by
      unfold mBarAt
      rw [List.getD_eq_getElem?_getD, hv]
      rfl
    refine ⟨_, _, gv_tup (gvs_cons gv_name (gvs_cons gv_name gvs_nil)) rfl, ?_⟩
    refine sd_nm [_, _, _, _, _, _, _, _, _] rfl ?_
    refine sd_if (et_test (ev_op (ev_call (y, mSt y (mInit ws) row (i + 1), sg) (ea_cons (ev_var rfl) (ea_cons (ev_op (ev_var rfl) (ev_op (ev_var rfl) ev_int rd_addI) (rd_ixL (at_walk (by omega)))) (ea_cons (ev_var rfl) ea_nil))) rfl (hlv (i + 1)).ok.bd) (ev_var rfl) (rd_neD (((hlv (i + 1)).viewPl sg).shaped (by decide)) ((hvs v (List.mem_of_getElem? hv)).pl.shaped (by decide))))) (fun hb => ?_) (fun hb => ?_)
    · refine sd_ret hq (ev_var rfl) ?_
      show PyData.int (i : Nat) = oI ((List.range vs.length).find? (mBarAt y ws sg (row, vs)))
      rw [find_yes hi (ea.trans hb) hp]
      rfl
    · refine sd_any 7 ?_
      refine sd_nm [_, _, _, _, _, _, _, _, _] rfl ?_
      refine sd_any 8 ?_
      refine sd_nm [_, _, _, _, _, _, _, _, _] rfl ?_
      have hp2 : ∀ j, j < i + 1 → mBarAt y ws sg (row, vs) j = false := fun j hj => by
        rcases Nat.lt_succ_iff_lt_or_eq.mp hj with h | h
        · exact hp j h
        · rw [h]; exact ea.trans hb
      exact fun G H σ bb s => ⟨hp2, G, bb, s⟩
  · refine sd_ret hq ev_non ?_
    show PyData.none = oI ((List.range vs.length).find? (mBarAt y ws sg (row, vs)))
    rw [find_no fun j hj => hp j (by rw [enD_len]; exact hj)]
    rfl
def mFrb (y : Way) (ws : List Str) (sg : Int) (rs : List Rec) : Option (Nat × Nat) := ((List.range rs.length).find? fun i => (mBar y ws sg (rs.getD i ([], []))).isSome).map fun i => (i, (mBar y ws sg (rs.getD i ([], []))).getD 0)
def oP : Option (Nat × Nat) → D
  | none => .none
  | some p => .tuple [.int (p.1 : Nat), .int (p.2 : Nat)]
theorem isNo_oI (o : Option Nat) : isNo (oI o) = o.isNone := by cases o <;> rfl
theorem isNo_oP (o : Option (Nat × Nat)) : isNo (oP o) = o.isNone := by cases o <;> rfl
structure FrOk (x : Way × List Str × Int × List Rec) : Prop where
  wl : WL x.1 x.2.1
  s : x.2.2.1 = 0 ∨ x.2.2.1 = 1
  r : RecsOk (x.2.2.2, x.2.2.1)
abbrev spFrb (K : PySem.W.Frag) : Sp := spA K (fun x : Way × List Str × Int × List Rec => [eW x.1, dL x.2.1, .int x.2.2.1, .list (x.2.2.2.map eR)]) FrOk fun x => oP (mFrb x.1 x.2.1 x.2.2.1 x.2.2.2)
theorem cl_first_record_bar (T : FT K mg "first_record_bar" s_first_record_bar ["way", "words", "sight", "records"]) (b2 : Bi2 mg) {k : Nat} (C_bar_of : Cl P w K mg base "bar_of" k ["way", "words", "sight", "record"] (spBar K)) :
    Cl P w K mg base "first_record_bar" (k + 1) ["way", "words", "sight", "records"] (spFrb K) := by
  obtain ⟨nenumerate, nzip⟩ := b2
  refine clA T sc_first_record_bar (fun _ => rfl) fun f cdv A outer s H E z hr hz => ?_
  have nd := sc_first_record_bar.nd
  have hr_bar_of := hr
  obtain ⟨y, ws, sg, rs⟩ := z
  obtain ⟨wl, hs, hrs⟩ := hz
  have wl : WL y ws := wl
  have hall : ∀ r ∈ rs, RecOk sg r := hrs.all
  refine ⟨_, ((pss_cons (ps_for PassesOwn.never rfl (pi_enumK rfl (by rfl) nenumerate (pa_cons (pv 3) pa_nil)) (pg_tupK rfl rfl (pgs_cons (pg_name (i := 4) nd rfl (by first | exact Or.inl rfl | exact Or.inr rfl)) (pgs_cons (pg_name (i := 5) nd rfl (by first | exact Or.inl rfl | exact Or.inr rfl)) pgs_nil)))
      (pss_cons (ps_set (i := 6) nd rfl (by first | exact Or.inl rfl | exact Or.inr rfl) (pe_cl C_bar_of hr_bar_of (by rfl) (pa_cons (pv 0) (pa_cons (pv 1) (pa_cons (pv 2) (pa_cons (pv 5) pa_nil))))))
        (pss_one (ps_if (pt_cmpR op_notN (pv 6) pe_non (nomark _))
        (pss_one (ps_ret (pe_tup (pa_cons (pv 4) (pa_cons (pv 6) pa_nil)))))
        pss_nil))))
      (pss_one (ps_ret pe_non)))), fun e Q hq => sd_nm [_, _, _, _, _, _, _] rfl ?_⟩
  refine sd_seq (sd_forIP (ei_enum (ea_cons (ev_var rfl) ea_nil)) (fun i => ∀ j, j < i → (mBar y ws sg (rs.getD j ([], []))).isSome = false)
    (fun i => [.val (eW y), .val (dL ws), .val (.int sg), .val (.list (rs.map eR)), .any, .any, .any]) (fun i => none) (fun j hj => absurd hj (Nat.not_lt_zero j)) rfl rfl (fun i d B hB hd hp => ?_) (fun hp => sd_next ?_))
  · obtain ⟨v, hv, rfl⟩ := enD_get hd
    rw [List.getElem?_map] at hv
    obtain ⟨r, hr2, rfl⟩ := Option.map_eq_some_iff.mp hv
    have hi : i < rs.length := (List.getElem?_eq_some_iff.mp hr2).1
    have hg : rs.getD i ([], []) = r := by rw [List.getD_eq_getElem?_getD, hr2]; rfl
    refine ⟨_, _, gv_tup (gvs_cons gv_name (gvs_cons gv_name gvs_nil)) rfl, ?_⟩
    refine sd_nm [_, _, _, _, _, _, _] rfl ?_
    refine sd_seq (sd_asg (ev_call (y, ws, sg, r) (ea_cons (ev_var rfl) (ea_cons (ev_var rfl) (ea_cons (ev_var rfl) (ea_cons (ev_var rfl) ea_nil)))) rfl ⟨wl, hs, hall r (List.mem_of_getElem? hr2)⟩) (sd_nxt [_, _, _, _, _, _, _] rfl ?_))
    refine sd_if (et_test (ev_op (ev_var rfl) ev_non rd_notN)) (fun hb => ?_) (fun hb => ?_)
    · refine sd_ret hq (ev_tup (ea_cons (ev_var rfl) (ea_cons (ev_var rfl) ea_nil))) ?_
      have hb : (!isNo (oI (mBar y ws sg r))) = true := hb
      rw [isNo_oI] at hb
      obtain ⟨n, hn⟩ : ∃ n, mBar y ws sg r = some n := by
        cases h : mBar y ws sg r with
        | none => rw [h] at hb; cases hb
        | some n => exact ⟨n, rfl⟩
      show PyData.tuple [.int (i : Nat), oI (mBar y ws sg r)] = oP (((List.range rs.length).find? fun i => (mBar y ws sg (rs.getD i ([], []))).isSome).map _)
      rw [find_yes hi (by rw [hg, hn]; rfl) hp, Option.map_some, hg, hn]
      rfl
    · have hb : (!isNo (oI (mBar y ws sg r))) = false := hb
      rw [isNo_oI] at hb
      refine sd_any 4 ?_
      refine sd_nm [_, _, _, _, _, _, _] rfl ?_
      refine sd_any 5 ?_
      refine sd_nm [_, _, _, _, _, _, _] rfl ?_
      refine sd_any 6 ?_
      refine sd_nm [_, _, _, _, _, _, _] rfl ?_
      have hp2 : ∀ j, j < i + 1 → (mBar y ws sg (rs.getD j ([], []))).isSome = false := fun j hj => by
        rcases Nat.lt_succ_iff_lt_or_eq.mp hj with h | h
        · exact hp j h
        · rw [h, hg]
          cases hm : mBar y ws sg r with
          | none => rfl
          | some n => rw [hm] at hb; cases hb
      exact fun G H σ bb s => ⟨hp2, G, bb, s⟩
  · refine sd_ret hq ev_non ?_
    show PyData.none = oP (((List.range rs.length).find? fun i => (mBar y ws sg (rs.getD i ([], []))).isSome).map _)
    rw [find_no fun j hj => hp j (by rw [enD_len, List.length_map]; exact hj)]
    rfl
theorem cl_first_bar (T : FT K mg "first_bar" s_first_bar ["way", "words", "sight", "record"]) {k : Nat} (C_check_field : Cl P w K mg base "check_field" k ["way", "words", "sight"] (spCkFd K)) (C_check_record : Cl P w K mg base "check_record" k ["record", "sight"] (spCkRec K)) (C_bar_of : Cl P w K mg base "bar_of" k ["way", "words", "sight", "record"] (spBar K)) :
    Cl P w K mg base "first_bar" (k + 1) ["way", "words", "sight", "record"] (spBar K) := by
  refine clA T sc_first_bar (fun _ => rfl) fun f cdv A outer s H E z hr hz => ?_
  have nd := sc_first_bar.nd
  have hr_check_field := hr
  have hr_check_record := hr
  have hr_bar_of := hr
  refine ⟨_, ((pss_cons (ps_expr (pe_cl C_check_field hr_check_field (by rfl) (pa_cons (pv 0) (pa_cons (pv 1) (pa_cons (pv 2) pa_nil)))))
      (pss_cons (ps_expr (pe_cl C_check_record hr_check_record (by rfl) (pa_cons (pv 3) (pa_cons (pv 2) pa_nil))))
      (pss_one (ps_ret (pe_cl C_bar_of hr_bar_of (by rfl) (pa_cons (pv 0) (pa_cons (pv 1) (pa_cons (pv 2) (pa_cons (pv 3) pa_nil)))))))))), fun e Q hq => sd_nm [_, _, _, _] rfl ?_⟩
  refine sd_seq (sd_drop (ev_call (z.1, z.2.1, z.2.2.1) (ea_cons (ev_var rfl) (ea_cons (ev_var rfl) (ea_cons (ev_var rfl) ea_nil))) rfl ⟨hz.wl.hw, hz.wl.hl, hz.s⟩) (sd_next ?_))
  refine sd_seq (sd_drop (ev_call (z.2.2.2, z.2.2.1) (ea_cons (ev_var rfl) (ea_cons (ev_var rfl) ea_nil)) rfl hz.r) (sd_next ?_))
  exact sd_ret hq (ev_call z (ea_cons (ev_var rfl) (ea_cons (ev_var rfl) (ea_cons (ev_var rfl) (ea_cons (ev_var rfl) ea_nil)))) rfl hz) rfl
abbrev spMade (K : PySem.W.Frag) : Sp := spA K encB BrOk fun x => .bool (mBar x.1 x.2.1 x.2.2.1 x.2.2.2).isNone
theorem cl_made (T : FT K mg "made" s_made ["way", "words", "sight", "record"]) {k : Nat} (C_first_bar : Cl P w K mg base "first_bar" k ["way", "words", "sight", "record"] (spBar K)) : Cl P w K mg base "made" (k + 1) ["way", "words", "sight", "record"] (spMade K) := by
  refine clA T sc_made (fun _ => rfl) fun f cdv A outer s H E z hr hz => ?_
  have nd := sc_made.nd
  have hr_first_bar := hr
  refine ⟨_, ((pss_one (ps_ret (pe_cmpR op_isN (pe_cl C_first_bar hr_first_bar (by rfl) (pa_cons (pv 0) (pa_cons (pv 1) (pa_cons (pv 2) (pa_cons (pv 3) pa_nil))))) pe_non (nomark _))))), fun e Q hq => sd_nm [_, _, _, _] rfl ?_⟩
  refine sd_ret hq (ev_op (ev_call z (ea_cons (ev_var rfl) (ea_cons (ev_var rfl) (ea_cons (ev_var rfl) (ea_cons (ev_var rfl) ea_nil)))) rfl hz) ev_non rd_isN) ?_
  rw [isNo_oI]
structure BsOk (x : List Way × List Str × Int × List Rec) : Prop where
  f : FamOk x.1
  wl : ∀ y ∈ x.1, WL y x.2.1
  l : mIsList x.2.1 = true
  s : x.2.2.1 = 0 ∨ x.2.2.1 = 1
  r : RecsOk (x.2.2.2, x.2.2.1)
abbrev encBs (x : List Way × List Str × Int × List Rec) : List D := [dFam x.1, dL x.2.1, .int x.2.2.1, .list (x.2.2.2.map eR)]
abbrev spBars (K : PySem.W.Frag) : Sp := spA K encBs BsOk fun x => .list (x.1.map fun y => oP (mFrb y x.2.1 x.2.2.1 x.2.2.2))
theorem cl_bars (T : FT K mg "bars" s_bars ["family", "words", "sight", "records"]) {k : Nat} (C_check_several : Cl P w K mg base "check_several" k ["family", "words", "sight"] (spCkSv K)) (C_check_records : Cl P w K mg base "check_records" k ["records", "sight"] (spCkRecs K)) (C_first_record_bar : Cl P w K mg base "first_record_bar" k ["way", "words", "sight", "records"] (spFrb K)) :
    Cl P w K mg base "bars" (k + 1) ["family", "words", "sight", "records"] (spBars K) := by
  refine clA T sc_bars (fun _ => rfl) fun f cdv A outer s H E z hr hz => ?_
  have nd := sc_bars.nd
  have hr_check_several := hr
  have hr_check_records := hr
  have hr_first_record_bar := hr
  have h8 := hz.f.2.1
  refine ⟨_, ((pss_cons (ps_expr (pe_cl C_check_several hr_check_several (by rfl) (pa_cons (pv 0) (pa_cons (pv 1) (pa_cons (pv 2) pa_nil)))))
      (pss_cons (ps_expr (pe_cl C_check_records hr_check_records (by rfl) (pa_cons (pv 3) (pa_cons (pv 2) pa_nil))))
      (pss_one (ps_ret (pe_lc (own := [("way", 4)]) (g := gName 4) (tt := tYes) rfl nd (pi_listK rfl (pv 0)) (blkOk_by (N := N_bars) (sc := (defScope s_bars)) (by decide +kernel)) (fun _ _ _ _ _ => (pg_name (i := 4) nd rfl (by first | exact Or.inl rfl | exact Or.inr rfl))) (fun _ _ _ _ _ => pts_nil) (fun _ _ _ _ _ => (pe_cl C_first_record_bar hr_first_record_bar (by rfl) (pa_cons (pv 4) (pa_cons (pv 1) (pa_cons (pv 2) (pa_cons (pv 3) pa_nil)))))))))))), fun e Q hq => sd_nm [_, _, _, _, _] rfl ?_⟩
  refine sd_seq (sd_drop (ev_call (z.1, z.2.1, z.2.2.1) (ea_cons (ev_var rfl) (ea_cons (ev_var rfl) (ea_cons (ev_var rfl) ea_nil))) rfl ⟨hz.f, hz.l, hz.s⟩) (sd_next ?_))
  refine sd_seq (sd_drop (ev_call (z.2.2.2, z.2.2.1) (ea_cons (ev_var rfl) (ea_cons (ev_var rfl) ea_nil)) rfl hz.r) (sd_next ?_))
  exact sd_ret hq (ev_fz (ef_lcLm z.1 eW (fun y => oP (mFrb y z.2.1 z.2.2.1 z.2.2.2)) (ev_var rfl) rfl (by omega) (fun x hx => (ev_call (x, z.2.1, z.2.2.1, z.2.2.2) (ea_cons (ev_var rfl) (ea_cons (ev_var rfl) (ea_cons (ev_var rfl) (ea_cons (ev_var rfl) ea_nil)))) rfl ⟨hz.wl x hx, hz.s, hz.r⟩)))) rfl
def mRem (ys : List Way) (ws : List Str) (sg : Int) (rs : List Rec) : List Nat := ((ys.zipIdx).filter fun p => (mFrb p.1 ws sg rs).isNone).map (·.2)
abbrev spRem (K : PySem.W.Frag) : Sp := spA K encBs BsOk fun x => .list ((mRem x.1 x.2.1 x.2.2.1 x.2.2.2).map fun i => .int (i : Nat))
theorem cl_remains (T : FT K mg "remains" s_remains ["family", "words", "sight", "records"]) (b2 : Bi2 mg) {k : Nat} (C_bars : Cl P w K mg base "bars" k ["family", "words", "sight", "records"] (spBars K)) : Cl P w K mg base "remains" (k + 1) ["family", "words", "sight", "records"] (spRem K) := by
  obtain ⟨nenumerate, nzip⟩ := b2
  refine clA T sc_remains (fun _ => rfl) fun f cdv A outer s H E z hr hz => ?_
  have nd := sc_remains.nd
  have hr_bars := hr
  have h8 := hz.f.2.1
  refine ⟨_, ((pss_cons (ps_set (i := 4) nd rfl (by first | exact Or.inl rfl | exact Or.inr rfl) (pe_cl C_bars hr_bars (by rfl) (pa_cons (pv 0) (pa_cons (pv 1) (pa_cons (pv 2) (pa_cons (pv 3) pa_nil))))))
      (pss_one (ps_ret (pe_lc (own := [("place", 5), ("bar", 6)]) (g := (gTup _ 2 (gCons (gName 5) (gCons (gName 6) gNil)))) (tt := _) rfl nd (pi_enumK rfl (by rfl) nenumerate (pa_cons (pv 4) pa_nil)) (blkOk_by (N := N_remains) (sc := (defScope s_remains)) (by decide +kernel)) (fun _ _ _ _ _ => (pg_tupK rfl rfl (pgs_cons (pg_name (i := 5) nd rfl (by first | exact Or.inl rfl | exact Or.inr rfl)) (pgs_cons (pg_name (i := 6) nd rfl (by first | exact Or.inl rfl | exact Or.inr rfl)) pgs_nil)))) (fun _ _ _ _ _ => pts_one (pt_cmpR op_isN (pv 6) pe_non (nomark _))) (fun _ _ _ _ _ => (pv 5))))))), fun e Q hq => sd_nm [_, _, _, _, _, _, _] rfl ?_⟩
  refine sd_seq (sd_asg (ev_call z (ea_cons (ev_var rfl) (ea_cons (ev_var rfl) (ea_cons (ev_var rfl) (ea_cons (ev_var rfl) ea_nil)))) rfl hz) (sd_nxt [_, _, _, _, _, _, _] rfl ?_))
  refine sd_ret hq (ev_fz (ef_lcIp (z.1.zipIdx) (fun p => .tuple [.int (p.2 : Nat), oP (mFrb p.1 z.2.1 z.2.2.1 z.2.2.2)]) (fun p => (mFrb p.1 z.2.1 z.2.2.1 z.2.2.2).isNone) (fun p => .int (p.2 : Nat)) (ei_cast (ei_enum (ea_cons (ev_var rfl) ea_nil)) (enD_map z.1 fun y => oP (mFrb y z.2.1 z.2.2.1 z.2.2.2))) ?_ (by rw [List.length_zipIdx]; omega) (fun x hx => ⟨_, _, fun _ h => h, gv_tup (gvs_cons gv_name (gvs_cons gv_name gvs_nil)) rfl, EvT.of (et_test (ev_op (ev_var rfl) ev_non rd_isN)) (isNo_oP _), fun hb => (ev_var rfl)⟩))) ?_
  · intro j hj
    rcases List.mem_cons.mp hj with rfl | hj
    · rfl
    · rcases List.mem_cons.mp hj with rfl | hj
      · rfl
      · cases hj
  · show PyData.list _ = PyData.list ((mRem z.1 z.2.1 z.2.2.1 z.2.2.2).map fun i => .int (i : Nat))
    unfold mRem
    rw [List.map_map]
    rfl
end

end Fo
namespace Fo
open PySem PySem.Spec PyProof.Rows L2 DL DR
abbrev s__law_true : Stmt := topS 81
abbrev N__law_true : List Str := ["_law_value", "_law_expected"]
theorem sc__law_true : FnScope N__law_true ["_law_value", "_law_expected"] (defScope s__law_true) := ⟨rfl, rfl, rfl, by decide +kernel, rfl, by decide +kernel, by decide +kernel⟩
abbrev s__law_views : Stmt := topS 93
abbrev N__law_views : List Str := ["_law_way_here", "_law_words", "_law_sight", "_law_row_here", "_law_state"]
theorem sc__law_views : FnScope N__law_views ["_law_way_here", "_law_words", "_law_sight", "_law_row_here"] (defScope s__law_views) := ⟨rfl, rfl, rfl, by decide +kernel, rfl, by decide +kernel, by decide +kernel⟩
abbrev s__law_groups : Stmt := topS 94
abbrev N__law_groups : List Str := ["_law_told", "_law_first", "_law_k", "_law_j"]
theorem sc__law_groups : FnScope N__law_groups ["_law_told"] (defScope s__law_groups) := ⟨rfl, rfl, rfl, by decide +kernel, rfl, by decide +kernel, by decide +kernel⟩

section
variable {P : Program} {w : World} {K : PySem.W.Frag} {mg : Str → Option Value} {base : Heap}
theorem Cl.up {x : Str} {j k : Nat} {ps : List Str} {sp : Sp} (h : Cl P w K mg base x j ps sp) (hk : j ≤ k := by decide) : Cl P w K mg base x k ps sp := by
  obtain ⟨f, fd, o, r⟩ := h
  exact ⟨f, fd, o.mono hk, r⟩
theorem ClX.up {x : Str} {j k : Nat} {ps : List Str} {sp : Sp} (h : ClX P w K mg base x j ps sp) (hk : j ≤ k := by decide) : ClX P w K mg base x k ps sp := by
  obtain ⟨f, fd, o, r⟩ := h
  exact ⟨f, fd, o.mono hk, r⟩
/-! ### a law -/
abbrev spLaw (K : PySem.W.Frag) : Sp := fun vs H Q _ => ∃ (a : Addr) (ns : List Int), vs = [.ref a] ∧ SqL K H a (ns.map V.int) ∧ ns.length ≤ 63 ∧ ∀ H', Q (.bl true) H'
def e0 : En := ⟨fun _ => False, fun _ => none, fun _ => none⟩
theorem law_begin {N : List Str} {n : Nat} {t : TS} {E : Ends} {Ex' : XK} {a : Addr} {ns : List Int} {H : Hp} (hN : N.length = n + 2) (hS : SqL K H a (ns.map V.int)) (hl : ns.length ≤ 63) (k : ∀ d : Dr, d.st = ⟨ns0 ns, 0⟩ → SD K e0 (fun _ => none) t E (.any :: .drw :: List.replicate n .any) (some d)) :
    tSeq (tAsg (tCall (spStart K) [] Ex' (tCons (tVar 0) tNil)) (gName 1)) t E (L2.start N [.ref a]) H := by
  have es : L2.start N [.ref a] = some (.ref a) :: none :: List.replicate n none := by
    unfold L2.start
    rw [hN]
    rfl
  rw [es]
  refine ⟨.ref a, rfl, a, ns, rfl, hS, hl, fun p q H' hne hp hq => ?_⟩
  have st : Stt K e0 (fun _ => none) H' (some (.ref a) :: some (.ref p) :: List.replicate n none) (.any :: .drw :: List.replicate n .any) (some ⟨p, q, ns0 ns, 0, []⟩) := by
    refine Stt.mk (fun a u h => by cases h) (Evl.Ex.refl _) (fun a h => False.elim h) (fun a h => False.elim h) (by simp) (fun i y hy => ?_) (fun i j y1 y2 p w1 w2 h => ?_) ⟨rfl, rfl, hne, id, id, hp, hq, ObOk.nil, ObDj.nil⟩
    · rcases i with _ | _ | i
      · cases hy; exact ⟨_, rfl, .any _⟩
      · cases hy; exact ⟨_, rfl, .drw rfl⟩
      · have hy : (List.replicate n SV.any)[i]? = some y := hy
        rw [List.getElem?_replicate] at hy
        split at hy
        · cases hy
          rename_i hlt
          refine ⟨none, ?_, .any _⟩
          show (List.replicate n none)[i]? = some none
          rw [List.getElem?_replicate, if_pos hlt]
        · cases hy
    · exfalso
      rcases i with _ | _ | i
      · cases h; cases w1
      · cases h; cases w1
      · have h : (List.replicate n SV.any)[i]? = some y1 := h
        rw [List.getElem?_replicate] at h
        split at h
        · cases h; cases w1
        · cases h
  exact k ⟨p, q, ns0 ns, 0, []⟩ rfl (fun _ => none) H' _ (Evl.Ex.refl _) st
theorem law_begin0 {N : List Str} {n : Nat} {t : TS} {E : Ends} {Ex' : XK} {a : Addr} {ns : List Int} {H : Hp} (hN : N.length = n + 2) (hS : SqL K H a (ns.map V.int)) (hl : ns.length ≤ 63) (k : ∀ d : Dr, d.st = ⟨ns0 ns, 0⟩ ∧ d.ob = [] → SD K e0 (fun _ => none) t E (.any :: .drw :: List.replicate n .any) (some d)) :
    tSeq (tAsg (tCall (spStart K) [] Ex' (tCons (tVar 0) tNil)) (gName 1)) t E (L2.start N [.ref a]) H := by
  have es : L2.start N [.ref a] = some (.ref a) :: none :: List.replicate n none := by
    unfold L2.start
    rw [hN]
    rfl
  rw [es]
  refine ⟨.ref a, rfl, a, ns, rfl, hS, hl, fun p q H' hne hp hq => ?_⟩
  have st : Stt K e0 (fun _ => none) H' (some (.ref a) :: some (.ref p) :: List.replicate n none) (.any :: .drw :: List.replicate n .any) (some ⟨p, q, ns0 ns, 0, []⟩) := by
    refine Stt.mk (fun a u h => by cases h) (Evl.Ex.refl _) (fun a h => False.elim h) (fun a h => False.elim h) (by simp) (fun i y hy => ?_) (fun i j y1 y2 p w1 w2 h => ?_) ⟨rfl, rfl, hne, id, id, hp, hq, ObOk.nil, ObDj.nil⟩
    · rcases i with _ | _ | i
      · cases hy; exact ⟨_, rfl, .any _⟩
      · cases hy; exact ⟨_, rfl, .drw rfl⟩
      · have hy : (List.replicate n SV.any)[i]? = some y := hy
        rw [List.getElem?_replicate] at hy
        split at hy
        · cases hy
          rename_i hlt
          refine ⟨none, ?_, .any _⟩
          show (List.replicate n none)[i]? = some none
          rw [List.getElem?_replicate, if_pos hlt]
        · cases hy
    · exfalso
      rcases i with _ | _ | i
      · cases h; cases w1
      · cases h; cases w1
      · have h : (List.replicate n SV.any)[i]? = some y1 := h
        rw [List.getElem?_replicate] at h
        split at h
        · cases h; cases w1
        · cases h
  exact k ⟨p, q, ns0 ns, 0, []⟩ ⟨rfl, rfl⟩ (fun _ => none) H' _ (Evl.Ex.refl _) st
theorem ev_callWG {X : Type} {enc : X → List D} {dom : X → Ds → Prop} {fn : X → Ds → D × Ds} {τ : List SV} {t : TA} {Ex' : XK} {i : Nat} {x0 d : Dr} {s s' : Ds} {v : D} {ds : List D} (x : X) (hr : fn x s = (v, s')) (hi : τ[i]? = some .drw) (h : EvA K t τ (some x0) ds (some (d.go s))) (hx : ds = enc x) (hd : dom x s) :
    Ev K (tCall (spW K enc dom fn) [] Ex' (tCons (tVar i) t)) τ (some x0) v (some (d.go s')) := by
  have := ev_callW (fn := fn) (dom := dom) (Ex' := Ex') x hi h hx hd
  rw [Dr.go_st, hr] at this
  exact this
theorem one_sub {j k : Nat} (h : j ∈ [k]) : j = k := by
  rcases List.mem_cons.mp h with h | h
  · exact h
  · cases h
theorem mem_srt {x : Str} {xs : List Str} (h : x ∈ srt xs) : x ∈ xs := (List.mergeSort_perm xs leS).mem_iff.mp h
theorem keys_ok : ∀ k ∈ keysS, PyData.strOk k = true := by decide +kernel
theorem texts_ok : ∀ k ∈ mTexts 4, PyData.strOk k = true := by decide +kernel
theorem fls {a : Bool} {p : Prop} (h : a = true) (e : a = false) : p := by rw [h] at e; cases e
theorem ds0_ok {d : Dr} {ns : List Int} (hl : ns.length ≤ 63) (hd : d.st = ⟨ns0 ns, 0⟩) : DsOk d.st := by
  rw [hd]
  unfold DsOk ns0
  show 0 < (if _ then _ else _ : List Int).length ∧ (if _ then _ else _ : List Int).length ≤ 1000
  split
  · exact ⟨by decide, by decide⟩
  · rename_i h
    exact ⟨List.length_pos_iff.mpr h, by omega⟩
end

/-! ### the laws' shared helpers: truth, views, groups -/
section
variable {P : Program} {w : World} {K : PySem.W.Frag} {mg : Str → Option Value} {base : Heap}
theorem kBB : kitB "bool" "bool" = some true := by decide +kernel
abbrev spLTrue (K : PySem.W.Frag) : Sp := spA K (fun x : Bool × Bool => [.bool x.1, .bool x.2]) (fun _ => True) fun x => .bool (x.1 == x.2)
theorem cl__law_true (T : FT K mg "_law_true" s__law_true ["_law_value", "_law_expected"]) (b : Bi mg) : Cl P w K mg base "_law_true" 1 ["_law_value", "_law_expected"] (spLTrue K) := by
  obtain ⟨nlen, nisinstance, nall, nmin, ntuple, nlist, nset, nsorted, nrange, nstr, nint, nbool⟩ := b
  refine clA T sc__law_true (fun _ => rfl) fun f cdv A outer s H E z hr hz => ?_
  have nd := sc__law_true.nd
  obtain ⟨x, y⟩ := z
  refine ⟨_, ((pss_one (ps_ret (pe_and (pe_callB (call_isJ rfl) (by rfl) nisinstance (by decide +kernel) (pa_cons (pv 0) (pa_cons (pe_bltn (v := .ty "bool") (by rfl) nbool (by decide +kernel) rfl) pa_nil))) (pe_one (pe_cmpR (op_eqDK hr.units rfl) (pv 0) (pv 1) (nomark _))))))), fun e Q hq => sd_nm [_, _] rfl ?_⟩
  refine sd_ret hq (ev_and (ev_isi (b := true) (ev_var rfl) kBB) fun _ => (ev_op (ev_var rfl) (ev_var rfl) (rd_eqD (by cases x <;> rfl) (by cases y <;> rfl)))) ?_
  cases x <;> cases y <;> rfl
structure LVs (x : Way × List Str × Int × List Str) : Prop where
  ls : LS (x.1, x.2.1, x.2.2.2)
  s : x.2.2.1 = 0 ∨ x.2.2.1 = 1
abbrev spLViews (K : PySem.W.Frag) : Sp := spF K (fun x : Way × List Str × Int × List Str => [eW x.1, dL x.2.1, .int x.2.2.1, dL x.2.2.2]) LVs fun x => mViews x.1 x.2.1 x.2.2.1 x.2.2.2
theorem cl__law_views (T : FT K mg "_law_views" s__law_views ["_law_way_here", "_law_words", "_law_sight", "_law_row_here"]) {k : Nat} (C__law_states : Cl P w K mg base "_law_states" k ["_law_way_here", "_law_words", "_law_row_here"] (spLStates K)) (C__law_view : Cl P w K mg base "_law_view" k ["_law_way_here", "_law_state", "_law_sight"] (spLView K)) :
    Cl P w K mg base "_law_views" (k + 1) ["_law_way_here", "_law_words", "_law_sight", "_law_row_here"] (spLViews K) := by
  refine clF T sc__law_views (fun _ => rfl) fun f cdv A outer s H E z hr hz => ?_
  have nd := sc__law_views.nd
  have hr__law_states := hr
  have hr__law_view := hr
  obtain ⟨y, ws, sg, row⟩ := z
  obtain ⟨ls, hs⟩ := hz
  have ls : LS (y, ws, row) := ls
  have hl : row.length ≤ 1000 := ls.r.1
  refine ⟨_, ((pss_one (ps_ret (pe_lc (own := [("_law_state", 4)]) (g := gName 4) (tt := tYes) rfl nd (pi_listK rfl (pe_slice (sl_listK rfl) (pe_cl C__law_states hr__law_states (by rfl) (pa_cons (pv 0) (pa_cons (pv 1) (pa_cons (pv 3) pa_nil)))) (po_some pe_int) po_none)) (blkOk_by (N := N__law_views) (sc := (defScope s__law_views)) (by decide +kernel)) (fun _ _ _ _ _ => (pg_name (i := 4) nd rfl (by first | exact Or.inl rfl | exact Or.inr rfl))) (fun _ _ _ _ _ => pts_nil) (fun _ _ _ _ _ => (pe_cl C__law_view hr__law_view (by rfl) (pa_cons (pv 0) (pa_cons (pv 4) (pa_cons (pv 2) pa_nil))))))))), fun e Q hq => sd_nm [_, _, _, _, _] rfl ?_⟩
  refine sd_retF hq (ef_lcLm ((mWalk y (mInit ws) row).drop 1) eS (fun s => mView y s sg) (Ev.of (ev_slL (ev_call (y, ws, row) (ea_cons (ev_var rfl) (ea_cons (ev_var rfl) (ea_cons (ev_var rfl) ea_nil))) rfl ls) (es_at ev_int) es_no) (by rw [show (1 : Int) = ((1 : Nat) : Int) from rfl, cutD_from, List.map_drop])) rfl (by rw [List.length_drop, mWalk_len]; omega) (fun x hx => (ev_call (y, x, sg) (ea_cons (ev_var rfl) (ea_cons (ev_var rfl) (ea_cons (ev_var rfl) ea_nil))) rfl ⟨?_, hs⟩))) rfl
  obtain ⟨i, _, rfl⟩ := List.mem_map.mp (List.mem_of_mem_drop hx)
  exact ls.ld i
/-- the groups of places with equal things -/
def gFst (ds : List D) : List Nat := (List.range ds.length).filter fun k => !(ds.take k).any fun z => PyData.eqv z (ds.getD k .none)
def gOf (ds : List D) (j : Nat) : List Nat := (List.range ds.length).filter fun k => PyData.eqv (ds.getD k .none) (ds.getD j .none)
def mGrp (ds : List D) : List (List Nat) := (gFst ds).map (gOf ds)
abbrev dIx (xs : List Nat) : D := .list (xs.map fun i => .int (i : Nat))
def TdOk (ds : List D) : Prop := ds.length ≤ 1000 ∧ ∀ d ∈ ds, Pl 40 d
abbrev spLGroups (K : PySem.W.Frag) : Sp := spA K (fun ds : List D => [.list ds]) TdOk fun ds => .list ((mGrp ds).map dIx)
theorem at_getD {ds : List D} {k : Nat} (h : k < ds.length) : atI ds (k : Int) = some (ds.getD k .none) := by
  rw [atI_nat (List.getElem?_eq_getElem h), List.getD_eq_getElem?_getD, List.getElem?_eq_getElem h]
  rfl
theorem mem_getD {ds : List D} {k : Nat} (h : k < ds.length) : ds.getD k .none ∈ ds := by
  rw [List.getD_eq_getElem?_getD, List.getElem?_eq_getElem h]
  exact List.getElem_mem h
theorem cutD_upto {ds : List D} (k : Nat) : cutDs ds none (some (k : Int)) = ds.take k := by
  unfold cutDs
  rw [HT.sIx_none, HT.sIx_nat, List.drop_zero, Nat.sub_zero]
  rcases Nat.le_total k ds.length with h | h
  · rw [Nat.min_eq_left h]
  · rw [Nat.min_eq_right h, List.take_length, List.take_of_length_le h]
theorem cl__law_groups (T : FT K mg "_law_groups" s__law_groups ["_law_told"]) (b : Bi mg) : Cl P w K mg base "_law_groups" 1 ["_law_told"] (spLGroups K) := by
  obtain ⟨nlen, nisinstance, nall, nmin, ntuple, nlist, nset, nsorted, nrange, nstr, nint, nbool⟩ := b
  refine clA T sc__law_groups (fun _ => rfl) fun f cdv A outer s H E ds hr hz => ?_
  have nd := sc__law_groups.nd
  obtain ⟨hl, hp⟩ := hz
  have sh : ∀ k, k < ds.length → SeqAt.shaped (ds.getD k .none) = true := fun k hk => (hp _ (mem_getD hk)).shaped (by decide)
  have pt : ∀ k, Pl 41 (.list (ds.take k)) := fun k => .list 40 _ fun d hd => hp d (List.mem_of_mem_take hd)
  refine ⟨_, ((pss_cons (ps_setLc (i := 1) (own := [("_law_k", 2)]) (g := gName 2) (tt := _) rfl nd rfl rfl (sw_true rfl rfl rfl (by decide +kernel)) (pi_range1 (by rfl) nrange (pa_cons (pe_callB (call_lenK rfl) (by rfl) nlen (by decide +kernel) (pa_cons (pv 0) pa_nil)) pa_nil)) (blkOk_by (N := N__law_groups) (sc := (defScope s__law_groups)) (by decide +kernel)) (fun _ _ _ _ _ => (pg_name (i := 2) nd rfl (by first | exact Or.inl rfl | exact Or.inr rfl))) (fun _ _ _ _ _ => pts_one (pt_cmpR (op_notInDeepK (ru65 hr) rfl) (pe_ix (ix_listK rfl) (pv 0) (pv 2) (fun _ _ => rfl)) (pe_slice (sl_listK rfl) (pv 0) po_none (po_some (pv 2))) rfl)) (fun _ _ _ _ _ => (pv 2)))
      (pss_one (ps_ret (pe_lc (own := [("_law_j", 3)]) (g := gName 3) (tt := tYes) rfl nd (pi_listK rfl (pv 1)) (blkOk_by (N := N__law_groups) (sc := (defScope s__law_groups)) (by decide +kernel)) (fun _ _ _ _ _ => (pg_name (i := 3) nd rfl (by first | exact Or.inl rfl | exact Or.inr rfl))) (fun _ _ _ _ _ => pts_nil) (fun _ _ _ _ _ => (pe_lc (own := [("_law_k", 2)]) (g := gName 2) (tt := _) rfl nd (pi_range1 (by rfl) nrange (pa_cons (pe_callB (call_lenK rfl) (by rfl) nlen (by decide +kernel) (pa_cons (pv 0) pa_nil)) pa_nil)) (blkOk_by (N := N__law_groups) (sc := (relS _ (defScope s__law_groups))) (by decide +kernel)) (fun _ _ _ _ _ => (pg_name (i := 2) nd rfl (by first | exact Or.inl rfl | exact Or.inr rfl))) (fun _ _ _ _ _ => pts_one (pt_cmpR (op_eqDK hr.units rfl) (pe_ix (ix_listK rfl) (pv 0) (pv 2) (fun _ _ => rfl)) (pe_ix (ix_listK rfl) (pv 0) (pv 3) (fun _ _ => rfl)) (nomark _))) (fun _ _ _ _ _ => (pv 2))))))))), fun e Q hq => sd_nm [_, _, _, _] rfl ?_⟩
  refine sd_seq (sd_asgF (ef_lcIp (List.range ds.length) (fun i => .int (i : Nat)) (fun k => !(ds.take k).any fun z => PyData.eqv z (ds.getD k .none)) (fun i => .int (i : Nat)) (ei_rngN (ea_cons (ev_cb (ea_cons (ev_var rfl) ea_nil) rc_lenL) ea_nil) (by omega)) (fun j hj => by rw [one_sub hj]; rfl) (by rw [List.length_range]; omega) (fun k hk => ⟨_, _, fun _ h => h, gv_name, (et_test (ev_op (ev_op (ev_var rfl) (ev_var rfl) (rd_ixL (at_getD (List.mem_range.mp hk)))) (Ev.of (ev_slL (ev_var rfl) es_no (es_at (ev_var rfl))) (congrArg PyData.list (cutD_upto k))) (rd_notInDeep (sh k (List.mem_range.mp hk)) ((pt k).shaped (by decide))))), fun hb => (ev_var rfl)⟩)) (sd_nxt [_, _, _, _] rfl ?_))
  refine sd_fz 1 rfl ?_
  refine sd_nm [_, _, _, _] rfl ?_
  refine sd_ret hq (ev_fz (ef_lcLm (gFst ds) (fun i => .int (i : Nat)) (fun j => dIx (gOf ds j)) (ev_var rfl) rfl ?_ (fun j hj => (ev_fz (ef_lcIp (List.range ds.length) (fun i => .int (i : Nat)) (fun k => PyData.eqv (ds.getD k .none) (ds.getD j .none)) (fun i => .int (i : Nat)) (ei_rngN (ea_cons (ev_cb (ea_cons (ev_var rfl) ea_nil) rc_lenL) ea_nil) (by omega)) (fun j hj => by rw [one_sub hj]; rfl) (by rw [List.length_range]; omega) (fun k hk => ⟨_, _, fun _ h => h, gv_name, (et_test (ev_op (ev_op (ev_var rfl) (ev_var rfl) (rd_ixL (at_getD (List.mem_range.mp hk)))) (ev_op (ev_var rfl) (ev_var rfl) (rd_ixL (at_getD ?_))) (rd_eqD (sh k (List.mem_range.mp hk)) (sh j ?_)))), fun hb => (ev_var rfl)⟩)))))) ?_
  · unfold gFst
    exact Nat.le_trans (List.length_filter_le _ _) (by rw [List.length_range]; omega)
  · exact List.mem_range.mp (List.mem_filter.mp hj).1
  · exact List.mem_range.mp (List.mem_filter.mp hj).1
  · show PyData.list _ = PyData.list ((mGrp ds).map dIx)
    unfold mGrp
    rw [List.map_map]
    rfl
end

end Fo
namespace Fo
open PySem PySem.Spec PyProof.Rows L2 DL DR
abbrev s_groups : Stmt := topS 76
abbrev N_groups : List Str := ["family", "words", "sight", "row", "shown", "place", "way", "views"]
theorem sc_groups : FnScope N_groups ["family", "words", "sight", "row"] (defScope s_groups) := ⟨rfl, rfl, rfl, by decide +kernel, rfl, by decide +kernel, by decide +kernel⟩

section
variable {P : Program} {w : World} {K : PySem.W.Frag} {mg : Str → Option Value} {base : Heap}
/-! ### places put together by what is seen -/
def fstI (sm : Nat → Nat → Bool) (i : Nat) : List Nat := (List.range i).filter fun k => !(List.range k).any fun m => sm m k
def grpI (sm : Nat → Nat → Bool) (n j : Nat) : List Nat := (List.range n).filter fun k => sm k j
theorem fst_succ {sm : Nat → Nat → Bool} {i : Nat} : fstI sm (i + 1) = fstI sm i ++ if (List.range i).any (fun m => sm m i) = true then [] else [i] := by
  unfold fstI
  rw [List.range_succ, List.filter_append]
  congr 1
  cases h : (List.range i).any (fun m => sm m i) <;> simp [h]
theorem grp_succ {sm : Nat → Nat → Bool} {i j : Nat} : grpI sm (i + 1) j = grpI sm i j ++ if sm i j = true then [i] else [] := by
  unfold grpI
  rw [List.range_succ, List.filter_append]
  congr 1
  cases h : sm i j <;> simp [h]
/-- the groups as they grow -/
def gFold (keys : Nat → D) : Nat → Grp
  | 0 => []
  | i + 1 => gput (gFold keys i) (keys i) (.int (i : Nat))
abbrev smK (keys : Nat → D) (a b : Nat) : Bool := decide (toK (keys a) = toK (keys b))
theorem first_of {p : Nat → Bool} : ∀ {i : Nat}, (List.range i).any p = true → ∃ m, m < i ∧ p m = true ∧ ∀ k, k < m → p k = false
  | 0, h => by simp at h
  | i + 1, h => by
    by_cases h1 : (List.range i).any p = true
    · obtain ⟨m, a, b, c⟩ := first_of h1
      exact ⟨m, by omega, b, c⟩
    · rw [List.range_succ, List.any_append, Bool.or_eq_true] at h
      rcases h with h | h
      · exact absurd h h1
      · refine ⟨i, by omega, by simpa using h, fun k hk => ?_⟩
        cases hp : p k with
        | false => rfl
        | true => exact absurd (List.any_eq_true.mpr ⟨k, List.mem_range.mpr hk, hp⟩) h1
theorem gFold_eq (keys : Nat → D) : ∀ i, gFold keys i = (fstI (smK keys) i).map fun j => (keys j, (grpI (smK keys) i j).map fun k => .int (k : Nat))
  | 0 => rfl
  | i + 1 => by
    show gput (gFold keys i) (keys i) _ = _
    rw [gFold_eq keys i, fst_succ]
    have hin : gIn ((fstI (smK keys) i).map fun j => (keys j, (grpI (smK keys) i j).map fun k => PyData.int (k : Nat))) (keys i) ↔ (List.range i).any (fun m => smK keys m i) = true := by
      unfold gIn
      rw [List.map_map]
      constructor
      · intro h
        obtain ⟨j, hj, e⟩ := List.mem_map.mp h
        have hj2 := (List.mem_filter.mp hj).1
        exact List.any_eq_true.mpr ⟨j, hj2, decide_eq_true e⟩
      · intro h
        obtain ⟨m, h1, h2, h3⟩ := first_of h
        refine List.mem_map.mpr ⟨m, List.mem_filter.mpr ⟨List.mem_range.mpr h1, ?_⟩, of_decide_eq_true h2⟩
        rw [Bool.not_eq_true', List.any_eq_false]
        intro k hk hs
        have h4 := h3 k (List.mem_range.mp hk)
        have e1 : toK (keys k) = toK (keys m) := of_decide_eq_true hs
        have e2 : toK (keys m) = toK (keys i) := of_decide_eq_true h2
        rw [show smK keys k i = true from decide_eq_true (e1.trans e2)] at h4
        cases h4
    unfold gput
    by_cases ha : (List.range i).any (fun m => smK keys m i) = true
    · rw [if_pos (hin.mpr ha), if_pos ha, List.append_nil, List.map_map]
      refine List.map_congr_left fun j hj => ?_
      show (if toK (keys j) = toK (keys i) then (keys j, (grpI (smK keys) i j).map (fun k => PyData.int (k : Nat)) ++ [.int (i : Nat)]) else (keys j, (grpI (smK keys) i j).map fun k => PyData.int (k : Nat))) = (keys j, (grpI (smK keys) (i + 1) j).map fun k => PyData.int (k : Nat))
      rw [grp_succ]
      by_cases hs : toK (keys j) = toK (keys i)
      · rw [if_pos hs, if_pos (decide_eq_true hs.symm), List.map_append]
        rfl
      · rw [if_neg hs, if_neg (fun z => hs (of_decide_eq_true z).symm), List.append_nil]
    · rw [if_neg (fun z => ha (hin.mp z)), if_neg ha, List.map_append]
      have hno : ∀ m, m < i → ¬ toK (keys m) = toK (keys i) := fun m hm e => ha (List.any_eq_true.mpr ⟨m, List.mem_range.mpr hm, decide_eq_true e⟩)
      congr 1
      · refine List.map_congr_left fun j hj => ?_
        have hji := List.mem_range.mp (List.mem_filter.mp hj).1
        rw [grp_succ, if_neg (fun z => hno j hji (of_decide_eq_true z).symm), List.append_nil]
      · show [(keys i, [PyData.int (i : Nat)])] = [(keys i, (grpI (smK keys) (i + 1) i).map fun k => PyData.int (k : Nat))]
        rw [grp_succ, if_pos (decide_eq_true rfl)]
        have e0 : grpI (smK keys) i i = [] := by
          unfold grpI
          rw [List.filter_eq_nil_iff]
          intro m hm hs
          exact hno m (List.mem_range.mp hm) (of_decide_eq_true hs)
        rw [e0]
        rfl
theorem any_take {α : Type} (l : List α) (d : α) (p : α → Bool) {k : Nat} (hk : k ≤ l.length) : (l.take k).any p = (List.range k).any fun m => p (l.getD m d) := by
  have e : l.take k = (List.range k).map fun m => l.getD m d := by
    refine List.ext_getElem? fun i => ?_
    rw [List.getElem?_map]
    by_cases h : i < k
    · rw [List.getElem?_range h, List.getElem?_take_of_lt h, Option.map_some, List.getD_eq_getElem?_getD, List.getElem?_eq_getElem (by omega)]
      rfl
    · rw [List.getElem?_eq_none (by rw [List.length_take]; omega), List.getElem?_eq_none (by rw [List.length_range]; omega)]
      rfl
  rw [e, List.any_map]
  rfl
theorem mGrp_eq (ds : List D) (sm : Nat → Nat → Bool) (h : ∀ a b, a < ds.length → b < ds.length → PyData.eqv (ds.getD a .none) (ds.getD b .none) = sm a b) : mGrp ds = (fstI sm ds.length).map (grpI sm ds.length) := by
  unfold mGrp
  have e1 : gFst ds = fstI sm ds.length := by
    unfold gFst fstI
    refine List.filter_congr fun k hk => ?_
    have hk := List.mem_range.mp hk
    rw [any_take ds .none _ (by omega)]
    congr 1
    rw [Bool.eq_iff_iff, List.any_eq_true, List.any_eq_true]
    constructor
    · rintro ⟨m, h1, h2⟩
      exact ⟨m, h1, by rw [← h m k (by have := List.mem_range.mp h1; omega) hk]; exact h2⟩
    · rintro ⟨m, h1, h2⟩
      exact ⟨m, h1, by rw [h m k (by have := List.mem_range.mp h1; omega) hk]; exact h2⟩
  rw [e1]
  refine List.map_congr_left fun j hj => ?_
  have hj := List.mem_range.mp (List.mem_filter.mp hj).1
  unfold gOf grpI
  exact List.filter_congr fun k hk => h k j (List.mem_range.mp hk) hj
/-! groups -/
structure GpOk (x : List Way × List Str × Int × List Str) : Prop where
  f : FamOk x.1
  wl : ∀ y ∈ x.1, WL y x.2.1
  s : x.2.2.1 = 0 ∨ x.2.2.1 = 1
  r : mIsRow x.2.2.2 = true
def mGroups (x : List Way × List Str × Int × List Str) : List (List Nat) := mGrp (x.1.map fun y => .list (mViews y x.2.1 x.2.2.1 x.2.2.2))
abbrev spGroups (K : PySem.W.Frag) : Sp := spA K (fun x : List Way × List Str × Int × List Str => [dFam x.1, dL x.2.1, .int x.2.2.1, dL x.2.2.2]) GpOk fun x => .list ((mGroups x).map dIx)
theorem kd_view {y : Way} {s : Sta} {i : Int} : KD 7 (mView y s i) := by
  unfold mView
  split
  · exact .str 7 _
  · refine .tup 6 _ fun d hd => ?_
    simp only [List.mem_cons, List.not_mem_nil, or_false] at hd
    rcases hd with rfl | rfl | rfl <;> exact .str 6 _
theorem kt_views {y : Way} {ws : List Str} {i : Int} {row : List Str} : KT (.tuple (mViews y ws i row)) := by
  refine ⟨.tup 7 _ fun d hd => ?_, _, rfl⟩
  unfold mViews at hd
  obtain ⟨s, _, rfl⟩ := List.mem_map.mp hd
  exact kd_view
theorem pl_views {y : Way} {ws : List Str} {i : Int} {row : List Str} (wl : WL y ws) (hr : mIsRow row = true) : Pl 2 (.list (mViews y ws i row)) := by
  refine .list 1 _ fun d hd => ?_
  unfold mViews at hd
  obtain ⟨s, hs, rfl⟩ := List.mem_map.mp hd
  obtain ⟨j, _, rfl⟩ := List.mem_map.mp (List.mem_of_mem_drop hs)
  exact (lv_st wl.nd wl.lv (rowOk hr).2 j).viewPl i
theorem mViews_len {y : Way} {ws : List Str} {i : Int} {row : List Str} : (mViews y ws i row).length = row.length := by
  unfold mViews
  rw [List.length_map, List.length_drop, mWalk_len]
  omega
theorem cl_groups (T : FT K mg "groups" s_groups ["family", "words", "sight", "row"]) (b : Bi mg) (b2 : Bi2 mg) {k : Nat} (C_check_several : Cl P w K mg base "check_several" k ["family", "words", "sight"] (spCkSv K)) (C_check_row : Cl P w K mg base "check_row" k ["row"] (spCkR K)) (C_views_of : Cl P w K mg base "views_of" k ["way", "words", "sight", "row"] (spViews K)) :
    Cl P w K mg base "groups" (k + 1) ["family", "words", "sight", "row"] (spGroups K) := by
  obtain ⟨nlen, nisinstance, nall, nmin, ntuple, nlist, nset, nsorted, nrange, nstr, nint, nbool⟩ := b
  obtain ⟨nenumerate, nzip⟩ := b2
  refine clA T sc_groups (fun _ => rfl) fun f cdv A outer s H E z hr hz => ?_
  have nd := sc_groups.nd
  have hr_check_several := hr
  have hr_check_row := hr
  have hr_views_of := hr
  obtain ⟨fam, ws, sg, row⟩ := z
  obtain ⟨hf, wl, hs, hrow⟩ := hz
  have wl : ∀ y ∈ fam, WL y ws := wl
  have hf : FamOk fam := hf
  obtain ⟨y0, r0, e0⟩ : ∃ y r, fam = y :: r := by
    have h1 := hf.1
    cases fam with
    | nil => exact absurd h1 (by decide)
    | cons y r => exact ⟨y, r, rfl⟩
  have wl0 : WL y0 ws := wl y0 (by rw [e0]; exact List.mem_cons_self ..)
  refine ⟨_, ((pss_cons (ps_expr (pe_cl C_check_several hr_check_several (by rfl) (pa_cons (pv 0) (pa_cons (pv 1) (pa_cons (pv 2) pa_nil)))))
      (pss_cons (ps_expr (pe_cl C_check_row hr_check_row (by rfl) (pa_cons (pv 3) pa_nil)))
      (pss_cons (ps_set (i := 4) nd rfl (by first | exact Or.inl rfl | exact Or.inr rfl) DR.pe_disp0)
      (pss_cons (ps_for PassesOwn.never rfl (pi_enumK rfl (by rfl) nenumerate (pa_cons (pv 0) pa_nil)) (pg_tupK rfl rfl (pgs_cons (pg_name (i := 5) nd rfl (by first | exact Or.inl rfl | exact Or.inr rfl)) (pgs_cons (pg_name (i := 6) nd rfl (by first | exact Or.inl rfl | exact Or.inr rfl)) pgs_nil)))
      (pss_cons (ps_set (i := 7) nd rfl (by first | exact Or.inl rfl | exact Or.inr rfl) (pe_callTy (call_tupleK rfl) (by rfl) ntuple (by decide +kernel) (pa_cons (pe_cl C_views_of hr_views_of (by rfl) (pa_cons (pv 6) (pa_cons (pv 1) (pa_cons (pv 2) (pa_cons (pv 3) pa_nil))))) pa_nil)))
        (pss_one (ps_expr (pe_bm PySem.F.plainAttrs_list PySem.F.slot_list_append PySem.F.type_list_append mt_append (DR.pe_setD hr.units (pv 4) (pv 7) (pe_lst pa_nil) ⟨rfl, rfl, rfl, rfl⟩) (pa_cons (pv 5) pa_nil))))))
      (pss_one (ps_ret (pe_callTy (DR.call_listVals rfl) (by rfl) nlist (by decide +kernel) (pa_cons (DR.pe_vals (pv 4)) pa_nil))))))))), fun e Q hq => sd_nm [_, _, _, _, _, _, _, _] rfl ?_⟩
  refine sd_seq (sd_drop (ev_call (fam, ws, sg) (ea_cons (ev_var rfl) (ea_cons (ev_var rfl) (ea_cons (ev_var rfl) ea_nil))) rfl ⟨hf, wl0.hl, hs⟩) (sd_next ?_))
  refine sd_seq (sd_drop (ev_call row (ea_cons (ev_var rfl) ea_nil) rfl hrow) (sd_next ?_))
  let keys : Nat → D := fun i => .tuple (mViews (fam.getD i y0) ws sg row)
  refine sd_seq (sdg_new fun p => sdg_nxt [.val (dFam fam), .val (dL ws), .val (.int sg), .val (dL row), .raw (.ref p), .any, .any, .any] rfl ?_)
  have hgl : ∀ i, i ≤ fam.length → (gFold keys i).length < 1000000 ∧ ∀ g ∈ gFold keys i, g.2.length ≤ 1000000 := fun i hi => by
    have h8 := hf.2.1
    rw [gFold_eq]
    refine ⟨?_, fun g hg => ?_⟩
    · rw [List.length_map]
      unfold fstI
      have := List.length_filter_le (fun k => !(List.range k).any fun m => smK keys m k) (List.range i)
      rw [List.length_range] at this
      omega
    · obtain ⟨j, _, rfl⟩ := List.mem_map.mp hg
      show ((grpI (smK keys) i j).map fun k => PyData.int (k : Nat)).length ≤ _
      rw [List.length_map]
      unfold grpI
      have := List.length_filter_le (fun k => smK keys k j) (List.range i)
      rw [List.length_range] at this
      omega
  refine sdg_seq (sdg_forI (ei_enum (ea_cons (ev_var rfl) ea_nil)) (fun i => [.val (dFam fam), .val (dL ws), .val (.int sg), .val (dL row), .raw (.ref p), .any, .any, .any]) (fun i => none) (gFold keys) rfl rfl rfl (fun i d B hB hd => ?_) (sdg_next ?_))
  · obtain ⟨v, hv, rfl⟩ := enD_get hd
    rw [List.getElem?_map] at hv
    obtain ⟨y, hy, rfl⟩ := Option.map_eq_some_iff.mp hv
    have hym := List.mem_of_getElem? hy
    have hi : i < fam.length := (List.getElem?_eq_some_iff.mp hy).1
    have eg : fam.getD i y0 = y := by rw [List.getD_eq_getElem?_getD, hy]; rfl
    obtain ⟨g1, g2⟩ := hgl i (by omega)
    refine ⟨_, _, gv_tup (gvs_cons gv_name (gvs_cons gv_name gvs_nil)) rfl, ?_⟩
    refine sdg_nm [.val (dFam fam), .val (dL ws), .val (.int sg), .val (dL row), .raw (.ref p), .val (.int (i : Nat)), .val (eW y), .any] rfl ?_
    refine sdg_seq (sdg_pre (τ1 := [.val (dFam fam), .val (dL ws), .val (.int sg), .val (dL row), .raw (.ref p), .val (.int (i : Nat)), .val (eW y), .val (.tuple (mViews y ws sg row))]) (δ1 := none) (fun e' B' E' kk => sd_asg (ev_cb (ea_cons (ev_call (y, ws, sg, row) (ea_cons (ev_var rfl) (ea_cons (ev_var rfl) (ea_cons (ev_var rfl) (ea_cons (ev_var rfl) ea_nil)))) rfl ⟨(wl y hym).hw, (wl y hym).hl, hs, hrow⟩) ea_nil) rc_tupL) (sd_nm _ rfl kk)) (sdg_next ?_))
    refine sdg_app rfl (ev_var rfl) kt_views (ev_var rfl) g1 g2 ?_
    have ek : gput (gFold keys i) (.tuple (mViews y ws sg row)) (.int (i : Nat)) = gFold keys (i + 1) := by
      show _ = gput (gFold keys i) (.tuple (mViews (fam.getD i y0) ws sg row)) _
      rw [eg]
    rw [ek]
    refine sdg_any 5 ?_
    refine sdg_any 6 ?_
    refine sdg_any 7 ?_
    refine sdg_nm [.val (dFam fam), .val (dL ws), .val (.int sg), .val (dL row), .raw (.ref p), .any, .any, .any] rfl ?_
    exact fun G H σ xs b hg hx v s => ⟨G, xs, b, hg, hx, v, s⟩
  · rw [enD_len, List.length_map]
    refine sdg_retVals hq rfl ?_
    show PyData.list ((gFold keys fam.length).map fun g => PyData.list g.2) = PyData.list ((mGroups (fam, ws, sg, row)).map dIx)
    have hl : (fam.map fun y => PyData.list (mViews y ws sg row)).length = fam.length := List.length_map ..
    have hgd : ∀ a, a < fam.length → (fam.map fun y => PyData.list (mViews y ws sg row)).getD a .none = .list (mViews (fam.getD a y0) ws sg row) ∧ fam.getD a y0 ∈ fam := fun a ha => by
      rw [List.getD_eq_getElem?_getD, List.getD_eq_getElem?_getD, List.getElem?_map, List.getElem?_eq_getElem ha]
      exact ⟨rfl, List.getElem_mem ha⟩
    have em := mGrp_eq (fam.map fun y => PyData.list (mViews y ws sg row)) (smK keys) (fun a c ha hc => by
      rw [hl] at ha hc
      obtain ⟨a1, a2⟩ := hgd a ha
      obtain ⟨c1, c2⟩ := hgd c hc
      rw [a1, c1]
      refine eqv_b (pl_views (wl _ a2) hrow) (pl_views (wl _ c2) hrow) ?_
      rw [decide_eq_true_eq, PyData.list.injEq]
      constructor
      · intro e1
        have e2 := (kt_views (y := fam.getD a y0) (ws := ws) (i := sg) (row := row)).1.inj (kt_views (y := fam.getD c y0) (ws := ws) (i := sg) (row := row)).1 e1
        exact PyData.tuple.inj e2
      · intro e1
        show toK (.tuple (mViews (fam.getD a y0) ws sg row)) = toK (.tuple (mViews (fam.getD c y0) ws sg row))
        rw [e1])
    unfold mGroups
    rw [em, hl, gFold_eq, List.map_map, List.map_map]
    rfl
end

end Fo
namespace Fo
open PySem PySem.Spec PyProof.Rows L2 DL DR
abbrev s__law_clean : Stmt := topS 95
abbrev N__law_clean : List Str := ["_law_draws", "_law_family", "_law_hidden", "_law_words", "_law_sight", "_law_row_here", "_law_clean_here", "_law_left", "_law_parts", "_law_one", "_law_group"]
theorem sc__law_clean : FnScope N__law_clean ["_law_draws", "_law_family", "_law_hidden", "_law_words", "_law_sight"] (defScope s__law_clean) := ⟨rfl, rfl, rfl, by decide +kernel, rfl, by decide +kernel, by decide +kernel⟩

/-! ### the law of records -/
section
variable {P : Program} {w : World} {K : PySem.W.Frag} {mg : Str → Option Value} {base : Heap}
theorem pl_ix (xs : List Nat) : Pl 1 (dIx xs) := .list 0 _ fun d hd => by
  obtain ⟨i, _, rfl⟩ := List.mem_map.mp hd
  exact .int 0 _
theorem pl_ixs (xs : List (List Nat)) : Pl 2 (.list (xs.map dIx)) := .list 1 _ fun d hd => by
  obtain ⟨i, _, rfl⟩ := List.mem_map.mp hd
  exact pl_ix i
theorem getD_at {α : Type} {l : List α} {d : α} {i : Nat} (h : i < l.length) : l[i]? = some (l.getD i d) := by
  rw [List.getD_eq_getElem?_getD, List.getElem?_eq_getElem h]
  rfl
theorem getD_in {α : Type} {l : List α} {d : α} {i : Nat} (h : i < l.length) : l.getD i d ∈ l := List.mem_of_getElem? (getD_at h)
theorem zipIdx_rg {α : Type} (l : List α) (d : α) : l.zipIdx = (List.range l.length).map fun k => (l.getD k d, k) := by
  refine List.ext_getElem? fun i => ?_
  rw [List.getElem?_zipIdx, List.getElem?_map]
  by_cases h : i < l.length
  · rw [List.getElem?_range h, getD_at (d := d) h]
    simp
  · rw [List.getElem?_eq_none (by omega), List.getElem?_eq_none (by rw [List.length_range]; omega)]
    rfl
theorem mRem_eq {ys : List Way} {y0 : Way} {ws : List Str} {sg : Int} {rs : List Rec} : mRem ys ws sg rs = (List.range ys.length).filter fun k => (mFrb (ys.getD k y0) ws sg rs).isNone := by
  unfold mRem
  rw [zipIdx_rg ys y0, List.filter_map, List.map_map]
  exact List.map_id' _
theorem views_at {y : Way} {ws : List Str} {sg : Int} {row : List Str} {k : Nat} (hk : k < row.length) : (mViews y ws sg row)[k]? = some (mView y (mSt y (mInit ws) row (k + 1)) sg) := by
  unfold mViews mWalk
  rw [List.getElem?_map, List.getElem?_drop, List.getElem?_map, List.getElem?_range (by omega), Nat.add_comm 1 k]
  rfl
theorem WL.st {y : Way} {ws : List Str} (h : WL y ws) {row : List Str} (hr : ∀ k ∈ row, k ∈ keysS) (i : Nat) : Lv y ws (mSt y (mInit ws) row i) ∧ (mSt y (mInit ws) row i).pu.length ≤ 4 := by
  obtain ⟨a, _, c⟩ := h.at_walk (r := row.take i) fun k hk => hr k (List.mem_of_mem_take hk)
  exact ⟨a, c⟩
theorem keys_in {row : List Str} (h : mIsRow row = true) : ∀ k ∈ row, k ∈ keysS := fun k hk => List.contains_iff_mem.mp ((rowOk h).2 k hk)
theorem WL.vw {y : Way} {ws : List Str} (h : WL y ws) {row : List Str} (hr : ∀ k ∈ row, k ∈ keysS) {sg : Int} (hs : sg = 0 ∨ sg = 1) (i : Nat) : VwOk sg (mView y (mSt y (mInit ws) row i) sg) := by
  obtain ⟨v, p⟩ := h.st hr i
  have o := v.ok
  have hol := mOff_len (w := y) o
  have htx := o.tx
  rcases hs with rfl | rfl
  · exact .three ⟨v.tx, htx⟩ ⟨off_lt v.od, by omega⟩ ⟨v.pu, p⟩
  · exact .one ⟨v.pu, p⟩
theorem WL.vws {y : Way} {ws : List Str} (h : WL y ws) {row : List Str} (hr : ∀ k ∈ row, k ∈ keysS) {sg : Int} (hs : sg = 0 ∨ sg = 1) : ∀ d ∈ mViews y ws sg row, VwOk sg d := fun d hd => by
  unfold mViews at hd
  obtain ⟨s, hs2, rfl⟩ := List.mem_map.mp hd
  obtain ⟨j, _, rfl⟩ := List.mem_map.mp (List.mem_of_mem_drop hs2)
  exact h.vw hr hs j
theorem WL.lvs {y : Way} {ws : List Str} (h : WL y ws) {row : List Str} (hr : mIsRow row = true) {sg : Int} (hs : sg = 0 ∨ sg = 1) : LVs (y, ws, sg, row) := ⟨⟨h.hw, h.nd, h.lv, rowOk hr⟩, hs⟩
theorem bar_made {y y2 : Way} {ws : List Str} (h : WL y ws) (h2 : WL y2 ws) {row : List Str} (hr : mIsRow row = true) {sg : Int} : (mBar y ws sg (row, mViews y2 ws sg row)).isNone = true ↔ mViews y ws sg row = mViews y2 ws sg row := by
  have hk := keys_in hr
  have ha : ∀ k, k < row.length → (mBarAt y ws sg (row, mViews y2 ws sg row) k = false ↔ mView y (mSt y (mInit ws) row (k + 1)) sg = mView y2 (mSt y2 (mInit ws) row (k + 1)) sg) := fun k hk2 => by
    unfold mBarAt
    show ((!PyData.eqv (mView y (mSt y (mInit ws) row (k + 1)) sg) ((mViews y2 ws sg row).getD k .none)) = false) ↔ _
    rw [List.getD_eq_getElem?_getD, views_at hk2, Option.getD_some, Bool.not_eq_false']
    exact ((h.st hk (k + 1)).1.viewPl sg).eqv ((h2.st hk (k + 1)).1.viewPl sg)
  rw [Option.isNone_iff_eq_none]
  unfold mBar
  rw [show (row, mViews y2 ws sg row).2.length = row.length from mViews_len, List.find?_eq_none]
  constructor
  · intro h0
    refine List.ext_getElem? fun k => ?_
    by_cases hk2 : k < row.length
    · rw [views_at hk2, views_at hk2, (ha k hk2).mp (by have := h0 k (List.mem_range.mpr hk2); simpa using this)]
    · rw [List.getElem?_eq_none (by rw [mViews_len]; omega), List.getElem?_eq_none (by rw [mViews_len]; omega)]
  · intro h0 k hk2
    have hk2 := List.mem_range.mp hk2
    have := views_at (y := y) (ws := ws) (sg := sg) hk2
    rw [h0, views_at hk2] at this
    rw [(ha k hk2).mpr (Option.some.inj this).symm]
    exact Bool.false_ne_true
theorem bar_nil {y : Way} {ws : List Str} {sg : Int} : mBar y ws sg ([], []) = none := rfl
theorem frb_two {y : Way} {ws : List Str} {sg : Int} {r : Rec} : (mFrb y ws sg [r, ([], [])]).isNone = (mBar y ws sg r).isNone := by
  unfold mFrb
  cases hb : mBar y ws sg r with
  | none => simp [List.range_succ, bar_nil, hb]
  | some i => simp [List.range_succ, hb]
/-! a record of a hidden way -/
def smV (fam : List Way) (y0 : Way) (ws : List Str) (sg : Int) (row : List Str) (a b : Nat) : Bool := smK (fun i => .tuple (mViews (fam.getD i y0) ws sg row)) a b
theorem smV_iff {fam : List Way} {y0 : Way} {ws : List Str} {sg : Int} {row : List Str} {a b : Nat} : smV fam y0 ws sg row a b = true ↔ mViews (fam.getD a y0) ws sg row = mViews (fam.getD b y0) ws sg row := by
  unfold smV smK
  rw [decide_eq_true_eq]
  constructor
  · intro e1
    exact PyData.tuple.inj ((kt_views (y := fam.getD a y0) (ws := ws) (i := sg) (row := row)).1.inj (kt_views (y := fam.getD b y0) (ws := ws) (i := sg) (row := row)).1 e1)
  · intro e1
    show toK (.tuple (mViews (fam.getD a y0) ws sg row)) = toK (.tuple (mViews (fam.getD b y0) ws sg row))
    rw [e1]
theorem groups_eq {fam : List Way} {y0 : Way} {ws : List Str} {sg : Int} {row : List Str} (wl : ∀ y ∈ fam, WL y ws) (hr : mIsRow row = true) : mGroups (fam, ws, sg, row) = (fstI (smV fam y0 ws sg row) fam.length).map (grpI (smV fam y0 ws sg row) fam.length) := by
  have hl : (fam.map fun y => PyData.list (mViews y ws sg row)).length = fam.length := List.length_map ..
  have hgd : ∀ a, a < fam.length → (fam.map fun y => PyData.list (mViews y ws sg row)).getD a .none = .list (mViews (fam.getD a y0) ws sg row) := fun a ha => by
    rw [List.getD_eq_getElem?_getD, List.getD_eq_getElem?_getD, List.getElem?_map, List.getElem?_eq_getElem ha]
    rfl
  have := mGrp_eq (fam.map fun y => PyData.list (mViews y ws sg row)) (smV fam y0 ws sg row) fun a c ha hc => by
    rw [hl] at ha hc
    rw [hgd a ha, hgd c hc]
    refine eqv_b (pl_views (wl _ (getD_in ha)) hr) (pl_views (wl _ (getD_in hc)) hr) ?_
    rw [smV_iff, PyData.list.injEq]
  rw [hl] at this
  exact this
theorem left_eq {fam : List Way} {y0 : Way} {ws : List Str} {sg : Int} {row : List Str} {hid : Nat} (wl : ∀ y ∈ fam, WL y ws) (hr : mIsRow row = true) (hh : hid < fam.length) : mRem fam ws sg [(row, mViews (fam.getD hid y0) ws sg row), ([], [])] = grpI (smV fam y0 ws sg row) fam.length hid := by
  rw [mRem_eq (y0 := y0)]
  unfold grpI
  refine List.filter_congr fun k hk => ?_
  rw [frb_two, Bool.eq_iff_iff, bar_made (wl _ (getD_in (List.mem_range.mp hk))) (wl _ (getD_in hh)) hr, smV_iff]
theorem grp_hid {fam : List Way} {y0 : Way} {ws : List Str} {sg : Int} {row : List Str} {hid : Nat} (hh : hid < fam.length) : ∃ r, (((fstI (smV fam y0 ws sg row) fam.length).map (grpI (smV fam y0 ws sg row) fam.length)).filter fun g => g.contains hid) = grpI (smV fam y0 ws sg row) fam.length hid :: r := by
  have same : ∀ j, smV fam y0 ws sg row hid j = true → grpI (smV fam y0 ws sg row) fam.length j = grpI (smV fam y0 ws sg row) fam.length hid := fun j hj => by
    have hj := smV_iff.mp hj
    unfold grpI
    refine List.filter_congr fun k _ => ?_
    rw [Bool.eq_iff_iff, smV_iff, smV_iff, hj]
  have hin : ∀ j, (grpI (smV fam y0 ws sg row) fam.length j).contains hid = true ↔ smV fam y0 ws sg row hid j = true := fun j => by
    rw [List.contains_iff_mem]
    unfold grpI
    rw [List.mem_filter]
    exact ⟨fun h => h.2, fun h => ⟨List.mem_range.mpr hh, h⟩⟩
  obtain ⟨m, h1, h2, h3⟩ := first_of (p := fun m => smV fam y0 ws sg row hid m) (i := hid + 1) (List.any_eq_true.mpr ⟨hid, List.mem_range.mpr (Nat.lt_succ_self _), smV_iff.mpr rfl⟩)
  have hm : m ∈ fstI (smV fam y0 ws sg row) fam.length := by
    unfold fstI
    refine List.mem_filter.mpr ⟨List.mem_range.mpr (by omega), ?_⟩
    rw [Bool.not_eq_true', List.any_eq_false]
    intro k hk hs
    have h4 := h3 k (List.mem_range.mp hk)
    have e1 := smV_iff.mp hs
    have e2 := smV_iff.mp h2
    rw [show smV fam y0 ws sg row hid k = true from smV_iff.mpr (e2.trans e1.symm)] at h4
    cases h4
  have hmem : grpI (smV fam y0 ws sg row) fam.length hid ∈ (((fstI (smV fam y0 ws sg row) fam.length).map (grpI (smV fam y0 ws sg row) fam.length)).filter fun g => g.contains hid) := by
    refine List.mem_filter.mpr ⟨List.mem_map.mpr ⟨m, hm, same m h2⟩, ?_⟩
    exact (hin hid).mpr (smV_iff.mpr rfl)
  cases hf : (((fstI (smV fam y0 ws sg row) fam.length).map (grpI (smV fam y0 ws sg row) fam.length)).filter fun g => g.contains hid) with
  | nil => rw [hf] at hmem; cases hmem
  | cons g r =>
    have hg : g ∈ (((fstI (smV fam y0 ws sg row) fam.length).map (grpI (smV fam y0 ws sg row) fam.length)).filter fun g => g.contains hid) := by rw [hf]; exact List.mem_cons_self ..
    obtain ⟨a, b⟩ := List.mem_filter.mp hg
    obtain ⟨j, _, rfl⟩ := List.mem_map.mp a
    exact ⟨r, by rw [same j ((hin j).mp b)]⟩
theorem lRow_ok {n : Int} {s : Ds} (h0 : 0 ≤ n) (hn : n ≤ 40) (h : DsOk s) : mIsRow (lRow n s).1 = true ∧ DsOk (lRow n s).2 := by
  obtain ⟨r1, r2⟩ := lRowN_rng s h0
  obtain ⟨a, b, c⟩ := lRw_ok (dDraw_ok h (n + 1)) (lRowN n s)
  refine ⟨?_, a⟩
  unfold mIsRow
  rw [Bool.and_eq_true, decide_eq_true_eq, List.all_eq_true]
  refine ⟨?_, c⟩
  have b : (lRow n s).1.length = lRowN n s := b
  omega
structure ClOk (x : List Way × Nat × List Str × Int) : Prop where
  f : FamOk x.1
  wl : ∀ y ∈ x.1, WL y x.2.2.1
  h : x.2.1 < x.1.length
  s : x.2.2.2 = 0 ∨ x.2.2.2 = 1
abbrev spLClean (K : PySem.W.Frag) : Sp := spW K (fun x : List Way × Nat × List Str × Int => [dFam x.1, .int (x.2.1 : Nat), dL x.2.2.1, .int x.2.2.2]) (fun x s => ClOk x ∧ DsOk s) fun _ s => (.bool true, (lRow 40 s).2)
theorem rec_nil {sg : Int} : RecOk sg ([], []) := ⟨rfl, rfl, fun d hd => by cases hd⟩
theorem cl__law_clean (T : FT K mg "_law_clean" s__law_clean ["_law_draws", "_law_family", "_law_hidden", "_law_words", "_law_sight"]) {k : Nat} (C__law_row : Cl P w K mg base "_law_row" k ["_law_draws", "_law_longest"] (spLRow K)) (C_views_of : Cl P w K mg base "views_of" k ["way", "words", "sight", "row"] (spViews K)) (C_remains : Cl P w K mg base "remains" k ["family", "words", "sight", "records"] (spRem K)) (C_first_bar : Cl P w K mg base "first_bar" k ["way", "words", "sight", "record"] (spBar K)) (C_groups : Cl P w K mg base "groups" k ["family", "words", "sight", "row"] (spGroups K)) (C__law_groups : Cl P w K mg base "_law_groups" k ["_law_told"] (spLGroups K)) (C__law_views : Cl P w K mg base "_law_views" k ["_law_way_here", "_law_words", "_law_sight", "_law_row_here"] (spLViews K)) :
    Cl P w K mg base "_law_clean" (k + 1) ["_law_draws", "_law_family", "_law_hidden", "_law_words", "_law_sight"] (spLClean K) := by
  refine clW T sc__law_clean (fun _ => rfl) fun f cdv A outer s H E z d hr hz => ?_
  have nd := sc__law_clean.nd
  have hr__law_row := hr
  have hr_views_of := hr
  have hr_remains := hr
  have hr_first_bar := hr
  have hr_groups := hr
  have hr__law_groups := hr
  have hr__law_views := hr
  obtain ⟨fam, hid, ws, sg⟩ := z
  obtain ⟨⟨hf, wl, hh, hs⟩, hok⟩ := hz
  have wl : ∀ y ∈ fam, WL y ws := wl
  have hh : hid < fam.length := hh
  have hf : FamOk fam := hf
  have hs : sg = 0 ∨ sg = 1 := hs
  have h8 := hf.2.1
  obtain ⟨y0, r0, e0⟩ : ∃ y r, fam = y :: r := by
    have h1 := hf.1
    cases fam with
    | nil => exact absurd h1 (by decide)
    | cons y r => exact ⟨y, r, rfl⟩
  refine ⟨_, ((pss_cons (ps_set (i := 5) nd rfl (by first | exact Or.inl rfl | exact Or.inr rfl) (pe_cl C__law_row hr__law_row (by rfl) (pa_cons (pv 0) (pa_cons pe_int pa_nil))))
      (pss_cons (ps_set (i := 6) nd rfl (by first | exact Or.inl rfl | exact Or.inr rfl) (pe_lst (pa_cons (pe_tup (pa_cons (pv 5) (pa_cons (pe_cl C_views_of hr_views_of (by rfl) (pa_cons (pe_ix (ix_listK rfl) (pv 1) (pv 2) (fun _ _ => rfl)) (pa_cons (pv 3) (pa_cons (pv 4) (pa_cons (pv 5) pa_nil))))) pa_nil))) (pa_cons (pe_tup (pa_cons (pe_lst pa_nil) (pa_cons (pe_lst pa_nil) pa_nil))) pa_nil))))
      (pss_cons (ps_set (i := 7) nd rfl (by first | exact Or.inl rfl | exact Or.inr rfl) (pe_cl C_remains hr_remains (by rfl) (pa_cons (pv 1) (pa_cons (pv 3) (pa_cons (pv 4) (pa_cons (pv 6) pa_nil))))))
      (pss_cons (ps_if (PW.pt (pw_or (pt_cmpR (op_notInK rfl) (pv 2) (pv 7) rfl) (pw_or1 (pt_cmpR op_notN (pe_cl C_first_bar hr_first_bar (by rfl) (pa_cons (pe_ix (ix_listK rfl) (pv 1) (pv 2) (fun _ _ => rfl)) (pa_cons (pv 3) (pa_cons (pv 4) (pa_cons (pe_tup (pa_cons (pe_lst pa_nil) (pa_cons (pe_lst pa_nil) pa_nil))) pa_nil))))) pe_non (nomark _)))))
      (pss_one (ps_ret pe_bl))
      pss_nil)
      (pss_cons (ps_set (i := 8) nd rfl (by first | exact Or.inl rfl | exact Or.inr rfl) (pe_cl C_groups hr_groups (by rfl) (pa_cons (pv 1) (pa_cons (pv 3) (pa_cons (pv 4) (pa_cons (pv 5) pa_nil))))))
      (pss_cons (ps_if (pt_cmpR (op_neDK hr.units rfl) (pv 8) (pe_cl C__law_groups hr__law_groups (by rfl) (pa_cons (pe_lc (own := [("_law_one", 9)]) (g := gName 9) (tt := tYes) rfl nd (pi_listK rfl (pv 1)) (blkOk_by (N := N__law_clean) (sc := (defScope s__law_clean)) (by decide +kernel)) (fun _ _ _ _ _ => (pg_name (i := 9) nd rfl (by first | exact Or.inl rfl | exact Or.inr rfl))) (fun _ _ _ _ _ => pts_nil) (fun _ _ _ _ _ => (pe_cl C__law_views hr__law_views (by rfl) (pa_cons (pv 9) (pa_cons (pv 3) (pa_cons (pv 4) (pa_cons (pv 5) pa_nil))))))) pa_nil)) (nomark _))
      (pss_one (ps_ret pe_bl))
      pss_nil)
      (pss_one (ps_ret (pe_cmpR (op_eqDK hr.units rfl) (pe_ix (ix_listK rfl) (pe_lc (own := [("_law_group", 10)]) (g := gName 10) (tt := _) rfl nd (pi_listK rfl (pv 8)) (blkOk_by (N := N__law_clean) (sc := (defScope s__law_clean)) (by decide +kernel)) (fun _ _ _ _ _ => (pg_name (i := 10) nd rfl (by first | exact Or.inl rfl | exact Or.inr rfl))) (fun _ _ _ _ _ => pts_one (pt_cmpR (op_inK rfl) (pv 2) (pv 10) rfl)) (fun _ _ _ _ _ => (pv 10))) pe_int (fun _ _ => rfl)) (pv 7) (nomark _))))))))))), fun e Q hq => sd_nm [_, _, _, _, _, _, _, _, _, _, _] rfl ?_⟩
  have hq' : Rt K e Q fun v d' => v = .bool true ∧ d' = some (d.go (lRow 40 d.st).2) := hq
  clear hq
  obtain ⟨hrow, o1⟩ := lRow_ok (n := 40) (by decide) (by decide) hok
  obtain ⟨⟨row, s1⟩, hlr⟩ : ∃ r, r = lRow 40 d.st := ⟨_, rfl⟩
  rw [← hlr] at hrow o1 hq'
  have hrow : mIsRow row = true := hrow
  have h40 := row40 hrow
  have hy : fam.getD hid y0 ∈ fam := getD_in hh
  have wh := wl _ hy
  obtain ⟨yh, hyh⟩ : ∃ y, y = fam.getD hid y0 := ⟨_, rfl⟩
  rw [← hyh] at hy wh
  have hat : atI (fam.map eW) ((hid : Nat) : Int) = some (eW yh) := atI_nat (by rw [List.getElem?_map, getD_at (d := y0) hh, ← hyh]; rfl)
  have hrec : ∀ r ∈ [(row, mViews yh ws sg row), ([], [])], RecOk sg r := fun r hr => by
    simp only [List.mem_cons, List.not_mem_nil, or_false] at hr
    rcases hr with rfl | rfl
    · exact ⟨hrow, mViews_len, wh.vws (keys_in hrow) hs⟩
    · exact rec_nil
  refine sd_seq (sd_asg (ev_callWG (d := d) (v := dL row) (s' := s1) 40 (by rw [← hlr]) rfl (ea_cons ev_int ea_nil) rfl ⟨by decide, by decide, hok⟩) (sd_nxt [_, _, _, _, _, _, _, _, _, _, _] rfl ?_))
  refine sd_seq (sd_asg (Ev.of (ev_lst (ea_cons (ev_tup (ea_cons (ev_var rfl) (ea_cons (ev_call (yh, ws, sg, row) (ea_cons (ev_op (ev_var rfl) (ev_var rfl) (rd_ixL hat)) (ea_cons (ev_var rfl) (ea_cons (ev_var rfl) (ea_cons (ev_var rfl) ea_nil)))) rfl ⟨wh.hw, wh.hl, hs, hrow⟩) ea_nil))) (ea_cons (ev_tup (ea_cons (ev_lst ea_nil) (ea_cons (ev_lst ea_nil) ea_nil))) ea_nil))) (show _ = PyData.list ([(row, mViews yh ws sg row), ([], [])].map eR) from rfl)) (sd_nxt [_, _, _, _, _, _, _, _, _, _, _] rfl ?_))
  refine sd_seq (sd_asg (ev_call (fam, ws, sg, [(row, mViews yh ws sg row), ([], [])]) (ea_cons (ev_var rfl) (ea_cons (ev_var rfl) (ea_cons (ev_var rfl) (ea_cons (ev_var rfl) ea_nil)))) rfl ⟨hf, wl, wh.hl, hs, ⟨by show 1 ≤ 2; decide, by show 2 ≤ 12; decide, hrec⟩⟩) (sd_nxt [_, _, _, _, _, _, _, _, _, _, _] rfl ?_))
  have el : mRem fam ws sg [(row, mViews yh ws sg row), ([], [])] = grpI (smV fam y0 ws sg row) fam.length hid := by
    rw [hyh]
    exact left_eq wl hrow hh
  have hin : (mRem fam ws sg [(row, mViews yh ws sg row), ([], [])]).contains hid = true := by
    rw [el, List.contains_iff_mem]
    exact List.mem_filter.mpr ⟨List.mem_range.mpr hh, smV_iff.mpr rfl⟩
  refine sd_seq (sd_if (et_or (et_test (ev_op (ev_var rfl) (ev_var rfl) (rd_inLN (neg := true)))) fun _ => (et_test (ev_op (ev_call (yh, ws, sg, ([], [])) (ea_cons (ev_op (ev_var rfl) (ev_var rfl) (rd_ixL hat)) (ea_cons (ev_var rfl) (ea_cons (ev_var rfl) (ea_cons (ev_tup (ea_cons (ev_lst ea_nil) (ea_cons (ev_lst ea_nil) ea_nil))) ea_nil)))) rfl ⟨wh, hs, rec_nil⟩) ev_non rd_notN))) (fun hb => ?_) (fun hb => sd_next ?_))
  · rw [hin] at hb
    exact absurd hb Bool.false_ne_true
  refine sd_seq (sd_asg (ev_call (fam, ws, sg, row) (ea_cons (ev_var rfl) (ea_cons (ev_var rfl) (ea_cons (ev_var rfl) (ea_cons (ev_var rfl) ea_nil)))) rfl ⟨hf, wl, hs, hrow⟩) (sd_nxt [_, _, _, _, _, _, _, _, _, _, _] rfl ?_))
  refine sd_seq (sd_if (et_test (ev_op (ev_var rfl) (ev_call (fam.map fun y => PyData.list (mViews y ws sg row)) (ea_cons (ev_fz (ef_lcLm fam eW (fun y => .list (mViews y ws sg row)) (ev_var rfl) rfl (by omega) (fun y hy => (ev_fz (ef_call (y, ws, sg, row) (ea_cons (ev_var rfl) (ea_cons (ev_var rfl) (ea_cons (ev_var rfl) (ea_cons (ev_var rfl) ea_nil)))) rfl ((wl y hy).lvs hrow hs)))))) ea_nil) rfl ⟨by rw [List.length_map]; omega, fun d hd => ?_⟩) (rd_neP (b := true) (pl_ixs _) (pl_ixs _) ⟨fun _ => rfl, fun _ => rfl⟩))) (fun hb => absurd hb (by decide)) (fun hb => sd_next ?_))
  · obtain ⟨y, hy, rfl⟩ := List.mem_map.mp hd
    exact (pl_views (wl y hy) hrow).mono (by decide)
  obtain ⟨rest, hg⟩ := grp_hid (y0 := y0) (ws := ws) (sg := sg) (row := row) hh
  rw [← groups_eq wl hrow, ← el] at hg
  have hgl : (mGroups (fam, ws, sg, row)).length ≤ 100000 := by
    rw [groups_eq (y0 := y0) wl hrow, List.length_map]
    unfold fstI
    have := List.length_filter_le (fun k => !(List.range k).any fun m => smV fam y0 ws sg row m k) (List.range fam.length)
    rw [List.length_range] at this
    omega
  refine sd_ret hq' (ev_op (ev_op (ev_fz (ef_lcLp (mGroups (fam, ws, sg, row)) dIx (fun g => g.contains hid) dIx (ev_var rfl) rfl hgl (fun x hx => (et_test (ev_op (ev_var rfl) (ev_var rfl) (rd_inLN (neg := false))))) (fun x hx hb => (ev_var rfl)))) ev_int (rd_ixL (d := dIx (mRem fam ws sg [(row, mViews yh ws sg row), ([], [])])) (by rw [hg]; exact atI_zero))) (ev_var rfl) (rd_eqP (b := true) (pl_ix _) (pl_ix _) ⟨fun _ => rfl, fun _ => rfl⟩)) ⟨rfl, rfl⟩
end

end Fo
namespace Fo
open PySem PySem.Spec PyProof.Rows L2 DL DR
abbrev s_law : Stmt := topS 96
abbrev N_law : List Str := ["_law_script", "_law_draws", "_law_words", "_law_sight", "_law_family", "_law_k", "_law_hidden", "_law_records", "_law_turn", "_law_row_here", "_law_told", "_law_at", "_law_due", "_law_one", "_law_units", "_law_own", "_law_bad", "_law_barred", "_law_free"]
theorem sc_law : FnScope N_law ["_law_script"] (defScope s_law) := ⟨rfl, rfl, rfl, by decide +kernel, rfl, by decide +kernel, by decide +kernel⟩

/-! records that are drawn -/
section
variable {P : Program} {w : World} {K : PySem.W.Frag} {mg : Str → Option Value} {base : Heap}
theorem lNumN {n : Int} (hn : 0 < n) (s : Ds) : 1 ≤ lNum n s ∧ ((lNum n s : Nat) : Int) ≤ n ∧ (1 + (dDraw s n).1) = ((lNum n s : Nat) : Int) := by
  have := dDraw_rng (s := s) (lim := n) hn
  unfold lNum
  omega
def lFm (s : Ds) : Nat → List Way × Ds
  | 0 => ([], s)
  | i + 1 => ((lFm s i).1 ++ [lWay (lFm s i).2], (lW6 (lFm s i).2).2)
theorem lFm_ok {s : Ds} (h : DsOk s) : ∀ i, DsOk (lFm s i).2 ∧ (lFm s i).1.length = i ∧ ∀ y ∈ (lFm s i).1, mIsWay y = true
  | 0 => ⟨h, rfl, fun y hy => by cases hy⟩
  | i + 1 => by
    obtain ⟨a, b, c⟩ := lFm_ok h i
    obtain ⟨_, _, _, _, _, o6⟩ := wOk (lFm s i).2 a
    refine ⟨o6, ?_, fun y hy => ?_⟩
    · show ((lFm s i).1 ++ [_]).length = i + 1
      rw [List.length_append, b]
      rfl
    · rcases List.mem_append.mp hy with q | q
      · exact c y q
      · rw [List.mem_singleton] at q
        rw [q]
        exact lWay_ok _
def lTold (vs : List D) (s : Ds) : List D × Ds :=
  if vs.length = 0 then (vs, s)
  else if (dDraw s 3).1 = 0 then
    (vs.set (dDraw (dDraw s 3).2 (vs.length : Int)).1.toNat (pk (dDraw (dDraw s 3).2 (vs.length : Int)).2 .none vs).1, (pk (dDraw (dDraw s 3).2 (vs.length : Int)).2 .none vs).2)
  else (vs, (dDraw s 3).2)
theorem lTold_ok {vs : List D} {s : Ds} (h : DsOk s) : DsOk (lTold vs s).2 ∧ (lTold vs s).1.length = vs.length ∧ ∀ d ∈ (lTold vs s).1, d ∈ vs := by
  unfold lTold
  split
  · exact ⟨h, rfl, fun d hd => hd⟩
  rename_i h1
  split
  · refine ⟨pk_ok (dDraw_ok (dDraw_ok h 3) _) PyData.none vs, List.length_set, fun d hd => ?_⟩
    rcases List.mem_or_eq_of_mem_set hd with q | q
    · exact q
    · rw [q]
      exact pk_mem fun z => h1 (by rw [z]; rfl)
  · exact ⟨dDraw_ok h 3, rfl, fun d hd => hd⟩
def lTurn (y : Way) (ws : List Str) (sg : Int) (r : List Rec × Ds) : List Rec × Ds :=
  (r.1 ++ [((lRow 10 r.2).1, (lTold (mViews y ws sg (lRow 10 r.2).1) (lRow 10 r.2).2).1)], (lTold (mViews y ws sg (lRow 10 r.2).1) (lRow 10 r.2).2).2)
def lRecs (y : Way) (ws : List Str) (sg : Int) (s : Ds) : Nat → List Rec × Ds
  | 0 => ([], s)
  | i + 1 => lTurn y ws sg (lRecs y ws sg s i)
structure RsOk (sg : Int) (i : Nat) (r : List Rec × Ds) : Prop where
  ok : DsOk r.2
  len : r.1.length = i
  all : ∀ x ∈ r.1, RecOk sg x
theorem lRecs_ok {y : Way} {ws : List Str} {sg : Int} {s : Ds} (wl : WL y ws) (hs : sg = 0 ∨ sg = 1) (h : DsOk s) : ∀ i, RsOk sg i (lRecs y ws sg s i)
  | 0 => ⟨h, rfl, fun y hy => by cases hy⟩
  | i + 1 => by
    obtain ⟨a, b, c⟩ := lRecs_ok wl hs h i
    obtain ⟨hr, o⟩ := lRow_ok (n := 10) (by decide) (by decide) a
    obtain ⟨t1, t2, t3⟩ := lTold_ok (vs := mViews y ws sg (lRow 10 (lRecs y ws sg s i).2).1) o
    refine ⟨t1, ?_, fun x hx => ?_⟩
    · show ((lRecs y ws sg s i).1 ++ [_]).length = i + 1
      rw [List.length_append, b]
      rfl
    · rcases List.mem_append.mp hx with q | q
      · exact c x q
      · rw [List.mem_singleton] at q
        rw [q]
        exact ⟨hr, t2.trans mViews_len, fun d hd => wl.vws (keys_in hr) hs d (t3 d hd)⟩
def lAt (n : Int) (s : Ds) : Nat → Ds
  | 0 => s
  | i + 1 => (dDraw (lAt n s i) n).2
theorem lAt_ok {n : Int} {s : Ds} (h : DsOk s) : ∀ i, DsOk (lAt n s i)
  | 0 => h
  | i + 1 => dDraw_ok (lAt_ok h i) n
theorem LF.view {y : Way} {s : Sta} {sg : Int} : LF (mView y s sg) := by
  unfold mView
  split
  · exact .str _
  · refine .tup _ fun d hd => ?_
    simp only [List.mem_cons, List.not_mem_nil, or_false] at hd
    rcases hd with rfl | rfl | rfl <;> exact .str _
theorem LF.views {y : Way} {ws : List Str} {sg : Int} {row : List Str} : ∀ d ∈ mViews y ws sg row, LF d := fun d hd => by
  unfold mViews at hd
  obtain ⟨s, _, rfl⟩ := List.mem_map.mp hd
  exact LF.view
/-! what bars -/
def mBads (y : Way) (ws : List Str) (sg : Int) (r : Rec) : List Nat := (List.range r.1.length).filter (mBarAt y ws sg r)
theorem bads_head {y : Way} {ws : List Str} {sg : Int} {r : Rec} (h : r.2.length = r.1.length) : (mBads y ws sg r).head? = mBar y ws sg r := by
  unfold mBads mBar
  rw [h, List.head?_filter]
theorem pl_oI (o : Option Nat) : Pl 1 (oI o) := by
  cases o with
  | none => exact .non 1
  | some i => exact .int 1 _
theorem pl_oP (o : Option (Nat × Nat)) : Pl 1 (oP o) := by
  cases o with
  | none => exact .non 1
  | some i =>
    refine .tup 0 _ fun d hd => ?_
    simp only [List.mem_cons, List.not_mem_nil, or_false] at hd
    rcases hd with rfl | rfl <;> exact .int 0 _
theorem pl_oPs {α : Type} (xs : List α) (f : α → Option (Nat × Nat)) : Pl 2 (.list (xs.map fun x => oP (f x))) := .list 1 _ fun d hd => by
  obtain ⟨x, _, rfl⟩ := List.mem_map.mp hd
  exact pl_oP _
theorem bad_at {y : Way} {ws : List Str} {sg : Int} {r : Rec} (h : r.2.length = r.1.length) (hb : (!decide ((mBads y ws sg r).length = 0)) = true) : atI ((mBads y ws sg r).map fun i => PyData.int (i : Nat)) 0 = some (oI (mBar y ws sg r)) := by
  rw [← bads_head h]
  cases hm : mBads y ws sg r with
  | nil => rw [hm] at hb; exact absurd hb (by decide)
  | cons i l => exact atI_zero
theorem bad_no {y : Way} {ws : List Str} {sg : Int} {r : Rec} (h : r.2.length = r.1.length) (hb : (!decide ((mBads y ws sg r).length = 0)) = false) : PyData.none = oI (mBar y ws sg r) := by
  rw [← bads_head h]
  cases hm : mBads y ws sg r with
  | nil => rfl
  | cons i l => rw [hm] at hb; exact absurd hb (by simp)
def mBrd (y : Way) (ws : List Str) (sg : Int) (rs : List Rec) : List Nat := (List.range rs.length).filter fun k => (mBar y ws sg (rs.getD k ([], []))).isSome
theorem frb_brd {y : Way} {ws : List Str} {sg : Int} {rs : List Rec} : mFrb y ws sg rs = (mBrd y ws sg rs).head?.map fun i => (i, (mBar y ws sg (rs.getD i ([], []))).getD 0) := by
  unfold mFrb mBrd
  rw [List.head?_filter]
theorem brd_at {y : Way} {ws : List Str} {sg : Int} {rs : List Rec} (hb : (!decide ((mBrd y ws sg rs).length = 0)) = true) : ∃ i l b, mBrd y ws sg rs = i :: l ∧ i < rs.length ∧ mBar y ws sg (rs.getD i ([], [])) = some b ∧ mFrb y ws sg rs = some (i, b) := by
  rw [frb_brd]
  cases hm : mBrd y ws sg rs with
  | nil => rw [hm] at hb; exact absurd hb (by decide)
  | cons i l =>
    have hi : i ∈ mBrd y ws sg rs := by rw [hm]; exact List.mem_cons_self ..
    obtain ⟨h1, h2⟩ := List.mem_filter.mp hi
    cases hx : mBar y ws sg (rs.getD i ([], [])) with
    | none => rw [hx] at h2; cases h2
    | some b => exact ⟨i, l, b, rfl, List.mem_range.mp h1, hx, by rw [List.head?_cons, Option.map_some, hx]; rfl⟩
theorem brd_no {y : Way} {ws : List Str} {sg : Int} {rs : List Rec} (hb : (!decide ((mBrd y ws sg rs).length = 0)) = false) : PyData.none = oP (mFrb y ws sg rs) := by
  rw [frb_brd]
  cases hm : mBrd y ws sg rs with
  | nil => rfl
  | cons i l => rw [hm] at hb; exact absurd hb (by simp)
/-! the law -/
structure Cs (P : Program) (w : World) (K : PySem.W.Frag) (mg : Str → Option Value) (base : Heap) (k : Nat) : Prop where
  _law_start : Cl P w K mg base "_law_start" k ["_law_script"] (spStart K)
  _law_draw : Cl P w K mg base "_law_draw" k ["_law_draws", "_law_limit"] (spDraw K)
  _law_list : Cl P w K mg base "_law_list" k ["_law_draws", "_law_many"] (spLList K)
  _law_way : Cl P w K mg base "_law_way" k ["_law_draws"] (spLWay K)
  _law_row : Cl P w K mg base "_law_row" k ["_law_draws", "_law_longest"] (spLRow K)
  _law_views : Cl P w K mg base "_law_views" k ["_law_way_here", "_law_words", "_law_sight", "_law_row_here"] (spLViews K)
  _law_pick : Cl P w K mg base "_law_pick" k ["_law_draws", "_law_choices"] (spPick K)
  first_bar : Cl P w K mg base "first_bar" k ["way", "words", "sight", "record"] (spBar K)
  _law_true : Cl P w K mg base "_law_true" k ["_law_value", "_law_expected"] (spLTrue K)
  made : Cl P w K mg base "made" k ["way", "words", "sight", "record"] (spMade K)
  bars : Cl P w K mg base "bars" k ["family", "words", "sight", "records"] (spBars K)
  remains : Cl P w K mg base "remains" k ["family", "words", "sight", "records"] (spRem K)
  _law_clean : Cl P w K mg base "_law_clean" k ["_law_draws", "_law_family", "_law_hidden", "_law_words", "_law_sight"] (spLClean K)
theorem rc_lenN {ds : List D} {n : Nat} (hn : ds.length = n) : RCD K (fun xs H Q => ∃ p ys, xs = [.ref p] ∧ (SqL K H p ys ∨ SqT K H p ys) ∧ Q (.int ys.length) H) [.list ds] (.int (n : Int)) := hn ▸ rc_lenL
theorem unit_at {rs : List Rec} {f : Rec → D} {k : Nat} (hk : k < rs.length) : atI (rs.map f) ((k : Nat) : Int) = some (f (rs.getD k ([], []))) := atI_nat (by rw [List.getElem?_map, getD_at (d := ([], [])) hk]; rfl)
theorem way_at {α : Type} {xs : List α} {y0 : α} {f : α → D} {k : Nat} (hk : k < xs.length) : atI (xs.map f) ((k : Nat) : Int) = some (f (xs.getD k y0)) := atI_nat (by rw [List.getElem?_map, getD_at (d := y0) hk]; rfl)
theorem ok_law {f : Addr} {fd : FuncData} (F : Fun K "law" "law" s_law f fd) (b : Bi mg) (b2 : Bi2 mg) {k : Nat} (c : Cs P w K mg base k) : FnOk P w K mg base CX0 (k + 1) f fd ["_law_script"] (spLaw K) := by
  obtain ⟨C__law_start, C__law_draw, C__law_list, C__law_way, C__law_row, C__law_views, C__law_pick, C_first_bar, C__law_true, C_made, C_bars, C_remains, C__law_clean⟩ := c
  obtain ⟨nlen, nisinstance, nall, nmin, ntuple, nlist, nset, nsorted, nrange, nstr, nint, nbool⟩ := b
  have nd := sc_law.nd
  refine F.ok sc_law (fun vs H Q E ⟨a, ns, hv, _⟩ => by rw [hv]; rfl) (fun cdv A outer s H vs Q E hr ⟨a, ns, hv, hs, hl, q⟩ => ?_)
  subst hv
  have hr__law_start := hr
  have hr__law_draw := hr
  have hr__law_list := hr
  have hr__law_way := hr
  have hr__law_row := hr
  have hr__law_views := hr
  have hr__law_pick := hr
  have hr_first_bar := hr
  have hr__law_true := hr
  have hr_made := hr
  have hr_bars := hr
  have hr_remains := hr
  have hr__law_clean := hr
  refine ⟨_, ((pss_cons (ps_set (i := 1) nd rfl (by first | exact Or.inl rfl | exact Or.inr rfl) (pe_cl C__law_start hr__law_start (by rfl) (pa_cons (pv 0) pa_nil)))
      (pss_cons (ps_par (i := 2) (j := 3) (by rfl) nd rfl rfl (by decide) rfl rfl (pa_cons (pe_cl C__law_list hr__law_list (by rfl) (pa_cons (pv 1) (pa_cons pe_int pa_nil))) (pa_cons (pe_cl C__law_draw hr__law_draw (by rfl) (pa_cons (pv 1) (pa_cons pe_int pa_nil))) pa_nil)) (by rfl))
      (pss_cons (ps_setLc (i := 4) (own := [("_law_k", 5)]) (g := gName 5) (tt := tYes) rfl nd rfl rfl (sw_true rfl rfl rfl (by decide +kernel)) (pi_range1 (by rfl) nrange (pa_cons (pe_op op_add pe_int (pe_cl C__law_draw hr__law_draw (by rfl) (pa_cons (pv 1) (pa_cons pe_int pa_nil)))) pa_nil)) (blkOk_by (N := N_law) (sc := (defScope s_law)) (by decide +kernel)) (fun _ _ _ _ _ => (pg_name (i := 5) nd rfl (by first | exact Or.inl rfl | exact Or.inr rfl))) (fun _ _ _ _ _ => pts_nil) (fun _ _ _ _ _ => (pe_cl C__law_way hr__law_way (by rfl) (pa_cons (pv 1) pa_nil))))
      (pss_cons (ps_par (i := 6) (j := 7) (by rfl) nd rfl rfl (by decide) rfl rfl (pa_cons (pe_cl C__law_draw hr__law_draw (by rfl) (pa_cons (pv 1) (pa_cons (pe_callB (call_lenK rfl) (by rfl) nlen (by decide +kernel) (pa_cons (pv 4) pa_nil)) pa_nil))) (pa_cons (pe_lst pa_nil) pa_nil)) (by rfl))
      (pss_cons (ps_for PassesOwn.never rfl (pi_range1 (by rfl) nrange (pa_cons (pe_op op_add pe_int (pe_cl C__law_draw hr__law_draw (by rfl) (pa_cons (pv 1) (pa_cons pe_int pa_nil)))) pa_nil)) (pg_name (i := 8) nd rfl (by first | exact Or.inl rfl | exact Or.inr rfl))
      (pss_cons (ps_set (i := 9) nd rfl (by first | exact Or.inl rfl | exact Or.inr rfl) (pe_cl C__law_row hr__law_row (by rfl) (pa_cons (pv 1) (pa_cons pe_int pa_nil))))
        (pss_cons (ps_set (i := 10) nd rfl (by first | exact Or.inl rfl | exact Or.inr rfl) (pe_cl C__law_views hr__law_views (by rfl) (pa_cons (pe_ix (ix_listK rfl) (pv 4) (pv 6) (fun _ _ => rfl)) (pa_cons (pv 2) (pa_cons (pv 3) (pa_cons (pv 9) pa_nil))))))
        (pss_cons (ps_if (PW.pt (pw_and (pt_cmpR (op_neDK hr.units rfl) (pv 10) (pe_lst pa_nil) (nomark _)) (pw_and1 (pt_cmpR op_eq (pe_cl C__law_draw hr__law_draw (by rfl) (pa_cons (pv 1) (pa_cons pe_int pa_nil))) pe_int (nomark _)))))
        (pss_cons (ps_set (i := 11) nd rfl (by first | exact Or.inl rfl | exact Or.inr rfl) (pe_cl C__law_draw hr__law_draw (by rfl) (pa_cons (pv 1) (pa_cons (pe_callB (call_lenK rfl) (by rfl) nlen (by decide +kernel) (pa_cons (pv 10) pa_nil)) pa_nil))))
          (pss_one (ps_asg (pe_cl C__law_pick hr__law_pick (by rfl) (pa_cons (pv 1) (pa_cons (pv 10) pa_nil))) (pg_sub (pv 10) (pv 11) set_list))))
        pss_nil)
        (pss_one (ps_expr (pe_bm PySem.F.plainAttrs_list PySem.F.slot_list_append PySem.F.type_list_append mt_append (pv 7) (pa_cons (pe_tup (pa_cons (pv 9) (pa_cons (pv 10) pa_nil))) pa_nil))))))))
      (pss_cons (ps_set (i := 12) nd rfl (by first | exact Or.inl rfl | exact Or.inr rfl) (pe_lst pa_nil))
      (pss_cons (ps_for PassesOwn.never rfl (pi_listK rfl (pv 4)) (pg_name (i := 13) nd rfl (by first | exact Or.inl rfl | exact Or.inr rfl))
      (pss_cons (ps_set (i := 14) nd rfl (by first | exact Or.inl rfl | exact Or.inr rfl) (pe_lst pa_nil))
        (pss_cons (ps_for PassesOwn.never rfl (pi_listK rfl (pv 7)) (pg_tupK rfl rfl (pgs_cons (pg_name (i := 9) nd rfl (by first | exact Or.inl rfl | exact Or.inr rfl)) (pgs_cons (pg_name (i := 10) nd rfl (by first | exact Or.inl rfl | exact Or.inr rfl)) pgs_nil)))
        (pss_cons (ps_set (i := 15) nd rfl (by first | exact Or.inl rfl | exact Or.inr rfl) (pe_cl C__law_views hr__law_views (by rfl) (pa_cons (pv 13) (pa_cons (pv 2) (pa_cons (pv 3) (pa_cons (pv 9) pa_nil))))))
          (pss_cons (ps_setLc (i := 16) (own := [("_law_k", 5)]) (g := gName 5) (tt := _) rfl nd rfl rfl (sw_true rfl rfl rfl (by decide +kernel)) (pi_range1 (by rfl) nrange (pa_cons (pe_callB (call_lenK rfl) (by rfl) nlen (by decide +kernel) (pa_cons (pv 9) pa_nil)) pa_nil)) (blkOk_by (N := N_law) (sc := (defScope s_law)) (by decide +kernel)) (fun _ _ _ _ _ => (pg_name (i := 5) nd rfl (by first | exact Or.inl rfl | exact Or.inr rfl))) (fun _ _ _ _ _ => pts_one (pt_cmpR (op_neDK hr.units rfl) (pe_ix (ix_listK rfl) (pv 15) (pv 5) (fun _ _ => rfl)) (pe_ix (ix_listK rfl) (pv 10) (pv 5) (fun _ _ => rfl)) (nomark _))) (fun _ _ _ _ _ => (pv 5)))
          (pss_one (ps_expr (pe_bm PySem.F.plainAttrs_list PySem.F.slot_list_append PySem.F.type_list_append mt_append (pv 14) (pa_cons (pe_ifExp (pt_cmpR (op_neDK hr.units rfl) (pv 16) (pe_lst pa_nil) (nomark _)) (pe_ix (ix_listK rfl) (pv 16) pe_int (fun _ _ => rfl)) pe_non) pa_nil)))))))
        (pss_cons (ps_setLc (i := 17) (own := [("_law_k", 5)]) (g := gName 5) (tt := _) rfl nd rfl rfl (sw_true rfl rfl rfl (by decide +kernel)) (pi_range1 (by rfl) nrange (pa_cons (pe_callB (call_lenK rfl) (by rfl) nlen (by decide +kernel) (pa_cons (pv 7) pa_nil)) pa_nil)) (blkOk_by (N := N_law) (sc := (defScope s_law)) (by decide +kernel)) (fun _ _ _ _ _ => (pg_name (i := 5) nd rfl (by first | exact Or.inl rfl | exact Or.inr rfl))) (fun _ _ _ _ _ => pts_one (pt_cmpR op_notN (pe_ix (ix_listK rfl) (pv 14) (pv 5) (fun _ _ => rfl)) pe_non (nomark _))) (fun _ _ _ _ _ => (pv 5)))
        (pss_cons (ps_expr (pe_bm PySem.F.plainAttrs_list PySem.F.slot_list_append PySem.F.type_list_append mt_append (pv 12) (pa_cons (pe_ifExp (pt_cmpR (op_neDK hr.units rfl) (pv 17) (pe_lst pa_nil) (nomark _)) (pe_tup (pa_cons (pe_ix (ix_listK rfl) (pv 17) pe_int (fun _ _ => rfl)) (pa_cons (pe_ix (ix_listK rfl) (pv 14) (pe_ix (ix_listK rfl) (pv 17) pe_int (fun _ _ => rfl)) (fun _ _ => rfl)) pa_nil))) pe_non) pa_nil)))
        (pss_cons (ps_set (i := 11) nd rfl (by first | exact Or.inl rfl | exact Or.inr rfl) (pe_cl C__law_draw hr__law_draw (by rfl) (pa_cons (pv 1) (pa_cons (pe_callB (call_lenK rfl) (by rfl) nlen (by decide +kernel) (pa_cons (pv 7) pa_nil)) pa_nil))))
        (pss_cons (ps_if (pt_cmpR (op_neDK hr.units rfl) (pe_cl C_first_bar hr_first_bar (by rfl) (pa_cons (pv 13) (pa_cons (pv 2) (pa_cons (pv 3) (pa_cons (pe_ix (ix_listK rfl) (pv 7) (pv 11) (fun _ _ => rfl)) pa_nil))))) (pe_ix (ix_listK rfl) (pv 14) (pv 11) (fun _ _ => rfl)) (nomark _))
        (pss_one (ps_ret pe_bl))
        pss_nil)
        (pss_one (ps_if (pt_not (pt_val (pe_cl C__law_true hr__law_true (by rfl) (pa_cons (pe_cl C_made hr_made (by rfl) (pa_cons (pv 13) (pa_cons (pv 2) (pa_cons (pv 3) (pa_cons (pe_ix (ix_listK rfl) (pv 7) (pv 11) (fun _ _ => rfl)) pa_nil))))) (pa_cons (pe_cmpR op_isN (pe_ix (ix_listK rfl) (pv 14) (pv 11) (fun _ _ => rfl)) pe_non (nomark _)) pa_nil)))))
        (pss_one (ps_ret pe_bl))
        pss_nil)))))))))
      (pss_cons (ps_setLc (i := 18) (own := [("_law_k", 5)]) (g := gName 5) (tt := _) rfl nd rfl rfl (sw_true rfl rfl rfl (by decide +kernel)) (pi_range1 (by rfl) nrange (pa_cons (pe_callB (call_lenK rfl) (by rfl) nlen (by decide +kernel) (pa_cons (pv 4) pa_nil)) pa_nil)) (blkOk_by (N := N_law) (sc := (defScope s_law)) (by decide +kernel)) (fun _ _ _ _ _ => (pg_name (i := 5) nd rfl (by first | exact Or.inl rfl | exact Or.inr rfl))) (fun _ _ _ _ _ => pts_one (pt_cmpR op_isN (pe_ix (ix_listK rfl) (pv 12) (pv 5) (fun _ _ => rfl)) pe_non (nomark _))) (fun _ _ _ _ _ => (pv 5)))
      (pss_cons (ps_if (PW.pt (pw_or (pt_cmpR (op_neDK hr.units rfl) (pe_cl C_bars hr_bars (by rfl) (pa_cons (pv 4) (pa_cons (pv 2) (pa_cons (pv 3) (pa_cons (pv 7) pa_nil))))) (pv 12) (nomark _)) (pw_or1 (pt_cmpR (op_neDK hr.units rfl) (pe_cl C_remains hr_remains (by rfl) (pa_cons (pv 4) (pa_cons (pv 2) (pa_cons (pv 3) (pa_cons (pv 7) pa_nil))))) (pv 18) (nomark _)))))
      (pss_one (ps_ret pe_bl))
      pss_nil)
      (pss_one (ps_ret (pe_cl C__law_clean hr__law_clean (by rfl) (pa_cons (pv 1) (pa_cons (pv 4) (pa_cons (pv 6) (pa_cons (pv 2) (pa_cons (pv 3) pa_nil)))))))))))))))))), ?_⟩
  refine law_begin0 (n := 17) rfl hs hl fun d hd0 => ?_
  obtain ⟨hd, hob⟩ := hd0
  refine sd_nm [.any, .drw, .any, .any, .any, .any, .any, .any, .any, .any, .any, .any, .any, .any, .any, .any, .any, .any, .any] rfl ?_
  have hq : Rt K e0 Q fun v _ => v = .bool true := fun v G H σ τ δ d s r e => by
    subst e
    cases r
    exact q _
  have hok := ds0_ok hl hd
  obtain ⟨hil, hnd, hlt, ol⟩ := lList_ok hok
  obtain ⟨ws, hws⟩ : ∃ y, y = lList 3 d.st := ⟨_, rfl⟩
  obtain ⟨s1, hs1⟩ : ∃ y, y = lListS 3 d.st := ⟨_, rfl⟩
  rw [← hws] at hil hnd hlt
  rw [← hs1] at ol
  -- the sight
  have o2 := dDraw_ok ol 2
  have g2 := dDraw_rng (s := s1) (lim := 2) (by decide)
  obtain ⟨⟨sg, s2⟩, hr2⟩ : ∃ r, r = dDraw s1 2 := ⟨_, rfl⟩
  rw [← hr2] at o2 g2
  have o2 : DsOk s2 := o2
  have hsg : sg = 0 ∨ sg = 1 := by
    have g2 : 0 ≤ sg ∧ sg < 2 := g2
    omega
  refine sd_seq (sd_par (ev_callWG (d := d) (v := dL ws) (s' := s1) () (by rw [hws, hs1]) rfl (ea_cons ev_int ea_nil) rfl hok) (ev_drawG (d := d) (s := s1) (r := (sg, s2)) hr2.symm rfl (ea_cons ev_int ea_nil) ol (by decide) (by decide)) (sd_nxt [_, _, _, _, _, _, _, _, _, _, _, _, _, _, _, _, _, _, _] rfl ?_))
  -- the family
  obtain ⟨n1, n2, n3⟩ := lNumN (n := 8) (by decide) s2
  have o3 := dDraw_ok o2 8
  obtain ⟨⟨fm, s3⟩, hr3⟩ : ∃ r, r = dDraw s2 8 := ⟨_, rfl⟩
  obtain ⟨nf, hnf⟩ : ∃ r, r = lNum 8 s2 := ⟨_, rfl⟩
  rw [← hnf] at n1 n2 n3
  rw [← hr3] at n3 o3
  have o3 : DsOk s3 := o3
  have n3 : 1 + fm = ((nf : Nat) : Int) := n3
  refine sd_seq (sd_asgF (ef_lcR (n := nf) (ea_cons (Ev.of (ev_op ev_int (ev_drawG (d := d) (s := s2) (r := (fm, s3)) hr3.symm rfl (ea_cons ev_int ea_nil) o2 (by decide) (by decide)) rd_addI) (congrArg PyData.int n3)) ea_nil) (by omega) rfl (fun i => (lFm s3 i).1.map eW) (fun i => some (d.go (lFm s3 i).2)) (fun _ => true) rfl rfl (fun i hi => by rw [List.length_map, (lFm_ok o3 i).2.1]; omega) (fun i hi => et_yes) (fun i hi => by cases hi) fun i hi _ => ⟨eW (lWay (lFm s3 i).2), by show (((lFm s3 i).1 ++ [_]).map eW) = _; rw [List.map_append]; rfl, ev_callWG (d := d) (v := eW (lWay (lFm s3 i).2)) (s' := (lW6 (lFm s3 i).2).2) () rfl rfl ea_nil rfl (lFm_ok o3 i).1⟩) (sd_nxt [_, _, _, _, _, _, _, _, _, _, _, _, _, _, _, _, _, _, _] rfl ?_))
  refine sd_fz 4 rfl ?_
  obtain ⟨o4, hfl, hfw⟩ := lFm_ok o3 nf
  obtain ⟨⟨fam, s4⟩, hr4⟩ : ∃ r, r = lFm s3 nf := ⟨_, rfl⟩
  rw [← hr4] at o4 hfl hfw ⊢
  have hfl : fam.length = nf := hfl
  have hfw : ∀ y ∈ fam, mIsWay y = true := hfw
  have o4 : DsOk s4 := o4
  refine sd_nm [.any, .drw, .val (dL ws), .val (.int sg), .val (dFam fam), .any, .any, .any, .any, .any, .any, .any, .any, .any, .any, .any, .any, .any, .any] rfl ?_
  have wl : ∀ y ∈ fam, WL y ws := fun y hy => ⟨hfw y hy, hil, hnd, hlt⟩
  have hf : FamOk fam := ⟨by omega, by omega, hfw⟩
  have hf1 := hf.1
  obtain ⟨y0, r0, e0'⟩ : ∃ y r, fam = y :: r := by
    cases hc : fam with
    | nil => rw [hc] at hf1; exact absurd hf1 (by decide)
    | cons y r => exact ⟨y, r, rfl⟩
  -- the hidden way
  have o5 := dDraw_ok o4 (fam.length : Int)
  have g5 := dDraw_rng (s := s4) (lim := (fam.length : Int)) (by omega)
  obtain ⟨⟨hi, s5⟩, hr5⟩ : ∃ r, r = dDraw s4 (fam.length : Int) := ⟨_, rfl⟩
  rw [← hr5] at o5 g5
  have o5 : DsOk s5 := o5
  have g5 : 0 ≤ hi ∧ hi < (fam.length : Int) := g5
  obtain ⟨hid, rfl⟩ : ∃ n : Nat, hi = (n : Int) := ⟨hi.toNat, by omega⟩
  have hh : hid < fam.length := by omega
  refine sd_seq (sd_parV (ev_drawG (d := d) (s := s4) (r := ((hid : Int), s5)) hr5.symm rfl (ea_cons (ev_cb (ea_cons (ev_var rfl) ea_nil) (rc_lenN (List.length_map ..))) ea_nil) o4 (by omega) (by omega)) (ef_lst ea_nil) (sd_nxt [_, _, _, _, _, _, _, _, _, _, _, _, _, _, _, _, _, _, _] rfl ?_))
  obtain ⟨yh, hyh⟩ : ∃ y, y = fam.getD hid y0 := ⟨_, rfl⟩
  have hym : yh ∈ fam := by rw [hyh]; exact getD_in hh
  have wh := wl yh hym
  have hat : atI (fam.map eW) ((hid : Nat) : Int) = some (eW yh) := by rw [hyh]; exact way_at hh
  -- the records
  obtain ⟨m1, m2, m3⟩ := lNumN (n := 6) (by decide) s5
  have o6 := dDraw_ok o5 6
  obtain ⟨⟨rm, s6⟩, hr6⟩ : ∃ r, r = dDraw s5 6 := ⟨_, rfl⟩
  obtain ⟨nr, hnr⟩ : ∃ r, r = lNum 6 s5 := ⟨_, rfl⟩
  rw [← hnr] at m1 m2 m3
  rw [← hr6] at m3 o6
  have o6 : DsOk s6 := o6
  have m3 : 1 + rm = ((nr : Nat) : Int) := m3
  have hrs := lRecs_ok (y := yh) wh hsg o6
  refine sd_seq (sd_forR (n := nr) (ea_cons (Ev.of (ev_op ev_int (ev_drawG (d := d) (s := s5) (r := (rm, s6)) hr6.symm rfl (ea_cons ev_int ea_nil) o5 (by decide) (by decide)) rd_addI) (congrArg PyData.int m3)) ea_nil) (by omega) (fun i => [.any, .drw, .val (dL ws), .val (.int sg), .val (dFam fam), .any, .val (.int (hid : Nat)), .own ((lRecs yh ws sg s6 i).1.map eR), .any, .any, .any, .any, .any, .any, .any, .any, .any, .any, .any]) (fun i => some (d.go (lRecs yh ws sg s6 i).2)) rfl rfl (fun i B hB hi => ?_) (sd_next ?_))
  · obtain ⟨oi, li, ai⟩ := hrs i
    have es : lRecs yh ws sg s6 (i + 1) = lTurn yh ws sg (lRecs yh ws sg s6 i) := rfl
    rw [es]
    generalize lRecs yh ws sg s6 i = r at *
    obtain ⟨hrow, o7⟩ := lRow_ok (n := 10) (by decide) (by decide) oi
    have et : lTurn yh ws sg r = (r.1 ++ [((lRow 10 r.2).1, (lTold (mViews yh ws sg (lRow 10 r.2).1) (lRow 10 r.2).2).1)], (lTold (mViews yh ws sg (lRow 10 r.2).1) (lRow 10 r.2).2).2) := rfl
    rw [et]
    obtain ⟨⟨row, s7⟩, hr7⟩ : ∃ x, x = lRow 10 r.2 := ⟨_, rfl⟩
    rw [← hr7] at hrow o7 ⊢
    have hrow : mIsRow row = true := hrow
    have o7 : DsOk s7 := o7
    have h40 := row40 hrow
    have hvl : (mViews yh ws sg row).length = row.length := mViews_len
    have hpv := pl_views (i := sg) wh hrow
    have hlf := LF.views (y := yh) (ws := ws) (sg := sg) (row := row)
    refine sd_nm [_, _, _, _, _, _, _, _, _, _, _, _, _, _, _, _, _, _, _] rfl ?_
    refine sd_seq (sd_asg (ev_callWG (d := d) (v := dL row) (s' := s7) 10 (by rw [← hr7]) rfl (ea_cons ev_int ea_nil) rfl ⟨by decide, by decide, oi⟩) (sd_nxt [_, _, _, _, _, _, _, _, _, _, _, _, _, _, _, _, _, _, _] rfl ?_))
    refine sd_seq (sd_asgF (ef_call (yh, ws, sg, row) (ea_cons (ev_op (ev_var rfl) (ev_var rfl) (rd_ixL hat)) (ea_cons (ev_var rfl) (ea_cons (ev_var rfl) (ea_cons (ev_var rfl) ea_nil)))) rfl (wh.lvs hrow hsg)) (sd_nxt [_, _, _, _, _, _, _, _, _, _, _, _, _, _, _, _, _, _, _] rfl ?_))
    show SD K e0 B _ _ [.any, .drw, .val (dL ws), .val (.int sg), .val (dFam fam), .any, .val (.int (hid : Nat)), .own (r.1.map eR), .val (.int (i : Nat)), .val (dL row), .own (mViews yh ws sg row), .any, .any, .any, .any, .any, .any, .any, .any] _
    generalize hvs : mViews yh ws sg row = vs at *
    refine sd_have (fun τ' δ' => τ' = [.any, .drw, .val (dL ws), .val (.int sg), .val (dFam fam), .any, .val (.int (hid : Nat)), .own (r.1.map eR), .val (.int (i : Nat)), .val (dL row), .own (lTold vs s7).1, .any, .any, .any, .any, .any, .any, .any, .any] ∧ δ' = some (d.go (lTold vs s7).2)) (fun τ' δ' ⟨z1, z2⟩ => ?_) (fun tail => ?_)
    · subst z1
      subst z2
      refine sd_fz 10 rfl ?_
      refine sd_nm [_, _, _, _, _, _, _, _, _, _, _, _, _, _, _, _, _, _, _] rfl ?_
      refine sd_append rfl (ev_tup (ea_cons (ev_var rfl) (ea_cons (ev_var rfl) ea_nil))) (by rw [List.length_map]; omega) ?_
      refine sd_any 8 ?_
      refine sd_any 9 ?_
      refine sd_any 10 ?_
      refine sd_nm [_, _, _, _, _, _, _, _, _, _, _, _, _, _, _, _, _, _, _] rfl ?_
      show SD _ _ _ tNext _ [.any, .drw, .val (dL ws), .val (.int sg), .val (dFam fam), .any, .val (.int (hid : Nat)), .own (r.1.map eR ++ [eR (row, (lTold vs s7).1)]), .any, .any, .any, .any, .any, .any, .any, .any, .any, .any, .any] _
      rw [show (r.1.map eR ++ [eR (row, (lTold vs s7).1)]) = (r.1 ++ [(row, (lTold vs s7).1)]).map eR by rw [List.map_append]; rfl]
      exact fun G H σ bb s => ⟨G, bb, s⟩
    by_cases hv : vs.length = 0
    · have hv0 : vs = [] := List.eq_nil_of_length_eq_zero hv
      have el : lTold vs s7 = (vs, s7) := by unfold lTold; rw [if_pos hv]
      refine sd_if (et_andF (et_lend (i := 10) rfl rfl (et_test (ev_op (ev_var rfl) (ev_lst ea_nil) (rd_neP (b := true) hpv Pl.nilL (by rw [hv0]; exact ⟨fun _ => rfl, fun _ => rfl⟩)))) hob)) (fun hb => absurd hb Bool.false_ne_true) (fun hb => sd_next (tail _ _ ⟨by rw [el], by rw [el]⟩))
    · have hne : PyData.list vs ≠ .list [] := fun z => hv (by rw [PyData.list.inj z]; rfl)
      have o8 := dDraw_ok o7 3
      obtain ⟨⟨c8, s8⟩, hr8⟩ : ∃ x, x = dDraw s7 3 := ⟨_, rfl⟩
      rw [← hr8] at o8
      have o8 : DsOk s8 := o8
      have el : lTold vs s7 = if c8 = 0 then (vs.set (dDraw s8 (vs.length : Int)).1.toNat (pk (dDraw s8 (vs.length : Int)).2 .none vs).1, (pk (dDraw s8 (vs.length : Int)).2 .none vs).2) else (vs, s8) := by
        unfold lTold
        rw [if_neg hv, ← hr8]
      refine sd_if (et_andT (et_lend (i := 10) rfl rfl (et_test (ev_op (ev_var rfl) (ev_lst ea_nil) (rd_neP (b := false) hpv Pl.nilL ⟨fun z => absurd z Bool.false_ne_true, fun z => absurd z hne⟩))) hob) (et_test (ev_op (ev_drawG (d := d) (s := s7) (r := (c8, s8)) hr8.symm rfl (ea_cons ev_int ea_nil) o7 (by decide) (by decide)) ev_int rd_eqI))) (fun hb => ?_) (fun hb => sd_next (tail _ _ ?_))
      · have hc : c8 = 0 := of_decide_eq_true hb
        have g9 := dDraw_rng (s := s8) (lim := (vs.length : Int)) (by omega)
        have o9 := dDraw_ok o8 (vs.length : Int)
        rw [if_pos hc] at el
        obtain ⟨⟨at9, s9⟩, hr9⟩ : ∃ x, x = dDraw s8 (vs.length : Int) := ⟨_, rfl⟩
        rw [← hr9] at g9 o9 el
        have g9 : 0 ≤ at9 ∧ at9 < (vs.length : Int) := g9
        have o9 : DsOk s9 := o9
        have hpm : (pk s9 PyData.none vs).1 ∈ vs := pk_mem fun z => hv (by rw [z]; rfl)
        obtain ⟨⟨v9, s10⟩, hr10⟩ : ∃ x, x = pk s9 PyData.none vs := ⟨_, rfl⟩
        have el : lTold vs s7 = (vs.set at9.toNat v9, s10) := by
          rw [el]
          show (vs.set at9.toNat (pk s9 PyData.none vs).1, (pk s9 PyData.none vs).2) = _
          rw [← hr10]
        rw [← hr10] at hpm
        refine sd_seq (sd_asg (ev_drawG (d := d) (s := s8) (r := (at9, s9)) hr9.symm rfl (ea_cons (ev_lend (i := 10) rfl rfl (ev_cb (ea_cons (ev_var rfl) ea_nil) rc_lenL) (.int _) hob) ea_nil) o8 (by omega) (by omega)) (sd_nxt [_, _, _, _, _, _, _, _, _, _, _, _, _, _, _, _, _, _, _] rfl ?_))
        refine sd_storeL (m := at9.toNat) (d := v9) (ev_lend (i := 10) rfl rfl (ev_callWG (d := d) (s := s9) (v := v9) (s' := s10) vs hr10.symm rfl (ea_cons (ev_var rfl) ea_nil) rfl ⟨fun z => hv (by rw [z]; rfl), by omega, o9⟩) (hlf v9 hpm) hob) rfl (ev_var rfl) ?_ ?_
        · unfold ixN
          rw [if_pos g9.1, if_pos g9.2]
        · refine sd_any 11 ?_
          exact sd_next (tail _ _ ⟨by rw [el]; rfl, by rw [el]⟩)
      · have hc : ¬ c8 = 0 := of_decide_eq_false hb
        rw [if_neg hc] at el
        exact ⟨by rw [el], by rw [el]⟩
  refine sd_fz 7 rfl ?_
  obtain ⟨o7, hrl, hra⟩ := hrs nr
  obtain ⟨⟨rs, s7⟩, hr7⟩ : ∃ r, r = lRecs yh ws sg s6 nr := ⟨_, rfl⟩
  rw [← hr7] at o7 hrl hra ⊢
  have o7 : DsOk s7 := o7
  have hrl : rs.length = nr := hrl
  have hra : ∀ r ∈ rs, RecOk sg r := hra
  have hro : RecsOk (rs, sg) := ⟨by show 1 ≤ rs.length; omega, by show rs.length ≤ 12; omega, hra⟩
  refine sd_nm [.any, .drw, .val (dL ws), .val (.int sg), .val (dFam fam), .any, .val (.int (hid : Nat)), .val (.list (rs.map eR)), .any, .any, .any, .any, .any, .any, .any, .any, .any, .any, .any] rfl ?_
  -- what is due
  refine sd_seq (sd_asgF (ef_lst ea_nil) (sd_nxt [_, _, _, _, _, _, _, _, _, _, _, _, _, _, _, _, _, _, _] rfl ?_))
  have hat2 := lAt_ok (n := (rs.length : Int)) o7
  refine sd_seq (sd_forL (ev_var rfl) (fun i => [.any, .drw, .val (dL ws), .val (.int sg), .val (dFam fam), .any, .val (.int (hid : Nat)), .val (.list (rs.map eR)), .any, .any, .any, .any, .own ((fam.take i).map fun y => oP (mFrb y ws sg rs)), .any, .any, .any, .any, .any, .any]) (fun i => some (d.go (lAt (rs.length : Int) s7 i))) rfl rfl (fun i dd B hB hdd => ?_) (sd_next ?_))
  · rw [List.getElem?_map] at hdd
    obtain ⟨y, hy, rfl⟩ := Option.map_eq_some_iff.mp hdd
    have hym2 := List.mem_of_getElem? hy
    have wy := wl y hym2
    have oi := hat2 i
    have es : lAt (rs.length : Int) s7 (i + 1) = (dDraw (lAt (rs.length : Int) s7 i) (rs.length : Int)).2 := rfl
    rw [es]
    generalize lAt (rs.length : Int) s7 i = s8 at *
    refine sd_nm [_, _, _, _, _, _, _, _, _, _, _, _, _, _, _, _, _, _, _] rfl ?_
    refine sd_seq (sd_asgF (ef_lst ea_nil) (sd_nxt [_, _, _, _, _, _, _, _, _, _, _, _, _, _, _, _, _, _, _] rfl ?_))
    refine sd_seq (sd_forI (ei_list (ev_var rfl)) (fun j => [.any, .drw, .val (dL ws), .val (.int sg), .val (dFam fam), .any, .val (.int (hid : Nat)), .val (.list (rs.map eR)), .any, .any, .any, .any, .own ((fam.take i).map fun y => oP (mFrb y ws sg rs)), .val (eW y), .own ((rs.take j).map fun r => oI (mBar y ws sg r)), .any, .any, .any, .any]) (fun j => some (d.go s8)) rfl rfl (fun j dr B' hB' hdr => ?_) (sd_next ?_))
    · rw [List.getElem?_map] at hdr
      obtain ⟨r, hrj, rfl⟩ := Option.map_eq_some_iff.mp hdr
      have hjl : j < rs.length := (List.getElem?_eq_some_iff.mp hrj).1
      obtain ⟨hrow, hlen, hvs⟩ := hra r (List.mem_of_getElem? hrj)
      have h40 := row40 hrow
      refine ⟨_, _, gv_tup (gvs_cons gv_name (gvs_cons gv_name gvs_nil)) rfl, ?_⟩
      refine sd_nm [_, _, _, _, _, _, _, _, _, _, _, _, _, _, _, _, _, _, _] rfl ?_
      refine sd_seq (sd_asg (ev_fz (ef_call (y, ws, sg, r.1) (ea_cons (ev_var rfl) (ea_cons (ev_var rfl) (ea_cons (ev_var rfl) (ea_cons (ev_var rfl) ea_nil)))) rfl (wy.lvs hrow hsg))) (sd_nxt [_, _, _, _, _, _, _, _, _, _, _, _, _, _, _, _, _, _, _] rfl ?_))
      refine sd_seq (sd_asgF (ef_lcIp (List.range r.1.length) (fun i => .int (i : Nat)) (mBarAt y ws sg r) (fun i => .int (i : Nat)) (ei_rngN (ea_cons (ev_cb (ea_cons (ev_var rfl) ea_nil) (rc_lenN (List.length_map ..))) ea_nil) (by omega)) (fun j hj => by rw [one_sub hj]; rfl) (by rw [List.length_range]; omega) (fun k hk => ⟨_, _, fun _ h => h, gv_name, (et_test (ev_op (ev_op (d := mView y (mSt y (mInit ws) r.1 (k + 1)) sg) (ev_var rfl) (ev_var rfl) (rd_ixL (atI_nat (views_at (List.mem_range.mp hk))))) (ev_op (d := r.2.getD k .none) (ev_var rfl) (ev_var rfl) (rd_ixL (at_getD (by have := List.mem_range.mp hk; omega)))) (rd_neD (((wy.st (keys_in hrow) (k + 1)).1.viewPl sg).shaped (by decide)) ((hvs _ (mem_getD (by have := List.mem_range.mp hk; omega))).pl.shaped (by decide))))), fun hb => (ev_var rfl)⟩)) (sd_nxt [_, _, _, _, _, _, _, _, _, _, _, _, _, _, _, _, _, _, _] rfl ?_))
      refine sd_fz 16 rfl ?_
      refine sd_nm [.any, .drw, .val (dL ws), .val (.int sg), .val (dFam fam), .any, .val (.int (hid : Nat)), .val (.list (rs.map eR)), .any, .val (dL r.1), .val (.list r.2), .any, .own ((fam.take i).map fun y => oP (mFrb y ws sg rs)), .val (eW y), .own ((rs.take j).map fun r => oI (mBar y ws sg r)), .val (.list (mViews y ws sg r.1)), .val (dIx (mBads y ws sg r)), .any, .any] rfl ?_
      refine sd_append rfl (ev_if (d := oI (mBar y ws sg r)) (et_test (ev_op (ev_var rfl) (ev_lst ea_nil) (rd_neP (b := decide ((mBads y ws sg r).length = 0)) (pl_ix _) Pl.nilL nil_b))) (fun hb => (ev_op (ev_var rfl) ev_int (rd_ixL (bad_at hlen hb)))) (fun hb => Ev.of ev_non (bad_no hlen hb))) (by rw [List.length_map, List.length_take]; omega) ?_
      refine sd_any 9 ?_
      refine sd_any 10 ?_
      refine sd_any 15 ?_
      refine sd_any 16 ?_
      refine sd_nm [_, _, _, _, _, _, _, _, _, _, _, _, _, _, _, _, _, _, _] rfl ?_
      show SD _ _ _ tNext _ [.any, .drw, .val (dL ws), .val (.int sg), .val (dFam fam), .any, .val (.int (hid : Nat)), .val (.list (rs.map eR)), .any, .any, .any, .any, .own ((fam.take i).map fun y => oP (mFrb y ws sg rs)), .val (eW y), .own (((rs.take j).map fun r => oI (mBar y ws sg r)) ++ [oI (mBar y ws sg r)]), .any, .any, .any, .any] _
      rw [show (((rs.take j).map fun r => oI (mBar y ws sg r)) ++ [oI (mBar y ws sg r)]) = ((rs.take (j + 1)).map fun r => oI (mBar y ws sg r)) by rw [List.take_add_one, hrj, List.map_append]; rfl]
      exact fun G H σ bb s => ⟨G, bb, s⟩
    refine sd_fz 14 rfl ?_
    have e1 : ((rs.take (rs.map eR).length).map fun r => oI (mBar y ws sg r)) = rs.map fun r => oI (mBar y ws sg r) := by rw [List.length_map, List.take_length]
    refine sd_nm [.any, .drw, .val (dL ws), .val (.int sg), .val (dFam fam), .any, .val (.int (hid : Nat)), .val (.list (rs.map eR)), .any, .any, .any, .any, .own ((fam.take i).map fun y => oP (mFrb y ws sg rs)), .val (eW y), .val (.list (rs.map fun r => oI (mBar y ws sg r))), .any, .any, .any, .any] (by rw [← e1]; rfl) ?_
    have hu : ∀ k, k < rs.length → atI (rs.map fun r => oI (mBar y ws sg r)) ((k : Nat) : Int) = some (oI (mBar y ws sg (rs.getD k ([], [])))) := fun k hk => unit_at (f := fun r => oI (mBar y ws sg r)) hk
    refine sd_seq (sd_asgF (ef_lcIp (List.range rs.length) (fun i => .int (i : Nat)) (fun k => (mBar y ws sg (rs.getD k ([], []))).isSome) (fun i => .int (i : Nat)) (ei_rngN (ea_cons (ev_cb (ea_cons (ev_var rfl) ea_nil) (rc_lenN (List.length_map ..))) ea_nil) (by omega)) (fun j hj => by rw [one_sub hj]; rfl) (by rw [List.length_range]; omega) (fun k hk => ⟨_, _, fun _ h => h, gv_name, EvT.of (et_test (ev_op (ev_op (ev_var rfl) (ev_var rfl) (rd_ixL (hu k (List.mem_range.mp hk)))) ev_non rd_notN)) (by rw [isNo_oI]; cases mBar y ws sg (rs.getD k ([], [])) <;> rfl), fun hb => (ev_var rfl)⟩)) (sd_nxt [_, _, _, _, _, _, _, _, _, _, _, _, _, _, _, _, _, _, _] rfl ?_))
    refine sd_fz 17 rfl ?_
    refine sd_nm [.any, .drw, .val (dL ws), .val (.int sg), .val (dFam fam), .any, .val (.int (hid : Nat)), .val (.list (rs.map eR)), .any, .any, .any, .any, .own ((fam.take i).map fun y => oP (mFrb y ws sg rs)), .val (eW y), .val (.list (rs.map fun r => oI (mBar y ws sg r))), .any, .any, .val (dIx (mBrd y ws sg rs)), .any] rfl ?_
    refine sd_seq (sd_append rfl (ev_if (d := oP (mFrb y ws sg rs)) (et_test (ev_op (ev_var rfl) (ev_lst ea_nil) (rd_neP (b := decide ((mBrd y ws sg rs).length = 0)) (pl_ix _) Pl.nilL nil_b))) (fun hb => ?_) (fun hb => Ev.of ev_non (brd_no hb))) (by rw [List.length_map, List.length_take]; omega) (sd_nxt [_, _, _, _, _, _, _, _, _, _, _, _, _, _, _, _, _, _, _] rfl ?_))
    · obtain ⟨q1, l1, b1, z1, z2, z3, z4⟩ := brd_at hb
      have i0 : atI ((mBrd y ws sg rs).map fun i => PyData.int (i : Nat)) 0 = some (.int (q1 : Nat)) := by rw [z1]; exact atI_zero
      exact Ev.of (ev_tup (ea_cons (ev_op (ev_var rfl) ev_int (rd_ixL i0)) (ea_cons (ev_op (ev_var rfl) (ev_op (ev_var rfl) ev_int (rd_ixL i0)) (rd_ixL (hu q1 z2))) ea_nil))) (by rw [z3, z4]; rfl)
    have g9 := dDraw_rng (s := s8) (lim := (rs.length : Int)) (by omega)
    obtain ⟨⟨at9, s9⟩, hr9⟩ : ∃ x, x = dDraw s8 (rs.length : Int) := ⟨_, rfl⟩
    rw [← hr9] at g9 ⊢
    have g9 : 0 ≤ at9 ∧ at9 < (rs.length : Int) := g9
    obtain ⟨at0, rfl⟩ : ∃ n : Nat, at9 = (n : Int) := ⟨at9.toNat, by omega⟩
    have ha0 : at0 < rs.length := by omega
    have hrr : RecOk sg (rs.getD at0 ([], [])) := hra _ (getD_in ha0)
    refine sd_seq (sd_asg (ev_drawG (d := d) (s := s8) (r := ((at0 : Int), s9)) hr9.symm rfl (ea_cons (ev_cb (ea_cons (ev_var rfl) ea_nil) (rc_lenN (List.length_map ..))) ea_nil) oi (by omega) (by omega)) (sd_nxt [_, _, _, _, _, _, _, _, _, _, _, _, _, _, _, _, _, _, _] rfl ?_))
    refine sd_seq (sd_if (et_test (ev_op (ev_call (y, ws, sg, rs.getD at0 ([], [])) (ea_cons (ev_var rfl) (ea_cons (ev_var rfl) (ea_cons (ev_var rfl) (ea_cons (ev_op (ev_var rfl) (ev_var rfl) (rd_ixL (unit_at ha0))) ea_nil)))) rfl ⟨wy, hsg, hrr⟩) (ev_op (ev_var rfl) (ev_var rfl) (rd_ixL (hu at0 ha0))) (rd_neP (b := true) (pl_oI _) (pl_oI _) ⟨fun _ => rfl, fun _ => rfl⟩))) (fun hb => absurd hb (by decide)) (fun hb => sd_next ?_))
    refine sd_if (et_not (et_B (ev_call ((mBar y ws sg (rs.getD at0 ([], []))).isNone, isNo (oI (mBar y ws sg (rs.getD at0 ([], []))))) (ea_cons (ev_call (y, ws, sg, rs.getD at0 ([], [])) (ea_cons (ev_var rfl) (ea_cons (ev_var rfl) (ea_cons (ev_var rfl) (ea_cons (ev_op (ev_var rfl) (ev_var rfl) (rd_ixL (unit_at ha0))) ea_nil)))) rfl ⟨wy, hsg, hrr⟩) (ea_cons (ev_op (ev_op (ev_var rfl) (ev_var rfl) (rd_ixL (hu at0 ha0))) ev_non rd_isN) ea_nil)) rfl trivial))) (fun hb => ?_) (fun hb => ?_)
    · exfalso
      rw [isNo_oI] at hb
      revert hb
      cases (mBar y ws sg (rs.getD at0 ([], []))).isNone <;> exact fun h => absurd h (by decide)
    refine sd_any 11 ?_
    refine sd_any 13 ?_
    refine sd_any 14 ?_
    refine sd_any 17 ?_
    refine sd_nm [_, _, _, _, _, _, _, _, _, _, _, _, _, _, _, _, _, _, _] rfl ?_
    show SD _ _ _ tNext _ [.any, .drw, .val (dL ws), .val (.int sg), .val (dFam fam), .any, .val (.int (hid : Nat)), .val (.list (rs.map eR)), .any, .any, .any, .any, .own (((fam.take i).map fun y => oP (mFrb y ws sg rs)) ++ [oP (mFrb y ws sg rs)]), .any, .any, .any, .any, .any, .any] _
    rw [show (((fam.take i).map fun y => oP (mFrb y ws sg rs)) ++ [oP (mFrb y ws sg rs)]) = ((fam.take (i + 1)).map fun y => oP (mFrb y ws sg rs)) by rw [List.take_add_one, hy, List.map_append]; rfl]
    exact fun G H σ bb s => ⟨G, bb, s⟩
  refine sd_fz 12 rfl ?_
  have e2 : ((fam.take (fam.map eW).length).map fun y => oP (mFrb y ws sg rs)) = fam.map fun y => oP (mFrb y ws sg rs) := by rw [List.length_map, List.take_length]
  have o9 := hat2 (fam.map eW).length
  generalize lAt (rs.length : Int) s7 (fam.map eW).length = s9 at *
  refine sd_nm [.any, .drw, .val (dL ws), .val (.int sg), .val (dFam fam), .any, .val (.int (hid : Nat)), .val (.list (rs.map eR)), .any, .any, .any, .any, .val (.list (fam.map fun y => oP (mFrb y ws sg rs))), .any, .any, .any, .any, .any, .any] (by rw [← e2]; rfl) ?_
  refine sd_seq (sd_asgF (ef_lcIp (List.range fam.length) (fun i => .int (i : Nat)) (fun k => (mFrb (fam.getD k y0) ws sg rs).isNone) (fun i => .int (i : Nat)) (ei_rngN (ea_cons (ev_cb (ea_cons (ev_var rfl) ea_nil) (rc_lenN (List.length_map ..))) ea_nil) (by omega)) (fun j hj => by rw [one_sub hj]; rfl) (by rw [List.length_range]; omega) (fun k hk => ⟨_, _, fun _ h => h, gv_name, EvT.of (et_test (ev_op (ev_op (ev_var rfl) (ev_var rfl) (rd_ixL (way_at (y0 := y0) (f := fun y => oP (mFrb y ws sg rs)) (List.mem_range.mp hk)))) ev_non rd_isN)) (isNo_oP _), fun hb => (ev_var rfl)⟩)) (sd_nxt [_, _, _, _, _, _, _, _, _, _, _, _, _, _, _, _, _, _, _] rfl ?_))
  refine sd_fz 18 rfl ?_
  have e3 := mRem_eq (ys := fam) (y0 := y0) (ws := ws) (sg := sg) (rs := rs)
  refine sd_nm [.any, .drw, .val (dL ws), .val (.int sg), .val (dFam fam), .any, .val (.int (hid : Nat)), .val (.list (rs.map eR)), .any, .any, .any, .any, .val (.list (fam.map fun y => oP (mFrb y ws sg rs))), .any, .any, .any, .any, .any, .val (dIx (mRem fam ws sg rs))] (by rw [e3]; rfl) ?_
  refine sd_seq (sd_if (et_or (et_test (ev_op (ev_call (fam, ws, sg, rs) (ea_cons (ev_var rfl) (ea_cons (ev_var rfl) (ea_cons (ev_var rfl) (ea_cons (ev_var rfl) ea_nil)))) rfl ⟨hf, wl, hil, hsg, hro⟩) (ev_var rfl) (rd_neP (b := true) (pl_oPs _ _) (pl_oPs _ _) ⟨fun _ => rfl, fun _ => rfl⟩))) fun _ => (et_test (ev_op (ev_call (fam, ws, sg, rs) (ea_cons (ev_var rfl) (ea_cons (ev_var rfl) (ea_cons (ev_var rfl) (ea_cons (ev_var rfl) ea_nil)))) rfl ⟨hf, wl, hil, hsg, hro⟩) (ev_var rfl) (rd_neP (b := true) (pl_ix _) (pl_ix _) ⟨fun _ => rfl, fun _ => rfl⟩)))) (fun hb => absurd hb (by decide)) (fun hb => sd_next ?_))
  exact sd_ret hq (ev_callWG (d := d) (s := s9) (v := .bool true) (s' := (lRow 40 s9).2) (fam, hid, ws, sg) rfl rfl (ea_cons (ev_var rfl) (ea_cons (ev_var rfl) (ea_cons (ev_var rfl) (ea_cons (ev_var rfl) ea_nil)))) rfl ⟨⟨hf, wl, hh, hsg⟩, o9⟩) rfl
end

end Fo
namespace Fo
open PySem PySem.Spec PyProof.Rows L2 DL DR

section
variable {P : Program} {w : World} {K : PySem.W.Frag} {mg : Str → Option Value} {base : Heap}
theorem ft_mk {h : Heap} {x : Str} {st : Stmt} {ps : List Str} (X : K.In h) (G : h.Ns mainGlobals mg) {f : Addr} {od an : Option Addr} {sl : Array (Option Value)} {oc kV dc pm cd ct : Value}
    (a : PySem.W.nsIn K mainGlobals x = some (some (.ref f))) (l : K.lookup f = some ⟨oc, od, .func (PySem.W.fnOf x x (defArgs st) (defBody st) (defScope st) .none kV dc pm an cd ct), sl⟩) (c : PySem.W.codeIn K cd x = true) (k : PySem.W.keepIn K (.ref f) = true)
    (hb : ∀ (kV doc pm : Value) (an : Option Addr) (cdv ct : Value) (us : List Value), us.length = ps.length → bindArgs (PySem.W.fnOf x x (defArgs st) (defBody st) (defScope st) Value.none kV doc pm an cdv ct) ⟨us, []⟩ = pure (ps.zip us)) : FT K mg x st ps := by
  have F := fun_mk (st := st) l c k
  exact ⟨f, _, F, PySem.W.mg_of X G a, F.binds hb⟩
structure Fs (K : PySem.W.Frag) (mg : Str → Option Value) : Prop where
  is_key : FT K mg "is_key" s_is_key ["value"]
  is_row : FT K mg "is_row" s_is_row ["value"]
  check_row : FT K mg "check_row" s_check_row ["row"]
  is_integer : FT K mg "is_integer" s_is_integer ["value"]
  is_integer_among : FT K mg "is_integer_among" s_is_integer_among ["value", "numbers"]
  is_string_among : FT K mg "is_string_among" s_is_string_among ["value", "strings"]
  is_way : FT K mg "is_way" s_is_way ["value"]
  check_way : FT K mg "check_way" s_check_way ["way"]
  is_text : FT K mg "is_text" s_is_text ["value"]
  is_word : FT K mg "is_word" s_is_word ["value"]
  is_list : FT K mg "is_list" s_is_list ["value"]
  check_list : FT K mg "check_list" s_check_list ["words"]
  check_sight : FT K mg "check_sight" s_check_sight ["sight"]
  first_state : FT K mg "first_state" s_first_state ["words"]
  fitting_words : FT K mg "fitting_words" s_fitting_words ["text", "order"]
  common_beginning : FT K mg "common_beginning" s_common_beginning ["texts"]
  chosen_of : FT K mg "chosen_of" s_chosen_of ["choice", "texts"]
  open_offer : FT K mg "open_offer" s_open_offer ["way", "text", "order"]
  offer_of : FT K mg "offer_of" s_offer_of ["way", "state"]
  press_letter : FT K mg "press_letter" s_press_letter ["state", "letter"]
  word_behind : FT K mg "word_behind" s_word_behind ["text", "words"]
  with_first : FT K mg "with_first" s_with_first ["word", "order"]
  press_tab : FT K mg "press_tab" s_press_tab ["way", "state", "offer"]
  press_putting : FT K mg "press_putting" s_press_putting ["way", "state", "offer", "key"]
  press_back : FT K mg "press_back" s_press_back ["way", "state", "offer"]
  press : FT K mg "press" s_press ["way", "state", "key"]
  walk : FT K mg "walk" s_walk ["way", "state", "row"]
  view_of : FT K mg "view_of" s_view_of ["way", "state", "sight"]
  views_of : FT K mg "views_of" s_views_of ["way", "words", "sight", "row"]
  _law_draw : FT K mg "_law_draw" s__law_draw ["_law_draws", "_law_limit"]
  _law_start_state : FT K mg "_law_start_state" s__law_start_state ["_law_words"]
  _law_fit : FT K mg "_law_fit" s__law_fit ["_law_order", "_law_text"]
  _law_offer : FT K mg "_law_offer" s__law_offer ["_law_way_here", "_law_state"]
  _law_tab : FT K mg "_law_tab" s__law_tab ["_law_way_here", "_law_state"]
  _law_step : FT K mg "_law_step" s__law_step ["_law_way_here", "_law_state", "_law_key"]
  _law_states : FT K mg "_law_states" s__law_states ["_law_way_here", "_law_words", "_law_row_here"]
  _law_view : FT K mg "_law_view" s__law_view ["_law_way_here", "_law_state", "_law_sight"]
  _law_start : FT K mg "_law_start" s__law_start ["_law_script"]
  _law_pick : FT K mg "_law_pick" s__law_pick ["_law_draws", "_law_choices"]
  _law_way : FT K mg "_law_way" s__law_way ["_law_draws"]
  _law_texts : FT K mg "_law_texts" s__law_texts ["_law_most"]
  _law_list : FT K mg "_law_list" s__law_list ["_law_draws", "_law_many"]
  _law_row : FT K mg "_law_row" s__law_row ["_law_draws", "_law_longest"]
  is_family : FT K mg "is_family" s_is_family ["value"]
  check_family : FT K mg "check_family" s_check_family ["family"]
  check_field : FT K mg "check_field" s_check_field ["way", "words", "sight"]
  check_several : FT K mg "check_several" s_check_several ["family", "words", "sight"]
  is_view : FT K mg "is_view" s_is_view ["value", "sight"]
  is_view_row : FT K mg "is_view_row" s_is_view_row ["value", "sight"]
  is_record : FT K mg "is_record" s_is_record ["value", "sight"]
  check_record : FT K mg "check_record" s_check_record ["record", "sight"]
  check_records : FT K mg "check_records" s_check_records ["records", "sight"]
  bar_of : FT K mg "bar_of" s_bar_of ["way", "words", "sight", "record"]
  first_record_bar : FT K mg "first_record_bar" s_first_record_bar ["way", "words", "sight", "records"]
  first_bar : FT K mg "first_bar" s_first_bar ["way", "words", "sight", "record"]
  made : FT K mg "made" s_made ["way", "words", "sight", "record"]
  bars : FT K mg "bars" s_bars ["family", "words", "sight", "records"]
  remains : FT K mg "remains" s_remains ["family", "words", "sight", "records"]
  _law_true : FT K mg "_law_true" s__law_true ["_law_value", "_law_expected"]
  _law_views : FT K mg "_law_views" s__law_views ["_law_way_here", "_law_words", "_law_sight", "_law_row_here"]
  _law_groups : FT K mg "_law_groups" s__law_groups ["_law_told"]
  groups : FT K mg "groups" s_groups ["family", "words", "sight", "row"]
  _law_clean : FT K mg "_law_clean" s__law_clean ["_law_draws", "_law_family", "_law_hidden", "_law_words", "_law_sight"]
theorem law_all {f : Addr} {fd : FuncData} (F : Fun K "law" "law" s_law f fd) (t : Fs K mg) (b : Bi mg) (c : Cn K mg) (b2 : Bi2 mg) : FnOk P w K mg base CX0 12 f fd ["_law_script"] (spLaw K) := by
  have c_is_key := cl_is_key (P := P) (w := w) (base := base) t.is_key b c
  have c_is_row := cl_is_row (P := P) (w := w) (base := base) (k := 1) t.is_row b c (Cl.up c_is_key)
  have c_check_row := cl_check_row (P := P) (w := w) (base := base) (k := 2) t.check_row (Cl.up c_is_row)
  have c_is_integer := cl_is_integer (P := P) (w := w) (base := base) t.is_integer b
  have c_is_integer_among := cl_is_integer_among (P := P) (w := w) (base := base) (k := 1) t.is_integer_among (Cl.up c_is_integer)
  have c_is_string_among := cl_is_string_among (P := P) (w := w) (base := base) t.is_string_among b
  have c_is_way := cl_is_way (P := P) (w := w) (base := base) (k := 2) t.is_way b c (Cl.up c_is_integer_among) (Cl.up c_is_string_among)
  have c_check_way := cl_check_way (P := P) (w := w) (base := base) (k := 3) t.check_way (Cl.up c_is_way)
  have c_is_text := cl_is_text (P := P) (w := w) (base := base) t.is_text b c
  have c_is_word := cl_is_word (P := P) (w := w) (base := base) (k := 1) t.is_word b c (Cl.up c_is_text)
  have c_is_list := cl_is_list (P := P) (w := w) (base := base) (k := 2) t.is_list b c (Cl.up c_is_word)
  have c_check_list := cl_check_list (P := P) (w := w) (base := base) (k := 3) t.check_list (Cl.up c_is_list)
  have c_check_sight := cl_check_sight (P := P) (w := w) (base := base) (k := 2) t.check_sight c (Cl.up c_is_integer_among)
  have c_first_state := cl_first_state (P := P) (w := w) (base := base) t.first_state b
  have c_fitting_words := cl_fitting_words (P := P) (w := w) (base := base) t.fitting_words b
  have c_common_beginning := cl_common_beginning (P := P) (w := w) (base := base) t.common_beginning b
  have c_chosen_of := cl_chosen_of (P := P) (w := w) (base := base) (k := 1) t.chosen_of b (Cl.up c_common_beginning)
  have c_open_offer := cl_open_offer (P := P) (w := w) (base := base) (k := 2) t.open_offer b (Cl.up c_fitting_words) (Cl.up c_chosen_of)
  have c_offer_of := cl_offer_of (P := P) (w := w) (base := base) (k := 3) t.offer_of (Cl.up c_open_offer)
  have c_press_letter := cl_press_letter (P := P) (w := w) (base := base) t.press_letter b c
  have c_word_behind := cl_word_behind (P := P) (w := w) (base := base) t.word_behind
  have c_with_first := cl_with_first (P := P) (w := w) (base := base) t.with_first
  have c_press_tab := cl_press_tab (P := P) (w := w) (base := base) (k := 1) t.press_tab (Cl.up c_fitting_words) (Cl.up c_word_behind)
  have c_press_putting := cl_press_putting (P := P) (w := w) (base := base) (k := 1) t.press_putting (Cl.up c_with_first)
  have c_press_back := cl_press_back (P := P) (w := w) (base := base) t.press_back
  have c_press := cl_press (P := P) (w := w) (base := base) (k := 4) t.press c (Cl.up c_press_letter) (Cl.up c_offer_of) (Cl.up c_press_tab) (Cl.up c_press_back) (Cl.up c_press_putting)
  have c_walk := cl_walk (P := P) (w := w) (base := base) (k := 5) t.walk (Cl.up c_press)
  have c_view_of := cl_view_of (P := P) (w := w) (base := base) (k := 4) t.view_of (Cl.up c_offer_of)
  have c_views_of := cl_views_of (P := P) (w := w) (base := base) (k := 6) t.views_of (Cl.up c_check_way) (Cl.up c_check_list) (Cl.up c_check_sight) (Cl.up c_check_row) (Cl.up c_walk) (Cl.up c_first_state) (Cl.up c_view_of)
  have c__law_draw := cl__law_draw (P := P) (w := w) (base := base) t._law_draw b
  have c__law_start_state := cl__law_start_state (P := P) (w := w) (base := base) t._law_start_state b
  have c__law_fit := cl__law_fit (P := P) (w := w) (base := base) t._law_fit b
  have c__law_offer := cl__law_offer (P := P) (w := w) (base := base) (k := 1) t._law_offer b (Cl.up c__law_fit)
  have c__law_tab := cl__law_tab (P := P) (w := w) (base := base) (k := 2) t._law_tab (Cl.up c__law_offer) (Cl.up c__law_fit) (by decide)
  have c__law_step := cl__law_step (P := P) (w := w) (base := base) (k := 3) (k2 := 2) t._law_step b (Cl.up c__law_tab) (Cl.up c__law_offer) (by decide)
  have c__law_states := cl__law_states (P := P) (w := w) (base := base) (k := 4) t._law_states (Cl.up c__law_step) (Cl.up c__law_start_state) (by decide)
  have c__law_view := cl__law_view (P := P) (w := w) (base := base) (k := 2) t._law_view (Cl.up c__law_offer)
  have c__law_start := cl__law_start (P := P) (w := w) (base := base) t._law_start b
  have c__law_pick := cl__law_pick (P := P) (w := w) (base := base) (k := 1) t._law_pick b (Cl.up c__law_draw)
  have c__law_way := cl__law_way (P := P) (w := w) (base := base) (k := 2) (k2 := 1) t._law_way (Cl.up c__law_pick) (Cl.up c__law_draw) (by decide)
  have c__law_texts := cl__law_texts (P := P) (w := w) (base := base) t._law_texts b
  have c__law_list := cl__law_list (P := P) (w := w) (base := base) (k := 2) (k2 := 1) t._law_list b (Cl.up c__law_pick) (Cl.up c__law_draw) (Cl.up c__law_texts) (by decide)
  have c__law_row := cl__law_row (P := P) (w := w) (base := base) (k := 2) (k2 := 1) t._law_row b (Cl.up c__law_pick) (Cl.up c__law_draw) (by decide)
  have c_is_family := cl_is_family (P := P) (w := w) (base := base) (k := 3) t.is_family b c (Cl.up c_is_way)
  have c_check_family := cl_check_family (P := P) (w := w) (base := base) (k := 4) t.check_family (Cl.up c_is_family)
  have c_check_field := cl_check_field (P := P) (w := w) (base := base) (k := 4) t.check_field (Cl.up c_check_way) (Cl.up c_check_list) (Cl.up c_check_sight)
  have c_check_several := cl_check_several (P := P) (w := w) (base := base) (k := 5) t.check_several (Cl.up c_check_family) (Cl.up c_check_list) (Cl.up c_check_sight)
  have c_is_view := cl_is_view (P := P) (w := w) (base := base) (k := 1) t.is_view b (Cl.up c_is_text)
  have c_is_view_row := cl_is_view_row (P := P) (w := w) (base := base) (k := 2) t.is_view_row b c (Cl.up c_is_view)
  have c_is_record := cl_is_record (P := P) (w := w) (base := base) (k := 3) t.is_record b (Cl.up c_is_row) (Cl.up c_is_view_row)
  have c_check_record := cl_check_record (P := P) (w := w) (base := base) (k := 4) t.check_record (Cl.up c_is_record)
  have c_check_records := cl_check_records (P := P) (w := w) (base := base) (k := 5) t.check_records b c (Cl.up c_check_record)
  have c_bar_of := cl_bar_of (P := P) (w := w) (base := base) (k := 6) t.bar_of b2 (Cl.up c_walk) (Cl.up c_first_state) (Cl.up c_view_of)
  have c_first_record_bar := cl_first_record_bar (P := P) (w := w) (base := base) (k := 7) t.first_record_bar b2 (Cl.up c_bar_of)
  have c_first_bar := cl_first_bar (P := P) (w := w) (base := base) (k := 7) t.first_bar (Cl.up c_check_field) (Cl.up c_check_record) (Cl.up c_bar_of)
  have c_made := cl_made (P := P) (w := w) (base := base) (k := 8) t.made (Cl.up c_first_bar)
  have c_bars := cl_bars (P := P) (w := w) (base := base) (k := 8) t.bars (Cl.up c_check_several) (Cl.up c_check_records) (Cl.up c_first_record_bar)
  have c_remains := cl_remains (P := P) (w := w) (base := base) (k := 9) t.remains b2 (Cl.up c_bars)
  have c__law_true := cl__law_true (P := P) (w := w) (base := base) t._law_true b
  have c__law_views := cl__law_views (P := P) (w := w) (base := base) (k := 5) t._law_views (Cl.up c__law_states) (Cl.up c__law_view)
  have c__law_groups := cl__law_groups (P := P) (w := w) (base := base) t._law_groups b
  have c_groups := cl_groups (P := P) (w := w) (base := base) (k := 7) t.groups b b2 (Cl.up c_check_several) (Cl.up c_check_row) (Cl.up c_views_of)
  have c__law_clean := cl__law_clean (P := P) (w := w) (base := base) (k := 10) t._law_clean (Cl.up c__law_row) (Cl.up c_views_of) (Cl.up c_remains) (Cl.up c_first_bar) (Cl.up c_groups) (Cl.up c__law_groups) (Cl.up c__law_views)
  exact ok_law F b b2 (k := 11) ⟨Cl.up c__law_start, Cl.up c__law_draw, Cl.up c__law_list, Cl.up c__law_way, Cl.up c__law_row, Cl.up c__law_views, Cl.up c__law_pick, Cl.up c_first_bar, Cl.up c__law_true, Cl.up c_made, Cl.up c_bars, Cl.up c_remains, Cl.up c__law_clean⟩
end
section
variable {w : World} {K : PySem.W.Frag} {mg : Str → Option Value} {h : Heap}
def unS : Value → Option Str
  | .str x _ => some x
  | _ => none
def unI : Value → Option Int
  | .int x _ => some x
  | _ => none
theorem vals_strs : ∀ {its : List Value} {xs : List Str}, its.map unS = xs.map some → Vals (xs.map V.str) its
  | [], [], _ => .nil
  | [], _ :: _, h => by cases h
  | _ :: _, [], h => by cases h
  | v :: its, x :: xs, h => by
    have h1 : unS v = some x := (List.cons.inj h).1
    have h2 := (List.cons.inj h).2
    refine .cons ?_ (vals_strs h2)
    cases v <;> cases h1
    exact ⟨_, rfl⟩
theorem vals_ints : ∀ {its : List Value} {xs : List Int}, its.map unI = xs.map some → Vals (xs.map V.int) its
  | [], [], _ => .nil
  | [], _ :: _, h => by cases h
  | _ :: _, [], h => by cases h
  | v :: its, x :: xs, h => by
    have h1 : unI v = some x := (List.cons.inj h).1
    have h2 := (List.cons.inj h).2
    refine .cons ?_ (vals_ints h2)
    cases v <;> cases h1
    exact ⟨_, rfl⟩
theorem ra_ints {G : Hp} : ∀ xs : List Int, RA K G (xs.map V.int) (xs.map PyData.int)
  | [] => .nil
  | x :: xs => .cons (.int x) (ra_ints xs)
theorem gt_strs {x : Str} (X : K.In h) (G : h.Ns mainGlobals mg) (xs : List Str) {a : Addr} {od : Option Addr} {its : Array Value} {n : Nat} {sl : Array (Option Value)} (a1 : PySem.W.nsIn K mainGlobals x = some (some (.ref a))) (l : K.lookup a = some ⟨.type "tuple", od, .seq its n, sl⟩) (hv : its.toList.map unS = xs.map some) (hz : its.size ≤ sizeLine) : GT K mg x (xs.map .str) :=
  gt_mk (PySem.W.mg_of X G a1) l rfl rfl hz (vals_strs hv) fun _ => RA.ofStrs xs
theorem gt_ints {x : Str} (X : K.In h) (G : h.Ns mainGlobals mg) (xs : List Int) {a : Addr} {od : Option Addr} {its : Array Value} {n : Nat} {sl : Array (Option Value)} (a1 : PySem.W.nsIn K mainGlobals x = some (some (.ref a))) (l : K.lookup a = some ⟨.type "tuple", od, .seq its n, sl⟩) (hv : its.toList.map unI = xs.map some) (hz : its.size ≤ sizeLine) : GT K mg x (xs.map .int) :=
  gt_mk (PySem.W.mg_of X G a1) l rfl rfl hz (vals_ints hv) fun _ => ra_ints xs
theorem gi_mk {x : Str} {i : Int} {t : Tok} (X : K.In h) (G : h.Ns mainGlobals mg) (a1 : PySem.W.nsIn K mainGlobals x = some (some (.int i t))) : ∃ t, mg x = some (.int i t) := ⟨t, PySem.W.mg_of X G a1⟩
theorem all_mk {l : PySem.W.OpenLaw} {fa : Addr} (X : K.In h) (G : h.Ns mainGlobals mg) (hfa : mg "law" = some (.ref fa)) (t : Fs K mg) (b : Bi mg) (c : Cn K mg) (b2 : Bi2 mg) {f2 : Addr} {od an : Option Addr} {sl : Array (Option Value)} {oc kV dc pm cd ct : Value}
    (a2 : PySem.W.nsIn K mainGlobals "law" = some (some (.ref f2))) (l2 : K.lookup f2 = some ⟨oc, od, .func (PySem.W.fnOf "law" "law" (defArgs s_law) (defBody s_law) (defScope s_law) .none kV dc pm an cd ct), sl⟩) (c2 : PySem.W.codeIn K cd "law" = true) (k2 : PySem.W.keepIn K (.ref f2) = true) :
    ∃ fd : FuncData, (∀ (s : Shared) (v : Value), BindsTo s fd ⟨[v], []⟩ [("_law_script", v)]) ∧ ∀ base : Heap, K.In base → base.Ns mainGlobals mg → FnOk l.prog w K mg base CX0 12 fa fd ["_law_script"] (spLaw K) := by
  have e := hfa.symm.trans (PySem.W.mg_of X G a2)
  cases e
  have F2 := fun_mk (st := s_law) l2 c2 k2
  exact ⟨_, fun s v => .of_eq rfl, fun base _ _ => law_all F2 t b c b2⟩
end

end Fo

open PySem PySem.W PyProof.Rows
set_option maxHeartbeats 0 in
theorem PySem.Challenge.cw_fieldoffers_k03_whole_records_holds : PySem.Challenge.rw_fieldoffers_k03_whole_records.Holds := by
  w_on; o_law; k_head; (case hw => w_witness2)
  k_fill
  refine L2.walk_of (l := PySem.Challenge.rw_fieldoffers_k03_whole_records) (n := 63) (k := 12) (x := "_law_script") (CX := fun _ => L2.CX0) (sp := fun w => Fo.spLaw _) rfl (by decide) rfl ⟨rfl, by decide, by decide⟩ (fun w h Y => PySem.W.kIn_of Y) ?F (fun _ _ a ns hl _ hS => ⟨a, ns, rfl, hS, hl, fun _ => rfl⟩) (fun _ _ _ _ _ h => h)
  case F =>
    intro w mg fa h KX G hmg
    refine' Fo.all_mk KX G hmg ?t ?b ?c ?zbb ?a ?l ?cd ?k
    (case a => k_is); (case l => k_is); (case cd => k_is); (case k => k_is)
    case t =>
      constructor
      · refine' Fo.ft_mk KX G ?a ?l ?cd ?k (fun _ _ _ _ _ _ us hl => match us, hl with | [_], _ => rfl)
        (case a => k_is); (case l => k_is); (case cd => k_is); (case k => k_is)
      · refine' Fo.ft_mk KX G ?a ?l ?cd ?k (fun _ _ _ _ _ _ us hl => match us, hl with | [_], _ => rfl)
        (case a => k_is); (case l => k_is); (case cd => k_is); (case k => k_is)
      · refine' Fo.ft_mk KX G ?a ?l ?cd ?k (fun _ _ _ _ _ _ us hl => match us, hl with | [_], _ => rfl)
        (case a => k_is); (case l => k_is); (case cd => k_is); (case k => k_is)
      · refine' Fo.ft_mk KX G ?a ?l ?cd ?k (fun _ _ _ _ _ _ us hl => match us, hl with | [_], _ => rfl)
        (case a => k_is); (case l => k_is); (case cd => k_is); (case k => k_is)
      · refine' Fo.ft_mk KX G ?a ?l ?cd ?k (fun _ _ _ _ _ _ us hl => match us, hl with | [_, _], _ => rfl)
        (case a => k_is); (case l => k_is); (case cd => k_is); (case k => k_is)
      · refine' Fo.ft_mk KX G ?a ?l ?cd ?k (fun _ _ _ _ _ _ us hl => match us, hl with | [_, _], _ => rfl)
        (case a => k_is); (case l => k_is); (case cd => k_is); (case k => k_is)
      · refine' Fo.ft_mk KX G ?a ?l ?cd ?k (fun _ _ _ _ _ _ us hl => match us, hl with | [_], _ => rfl)
        (case a => k_is); (case l => k_is); (case cd => k_is); (case k => k_is)
      · refine' Fo.ft_mk KX G ?a ?l ?cd ?k (fun _ _ _ _ _ _ us hl => match us, hl with | [_], _ => rfl)
        (case a => k_is); (case l => k_is); (case cd => k_is); (case k => k_is)
      · refine' Fo.ft_mk KX G ?a ?l ?cd ?k (fun _ _ _ _ _ _ us hl => match us, hl with | [_], _ => rfl)
        (case a => k_is); (case l => k_is); (case cd => k_is); (case k => k_is)
      · refine' Fo.ft_mk KX G ?a ?l ?cd ?k (fun _ _ _ _ _ _ us hl => match us, hl with | [_], _ => rfl)
        (case a => k_is); (case l => k_is); (case cd => k_is); (case k => k_is)
      · refine' Fo.ft_mk KX G ?a ?l ?cd ?k (fun _ _ _ _ _ _ us hl => match us, hl with | [_], _ => rfl)
        (case a => k_is); (case l => k_is); (case cd => k_is); (case k => k_is)
      · refine' Fo.ft_mk KX G ?a ?l ?cd ?k (fun _ _ _ _ _ _ us hl => match us, hl with | [_], _ => rfl)
        (case a => k_is); (case l => k_is); (case cd => k_is); (case k => k_is)
      · refine' Fo.ft_mk KX G ?a ?l ?cd ?k (fun _ _ _ _ _ _ us hl => match us, hl with | [_], _ => rfl)
        (case a => k_is); (case l => k_is); (case cd => k_is); (case k => k_is)
      · refine' Fo.ft_mk KX G ?a ?l ?cd ?k (fun _ _ _ _ _ _ us hl => match us, hl with | [_], _ => rfl)
        (case a => k_is); (case l => k_is); (case cd => k_is); (case k => k_is)
      · refine' Fo.ft_mk KX G ?a ?l ?cd ?k (fun _ _ _ _ _ _ us hl => match us, hl with | [_, _], _ => rfl)
        (case a => k_is); (case l => k_is); (case cd => k_is); (case k => k_is)
      · refine' Fo.ft_mk KX G ?a ?l ?cd ?k (fun _ _ _ _ _ _ us hl => match us, hl with | [_], _ => rfl)
        (case a => k_is); (case l => k_is); (case cd => k_is); (case k => k_is)
      · refine' Fo.ft_mk KX G ?a ?l ?cd ?k (fun _ _ _ _ _ _ us hl => match us, hl with | [_, _], _ => rfl)
        (case a => k_is); (case l => k_is); (case cd => k_is); (case k => k_is)
      · refine' Fo.ft_mk KX G ?a ?l ?cd ?k (fun _ _ _ _ _ _ us hl => match us, hl with | [_, _, _], _ => rfl)
        (case a => k_is); (case l => k_is); (case cd => k_is); (case k => k_is)
      · refine' Fo.ft_mk KX G ?a ?l ?cd ?k (fun _ _ _ _ _ _ us hl => match us, hl with | [_, _], _ => rfl)
        (case a => k_is); (case l => k_is); (case cd => k_is); (case k => k_is)
      · refine' Fo.ft_mk KX G ?a ?l ?cd ?k (fun _ _ _ _ _ _ us hl => match us, hl with | [_, _], _ => rfl)
        (case a => k_is); (case l => k_is); (case cd => k_is); (case k => k_is)
      · refine' Fo.ft_mk KX G ?a ?l ?cd ?k (fun _ _ _ _ _ _ us hl => match us, hl with | [_, _], _ => rfl)
        (case a => k_is); (case l => k_is); (case cd => k_is); (case k => k_is)
      · refine' Fo.ft_mk KX G ?a ?l ?cd ?k (fun _ _ _ _ _ _ us hl => match us, hl with | [_, _], _ => rfl)
        (case a => k_is); (case l => k_is); (case cd => k_is); (case k => k_is)
      · refine' Fo.ft_mk KX G ?a ?l ?cd ?k (fun _ _ _ _ _ _ us hl => match us, hl with | [_, _, _], _ => rfl)
        (case a => k_is); (case l => k_is); (case cd => k_is); (case k => k_is)
      · refine' Fo.ft_mk KX G ?a ?l ?cd ?k (fun _ _ _ _ _ _ us hl => match us, hl with | [_, _, _, _], _ => rfl)
        (case a => k_is); (case l => k_is); (case cd => k_is); (case k => k_is)
      · refine' Fo.ft_mk KX G ?a ?l ?cd ?k (fun _ _ _ _ _ _ us hl => match us, hl with | [_, _, _], _ => rfl)
        (case a => k_is); (case l => k_is); (case cd => k_is); (case k => k_is)
      · refine' Fo.ft_mk KX G ?a ?l ?cd ?k (fun _ _ _ _ _ _ us hl => match us, hl with | [_, _, _], _ => rfl)
        (case a => k_is); (case l => k_is); (case cd => k_is); (case k => k_is)
      · refine' Fo.ft_mk KX G ?a ?l ?cd ?k (fun _ _ _ _ _ _ us hl => match us, hl with | [_, _, _], _ => rfl)
        (case a => k_is); (case l => k_is); (case cd => k_is); (case k => k_is)
      · refine' Fo.ft_mk KX G ?a ?l ?cd ?k (fun _ _ _ _ _ _ us hl => match us, hl with | [_, _, _], _ => rfl)
        (case a => k_is); (case l => k_is); (case cd => k_is); (case k => k_is)
      · refine' Fo.ft_mk KX G ?a ?l ?cd ?k (fun _ _ _ _ _ _ us hl => match us, hl with | [_, _, _, _], _ => rfl)
        (case a => k_is); (case l => k_is); (case cd => k_is); (case k => k_is)
      · refine' Fo.ft_mk KX G ?a ?l ?cd ?k (fun _ _ _ _ _ _ us hl => match us, hl with | [_, _], _ => rfl)
        (case a => k_is); (case l => k_is); (case cd => k_is); (case k => k_is)
      · refine' Fo.ft_mk KX G ?a ?l ?cd ?k (fun _ _ _ _ _ _ us hl => match us, hl with | [_], _ => rfl)
        (case a => k_is); (case l => k_is); (case cd => k_is); (case k => k_is)
      · refine' Fo.ft_mk KX G ?a ?l ?cd ?k (fun _ _ _ _ _ _ us hl => match us, hl with | [_, _], _ => rfl)
        (case a => k_is); (case l => k_is); (case cd => k_is); (case k => k_is)
      · refine' Fo.ft_mk KX G ?a ?l ?cd ?k (fun _ _ _ _ _ _ us hl => match us, hl with | [_, _], _ => rfl)
        (case a => k_is); (case l => k_is); (case cd => k_is); (case k => k_is)
      · refine' Fo.ft_mk KX G ?a ?l ?cd ?k (fun _ _ _ _ _ _ us hl => match us, hl with | [_, _], _ => rfl)
        (case a => k_is); (case l => k_is); (case cd => k_is); (case k => k_is)
      · refine' Fo.ft_mk KX G ?a ?l ?cd ?k (fun _ _ _ _ _ _ us hl => match us, hl with | [_, _, _], _ => rfl)
        (case a => k_is); (case l => k_is); (case cd => k_is); (case k => k_is)
      · refine' Fo.ft_mk KX G ?a ?l ?cd ?k (fun _ _ _ _ _ _ us hl => match us, hl with | [_, _, _], _ => rfl)
        (case a => k_is); (case l => k_is); (case cd => k_is); (case k => k_is)
      · refine' Fo.ft_mk KX G ?a ?l ?cd ?k (fun _ _ _ _ _ _ us hl => match us, hl with | [_, _, _], _ => rfl)
        (case a => k_is); (case l => k_is); (case cd => k_is); (case k => k_is)
      · refine' Fo.ft_mk KX G ?a ?l ?cd ?k (fun _ _ _ _ _ _ us hl => match us, hl with | [_], _ => rfl)
        (case a => k_is); (case l => k_is); (case cd => k_is); (case k => k_is)
      · refine' Fo.ft_mk KX G ?a ?l ?cd ?k (fun _ _ _ _ _ _ us hl => match us, hl with | [_, _], _ => rfl)
        (case a => k_is); (case l => k_is); (case cd => k_is); (case k => k_is)
      · refine' Fo.ft_mk KX G ?a ?l ?cd ?k (fun _ _ _ _ _ _ us hl => match us, hl with | [_], _ => rfl)
        (case a => k_is); (case l => k_is); (case cd => k_is); (case k => k_is)
      · refine' Fo.ft_mk KX G ?a ?l ?cd ?k (fun _ _ _ _ _ _ us hl => match us, hl with | [_], _ => rfl)
        (case a => k_is); (case l => k_is); (case cd => k_is); (case k => k_is)
      · refine' Fo.ft_mk KX G ?a ?l ?cd ?k (fun _ _ _ _ _ _ us hl => match us, hl with | [_, _], _ => rfl)
        (case a => k_is); (case l => k_is); (case cd => k_is); (case k => k_is)
      · refine' Fo.ft_mk KX G ?a ?l ?cd ?k (fun _ _ _ _ _ _ us hl => match us, hl with | [_, _], _ => rfl)
        (case a => k_is); (case l => k_is); (case cd => k_is); (case k => k_is)
      · refine' Fo.ft_mk KX G ?a ?l ?cd ?k (fun _ _ _ _ _ _ us hl => match us, hl with | [_], _ => rfl)
        (case a => k_is); (case l => k_is); (case cd => k_is); (case k => k_is)
      · refine' Fo.ft_mk KX G ?a ?l ?cd ?k (fun _ _ _ _ _ _ us hl => match us, hl with | [_], _ => rfl)
        (case a => k_is); (case l => k_is); (case cd => k_is); (case k => k_is)
      · refine' Fo.ft_mk KX G ?a ?l ?cd ?k (fun _ _ _ _ _ _ us hl => match us, hl with | [_, _, _], _ => rfl)
        (case a => k_is); (case l => k_is); (case cd => k_is); (case k => k_is)
      · refine' Fo.ft_mk KX G ?a ?l ?cd ?k (fun _ _ _ _ _ _ us hl => match us, hl with | [_, _, _], _ => rfl)
        (case a => k_is); (case l => k_is); (case cd => k_is); (case k => k_is)
      · refine' Fo.ft_mk KX G ?a ?l ?cd ?k (fun _ _ _ _ _ _ us hl => match us, hl with | [_, _], _ => rfl)
        (case a => k_is); (case l => k_is); (case cd => k_is); (case k => k_is)
      · refine' Fo.ft_mk KX G ?a ?l ?cd ?k (fun _ _ _ _ _ _ us hl => match us, hl with | [_, _], _ => rfl)
        (case a => k_is); (case l => k_is); (case cd => k_is); (case k => k_is)
      · refine' Fo.ft_mk KX G ?a ?l ?cd ?k (fun _ _ _ _ _ _ us hl => match us, hl with | [_, _], _ => rfl)
        (case a => k_is); (case l => k_is); (case cd => k_is); (case k => k_is)
      · refine' Fo.ft_mk KX G ?a ?l ?cd ?k (fun _ _ _ _ _ _ us hl => match us, hl with | [_, _], _ => rfl)
        (case a => k_is); (case l => k_is); (case cd => k_is); (case k => k_is)
      · refine' Fo.ft_mk KX G ?a ?l ?cd ?k (fun _ _ _ _ _ _ us hl => match us, hl with | [_, _], _ => rfl)
        (case a => k_is); (case l => k_is); (case cd => k_is); (case k => k_is)
      · refine' Fo.ft_mk KX G ?a ?l ?cd ?k (fun _ _ _ _ _ _ us hl => match us, hl with | [_, _, _, _], _ => rfl)
        (case a => k_is); (case l => k_is); (case cd => k_is); (case k => k_is)
      · refine' Fo.ft_mk KX G ?a ?l ?cd ?k (fun _ _ _ _ _ _ us hl => match us, hl with | [_, _, _, _], _ => rfl)
        (case a => k_is); (case l => k_is); (case cd => k_is); (case k => k_is)
      · refine' Fo.ft_mk KX G ?a ?l ?cd ?k (fun _ _ _ _ _ _ us hl => match us, hl with | [_, _, _, _], _ => rfl)
        (case a => k_is); (case l => k_is); (case cd => k_is); (case k => k_is)
      · refine' Fo.ft_mk KX G ?a ?l ?cd ?k (fun _ _ _ _ _ _ us hl => match us, hl with | [_, _, _, _], _ => rfl)
        (case a => k_is); (case l => k_is); (case cd => k_is); (case k => k_is)
      · refine' Fo.ft_mk KX G ?a ?l ?cd ?k (fun _ _ _ _ _ _ us hl => match us, hl with | [_, _, _, _], _ => rfl)
        (case a => k_is); (case l => k_is); (case cd => k_is); (case k => k_is)
      · refine' Fo.ft_mk KX G ?a ?l ?cd ?k (fun _ _ _ _ _ _ us hl => match us, hl with | [_, _, _, _], _ => rfl)
        (case a => k_is); (case l => k_is); (case cd => k_is); (case k => k_is)
      · refine' Fo.ft_mk KX G ?a ?l ?cd ?k (fun _ _ _ _ _ _ us hl => match us, hl with | [_, _], _ => rfl)
        (case a => k_is); (case l => k_is); (case cd => k_is); (case k => k_is)
      · refine' Fo.ft_mk KX G ?a ?l ?cd ?k (fun _ _ _ _ _ _ us hl => match us, hl with | [_, _, _, _], _ => rfl)
        (case a => k_is); (case l => k_is); (case cd => k_is); (case k => k_is)
      · refine' Fo.ft_mk KX G ?a ?l ?cd ?k (fun _ _ _ _ _ _ us hl => match us, hl with | [_], _ => rfl)
        (case a => k_is); (case l => k_is); (case cd => k_is); (case k => k_is)
      · refine' Fo.ft_mk KX G ?a ?l ?cd ?k (fun _ _ _ _ _ _ us hl => match us, hl with | [_, _, _, _], _ => rfl)
        (case a => k_is); (case l => k_is); (case cd => k_is); (case k => k_is)
      · refine' Fo.ft_mk KX G ?a ?l ?cd ?k (fun _ _ _ _ _ _ us hl => match us, hl with | [_, _, _, _, _], _ => rfl)
        (case a => k_is); (case l => k_is); (case cd => k_is); (case k => k_is)
    case b =>
      constructor
      · refine PySem.W.mg_none_of KX G ?_; k_is
      · refine PySem.W.mg_none_of KX G ?_; k_is
      · refine PySem.W.mg_none_of KX G ?_; k_is
      · refine PySem.W.mg_none_of KX G ?_; k_is
      · refine PySem.W.mg_none_of KX G ?_; k_is
      · refine PySem.W.mg_none_of KX G ?_; k_is
      · refine PySem.W.mg_none_of KX G ?_; k_is
      · refine PySem.W.mg_none_of KX G ?_; k_is
      · refine PySem.W.mg_none_of KX G ?_; k_is
      · refine PySem.W.mg_none_of KX G ?_; k_is
      · refine PySem.W.mg_none_of KX G ?_; k_is
      · refine PySem.W.mg_none_of KX G ?_; k_is
    case zbb =>
      constructor
      · refine PySem.W.mg_none_of KX G ?_; k_is
      · refine PySem.W.mg_none_of KX G ?_; k_is
    case c =>
      constructor
      · refine' Fo.gt_strs KX G Fo.keysS ?a ?l ?v ?z
        (case a => k_is); (case l => k_is); (case v => rfl); (case z => decide)
      · refine' Fo.gi_mk KX G ?a
        (case a => k_is)
      · refine' Fo.gt_strs KX G Fo.choS ?a ?l ?v ?z
        (case a => k_is); (case l => k_is); (case v => rfl); (case z => decide)
      · refine' Fo.gt_ints KX G ([1, 2] : List Int) ?a ?l ?v ?z
        (case a => k_is); (case l => k_is); (case v => rfl); (case z => decide)
      · refine' Fo.gt_strs KX G Fo.accS ?a ?l ?v ?z
        (case a => k_is); (case l => k_is); (case v => rfl); (case z => decide)
      · refine' Fo.gt_strs KX G Fo.agaS ?a ?l ?v ?z
        (case a => k_is); (case l => k_is); (case v => rfl); (case z => decide)
      · refine' Fo.gt_strs KX G Fo.bacS ?a ?l ?v ?z
        (case a => k_is); (case l => k_is); (case v => rfl); (case z => decide)
      · refine' Fo.gt_ints KX G ([0, 1] : List Int) ?a ?l ?v ?z
        (case a => k_is); (case l => k_is); (case v => rfl); (case z => decide)
      · refine' Fo.gt_strs KX G Fo.letS ?a ?l ?v ?z
        (case a => k_is); (case l => k_is); (case v => rfl); (case z => decide)
      · refine' Fo.gi_mk KX G ?a
        (case a => k_is)
      · refine' Fo.gi_mk KX G ?a
        (case a => k_is)
      · refine' Fo.gi_mk KX G ?a
        (case a => k_is)
      · refine' Fo.gi_mk KX G ?a
        (case a => k_is)
      · refine' Fo.gi_mk KX G ?a
        (case a => k_is)
      · refine' Fo.gi_mk KX G ?a
        (case a => k_is)
      · refine' Fo.gt_ints KX G ([0, 1] : List Int) ?a ?l ?v ?z
        (case a => k_is); (case l => k_is); (case v => rfl); (case z => decide)
